import PyProof.Rows.All
import Wide.All
import OpenK.AllK
import Wide.FinOn
import HandS.ForMost
import HandS.Defaults
import HandS.Property
import HandS.IsInst
import HandS.Conv
import HandS.Codes
import HandS.MakeKwOnly
import PySem.Challenge.RW_keepbefore_k02_failing_disks
set_option Elab.async false
set_option linter.all false
set_option maxRecDepth 100000
set_option maxHeartbeats 4000000
namespace Kb
open PySem L2
def top (i : Nat) : Stmt := PySem.Challenge.pw_keepbefore_k02_failing_disks.main.body.getD i (.Pass ⟨0, 0, 0, 0⟩)
abbrev s_is_number : Stmt := top 7
theorem sc_is_number : FnScope ["thing"] ["thing"] (defScope s_is_number) := ⟨rfl, rfl, rfl, by decide +kernel, rfl, by decide +kernel, by decide +kernel⟩
abbrev s_is_number_from : Stmt := top 8
theorem sc_is_number_from : FnScope ["thing", "least", "most"] ["thing", "least", "most"] (defScope s_is_number_from) := ⟨rfl, rfl, rfl, by decide +kernel, rfl, by decide +kernel, by decide +kernel⟩
abbrev s_Disk___init__ : Stmt := inClass (top 11) 0
theorem sc_Disk___init__ : FnScope ["self", "cells", "content"] ["self", "cells", "content"] (defScope s_Disk___init__) := ⟨rfl, rfl, rfl, by decide +kernel, rfl, by decide +kernel, by decide +kernel⟩
abbrev s_Disk_write : Stmt := inClass (top 11) 3
theorem sc_Disk_write : FnScope ["self", "cell", "content"] ["self", "cell", "content"] (defScope s_Disk_write) := ⟨rfl, rfl, rfl, by decide +kernel, rfl, by decide +kernel, by decide +kernel⟩
abbrev s_Disk_sync : Stmt := inClass (top 11) 4
theorem sc_Disk_sync : FnScope ["self"] ["self"] (defScope s_Disk_sync) := ⟨rfl, rfl, rfl, by decide +kernel, rfl, by decide +kernel, by decide +kernel⟩
abbrev s_Disk_fail : Stmt := inClass (top 11) 5
theorem sc_Disk_fail : FnScope ["self", "kept", "number", "cell", "content"] ["self", "kept"] (defScope s_Disk_fail) := ⟨rfl, rfl, rfl, by decide +kernel, rfl, by decide +kernel, by decide +kernel⟩
abbrev s_Disk_contents : Stmt := inClass (top 11) 6
theorem sc_Disk_contents : FnScope ["self"] ["self"] (defScope s_Disk_contents) := ⟨rfl, rfl, rfl, by decide +kernel, rfl, by decide +kernel, by decide +kernel⟩
abbrev s_Disk_lasting : Stmt := inClass (top 11) 7
theorem sc_Disk_lasting : FnScope ["self"] ["self"] (defScope s_Disk_lasting) := ⟨rfl, rfl, rfl, by decide +kernel, rfl, by decide +kernel, by decide +kernel⟩
abbrev s_Disk_pending : Stmt := inClass (top 11) 8
theorem sc_Disk_pending : FnScope ["self"] ["self"] (defScope s_Disk_pending) := ⟨rfl, rfl, rfl, by decide +kernel, rfl, by decide +kernel, by decide +kernel⟩
abbrev s_Disk_counts : Stmt := inClass (top 11) 9
theorem sc_Disk_counts : FnScope ["self"] ["self"] (defScope s_Disk_counts) := ⟨rfl, rfl, rfl, by decide +kernel, rfl, by decide +kernel, by decide +kernel⟩
abbrev s_Disk__check_cell : Stmt := inClass (top 11) 10
theorem sc_Disk__check_cell : FnScope ["self", "cell"] ["self", "cell"] (defScope s_Disk__check_cell) := ⟨rfl, rfl, rfl, by decide +kernel, rfl, by decide +kernel, by decide +kernel⟩
abbrev s_are_kept : Stmt := top 12
theorem sc_are_kept : FnScope ["kept", "many", "least", "number"] ["kept", "many"] (defScope s_are_kept) := ⟨rfl, rfl, rfl, by decide +kernel, rfl, by decide +kernel, by decide +kernel⟩
abbrev s__law_random : Stmt := top 14
theorem sc__law_random : FnScope ["_law_script", "_law_salt", "_law_seed", "_law_cell"] ["_law_script", "_law_salt"] (defScope s__law_random) := ⟨rfl, rfl, rfl, by decide +kernel, rfl, by decide +kernel, by decide +kernel⟩
abbrev s__law_below : Stmt := top 15
theorem sc__law_below : FnScope ["_law_d", "_law_limit", "_law_result"] ["_law_d", "_law_limit"] (defScope s__law_below) := ⟨rfl, rfl, rfl, by decide +kernel, rfl, by decide +kernel, by decide +kernel⟩
abbrev s__law_disk : Stmt := top 16
theorem sc__law_disk : FnScope ["_law_cells", "_law_what"] ["_law_cells", "_law_what"] (defScope s__law_disk) := ⟨rfl, rfl, rfl, by decide +kernel, rfl, by decide +kernel, by decide +kernel⟩
abbrev s__law_put : Stmt := top 17
theorem sc__law_put : FnScope ["_law_disk_here", "_law_cell", "_law_what"] ["_law_disk_here", "_law_cell", "_law_what"] (defScope s__law_put) := ⟨rfl, rfl, rfl, by decide +kernel, rfl, by decide +kernel, by decide +kernel⟩
abbrev s__law_sync : Stmt := top 18
theorem sc__law_sync : FnScope ["_law_disk_here"] ["_law_disk_here"] (defScope s__law_sync) := ⟨rfl, rfl, rfl, by decide +kernel, rfl, by decide +kernel, by decide +kernel⟩
abbrev s__law_kept : Stmt := top 19
theorem sc__law_kept : FnScope ["_law_d", "_law_many", "_law_number"] ["_law_d", "_law_many"] (defScope s__law_kept) := ⟨rfl, rfl, rfl, by decide +kernel, rfl, by decide +kernel, by decide +kernel⟩
abbrev s__law_fail : Stmt := top 20
theorem sc__law_fail : FnScope ["_law_disk_here", "_law_kept_here", "_law_number", "_law_cell", "_law_what"] ["_law_disk_here", "_law_kept_here"] (defScope s__law_fail) := ⟨rfl, rfl, rfl, by decide +kernel, rfl, by decide +kernel, by decide +kernel⟩
abbrev s__law_equal : Stmt := top 21
theorem sc__law_equal : FnScope ["_law_actual", "_law_expected", "_law_k"] ["_law_actual", "_law_expected"] (defScope s__law_equal) := ⟨rfl, rfl, rfl, by decide +kernel, rfl, by decide +kernel, by decide +kernel⟩
abbrev s_law : Stmt := top 22
theorem sc_law : FnScope ["_law_script", "_law_d", "_law_step", "_law_cells", "_law_disk_here", "_law_due", "_law_turn", "_law_k", "_law_cell", "_law_what", "_law_kept_here", "_law_found"] ["_law_script"] (defScope s_law) := ⟨rfl, rfl, rfl, by decide +kernel, rfl, by decide +kernel, by decide +kernel⟩
structure Gx (K : PySem.W.Frag) (mg : Str → Option Value) where
  C_Disk : Addr
  cl_Disk : Cls K C_Disk
  gC_Disk : mg "Disk" = some (.ref C_Disk)
  n_Disk__contents : NoAttr K C_Disk "_contents"
  n_Disk__lasting : NoAttr K C_Disk "_lasting"
  n_Disk__pending : NoAttr K C_Disk "_pending"
  n_Disk__reads : NoAttr K C_Disk "_reads"
  n_Disk__writes : NoAttr K C_Disk "_writes"
  n_Disk__syncs : NoAttr K C_Disk "_syncs"
  f_is_number : Addr
  fd_is_number : FuncData
  F_is_number : Fun K "is_number" "is_number" s_is_number f_is_number fd_is_number
  g_is_number : mg "is_number" = some (.ref f_is_number)
  f_is_number_from : Addr
  fd_is_number_from : FuncData
  F_is_number_from : Fun K "is_number_from" "is_number_from" s_is_number_from f_is_number_from fd_is_number_from
  g_is_number_from : mg "is_number_from" = some (.ref f_is_number_from)
  f_Disk___init__ : Addr
  fd_Disk___init__ : FuncData
  F_Disk___init__ : FunD K "__init__" "Disk.__init__" (defArgs s_Disk___init__) (defBody s_Disk___init__) (defScope s_Disk___init__) [] [("content", .int 0)] f_Disk___init__ fd_Disk___init__
  M_Disk___init__ : Mk K C_Disk f_Disk___init__
  f_Disk_write : Addr
  fd_Disk_write : FuncData
  F_Disk_write : Fun K "write" "Disk.write" s_Disk_write f_Disk_write fd_Disk_write
  m_Disk_write : Meth K C_Disk "write" f_Disk_write
  f_Disk_sync : Addr
  fd_Disk_sync : FuncData
  F_Disk_sync : Fun K "sync" "Disk.sync" s_Disk_sync f_Disk_sync fd_Disk_sync
  m_Disk_sync : Meth K C_Disk "sync" f_Disk_sync
  f_Disk_fail : Addr
  fd_Disk_fail : FuncData
  F_Disk_fail : Fun K "fail" "Disk.fail" s_Disk_fail f_Disk_fail fd_Disk_fail
  m_Disk_fail : Meth K C_Disk "fail" f_Disk_fail
  f_Disk_contents : Addr
  fd_Disk_contents : FuncData
  F_Disk_contents : Fun K "contents" "Disk.contents" s_Disk_contents f_Disk_contents fd_Disk_contents
  p_Disk_contents : Addr
  P_Disk_contents : PropOf K C_Disk "contents" p_Disk_contents f_Disk_contents
  f_Disk_lasting : Addr
  fd_Disk_lasting : FuncData
  F_Disk_lasting : Fun K "lasting" "Disk.lasting" s_Disk_lasting f_Disk_lasting fd_Disk_lasting
  p_Disk_lasting : Addr
  P_Disk_lasting : PropOf K C_Disk "lasting" p_Disk_lasting f_Disk_lasting
  f_Disk_pending : Addr
  fd_Disk_pending : FuncData
  F_Disk_pending : Fun K "pending" "Disk.pending" s_Disk_pending f_Disk_pending fd_Disk_pending
  p_Disk_pending : Addr
  P_Disk_pending : PropOf K C_Disk "pending" p_Disk_pending f_Disk_pending
  f_Disk_counts : Addr
  fd_Disk_counts : FuncData
  F_Disk_counts : Fun K "counts" "Disk.counts" s_Disk_counts f_Disk_counts fd_Disk_counts
  p_Disk_counts : Addr
  P_Disk_counts : PropOf K C_Disk "counts" p_Disk_counts f_Disk_counts
  f_Disk__check_cell : Addr
  fd_Disk__check_cell : FuncData
  F_Disk__check_cell : Fun K "_check_cell" "Disk._check_cell" s_Disk__check_cell f_Disk__check_cell fd_Disk__check_cell
  m_Disk__check_cell : Meth K C_Disk "_check_cell" f_Disk__check_cell
  f_are_kept : Addr
  fd_are_kept : FuncData
  F_are_kept : Fun K "are_kept" "are_kept" s_are_kept f_are_kept fd_are_kept
  g_are_kept : mg "are_kept" = some (.ref f_are_kept)
  f__law_random : Addr
  fd__law_random : FuncData
  F__law_random : Fun K "_law_random" "_law_random" s__law_random f__law_random fd__law_random
  g__law_random : mg "_law_random" = some (.ref f__law_random)
  f__law_below : Addr
  fd__law_below : FuncData
  F__law_below : Fun K "_law_below" "_law_below" s__law_below f__law_below fd__law_below
  g__law_below : mg "_law_below" = some (.ref f__law_below)
  f__law_disk : Addr
  fd__law_disk : FuncData
  F__law_disk : Fun K "_law_disk" "_law_disk" s__law_disk f__law_disk fd__law_disk
  g__law_disk : mg "_law_disk" = some (.ref f__law_disk)
  f__law_put : Addr
  fd__law_put : FuncData
  F__law_put : Fun K "_law_put" "_law_put" s__law_put f__law_put fd__law_put
  g__law_put : mg "_law_put" = some (.ref f__law_put)
  f__law_sync : Addr
  fd__law_sync : FuncData
  F__law_sync : Fun K "_law_sync" "_law_sync" s__law_sync f__law_sync fd__law_sync
  g__law_sync : mg "_law_sync" = some (.ref f__law_sync)
  f__law_kept : Addr
  fd__law_kept : FuncData
  F__law_kept : Fun K "_law_kept" "_law_kept" s__law_kept f__law_kept fd__law_kept
  g__law_kept : mg "_law_kept" = some (.ref f__law_kept)
  f__law_fail : Addr
  fd__law_fail : FuncData
  F__law_fail : Fun K "_law_fail" "_law_fail" s__law_fail f__law_fail fd__law_fail
  g__law_fail : mg "_law_fail" = some (.ref f__law_fail)
  f__law_equal : Addr
  fd__law_equal : FuncData
  F__law_equal : Fun K "_law_equal" "_law_equal" s__law_equal f__law_equal fd__law_equal
  g__law_equal : mg "_law_equal" = some (.ref f__law_equal)
  z_isinstance : mg "isinstance" = none
  z_int : mg "int" = none
  z_bool : mg "bool" = none
  z_str : mg "str" = none
  z_list : mg "list" = none
  z_tuple : mg "tuple" = none
  z_len : mg "len" = none
  z_abs : mg "abs" = none
  z_range : mg "range" = none
  z_all : mg "all" = none
  t_MOST_CELLS : Tok
  c_MOST_CELLS : mg "MOST_CELLS" = some (.int 64 t_MOST_CELLS)
section
variable {K : PySem.W.Frag} {mg : Str → Option Value}
theorem b_is_number (T : Gx K mg) : Binds K T.fd_is_number ["thing"] [] := T.F_is_number.binds (ps := ["thing"]) fun _ _ _ _ _ _ us hl => match us, hl with | [_], _ => rfl
theorem b_is_number_from (T : Gx K mg) : Binds K T.fd_is_number_from ["thing", "least", "most"] [] := T.F_is_number_from.binds (ps := ["thing", "least", "most"]) fun _ _ _ _ _ _ us hl => match us, hl with | [_, _, _], _ => rfl
theorem b_Disk_write (T : Gx K mg) : Binds K T.fd_Disk_write ["self", "cell", "content"] [] := T.F_Disk_write.binds (ps := ["self", "cell", "content"]) fun _ _ _ _ _ _ us hl => match us, hl with | [_, _, _], _ => rfl
theorem b_Disk_sync (T : Gx K mg) : Binds K T.fd_Disk_sync ["self"] [] := T.F_Disk_sync.binds (ps := ["self"]) fun _ _ _ _ _ _ us hl => match us, hl with | [_], _ => rfl
theorem b_Disk_fail (T : Gx K mg) : Binds K T.fd_Disk_fail ["self", "kept"] [] := T.F_Disk_fail.binds (ps := ["self", "kept"]) fun _ _ _ _ _ _ us hl => match us, hl with | [_, _], _ => rfl
theorem b_Disk_contents (T : Gx K mg) : Binds K T.fd_Disk_contents ["self"] [] := T.F_Disk_contents.binds (ps := ["self"]) fun _ _ _ _ _ _ us hl => match us, hl with | [_], _ => rfl
theorem b_Disk_lasting (T : Gx K mg) : Binds K T.fd_Disk_lasting ["self"] [] := T.F_Disk_lasting.binds (ps := ["self"]) fun _ _ _ _ _ _ us hl => match us, hl with | [_], _ => rfl
theorem b_Disk_pending (T : Gx K mg) : Binds K T.fd_Disk_pending ["self"] [] := T.F_Disk_pending.binds (ps := ["self"]) fun _ _ _ _ _ _ us hl => match us, hl with | [_], _ => rfl
theorem b_Disk_counts (T : Gx K mg) : Binds K T.fd_Disk_counts ["self"] [] := T.F_Disk_counts.binds (ps := ["self"]) fun _ _ _ _ _ _ us hl => match us, hl with | [_], _ => rfl
theorem b_Disk__check_cell (T : Gx K mg) : Binds K T.fd_Disk__check_cell ["self", "cell"] [] := T.F_Disk__check_cell.binds (ps := ["self", "cell"]) fun _ _ _ _ _ _ us hl => match us, hl with | [_, _], _ => rfl
theorem b_are_kept (T : Gx K mg) : Binds K T.fd_are_kept ["kept", "many"] [] := T.F_are_kept.binds (ps := ["kept", "many"]) fun _ _ _ _ _ _ us hl => match us, hl with | [_, _], _ => rfl
theorem b__law_random (T : Gx K mg) : Binds K T.fd__law_random ["_law_script", "_law_salt"] [] := T.F__law_random.binds (ps := ["_law_script", "_law_salt"]) fun _ _ _ _ _ _ us hl => match us, hl with | [_, _], _ => rfl
theorem b__law_below (T : Gx K mg) : Binds K T.fd__law_below ["_law_d", "_law_limit"] [] := T.F__law_below.binds (ps := ["_law_d", "_law_limit"]) fun _ _ _ _ _ _ us hl => match us, hl with | [_, _], _ => rfl
theorem b__law_disk (T : Gx K mg) : Binds K T.fd__law_disk ["_law_cells", "_law_what"] [] := T.F__law_disk.binds (ps := ["_law_cells", "_law_what"]) fun _ _ _ _ _ _ us hl => match us, hl with | [_, _], _ => rfl
theorem b__law_put (T : Gx K mg) : Binds K T.fd__law_put ["_law_disk_here", "_law_cell", "_law_what"] [] := T.F__law_put.binds (ps := ["_law_disk_here", "_law_cell", "_law_what"]) fun _ _ _ _ _ _ us hl => match us, hl with | [_, _, _], _ => rfl
theorem b__law_sync (T : Gx K mg) : Binds K T.fd__law_sync ["_law_disk_here"] [] := T.F__law_sync.binds (ps := ["_law_disk_here"]) fun _ _ _ _ _ _ us hl => match us, hl with | [_], _ => rfl
theorem b__law_kept (T : Gx K mg) : Binds K T.fd__law_kept ["_law_d", "_law_many"] [] := T.F__law_kept.binds (ps := ["_law_d", "_law_many"]) fun _ _ _ _ _ _ us hl => match us, hl with | [_, _], _ => rfl
theorem b__law_fail (T : Gx K mg) : Binds K T.fd__law_fail ["_law_disk_here", "_law_kept_here"] [] := T.F__law_fail.binds (ps := ["_law_disk_here", "_law_kept_here"]) fun _ _ _ _ _ _ us hl => match us, hl with | [_, _], _ => rfl
theorem b__law_equal (T : Gx K mg) : Binds K T.fd__law_equal ["_law_actual", "_law_expected"] [] := T.F__law_equal.binds (ps := ["_law_actual", "_law_expected"]) fun _ _ _ _ _ _ us hl => match us, hl with | [_, _], _ => rfl
end
/-! ### heaps and frames -/
/-- outside S all that was tracked is as it was -/
def Fr (S : List Addr) (H H' : Hp) : Prop := ∀ b o, H b = some o → b ∉ S → H' b = some o
theorem Fr.refl (S : List Addr) (H : Hp) : Fr S H H := fun _ _ h _ => h
theorem Fr.trans {S : List Addr} {H H1 H2 : Hp} (a : Fr S H H1) (b : Fr S H1 H2) : Fr S H H2 := fun c o h n => b c o (a c o h n) n
theorem Fr.mono {S T : List Addr} {H H' : Hp} (a : Fr S H H') (h : ∀ b ∈ S, b ∈ T) : Fr T H H' := fun b o e n => a b o e (fun z => n (h b z))
theorem Fr.put {S : List Addr} {H : Hp} {a : Addr} {o : HO} (h : a ∈ S) : Fr S H (upd H a o) := fun b u e n => by
  rw [upd_ne (fun z => n (by rw [z]; exact h))]
  exact e
theorem Fr.new {S : List Addr} {H : Hp} {p : Addr} {o : HO} (h : H p = none) : Fr S H (upd H p o) := fun b u e _ => by
  rw [upd_ne (ne_of_none e h)]
  exact e
theorem Fr.nil_of {S : List Addr} {H H' : Hp} (a : Fr [] H H') : Fr S H H' := a.mono (fun _ h => by cases h)
theorem Fr.at_ {S : List Addr} {H H' : Hp} {b : Addr} {o : HO} (f : Fr S H H') (e : H b = some o) (n : b ∉ S) : H' b = some o := f b o e n
theorem fresh_out {H : Hp} {b : Addr} {o : HO} {p : Addr} (e : H b = some o) (n : H p = none) : b ≠ p := ne_of_none e n
/-- S and T share nothing -/
def Sep (S T : List Addr) : Prop := ∀ b ∈ S, b ∉ T
theorem Sep.symm {S T : List Addr} (h : Sep S T) : Sep T S := fun b hb hs => h b hs hb
/-- what owns S' came of S or is new, and so is apart from what stood in H -/
theorem Sep.grow {H : Hp} {S S' T : List Addr} (h : Sep S T) (g : ∀ b ∈ S', b ∈ S ∨ H b = none) (t : ∀ b ∈ T, ∃ o, H b = some o) : Sep S' T := fun b hb ht => by
  rcases g b hb with z | z
  · exact h b z ht
  · obtain ⟨o, e⟩ := t b ht
    rw [z] at e
    cases e
theorem vlen {α β : Type} {xs : List α} {f : α → β} : (xs.map f).length = xs.length := List.length_map f
theorem sz_le {n : Nat} (h : n ≤ 100000) : n ≤ sizeLine := Nat.le_trans h (by decide)
theorem sz_lt {n : Nat} (h : n < 100000) : n < sizeLine := Nat.lt_of_lt_of_le h (by decide)
theorem ix_at {n : Nat} (j : Nat) (h : j < n) : ixN n (j : Int) = some j := by
  unfold ixN
  rw [if_pos (Int.natCast_nonneg j), if_pos (by omega)]
  rfl
theorem free_upd {H : Hp} {a p : Addr} {o : HO} (h : upd H a o p = none) : H p = none ∧ p ≠ a := by
  by_cases e : p = a
  · rw [e, upd_same] at h
    cases h
  · rw [upd_ne e] at h
    exact ⟨h, e⟩
theorem int_at {ns : List Int} {i : Nat} {x : V} (h : (ns.map V.int)[i]? = some x) : ∃ u, x = V.int u ∧ ns[i]? = some u := by
  rw [List.getElem?_map] at h
  cases e : ns[i]? with
  | none =>
    rw [e] at h
    cases h
  | some u =>
    rw [e] at h
    exact ⟨u, (Option.some.inj h).symm, rfl⟩
theorem lt_of_at {α : Type} {xs : List α} {i : Nat} {x : α} (h : xs[i]? = some x) : i < xs.length := (List.getElem?_eq_some_iff.mp h).1
theorem Fr.seq {K : PySem.W.Frag} {S : List Addr} {H H' : Hp} {a : Addr} {xs : List V} (f : Fr S H H') (n : a ∉ S) (h : SqL K H a xs) : SqL K H' a xs := by
  rcases h with (h | ⟨o, h⟩) | h
  · exact .inl (.inl (f _ _ h n))
  · exact .inl (.inr ⟨o, f _ _ h n⟩)
  · exact .inr h
theorem Fr.tup {K : PySem.W.Frag} {S : List Addr} {H H' : Hp} {a : Addr} {xs : List V} (f : Fr S H H') (n : a ∉ S) (h : SqT K H a xs) : SqT K H' a xs := by
  rcases h with (h | ⟨o, h⟩) | h
  · exact .inl (.inl (f _ _ h n))
  · exact .inl (.inr ⟨o, f _ _ h n⟩)
  · exact .inr h
/-! ### the law's random list -/
def Rnd (H : Hp) (r : Addr) : Prop := ∃ (a b : Int) (ns : List Int), H r = some (.lst (V.int a :: V.int b :: ns.map V.int))
def spBelow : Sp := fun vs H Q _ => ∃ (r : Addr) (lim : Nat), vs = [.ref r, .int (lim : Int)] ∧ Rnd H r ∧ 0 < lim ∧ lim < 1000000 ∧ ∀ (z : Nat) (H' : Hp), z < lim → Fr [r] H H' → Rnd H' r → Q (.int (z : Int)) H'
theorem Rnd.put {H : Hp} {r : Addr} (a b : Int) (ns : List Int) : Rnd (upd H r (.lst (V.int a :: V.int b :: ns.map V.int))) r := ⟨a, b, ns, upd_same⟩
theorem Rnd.notup {H : Hp} {r : Addr} (h : Rnd H r) : ∀ b ∈ [r], ∀ xs, H b ≠ some (.tup xs) := by
  obtain ⟨a, b, ns, e⟩ := h
  intro b hb xs
  rw [List.mem_singleton.mp hb, e]
  simp
theorem Rnd.keep {H H' : Hp} {r : Addr} {S : List Addr} (h : Rnd H r) (f : Fr S H H') (n : r ∉ S) : Rnd H' r := by
  obtain ⟨a, b, ns, e⟩ := h
  exact ⟨a, b, ns, f _ _ e n⟩
section
variable {P : Program} {w : World} {K : PySem.W.Frag} {mg : Str → Option Value} {base : Heap}
theorem ok_below (T : Gx K mg) : FnOk P w K mg base CX0 1 T.f__law_below T.fd__law_below ["_law_d", "_law_limit"] spBelow := by
  refine T.F__law_below.ok sc__law_below (fun vs H Q E h => ?_) (fun cdv A outer s H vs Q E hr h => ?_)
  · obtain ⟨r, lim, rfl, _⟩ := h
    rfl
  · obtain ⟨r, lin, rfl, hR, h0', h1', k'⟩ := h
    obtain ⟨lim, hlim⟩ : ∃ lim : Int, lim = (lin : Int) := ⟨_, rfl⟩
    have h0 : 0 < lim := by omega
    have h1 : lim < 1000000 := by omega
    have k : ∀ (z : Int) (H' : Hp), 0 ≤ z → z < lim → Fr [r] H H' → Rnd H' r → Q (.int z) H' := fun z H' a b f g => by
      obtain ⟨n, rfl⟩ := Int.eq_ofNat_of_zero_le a
      exact k' n H' (by omega) f g
    rw [← hlim]
    refine ⟨_, C8.pss_cut (ps_if (PW.pt (pw_and (pt_cmpR op_eq (pe_ix ix_list (pv 0) pe_int (fun _ _ => rfl)) pe_int (nomark _))
          (pw_and1 (pt_cmpR op_gt (pe_callB call_len_seq (by rfl) T.z_len PySem.boot_len (pa_cons (pv 0) pa_nil)) pe_int (nomark _)))))
        (pss_one (ps_asg (pe_bm PySem.F.plainAttrs_list PySem.F.slot_list_pop PySem.F.type_list_pop mt_popAt (pv 0) (pa_cons pe_int pa_nil)) (pg_sub (pv 0) pe_int set_list))) pss_nil)
      (pss_cons (ps_if (pt_cmpR op_gt (pe_ix ix_list (pv 0) pe_int (fun _ _ => rfl)) pe_int (nomark _))
        (pss_cons (ps_set (i := 2) sc__law_below.nd rfl (.inl rfl) (pe_op op_mod (pe_callTy call_int1 (by rfl) T.z_int (by decide +kernel) (pa_cons (pe_ix ix_list (pv 0) pe_int (fun _ _ => rfl)) pa_nil)) (pv 1)))
        (pss_cons (ps_asg (pe_op op_fdiv (pe_ix ix_list (pv 0) pe_int (fun _ _ => rfl)) (pv 1)) (pg_sub (pv 0) pe_int set_list))
        (pss_one (ps_ret (pv 2))))) pss_nil)
      (pss_cons (ps_asg (pe_op op_mod (pe_callTy call_int1 (by rfl) T.z_int (by decide +kernel) (pa_cons (pe_op op_add (pe_op op_mul (pe_ix ix_list (pv 0) pe_int (fun _ _ => rfl)) pe_int) pe_int) pa_nil)) pe_int) (pg_sub (pv 0) pe_int set_list))
      (pss_one (ps_ret (pe_op op_mod (pe_callTy call_int1 (by rfl) T.z_int (by decide +kernel) (pa_cons (pe_op op_fdiv (pe_ix ix_list (pv 0) pe_int (fun _ _ => rfl)) pe_int) pa_nil)) (pv 1)))))), ?_⟩
    refine ⟨fun σ H1 => σ = [some (.ref r), some (.int lim), none] ∧ Rnd H1 r ∧ Fr [r] H H1, ?_, ?_⟩
    · obtain ⟨a, b, ns, e⟩ := hR
      have hR0 : Rnd H r := ⟨a, b, ns, e⟩
      refine ⟨_, rfl, r, _, 1, .int b, rfl, rfl, SqL.of e, atI_nat (j := 1) rfl, rfl, _, rfl, ite2 (fun hb => ?_) (fun hb => ?_)⟩
      · refine ⟨_, rfl, r, _, rfl, .inl (SqL.of e), _, _, rfl, rfl, _, rfl, ite2 (fun hl => ?_) (fun hl => ?_)⟩
        · have hl' : (2 : Int) < ((V.int a :: V.int b :: ns.map V.int).length : Int) := of_decide_eq_true hl
          cases ns with
          | nil => exact absurd hl' (by simp)
          | cons c rest =>
            refine ⟨_, rfl, .inl ⟨rfl, _, SqL.of e⟩, r, _, 2, 2, .int c, rfl, rfl, e, by decide, by decide, ?_, rfl, ?_⟩
            · show seqIndex? 2 _ = some 2
              unfold seqIndex?
              rw [List.length_cons, List.length_cons, List.map_cons, List.length_cons]
              simp
              omega
            · refine ⟨_, rfl, r, _, 1, 1, rfl, rfl, upd_same, ?_, rfl, ?_, ?_⟩
              · exact ix_at 1 (by simp [List.length_eraseIdx])
              · rw [upd_upd]
                exact Rnd.put a c rest
              · rw [upd_upd]
                exact Fr.put (List.mem_singleton.mpr rfl)
        · exact ⟨rfl, hR0, Fr.refl _ _⟩
      · exact ⟨rfl, hR0, Fr.refl _ _⟩
    · rintro σ' H1 ⟨rfl, ⟨a, b, ns, e⟩, fr⟩
      refine ⟨_, rfl, r, _, 1, .int b, rfl, rfl, SqL.of e, atI_nat (j := 1) rfl, _, _, rfl, rfl, _, rfl, ite2 (fun hb => ?_) (fun hb => ?_)⟩
      · refine ⟨_, rfl, r, _, 1, .int b, rfl, rfl, SqL.of e, atI_nat (j := 1) rfl, .inl ⟨_, rfl, ?_⟩⟩
        refine ⟨_, rfl, _, _, rfl, rfl, h0, ?_⟩
        refine ⟨_, rfl, r, _, 1, .int b, rfl, rfl, SqL.of e, atI_nat (j := 1) rfl, _, rfl, _, _, rfl, rfl, ⟨h0, by omega⟩, ?_⟩
        refine ⟨_, rfl, r, _, 1, 1, rfl, rfl, e, ix_at 1 (by simp), ?_⟩
        refine ⟨_, rfl, k _ _ (Int.emod_nonneg _ (by omega)) (Int.emod_lt_of_pos _ h0) (fr.trans (Fr.put (List.mem_singleton.mpr rfl))) (Rnd.put a _ ns)⟩
      · refine ⟨_, rfl, r, _, 0, .int a, rfl, rfl, SqL.of e, atI_nat (j := 0) rfl, _, _, rfl, rfl, .inr (by decide), _, _, rfl, rfl, .inl ⟨_, rfl, _, _, rfl, rfl, (by show (0 : Int) < 2147483647; decide), ?_⟩⟩
        refine ⟨_, rfl, r, _, 0, 0, rfl, rfl, e, ix_at 0 (by simp), ?_⟩
        refine ⟨_, rfl, r, _, 0, _, rfl, rfl, SqL.of upd_same, atI_nat (j := 0) rfl, _, _, rfl, rfl, ⟨by decide, by decide⟩, .inl ⟨_, rfl, _, rfl, _, _, rfl, rfl, h0, ?_⟩⟩
        exact k _ _ (Int.emod_nonneg _ (by omega)) (Int.emod_lt_of_pos _ h0) (fr.trans (Fr.put (List.mem_singleton.mpr rfl))) (Rnd.put _ b ns)
end
def spRandom (K : PySem.W.Frag) : Sp := fun vs H Q _ => ∃ (a : Addr) (salt : Int) (ns : List Int), vs = [.ref a, .int salt] ∧ SqL K H a (ns.map V.int) ∧ ns.length ≤ 63 ∧ ∀ (r : Addr) (H' : Hp), H r = none → Fr [] H H' → Rnd H' r → Q (.ref r) H'
section
variable {P : Program} {w : World} {K : PySem.W.Frag} {mg : Str → Option Value} {base : Heap}
theorem ok_random (T : Gx K mg) : FnOk P w K mg base CX0 1 T.f__law_random T.fd__law_random ["_law_script", "_law_salt"] (spRandom K) := by
  refine T.F__law_random.ok sc__law_random (fun vs H Q E h => ?_) (fun cdv A outer s H vs Q E hr h => ?_)
  · obtain ⟨a, salt, ns, rfl, _⟩ := h
    rfl
  · obtain ⟨a, salt, ns, rfl, hS, hlen, k⟩ := h
    refine ⟨_, pss_cons (ps_set (i := 2) sc__law_random.nd rfl (.inl rfl) (pv 1))
      (pss_cons (ps_for PassesOwn.never rfl (pi_list (pv 0)) (pg_name (i := 3) sc__law_random.nd rfl (.inl rfl))
        (pss_one (ps_set (i := 2) sc__law_random.nd rfl (.inl rfl) (pe_op op_mod (pe_callTy call_int1 (by rfl) T.z_int (by decide +kernel) (pa_cons (pe_op op_add (pe_op op_mul (pv 2) pe_int) (pe_callB call_abs (by rfl) T.z_abs (by decide +kernel) (pa_cons (pv 3) pa_nil))) pa_nil)) pe_int))))
      (pss_one (ps_ret (pe_op op_cat (pe_lst (pa_cons (pv 2) (pa_cons pe_int pa_nil))) (pe_lc (own := [("_law_cell", 3)]) (g := gName 3) rfl sc__law_random.nd (pi_list (pv 0)) (blkOk_by (N := ["_law_script", "_law_salt", "_law_seed", "_law_cell"]) (sc := defScope s__law_random) (by decide +kernel)) (fun _ _ _ _ _ => pg_name (i := 3) sc__law_random.nd rfl (.inl rfl)) (fun _ _ _ _ _ => pts_one (pt_cmpR op_ge (pv 3) (pe_op op_pow pe_int pe_int) (nomark _))) (fun _ _ _ _ _ => pv 3)))))), ?_⟩
    refine ⟨_, rfl, _, rfl, a, rfl, ⟨_, hS⟩, for_list (K := K) (a := a) (xs := ns.map V.int) (fun i σ H' => H' = H ∧ ∃ (z : Int) (v : Option V), σ = [some (.ref a), some (.int salt), some (.int z), v]) ⟨rfl, salt, none, rfl⟩ (fun i σ H' _ e => by rw [e.1]; exact hS) ?_ ?_⟩
    · rintro i x σ H' hi ⟨rfl, z, v, rfl⟩
      obtain ⟨u, rfl, _⟩ := int_at hi
      exact ⟨_, rfl, _, _, rfl, rfl, .inr (by decide), _, rfl, _, rfl, _, _, rfl, rfl, .inl ⟨_, rfl, _, _, rfl, rfl, (by show (0 : Int) < 2147483647; decide), rfl, _, _, rfl⟩⟩
    · rintro σ H' ⟨rfl, z, v, rfl⟩
      refine ⟨_, rfl, sz_le (by simp), fun l hl => ?_⟩
      have sl : Fr [] H' (upd H' l (.lst [V.int z, V.int 0])) := Fr.new hl
      have hS1 : SqL K (upd H' l (.lst [V.int z, V.int 0])) a (ns.map V.int) := sl.seq (by simp) hS
      refine ⟨_, rfl, a, rfl, ⟨_, hS1⟩, fun D hD => ?_⟩
      have hDl := free_upd hD
      refine lc_list (K := K) (a := a) (xs := ns.map V.int) (fun i H2 => ∃ ms : List Int, ms.length ≤ i ∧ H2 = upd (upd H' l (.lst [V.int z, V.int 0])) D (.lst (ms.map V.int))) ⟨[], Nat.le_refl _, rfl⟩ ?_ ?_ ?_
      · rintro i H2 _ ⟨ms, _, rfl⟩
        exact (Fr.new (S := []) hD).seq (by simp) hS1
      · rintro i x H2 hi ⟨ms, hm, rfl⟩
        obtain ⟨u, rfl, _⟩ := int_at hi
        have li := lt_of_at hi
        rw [List.length_map] at li
        refine ⟨rfl, _, rfl, _, _, rfl, rfl, ⟨by decide, by decide, by decide⟩, _, _, rfl, rfl, _, rfl, ite2 (fun _ => ?_) (fun _ => ?_)⟩
        · refine ⟨_, rfl, _, upd_same, ?_, ms ++ [u], ?_, ?_⟩
          · rw [List.length_map]
            exact sz_lt (by omega)
          · rw [List.length_append, List.length_singleton]
            omega
          · rw [upd_upd, List.map_append]
            rfl
        · exact ⟨ms, by omega, rfl⟩
      · rintro H2 ⟨ms, hm, rfl⟩
        rw [List.length_map] at hm
        refine ⟨l, D, [V.int z, V.int 0], _, rfl, rfl, ?_, upd_same, ?_, fun p hp => ?_⟩
        · rw [upd_ne hDl.2.symm]
          exact upd_same
        · rw [List.length_map]
          exact sz_le (by simp; omega)
        · obtain ⟨hp1, _⟩ := free_upd hp
          obtain ⟨hp2, _⟩ := free_upd hp1
          exact k p _ hp2 ((sl.trans (Fr.new hD)).trans (Fr.new hp)) ⟨z, 0, ms, upd_same⟩
end
/-! ### what counts as a number -/
def spNum (K : PySem.W.Frag) : Sp := fun vs H Q _ => ∃ (v : V) (t : Value) (b1 b2 : Bool), vs = [v] ∧ TyX K H v t ∧ PySem.W.kitOne K t (.type "int") = some b1 ∧ PySem.W.kitOne K t (.type "bool") = some b2 ∧ Q (.bl (b1 && !b2)) H
def spNumFrom (K : PySem.W.Frag) : Sp := fun vs H Q _ => ∃ (v : V) (lo hi : Int), vs = [v, .int lo, .int hi] ∧
  ((∃ i : Int, v = .int i ∧ Q (.bl (decide (lo ≤ i) && decide (i ≤ hi))) H) ∨ ∃ (t : Value) (b1 b2 : Bool), TyX K H v t ∧ PySem.W.kitOne K t (.type "int") = some b1 ∧ PySem.W.kitOne K t (.type "bool") = some b2 ∧ (b1 && !b2) = false ∧ Q (.bl false) H)
section
variable {P : Program} {w : World} {K : PySem.W.Frag} {mg : Str → Option Value} {base : Heap}
theorem ok_num (T : Gx K mg) : FnOk P w K mg base CX0 1 T.f_is_number T.fd_is_number ["thing"] (spNum K) := by
  refine T.F_is_number.ok sc_is_number (fun vs H Q E h => ?_) (fun cdv A outer s H vs Q E hr h => ?_)
  · obtain ⟨v, t, b1, b2, rfl, _⟩ := h
    rfl
  · obtain ⟨v, t, b1, b2, rfl, ty, e1, e2, k⟩ := h
    refine ⟨_, pss_one (ps_ret (pe_and (pe_callB call_isi (by rfl) T.z_isinstance (by decide +kernel) (pa_cons (pv 0) (pa_cons (pe_bltn (v := .ty "int") (by rfl) T.z_int (by decide +kernel) rfl) pa_nil)))
      (pe_one (pe_not (pe_callB call_isi (by rfl) T.z_isinstance (by decide +kernel) (pa_cons (pv 0) (pa_cons (pe_bltn (v := .ty "bool") (by rfl) T.z_bool (by decide +kernel) rfl) pa_nil))))))), ?_⟩
    refine ⟨v, rfl, v, .ty "int", t, _, b1, rfl, ClsV.ty "int", ty, e1, b1, rfl, ?_⟩
    cases b1 with
    | false => exact iteF k
    | true => exact iteT ⟨v, rfl, v, .ty "bool", t, _, b2, rfl, ClsV.ty "bool", ty, e2, b2, rfl, k⟩
theorem ok_numFrom (T : Gx K mg) : FnOk P w K mg base CX0 2 T.f_is_number_from T.fd_is_number_from ["thing", "least", "most"] (spNumFrom K) := by
  have G1 : FnOk P w K mg base CX0 1 T.f_is_number T.fd_is_number ["thing"] (spNum K) := ok_num T
  refine T.F_is_number_from.ok sc_is_number_from (fun vs H Q E h => ?_) (fun cdv A outer s H vs Q E hr h => ?_)
  · obtain ⟨v, lo, hi, rfl, _⟩ := h
    rfl
  · obtain ⟨v, lo, hi, rfl, h⟩ := h
    refine ⟨_, pss_one (ps_ret (pe_and (pe_call G1 hr (by rfl) T.g_is_number T.F_is_number.kp (b_is_number T) .nil pass0 (pa_cons (pv 0) pa_nil)) (pe_one (pe_chain op_le op_le (pv 1) (pv 0) (pv 2))))), ?_⟩
    rcases h with ⟨i, rfl, k⟩ | ⟨t, b1, b2, ty, e1, e2, e3, k⟩
    · refine ⟨_, rfl, .int i, .type "int", true, false, rfl, .base (.int i), kit_ty (by decide +kernel), kit_ty (by decide +kernel), true, rfl, iteT ?_⟩
      refine ⟨_, rfl, _, rfl, _, _, rfl, rfl, _, rfl, ?_⟩
      by_cases hl : lo ≤ i
      · rw [decide_eq_true hl] at k ⊢
        exact iteT ⟨_, rfl, _, _, rfl, rfl, k⟩
      · rw [decide_eq_false hl] at k ⊢
        exact iteF k
    · refine ⟨_, rfl, v, t, b1, b2, rfl, ty, e1, e2, _, rfl, ?_⟩
      rw [e3]
      exact iteF k
end
/-! ### a disk's attributes -/
def dF (a b c d e f : V) : List (Str × V) := [("_contents", a), ("_lasting", b), ("_pending", c), ("_reads", d), ("_writes", e), ("_syncs", f)]
theorem nf01 : ¬ (("_contents" : Str) = "_lasting") := by decide +kernel
theorem bf01 : (("_contents" : Str) == "_lasting") = false := by decide +kernel
theorem nf02 : ¬ (("_contents" : Str) = "_pending") := by decide +kernel
theorem bf02 : (("_contents" : Str) == "_pending") = false := by decide +kernel
theorem nf03 : ¬ (("_contents" : Str) = "_reads") := by decide +kernel
theorem bf03 : (("_contents" : Str) == "_reads") = false := by decide +kernel
theorem nf04 : ¬ (("_contents" : Str) = "_writes") := by decide +kernel
theorem bf04 : (("_contents" : Str) == "_writes") = false := by decide +kernel
theorem nf05 : ¬ (("_contents" : Str) = "_syncs") := by decide +kernel
theorem bf05 : (("_contents" : Str) == "_syncs") = false := by decide +kernel
theorem nf10 : ¬ (("_lasting" : Str) = "_contents") := by decide +kernel
theorem bf10 : (("_lasting" : Str) == "_contents") = false := by decide +kernel
theorem nf12 : ¬ (("_lasting" : Str) = "_pending") := by decide +kernel
theorem bf12 : (("_lasting" : Str) == "_pending") = false := by decide +kernel
theorem nf13 : ¬ (("_lasting" : Str) = "_reads") := by decide +kernel
theorem bf13 : (("_lasting" : Str) == "_reads") = false := by decide +kernel
theorem nf14 : ¬ (("_lasting" : Str) = "_writes") := by decide +kernel
theorem bf14 : (("_lasting" : Str) == "_writes") = false := by decide +kernel
theorem nf15 : ¬ (("_lasting" : Str) = "_syncs") := by decide +kernel
theorem bf15 : (("_lasting" : Str) == "_syncs") = false := by decide +kernel
theorem nf20 : ¬ (("_pending" : Str) = "_contents") := by decide +kernel
theorem bf20 : (("_pending" : Str) == "_contents") = false := by decide +kernel
theorem nf21 : ¬ (("_pending" : Str) = "_lasting") := by decide +kernel
theorem bf21 : (("_pending" : Str) == "_lasting") = false := by decide +kernel
theorem nf23 : ¬ (("_pending" : Str) = "_reads") := by decide +kernel
theorem bf23 : (("_pending" : Str) == "_reads") = false := by decide +kernel
theorem nf24 : ¬ (("_pending" : Str) = "_writes") := by decide +kernel
theorem bf24 : (("_pending" : Str) == "_writes") = false := by decide +kernel
theorem nf25 : ¬ (("_pending" : Str) = "_syncs") := by decide +kernel
theorem bf25 : (("_pending" : Str) == "_syncs") = false := by decide +kernel
theorem nf30 : ¬ (("_reads" : Str) = "_contents") := by decide +kernel
theorem bf30 : (("_reads" : Str) == "_contents") = false := by decide +kernel
theorem nf31 : ¬ (("_reads" : Str) = "_lasting") := by decide +kernel
theorem bf31 : (("_reads" : Str) == "_lasting") = false := by decide +kernel
theorem nf32 : ¬ (("_reads" : Str) = "_pending") := by decide +kernel
theorem bf32 : (("_reads" : Str) == "_pending") = false := by decide +kernel
theorem nf34 : ¬ (("_reads" : Str) = "_writes") := by decide +kernel
theorem bf34 : (("_reads" : Str) == "_writes") = false := by decide +kernel
theorem nf35 : ¬ (("_reads" : Str) = "_syncs") := by decide +kernel
theorem bf35 : (("_reads" : Str) == "_syncs") = false := by decide +kernel
theorem nf40 : ¬ (("_writes" : Str) = "_contents") := by decide +kernel
theorem bf40 : (("_writes" : Str) == "_contents") = false := by decide +kernel
theorem nf41 : ¬ (("_writes" : Str) = "_lasting") := by decide +kernel
theorem bf41 : (("_writes" : Str) == "_lasting") = false := by decide +kernel
theorem nf42 : ¬ (("_writes" : Str) = "_pending") := by decide +kernel
theorem bf42 : (("_writes" : Str) == "_pending") = false := by decide +kernel
theorem nf43 : ¬ (("_writes" : Str) = "_reads") := by decide +kernel
theorem bf43 : (("_writes" : Str) == "_reads") = false := by decide +kernel
theorem nf45 : ¬ (("_writes" : Str) = "_syncs") := by decide +kernel
theorem bf45 : (("_writes" : Str) == "_syncs") = false := by decide +kernel
theorem nf50 : ¬ (("_syncs" : Str) = "_contents") := by decide +kernel
theorem bf50 : (("_syncs" : Str) == "_contents") = false := by decide +kernel
theorem nf51 : ¬ (("_syncs" : Str) = "_lasting") := by decide +kernel
theorem bf51 : (("_syncs" : Str) == "_lasting") = false := by decide +kernel
theorem nf52 : ¬ (("_syncs" : Str) = "_pending") := by decide +kernel
theorem bf52 : (("_syncs" : Str) == "_pending") = false := by decide +kernel
theorem nf53 : ¬ (("_syncs" : Str) = "_reads") := by decide +kernel
theorem bf53 : (("_syncs" : Str) == "_reads") = false := by decide +kernel
theorem nf54 : ¬ (("_syncs" : Str) = "_writes") := by decide +kernel
theorem bf54 : (("_syncs" : Str) == "_writes") = false := by decide +kernel
theorem bf00 : (("_contents" : Str) == "_contents") = true := by decide +kernel
theorem bf11 : (("_lasting" : Str) == "_lasting") = true := by decide +kernel
theorem bf22 : (("_pending" : Str) == "_pending") = true := by decide +kernel
theorem bf33 : (("_reads" : Str) == "_reads") = true := by decide +kernel
theorem bf44 : (("_writes" : Str) == "_writes") = true := by decide +kernel
theorem bf55 : (("_syncs" : Str) == "_syncs") = true := by decide +kernel
theorem dF_get0 {a b c d e f : V} : (dF a b c d e f).lookup ("_contents" : Str) = some a := by
  unfold dF
  simp only [List.lookup, bf00]
theorem dF_put0 {a b c d e f z : V} : putF "_contents" z (dF a b c d e f) = dF z b c d e f := by
  unfold dF
  simp only [putF, if_true, eq_self_iff_true]
theorem dF_get1 {a b c d e f : V} : (dF a b c d e f).lookup ("_lasting" : Str) = some b := by
  unfold dF
  simp only [List.lookup, bf10, bf11]
theorem dF_put1 {a b c d e f z : V} : putF "_lasting" z (dF a b c d e f) = dF a z c d e f := by
  unfold dF
  simp only [putF, if_neg nf01, if_true, eq_self_iff_true]
theorem dF_get2 {a b c d e f : V} : (dF a b c d e f).lookup ("_pending" : Str) = some c := by
  unfold dF
  simp only [List.lookup, bf20, bf21, bf22]
theorem dF_put2 {a b c d e f z : V} : putF "_pending" z (dF a b c d e f) = dF a b z d e f := by
  unfold dF
  simp only [putF, if_neg nf02, if_neg nf12, if_true, eq_self_iff_true]
theorem dF_get3 {a b c d e f : V} : (dF a b c d e f).lookup ("_reads" : Str) = some d := by
  unfold dF
  simp only [List.lookup, bf30, bf31, bf32, bf33]
theorem dF_put3 {a b c d e f z : V} : putF "_reads" z (dF a b c d e f) = dF a b c z e f := by
  unfold dF
  simp only [putF, if_neg nf03, if_neg nf13, if_neg nf23, if_true, eq_self_iff_true]
theorem dF_get4 {a b c d e f : V} : (dF a b c d e f).lookup ("_writes" : Str) = some e := by
  unfold dF
  simp only [List.lookup, bf40, bf41, bf42, bf43, bf44]
theorem dF_put4 {a b c d e f z : V} : putF "_writes" z (dF a b c d e f) = dF a b c d z f := by
  unfold dF
  simp only [putF, if_neg nf04, if_neg nf14, if_neg nf24, if_neg nf34, if_true, eq_self_iff_true]
theorem dF_get5 {a b c d e f : V} : (dF a b c d e f).lookup ("_syncs" : Str) = some f := by
  unfold dF
  simp only [List.lookup, bf50, bf51, bf52, bf53, bf54, bf55]
theorem dF_put5 {a b c d e f z : V} : putF "_syncs" z (dF a b c d e f) = dF a b c d e z := by
  unfold dF
  simp only [putF, if_neg nf05, if_neg nf15, if_neg nf25, if_neg nf35, if_neg nf45, if_true, eq_self_iff_true]
theorem dF_made {a b c d e f : V} : putF "_syncs" f (putF "_writes" e (putF "_reads" d (putF "_pending" c (putF "_lasting" b (putF "_contents" a []))))) = dF a b c d e f := by
  unfold dF
  simp only [putF, if_neg nf01, if_neg nf02, if_neg nf03, if_neg nf04, if_neg nf05, if_neg nf12, if_neg nf13, if_neg nf14, if_neg nf15, if_neg nf23, if_neg nf24, if_neg nf25, if_neg nf34, if_neg nf35, if_neg nf45]
theorem dF_no_write {a b c d e f : V} : (dF a b c d e f).lookup ("write" : Str) = none := by
  unfold dF
  simp only [List.lookup, (show (("write" : Str) == "_contents") = false by decide +kernel), (show (("write" : Str) == "_lasting") = false by decide +kernel), (show (("write" : Str) == "_pending") = false by decide +kernel), (show (("write" : Str) == "_reads") = false by decide +kernel), (show (("write" : Str) == "_writes") = false by decide +kernel), (show (("write" : Str) == "_syncs") = false by decide +kernel)]
theorem dF_no_sync {a b c d e f : V} : (dF a b c d e f).lookup ("sync" : Str) = none := by
  unfold dF
  simp only [List.lookup, (show (("sync" : Str) == "_contents") = false by decide +kernel), (show (("sync" : Str) == "_lasting") = false by decide +kernel), (show (("sync" : Str) == "_pending") = false by decide +kernel), (show (("sync" : Str) == "_reads") = false by decide +kernel), (show (("sync" : Str) == "_writes") = false by decide +kernel), (show (("sync" : Str) == "_syncs") = false by decide +kernel)]
theorem dF_no_fail {a b c d e f : V} : (dF a b c d e f).lookup ("fail" : Str) = none := by
  unfold dF
  simp only [List.lookup, (show (("fail" : Str) == "_contents") = false by decide +kernel), (show (("fail" : Str) == "_lasting") = false by decide +kernel), (show (("fail" : Str) == "_pending") = false by decide +kernel), (show (("fail" : Str) == "_reads") = false by decide +kernel), (show (("fail" : Str) == "_writes") = false by decide +kernel), (show (("fail" : Str) == "_syncs") = false by decide +kernel)]
theorem dF_no__check_cell {a b c d e f : V} : (dF a b c d e f).lookup ("_check_cell" : Str) = none := by
  unfold dF
  simp only [List.lookup, (show (("_check_cell" : Str) == "_contents") = false by decide +kernel), (show (("_check_cell" : Str) == "_lasting") = false by decide +kernel), (show (("_check_cell" : Str) == "_pending") = false by decide +kernel), (show (("_check_cell" : Str) == "_reads") = false by decide +kernel), (show (("_check_cell" : Str) == "_writes") = false by decide +kernel), (show (("_check_cell" : Str) == "_syncs") = false by decide +kernel)]
theorem dF_no_read {a b c d e f : V} : (dF a b c d e f).lookup ("read" : Str) = none := by
  unfold dF
  simp only [List.lookup, (show (("read" : Str) == "_contents") = false by decide +kernel), (show (("read" : Str) == "_lasting") = false by decide +kernel), (show (("read" : Str) == "_pending") = false by decide +kernel), (show (("read" : Str) == "_reads") = false by decide +kernel), (show (("read" : Str) == "_writes") = false by decide +kernel), (show (("read" : Str) == "_syncs") = false by decide +kernel)]
theorem dF_len {a b c d e f : V} : (dF a b c d e f).length < 1000 := by
  unfold dF
  simp
theorem putF_len (f : Str) (v : V) : ∀ fs : List (Str × V), (putF f v fs).length ≤ fs.length + 1
  | [] => Nat.le_refl _
  | (g, x) :: r => by
    show (if g = f then (g, v) :: r else (g, x) :: putF f v r).length ≤ r.length + 1 + 1
    split
    · simp
    · have := putF_len f v r
      simp only [List.length_cons]
      omega
/-! ### disks -/
structure Dk where
  p : Addr
  dx : Addr
  c : Addr
  l : Addr
  d : Addr
def Dk.own (D : Dk) : List Addr := [D.p, D.c, D.l, D.d]
def Pend (H : Hp) (ts : List Addr) (ps : List (Nat × V)) : Prop := ts.length = ps.length ∧ ∀ (i : Nat) (t : Addr) (q : Nat × V), ts[i]? = some t → ps[i]? = some q → H t = some (.tup [.int (q.1 : Int), q.2])
structure DiskAt (C : Addr) (H : Hp) (D : Dk) (cs ls : List V) (ps : List (Nat × V)) (r w s : Int) : Prop where
  ins : H D.p = some (.ins C D.dx (dF (.ref D.c) (.ref D.l) (.ref D.d) (.int r) (.int w) (.int s)))
  cs_ : H D.c = some (.lst cs)
  ls_ : H D.l = some (.lst ls)
  pend : ∃ ts : List Addr, H D.d = some (.lst (ts.map V.ref)) ∧ Pend H ts ps
  cl : D.c ≠ D.l
  cd : D.c ≠ D.d
  ld : D.l ≠ D.d
  len : cs.length = ls.length
  small : cs.length ≤ 64
  ok : ∀ q ∈ ps, q.1 < ls.length
theorem Pend.keep {H H' : Hp} {ts : List Addr} {ps : List (Nat × V)} {S : List Addr} (h : Pend H ts ps) (f : Fr S H H') (n : ∀ b ∈ S, ∀ xs, H b ≠ some (.tup xs)) : Pend H' ts ps :=
  ⟨h.1, fun i t q e1 e2 => f _ _ (h.2 i t q e1 e2) (fun z => n t z _ (h.2 i t q e1 e2))⟩
theorem Pend.snoc {H : Hp} {ts : List Addr} {ps : List (Nat × V)} {t : Addr} {i : Nat} {v : V} (h : Pend H ts ps) (e : H t = some (.tup [.int (i : Int), v])) : Pend H (ts ++ [t]) (ps ++ [(i, v)]) := by
  refine ⟨by rw [List.length_append, List.length_append, h.1]; rfl, fun j u q e1 e2 => ?_⟩
  by_cases hj : j < ts.length
  · rw [List.getElem?_append_left hj] at e1
    rw [List.getElem?_append_left (by rw [← h.1]; exact hj)] at e2
    exact h.2 j u q e1 e2
  · rw [List.getElem?_append_right (by omega)] at e1
    rw [List.getElem?_append_right (by rw [← h.1]; omega)] at e2
    rw [← h.1] at e2
    have hz : j - ts.length = 0 := by
      have := lt_of_at e1
      simp at this
      omega
    rw [hz] at e1 e2
    cases e1
    cases e2
    exact e
section
variable {C : Addr} {H H' : Hp} {D : Dk} {cs ls : List V} {ps : List (Nat × V)} {r w s : Int}
theorem DiskAt.there (h : DiskAt C H D cs ls ps r w s) : ∀ b ∈ D.own, ∃ o, H b = some o := by
  obtain ⟨ts, e, _⟩ := h.pend
  intro b hb
  simp only [Dk.own, List.mem_cons, List.not_mem_nil, or_false] at hb
  rcases hb with rfl | rfl | rfl | rfl
  · exact ⟨_, h.ins⟩
  · exact ⟨_, h.cs_⟩
  · exact ⟨_, h.ls_⟩
  · exact ⟨_, e⟩
theorem DiskAt.notup (h : DiskAt C H D cs ls ps r w s) : ∀ b ∈ D.own, ∀ xs, H b ≠ some (.tup xs) := by
  obtain ⟨ts, e, _⟩ := h.pend
  intro b hb xs
  simp only [Dk.own, List.mem_cons, List.not_mem_nil, or_false] at hb
  rcases hb with rfl | rfl | rfl | rfl
  · rw [h.ins]; simp
  · rw [h.cs_]; simp
  · rw [h.ls_]; simp
  · rw [e]; simp
theorem DiskAt.pc (h : DiskAt C H D cs ls ps r w s) : D.p ≠ D.c := ne_of h.ins h.cs_ (by simp)
theorem DiskAt.pl (h : DiskAt C H D cs ls ps r w s) : D.p ≠ D.l := ne_of h.ins h.ls_ (by simp)
theorem DiskAt.pd (h : DiskAt C H D cs ls ps r w s) : D.p ≠ D.d := by
  obtain ⟨ts, e, _⟩ := h.pend
  exact ne_of h.ins e (by simp)
/-- a disk stays where only what it does not own changes (and no tuple does) -/
theorem DiskAt.keep {S : List Addr} (h : DiskAt C H D cs ls ps r w s) (f : Fr S H H') (n : ∀ b ∈ D.own, b ∉ S) (m : ∀ b ∈ S, ∀ xs, H b ≠ some (.tup xs)) : DiskAt C H' D cs ls ps r w s := by
  obtain ⟨ts, e, pn⟩ := h.pend
  have hp : D.p ∉ S := n _ (by simp [Dk.own])
  have hc : D.c ∉ S := n _ (by simp [Dk.own])
  have hl : D.l ∉ S := n _ (by simp [Dk.own])
  have hd : D.d ∉ S := n _ (by simp [Dk.own])
  exact ⟨f _ _ h.ins hp, f _ _ h.cs_ hc, f _ _ h.ls_ hl, ⟨ts, f _ _ e hd, pn.keep f m⟩, h.cl, h.cd, h.ld, h.len, h.small, h.ok⟩
end
/-! ### the promises -/
def spCheck (C : Addr) : Sp := fun vs H Q _ => ∃ (D : Dk) (cs ls : List V) (ps : List (Nat × V)) (r w s i : Int), vs = [.ref D.p, .int i] ∧ DiskAt C H D cs ls ps r w s ∧ 0 ≤ i ∧ i < cs.length ∧ Q .non H
def spInit (C : Addr) : Sp := fun vs H Q _ => ∃ (p dx : Addr) (n : Nat) (v : V), vs = [.ref p, .int (n : Int), v] ∧ 1 ≤ n ∧ n ≤ 64 ∧ H p = some (.ins C dx []) ∧
  ∀ (D : Dk) (H' : Hp), D.p = p → Fr [p] H H' → DiskAt C H' D (List.replicate n v) (List.replicate n v) [] 0 0 0 → H D.c = none → H D.l = none → H D.d = none → Q .non H'
def spWrite (C : Addr) : Sp := fun vs H Q _ => ∃ (D : Dk) (cs ls : List V) (ps : List (Nat × V)) (r w s : Int) (i : Nat) (v : V), vs = [.ref D.p, .int (i : Int), v] ∧ DiskAt C H D cs ls ps r w s ∧ i < cs.length ∧ ps.length ≤ 1000 ∧
  ∀ H' : Hp, Fr D.own H H' → DiskAt C H' D (cs.set i v) ls (ps ++ [(i, v)]) r (w + 1) s → Q .non H'
def spSync (C : Addr) : Sp := fun vs H Q _ => ∃ (D : Dk) (cs ls : List V) (ps : List (Nat × V)) (r w s : Int), vs = [.ref D.p] ∧ DiskAt C H D cs ls ps r w s ∧
  ∀ (D' : Dk) (H' : Hp), D'.p = D.p → (∀ b ∈ D'.own, b ∈ D.own ∨ H b = none) → Fr D.own H H' → DiskAt C H' D' cs cs [] r w (s + 1) → Q .non H'
section
variable {P : Program} {w : World} {K : PySem.W.Frag} {mg : Str → Option Value} {base : Heap}
theorem ok_check (T : Gx K mg) : FnOk P w K mg base CX0 3 T.f_Disk__check_cell T.fd_Disk__check_cell ["self", "cell"] (spCheck T.C_Disk) := by
  have GN : FnOk P w K mg base CX0 2 T.f_is_number_from T.fd_is_number_from ["thing", "least", "most"] (spNumFrom K) := ok_numFrom T
  refine T.F_Disk__check_cell.ok sc_Disk__check_cell (fun vs H Q E h => ?_) (fun cdv A outer s H vs Q E hr h => ?_)
  · obtain ⟨D, cs, ls, ps, r, w', s', i, rfl, _⟩ := h
    rfl
  · obtain ⟨D, cs, ls, ps, r, w', s', i, rfl, hD, h0, h1, k⟩ := h
    refine ⟨_, pss_one (ps_if (pt_not (pt_val (pe_call GN hr (by rfl) T.g_is_number_from T.F_is_number_from.kp (b_is_number_from T) .nil pass0
      (pa_cons (pv 1) (pa_cons pe_int (pa_cons (pe_op op_sub (pe_callB call_len_seq (by rfl) T.z_len PySem.boot_len (pa_cons (pe_fld (pv 0) rfl) pa_nil)) pe_int) pa_nil)))))) (pss_one ps_never) pss_nil), ?_⟩
    refine ⟨_, rfl, _, rfl, D.p, T.C_Disk, _, _, _, rfl, hD.ins, T.cl_Disk, T.n_Disk__contents, dF_get0, D.c, cs, rfl, .inl (SqL.of hD.cs_), _, _, rfl, rfl, ?_⟩
    refine ⟨.int i, 0, _, rfl, .inl ⟨i, rfl, _, rfl, ?_⟩⟩
    have e : (decide ((0 : Int) ≤ i) && decide (i ≤ (cs.length : Int) - 1)) = true := by
      rw [Bool.and_eq_true, decide_eq_true_eq, decide_eq_true_eq]
      omega
    rw [e]
    exact iteF k
theorem ok_init (T : Gx K mg) : FnOk P w K mg base CX0 3 T.f_Disk___init__ T.fd_Disk___init__ ["self", "cells", "content"] (spInit T.C_Disk) := by
  have GN : FnOk P w K mg base CX0 2 T.f_is_number_from T.fd_is_number_from ["thing", "least", "most"] (spNumFrom K) := ok_numFrom T
  refine T.F_Disk___init__.ok sc_Disk___init__ (fun vs H Q E h => ?_) (fun cdv A outer s H vs Q E hr h => ?_)
  · obtain ⟨p, dx, n, v, rfl, _⟩ := h
    rfl
  · obtain ⟨p, dx, n, v, rfl, h1, h64, hp, k⟩ := h
    refine ⟨_, PSs.nox (pss_cons (ps_if (pt_not (pt_val (pe_call GN hr (by rfl) T.g_is_number_from T.F_is_number_from.kp (b_is_number_from T) .nil pass0
        (pa_cons (pv 1) (pa_cons pe_int (pa_cons (pe_glob (v := .int 64) (by rfl) T.c_MOST_CELLS ⟨_, rfl⟩) pa_nil)))))) (pss_one ps_never) pss_nil)
      (pss_cons (ps_fld (pv 0) (pe_op op_rep (pe_lst (pa_cons (pv 2) pa_nil)) (pv 1)) rfl)
      (pss_cons (ps_fld (pv 0) (pe_op op_rep (pe_lst (pa_cons (pv 2) pa_nil)) (pv 1)) rfl)
      (pss_cons (ps_fld (pv 0) (pe_lst pa_nil) rfl)
      (pss_cons (ps_fld (pv 0) pe_int rfl) (pss_cons (ps_fld (pv 0) pe_int rfl) (pss_one (ps_fld (pv 0) pe_int rfl)))))))), ?_⟩
    refine ⟨_, rfl, .int (n : Int), 1, 64, rfl, .inl ⟨n, rfl, _, rfl, ?_⟩⟩
    have e : (decide ((1 : Int) ≤ (n : Int)) && decide ((n : Int) ≤ 64)) = true := by
      rw [Bool.and_eq_true, decide_eq_true_eq, decide_eq_true_eq]
      omega
    rw [e]
    refine iteF ?_
    have fl : (List.replicate (n : Int).toNat [v]).flatten = List.replicate n v := by
      rw [Int.toNat_natCast]
      simp
    -- self._contents = [content] * cells
    refine ⟨_, rfl, sz_le (by simp), fun q1 hq1 => ⟨_, rfl, q1, n, [v], rfl, rfl, upd_same, by omega, by omega, sz_le (by simp; omega), fun c hc => ?_⟩⟩
    rw [fl]
    have hcq := free_upd hc
    have pq1 : p ≠ q1 := ne_of_none hp hq1
    have pc : p ≠ c := ne_of_none hp hcq.1
    refine ⟨_, rfl, p, T.C_Disk, dx, [], rfl, (by rw [upd_ne pc, upd_ne pq1]; exact hp), T.cl_Disk, T.n_Disk__contents, by simp, ?_⟩
    -- self._lasting = [content] * cells
    refine ⟨_, rfl, sz_le (by simp), fun q2 hq2 => ⟨_, rfl, q2, n, [v], rfl, rfl, upd_same, by omega, by omega, sz_le (by simp; omega), fun l hl => ?_⟩⟩
    rw [fl]
    have hq2' := free_upd hq2
    have hq2'' := free_upd hq2'.1
    have hlq := free_upd hl
    have hlq2 := free_upd hlq.1
    have hlq3 := free_upd hlq2.1
    have pq2 : p ≠ q2 := hq2'.2.symm
    have pl : p ≠ l := hlq2.2.symm
    refine ⟨_, rfl, p, T.C_Disk, dx, _, rfl, (by rw [upd_ne pl, upd_ne pq2]; exact upd_same), T.cl_Disk, T.n_Disk__lasting, Nat.lt_of_le_of_lt (putF_len _ _ _) (by simp), ?_⟩
    -- self._pending = []
    refine ⟨sz_le (by simp), fun d hd => ?_⟩
    have hd1 := free_upd hd
    have hd2 := free_upd hd1.1
    have hd3 := free_upd hd2.1
    have hd4 := free_upd hd3.1
    have hd5 := free_upd hd4.1
    have hd6 := free_upd hd5.1
    refine ⟨_, rfl, p, T.C_Disk, dx, _, rfl, (by rw [upd_ne hd1.2.symm]; exact upd_same), T.cl_Disk, T.n_Disk__pending, Nat.lt_of_le_of_lt (putF_len _ _ _) (Nat.lt_of_le_of_lt (Nat.succ_le_succ (putF_len _ _ _)) (by simp)), ?_⟩
    refine ⟨_, rfl, p, T.C_Disk, dx, _, rfl, upd_same, T.cl_Disk, T.n_Disk__reads, Nat.lt_of_le_of_lt (putF_len _ _ _) (Nat.lt_of_le_of_lt (Nat.succ_le_succ (Nat.le_trans (putF_len _ _ _) (Nat.succ_le_succ (putF_len _ _ _)))) (by simp)), ?_⟩
    refine ⟨_, rfl, p, T.C_Disk, dx, _, rfl, upd_same, T.cl_Disk, T.n_Disk__writes, Nat.lt_of_le_of_lt (putF_len _ _ _) (Nat.lt_of_le_of_lt (Nat.succ_le_succ (Nat.le_trans (putF_len _ _ _) (Nat.succ_le_succ (Nat.le_trans (putF_len _ _ _) (Nat.succ_le_succ (putF_len _ _ _)))))) (by simp)), ?_⟩
    refine ⟨_, rfl, p, T.C_Disk, dx, _, rfl, upd_same, T.cl_Disk, T.n_Disk__syncs, Nat.lt_of_le_of_lt (putF_len _ _ _) (Nat.lt_of_le_of_lt (Nat.succ_le_succ (Nat.le_trans (putF_len _ _ _) (Nat.succ_le_succ (Nat.le_trans (putF_len _ _ _) (Nat.succ_le_succ (Nat.le_trans (putF_len _ _ _) (Nat.succ_le_succ (putF_len _ _ _)))))))) (by simp)), ?_⟩
    rw [dF_made, upd_upd, upd_upd, upd_upd]
    refine k ⟨p, dx, c, l, d⟩ _ rfl ?_ ⟨upd_same, ?_, ?_, ⟨[], ?_, rfl, fun i t q e _ => by simp at e⟩, hlq3.2.symm, hd5.2.symm, hd2.2.symm, rfl, by simp; omega, fun q hq => by cases hq⟩ hcq.1 (free_upd hlq3.1).1 hd6.1
    · exact (((((((Fr.new hq1).trans (Fr.new hc)).trans (Fr.put (by simp))).trans (Fr.new hq2)).trans (Fr.new hl)).trans (Fr.put (by simp))).trans (Fr.new hd)).trans (Fr.put (by simp))
    · show (upd _ p _) c = _
      rw [upd_ne pc.symm, upd_ne hd5.2.symm, upd_ne pc.symm, upd_ne hlq3.2.symm, upd_ne hq2''.2.symm, upd_ne pc.symm]
      exact upd_same
    · show (upd _ p _) l = _
      rw [upd_ne pl.symm, upd_ne hd2.2.symm, upd_ne pl.symm]
      exact upd_same
    · show (upd _ p _) d = _
      rw [upd_ne hd1.2]
      exact upd_same
end
section
variable {P : Program} {w : World} {K : PySem.W.Frag} {mg : Str → Option Value} {base : Heap}
theorem ok_write (T : Gx K mg) : FnOk P w K mg base CX0 4 T.f_Disk_write T.fd_Disk_write ["self", "cell", "content"] (spWrite T.C_Disk) := by
  have GC : FnOk P w K mg base CX0 3 T.f_Disk__check_cell T.fd_Disk__check_cell ["self", "cell"] (spCheck T.C_Disk) := ok_check T
  refine T.F_Disk_write.ok sc_Disk_write (fun vs H Q E h => ?_) (fun cdv A outer s H vs Q E hr h => ?_)
  · obtain ⟨D, cs, ls, ps, r, w', s', i, v, rfl, _⟩ := h
    rfl
  · obtain ⟨D, cs, ls, ps, r, w', s', i, v, rfl, hD, hi, hp, k⟩ := h
    obtain ⟨ts, e, pn⟩ := hD.pend
    have pl := hD.pl
    have pc := hD.pc
    have pd := hD.pd
    refine ⟨_, pss_cons (ps_expr (pe_meth (pv 0) T.cl_Disk T.m_Disk__check_cell GC hr (b_Disk__check_cell T) .nil pass0 (pa_cons (pv 1) pa_nil)))
      (pss_cons (ps_fldaug (pv 0) pe_int in_add)
      (pss_cons (ps_asg (pv 2) (pg_sub (pe_fld (pv 0) rfl) (pv 1) set_list))
      (pss_one (ps_expr (pe_bm PySem.F.plainAttrs_list PySem.F.slot_list_append PySem.F.type_list_append mt_append (pe_fld (pv 0) rfl) (pa_cons (pe_tup (pa_cons (pv 1) (pa_cons (pv 2) pa_nil))) pa_nil)))))), ?_⟩
    refine ⟨_, rfl, D.p, D.dx, _, rfl, hD.ins, dF_no__check_cell, _, rfl, D, cs, ls, ps, r, w', s', i, rfl, hD, by omega, by omega, ?_⟩
    refine ⟨_, rfl, D.p, T.C_Disk, D.dx, _, _, rfl, hD.ins, T.cl_Disk, T.n_Disk__writes, dF_get4, _, _, rfl, rfl, D.dx, _, hD.ins, dF_len, ?_⟩
    rw [dF_put4]
    refine ⟨_, rfl, _, rfl, D.p, T.C_Disk, D.dx, _, _, rfl, upd_same, T.cl_Disk, T.n_Disk__contents, dF_get0, _, rfl, D.c, cs, (i : Int), i, rfl, rfl, (by rw [upd_ne pc.symm]; exact hD.cs_), ix_at i hi, ?_⟩
    refine ⟨_, rfl, D.p, T.C_Disk, D.dx, _, _, rfl, Eq.trans (upd_ne pc) upd_same, T.cl_Disk, T.n_Disk__pending, dF_get2, .inl ⟨rfl, _, SqL.of (xs := ts.map V.ref) ?_⟩, ?_⟩
    · rw [upd_ne hD.cd.symm, upd_ne pd.symm]
      exact e
    · refine ⟨_, rfl, _, rfl, sz_le (by simp), fun t ht => ?_⟩
      have t1 := free_upd ht
      have t2 := free_upd t1.1
      have dt : D.d ≠ t := ne_of_none e t2.1
      have pt : D.p ≠ t := t2.2.symm
      have ct : D.c ≠ t := t1.2.symm
      have lt : D.l ≠ t := ne_of_none hD.ls_ t2.1
      refine ⟨D.d, ts.map V.ref, .ref t, rfl, rfl, ?_, ?_, ?_⟩
      · rw [upd_ne dt, upd_ne hD.cd.symm, upd_ne pd.symm]
        exact e
      · rw [List.length_map, pn.1]
        exact sz_lt (by omega)
      · have f : Fr D.own H (upd (upd (upd (upd H D.p (.ins T.C_Disk D.dx (dF (.ref D.c) (.ref D.l) (.ref D.d) (.int r) (.int (w' + 1)) (.int s')))) D.c (.lst (cs.set i v))) t (.tup [.int (i : Int), v])) D.d (.lst (ts.map V.ref ++ [.ref t]))) :=
          (((Fr.put (by simp [Dk.own])).trans (Fr.put (by simp [Dk.own]))).trans (Fr.new ht)).trans (Fr.put (by simp [Dk.own]))
        refine k _ f ⟨?_, ?_, ?_, ⟨ts ++ [t], ?_, (pn.keep f hD.notup).snoc ?_⟩, hD.cl, hD.cd, hD.ld, by rw [List.length_set]; exact hD.len, by rw [List.length_set]; exact hD.small, fun q hq => ?_⟩
        · rw [upd_ne pd, upd_ne pt, upd_ne pc]
          exact upd_same
        · rw [upd_ne hD.cd, upd_ne ct]
          exact upd_same
        · rw [upd_ne hD.ld, upd_ne lt, upd_ne hD.cl.symm, upd_ne pl.symm]
          exact hD.ls_
        · rw [List.map_append]
          exact upd_same
        · rw [upd_ne dt.symm]
          exact upd_same
        · rcases List.mem_append.mp hq with z | z
          · exact hD.ok q z
          · rw [List.mem_singleton.mp z, ← hD.len]
            exact hi
theorem ok_sync (T : Gx K mg) : FnOk P w K mg base CX0 1 T.f_Disk_sync T.fd_Disk_sync ["self"] (spSync T.C_Disk) := by
  refine T.F_Disk_sync.ok sc_Disk_sync (fun vs H Q E h => ?_) (fun cdv A outer s H vs Q E hr h => ?_)
  · obtain ⟨D, cs, ls, ps, r, w', s', rfl, _⟩ := h
    rfl
  · obtain ⟨D, cs, ls, ps, r, w', s', rfl, hD, k⟩ := h
    obtain ⟨ts, e, pn⟩ := hD.pend
    have pc := hD.pc
    refine ⟨_, pss_cons (ps_fldaug (pv 0) pe_int in_add)
      (pss_cons (ps_fld (pv 0) (pe_callTy call_list_of (by rfl) T.z_list (by decide +kernel) (pa_cons (pe_fld (pv 0) rfl) pa_nil)) rfl)
      (pss_one (ps_fld (pv 0) (pe_lst pa_nil) rfl))), ?_⟩
    refine ⟨_, rfl, D.p, T.C_Disk, D.dx, _, _, rfl, hD.ins, T.cl_Disk, T.n_Disk__syncs, dF_get5, _, _, rfl, rfl, D.dx, _, hD.ins, dF_len, ?_⟩
    rw [dF_put5]
    have ec : (upd H D.p (.ins T.C_Disk D.dx (dF (.ref D.c) (.ref D.l) (.ref D.d) (.int r) (.int w') (.int (s' + 1))))) D.c = some (.lst cs) := by
      rw [upd_ne pc.symm]
      exact hD.cs_
    refine ⟨_, rfl, D.p, T.C_Disk, D.dx, _, _, rfl, upd_same, T.cl_Disk, T.n_Disk__contents, dF_get0, D.c, cs, rfl, .inl (SqL.of ec), fun l hl => ?_⟩
    have l1 := free_upd hl
    have pl : D.p ≠ l := l1.2.symm
    have cl : D.c ≠ l := ne_of_none hD.cs_ l1.1
    refine ⟨_, rfl, D.p, T.C_Disk, D.dx, _, rfl, Eq.trans (upd_ne pl) upd_same, T.cl_Disk, T.n_Disk__lasting, dF_len, ?_⟩
    rw [dF_put1]
    refine ⟨sz_le (by simp), fun d hd => ?_⟩
    have d1 := free_upd hd
    have d2 := free_upd d1.1
    have d3 := free_upd d2.1
    have cd : D.c ≠ d := ne_of_none hD.cs_ d3.1
    refine ⟨_, rfl, D.p, T.C_Disk, D.dx, _, rfl, Eq.trans (upd_ne d1.2.symm) upd_same, T.cl_Disk, T.n_Disk__pending, dF_len, ?_⟩
    rw [dF_put2]
    refine k ⟨D.p, D.dx, D.c, l, d⟩ _ rfl (fun b hb => ?_) ?_ ⟨upd_same, ?_, ?_, ⟨[], ?_, rfl, fun i t q e _ => by simp at e⟩, cl, cd, d2.2.symm, rfl, hD.small, fun q hq => by cases hq⟩
    · simp only [Dk.own, List.mem_cons, List.not_mem_nil, or_false] at hb ⊢
      rcases hb with z | z | z | z
      · exact .inl (.inl z)
      · exact .inl (.inr (.inl z))
      · rw [z]; exact .inr l1.1
      · rw [z]; exact .inr d3.1
    · exact ((((Fr.put (by simp [Dk.own])).trans (Fr.new hl)).trans (Fr.put (by simp [Dk.own]))).trans (Fr.new hd)).trans (Fr.put (by simp [Dk.own]))
    · show (upd _ D.p _) D.c = _
      rw [upd_ne pc.symm, upd_ne cd, upd_ne pc.symm, upd_ne cl, upd_ne pc.symm]
      exact hD.cs_
    · show (upd _ D.p _) l = _
      rw [upd_ne pl.symm, upd_ne d2.2.symm, upd_ne pl.symm]
      exact upd_same
    · show (upd _ D.p _) d = _
      rw [upd_ne d1.2]
      exact upd_same
end
/-! ### what is kept -/
/-- strictly ascending, from lo on, below m -/
def Asc (m : Nat) : Nat → List Nat → Prop
  | _, [] => True
  | lo, k :: r => lo ≤ k ∧ k < m ∧ Asc m (k + 1) r
def stepK (ps : List (Nat × V)) (ls : List V) (k : Nat) : List V := match ps[k]? with
  | some q => ls.set q.1 q.2
  | none => ls
def applyK (ps : List (Nat × V)) (ls : List V) (ks : List Nat) : List V := ks.foldl (stepK ps) ls
theorem stepK_len (ps : List (Nat × V)) (ls : List V) (k : Nat) : (stepK ps ls k).length = ls.length := by
  unfold stepK
  split
  · exact List.length_set
  · rfl
theorem applyK_len (ps : List (Nat × V)) : ∀ (ks : List Nat) (ls : List V), (applyK ps ls ks).length = ls.length
  | [], _ => rfl
  | k :: r, ls => by
    show (applyK ps (stepK ps ls k) r).length = ls.length
    rw [applyK_len ps r, stepK_len]
theorem applyK_snoc (ps : List (Nat × V)) (ls : List V) (ks : List Nat) (k : Nat) : applyK ps ls (ks ++ [k]) = stepK ps (applyK ps ls ks) k := by
  unfold applyK
  rw [List.foldl_append]
  rfl
def kepV (ks : List Nat) : List V := ks.map fun (k : Nat) => V.int (k : Int)
theorem kV_at {ks : List Nat} {i : Nat} {x : V} (h : (kepV ks)[i]? = some x) : ∃ k : Nat, x = V.int (k : Int) ∧ ks[i]? = some k := by
  unfold kepV at h
  rw [List.getElem?_map] at h
  cases e : ks[i]? with
  | none =>
    rw [e] at h
    cases h
  | some u =>
    rw [e] at h
    exact ⟨u, (Option.some.inj h).symm, rfl⟩
theorem Asc.drop {m : Nat} : ∀ {lo : Nat} {ks : List Nat}, Asc m lo ks → ∀ (i k : Nat), ks[i]? = some k → ∃ lo', Asc m lo' (ks.drop i) ∧ lo' ≤ k
  | _, [], _, i, k, e => by simp at e
  | lo, a :: r, h, 0, k, e => by
    cases e
    exact ⟨lo, h, h.1⟩
  | lo, a :: r, h, i + 1, k, e => by
    obtain ⟨lo', h', hk⟩ := Asc.drop h.2.2 i k (by simpa using e)
    exact ⟨lo', h', hk⟩
theorem Asc.lt {m : Nat} : ∀ {lo : Nat} {ks : List Nat}, Asc m lo ks → ∀ (i k : Nat), ks[i]? = some k → k < m
  | _, [], _, i, k, e => by simp at e
  | lo, a :: r, h, 0, k, e => by
    cases e
    exact h.2.1
  | lo, a :: r, h, i + 1, k, e => Asc.lt h.2.2 i k (by simpa using e)
theorem Asc.len {m : Nat} : ∀ {lo : Nat} {ks : List Nat}, Asc m lo ks → lo ≤ m → ks.length + lo ≤ m
  | _, [], _, h => by simpa using h
  | lo, a :: r, h, _ => by
    have := Asc.len h.2.2 (by have := h.2.1; omega)
    have := h.1
    simp only [List.length_cons]
    omega
def spAreKept : Sp := fun vs H Q _ => ∃ (kt : Addr) (ks : List Nat) (m : Nat), vs = [.ref kt, .int (m : Int)] ∧ H kt = some (.tup (kepV ks)) ∧ Asc m 0 ks ∧ Q (.bl true) H
def spFail (C : Addr) : Sp := fun vs H Q _ => ∃ (D : Dk) (cs ls : List V) (ps : List (Nat × V)) (r w s : Int) (kt : Addr) (ks : List Nat), vs = [.ref D.p, .ref kt] ∧ DiskAt C H D cs ls ps r w s ∧ H kt = some (.tup (kepV ks)) ∧ Asc ps.length 0 ks ∧
  ∀ (D' : Dk) (H' : Hp), D'.p = D.p → (∀ b ∈ D'.own, b ∈ D.own ∨ H b = none) → Fr D.own H H' → DiskAt C H' D' (applyK ps ls ks) (applyK ps ls ks) [] r w s → Q .non H'
def spContents (C : Addr) : Sp := fun vs H Q _ => ∃ (D : Dk) (cs ls : List V) (ps : List (Nat × V)) (r w s : Int), vs = [.ref D.p] ∧ DiskAt C H D cs ls ps r w s ∧ ∀ t, H t = none → Q (.ref t) (upd H t (.tup cs))
def spLasting (C : Addr) : Sp := fun vs H Q _ => ∃ (D : Dk) (cs ls : List V) (ps : List (Nat × V)) (r w s : Int), vs = [.ref D.p] ∧ DiskAt C H D cs ls ps r w s ∧ ∀ t, H t = none → Q (.ref t) (upd H t (.tup ls))
def spPending (C : Addr) : Sp := fun vs H Q _ => ∃ (D : Dk) (cs ls : List V) (ps : List (Nat × V)) (r w s : Int), vs = [.ref D.p] ∧ DiskAt C H D cs ls ps r w s ∧ ∀ (t : Addr) (ts : List Addr), H t = none → Pend H ts ps → Q (.ref t) (upd H t (.lst (ts.map V.ref)))
section
variable {P : Program} {w : World} {K : PySem.W.Frag} {mg : Str → Option Value} {base : Heap}
theorem ok_areKept (T : Gx K mg) : FnOk P w K mg base CX0 3 T.f_are_kept T.fd_are_kept ["kept", "many"] spAreKept := by
  have GN : FnOk P w K mg base CX0 2 T.f_is_number_from T.fd_is_number_from ["thing", "least", "most"] (spNumFrom K) := ok_numFrom T
  refine T.F_are_kept.ok sc_are_kept (fun vs H Q E h => ?_) (fun cdv A outer s H vs Q E hr h => ?_)
  · obtain ⟨kt, ks, m, rfl, _⟩ := h
    rfl
  · obtain ⟨kt, ks, m, rfl, hK, ha, k⟩ := h
    refine ⟨_, pss_cons (ps_if (pt_not (pt_val (pe_callB call_isi (by rfl) T.z_isinstance (by decide +kernel) (pa_cons (pv 0) (pa_cons (pe_bltn (v := .ty "tuple") (by rfl) T.z_tuple (by decide +kernel) rfl) pa_nil))))) (pss_one (ps_ret pe_bl)) pss_nil)
      (pss_cons (ps_set (i := 2) sc_are_kept.nd rfl (.inl rfl) pe_int)
      (pss_cons (ps_for PassesOwn.never rfl (pi_tup (pv 0)) (pg_name (i := 3) sc_are_kept.nd rfl (.inl rfl))
        (pss_cons (ps_if (pt_not (pt_val (pe_call GN hr (by rfl) T.g_is_number_from T.F_is_number_from.kp (b_is_number_from T) .nil pass0 (pa_cons (pv 3) (pa_cons (pv 2) (pa_cons (pe_op op_sub (pv 1) pe_int) pa_nil)))))) (pss_one (ps_ret pe_bl)) pss_nil)
        (pss_one (ps_set (i := 2) sc_are_kept.nd rfl (.inl rfl) (pe_op op_add (pv 3) pe_int)))))
      (pss_one (ps_ret pe_bl)))), ?_⟩
    refine ⟨_, rfl, .ref kt, .ty "tuple", .type "tuple", _, true, rfl, ClsV.ty "tuple", .base (.tup hK), kit_ty (by decide +kernel), _, rfl, iteF ?_⟩
    refine ⟨_, rfl, kt, rfl, ⟨_, SqT.of hK⟩, for_tup (K := K) (a := kt) (xs := kepV ks) (fun i σ H' => H' = H ∧ ∃ (lo : Nat) (v : Option V), σ = [some (.ref kt), some (.int (m : Int)), some (.int (lo : Int)), v] ∧ Asc m lo (ks.drop i)) ⟨rfl, 0, none, rfl, ha⟩ (fun i σ H' _ e => by rw [e.1]; exact SqT.of hK) ?_ ?_⟩
    · rintro i x σ H' hi ⟨rfl, lo, v, rfl, hA⟩
      obtain ⟨kk, rfl, hk⟩ := kV_at hi
      have hd : ks.drop i = kk :: ks.drop (i + 1) := by
        rw [List.drop_eq_getElem_cons (lt_of_at hk)]
        congr 1
        rw [List.getElem?_eq_getElem (lt_of_at hk)] at hk
        exact Option.some.inj hk
      rw [hd] at hA
      obtain ⟨h1, h2, h3⟩ := hA
      refine ⟨_, rfl, _, rfl, _, rfl, _, _, rfl, rfl, .int (kk : Int), (lo : Int), _, rfl, .inl ⟨kk, rfl, _, rfl, ?_⟩⟩
      have e : (decide ((lo : Int) ≤ (kk : Int)) && decide ((kk : Int) ≤ (m : Int) - 1)) = true := by
        rw [Bool.and_eq_true, decide_eq_true_eq, decide_eq_true_eq]
        omega
      rw [e]
      refine iteF ⟨_, rfl, _, _, rfl, rfl, rfl, kk + 1, some (.int (kk : Int)), ?_, h3⟩
      rfl
    · rintro σ H' ⟨rfl, lo, v, rfl, _⟩
      exact k
theorem ok_fail (T : Gx K mg) : FnOk P w K mg base CX0 4 T.f_Disk_fail T.fd_Disk_fail ["self", "kept"] (spFail T.C_Disk) := by
  have GA : FnOk P w K mg base CX0 3 T.f_are_kept T.fd_are_kept ["kept", "many"] spAreKept := ok_areKept T
  refine T.F_Disk_fail.ok sc_Disk_fail (fun vs H Q E h => ?_) (fun cdv A outer s H vs Q E hr h => ?_)
  · obtain ⟨D, cs, ls, ps, r, w', s', kt, ks, rfl, _⟩ := h
    rfl
  · obtain ⟨D, cs, ls, ps, r, w', s', kt, ks, rfl, hD, hK, ha, k⟩ := h
    obtain ⟨ts, e, pn⟩ := hD.pend
    have pl := hD.pl
    have ktl : kt ≠ D.l := ne_of hK hD.ls_ (by simp)
    refine ⟨_, pss_cons (ps_if (pt_not (pt_val (pe_call GA hr (by rfl) T.g_are_kept T.F_are_kept.kp (b_are_kept T) .nil pass0 (pa_cons (pv 1) (pa_cons (pe_callB call_len_seq (by rfl) T.z_len PySem.boot_len (pa_cons (pe_fld (pv 0) rfl) pa_nil)) pa_nil))))) (pss_one ps_never) pss_nil)
      (pss_cons (ps_for PassesOwn.never rfl (pi_tup (pv 1)) (pg_name (i := 2) sc_Disk_fail.nd rfl (.inl rfl))
        (pss_cons (ps_asg (pe_ix ix_list (pe_fld (pv 0) rfl) (pv 2) (fun _ _ => rfl)) (pg_tup (by rfl) (pgs_cons (pg_name (i := 3) sc_Disk_fail.nd rfl (.inl rfl)) (pgs_cons (pg_name (i := 4) sc_Disk_fail.nd rfl (.inl rfl)) pgs_nil))))
        (pss_one (ps_asg (pv 4) (pg_sub (pe_fld (pv 0) rfl) (pv 3) set_list)))))
      (pss_cons (ps_fld (pv 0) (pe_callTy call_list_of (by rfl) T.z_list (by decide +kernel) (pa_cons (pe_fld (pv 0) rfl) pa_nil)) rfl)
      (pss_one (ps_fld (pv 0) (pe_lst pa_nil) rfl)))), ?_⟩
    refine ⟨_, rfl, _, rfl, D.p, T.C_Disk, _, _, _, rfl, hD.ins, T.cl_Disk, T.n_Disk__pending, dF_get2, D.d, ts.map V.ref, rfl, .inl (SqL.of e), kt, ks, ps.length, ?_, hK, ha, _, rfl, iteF ?_⟩
    · rw [List.length_map, pn.1]
      rfl
    refine ⟨_, rfl, kt, rfl, ⟨_, SqT.of hK⟩, for_tup (K := K) (a := kt) (xs := kepV ks) (fun i σ H' => Fr [D.l] H H' ∧ H' D.l = some (.lst (applyK ps ls (ks.take i))) ∧ ∃ (v2 v3 v4 : Option V), σ = [some (.ref D.p), some (.ref kt), v2, v3, v4]) ⟨Fr.refl _ _, hD.ls_, none, none, none, rfl⟩ (fun i σ H' _ e => SqT.of (e.1 _ _ hK (by simpa using ktl))) ?_ ?_⟩
    · rintro i x σ H' hi ⟨fr, el, v2, v3, v4, rfl⟩
      obtain ⟨kk, rfl, hk⟩ := kV_at hi
      have hlt : kk < ps.length := ha.lt i kk hk
      have ep : ps[kk]? = some ps[kk] := List.getElem?_eq_getElem hlt
      have et : ts[kk]? = some (ts[kk]'(by rw [pn.1]; exact hlt)) := List.getElem?_eq_getElem (by rw [pn.1]; exact hlt)
      have etup := pn.2 kk _ _ et ep
      have tl : ts[kk]'(by rw [pn.1]; exact hlt) ≠ D.l := ne_of etup hD.ls_ (by simp)
      have ei := fr _ _ hD.ins (by simpa using pl)
      have ed := fr _ _ e (by simpa using hD.ld.symm)
      have eu := fr _ _ etup (by simpa using tl)
      have hok : ps[kk].1 < (applyK ps ls (ks.take i)).length := by
        rw [applyK_len]
        exact hD.ok _ (List.getElem_mem hlt)
      refine ⟨_, rfl, D.p, T.C_Disk, _, _, _, rfl, ei, T.cl_Disk, T.n_Disk__pending, dF_get2, _, rfl, D.d, ts.map V.ref, (kk : Int), .ref (ts[kk]'(by rw [pn.1]; exact hlt)), rfl, rfl, SqL.of ed, atI_nat (by rw [List.getElem?_map, et]; rfl), ?_⟩
      refine ⟨_, _, rfl, SqT.of eu, rfl, _, _, rfl, _, _, rfl, rfl, ?_⟩
      refine ⟨_, rfl, _, rfl, D.p, T.C_Disk, _, _, _, rfl, ei, T.cl_Disk, T.n_Disk__lasting, dF_get1, _, rfl, D.l, _, (ps[kk].1 : Int), ps[kk].1, rfl, rfl, el, ix_at _ hok, ?_⟩
      refine ⟨fr.trans (Fr.put (by simp)), ?_, _, _, _, rfl⟩
      rw [upd_same, List.take_add_one, hk]
      show _ = some (HO.lst (applyK ps ls (ks.take i ++ [kk])))
      rw [applyK_snoc]
      unfold stepK
      rw [ep]
    · rintro σ H' ⟨fr, el, v2, v3, v4, rfl⟩
      have elen : (kepV ks).length = ks.length := List.length_map _
      rw [elen, List.take_length] at el
      have ei := fr _ _ hD.ins (by simpa using pl)
      have ec := fr _ _ hD.cs_ (by simpa using hD.cl)
      refine ⟨_, rfl, D.p, T.C_Disk, _, _, _, rfl, ei, T.cl_Disk, T.n_Disk__lasting, dF_get1, D.l, _, rfl, .inl (SqL.of el), fun c hc => ?_⟩
      have pc : D.p ≠ c := ne_of_none ei hc
      have lc : D.l ≠ c := ne_of_none el hc
      have c0 : H c = none := by
        cases q : H c with
        | none => rfl
        | some o =>
          rw [fr _ _ q (by simpa using lc.symm)] at hc
          cases hc
      refine ⟨_, rfl, D.p, T.C_Disk, D.dx, _, rfl, Eq.trans (upd_ne pc) ei, T.cl_Disk, T.n_Disk__contents, dF_len, ?_⟩
      rw [dF_put0]
      refine ⟨sz_le (by simp), fun d hd => ?_⟩
      have d1 := free_upd hd
      have d2 := free_upd d1.1
      have ld : D.l ≠ d := ne_of_none el d2.1
      have d0 : H d = none := by
        cases q : H d with
        | none => rfl
        | some o =>
          have := d2.1
          rw [fr _ _ q (by simpa using ld.symm)] at this
          cases this
      refine ⟨_, rfl, D.p, T.C_Disk, D.dx, _, rfl, Eq.trans (upd_ne d1.2.symm) upd_same, T.cl_Disk, T.n_Disk__pending, dF_len, ?_⟩
      rw [dF_put2]
      refine k ⟨D.p, D.dx, c, D.l, d⟩ _ rfl (fun b hb => ?_) ?_ ⟨upd_same, ?_, ?_, ⟨[], ?_, rfl, fun i t q e _ => by simp at e⟩, lc.symm, d2.2.symm, ld, rfl, by rw [applyK_len, ← hD.len]; exact hD.small, fun q hq => by cases hq⟩
      · simp only [Dk.own, List.mem_cons, List.not_mem_nil, or_false] at hb ⊢
        rcases hb with z | z | z | z
        · exact .inl (.inl z)
        · rw [z]; exact .inr c0
        · exact .inl (.inr (.inr (.inl z)))
        · rw [z]; exact .inr d0
      · exact ((((fr.mono (by simp [Dk.own])).trans (Fr.new hc)).trans (Fr.put (by simp [Dk.own]))).trans (Fr.new hd)).trans (Fr.put (by simp [Dk.own]))
      · show (upd _ D.p _) c = _
        rw [upd_ne pc.symm, upd_ne d2.2.symm, upd_ne pc.symm]
        exact upd_same
      · show (upd _ D.p _) D.l = _
        rw [upd_ne pl.symm, upd_ne ld, upd_ne pl.symm, upd_ne lc]
        exact el
      · show (upd _ D.p _) d = _
        rw [upd_ne d1.2]
        exact upd_same
theorem ok_contents (T : Gx K mg) : FnOk P w K mg base CX0 1 T.f_Disk_contents T.fd_Disk_contents ["self"] (spContents T.C_Disk) := by
  refine T.F_Disk_contents.ok sc_Disk_contents (fun vs H Q E h => ?_) (fun cdv A outer s H vs Q E hr h => ?_)
  · obtain ⟨D, cs, ls, ps, r, w', s', rfl, _⟩ := h
    rfl
  · obtain ⟨D, cs, ls, ps, r, w', s', rfl, hD, k⟩ := h
    refine ⟨_, pss_one (ps_ret (pe_callTy call_tuple_of (by rfl) T.z_tuple (by decide +kernel) (pa_cons (pe_fld (pv 0) rfl) pa_nil))), ?_⟩
    exact ⟨_, rfl, D.p, T.C_Disk, _, _, _, rfl, hD.ins, T.cl_Disk, T.n_Disk__contents, dF_get0, D.c, cs, rfl, .inl ⟨SqL.of hD.cs_, k⟩⟩
theorem ok_lasting (T : Gx K mg) : FnOk P w K mg base CX0 1 T.f_Disk_lasting T.fd_Disk_lasting ["self"] (spLasting T.C_Disk) := by
  refine T.F_Disk_lasting.ok sc_Disk_lasting (fun vs H Q E h => ?_) (fun cdv A outer s H vs Q E hr h => ?_)
  · obtain ⟨D, cs, ls, ps, r, w', s', rfl, _⟩ := h
    rfl
  · obtain ⟨D, cs, ls, ps, r, w', s', rfl, hD, k⟩ := h
    refine ⟨_, pss_one (ps_ret (pe_callTy call_tuple_of (by rfl) T.z_tuple (by decide +kernel) (pa_cons (pe_fld (pv 0) rfl) pa_nil))), ?_⟩
    exact ⟨_, rfl, D.p, T.C_Disk, _, _, _, rfl, hD.ins, T.cl_Disk, T.n_Disk__lasting, dF_get1, D.l, ls, rfl, .inl ⟨SqL.of hD.ls_, k⟩⟩
theorem ok_pending (T : Gx K mg) : FnOk P w K mg base CX0 1 T.f_Disk_pending T.fd_Disk_pending ["self"] (spPending T.C_Disk) := by
  refine T.F_Disk_pending.ok sc_Disk_pending (fun vs H Q E h => ?_) (fun cdv A outer s H vs Q E hr h => ?_)
  · obtain ⟨D, cs, ls, ps, r, w', s', rfl, _⟩ := h
    rfl
  · obtain ⟨D, cs, ls, ps, r, w', s', rfl, hD, k⟩ := h
    obtain ⟨ts, e, pn⟩ := hD.pend
    refine ⟨_, pss_one (ps_ret (pe_callTy call_list_of (by rfl) T.z_list (by decide +kernel) (pa_cons (pe_fld (pv 0) rfl) pa_nil))), ?_⟩
    exact ⟨_, rfl, D.p, T.C_Disk, _, _, _, rfl, hD.ins, T.cl_Disk, T.n_Disk__pending, dF_get2, D.d, _, rfl, .inl (SqL.of e), fun t ht => k t ts ht pn⟩
end
theorem Asc.mono {m m' : Nat} (h : m ≤ m') : ∀ {lo : Nat} {ks : List Nat}, Asc m lo ks → Asc m' lo ks
  | _, [], _ => trivial
  | _, _ :: _, ⟨a, b, c⟩ => ⟨a, by omega, Asc.mono h c⟩
theorem Asc.snoc {m : Nat} : ∀ {lo : Nat} {ks : List Nat}, Asc m lo ks → lo ≤ m → Asc (m + 1) lo (ks ++ [m])
  | lo, [], _, h => ⟨h, Nat.lt_succ_self _, trivial⟩
  | lo, k :: r, ⟨a, b, c⟩, h => ⟨a, by omega, Asc.snoc c (by omega)⟩
theorem kepV_len (ks : List Nat) : (kepV ks).length = ks.length := List.length_map _
def spKept : Sp := fun vs H Q _ => ∃ (r : Addr) (m : Nat), vs = [.ref r, .int (m : Int)] ∧ Rnd H r ∧ m ≤ 1000 ∧ ∀ (t : Addr) (ks : List Nat) (H' : Hp), H t = none → Fr [r] H H' → Rnd H' r → H' t = some (.tup (kepV ks)) → Asc m 0 ks → Q (.ref t) H'
section
variable {P : Program} {w : World} {K : PySem.W.Frag} {mg : Str → Option Value} {base : Heap}
theorem ok_kept (T : Gx K mg) : FnOk P w K mg base CX0 2 T.f__law_kept T.fd__law_kept ["_law_d", "_law_many"] spKept := by
  have GB : FnOk P w K mg base CX0 1 T.f__law_below T.fd__law_below ["_law_d", "_law_limit"] spBelow := ok_below T
  refine T.F__law_kept.ok sc__law_kept (fun vs H Q E h => ?_) (fun cdv A outer s H vs Q E hr h => ?_)
  · obtain ⟨r, m, rfl, _⟩ := h
    rfl
  · obtain ⟨r, m, rfl, hR, hm, k⟩ := h
    refine ⟨_, pss_one (ps_ret (pe_callTy call_tuple_of (by rfl) T.z_tuple (by decide +kernel) (pa_cons (pe_lc (own := [("_law_number", 2)]) (g := gName 2) rfl sc__law_kept.nd (pi_range1 (by rfl) T.z_range (pa_cons (pv 1) pa_nil))
      (blkOk_by (N := ["_law_d", "_law_many", "_law_number"]) (sc := defScope s__law_kept) (by decide +kernel)) (fun _ _ _ _ _ => pg_name (i := 2) sc__law_kept.nd rfl (.inl rfl))
      (fun _ _ _ _ _ => pts_one (pt_cmpR op_eq (pe_call GB hr (by rfl) T.g__law_below T.F__law_below.kp (b__law_below T) .nil pass0 (pa_cons (pv 0) (pa_cons pe_int pa_nil))) pe_int (nomark _))) (fun _ _ _ _ _ => pv 2)) pa_nil))), ?_⟩
    refine ⟨_, rfl, (m : Int), rfl, by omega, by omega, fun D hD => ?_⟩
    have rD : r ≠ D := by
      obtain ⟨a, b, ns, e⟩ := hR
      exact ne_of_none e hD
    rw [Int.toNat_natCast]
    refine lc_range (lo := 0) (n := m) (fun i H' => Fr [r] H H' ∧ Rnd H' r ∧ ∃ ks : List Nat, Asc i 0 ks ∧ H' D = some (.lst (kepV ks))) ⟨Fr.new hD, hR.keep (S := []) (Fr.new hD) (by simp), [], trivial, upd_same⟩ ?_ ?_
    · rintro i H1 hi ⟨fr, R1, ks, ha, e⟩
      refine ⟨rfl, _, rfl, r, 2, rfl, R1, by decide, by decide, fun z H2 hz f2 R2 => ⟨rfl, _, rfl, ite2 (fun _ => ?_) (fun _ => ?_)⟩⟩
      · have e2 : H2 D = some (.lst (kepV ks)) := f2 _ _ e (by simpa using rD.symm)
        refine ⟨_, rfl, _, e2, ?_, ?_, ?_, ks ++ [i], ?_, ?_⟩
        · rw [kepV_len]
          have := ha.len (Nat.zero_le _)
          exact sz_lt (by omega)
        · intro b o eb nb
          rw [upd_ne (ne_of_none eb hD)]
          exact (fr.trans f2) b o eb nb
        · obtain ⟨a, b, ns, e3⟩ := R2
          exact ⟨a, b, ns, (upd_ne rD).trans e3⟩
        · exact ha.snoc (Nat.zero_le _)
        · rw [upd_same]
          unfold kepV
          rw [List.map_append]
          show some (HO.lst (_ ++ [V.int (0 + (i : Int))])) = _
          rw [Int.zero_add]
          rfl
      · exact ⟨fr.trans f2, R2, ks, ha.mono (Nat.le_succ _), f2 _ _ e (by simpa using rD.symm)⟩
    · rintro H1 ⟨fr, R1, ks, ha, e⟩
      refine ⟨D, kepV ks, rfl, .inl ⟨SqL.of e, fun t ht => ?_⟩⟩
      have tD : t ≠ D := fun z => by rw [z, e] at ht; cases ht
      have tr : t ≠ r := fun z => by
        obtain ⟨a, b, ns, e3⟩ := R1
        rw [z, e3] at ht
        cases ht
      have t0 : H t = none := by
        cases q : H t with
        | none => rfl
        | some o =>
          rw [fr _ _ q (by simpa using tr)] at ht
          cases ht
      exact k t ks _ t0 (fr.trans (Fr.new ht)) (R1.keep (S := []) (Fr.new ht) (by simp)) upd_same ha
end
/-! ### plain contents: None, bools, ints -/
def isF : V → Bool
  | .non => true
  | .bl _ => true
  | .int _ => true
  | _ => false
def toD : V → PyData
  | .non => .none
  | .bl b => .bool b
  | .int i => .int i
  | _ => .none
def AllF (xs : List V) : Prop := ∀ v ∈ xs, isF v = true
theorem dpAll_flat {K : PySem.W.Frag} {H : Hp} : ∀ {xs : List V}, AllF xs → DpAll K H xs (xs.map toD)
  | [], _ => .nil
  | x :: r, h => by
    refine .cons ?_ (dpAll_flat fun v hv => h v (List.mem_cons_of_mem _ hv))
    have hx := h x List.mem_cons_self
    cases x with
    | non => exact .non
    | bl b => exact .bl b
    | int i => exact .int i
    | str _ => cases hx
    | byt _ => cases hx
    | flt _ => cases hx
    | ref _ => cases hx
    | ty _ => cases hx
theorem lay_flat : ∀ xs : List V, PyData.canLayAll0 (xs.map toD) = true
  | [] => rfl
  | x :: r => by
    show (PyData.canLay0 (toD x) && PyData.canLayAll0 (r.map toD)) = true
    rw [lay_flat r]
    cases x <;> rfl
theorem dep_flat : ∀ xs : List V, PyData.depthAll (xs.map toD) ≤ 1
  | [] => by simp [PyData.depthAll]
  | x :: r => by
    have h := dep_flat r
    show PyData.depthAll (toD x :: r.map toD) ≤ 1
    simp only [PyData.depthAll]
    have hx : PyData.depth (toD x) ≤ 1 := by cases x <;> simp [toD, PyData.depth]
    omega
theorem shaped_tup (xs : List V) : SeqAt.shaped (.tuple (xs.map toD)) = true := by
  unfold SeqAt.shaped
  rw [Bool.and_eq_true, decide_eq_true_eq]
  refine ⟨lay_flat xs, ?_⟩
  have := dep_flat xs
  simp only [PyData.depth]
  omega
theorem shaped_lst (xs : List V) : SeqAt.shaped (.list (xs.map toD)) = true := by
  unfold SeqAt.shaped
  rw [Bool.and_eq_true, decide_eq_true_eq]
  refine ⟨lay_flat xs, ?_⟩
  have := dep_flat xs
  simp only [PyData.depth]
  omega
theorem eqv_tup (xs : List V) : PyData.eqv (.tuple (xs.map toD)) (.tuple (xs.map toD)) = true := SeqAt.eqv_refl _ (lay_flat xs)
theorem eqv_lst (xs : List V) : PyData.eqv (.list (xs.map toD)) (.list (xs.map toD)) = true := SeqAt.eqv_refl _ (lay_flat xs)
theorem AllF.set {xs : List V} {v : V} (h : AllF xs) (hv : isF v = true) (i : Nat) : AllF (xs.set i v) := fun u hu => by
  rcases List.mem_or_eq_of_mem_set hu with z | z
  · exact h u z
  · rw [z]
    exact hv
theorem AllF.rep (n : Nat) {v : V} (hv : isF v = true) : AllF (List.replicate n v) := fun u hu => by
  rw [List.eq_of_mem_replicate hu]
  exact hv
/-! ### what is kept, as writes -/
def applyAll (ps : List (Nat × V)) (ls : List V) : List V := ps.foldl (fun l q => l.set q.1 q.2) ls
def pick (ps : List (Nat × V)) (ks : List Nat) : List (Nat × V) := ks.filterMap (ps[·]?)
theorem pick_snoc {ps : List (Nat × V)} {ks : List Nat} {k : Nat} {q : Nat × V} (e : ps[k]? = some q) : pick ps (ks ++ [k]) = pick ps ks ++ [q] := by
  unfold pick
  rw [List.filterMap_append]
  congr 1
  simp [e]
theorem pick_len (ps : List (Nat × V)) (ks : List Nat) : (pick ps ks).length ≤ ks.length := List.length_filterMap_le _ _
theorem pick_mem {ps : List (Nat × V)} {ks : List Nat} {q : Nat × V} (h : q ∈ pick ps ks) : q ∈ ps := by
  obtain ⟨k, _, e⟩ := List.mem_filterMap.mp h
  exact List.mem_of_getElem? e
theorem applyK_pick (ps : List (Nat × V)) : ∀ (ks : List Nat) (ls : List V), applyK ps ls ks = applyAll (pick ps ks) ls
  | [], _ => rfl
  | k :: r, ls => by
    show applyK ps (stepK ps ls k) r = _
    rw [applyK_pick ps r]
    unfold pick stepK
    cases e : ps[k]? with
    | none => simp [e]
    | some q => simp [e, applyAll]
theorem applyAll_snoc (ps : List (Nat × V)) (q : Nat × V) (ls : List V) : applyAll (ps ++ [q]) ls = (applyAll ps ls).set q.1 q.2 := by
  unfold applyAll
  rw [List.foldl_append]
  rfl
theorem pick_all : ∀ ps : List (Nat × V), pick ps (List.range ps.length) = ps := by
  intro ps
  unfold pick
  apply List.ext_getElem?
  intro i
  have key : ∀ n, n ≤ ps.length → (List.range n).filterMap (ps[·]?) = ps.take n := by
    intro n
    induction n with
    | zero => intro _; simp
    | succ n ih =>
      intro h
      rw [List.range_succ, List.filterMap_append, ih (by omega), List.take_add_one]
      congr 1
  rw [key ps.length (Nat.le_refl _), List.take_length]
theorem applyK_all (ps : List (Nat × V)) (ls : List V) : applyK ps ls (List.range ps.length) = applyAll ps ls := by
  rw [applyK_pick, pick_all]
theorem applyAll_len (ps : List (Nat × V)) : ∀ ls : List V, (applyAll ps ls).length = ls.length := by
  induction ps with
  | nil => intro _; rfl
  | cons q r ih =>
    intro ls
    show (applyAll r (ls.set q.1 q.2)).length = _
    rw [ih, List.length_set]
theorem asc_range (n : Nat) : Asc n 0 (List.range n) := by
  induction n with
  | zero => exact trivial
  | succ n ih =>
    rw [List.range_succ]
    exact ih.snoc (Nat.zero_le _)
theorem rgV_kept (n : Nat) : rgV 0 (n : Int) = kepV (List.range n) := by
  unfold rgV kepV
  rw [Int.sub_zero, Int.toNat_natCast]
  congr 1
  funext i
  rw [Int.zero_add]
theorem applyAll_F {ps : List (Nat × V)} (hp : ∀ q ∈ ps, isF q.2 = true) : ∀ {ls : List V}, AllF ls → AllF (applyAll ps ls) := by
  induction ps with
  | nil => intro _ h; exact h
  | cons q r ih =>
    intro ls h
    exact ih (fun u hu => hp u (List.mem_cons_of_mem _ hu)) (h.set (hp q List.mem_cons_self) _)
/-! ### what is new stands apart -/
theorem made_fr {H H' : Hp} {p dx C : Addr} (hp : H p = none) (hdx : H dx = none) (f : Fr [p] (upd (upd H dx (.own p)) p (.ins C dx [])) H') : Fr [] H H' := fun b o e _ => by
  have n1 : b ≠ p := ne_of_none e hp
  have n2 : b ≠ dx := ne_of_none e hdx
  exact f b o (by rw [upd_ne n1, upd_ne n2]; exact e) (by simpa using n1)
theorem made_none {H : Hp} {p dx C b : Addr} (h : (upd (upd H dx (.own p)) p (.ins C dx [])) b = none) : H b = none := (free_upd (free_upd h).1).1
theorem out_of_new {H : Hp} {S : List Addr} {r : Addr} {o : HO} (e : H r = some o) (n : ∀ b ∈ S, H b = none) : r ∉ S := fun h => by
  rw [n r h] at e
  cases e
theorem out_of_grow {H : Hp} {S S' : List Addr} {r : Addr} {o : HO} (e : H r = some o) (hr : r ∉ S) (g : ∀ b ∈ S', b ∈ S ∨ H b = none) : r ∉ S' := fun h => by
  rcases g r h with z | z
  · exact hr z
  · rw [z] at e
    cases e
theorem Rnd.some {H : Hp} {r : Addr} (h : Rnd H r) : ∃ o, H r = some o := by
  obtain ⟨a, b, ns, e⟩ := h
  exact ⟨_, e⟩
theorem Rnd.new {H : Hp} {r p : Addr} {o : HO} (h : Rnd H r) (hp : H p = none) : Rnd (upd H p o) r := h.keep (S := []) (Fr.new hp) (by simp)
theorem DiskAt.new {C : Addr} {H : Hp} {D : Dk} {cs ls : List V} {ps : List (Nat × V)} {r w s : Int} {p : Addr} {o : HO} (h : DiskAt C H D cs ls ps r w s) (hp : H p = none) : DiskAt C (upd H p o) D cs ls ps r w s := h.keep (S := []) (Fr.new hp) (by simp) (by simp)
theorem DiskAt.draw {C : Addr} {H H' : Hp} {D : Dk} {cs ls : List V} {ps : List (Nat × V)} {r w s : Int} {x : Addr} (h : DiskAt C H D cs ls ps r w s) (hR : Rnd H x) (n : x ∉ D.own) (f : Fr [x] H H') : DiskAt C H' D cs ls ps r w s :=
  h.keep f (fun b hb hx => n (by rw [← List.mem_singleton.mp hx]; exact hb)) hR.notup
theorem DiskAt.other {C : Addr} {H H' : Hp} {D T : Dk} {cs ls cs' ls' : List V} {ps ps' : List (Nat × V)} {r w s r' w' s' : Int} (h : DiskAt C H D cs ls ps r w s) (hT : DiskAt C H T cs' ls' ps' r' w' s') (n : Sep D.own T.own) (f : Fr T.own H H') : DiskAt C H' D cs ls ps r w s :=
  h.keep f (fun b hb => n b hb) hT.notup
def spCounts (C : Addr) : Sp := fun vs H Q _ => ∃ (D : Dk) (cs ls : List V) (ps : List (Nat × V)) (r w s : Int), vs = [.ref D.p] ∧ DiskAt C H D cs ls ps r w s ∧ ∀ t, H t = none → Q (.ref t) (upd H t (.tup [.int r, .int w, .int s]))
section
variable {P : Program} {w : World} {K : PySem.W.Frag} {mg : Str → Option Value} {base : Heap}
theorem ok_counts (T : Gx K mg) : FnOk P w K mg base CX0 1 T.f_Disk_counts T.fd_Disk_counts ["self"] (spCounts T.C_Disk) := by
  refine T.F_Disk_counts.ok sc_Disk_counts (fun vs H Q E h => ?_) (fun cdv A outer s H vs Q E hr h => ?_)
  · obtain ⟨D, cs, ls, ps, r, w', s', rfl, _⟩ := h
    rfl
  · obtain ⟨D, cs, ls, ps, r, w', s', rfl, hD, k⟩ := h
    refine ⟨_, (pss_one (ps_ret (pe_tup (pa_cons (pe_fld (pv 0) rfl) (pa_cons (pe_fld (pv 0) rfl) (pa_cons (pe_fld (pv 0) rfl) pa_nil)))))), ?_⟩
    exact ⟨_, rfl, D.p, T.C_Disk, _, _, _, rfl, hD.ins, T.cl_Disk, T.n_Disk__reads, dF_get3, _, rfl, D.p, T.C_Disk, _, _, _, rfl, hD.ins, T.cl_Disk, T.n_Disk__writes, dF_get4, _, rfl, D.p, T.C_Disk, _, _, _, rfl, hD.ins, T.cl_Disk, T.n_Disk__syncs, dF_get5, sz_le (by simp), k⟩
end
/-! ### the law's own lists -/
structure Du where
  q : Addr
  a : Addr
  b : Addr
  p : Addr
  n : Addr
def Du.own (U : Du) : List Addr := [U.q, U.a, U.b, U.p, U.n]
structure DueAt (H : Hp) (U : Du) (cs ls : List V) (ps : List (Nat × V)) (r w s : Int) : Prop where
  hq : H U.q = some (.lst [.ref U.a, .ref U.b, .ref U.p, .ref U.n])
  ha : H U.a = some (.lst cs)
  hb : H U.b = some (.lst ls)
  hp : ∃ us : List Addr, H U.p = some (.lst (us.map V.ref)) ∧ Pend H us ps
  hn : H U.n = some (.lst [.int r, .int w, .int s])
  nd : (U.q ≠ U.a ∧ U.q ≠ U.b ∧ U.q ≠ U.p ∧ U.q ≠ U.n) ∧ (U.a ≠ U.b ∧ U.a ≠ U.p ∧ U.a ≠ U.n) ∧ (U.b ≠ U.p ∧ U.b ≠ U.n) ∧ U.p ≠ U.n
  len : cs.length = ls.length
  ok : ∀ q ∈ ps, q.1 < ls.length
section
variable {H H' : Hp} {U : Du} {cs ls : List V} {ps : List (Nat × V)} {r w s : Int}
theorem DueAt.there (h : DueAt H U cs ls ps r w s) : ∀ b ∈ U.own, ∃ o, H b = some o := by
  obtain ⟨us, e, _⟩ := h.hp
  intro b hb
  simp only [Du.own, List.mem_cons, List.not_mem_nil, or_false] at hb
  rcases hb with rfl | rfl | rfl | rfl | rfl
  · exact ⟨_, h.hq⟩
  · exact ⟨_, h.ha⟩
  · exact ⟨_, h.hb⟩
  · exact ⟨_, e⟩
  · exact ⟨_, h.hn⟩
theorem DueAt.notup (h : DueAt H U cs ls ps r w s) : ∀ b ∈ U.own, ∀ xs, H b ≠ some (.tup xs) := by
  obtain ⟨us, e, _⟩ := h.hp
  intro b hb xs
  simp only [Du.own, List.mem_cons, List.not_mem_nil, or_false] at hb
  rcases hb with rfl | rfl | rfl | rfl | rfl
  · rw [h.hq]; simp
  · rw [h.ha]; simp
  · rw [h.hb]; simp
  · rw [e]; simp
  · rw [h.hn]; simp
theorem DueAt.keep {S : List Addr} (h : DueAt H U cs ls ps r w s) (f : Fr S H H') (n : ∀ b ∈ U.own, b ∉ S) (m : ∀ b ∈ S, ∀ xs, H b ≠ some (.tup xs)) : DueAt H' U cs ls ps r w s := by
  obtain ⟨us, e, pn⟩ := h.hp
  exact ⟨f _ _ h.hq (n _ (by simp [Du.own])), f _ _ h.ha (n _ (by simp [Du.own])), f _ _ h.hb (n _ (by simp [Du.own])), ⟨us, f _ _ e (n _ (by simp [Du.own])), pn.keep f m⟩, f _ _ h.hn (n _ (by simp [Du.own])), h.nd, h.len, h.ok⟩
theorem DueAt.new {p : Addr} {o : HO} (h : DueAt H U cs ls ps r w s) (hp : H p = none) : DueAt (upd H p o) U cs ls ps r w s := h.keep (Fr.new (S := []) hp) (by simp) (by simp)
theorem DueAt.draw {x : Addr} (h : DueAt H U cs ls ps r w s) (hR : Rnd H x) (n : x ∉ U.own) (f : Fr [x] H H') : DueAt H' U cs ls ps r w s :=
  h.keep f (fun b hb hx => n (by rw [← List.mem_singleton.mp hx]; exact hb)) hR.notup
theorem DueAt.other {C : Addr} {T : Dk} {cs' ls' : List V} {ps' : List (Nat × V)} {r' w' s' : Int} (h : DueAt H U cs ls ps r w s) (hT : DiskAt C H T cs' ls' ps' r' w' s') (n : Sep U.own T.own) (f : Fr T.own H H') : DueAt H' U cs ls ps r w s :=
  h.keep f (fun b hb => n b hb) hT.notup
theorem DiskAt.due {C : Addr} {T : Dk} {cs' ls' : List V} {ps' : List (Nat × V)} {r' w' s' : Int} (hT : DiskAt C H T cs' ls' ps' r' w' s') (h : DueAt H U cs ls ps r w s) (n : Sep T.own U.own) (f : Fr U.own H H') : DiskAt C H' T cs' ls' ps' r' w' s' :=
  hT.keep f (fun b hb => n b hb) h.notup
end
def spMkDue : Sp := fun vs H Q _ => ∃ (n : Nat) (v : V), vs = [.int (n : Int), v] ∧ n ≤ 64 ∧ ∀ (U : Du) (H' : Hp), Fr [] H H' → (∀ b ∈ U.own, H b = none) → DueAt H' U (List.replicate n v) (List.replicate n v) [] 0 0 0 → Q (.ref U.q) H'
def spPut : Sp := fun vs H Q _ => ∃ (U : Du) (cs ls : List V) (ps : List (Nat × V)) (r w s : Int) (i : Nat) (v : V), vs = [.ref U.q, .int (i : Int), v] ∧ DueAt H U cs ls ps r w s ∧ i < cs.length ∧ ps.length ≤ 1000 ∧
  ∀ H' : Hp, Fr U.own H H' → DueAt H' U (cs.set i v) ls (ps ++ [(i, v)]) r (w + 1) s → Q .non H'
def spDueSync : Sp := fun vs H Q _ => ∃ (U : Du) (cs ls : List V) (ps : List (Nat × V)) (r w s : Int), vs = [.ref U.q] ∧ DueAt H U cs ls ps r w s ∧
  ∀ (U' : Du) (H' : Hp), U'.q = U.q → (∀ b ∈ U'.own, b ∈ U.own ∨ H b = none) → Fr U.own H H' → DueAt H' U' cs cs [] r w (s + 1) → Q .non H'
def spDueFail : Sp := fun vs H Q _ => ∃ (U : Du) (cs ls : List V) (ps : List (Nat × V)) (r w s : Int) (kt : Addr) (ks : List Nat), vs = [.ref U.q, .ref kt] ∧ DueAt H U cs ls ps r w s ∧ H kt = some (.tup (kepV ks)) ∧ Asc ps.length 0 ks ∧
  ∀ (U' : Du) (H' : Hp), U'.q = U.q → (∀ b ∈ U'.own, b ∈ U.own ∨ H b = none) → Fr U.own H H' → DueAt H' U' (applyK ps ls ks) (applyK ps ls ks) [] r w s → Q .non H'
section
variable {P : Program} {w : World} {K : PySem.W.Frag} {mg : Str → Option Value} {base : Heap}
theorem ok_mkDue (T : Gx K mg) : FnOk P w K mg base CX0 1 T.f__law_disk T.fd__law_disk ["_law_cells", "_law_what"] spMkDue := by
  refine T.F__law_disk.ok sc__law_disk (fun vs H Q E h => ?_) (fun cdv A outer s H vs Q E hr h => ?_)
  · obtain ⟨n, v, rfl, _⟩ := h
    rfl
  · obtain ⟨n, v, rfl, hn, k⟩ := h
    have fl : (List.replicate (n : Int).toNat [v]).flatten = List.replicate n v := by
      rw [Int.toNat_natCast]
      simp
    refine ⟨_, (pss_one (ps_ret (pe_lst (pa_cons (pe_op op_rep (pe_lst (pa_cons (pv 1) pa_nil)) (pv 0)) (pa_cons (pe_op op_rep (pe_lst (pa_cons (pv 1) pa_nil)) (pv 0)) (pa_cons (pe_lst pa_nil) (pa_cons (pe_lst (pa_cons pe_int (pa_cons pe_int (pa_cons pe_int pa_nil)))) pa_nil))))))), ?_⟩
    refine ⟨_, rfl, sz_le (by simp), fun q1 hq1 => ⟨_, rfl, q1, n, [v], rfl, rfl, upd_same, by omega, by omega, sz_le (by simp; omega), fun a ha => ?_⟩⟩
    rw [fl]
    refine ⟨_, rfl, sz_le (by simp), fun q2 hq2 => ⟨_, rfl, q2, n, [v], rfl, rfl, upd_same, by omega, by omega, sz_le (by simp; omega), fun b hb => ?_⟩⟩
    rw [fl]
    refine ⟨sz_le (by simp), fun p hp => ⟨sz_le (by simp), fun m hm => ⟨sz_le (by simp), fun q hq => ?_⟩⟩⟩
    have a1 := free_upd ha
    have b1 := free_upd hb
    have b2 := free_upd b1.1
    have b3 := free_upd b2.1
    have p1 := free_upd hp
    have p2 := free_upd p1.1
    have p3 := free_upd p2.1
    have p4 := free_upd p3.1
    have m1 := free_upd hm
    have m2 := free_upd m1.1
    have m3 := free_upd m2.1
    have m4 := free_upd m3.1
    have m5 := free_upd m4.1
    have c1 := free_upd hq
    have c2 := free_upd c1.1
    have c3 := free_upd c2.1
    have c4 := free_upd c3.1
    have c5 := free_upd c4.1
    have c6 := free_upd c5.1
    have aq2 : a ≠ q2 := (free_upd hq2).2.symm
    refine k ⟨q, a, b, p, m⟩ _ ?_ (fun x hx => ?_) ⟨upd_same, ?_, ?_, ⟨[], ?_, rfl, fun i t z e _ => by simp at e⟩, ?_, ⟨⟨c5.2, c3.2, c2.2, c1.2⟩, ⟨b3.1 |> fun _ => b2.2.symm, p3.2.symm, m4.2.symm⟩, ⟨p1.2.symm, m2.2.symm⟩, m1.2.symm⟩, rfl, fun z hz => by cases hz⟩
    · exact ((((((Fr.new hq1).trans (Fr.new ha)).trans (Fr.new hq2)).trans (Fr.new hb)).trans (Fr.new hp)).trans (Fr.new hm)).trans (Fr.new hq)
    · simp only [Du.own, List.mem_cons, List.not_mem_nil, or_false] at hx
      rcases hx with e | e | e | e | e
      · rw [e]; exact c6.1
      · rw [e]; exact a1.1
      · rw [e]; exact b3.1
      · rw [e]; exact p4.1
      · rw [e]; exact m5.1
    · show (upd _ q _) a = _
      rw [upd_ne c5.2.symm, upd_ne m4.2.symm, upd_ne p3.2.symm, upd_ne b2.2.symm, upd_ne aq2]
      exact upd_same
    · show (upd _ q _) b = _
      rw [upd_ne c3.2.symm, upd_ne m2.2.symm, upd_ne p1.2.symm]
      exact upd_same
    · show (upd _ q _) p = _
      rw [upd_ne c2.2.symm, upd_ne m1.2.symm]
      exact upd_same
    · show (upd _ q _) m = _
      rw [upd_ne c1.2.symm]
      exact upd_same
theorem ok_put (T : Gx K mg) : FnOk P w K mg base CX0 1 T.f__law_put T.fd__law_put ["_law_disk_here", "_law_cell", "_law_what"] spPut := by
  refine T.F__law_put.ok sc__law_put (fun vs H Q E h => ?_) (fun cdv A outer s H vs Q E hr h => ?_)
  · obtain ⟨U, cs, ls, ps, r, w', s', i, v, rfl, _⟩ := h
    rfl
  · obtain ⟨U, cs, ls, ps, r, w', s', i, v, rfl, hU, hi, hps, k⟩ := h
    obtain ⟨us, e, pn⟩ := hU.hp
    obtain ⟨⟨qa, qb, qp, qn⟩, ⟨ab, ap, an⟩, ⟨bp, bn⟩, pnn⟩ := hU.nd
    refine ⟨_, (pss_cons (ps_asg (pv 2) (pg_sub (pe_ix ix_list (pv 0) pe_int (fun _ _ => rfl)) (pv 1) set_list))
      (pss_cons (ps_expr (pe_bm PySem.F.plainAttrs_list PySem.F.slot_list_append PySem.F.type_list_append mt_append (pe_ix ix_list (pv 0) pe_int (fun _ _ => rfl)) (pa_cons (pe_tup (pa_cons (pv 1) (pa_cons (pv 2) pa_nil))) pa_nil)))
      (pss_one (ps_asg (pe_op op_add (pe_ix ix_list (pe_ix ix_list (pv 0) pe_int (fun _ _ => rfl)) pe_int (fun _ _ => rfl)) pe_int) (pg_sub (pe_ix ix_list (pv 0) pe_int (fun _ _ => rfl)) pe_int set_list))))), ?_⟩
    refine ⟨_, rfl, _, rfl, U.q, _, 0, .ref U.a, rfl, rfl, SqL.of hU.hq, atI_nat (j := 0) rfl, _, rfl, U.a, cs, (i : Int), i, rfl, rfl, hU.ha, ix_at i hi, ?_⟩
    have q1 : (upd H U.a (.lst (cs.set i v))) U.q = some (.lst [.ref U.a, .ref U.b, .ref U.p, .ref U.n]) := (upd_ne qa).trans hU.hq
    have e1 : (upd H U.a (.lst (cs.set i v))) U.p = some (.lst (us.map V.ref)) := (upd_ne ap.symm).trans e
    refine ⟨_, rfl, U.q, _, 2, .ref U.p, rfl, rfl, SqL.of q1, atI_nat (j := 2) rfl, .inl ⟨rfl, _, SqL.of e1⟩, ?_⟩
    refine ⟨_, rfl, _, rfl, sz_le (by simp), fun t ht => ?_⟩
    have t1 := free_upd ht
    have qt : U.q ≠ t := ne_of_none hU.hq t1.1
    have at' : U.a ≠ t := t1.2.symm
    have bt : U.b ≠ t := ne_of_none hU.hb t1.1
    have pt : U.p ≠ t := ne_of_none e t1.1
    have nt : U.n ≠ t := ne_of_none hU.hn t1.1
    refine ⟨U.p, us.map V.ref, .ref t, rfl, rfl, (upd_ne pt).trans e1, ?_, ?_⟩
    · rw [List.length_map, pn.1]
      exact sz_lt (by omega)
    have q2 : (upd (upd (upd H U.a (.lst (cs.set i v))) t (.tup [.int (i : Int), v])) U.p (.lst (us.map V.ref ++ [.ref t]))) U.q = some (.lst [.ref U.a, .ref U.b, .ref U.p, .ref U.n]) := (upd_ne qp).trans ((upd_ne qt).trans q1)
    have n2 : (upd (upd (upd H U.a (.lst (cs.set i v))) t (.tup [.int (i : Int), v])) U.p (.lst (us.map V.ref ++ [.ref t]))) U.n = some (.lst [.int r, .int w', .int s']) := (upd_ne pnn.symm).trans ((upd_ne nt).trans ((upd_ne an.symm).trans hU.hn))
    refine ⟨_, rfl, U.q, _, 3, .ref U.n, rfl, rfl, SqL.of q2, atI_nat (j := 3) rfl, _, _, 1, .int w', rfl, rfl, SqL.of n2, atI_nat (j := 1) rfl, _, _, rfl, rfl, ?_⟩
    refine ⟨_, rfl, U.q, _, 3, .ref U.n, rfl, rfl, SqL.of q2, atI_nat (j := 3) rfl, U.n, _, 1, 1, rfl, rfl, n2, rfl, ?_⟩
    have f : Fr U.own H (upd (upd (upd (upd H U.a (.lst (cs.set i v))) t (.tup [.int (i : Int), v])) U.p (.lst (us.map V.ref ++ [.ref t]))) U.n (.lst [.int r, .int (w' + 1), .int s'])) :=
      (((Fr.put (by simp [Du.own])).trans (Fr.new ht)).trans (Fr.put (by simp [Du.own]))).trans (Fr.put (by simp [Du.own]))
    refine k _ f ⟨(upd_ne qn).trans q2, ?_, ?_, ⟨us ++ [t], ?_, (pn.keep f hU.notup).snoc ?_⟩, upd_same, hU.nd, by rw [List.length_set]; exact hU.len, fun z hz => ?_⟩
    · rw [upd_ne an, upd_ne ap, upd_ne at']
      exact upd_same
    · rw [upd_ne bn, upd_ne bp, upd_ne bt, upd_ne ab.symm]
      exact hU.hb
    · rw [upd_ne pnn, List.map_append]
      exact upd_same
    · rw [upd_ne nt.symm, upd_ne pt.symm]
      exact upd_same
    · rcases List.mem_append.mp hz with y | y
      · exact hU.ok z y
      · rw [List.mem_singleton.mp y, ← hU.len]
        exact hi
theorem ok_dueSync (T : Gx K mg) : FnOk P w K mg base CX0 1 T.f__law_sync T.fd__law_sync ["_law_disk_here"] spDueSync := by
  refine T.F__law_sync.ok sc__law_sync (fun vs H Q E h => ?_) (fun cdv A outer s H vs Q E hr h => ?_)
  · obtain ⟨U, cs, ls, ps, r, w', s', rfl, _⟩ := h
    rfl
  · obtain ⟨U, cs, ls, ps, r, w', s', rfl, hU, k⟩ := h
    obtain ⟨us, e, pn⟩ := hU.hp
    obtain ⟨⟨qa, qb, qp, qn⟩, ⟨ab, ap, an⟩, ⟨bp, bn⟩, pnn⟩ := hU.nd
    refine ⟨_, (pss_cons (ps_asg (pe_callTy call_list_of (by rfl) T.z_list (by decide +kernel) (pa_cons (pe_ix ix_list (pv 0) pe_int (fun _ _ => rfl)) pa_nil)) (pg_sub (pv 0) pe_int set_list))
      (pss_cons (ps_asg (pe_lst pa_nil) (pg_sub (pv 0) pe_int set_list))
      (pss_one (ps_asg (pe_op op_add (pe_ix ix_list (pe_ix ix_list (pv 0) pe_int (fun _ _ => rfl)) pe_int (fun _ _ => rfl)) pe_int) (pg_sub (pe_ix ix_list (pv 0) pe_int (fun _ _ => rfl)) pe_int set_list))))), ?_⟩
    refine ⟨_, rfl, U.q, _, 0, .ref U.a, rfl, rfl, SqL.of hU.hq, atI_nat (j := 0) rfl, U.a, cs, rfl, .inl (SqL.of hU.ha), fun b hb => ?_⟩
    have qb' : U.q ≠ b := ne_of_none hU.hq hb
    have ab' : U.a ≠ b := ne_of_none hU.ha hb
    have nb' : U.n ≠ b := ne_of_none hU.hn hb
    refine ⟨_, rfl, U.q, _, 1, 1, rfl, rfl, (upd_ne qb').trans hU.hq, rfl, ?_⟩
    refine ⟨sz_le (by simp), fun p hp => ?_⟩
    have p1 := free_upd hp
    have p2 := free_upd p1.1
    have ap' : U.a ≠ p := ne_of_none hU.ha p2.1
    have np' : U.n ≠ p := ne_of_none hU.hn p2.1
    refine ⟨_, rfl, U.q, _, 2, 2, rfl, rfl, (upd_ne p1.2.symm).trans upd_same, rfl, ?_⟩
    have q3 : (upd (upd (upd (upd H b (.lst cs)) U.q (.lst [.ref U.a, .ref b, .ref U.p, .ref U.n])) p (.lst [])) U.q (.lst [.ref U.a, .ref b, .ref p, .ref U.n])) U.q = some (.lst [.ref U.a, .ref b, .ref p, .ref U.n]) := upd_same
    have n3 : (upd (upd (upd (upd H b (.lst cs)) U.q (.lst [.ref U.a, .ref b, .ref U.p, .ref U.n])) p (.lst [])) U.q (.lst [.ref U.a, .ref b, .ref p, .ref U.n])) U.n = some (.lst [.int r, .int w', .int s']) := (upd_ne qn.symm).trans ((upd_ne np').trans ((upd_ne qn.symm).trans ((upd_ne nb').trans hU.hn)))
    refine ⟨_, rfl, U.q, _, 3, .ref U.n, rfl, rfl, SqL.of q3, atI_nat (j := 3) rfl, _, _, 2, .int s', rfl, rfl, SqL.of n3, atI_nat (j := 2) rfl, _, _, rfl, rfl, ?_⟩
    refine ⟨_, rfl, U.q, _, 3, .ref U.n, rfl, rfl, SqL.of q3, atI_nat (j := 3) rfl, U.n, _, 2, 2, rfl, rfl, n3, rfl, ?_⟩
    refine k ⟨U.q, U.a, b, p, U.n⟩ _ rfl (fun x hx => ?_) ?_ ⟨(upd_ne qn).trans q3, ?_, ?_, ⟨[], ?_, rfl, fun i t z e _ => by simp at e⟩, upd_same, ⟨⟨qa, qb', p1.2 |> fun _ => p1.2 |> fun _ => ?_, qn⟩, ⟨ab', ap', an⟩, ⟨?_, nb'.symm⟩, np'.symm⟩, rfl, fun z hz => by cases hz⟩
    · simp only [Du.own, List.mem_cons, List.not_mem_nil, or_false] at hx ⊢
      rcases hx with z | z | z | z | z
      · exact .inl (.inl z)
      · exact .inl (.inr (.inl z))
      · rw [z]; exact .inr hb
      · rw [z]; exact .inr p2.1
      · exact .inl (.inr (.inr (.inr (.inr z))))
    · exact ((((Fr.new hb).trans (Fr.put (by simp [Du.own]))).trans (Fr.new hp)).trans (Fr.put (by simp [Du.own]))).trans (Fr.put (by simp [Du.own]))
    · show (upd _ U.n _) U.a = _
      rw [upd_ne an, upd_ne qa.symm, upd_ne ap', upd_ne qa.symm, upd_ne ab']
      exact hU.ha
    · show (upd _ U.n _) b = _
      rw [upd_ne nb'.symm, upd_ne qb'.symm, upd_ne p2.2.symm, upd_ne qb'.symm]
      exact upd_same
    · show (upd _ U.n _) p = _
      rw [upd_ne np'.symm, upd_ne p1.2]
      exact upd_same
    · exact p1.2.symm
    · exact p2.2.symm
theorem ok_dueFail (T : Gx K mg) : FnOk P w K mg base CX0 1 T.f__law_fail T.fd__law_fail ["_law_disk_here", "_law_kept_here"] spDueFail := by
  refine T.F__law_fail.ok sc__law_fail (fun vs H Q E h => ?_) (fun cdv A outer s H vs Q E hr h => ?_)
  · obtain ⟨U, cs, ls, ps, r, w', s', kt, ks, rfl, _⟩ := h
    rfl
  · obtain ⟨U, cs, ls, ps, r, w', s', kt, ks, rfl, hU, hK, hasc, k⟩ := h
    obtain ⟨us, e, pn⟩ := hU.hp
    obtain ⟨⟨qa, qb, qp, qn⟩, ⟨ab, ap, an⟩, ⟨bp, bn⟩, pnn⟩ := hU.nd
    have kb : kt ≠ U.b := ne_of hK hU.hb (by simp)
    refine ⟨_, (pss_cons (ps_for PassesOwn.never rfl (pi_tup (pv 1)) (pg_name (i := 2) sc__law_fail.nd rfl (.inl rfl)) (pss_cons (ps_asg (pe_ix ix_list (pe_ix ix_list (pv 0) pe_int (fun _ _ => rfl)) (pv 2) (fun _ _ => rfl)) (pg_tup (by rfl) (pgs_cons (pg_name (i := 3) sc__law_fail.nd rfl (.inl rfl)) (pgs_cons (pg_name (i := 4) sc__law_fail.nd rfl (.inl rfl)) pgs_nil))))
      (pss_one (ps_asg (pv 4) (pg_sub (pe_ix ix_list (pv 0) pe_int (fun _ _ => rfl)) (pv 3) set_list)))))
      (pss_cons (ps_asg (pe_callTy call_list_of (by rfl) T.z_list (by decide +kernel) (pa_cons (pe_ix ix_list (pv 0) pe_int (fun _ _ => rfl)) pa_nil)) (pg_sub (pv 0) pe_int set_list))
      (pss_one (ps_asg (pe_lst pa_nil) (pg_sub (pv 0) pe_int set_list))))), ?_⟩
    refine ⟨_, rfl, kt, rfl, ⟨_, SqT.of hK⟩, for_tup (K := K) (a := kt) (xs := kepV ks) (fun i σ H' => Fr [U.b] H H' ∧ H' U.b = some (.lst (applyK ps ls (ks.take i))) ∧ ∃ (v2 v3 v4 : Option V), σ = [some (.ref U.q), some (.ref kt), v2, v3, v4]) ⟨Fr.refl _ _, hU.hb, none, none, none, rfl⟩ (fun i σ H' _ e => SqT.of (e.1 _ _ hK (by simpa using kb))) ?_ ?_⟩
    · rintro i x σ H' hi ⟨fr, el, v2, v3, v4, rfl⟩
      obtain ⟨kk, rfl, hk⟩ := kV_at hi
      have hlt : kk < ps.length := hasc.lt i kk hk
      have ep : ps[kk]? = some ps[kk] := List.getElem?_eq_getElem hlt
      have et : us[kk]? = some (us[kk]'(by rw [pn.1]; exact hlt)) := List.getElem?_eq_getElem (by rw [pn.1]; exact hlt)
      have etup := pn.2 kk _ _ et ep
      have tl : us[kk]'(by rw [pn.1]; exact hlt) ≠ U.b := ne_of etup hU.hb (by simp)
      have eq' := fr _ _ hU.hq (by simpa using qb)
      have ed := fr _ _ e (by simpa using bp.symm)
      have eu := fr _ _ etup (by simpa using tl)
      have hok : ps[kk].1 < (applyK ps ls (ks.take i)).length := by
        rw [applyK_len]
        exact hU.ok _ (List.getElem_mem hlt)
      refine ⟨_, rfl, U.q, _, 2, .ref U.p, rfl, rfl, SqL.of eq', atI_nat (j := 2) rfl, _, rfl, U.p, us.map V.ref, (kk : Int), .ref (us[kk]'(by rw [pn.1]; exact hlt)), rfl, rfl, SqL.of ed, atI_nat (by rw [List.getElem?_map, et]; rfl), ?_⟩
      refine ⟨_, _, rfl, SqT.of eu, rfl, _, _, rfl, _, _, rfl, rfl, ?_⟩
      refine ⟨_, rfl, _, rfl, U.q, _, 1, .ref U.b, rfl, rfl, SqL.of eq', atI_nat (j := 1) rfl, _, rfl, U.b, _, (ps[kk].1 : Int), ps[kk].1, rfl, rfl, el, ix_at _ hok, ?_⟩
      refine ⟨fr.trans (Fr.put (by simp)), ?_, _, _, _, rfl⟩
      rw [upd_same, List.take_add_one, hk]
      show _ = some (HO.lst (applyK ps ls (ks.take i ++ [kk])))
      rw [applyK_snoc]
      unfold stepK
      rw [ep]
    · rintro σ H1 ⟨fr, el, v2, v3, v4, rfl⟩
      rw [kepV_len, List.take_length] at el
      have eq' := fr _ _ hU.hq (by simpa using qb)
      refine ⟨_, rfl, U.q, _, 1, .ref U.b, rfl, rfl, SqL.of eq', atI_nat (j := 1) rfl, U.b, _, rfl, .inl (SqL.of el), fun a ha => ?_⟩
      have qa' : U.q ≠ a := ne_of_none eq' ha
      have ba' : U.b ≠ a := ne_of_none el ha
      have en := fr _ _ hU.hn (by simpa using bn.symm)
      have na' : U.n ≠ a := ne_of_none en ha
      have a0 : H a = none := by
        cases q : H a with
        | none => rfl
        | some o =>
          rw [fr _ _ q (by simpa using ba'.symm)] at ha
          cases ha
      refine ⟨_, rfl, U.q, _, 0, 0, rfl, rfl, (upd_ne qa').trans eq', rfl, ?_⟩
      refine ⟨sz_le (by simp), fun p hp => ?_⟩
      have p1 := free_upd hp
      have p2 := free_upd p1.1
      have bp' : U.b ≠ p := ne_of_none el p2.1
      have np' : U.n ≠ p := ne_of_none en p2.1
      have p0 : H p = none := by
        cases q : H p with
        | none => rfl
        | some o =>
          have := p2.1
          rw [fr _ _ q (by simpa using bp'.symm)] at this
          cases this
      refine ⟨_, rfl, U.q, _, 2, 2, rfl, rfl, (upd_ne p1.2.symm).trans upd_same, rfl, ?_⟩
      refine k ⟨U.q, a, U.b, p, U.n⟩ _ rfl (fun x hx => ?_) ?_ ⟨upd_same, ?_, ?_, ⟨[], ?_, rfl, fun i t z e _ => by simp at e⟩, ?_, ⟨⟨qa', qb, p1.2.symm, qn⟩, ⟨ba'.symm, p2.2.symm, na'.symm⟩, ⟨bp', bn⟩, np'.symm⟩, rfl, fun z hz => by cases hz⟩
      · simp only [Du.own, List.mem_cons, List.not_mem_nil, or_false] at hx ⊢
        rcases hx with z | z | z | z | z
        · exact .inl (.inl z)
        · rw [z]; exact .inr a0
        · exact .inl (.inr (.inr (.inl z)))
        · rw [z]; exact .inr p0
        · exact .inl (.inr (.inr (.inr (.inr z))))
      · exact ((((fr.mono (by simp [Du.own])).trans (Fr.new ha)).trans (Fr.put (by simp [Du.own]))).trans (Fr.new hp)).trans (Fr.put (by simp [Du.own]))
      · show (upd _ U.q _) a = _
        rw [upd_ne qa'.symm, upd_ne p2.2.symm, upd_ne qa'.symm]
        exact upd_same
      · show (upd _ U.q _) U.b = _
        rw [upd_ne qb.symm, upd_ne bp', upd_ne qb.symm, upd_ne ba']
        exact el
      · show (upd _ U.q _) p = _
        rw [upd_ne p1.2]
        exact upd_same
      · show (upd _ U.q _) U.n = _
        rw [upd_ne qn.symm, upd_ne np', upd_ne qn.symm, upd_ne na']
        exact en
end
/-! ### equal, by the law's own comparison -/
def Eqn (H : Hp) : Nat → V → V → Prop
  | 0, v, e => v = e ∧ isF e = true
  | n + 1, v, e => (v = e ∧ isF e = true) ∨ (∃ (a b : Addr) (xs ys : List V), v = .ref a ∧ e = .ref b ∧ ((H a = some (.tup xs) ∧ H b = some (.tup ys)) ∨ (H a = some (.lst xs) ∧ H b = some (.lst ys))) ∧ xs.length = ys.length ∧ ys.length ≤ 2000 ∧ ∀ (i : Nat) (x y : V), xs[i]? = some x → ys[i]? = some y → Eqn H n x y)
theorem Eqn.keep {H H' : Hp} (f : Fr [] H H') : ∀ {n : Nat} {v e : V}, Eqn H n v e → Eqn H' n v e
  | 0, _, _, h => h
  | n + 1, _, _, .inl h => .inl h
  | n + 1, _, _, .inr ⟨a, b, xs, ys, e1, e2, h, h3, h5, h4⟩ => by
    refine .inr ⟨a, b, xs, ys, e1, e2, ?_, h3, h5, fun i x y q1 q2 => Eqn.keep f (h4 i x y q1 q2)⟩
    rcases h with ⟨h1, h2⟩ | ⟨h1, h2⟩
    · exact .inl ⟨f _ _ h1 (by simp), f _ _ h2 (by simp)⟩
    · exact .inr ⟨f _ _ h1 (by simp), f _ _ h2 (by simp)⟩
theorem Eqn.flat {H : Hp} {v : V} (h : isF v = true) : ∀ n, Eqn H n v v
  | 0 => ⟨rfl, h⟩
  | _ + 1 => .inl ⟨rfl, h⟩
theorem Eqn.up {H : Hp} : ∀ {n : Nat} {v e : V}, Eqn H n v e → Eqn H (n + 1) v e
  | 0, _, _, h => .inl h
  | n + 1, _, _, .inl h => .inl h
  | n + 1, _, _, .inr ⟨a, b, xs, ys, e1, e2, h, h3, h5, h4⟩ => .inr ⟨a, b, xs, ys, e1, e2, h, h3, h5, fun i x y q1 q2 => Eqn.up (h4 i x y q1 q2)⟩
/-- two lists of plain contents -/
theorem Eqn.same {H : Hp} {n : Nat} {xs : List V} (h : ∀ v ∈ xs, Eqn H n v v) : ∀ (i : Nat) (x y : V), xs[i]? = some x → xs[i]? = some y → Eqn H n x y := fun i x y e1 e2 => by
  rw [e1] at e2
  cases e2
  exact h x (List.mem_of_getElem? e1)
def spEq (n : Nat) : Sp := fun vs H Q _ => ∃ v e : V, vs = [v, e] ∧ Eqn H n v e ∧ ∀ H', Fr [] H H' → Q (.bl true) H'
theorem ix_seqK {X : Cx} {K : PySem.W.Frag} (h : X.K = K) : IxR X (rIx K) := by
  subst h
  exact ix_seq
theorem len_bool {a b : Nat} (h : a = b) : (!decide (V.int (a : Int) = V.int (b : Int))) = false := by
  rw [h]
  simp
section
variable {P : Program} {w : World} {K : PySem.W.Frag} {mg : Str → Option Value} {base : Heap}
theorem ok_equal : ∀ (n : Nat) (T : Gx K mg), FnOk P w K mg base CX0 (n + 1) T.f__law_equal T.fd__law_equal ["_law_actual", "_law_expected"] (spEq n)
  | n, T => by
    refine T.F__law_equal.ok sc__law_equal (fun vs H Q E h => ?_) (fun cdv A outer s H vs Q E hr h => ?_)
    · obtain ⟨v, e, rfl, _⟩ := h
      rfl
    · obtain ⟨v, e, rfl, hE, k⟩ := h
      have leaf : v = e → isF e = true → (∃ t, PSs (cxOf CX0 P w K mg base ["_law_actual", "_law_expected", "_law_k"] "_law_equal" (defScope s__law_equal) T.f__law_equal cdv A outer s H E).nox (defBody s__law_equal) t ∧ t { nx := fun _ H' => Q .non H', rt := Q } (start ["_law_actual", "_law_expected", "_law_k"] [v, e]) H) := by
        intro hve hF
        subst hve
        refine ⟨_, (pss_cons (ps_if (pt_cmpR op_isN (pv 1) pe_non (nomark _)) (pss_one (ps_ret (pe_cmpR op_isN (pv 0) pe_non (nomark _)))) pss_nil)
          (pss_cons (ps_if (pt_val (pe_callB call_isi (by rfl) T.z_isinstance (by decide +kernel) (pa_cons (pv 1) (pa_cons (pe_bltn (v := .ty "bool") (by rfl) T.z_bool (by decide +kernel) rfl) pa_nil)))) (pss_one (ps_ret (pe_and (pe_callB call_isi (by rfl) T.z_isinstance (by decide +kernel) (pa_cons (pv 0) (pa_cons (pe_bltn (v := .ty "bool") (by rfl) T.z_bool (by decide +kernel) rfl) pa_nil))) (pe_one (pe_cmpR op_eq (pv 0) (pv 1) (nomark _)))))) pss_nil)
          (pss_cons (ps_if (pt_val (pe_callB call_isi (by rfl) T.z_isinstance (by decide +kernel) (pa_cons (pv 1) (pa_cons (pe_bltn (v := .ty "int") (by rfl) T.z_int (by decide +kernel) rfl) pa_nil)))) (pss_one (ps_ret (pe_and (pe_callB call_isi (by rfl) T.z_isinstance (by decide +kernel) (pa_cons (pv 0) (pa_cons (pe_bltn (v := .ty "int") (by rfl) T.z_int (by decide +kernel) rfl) pa_nil))) (pe_and (pe_not (pe_callB call_isi (by rfl) T.z_isinstance (by decide +kernel) (pa_cons (pv 0) (pa_cons (pe_bltn (v := .ty "bool") (by rfl) T.z_bool (by decide +kernel) rfl) pa_nil)))) (pe_one (pe_cmpR op_eq (pv 0) (pv 1) (nomark _))))))) pss_nil)
          pss_never))), ?_⟩
        have k0 := k H (Fr.refl _ _)
        cases v with
        | non =>
          exact ⟨_, rfl, rfl, _, rfl, iteT ⟨_, rfl, rfl, k0⟩⟩
        | bl b =>
          refine ⟨_, rfl, rfl, _, rfl, iteF ?_⟩
          refine ⟨_, rfl, _, .ty "bool", .type "bool", _, true, rfl, ClsV.ty "bool", .base (.bl b), kit_ty (by decide +kernel), _, rfl, iteT ?_⟩
          refine ⟨_, rfl, _, .ty "bool", .type "bool", _, true, rfl, ClsV.ty "bool", .base (.bl b), kit_ty (by decide +kernel), _, rfl, iteT ?_⟩
          refine ⟨_, rfl, _, rfl, rfl, ?_⟩
          show Q (.bl (decide (V.bl b = V.bl b))) _
          rw [decide_eq_true rfl]
          exact k0
        | int i =>
          refine ⟨_, rfl, rfl, _, rfl, iteF ?_⟩
          refine ⟨_, rfl, _, .ty "bool", .type "int", _, false, rfl, ClsV.ty "bool", .base (.int i), kit_ty (by decide +kernel), _, rfl, iteF ?_⟩
          refine ⟨_, rfl, _, .ty "int", .type "int", _, true, rfl, ClsV.ty "int", .base (.int i), kit_ty (by decide +kernel), _, rfl, iteT ?_⟩
          refine ⟨_, rfl, _, .ty "int", .type "int", _, true, rfl, ClsV.ty "int", .base (.int i), kit_ty (by decide +kernel), _, rfl, iteT ?_⟩
          refine ⟨_, rfl, _, .ty "bool", .type "int", _, false, rfl, ClsV.ty "bool", .base (.int i), kit_ty (by decide +kernel), _, rfl, _, rfl, iteT ?_⟩
          refine ⟨_, rfl, _, rfl, rfl, ?_⟩
          show Q (.bl (decide (V.int i = V.int i))) _
          rw [decide_eq_true rfl]
          exact k0
        | str _ => cases hF
        | byt _ => cases hF
        | flt _ => cases hF
        | ref _ => cases hF
        | ty _ => cases hF
      cases n with
      | zero => exact leaf hE.1 hE.2
      | succ n =>
        rcases hE with ⟨e1, e2⟩ | ⟨a, b, xs, ys, rfl, rfl, hab, hl, h2k, hi⟩
        · exact leaf e1 e2
        · have G__law_equal : FnOk P w K mg base CX0 (n + 1) T.f__law_equal T.fd__law_equal ["_law_actual", "_law_expected"] (spEq n) := ok_equal n T
          refine ⟨_, (pss_cons (ps_if (pt_cmpR op_isN (pv 1) pe_non (nomark _)) (pss_one (ps_ret (pe_cmpR op_isN (pv 0) pe_non (nomark _)))) pss_nil)
      (pss_cons (ps_if (pt_val (pe_callB call_isi (by rfl) T.z_isinstance (by decide +kernel) (pa_cons (pv 1) (pa_cons (pe_bltn (v := .ty "bool") (by rfl) T.z_bool (by decide +kernel) rfl) pa_nil)))) (pss_one (ps_ret (pe_and (pe_callB call_isi (by rfl) T.z_isinstance (by decide +kernel) (pa_cons (pv 0) (pa_cons (pe_bltn (v := .ty "bool") (by rfl) T.z_bool (by decide +kernel) rfl) pa_nil))) (pe_one (pe_cmpR op_eq (pv 0) (pv 1) (nomark _)))))) pss_nil)
      (pss_cons (ps_if (pt_val (pe_callB call_isi (by rfl) T.z_isinstance (by decide +kernel) (pa_cons (pv 1) (pa_cons (pe_bltn (v := .ty "int") (by rfl) T.z_int (by decide +kernel) rfl) pa_nil)))) (pss_one (ps_ret (pe_and (pe_callB call_isi (by rfl) T.z_isinstance (by decide +kernel) (pa_cons (pv 0) (pa_cons (pe_bltn (v := .ty "int") (by rfl) T.z_int (by decide +kernel) rfl) pa_nil))) (pe_and (pe_not (pe_callB call_isi (by rfl) T.z_isinstance (by decide +kernel) (pa_cons (pv 0) (pa_cons (pe_bltn (v := .ty "bool") (by rfl) T.z_bool (by decide +kernel) rfl) pa_nil)))) (pe_one (pe_cmpR op_eq (pv 0) (pv 1) (nomark _))))))) pss_nil)
      (pss_cons (ps_if (pt_val (pe_callB call_isi (by rfl) T.z_isinstance (by decide +kernel) (pa_cons (pv 1) (pa_cons (pe_bltn (v := .ty "str") (by rfl) T.z_str (by decide +kernel) rfl) pa_nil)))) (pss_one (ps_ret (pe_and (pe_callB call_isi (by rfl) T.z_isinstance (by decide +kernel) (pa_cons (pv 0) (pa_cons (pe_bltn (v := .ty "str") (by rfl) T.z_str (by decide +kernel) rfl) pa_nil))) (pe_one (pe_cmpR op_eq (pv 0) (pv 1) (nomark _)))))) pss_nil)
      (pss_cons (ps_if (pt_cmpR op_ne (pe_callB call_isi (by rfl) T.z_isinstance (by decide +kernel) (pa_cons (pv 1) (pa_cons (pe_bltn (v := .ty "tuple") (by rfl) T.z_tuple (by decide +kernel) rfl) pa_nil))) (pe_callB call_isi (by rfl) T.z_isinstance (by decide +kernel) (pa_cons (pv 0) (pa_cons (pe_bltn (v := .ty "tuple") (by rfl) T.z_tuple (by decide +kernel) rfl) pa_nil))) (nomark _)) (pss_one (ps_ret pe_bl)) pss_nil)
      (pss_cons (ps_if (pt_cmpR op_ne (pe_callB call_isi (by rfl) T.z_isinstance (by decide +kernel) (pa_cons (pv 1) (pa_cons (pe_bltn (v := .ty "list") (by rfl) T.z_list (by decide +kernel) rfl) pa_nil))) (pe_callB call_isi (by rfl) T.z_isinstance (by decide +kernel) (pa_cons (pv 0) (pa_cons (pe_bltn (v := .ty "list") (by rfl) T.z_list (by decide +kernel) rfl) pa_nil))) (nomark _)) (pss_one (ps_ret pe_bl)) pss_nil)
      (pss_cons (ps_if (pt_cmpR op_ne (pe_callB call_len_seq (by rfl) T.z_len (by decide +kernel) (pa_cons (pv 0) pa_nil)) (pe_callB call_len_seq (by rfl) T.z_len (by decide +kernel) (pa_cons (pv 1) pa_nil)) (nomark _)) (pss_one (ps_ret pe_bl)) pss_nil)
      (pss_one (ps_ret (pe_callB (cr_all rfl) (by rfl) T.z_all (by decide +kernel) (pa_cons (pe_lc (own := [("_law_k", 2)]) (g := gName 2) rfl sc__law_equal.nd (pi_range1 (by rfl) T.z_range (pa_cons (pe_callB call_len_seq (by rfl) T.z_len (by decide +kernel) (pa_cons (pv 1) pa_nil)) pa_nil)) (blkOk_by (N := ["_law_actual", "_law_expected", "_law_k"]) (sc := defScope s__law_equal) (by decide +kernel)) (fun _ _ _ _ _ => pg_name (i := 2) sc__law_equal.nd rfl (.inl rfl)) (fun _ _ _ _ _ => pts_nil) (fun _ _ _ _ _ => (pe_call G__law_equal (hr.mono (by first | decide | omega)) (by rfl) T.g__law_equal T.F__law_equal.kp (b__law_equal T) .nil pass0 (pa_cons (pe_ix (ix_seqK (K := K) rfl) (pv 0) (pv 2) (fun _ _ => rfl)) (pa_cons (pe_ix (ix_seqK (K := K) rfl) (pv 1) (pv 2) (fun _ _ => rfl)) pa_nil))))) pa_nil))))))))))), ?_⟩
          obtain ⟨ty, ta, tb, t1, t2, t3, t4, bt, bl, t5, t6⟩ : ∃ ty : String, TyX K H (.ref a) (.type ty) ∧ TyX K H (.ref b) (.type ty) ∧ kitB ty "bool" = some false ∧ kitB ty "int" = some false ∧ kitB ty "str" = some false ∧ (SqL K H a xs ∧ SqL K H b ys ∨ SqT K H a xs ∧ SqT K H b ys) ∧ ∃ bt bl : Bool, kitB ty "tuple" = some bt ∧ kitB ty "list" = some bl := by
            rcases hab with ⟨h1, h2⟩ | ⟨h1, h2⟩
            · exact ⟨"tuple", .base (.tup h1), .base (.tup h2), by decide +kernel, by decide +kernel, by decide +kernel, .inr ⟨SqT.of h1, SqT.of h2⟩, true, false, by decide +kernel, by decide +kernel⟩
            · exact ⟨"list", .base (.lst h1), .base (.lst h2), by decide +kernel, by decide +kernel, by decide +kernel, .inl ⟨SqL.of h1, SqL.of h2⟩, false, true, by decide +kernel, by decide +kernel⟩
          refine ⟨_, rfl, rfl, _, rfl, iteF ?_⟩
          refine ⟨_, rfl, _, .ty "bool", .type ty, _, false, rfl, ClsV.ty "bool", tb, kit_ty t1, _, rfl, iteF ?_⟩
          refine ⟨_, rfl, _, .ty "int", .type ty, _, false, rfl, ClsV.ty "int", tb, kit_ty t2, _, rfl, iteF ?_⟩
          refine ⟨_, rfl, _, .ty "str", .type ty, _, false, rfl, ClsV.ty "str", tb, kit_ty t3, _, rfl, iteF ?_⟩
          refine ⟨_, rfl, _, .ty "tuple", .type ty, _, bt, rfl, ClsV.ty "tuple", tb, kit_ty t5, _, rfl, _, .ty "tuple", .type ty, _, bt, rfl, ClsV.ty "tuple", ta, kit_ty t5, rfl, _, rfl, ?_⟩
          rw [decide_eq_true rfl]
          refine iteF ?_
          refine ⟨_, rfl, _, .ty "list", .type ty, _, bl, rfl, ClsV.ty "list", tb, kit_ty t6, _, rfl, _, .ty "list", .type ty, _, bl, rfl, ClsV.ty "list", ta, kit_ty t6, rfl, _, rfl, ?_⟩
          rw [decide_eq_true rfl]
          refine iteF ?_
          have sa : SqL K H a xs ∨ SqT K H a xs := t4.elim (fun z => .inl z.1) (fun z => .inr z.1)
          have sb : SqL K H b ys ∨ SqT K H b ys := t4.elim (fun z => .inl z.2) (fun z => .inr z.2)
          refine ⟨_, rfl, a, xs, rfl, sa, _, rfl, b, ys, rfl, sb, rfl, _, rfl, ?_⟩
          rw [len_bool hl]
          refine iteF ?_
          refine ⟨_, rfl, b, ys, rfl, sb, (ys.length : Int), rfl, by omega, by omega, fun D hD => ?_⟩
          rw [Int.toNat_natCast]
          refine lc_range (lo := 0) (n := ys.length) (fun i H' => Fr [] H H' ∧ H' D = some (.lst ((List.replicate i true).map V.bl))) ⟨Fr.new hD, upd_same⟩ ?_ ?_
          · rintro i H1 hil ⟨f, eD⟩
            have hx : xs[i]? = some (xs[i]'(by omega)) := List.getElem?_eq_getElem (by omega)
            have hy : ys[i]? = some ys[i] := List.getElem?_eq_getElem hil
            have ea : atI xs ((0 : Int) + (i : Int)) = some (xs[i]'(by omega)) := at_of (by omega) hx
            have eb : atI ys ((0 : Int) + (i : Int)) = some ys[i] := at_of (by omega) hy
            refine ⟨rfl, _, rfl, _, rfl, ?_⟩
            have step : ∀ H2, Fr [] H1 H2 → ∃ acc, H2 D = some (.lst acc) ∧ acc.length < sizeLine ∧ Fr [] H (upd H2 D (.lst (acc ++ [.bl true]))) ∧ (upd H2 D (.lst (acc ++ [V.bl true]))) D = some (.lst ((List.replicate (i + 1) true).map V.bl)) := fun H2 f2 => by
              refine ⟨_, f2 _ _ eD (by simp), ?_, ?_, ?_⟩
              · rw [List.length_map, List.length_replicate]
                exact sz_lt (by omega)
              · intro c o ec _
                rw [upd_ne (ne_of_none ec hD)]
                exact (f.trans f2) c o ec (by simp)
              · rw [upd_same, List.replicate_succ', List.map_append]
                rfl
            have fin : spEq n [xs[i]'(by omega), ys[i]] H1 (fun y H4 => ∃ acc, H4 D = some (.lst acc) ∧ acc.length < sizeLine ∧ Fr [] H (upd H4 D (.lst (acc ++ [y]))) ∧ (upd H4 D (.lst (acc ++ [y]))) D = some (.lst ((List.replicate (i + 1) true).map V.bl))) E0 :=
              ⟨_, _, rfl, (hi i _ _ hx hy).keep f, fun H2 f2 => step H2 f2⟩
            rcases t4 with ⟨s1, s2⟩ | ⟨s1, s2⟩
            · exact .inl ⟨a, xs, _, _, rfl, rfl, f.seq (by simp) s1, ea, _, rfl, _, rfl, .inl ⟨b, ys, _, _, rfl, rfl, f.seq (by simp) s2, eb, fin⟩⟩
            · exact .inr (.inl ⟨a, xs, _, _, rfl, rfl, f.tup (by simp) s1, ea, _, rfl, _, rfl, .inr (.inl ⟨b, ys, _, _, rfl, rfl, f.tup (by simp) s2, eb, fin⟩)⟩)
          · rintro H1 ⟨f, eD⟩
            refine ⟨D, List.replicate ys.length true, rfl, SqL.of eD, ?_⟩
            have : (List.replicate ys.length true).all id = true := by simp
            rw [this]
            exact k _ f
end
/-! ### the law -/
theorem Eqn.tup {H : Hp} {n : Nat} {a b : Addr} {xs : List V} (h1 : H a = some (.tup xs)) (h2 : H b = some (.tup xs)) (h : ∀ v ∈ xs, Eqn H n v v) (hl : xs.length ≤ 2000) : Eqn H (n + 1) (.ref a) (.ref b) :=
  .inr ⟨a, b, xs, xs, rfl, rfl, .inl ⟨h1, h2⟩, rfl, hl, Eqn.same h⟩
theorem Eqn.nil {H : Hp} {n : Nat} {a b : Addr} (h1 : H a = some (.lst [])) (h2 : H b = some (.lst [])) : Eqn H (n + 1) (.ref a) (.ref b) :=
  .inr ⟨a, b, [], [], rfl, rfl, .inr ⟨h1, h2⟩, rfl, by simp, fun i x y e _ => by simp at e⟩
theorem Eqn.four {H : Hp} {n : Nat} {a b : Addr} {x0 x1 x2 x3 y0 y1 y2 y3 : V} (h1 : H a = some (.lst [x0, x1, x2, x3])) (h2 : H b = some (.lst [y0, y1, y2, y3])) (e0 : Eqn H n x0 y0) (e1 : Eqn H n x1 y1) (e2 : Eqn H n x2 y2) (e3 : Eqn H n x3 y3) : Eqn H (n + 1) (.ref a) (.ref b) :=
  .inr ⟨a, b, _, _, rfl, rfl, .inr ⟨h1, h2⟩, rfl, by simp, fun i x y p q => match i, p, q with
    | 0, p, q => by cases p; cases q; exact e0
    | 1, p, q => by cases p; cases q; exact e1
    | 2, p, q => by cases p; cases q; exact e2
    | 3, p, q => by cases p; cases q; exact e3
    | _ + 4, p, _ => by simp at p⟩
def spLaw (K : PySem.W.Frag) : Sp := fun vs H Q _ => ∃ (a : Addr) (ns : List Int), vs = [.ref a] ∧ SqL K H a (ns.map V.int) ∧ ns.length ≤ 63 ∧ ∀ H', Q (.bl true) H'
/-- a disk and the law's lists say the same -/
structure Wl (C : Addr) (H : Hp) (r : Addr) (n : Nat) (D : Dk) (U : Du) (cs ls : List V) (ps : List (Nat × V)) (x y z : Int) : Prop where
  rnd : Rnd H r
  hD : DiskAt C H D cs ls ps x y z
  hU : DueAt H U cs ls ps x y z
  sep : Sep D.own U.own
  rD : r ∉ D.own
  rU : r ∉ U.own
  nc : cs.length = n
  nl : ls.length = n
  fc : AllF cs
  fl : AllF ls
  fp : ∀ q ∈ ps, isF q.2 = true
section
variable {C : Addr} {H H' : Hp} {r : Addr} {n : Nat} {D : Dk} {U : Du} {cs ls : List V} {ps : List (Nat × V)} {x y z : Int}
theorem Wl.new {p : Addr} {o : HO} (W : Wl C H r n D U cs ls ps x y z) (hp : H p = none) : Wl C (upd H p o) r n D U cs ls ps x y z :=
  ⟨W.rnd.new hp, W.hD.new hp, W.hU.new hp, W.sep, W.rD, W.rU, W.nc, W.nl, W.fc, W.fl, W.fp⟩
theorem Wl.draw (W : Wl C H r n D U cs ls ps x y z) (f : Fr [r] H H') (R : Rnd H' r) : Wl C H' r n D U cs ls ps x y z :=
  ⟨R, W.hD.draw W.rnd W.rD f, W.hU.draw W.rnd W.rU f, W.sep, W.rD, W.rU, W.nc, W.nl, W.fc, W.fl, W.fp⟩
end
section
variable {P : Program} {w : World} {K : PySem.W.Frag} {mg : Str → Option Value} {base : Heap}
theorem ok_law {f : Addr} {fd : FuncData} (F : Fun K "law" "law" s_law f fd) (T : Gx K mg) : FnOk P w K mg base CX0 6 f fd ["_law_script"] (spLaw K) := by
  have G__law_below : FnOk P w K mg base CX0 1 T.f__law_below T.fd__law_below ["_law_d", "_law_limit"] spBelow := ok_below T
  have G__law_random : FnOk P w K mg base CX0 1 T.f__law_random T.fd__law_random ["_law_script", "_law_salt"] (spRandom K) := ok_random T
  have G__law_kept : FnOk P w K mg base CX0 2 T.f__law_kept T.fd__law_kept ["_law_d", "_law_many"] spKept := ok_kept T
  have G_Disk___init__ : FnOk P w K mg base CX0 3 T.f_Disk___init__ T.fd_Disk___init__ ["self", "cells", "content"] (spInit T.C_Disk) := ok_init T
  have G_Disk_write : FnOk P w K mg base CX0 4 T.f_Disk_write T.fd_Disk_write ["self", "cell", "content"] (spWrite T.C_Disk) := ok_write T
  have G_Disk_sync : FnOk P w K mg base CX0 1 T.f_Disk_sync T.fd_Disk_sync ["self"] (spSync T.C_Disk) := ok_sync T
  have G_Disk_fail : FnOk P w K mg base CX0 4 T.f_Disk_fail T.fd_Disk_fail ["self", "kept"] (spFail T.C_Disk) := ok_fail T
  have G_Disk_contents : FnOk P w K mg base CX0 1 T.f_Disk_contents T.fd_Disk_contents ["self"] (spContents T.C_Disk) := ok_contents T
  have G_Disk_lasting : FnOk P w K mg base CX0 1 T.f_Disk_lasting T.fd_Disk_lasting ["self"] (spLasting T.C_Disk) := ok_lasting T
  have G_Disk_pending : FnOk P w K mg base CX0 1 T.f_Disk_pending T.fd_Disk_pending ["self"] (spPending T.C_Disk) := ok_pending T
  have G_Disk_counts : FnOk P w K mg base CX0 1 T.f_Disk_counts T.fd_Disk_counts ["self"] (spCounts T.C_Disk) := ok_counts T
  have G__law_disk : FnOk P w K mg base CX0 1 T.f__law_disk T.fd__law_disk ["_law_cells", "_law_what"] spMkDue := ok_mkDue T
  have G__law_put : FnOk P w K mg base CX0 1 T.f__law_put T.fd__law_put ["_law_disk_here", "_law_cell", "_law_what"] spPut := ok_put T
  have G__law_sync : FnOk P w K mg base CX0 1 T.f__law_sync T.fd__law_sync ["_law_disk_here"] spDueSync := ok_dueSync T
  have G__law_fail : FnOk P w K mg base CX0 1 T.f__law_fail T.fd__law_fail ["_law_disk_here", "_law_kept_here"] spDueFail := ok_dueFail T
  have G__law_equal : FnOk P w K mg base CX0 5 T.f__law_equal T.fd__law_equal ["_law_actual", "_law_expected"] (spEq 4) := ok_equal 4 T
  obtain ⟨_, kb_Disk⟩ := T.F_Disk___init__.kbinds0 (ps := ["self", "cells", "content"]) 2 ["content"] [] (fun vs mz zs => vs ++ zs) (by simp) (by simp) (fun a _ b => a.append b)
    (fun D doc pm an cdv ct us mv ws hu hm hw => match us, hu, mv, hm, ws, hw with | [_, _], _, [], _, [_], _ => rfl)
  refine F.ok sc_law (fun vs H Q E h => ?_) (fun cdv A outer s H vs Q E hr h => ?_)
  · obtain ⟨a, ns, rfl, _⟩ := h
    rfl
  · obtain ⟨a, ns, rfl, hS, hlen, k⟩ := h
    refine ⟨_, (pss_cons (ps_set (i := 1) sc_law.nd rfl (.inl rfl) (pe_call G__law_random (hr.mono (by first | decide | omega)) (by rfl) T.g__law_random T.F__law_random.kp (b__law_random T) .nil pass0 (pa_cons (pv 0) (pa_cons pe_int pa_nil))))
      (pss_cons (ps_for PassesOwn.never rfl (pi_range1 (by rfl) T.z_range (pa_cons pe_int pa_nil)) (pg_name (i := 2) sc_law.nd rfl (.inl rfl)) (pss_cons (ps_set (i := 3) sc_law.nd rfl (.inl rfl) (pe_op op_add pe_int (pe_call G__law_below (hr.mono (by first | decide | omega)) (by rfl) T.g__law_below T.F__law_below.kp (b__law_below T) .nil pass0 (pa_cons (pv 1) (pa_cons pe_int pa_nil)))))
      (pss_cons (ps_par (i := 4) (j := 5) (by rfl) sc_law.nd rfl rfl (by decide) rfl rfl (pa_cons (pe_makeK T.M_Disk___init__ G_Disk___init__ (hr.mono (by first | decide | omega)) (by rfl) T.gC_Disk kb_Disk pass0 (pa_cons (pv 3) pa_nil) (pk_cons pe_int pk_nil)) (pa_cons (pe_call G__law_disk (hr.mono (by first | decide | omega)) (by rfl) T.g__law_disk T.F__law_disk.kp (b__law_disk T) .nil pass0 (pa_cons (pv 3) (pa_cons pe_int pa_nil))) pa_nil)) (by rfl))
      (pss_one (ps_for PassesOwn.never rfl (pi_range1 (by rfl) T.z_range (pa_cons (pe_call G__law_below (hr.mono (by first | decide | omega)) (by rfl) T.g__law_below T.F__law_below.kp (b__law_below T) .nil pass0 (pa_cons (pv 1) (pa_cons pe_int pa_nil))) pa_nil)) (pg_name (i := 6) sc_law.nd rfl (.inl rfl)) (pss_cons (ps_for PassesOwn.never rfl (pi_range1 (by rfl) T.z_range (pa_cons (pe_call G__law_below (hr.mono (by first | decide | omega)) (by rfl) T.g__law_below T.F__law_below.kp (b__law_below T) .nil pass0 (pa_cons (pv 1) (pa_cons pe_int pa_nil))) pa_nil)) (pg_name (i := 7) sc_law.nd rfl (.inl rfl)) (pss_cons (ps_par (i := 8) (j := 9) (by rfl) sc_law.nd rfl rfl (by decide) rfl rfl (pa_cons (pe_call G__law_below (hr.mono (by first | decide | omega)) (by rfl) T.g__law_below T.F__law_below.kp (b__law_below T) .nil pass0 (pa_cons (pv 1) (pa_cons (pv 3) pa_nil))) (pa_cons (pe_ix ix_list (pe_lst (pa_cons pe_non (pa_cons (pe_call G__law_below (hr.mono (by first | decide | omega)) (by rfl) T.g__law_below T.F__law_below.kp (b__law_below T) .nil pass0 (pa_cons (pv 1) (pa_cons pe_int pa_nil))) pa_nil))) (pe_call G__law_below (hr.mono (by first | decide | omega)) (by rfl) T.g__law_below T.F__law_below.kp (b__law_below T) .nil pass0 (pa_cons (pv 1) (pa_cons pe_int pa_nil))) (fun _ _ => rfl)) pa_nil)) (by rfl))
      (pss_cons (ps_expr (pe_meth (pv 4) T.cl_Disk T.m_Disk_write G_Disk_write (hr.mono (by first | decide | omega)) (b_Disk_write T) .nil pass0 (pa_cons (pv 8) (pa_cons (pv 9) pa_nil))))
      (pss_one (ps_expr (pe_call G__law_put (hr.mono (by first | decide | omega)) (by rfl) T.g__law_put T.F__law_put.kp (b__law_put T) .nil pass0 (pa_cons (pv 5) (pa_cons (pv 8) (pa_cons (pv 9) pa_nil)))))))))
      (C8.pss_cut (ps_if (pt_cmpR op_eq (pe_call G__law_below (hr.mono (by first | decide | omega)) (by rfl) T.g__law_below T.F__law_below.kp (b__law_below T) .nil pass0 (pa_cons (pv 1) (pa_cons pe_int pa_nil))) pe_int (nomark _)) (pss_cons (ps_expr (pe_meth0 (pv 4) T.cl_Disk T.m_Disk_sync G_Disk_sync (hr.mono (by first | decide | omega)) (b_Disk_sync T) .nil pass0))
      (pss_one (ps_expr (pe_call G__law_sync (hr.mono (by first | decide | omega)) (by rfl) T.g__law_sync T.F__law_sync.kp (b__law_sync T) .nil pass0 (pa_cons (pv 5) pa_nil))))) (pss_cons (ps_set (i := 10) sc_law.nd rfl (.inl rfl) (pe_call G__law_kept (hr.mono (by first | decide | omega)) (by rfl) T.g__law_kept T.F__law_kept.kp (b__law_kept T) .nil pass0 (pa_cons (pv 1) (pa_cons (pe_callB call_len_seq (by rfl) T.z_len (by decide +kernel) (pa_cons (pe_ix ix_list (pv 5) pe_int (fun _ _ => rfl)) pa_nil)) pa_nil))))
      (pss_cons (ps_expr (pe_meth (pv 4) T.cl_Disk T.m_Disk_fail G_Disk_fail (hr.mono (by first | decide | omega)) (b_Disk_fail T) .nil pass0 (pa_cons (pv 10) pa_nil)))
      (pss_one (ps_expr (pe_call G__law_fail (hr.mono (by first | decide | omega)) (by rfl) T.g__law_fail T.F__law_fail.kp (b__law_fail T) .nil pass0 (pa_cons (pv 5) (pa_cons (pv 10) pa_nil))))))))
      (pss_cons (ps_set (i := 11) sc_law.nd rfl (.inl rfl) (pe_lst (pa_cons (pe_prop (pv 4) T.cl_Disk T.P_Disk_contents G_Disk_contents (hr.mono (by first | decide | omega)) (b_Disk_contents T) .nil pass0 rfl) (pa_cons (pe_prop (pv 4) T.cl_Disk T.P_Disk_lasting G_Disk_lasting (hr.mono (by first | decide | omega)) (b_Disk_lasting T) .nil pass0 rfl) (pa_cons (pe_prop (pv 4) T.cl_Disk T.P_Disk_pending G_Disk_pending (hr.mono (by first | decide | omega)) (b_Disk_pending T) .nil pass0 rfl) (pa_cons (pe_prop (pv 4) T.cl_Disk T.P_Disk_counts G_Disk_counts (hr.mono (by first | decide | omega)) (b_Disk_counts T) .nil pass0 rfl) pa_nil))))))
      (pss_one (ps_if (pt_not (pt_val (pe_call G__law_equal (hr.mono (by first | decide | omega)) (by rfl) T.g__law_equal T.F__law_equal.kp (b__law_equal T) .nil pass0 (pa_cons (pv 11) (pa_cons (pe_lst (pa_cons (pe_callTy call_tuple_of (by rfl) T.z_tuple (by decide +kernel) (pa_cons (pe_ix ix_list (pv 5) pe_int (fun _ _ => rfl)) pa_nil)) (pa_cons (pe_callTy call_tuple_of (by rfl) T.z_tuple (by decide +kernel) (pa_cons (pe_ix ix_list (pv 5) pe_int (fun _ _ => rfl)) pa_nil)) (pa_cons (pe_ix ix_list (pv 5) pe_int (fun _ _ => rfl)) (pa_cons (pe_callTy call_tuple_of (by rfl) T.z_tuple (by decide +kernel) (pa_cons (pe_ix ix_list (pv 5) pe_int (fun _ _ => rfl)) pa_nil)) pa_nil))))) pa_nil))))) (pss_one (ps_ret pe_bl)) pss_nil))))))))))
      (pss_one (ps_ret pe_bl)))), ?_⟩
    -- the random list
    refine ⟨_, rfl, a, 2, ns, rfl, hS, hlen, fun r H1 r0 f1 R1 => ?_⟩
    refine ⟨4, rfl, by decide, by decide, for_range (lo := 0) (n := 4) (fun i σ H' => ∃ (v2 v3 v4 v5 v6 v7 v8 v9 v10 v11 : Option V), σ = [some (.ref a), some (.ref r), v2, v3, v4, v5, v6, v7, v8, v9, v10, v11] ∧ Rnd H' r)
      ⟨_, _, _, _, _, _, _, _, _, _, rfl, R1⟩ ?_ (fun σ H' h => by obtain ⟨_, _, _, _, _, _, _, _, _, _, rfl, _⟩ := h; exact k _)⟩
    rintro i σ H2 hi ⟨v2, v3, v4, v5, v6, v7, v8, v9, v10, v11, rfl, R2⟩
    -- how many cells
    refine ⟨_, rfl, r, 5, rfl, R2, by decide, by decide, fun z H3 hz f3 R3 => ⟨_, _, rfl, rfl, ?_⟩⟩
    obtain ⟨n, hn, hn1, hn2⟩ : ∃ n : Nat, (1 : Int) + (z : Int) = (n : Int) ∧ 1 ≤ n ∧ n ≤ 5 := ⟨1 + z, by omega, by omega, by omega⟩
    show gName 3 (V.int ((1 : Int) + (z : Int))) _ _ _
    rw [hn]
    have R3' : Rnd H3 r := R3
    -- the disk, the lists
    refine ⟨_, rfl, rfl, rfl, fun p dx hp hdx hne => ⟨p, dx, n, .int 0, rfl, hn1, by omega, upd_same, fun D H4 eD f4 hD c0 l0 d0 => ⟨rfl, ?_⟩⟩⟩
    have g4 := made_fr hp hdx f4
    have nD : ∀ b ∈ D.own, H3 b = none := fun b hb => by
      simp only [Dk.own, List.mem_cons, List.not_mem_nil, or_false] at hb
      rcases hb with e | e | e | e
      · rw [e, eD]; exact hp
      · rw [e]; exact made_none c0
      · rw [e]; exact made_none l0
      · rw [e]; exact made_none d0
    have R4 : Rnd H4 r := R3.keep g4 (by simp)
    have rD : r ∉ D.own := R3.some.elim fun o e => out_of_new e nD
    refine ⟨_, rfl, n, .int 0, rfl, by omega, fun U H5 f5 nU hU => ?_⟩
    have R5 : Rnd H5 r := R4.keep f5 (by simp)
    have rU : r ∉ U.own := R4.some.elim fun o e => out_of_new e nU
    have sep : Sep D.own U.own := fun b hb ht => by
      obtain ⟨o, e⟩ := hD.there b hb
      rw [nU b ht] at e
      cases e
    have hD5 := hD.keep f5 (by simp) (by simp)
    subst eD
    have W5 : Wl T.C_Disk H5 r n D U (List.replicate n (.int 0)) (List.replicate n (.int 0)) [] 0 0 0 :=
      ⟨R5, hD5, hU, sep, rD, rU, by simp, by simp, AllF.rep n rfl, AllF.rep n rfl, fun q hq => by cases hq⟩
    clear hD hD5 hU sep rD rU R5 R4 nD nU f5 g4 f4 hp hdx hne c0 l0 d0
    -- the turns
    refine ⟨_, _, rfl, ?_⟩
    refine ⟨_, rfl, r, 5, rfl, W5.rnd, by decide, by decide, fun z6 H6 hz6 f6 R6 => ?_⟩
    refine ⟨_, rfl, by omega, by omega, ?_⟩
    refine for_range (lo := 0) (n := ((z6 : Int)).toNat) (fun i σ H' => ∃ (D : Dk) (U : Du) (cs ls : List V) (x y z : Int) (v2 v6 v7 v8 v9 v10 v11 : Option V), σ = [some (.ref a), some (.ref r), v2, some (.int (n : Int)), some (.ref D.p), some (.ref U.q), v6, v7, v8, v9, v10, v11] ∧ Wl T.C_Disk H' r n D U cs ls [] x y z)
      ⟨D, U, _, _, _, _, _, _, _, _, _, _, _, _, rfl, W5.draw f6 R6⟩ ?_ (fun σ H' h => by obtain ⟨D, U, _, _, _, _, _, _, _, _, _, _, _, _, rfl, W⟩ := h; exact ⟨_, _, _, _, _, _, _, _, _, _, rfl, W.rnd⟩)
    clear W5 D U
    rintro j σ H7 hj ⟨D, U, cs, ls, x, y, z, v2, v6, v7, v8, v9, v10, v11, rfl, W7⟩
    -- writes
    refine ⟨_, rfl, r, 7, rfl, W7.rnd, by decide, by decide, fun z8 H8 hz8 f8 R8 => ?_⟩
    refine ⟨_, rfl, by omega, by omega, ?_⟩
    refine for_range (lo := 0) (n := ((z8 : Int)).toNat) (fun i σ H' => ∃ (cs : List V) (ps : List (Nat × V)) (y : Int) (v2 v6 v7 v8 v9 : Option V), σ = [some (.ref a), some (.ref r), v2, some (.int (n : Int)), some (.ref D.p), some (.ref U.q), v6, v7, v8, v9, v10, v11] ∧ Wl T.C_Disk H' r n D U cs ls ps x y z ∧ ps.length = i)
      ⟨cs, [], y, _, _, _, _, _, rfl, W7.draw f8 R8, rfl⟩ ?_ ?_
    · clear W7 cs y
      rintro jj σ H9 hjj ⟨cs, ps, y, v2, v6, v7, v8, v9, rfl, W, hps⟩
      refine ⟨_, rfl, _, rfl, r, n, rfl, W.rnd, by omega, by omega, fun z10 H10 hz10 f10 R10 => ?_⟩
      have W10 := W.draw f10 R10
      refine ⟨_, rfl, r, 99, rfl, W10.rnd, by decide, by decide, fun z11 H11 hz11 f11 R11 => ?_⟩
      have W11 := W10.draw f11 R11
      refine ⟨sz_le (by simp), fun l hl => ?_⟩
      have W12 := W11.new (o := .lst [.non, .int (z11 : Int)]) hl
      refine ⟨_, rfl, r, 2, rfl, W12.rnd, by decide, by decide, fun z13 H13 hz13 f13 R13 => ?_⟩
      have W13 := W12.draw f13 R13
      have lr : l ≠ r := by
        obtain ⟨o, e⟩ := W11.rnd.some
        exact (ne_of_none e hl).symm
      have el : H13 l = some (.lst [.non, .int (z11 : Int)]) := f13 _ _ upd_same (by simpa using lr)
      obtain ⟨v, hv, fv⟩ : ∃ v, atI ([.non, .int (z11 : Int)] : List V) (z13 : Int) = some v ∧ isF v = true := by
        rcases Nat.lt_succ_iff_lt_or_eq.mp hz13 with e | e
        · have e0 : z13 = 0 := by omega
          subst e0
          exact ⟨.non, atI_nat (j := 0) rfl, rfl⟩
        · subst e
          exact ⟨.int z11, atI_nat (j := 1) rfl, rfl⟩
      refine ⟨l, _, _, v, rfl, rfl, SqL.of el, hv, _, _, rfl, ?_⟩
      -- write, put
      refine ⟨_, rfl, D.p, D.dx, _, rfl, W13.hD.ins, dF_no_write, _, rfl, _, rfl, D, cs, ls, ps, x, y, z, z10, v, rfl, W13.hD, by rw [W.nc]; exact hz10, by omega, fun H14 f14 hD14 => ?_⟩
      have hU14 := W13.hU.other W13.hD W13.sep.symm f14
      have R14 := W13.rnd.keep f14 W.rD
      refine ⟨_, rfl, _, rfl, _, rfl, U, cs, ls, ps, x, y, z, z10, v, rfl, hU14, by rw [W.nc]; exact hz10, by omega, fun H15 f15 hU15 => ?_⟩
      refine ⟨_, _, _, _, _, _, _, _, rfl, ⟨R14.keep f15 W.rU, hD14.due hU14 W.sep f15, hU15, W.sep, W.rD, W.rU, by rw [List.length_set]; exact W.nc, W.nl, W.fc.set fv _, W.fl, fun q hq => ?_⟩, by rw [List.length_append, hps]; rfl⟩
      rcases List.mem_append.mp hq with e | e
      · exact W.fp q e
      · rw [List.mem_singleton.mp e]
        exact fv
    · clear W7 cs y
      rintro σ H9 ⟨cs, ps, y, v2, v6, v7, v8, v9, rfl, W, hps⟩
      refine ⟨fun σ H' => ∃ (D' : Dk) (U' : Du) (cs' ls' : List V) (x y z : Int) (v10 : Option V), D'.p = D.p ∧ U'.q = U.q ∧ σ = [some (.ref a), some (.ref r), v2, some (.int (n : Int)), some (.ref D.p), some (.ref U.q), v6, v7, v8, v9, v10, v11] ∧ Wl T.C_Disk H' r n D' U' cs' ls' [] x y z, ?_, ?_⟩
      · refine ⟨_, rfl, r, 3, rfl, W.rnd, by decide, by decide, fun z10 H10 hz10 f10 R10 => ⟨rfl, _, rfl, ite2 (fun _ => ?_) (fun _ => ?_)⟩⟩
        · have W10 := W.draw f10 R10
          refine ⟨_, rfl, D.p, D.dx, _, rfl, W10.hD.ins, dF_no_sync, D, cs, ls, ps, x, y, z, rfl, W10.hD, fun D' H11 e11 g11 f11 hD11 => ?_⟩
          have hU11 := W10.hU.other W10.hD W.sep.symm f11
          have R11 := W10.rnd.keep f11 W.rD
          have s11 : Sep D'.own U.own := W.sep.grow g11 W10.hU.there
          have r11 : r ∉ D'.own := W10.rnd.some.elim fun o e => out_of_grow e W.rD g11
          refine ⟨_, rfl, U, cs, ls, ps, x, y, z, rfl, hU11, fun U' H12 e12 g12 f12 hU12 => ?_⟩
          have s12 : Sep D'.own U'.own := (s11.symm.grow g12 hD11.there).symm
          have r12 : r ∉ U'.own := R11.some.elim fun o e => out_of_grow e W.rU g12
          exact ⟨D', U', cs, cs, _, _, _, _, e11, e12, rfl, R11.keep f12 W.rU, hD11.due hU11 s11 f12, hU12, s12, r11, r12, W.nc, W.nc, W.fc, W.fc, fun q hq => by cases hq⟩
        · have W10 := W.draw f10 R10
          obtain ⟨us, eu, pu⟩ := W10.hU.hp
          refine ⟨_, rfl, _, rfl, U.q, _, 2, .ref U.p, rfl, rfl, SqL.of W10.hU.hq, atI_nat (j := 2) rfl, U.p, _, rfl, .inl (SqL.of eu), r, ps.length, ?_, W10.rnd, by omega, fun kt ks H11 hkt f11 R11 ekt hasc => ?_⟩
          · rw [List.length_map, pu.1]
            rfl
          have W11 := W10.draw f11 R11
          have kD : kt ∉ D.own := fun hb => W11.hD.notup kt hb _ ekt
          refine ⟨_, rfl, D.p, D.dx, _, rfl, W11.hD.ins, dF_no_fail, _, rfl, D, cs, ls, ps, x, y, z, kt, ks, rfl, W11.hD, ekt, hasc, fun D' H12 e12 g12 f12 hD12 => ?_⟩
          have hU12 := W11.hU.other W11.hD W.sep.symm f12
          have R12 := W11.rnd.keep f12 W.rD
          have s12 : Sep D'.own U.own := W.sep.grow g12 W11.hU.there
          have r12 : r ∉ D'.own := W11.rnd.some.elim fun o e => out_of_grow e W.rD g12
          have ekt12 := f12 _ _ ekt kD
          refine ⟨_, rfl, _, rfl, U, cs, ls, ps, x, y, z, kt, ks, rfl, hU12, ekt12, hasc, fun U' H13 e13 g13 f13 hU13 => ?_⟩
          have s13 : Sep D'.own U'.own := (s12.symm.grow g13 hD12.there).symm
          have r13 : r ∉ U'.own := R12.some.elim fun o e => out_of_grow e W.rU g13
          have hfl : AllF (applyK ps ls ks) := by
            rw [applyK_pick]
            exact applyAll_F (fun q hq => W.fp q (pick_mem hq)) W.fl
          exact ⟨D', U', _, _, _, _, _, _, e12, e13, rfl, R12.keep f13 W.rU, hD12.due hU12 s12 f13, hU13, s13, r12, r13, by rw [applyK_len]; exact W.nl, by rw [applyK_len]; exact W.nl, hfl, hfl, fun q hq => by cases hq⟩
      · clear W ps cs hps
        rintro σ H10 ⟨D', U', cs, ls', x, y, z, v10, eD, eU, rfl, W⟩
        rw [← eD, ← eU]
        -- what the disk shows
        refine ⟨_, rfl, D'.p, D'.dx, _, rfl, W.hD.ins, D', _, _, [], _, _, _, rfl, W.hD, fun t1 ht1 => ?_⟩
        have W1 := W.new (o := .tup cs) ht1
        refine ⟨_, rfl, D'.p, D'.dx, _, rfl, W1.hD.ins, D', _, _, [], _, _, _, rfl, W1.hD, fun t2 ht2 => ?_⟩
        have W2 := W1.new (o := .tup ls') ht2
        refine ⟨_, rfl, D'.p, D'.dx, _, rfl, W2.hD.ins, D', _, _, [], _, _, _, rfl, W2.hD, fun t3 ts3 ht3 pn3 => ?_⟩
        have e3 : ts3 = [] := List.length_eq_zero_iff.mp pn3.1
        subst e3
        have W3 := W2.new (o := .lst ([] : List V)) ht3
        refine ⟨_, rfl, D'.p, D'.dx, _, rfl, W3.hD.ins, D', _, _, [], _, _, _, rfl, W3.hD, fun t4 ht4 => ?_⟩
        have W4 := W3.new (o := .tup [.int x, .int y, .int z]) ht4
        refine ⟨sz_le (by simp), fun g hg => ?_⟩
        have W5 := W4.new (o := .lst [.ref t1, .ref t2, .ref t3, .ref t4]) hg
        -- what the law's lists say
        refine ⟨_, rfl, _, rfl, U'.q, _, 0, .ref U'.a, rfl, rfl, SqL.of W5.hU.hq, atI_nat (j := 0) rfl, U'.a, _, rfl, .inl ⟨SqL.of W5.hU.ha, fun u1 hu1 => ?_⟩⟩
        have W6 := W5.new (o := .tup cs) hu1
        refine ⟨_, rfl, U'.q, _, 1, .ref U'.b, rfl, rfl, SqL.of W6.hU.hq, atI_nat (j := 1) rfl, U'.b, _, rfl, .inl ⟨SqL.of W6.hU.hb, fun u2 hu2 => ?_⟩⟩
        have W7 := W6.new (o := .tup ls') hu2
        refine ⟨_, rfl, U'.q, _, 2, .ref U'.p, rfl, rfl, SqL.of W7.hU.hq, atI_nat (j := 2) rfl, ?_⟩
        refine ⟨_, rfl, U'.q, _, 3, .ref U'.n, rfl, rfl, SqL.of W7.hU.hq, atI_nat (j := 3) rfl, U'.n, _, rfl, .inl ⟨SqL.of W7.hU.hn, fun u4 hu4 => ?_⟩⟩
        have W8 := W7.new (o := .tup [.int x, .int y, .int z]) hu4
        refine ⟨sz_le (by simp), fun g' hg' => ?_⟩
        have W9 := W8.new (o := .lst [.ref u1, .ref u2, .ref U'.p, .ref u4]) hg'
        obtain ⟨us9, eu9, pu9⟩ := W9.hU.hp
        have e9 : us9 = [] := List.length_eq_zero_iff.mp pu9.1
        subst e9
        have F1 := Fr.new (S := []) (o := .tup ls') ht2
        have F2 := F1.trans (Fr.new (S := []) (o := .lst ([] : List V)) ht3)
        have n5 := Fr.new (S := []) (o := .lst [.ref u1, .ref u2, .ref U'.p, .ref u4]) hg'
        have n4 := (Fr.new (S := []) (o := .tup [.int x, .int y, .int z]) hu4).trans n5
        have n3 := (Fr.new (S := []) (o := .tup ls') hu2).trans n4
        have n2 := (Fr.new (S := []) (o := .tup cs) hu1).trans n3
        have n1 := (Fr.new (S := []) (o := .lst [.ref t1, .ref t2, .ref t3, .ref t4]) hg).trans n2
        have m4 := (Fr.new (S := []) (o := .tup [.int x, .int y, .int z]) ht4).trans n1
        have m3 := (Fr.new (S := []) (o := .lst ([] : List V)) ht3).trans m4
        have m2 := (Fr.new (S := []) (o := .tup ls') ht2).trans m3
        refine ⟨.ref g, .ref g', rfl, Eqn.four (n1 |> fun _ => n2 _ _ upd_same (by simp)) upd_same
          (Eqn.tup (m2 _ _ upd_same (by simp)) (n3 _ _ upd_same (by simp)) (fun v hv => Eqn.flat (W.fc v hv) 2) (by rw [W.nc]; omega))
          (Eqn.tup (m3 _ _ upd_same (by simp)) (n4 _ _ upd_same (by simp)) (fun v hv => Eqn.flat (W.fl v hv) 2) (by rw [W.nl]; omega))
          (Eqn.nil (m4 _ _ upd_same (by simp)) eu9)
          (Eqn.tup (n1 _ _ upd_same (by simp)) (n5 _ _ upd_same (by simp)) (fun v hv => by
            simp only [List.mem_cons, List.not_mem_nil, or_false] at hv
            rcases hv with e | e | e
            · rw [e]; exact Eqn.flat rfl 2
            · rw [e]; exact Eqn.flat rfl 2
            · rw [e]; exact Eqn.flat rfl 2) (by simp)), fun H20 f20 => ⟨_, rfl, iteF ?_⟩⟩
        exact ⟨D', U', cs, ls', x, y, z, _, _, _, _, _, _, _, rfl, ⟨W9.rnd.keep f20 (by simp), W9.hD.keep f20 (by simp) (by simp), W9.hU.keep f20 (by simp) (by simp), W.sep, W.rD, W.rU, W.nc, W.nl, W.fc, W.fl, W.fp⟩⟩
end
theorem all_mk {l : PySem.W.OpenLaw} {w : World} {K : PySem.W.Frag} {h : Heap} {mg : Str → Option Value} {fa C_Disk f_is_number f_is_number_from f_Disk___init__ D_Disk___init__ f_Disk_write f_Disk_sync f_Disk_fail f_Disk_contents p_Disk_contents f_Disk_lasting p_Disk_lasting f_Disk_pending p_Disk_pending f_Disk_counts p_Disk_counts f_Disk__check_cell f_are_kept f__law_random f__law_below f__law_disk f__law_put f__law_sync f__law_kept f__law_fail f__law_equal f_law : Addr} (X : K.In h) (G : h.Ns mainGlobals mg) (hfa : mg "law" = some (.ref fa))
    {od_is_number an_is_number od_is_number_from an_is_number_from od_Disk___init__ an_Disk___init__ od_Disk_write an_Disk_write od_Disk_sync an_Disk_sync od_Disk_fail an_Disk_fail od_Disk_contents an_Disk_contents od_Disk_lasting an_Disk_lasting od_Disk_pending an_Disk_pending od_Disk_counts an_Disk_counts od_Disk__check_cell an_Disk__check_cell od_are_kept an_are_kept od__law_random an__law_random od__law_below an__law_below od__law_disk an__law_disk od__law_put an__law_put od__law_sync an__law_sync od__law_kept an__law_kept od__law_fail an__law_fail od__law_equal an__law_equal od_law an_law : Option Addr} {sl_is_number sl_is_number_from sl_Disk___init__ sl_Disk_write sl_Disk_sync sl_Disk_fail sl_Disk_contents sl_Disk_lasting sl_Disk_pending sl_Disk_counts sl_Disk__check_cell sl_are_kept sl__law_random sl__law_below sl__law_disk sl__law_put sl__law_sync sl__law_kept sl__law_fail sl__law_equal sl_law : Array (Option Value)} {oc_is_number dc_is_number pm_is_number cd_is_number ct_is_number kV_is_number oc_is_number_from dc_is_number_from pm_is_number_from cd_is_number_from ct_is_number_from kV_is_number_from oc_Disk___init__ dc_Disk___init__ pm_Disk___init__ cd_Disk___init__ ct_Disk___init__ oc_Disk_write dc_Disk_write pm_Disk_write cd_Disk_write ct_Disk_write kV_Disk_write oc_Disk_sync dc_Disk_sync pm_Disk_sync cd_Disk_sync ct_Disk_sync kV_Disk_sync oc_Disk_fail dc_Disk_fail pm_Disk_fail cd_Disk_fail ct_Disk_fail kV_Disk_fail oc_Disk_contents dc_Disk_contents pm_Disk_contents cd_Disk_contents ct_Disk_contents kV_Disk_contents oc_Disk_lasting dc_Disk_lasting pm_Disk_lasting cd_Disk_lasting ct_Disk_lasting kV_Disk_lasting oc_Disk_pending dc_Disk_pending pm_Disk_pending cd_Disk_pending ct_Disk_pending kV_Disk_pending oc_Disk_counts dc_Disk_counts pm_Disk_counts cd_Disk_counts ct_Disk_counts kV_Disk_counts oc_Disk__check_cell dc_Disk__check_cell pm_Disk__check_cell cd_Disk__check_cell ct_Disk__check_cell kV_Disk__check_cell oc_are_kept dc_are_kept pm_are_kept cd_are_kept ct_are_kept kV_are_kept oc__law_random dc__law_random pm__law_random cd__law_random ct__law_random kV__law_random oc__law_below dc__law_below pm__law_below cd__law_below ct__law_below kV__law_below oc__law_disk dc__law_disk pm__law_disk cd__law_disk ct__law_disk kV__law_disk oc__law_put dc__law_put pm__law_put cd__law_put ct__law_put kV__law_put oc__law_sync dc__law_sync pm__law_sync cd__law_sync ct__law_sync kV__law_sync oc__law_kept dc__law_kept pm__law_kept cd__law_kept ct__law_kept kV__law_kept oc__law_fail dc__law_fail pm__law_fail cd__law_fail ct__law_fail kV__law_fail oc__law_equal dc__law_equal pm__law_equal cd__law_equal ct__law_equal kV__law_equal oc_law dc_law pm_law cd_law ct_law kV_law : Value} {t_MOST_CELLS : Tok}
    (aC_Disk : PySem.W.nsIn K mainGlobals "Disk" = some (some (.ref C_Disk)))
    (pg_Disk : PySem.W.plainGet K C_Disk Str.empty = true) (hd_Disk : PySem.W.hasDictIn K C_Disk = true) (po_Disk : PySem.W.plainOver K C_Disk = true) (sa_Disk : PySem.W.findIn K (.ref C_Disk) "__setattr__" = some (some (.builtin "object.__setattr__")))
    (n_Disk__contents : PySem.W.findIn K (.ref C_Disk) "_contents" = some none)
    (n_Disk__lasting : PySem.W.findIn K (.ref C_Disk) "_lasting" = some none)
    (n_Disk__pending : PySem.W.findIn K (.ref C_Disk) "_pending" = some none)
    (n_Disk__reads : PySem.W.findIn K (.ref C_Disk) "_reads" = some none)
    (n_Disk__writes : PySem.W.findIn K (.ref C_Disk) "_writes" = some none)
    (n_Disk__syncs : PySem.W.findIn K (.ref C_Disk) "_syncs" = some none)
    (a_is_number : PySem.W.nsIn K mainGlobals "is_number" = some (some (.ref f_is_number)))
    (l_is_number : K.lookup f_is_number = some ⟨oc_is_number, od_is_number, .func (PySem.W.fnOf "is_number" "is_number" (defArgs s_is_number) (defBody s_is_number) (defScope s_is_number) .none kV_is_number dc_is_number pm_is_number an_is_number cd_is_number ct_is_number), sl_is_number⟩) (c_is_number : PySem.W.codeIn K cd_is_number "is_number" = true) (k_is_number : PySem.W.keepIn K (.ref f_is_number) = true)
    (a_is_number_from : PySem.W.nsIn K mainGlobals "is_number_from" = some (some (.ref f_is_number_from)))
    (l_is_number_from : K.lookup f_is_number_from = some ⟨oc_is_number_from, od_is_number_from, .func (PySem.W.fnOf "is_number_from" "is_number_from" (defArgs s_is_number_from) (defBody s_is_number_from) (defScope s_is_number_from) .none kV_is_number_from dc_is_number_from pm_is_number_from an_is_number_from cd_is_number_from ct_is_number_from), sl_is_number_from⟩) (c_is_number_from : PySem.W.codeIn K cd_is_number_from "is_number_from" = true) (k_is_number_from : PySem.W.keepIn K (.ref f_is_number_from) = true)
    (a_Disk___init__ : PySem.W.findIn K (.ref C_Disk) "__init__" = some (some (.ref f_Disk___init__))) (i_Disk___init__ : PySem.W.isFn K (.ref f_Disk___init__) = true) (mk_Disk___init__ : PySem.W.makesIn K C_Disk = true) (kc_Disk___init__ : PySem.W.keepIn K (.ref C_Disk) = true)
    (l_Disk___init__ : K.lookup f_Disk___init__ = some ⟨oc_Disk___init__, od_Disk___init__, .func (PySem.W.fnOf "__init__" "Disk.__init__" (defArgs s_Disk___init__) (defBody s_Disk___init__) (defScope s_Disk___init__) .none (.ref D_Disk___init__) dc_Disk___init__ pm_Disk___init__ an_Disk___init__ cd_Disk___init__ ct_Disk___init__), sl_Disk___init__⟩) (c_Disk___init__ : PySem.W.codeIn K cd_Disk___init__ "Disk.__init__" = true) (k_Disk___init__ : PySem.W.keepIn K (.ref f_Disk___init__) = true)
    {td_Disk___init___content : Tok} (kd_Disk___init___content : PySem.W.nsIn K D_Disk___init__ "content" = some (some (.int 0 td_Disk___init___content)))
    (a_Disk_write : PySem.W.findIn K (.ref C_Disk) "write" = some (some (.ref f_Disk_write))) (i_Disk_write : PySem.W.isFn K (.ref f_Disk_write) = true)
    (l_Disk_write : K.lookup f_Disk_write = some ⟨oc_Disk_write, od_Disk_write, .func (PySem.W.fnOf "write" "Disk.write" (defArgs s_Disk_write) (defBody s_Disk_write) (defScope s_Disk_write) .none kV_Disk_write dc_Disk_write pm_Disk_write an_Disk_write cd_Disk_write ct_Disk_write), sl_Disk_write⟩) (c_Disk_write : PySem.W.codeIn K cd_Disk_write "Disk.write" = true) (k_Disk_write : PySem.W.keepIn K (.ref f_Disk_write) = true)
    (a_Disk_sync : PySem.W.findIn K (.ref C_Disk) "sync" = some (some (.ref f_Disk_sync))) (i_Disk_sync : PySem.W.isFn K (.ref f_Disk_sync) = true)
    (l_Disk_sync : K.lookup f_Disk_sync = some ⟨oc_Disk_sync, od_Disk_sync, .func (PySem.W.fnOf "sync" "Disk.sync" (defArgs s_Disk_sync) (defBody s_Disk_sync) (defScope s_Disk_sync) .none kV_Disk_sync dc_Disk_sync pm_Disk_sync an_Disk_sync cd_Disk_sync ct_Disk_sync), sl_Disk_sync⟩) (c_Disk_sync : PySem.W.codeIn K cd_Disk_sync "Disk.sync" = true) (k_Disk_sync : PySem.W.keepIn K (.ref f_Disk_sync) = true)
    (a_Disk_fail : PySem.W.findIn K (.ref C_Disk) "fail" = some (some (.ref f_Disk_fail))) (i_Disk_fail : PySem.W.isFn K (.ref f_Disk_fail) = true)
    (l_Disk_fail : K.lookup f_Disk_fail = some ⟨oc_Disk_fail, od_Disk_fail, .func (PySem.W.fnOf "fail" "Disk.fail" (defArgs s_Disk_fail) (defBody s_Disk_fail) (defScope s_Disk_fail) .none kV_Disk_fail dc_Disk_fail pm_Disk_fail an_Disk_fail cd_Disk_fail ct_Disk_fail), sl_Disk_fail⟩) (c_Disk_fail : PySem.W.codeIn K cd_Disk_fail "Disk.fail" = true) (k_Disk_fail : PySem.W.keepIn K (.ref f_Disk_fail) = true)
    {rest_Disk_contents : List Value} (a_Disk_contents : PySem.W.findIn K (.ref C_Disk) "contents" = some (some (.ref p_Disk_contents))) (ge_Disk_contents : PySem.W.specialIn K (.ref p_Disk_contents) "__get__" = some (some (.builtin "property.__get__"))) (tk_Disk_contents : PySem.W.takesIn K (.ref p_Disk_contents) = some true) (rc_Disk_contents : PySem.W.recIn K p_Disk_contents "property" = some (.ref f_Disk_contents :: rest_Disk_contents))
    (l_Disk_contents : K.lookup f_Disk_contents = some ⟨oc_Disk_contents, od_Disk_contents, .func (PySem.W.fnOf "contents" "Disk.contents" (defArgs s_Disk_contents) (defBody s_Disk_contents) (defScope s_Disk_contents) .none kV_Disk_contents dc_Disk_contents pm_Disk_contents an_Disk_contents cd_Disk_contents ct_Disk_contents), sl_Disk_contents⟩) (c_Disk_contents : PySem.W.codeIn K cd_Disk_contents "Disk.contents" = true) (k_Disk_contents : PySem.W.keepIn K (.ref f_Disk_contents) = true)
    {rest_Disk_lasting : List Value} (a_Disk_lasting : PySem.W.findIn K (.ref C_Disk) "lasting" = some (some (.ref p_Disk_lasting))) (ge_Disk_lasting : PySem.W.specialIn K (.ref p_Disk_lasting) "__get__" = some (some (.builtin "property.__get__"))) (tk_Disk_lasting : PySem.W.takesIn K (.ref p_Disk_lasting) = some true) (rc_Disk_lasting : PySem.W.recIn K p_Disk_lasting "property" = some (.ref f_Disk_lasting :: rest_Disk_lasting))
    (l_Disk_lasting : K.lookup f_Disk_lasting = some ⟨oc_Disk_lasting, od_Disk_lasting, .func (PySem.W.fnOf "lasting" "Disk.lasting" (defArgs s_Disk_lasting) (defBody s_Disk_lasting) (defScope s_Disk_lasting) .none kV_Disk_lasting dc_Disk_lasting pm_Disk_lasting an_Disk_lasting cd_Disk_lasting ct_Disk_lasting), sl_Disk_lasting⟩) (c_Disk_lasting : PySem.W.codeIn K cd_Disk_lasting "Disk.lasting" = true) (k_Disk_lasting : PySem.W.keepIn K (.ref f_Disk_lasting) = true)
    {rest_Disk_pending : List Value} (a_Disk_pending : PySem.W.findIn K (.ref C_Disk) "pending" = some (some (.ref p_Disk_pending))) (ge_Disk_pending : PySem.W.specialIn K (.ref p_Disk_pending) "__get__" = some (some (.builtin "property.__get__"))) (tk_Disk_pending : PySem.W.takesIn K (.ref p_Disk_pending) = some true) (rc_Disk_pending : PySem.W.recIn K p_Disk_pending "property" = some (.ref f_Disk_pending :: rest_Disk_pending))
    (l_Disk_pending : K.lookup f_Disk_pending = some ⟨oc_Disk_pending, od_Disk_pending, .func (PySem.W.fnOf "pending" "Disk.pending" (defArgs s_Disk_pending) (defBody s_Disk_pending) (defScope s_Disk_pending) .none kV_Disk_pending dc_Disk_pending pm_Disk_pending an_Disk_pending cd_Disk_pending ct_Disk_pending), sl_Disk_pending⟩) (c_Disk_pending : PySem.W.codeIn K cd_Disk_pending "Disk.pending" = true) (k_Disk_pending : PySem.W.keepIn K (.ref f_Disk_pending) = true)
    {rest_Disk_counts : List Value} (a_Disk_counts : PySem.W.findIn K (.ref C_Disk) "counts" = some (some (.ref p_Disk_counts))) (ge_Disk_counts : PySem.W.specialIn K (.ref p_Disk_counts) "__get__" = some (some (.builtin "property.__get__"))) (tk_Disk_counts : PySem.W.takesIn K (.ref p_Disk_counts) = some true) (rc_Disk_counts : PySem.W.recIn K p_Disk_counts "property" = some (.ref f_Disk_counts :: rest_Disk_counts))
    (l_Disk_counts : K.lookup f_Disk_counts = some ⟨oc_Disk_counts, od_Disk_counts, .func (PySem.W.fnOf "counts" "Disk.counts" (defArgs s_Disk_counts) (defBody s_Disk_counts) (defScope s_Disk_counts) .none kV_Disk_counts dc_Disk_counts pm_Disk_counts an_Disk_counts cd_Disk_counts ct_Disk_counts), sl_Disk_counts⟩) (c_Disk_counts : PySem.W.codeIn K cd_Disk_counts "Disk.counts" = true) (k_Disk_counts : PySem.W.keepIn K (.ref f_Disk_counts) = true)
    (a_Disk__check_cell : PySem.W.findIn K (.ref C_Disk) "_check_cell" = some (some (.ref f_Disk__check_cell))) (i_Disk__check_cell : PySem.W.isFn K (.ref f_Disk__check_cell) = true)
    (l_Disk__check_cell : K.lookup f_Disk__check_cell = some ⟨oc_Disk__check_cell, od_Disk__check_cell, .func (PySem.W.fnOf "_check_cell" "Disk._check_cell" (defArgs s_Disk__check_cell) (defBody s_Disk__check_cell) (defScope s_Disk__check_cell) .none kV_Disk__check_cell dc_Disk__check_cell pm_Disk__check_cell an_Disk__check_cell cd_Disk__check_cell ct_Disk__check_cell), sl_Disk__check_cell⟩) (c_Disk__check_cell : PySem.W.codeIn K cd_Disk__check_cell "Disk._check_cell" = true) (k_Disk__check_cell : PySem.W.keepIn K (.ref f_Disk__check_cell) = true)
    (a_are_kept : PySem.W.nsIn K mainGlobals "are_kept" = some (some (.ref f_are_kept)))
    (l_are_kept : K.lookup f_are_kept = some ⟨oc_are_kept, od_are_kept, .func (PySem.W.fnOf "are_kept" "are_kept" (defArgs s_are_kept) (defBody s_are_kept) (defScope s_are_kept) .none kV_are_kept dc_are_kept pm_are_kept an_are_kept cd_are_kept ct_are_kept), sl_are_kept⟩) (c_are_kept : PySem.W.codeIn K cd_are_kept "are_kept" = true) (k_are_kept : PySem.W.keepIn K (.ref f_are_kept) = true)
    (a__law_random : PySem.W.nsIn K mainGlobals "_law_random" = some (some (.ref f__law_random)))
    (l__law_random : K.lookup f__law_random = some ⟨oc__law_random, od__law_random, .func (PySem.W.fnOf "_law_random" "_law_random" (defArgs s__law_random) (defBody s__law_random) (defScope s__law_random) .none kV__law_random dc__law_random pm__law_random an__law_random cd__law_random ct__law_random), sl__law_random⟩) (c__law_random : PySem.W.codeIn K cd__law_random "_law_random" = true) (k__law_random : PySem.W.keepIn K (.ref f__law_random) = true)
    (a__law_below : PySem.W.nsIn K mainGlobals "_law_below" = some (some (.ref f__law_below)))
    (l__law_below : K.lookup f__law_below = some ⟨oc__law_below, od__law_below, .func (PySem.W.fnOf "_law_below" "_law_below" (defArgs s__law_below) (defBody s__law_below) (defScope s__law_below) .none kV__law_below dc__law_below pm__law_below an__law_below cd__law_below ct__law_below), sl__law_below⟩) (c__law_below : PySem.W.codeIn K cd__law_below "_law_below" = true) (k__law_below : PySem.W.keepIn K (.ref f__law_below) = true)
    (a__law_disk : PySem.W.nsIn K mainGlobals "_law_disk" = some (some (.ref f__law_disk)))
    (l__law_disk : K.lookup f__law_disk = some ⟨oc__law_disk, od__law_disk, .func (PySem.W.fnOf "_law_disk" "_law_disk" (defArgs s__law_disk) (defBody s__law_disk) (defScope s__law_disk) .none kV__law_disk dc__law_disk pm__law_disk an__law_disk cd__law_disk ct__law_disk), sl__law_disk⟩) (c__law_disk : PySem.W.codeIn K cd__law_disk "_law_disk" = true) (k__law_disk : PySem.W.keepIn K (.ref f__law_disk) = true)
    (a__law_put : PySem.W.nsIn K mainGlobals "_law_put" = some (some (.ref f__law_put)))
    (l__law_put : K.lookup f__law_put = some ⟨oc__law_put, od__law_put, .func (PySem.W.fnOf "_law_put" "_law_put" (defArgs s__law_put) (defBody s__law_put) (defScope s__law_put) .none kV__law_put dc__law_put pm__law_put an__law_put cd__law_put ct__law_put), sl__law_put⟩) (c__law_put : PySem.W.codeIn K cd__law_put "_law_put" = true) (k__law_put : PySem.W.keepIn K (.ref f__law_put) = true)
    (a__law_sync : PySem.W.nsIn K mainGlobals "_law_sync" = some (some (.ref f__law_sync)))
    (l__law_sync : K.lookup f__law_sync = some ⟨oc__law_sync, od__law_sync, .func (PySem.W.fnOf "_law_sync" "_law_sync" (defArgs s__law_sync) (defBody s__law_sync) (defScope s__law_sync) .none kV__law_sync dc__law_sync pm__law_sync an__law_sync cd__law_sync ct__law_sync), sl__law_sync⟩) (c__law_sync : PySem.W.codeIn K cd__law_sync "_law_sync" = true) (k__law_sync : PySem.W.keepIn K (.ref f__law_sync) = true)
    (a__law_kept : PySem.W.nsIn K mainGlobals "_law_kept" = some (some (.ref f__law_kept)))
    (l__law_kept : K.lookup f__law_kept = some ⟨oc__law_kept, od__law_kept, .func (PySem.W.fnOf "_law_kept" "_law_kept" (defArgs s__law_kept) (defBody s__law_kept) (defScope s__law_kept) .none kV__law_kept dc__law_kept pm__law_kept an__law_kept cd__law_kept ct__law_kept), sl__law_kept⟩) (c__law_kept : PySem.W.codeIn K cd__law_kept "_law_kept" = true) (k__law_kept : PySem.W.keepIn K (.ref f__law_kept) = true)
    (a__law_fail : PySem.W.nsIn K mainGlobals "_law_fail" = some (some (.ref f__law_fail)))
    (l__law_fail : K.lookup f__law_fail = some ⟨oc__law_fail, od__law_fail, .func (PySem.W.fnOf "_law_fail" "_law_fail" (defArgs s__law_fail) (defBody s__law_fail) (defScope s__law_fail) .none kV__law_fail dc__law_fail pm__law_fail an__law_fail cd__law_fail ct__law_fail), sl__law_fail⟩) (c__law_fail : PySem.W.codeIn K cd__law_fail "_law_fail" = true) (k__law_fail : PySem.W.keepIn K (.ref f__law_fail) = true)
    (a__law_equal : PySem.W.nsIn K mainGlobals "_law_equal" = some (some (.ref f__law_equal)))
    (l__law_equal : K.lookup f__law_equal = some ⟨oc__law_equal, od__law_equal, .func (PySem.W.fnOf "_law_equal" "_law_equal" (defArgs s__law_equal) (defBody s__law_equal) (defScope s__law_equal) .none kV__law_equal dc__law_equal pm__law_equal an__law_equal cd__law_equal ct__law_equal), sl__law_equal⟩) (c__law_equal : PySem.W.codeIn K cd__law_equal "_law_equal" = true) (k__law_equal : PySem.W.keepIn K (.ref f__law_equal) = true)
    (a_law : PySem.W.nsIn K mainGlobals "law" = some (some (.ref f_law)))
    (l_law : K.lookup f_law = some ⟨oc_law, od_law, .func (PySem.W.fnOf "law" "law" (defArgs s_law) (defBody s_law) (defScope s_law) .none kV_law dc_law pm_law an_law cd_law ct_law), sl_law⟩) (c_law : PySem.W.codeIn K cd_law "law" = true) (k_law : PySem.W.keepIn K (.ref f_law) = true)
    (z_isinstance : PySem.W.nsIn K mainGlobals "isinstance" = some none)
    (z_int : PySem.W.nsIn K mainGlobals "int" = some none)
    (z_bool : PySem.W.nsIn K mainGlobals "bool" = some none)
    (z_str : PySem.W.nsIn K mainGlobals "str" = some none)
    (z_list : PySem.W.nsIn K mainGlobals "list" = some none)
    (z_tuple : PySem.W.nsIn K mainGlobals "tuple" = some none)
    (z_len : PySem.W.nsIn K mainGlobals "len" = some none)
    (z_abs : PySem.W.nsIn K mainGlobals "abs" = some none)
    (z_range : PySem.W.nsIn K mainGlobals "range" = some none)
    (z_all : PySem.W.nsIn K mainGlobals "all" = some none)
    (c_MOST_CELLS : PySem.W.nsIn K mainGlobals "MOST_CELLS" = some (some (.int 64 t_MOST_CELLS)))
    : ∃ fd : FuncData, (∀ (s : Shared) (v : Value), BindsTo s fd ⟨[v], []⟩ [("_law_script", v)]) ∧ ∀ base : Heap, K.In base → base.Ns mainGlobals mg → FnOk l.prog w K mg base CX0 6 fa fd ["_law_script"] (spLaw K) := by
  have e := hfa.symm.trans (PySem.W.mg_of X G a_law)
  cases e
  have T : Gx K mg := {
    C_Disk := C_Disk, cl_Disk := ⟨pg_Disk, hd_Disk, po_Disk, sa_Disk⟩, gC_Disk := PySem.W.mg_of X G aC_Disk,
    n_Disk__contents := n_Disk__contents,
    n_Disk__lasting := n_Disk__lasting,
    n_Disk__pending := n_Disk__pending,
    n_Disk__reads := n_Disk__reads,
    n_Disk__writes := n_Disk__writes,
    n_Disk__syncs := n_Disk__syncs,
    f_is_number := f_is_number, fd_is_number := _,
    F_is_number := fun_mk (st := s_is_number) l_is_number c_is_number k_is_number,
    g_is_number := PySem.W.mg_of X G a_is_number,
    f_is_number_from := f_is_number_from, fd_is_number_from := _,
    F_is_number_from := fun_mk (st := s_is_number_from) l_is_number_from c_is_number_from k_is_number_from,
    g_is_number_from := PySem.W.mg_of X G a_is_number_from,
    f_Disk___init__ := f_Disk___init__, fd_Disk___init__ := _,
    F_Disk___init__ := ⟨⟨oc_Disk___init__, od_Disk___init__, .none, .ref D_Disk___init__, dc_Disk___init__, pm_Disk___init__, an_Disk___init__, cd_Disk___init__, ct_Disk___init__, sl_Disk___init__, rfl, l_Disk___init__, c_Disk___init__, .inl ⟨rfl, rfl⟩, .inr ⟨D_Disk___init__, rfl, by intro q hq; simp only [List.mem_cons, List.not_mem_nil, or_false] at hq; subst hq; first | exact ⟨_, kd_Disk___init___content, ⟨_, rfl⟩⟩⟩⟩, k_Disk___init__⟩,
    M_Disk___init__ := ⟨mk_Disk___init__, a_Disk___init__, i_Disk___init__, kc_Disk___init__⟩,
    f_Disk_write := f_Disk_write, fd_Disk_write := _,
    F_Disk_write := fun_mk (st := s_Disk_write) l_Disk_write c_Disk_write k_Disk_write,
    m_Disk_write := ⟨a_Disk_write, i_Disk_write, k_Disk_write⟩,
    f_Disk_sync := f_Disk_sync, fd_Disk_sync := _,
    F_Disk_sync := fun_mk (st := s_Disk_sync) l_Disk_sync c_Disk_sync k_Disk_sync,
    m_Disk_sync := ⟨a_Disk_sync, i_Disk_sync, k_Disk_sync⟩,
    f_Disk_fail := f_Disk_fail, fd_Disk_fail := _,
    F_Disk_fail := fun_mk (st := s_Disk_fail) l_Disk_fail c_Disk_fail k_Disk_fail,
    m_Disk_fail := ⟨a_Disk_fail, i_Disk_fail, k_Disk_fail⟩,
    f_Disk_contents := f_Disk_contents, fd_Disk_contents := _,
    F_Disk_contents := fun_mk (st := s_Disk_contents) l_Disk_contents c_Disk_contents k_Disk_contents,
    p_Disk_contents := p_Disk_contents, P_Disk_contents := ⟨a_Disk_contents, ge_Disk_contents, tk_Disk_contents, ⟨_, rc_Disk_contents⟩⟩,
    f_Disk_lasting := f_Disk_lasting, fd_Disk_lasting := _,
    F_Disk_lasting := fun_mk (st := s_Disk_lasting) l_Disk_lasting c_Disk_lasting k_Disk_lasting,
    p_Disk_lasting := p_Disk_lasting, P_Disk_lasting := ⟨a_Disk_lasting, ge_Disk_lasting, tk_Disk_lasting, ⟨_, rc_Disk_lasting⟩⟩,
    f_Disk_pending := f_Disk_pending, fd_Disk_pending := _,
    F_Disk_pending := fun_mk (st := s_Disk_pending) l_Disk_pending c_Disk_pending k_Disk_pending,
    p_Disk_pending := p_Disk_pending, P_Disk_pending := ⟨a_Disk_pending, ge_Disk_pending, tk_Disk_pending, ⟨_, rc_Disk_pending⟩⟩,
    f_Disk_counts := f_Disk_counts, fd_Disk_counts := _,
    F_Disk_counts := fun_mk (st := s_Disk_counts) l_Disk_counts c_Disk_counts k_Disk_counts,
    p_Disk_counts := p_Disk_counts, P_Disk_counts := ⟨a_Disk_counts, ge_Disk_counts, tk_Disk_counts, ⟨_, rc_Disk_counts⟩⟩,
    f_Disk__check_cell := f_Disk__check_cell, fd_Disk__check_cell := _,
    F_Disk__check_cell := fun_mk (st := s_Disk__check_cell) l_Disk__check_cell c_Disk__check_cell k_Disk__check_cell,
    m_Disk__check_cell := ⟨a_Disk__check_cell, i_Disk__check_cell, k_Disk__check_cell⟩,
    f_are_kept := f_are_kept, fd_are_kept := _,
    F_are_kept := fun_mk (st := s_are_kept) l_are_kept c_are_kept k_are_kept,
    g_are_kept := PySem.W.mg_of X G a_are_kept,
    f__law_random := f__law_random, fd__law_random := _,
    F__law_random := fun_mk (st := s__law_random) l__law_random c__law_random k__law_random,
    g__law_random := PySem.W.mg_of X G a__law_random,
    f__law_below := f__law_below, fd__law_below := _,
    F__law_below := fun_mk (st := s__law_below) l__law_below c__law_below k__law_below,
    g__law_below := PySem.W.mg_of X G a__law_below,
    f__law_disk := f__law_disk, fd__law_disk := _,
    F__law_disk := fun_mk (st := s__law_disk) l__law_disk c__law_disk k__law_disk,
    g__law_disk := PySem.W.mg_of X G a__law_disk,
    f__law_put := f__law_put, fd__law_put := _,
    F__law_put := fun_mk (st := s__law_put) l__law_put c__law_put k__law_put,
    g__law_put := PySem.W.mg_of X G a__law_put,
    f__law_sync := f__law_sync, fd__law_sync := _,
    F__law_sync := fun_mk (st := s__law_sync) l__law_sync c__law_sync k__law_sync,
    g__law_sync := PySem.W.mg_of X G a__law_sync,
    f__law_kept := f__law_kept, fd__law_kept := _,
    F__law_kept := fun_mk (st := s__law_kept) l__law_kept c__law_kept k__law_kept,
    g__law_kept := PySem.W.mg_of X G a__law_kept,
    f__law_fail := f__law_fail, fd__law_fail := _,
    F__law_fail := fun_mk (st := s__law_fail) l__law_fail c__law_fail k__law_fail,
    g__law_fail := PySem.W.mg_of X G a__law_fail,
    f__law_equal := f__law_equal, fd__law_equal := _,
    F__law_equal := fun_mk (st := s__law_equal) l__law_equal c__law_equal k__law_equal,
    g__law_equal := PySem.W.mg_of X G a__law_equal,
    z_isinstance := PySem.W.mg_none_of X G z_isinstance,
    z_int := PySem.W.mg_none_of X G z_int,
    z_bool := PySem.W.mg_none_of X G z_bool,
    z_str := PySem.W.mg_none_of X G z_str,
    z_list := PySem.W.mg_none_of X G z_list,
    z_tuple := PySem.W.mg_none_of X G z_tuple,
    z_len := PySem.W.mg_none_of X G z_len,
    z_abs := PySem.W.mg_none_of X G z_abs,
    z_range := PySem.W.mg_none_of X G z_range,
    z_all := PySem.W.mg_none_of X G z_all,
    t_MOST_CELLS := t_MOST_CELLS, c_MOST_CELLS := PySem.W.mg_of X G c_MOST_CELLS }
  exact ⟨PySem.W.fnOf "law" "law" (defArgs s_law) (defBody s_law) (defScope s_law) .none kV_law dc_law pm_law an_law cd_law ct_law, fun s v => .of_eq rfl, fun base _ _ => ok_law (fun_mk (st := s_law) l_law c_law k_law) T⟩
end Kb
open PySem PySem.W PyProof.Rows in
set_option maxRecDepth 100000 in
set_option maxHeartbeats 0 in
theorem PySem.Challenge.cw_keepbefore_k02_failing_disks_holds : PySem.Challenge.rw_keepbefore_k02_failing_disks.Holds := by
  w_on; o_law; k_head; (case hw => w_witness2)
  k_fill
  refine L2.walk_of (l := PySem.Challenge.rw_keepbefore_k02_failing_disks) (n := 63) (k := 6) (x := "_law_script") (CX := fun _ => L2.CX0) (sp := fun w => Kb.spLaw _) rfl (by decide) rfl ⟨rfl, by decide, by decide⟩ (fun w h Y => PySem.W.kIn_of Y) ?F (fun _ _ a ns hl _ hS => ⟨a, ns, rfl, hS, hl, fun _ => rfl⟩) (fun _ _ _ _ _ h => h)
  case F =>
    intro w mg fa h KX G hmg
    refine' Kb.all_mk KX G hmg ?aC_Disk ?pg_Disk ?hd_Disk ?po_Disk ?sa_Disk ?n_Disk__contents ?n_Disk__lasting ?n_Disk__pending ?n_Disk__reads ?n_Disk__writes ?n_Disk__syncs ?a_is_number ?l_is_number ?c_is_number ?k_is_number ?a_is_number_from ?l_is_number_from ?c_is_number_from ?k_is_number_from ?a_Disk___init__ ?i_Disk___init__ ?mk_Disk___init__ ?kc_Disk___init__ ?l_Disk___init__ ?c_Disk___init__ ?k_Disk___init__ ?kd_Disk___init___content ?a_Disk_write ?i_Disk_write ?l_Disk_write ?c_Disk_write ?k_Disk_write ?a_Disk_sync ?i_Disk_sync ?l_Disk_sync ?c_Disk_sync ?k_Disk_sync ?a_Disk_fail ?i_Disk_fail ?l_Disk_fail ?c_Disk_fail ?k_Disk_fail ?a_Disk_contents ?ge_Disk_contents ?tk_Disk_contents ?rc_Disk_contents ?l_Disk_contents ?c_Disk_contents ?k_Disk_contents ?a_Disk_lasting ?ge_Disk_lasting ?tk_Disk_lasting ?rc_Disk_lasting ?l_Disk_lasting ?c_Disk_lasting ?k_Disk_lasting ?a_Disk_pending ?ge_Disk_pending ?tk_Disk_pending ?rc_Disk_pending ?l_Disk_pending ?c_Disk_pending ?k_Disk_pending ?a_Disk_counts ?ge_Disk_counts ?tk_Disk_counts ?rc_Disk_counts ?l_Disk_counts ?c_Disk_counts ?k_Disk_counts ?a_Disk__check_cell ?i_Disk__check_cell ?l_Disk__check_cell ?c_Disk__check_cell ?k_Disk__check_cell ?a_are_kept ?l_are_kept ?c_are_kept ?k_are_kept ?a__law_random ?l__law_random ?c__law_random ?k__law_random ?a__law_below ?l__law_below ?c__law_below ?k__law_below ?a__law_disk ?l__law_disk ?c__law_disk ?k__law_disk ?a__law_put ?l__law_put ?c__law_put ?k__law_put ?a__law_sync ?l__law_sync ?c__law_sync ?k__law_sync ?a__law_kept ?l__law_kept ?c__law_kept ?k__law_kept ?a__law_fail ?l__law_fail ?c__law_fail ?k__law_fail ?a__law_equal ?l__law_equal ?c__law_equal ?k__law_equal ?a_law ?l_law ?c_law ?k_law ?z_isinstance ?z_int ?z_bool ?z_str ?z_list ?z_tuple ?z_len ?z_abs ?z_range ?z_all ?c_MOST_CELLS
    (case aC_Disk => k_is)
    (case pg_Disk => k_is)
    (case hd_Disk => k_is)
    (case po_Disk => k_is)
    (case sa_Disk => k_is)
    (case n_Disk__contents => k_is)
    (case n_Disk__lasting => k_is)
    (case n_Disk__pending => k_is)
    (case n_Disk__reads => k_is)
    (case n_Disk__writes => k_is)
    (case n_Disk__syncs => k_is)
    (case a_is_number => k_is)
    (case l_is_number => k_is)
    (case c_is_number => k_is)
    (case k_is_number => k_is)
    (case a_is_number_from => k_is)
    (case l_is_number_from => k_is)
    (case c_is_number_from => k_is)
    (case k_is_number_from => k_is)
    (case a_Disk___init__ => k_is)
    (case i_Disk___init__ => k_is)
    (case mk_Disk___init__ => k_is)
    (case kc_Disk___init__ => k_is)
    (case l_Disk___init__ => k_is)
    (case c_Disk___init__ => k_is)
    (case k_Disk___init__ => k_is)
    (case kd_Disk___init___content => k_is)
    (case a_Disk_write => k_is)
    (case i_Disk_write => k_is)
    (case l_Disk_write => k_is)
    (case c_Disk_write => k_is)
    (case k_Disk_write => k_is)
    (case a_Disk_sync => k_is)
    (case i_Disk_sync => k_is)
    (case l_Disk_sync => k_is)
    (case c_Disk_sync => k_is)
    (case k_Disk_sync => k_is)
    (case a_Disk_fail => k_is)
    (case i_Disk_fail => k_is)
    (case l_Disk_fail => k_is)
    (case c_Disk_fail => k_is)
    (case k_Disk_fail => k_is)
    (case a_Disk_contents => k_is)
    (case ge_Disk_contents => k_is)
    (case tk_Disk_contents => k_is)
    (case rc_Disk_contents => k_is)
    (case l_Disk_contents => k_is)
    (case c_Disk_contents => k_is)
    (case k_Disk_contents => k_is)
    (case a_Disk_lasting => k_is)
    (case ge_Disk_lasting => k_is)
    (case tk_Disk_lasting => k_is)
    (case rc_Disk_lasting => k_is)
    (case l_Disk_lasting => k_is)
    (case c_Disk_lasting => k_is)
    (case k_Disk_lasting => k_is)
    (case a_Disk_pending => k_is)
    (case ge_Disk_pending => k_is)
    (case tk_Disk_pending => k_is)
    (case rc_Disk_pending => k_is)
    (case l_Disk_pending => k_is)
    (case c_Disk_pending => k_is)
    (case k_Disk_pending => k_is)
    (case a_Disk_counts => k_is)
    (case ge_Disk_counts => k_is)
    (case tk_Disk_counts => k_is)
    (case rc_Disk_counts => k_is)
    (case l_Disk_counts => k_is)
    (case c_Disk_counts => k_is)
    (case k_Disk_counts => k_is)
    (case a_Disk__check_cell => k_is)
    (case i_Disk__check_cell => k_is)
    (case l_Disk__check_cell => k_is)
    (case c_Disk__check_cell => k_is)
    (case k_Disk__check_cell => k_is)
    (case a_are_kept => k_is)
    (case l_are_kept => k_is)
    (case c_are_kept => k_is)
    (case k_are_kept => k_is)
    (case a__law_random => k_is)
    (case l__law_random => k_is)
    (case c__law_random => k_is)
    (case k__law_random => k_is)
    (case a__law_below => k_is)
    (case l__law_below => k_is)
    (case c__law_below => k_is)
    (case k__law_below => k_is)
    (case a__law_disk => k_is)
    (case l__law_disk => k_is)
    (case c__law_disk => k_is)
    (case k__law_disk => k_is)
    (case a__law_put => k_is)
    (case l__law_put => k_is)
    (case c__law_put => k_is)
    (case k__law_put => k_is)
    (case a__law_sync => k_is)
    (case l__law_sync => k_is)
    (case c__law_sync => k_is)
    (case k__law_sync => k_is)
    (case a__law_kept => k_is)
    (case l__law_kept => k_is)
    (case c__law_kept => k_is)
    (case k__law_kept => k_is)
    (case a__law_fail => k_is)
    (case l__law_fail => k_is)
    (case c__law_fail => k_is)
    (case k__law_fail => k_is)
    (case a__law_equal => k_is)
    (case l__law_equal => k_is)
    (case c__law_equal => k_is)
    (case k__law_equal => k_is)
    (case a_law => k_is)
    (case l_law => k_is)
    (case c_law => k_is)
    (case k_law => k_is)
    (case z_isinstance => k_is)
    (case z_int => k_is)
    (case z_bool => k_is)
    (case z_str => k_is)
    (case z_list => k_is)
    (case z_tuple => k_is)
    (case z_len => k_is)
    (case z_abs => k_is)
    (case z_range => k_is)
    (case z_all => k_is)
    (case c_MOST_CELLS => k_is)
