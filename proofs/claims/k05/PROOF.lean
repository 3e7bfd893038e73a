import PyProof.Rows.All
import Wide.All
import OpenK.AllK
import Wide.FinOn
import HandS.ForMost
import HandS.Defaults
import HandS.Property
import HandS.IsInst
import HandS.Conv
import HandS.Codes
import HandS.MakeKwOnly
import PySem.Challenge.RW_keepbefore_k05_whole_what_is_kept_is_wha
set_option Elab.async false
set_option linter.all false
set_option maxRecDepth 100000
set_option maxHeartbeats 4000000
namespace Kb
open PySem L2
def top (i : Nat) : Stmt := PySem.Challenge.pw_keepbefore_k05_whole_what_is_kept_is_wha.main.body.getD i (.Pass ⟨0, 0, 0, 0⟩)
abbrev s_is_number : Stmt := top 7
theorem sc_is_number : FnScope ["thing"] ["thing"] (defScope s_is_number) := ⟨rfl, rfl, rfl, by decide +kernel, rfl, by decide +kernel, by decide +kernel⟩
abbrev s_is_number_from : Stmt := top 8
theorem sc_is_number_from : FnScope ["thing", "least", "most"] ["thing", "least", "most"] (defScope s_is_number_from) := ⟨rfl, rfl, rfl, by decide +kernel, rfl, by decide +kernel, by decide +kernel⟩
abbrev s_Disk___init__ : Stmt := inClass (top 11) 0
theorem sc_Disk___init__ : FnScope ["self", "cells", "content"] ["self", "cells", "content"] (defScope s_Disk___init__) := ⟨rfl, rfl, rfl, by decide +kernel, rfl, by decide +kernel, by decide +kernel⟩
abbrev s_Disk_write : Stmt := inClass (top 11) 3
theorem sc_Disk_write : FnScope ["self", "cell", "content"] ["self", "cell", "content"] (defScope s_Disk_write) := ⟨rfl, rfl, rfl, by decide +kernel, rfl, by decide +kernel, by decide +kernel⟩
abbrev s_Disk_sync : Stmt := inClass (top 11) 4
theorem sc_Disk_sync : FnScope ["self"] ["self"] (defScope s_Disk_sync) := ⟨rfl, rfl, rfl, by decide +kernel, rfl, by decide +kernel, by decide +kernel⟩
abbrev s_Disk_fail : Stmt := inClass (top 11) 5
theorem sc_Disk_fail : FnScope ["self", "kept", "number", "cell", "content"] ["self", "kept"] (defScope s_Disk_fail) := ⟨rfl, rfl, rfl, by decide +kernel, rfl, by decide +kernel, by decide +kernel⟩
abbrev s_Disk_contents : Stmt := inClass (top 11) 6
theorem sc_Disk_contents : FnScope ["self"] ["self"] (defScope s_Disk_contents) := ⟨rfl, rfl, rfl, by decide +kernel, rfl, by decide +kernel, by decide +kernel⟩
abbrev s_Disk_lasting : Stmt := inClass (top 11) 7
theorem sc_Disk_lasting : FnScope ["self"] ["self"] (defScope s_Disk_lasting) := ⟨rfl, rfl, rfl, by decide +kernel, rfl, by decide +kernel, by decide +kernel⟩
abbrev s_Disk_pending : Stmt := inClass (top 11) 8
theorem sc_Disk_pending : FnScope ["self"] ["self"] (defScope s_Disk_pending) := ⟨rfl, rfl, rfl, by decide +kernel, rfl, by decide +kernel, by decide +kernel⟩
abbrev s_Disk__check_cell : Stmt := inClass (top 11) 10
theorem sc_Disk__check_cell : FnScope ["self", "cell"] ["self", "cell"] (defScope s_Disk__check_cell) := ⟨rfl, rfl, rfl, by decide +kernel, rfl, by decide +kernel, by decide +kernel⟩
abbrev s_are_kept : Stmt := top 12
theorem sc_are_kept : FnScope ["kept", "many", "least", "number"] ["kept", "many"] (defScope s_are_kept) := ⟨rfl, rfl, rfl, by decide +kernel, rfl, by decide +kernel, by decide +kernel⟩
abbrev s__law_random : Stmt := top 14
theorem sc__law_random : FnScope ["_law_script", "_law_salt", "_law_seed", "_law_cell"] ["_law_script", "_law_salt"] (defScope s__law_random) := ⟨rfl, rfl, rfl, by decide +kernel, rfl, by decide +kernel, by decide +kernel⟩
abbrev s__law_below : Stmt := top 15
theorem sc__law_below : FnScope ["_law_d", "_law_limit", "_law_result"] ["_law_d", "_law_limit"] (defScope s__law_below) := ⟨rfl, rfl, rfl, by decide +kernel, rfl, by decide +kernel, by decide +kernel⟩
abbrev s__law_kept : Stmt := top 16
theorem sc__law_kept : FnScope ["_law_d", "_law_many", "_law_number"] ["_law_d", "_law_many"] (defScope s__law_kept) := ⟨rfl, rfl, rfl, by decide +kernel, rfl, by decide +kernel, by decide +kernel⟩
abbrev s_law : Stmt := top 17
theorem sc_law : FnScope ["_law_script", "_law_d", "_law_cells", "_law_disk", "_law_twin", "_law_turn", "_law_k", "_law_waits", "_law_kept_here", "_law_number"] ["_law_script"] (defScope s_law) := ⟨rfl, rfl, rfl, by decide +kernel, rfl, by decide +kernel, by decide +kernel⟩
structure Gx (K : PySem.W.Frag) (mg : Str → Option Value) where
  C_Disk : Addr
  cl_Disk : Cls K C_Disk
  gC_Disk : mg "Disk" = some (.ref C_Disk)
  n_Disk__contents : NoAttr K C_Disk "_contents"
  n_Disk__lasting : NoAttr K C_Disk "_lasting"
  n_Disk__pending : NoAttr K C_Disk "_pending"
  n_Disk__reads : NoAttr K C_Disk "_reads"
  n_Disk__writes : NoAttr K C_Disk "_writes"
  n_Disk__syncs : NoAttr K C_Disk "_syncs"
  f_is_number : Addr
  fd_is_number : FuncData
  F_is_number : Fun K "is_number" "is_number" s_is_number f_is_number fd_is_number
  g_is_number : mg "is_number" = some (.ref f_is_number)
  f_is_number_from : Addr
  fd_is_number_from : FuncData
  F_is_number_from : Fun K "is_number_from" "is_number_from" s_is_number_from f_is_number_from fd_is_number_from
  g_is_number_from : mg "is_number_from" = some (.ref f_is_number_from)
  f_Disk___init__ : Addr
  fd_Disk___init__ : FuncData
  F_Disk___init__ : FunD K "__init__" "Disk.__init__" (defArgs s_Disk___init__) (defBody s_Disk___init__) (defScope s_Disk___init__) [] [("content", .int 0)] f_Disk___init__ fd_Disk___init__
  M_Disk___init__ : Mk K C_Disk f_Disk___init__
  f_Disk_write : Addr
  fd_Disk_write : FuncData
  F_Disk_write : Fun K "write" "Disk.write" s_Disk_write f_Disk_write fd_Disk_write
  m_Disk_write : Meth K C_Disk "write" f_Disk_write
  f_Disk_sync : Addr
  fd_Disk_sync : FuncData
  F_Disk_sync : Fun K "sync" "Disk.sync" s_Disk_sync f_Disk_sync fd_Disk_sync
  m_Disk_sync : Meth K C_Disk "sync" f_Disk_sync
  f_Disk_fail : Addr
  fd_Disk_fail : FuncData
  F_Disk_fail : Fun K "fail" "Disk.fail" s_Disk_fail f_Disk_fail fd_Disk_fail
  m_Disk_fail : Meth K C_Disk "fail" f_Disk_fail
  f_Disk_contents : Addr
  fd_Disk_contents : FuncData
  F_Disk_contents : Fun K "contents" "Disk.contents" s_Disk_contents f_Disk_contents fd_Disk_contents
  p_Disk_contents : Addr
  P_Disk_contents : PropOf K C_Disk "contents" p_Disk_contents f_Disk_contents
  f_Disk_lasting : Addr
  fd_Disk_lasting : FuncData
  F_Disk_lasting : Fun K "lasting" "Disk.lasting" s_Disk_lasting f_Disk_lasting fd_Disk_lasting
  p_Disk_lasting : Addr
  P_Disk_lasting : PropOf K C_Disk "lasting" p_Disk_lasting f_Disk_lasting
  f_Disk_pending : Addr
  fd_Disk_pending : FuncData
  F_Disk_pending : Fun K "pending" "Disk.pending" s_Disk_pending f_Disk_pending fd_Disk_pending
  p_Disk_pending : Addr
  P_Disk_pending : PropOf K C_Disk "pending" p_Disk_pending f_Disk_pending
  f_Disk__check_cell : Addr
  fd_Disk__check_cell : FuncData
  F_Disk__check_cell : Fun K "_check_cell" "Disk._check_cell" s_Disk__check_cell f_Disk__check_cell fd_Disk__check_cell
  m_Disk__check_cell : Meth K C_Disk "_check_cell" f_Disk__check_cell
  f_are_kept : Addr
  fd_are_kept : FuncData
  F_are_kept : Fun K "are_kept" "are_kept" s_are_kept f_are_kept fd_are_kept
  g_are_kept : mg "are_kept" = some (.ref f_are_kept)
  f__law_random : Addr
  fd__law_random : FuncData
  F__law_random : Fun K "_law_random" "_law_random" s__law_random f__law_random fd__law_random
  g__law_random : mg "_law_random" = some (.ref f__law_random)
  f__law_below : Addr
  fd__law_below : FuncData
  F__law_below : Fun K "_law_below" "_law_below" s__law_below f__law_below fd__law_below
  g__law_below : mg "_law_below" = some (.ref f__law_below)
  f__law_kept : Addr
  fd__law_kept : FuncData
  F__law_kept : Fun K "_law_kept" "_law_kept" s__law_kept f__law_kept fd__law_kept
  g__law_kept : mg "_law_kept" = some (.ref f__law_kept)
  z_isinstance : mg "isinstance" = none
  z_int : mg "int" = none
  z_bool : mg "bool" = none
  z_list : mg "list" = none
  z_tuple : mg "tuple" = none
  z_len : mg "len" = none
  z_abs : mg "abs" = none
  z_range : mg "range" = none
  t_MOST_CELLS : Tok
  c_MOST_CELLS : mg "MOST_CELLS" = some (.int 64 t_MOST_CELLS)
section
variable {K : PySem.W.Frag} {mg : Str → Option Value}
theorem b_is_number (T : Gx K mg) : Binds K T.fd_is_number ["thing"] [] := T.F_is_number.binds (ps := ["thing"]) fun _ _ _ _ _ _ us hl => match us, hl with | [_], _ => rfl
theorem b_is_number_from (T : Gx K mg) : Binds K T.fd_is_number_from ["thing", "least", "most"] [] := T.F_is_number_from.binds (ps := ["thing", "least", "most"]) fun _ _ _ _ _ _ us hl => match us, hl with | [_, _, _], _ => rfl
theorem b_Disk_write (T : Gx K mg) : Binds K T.fd_Disk_write ["self", "cell", "content"] [] := T.F_Disk_write.binds (ps := ["self", "cell", "content"]) fun _ _ _ _ _ _ us hl => match us, hl with | [_, _, _], _ => rfl
theorem b_Disk_sync (T : Gx K mg) : Binds K T.fd_Disk_sync ["self"] [] := T.F_Disk_sync.binds (ps := ["self"]) fun _ _ _ _ _ _ us hl => match us, hl with | [_], _ => rfl
theorem b_Disk_fail (T : Gx K mg) : Binds K T.fd_Disk_fail ["self", "kept"] [] := T.F_Disk_fail.binds (ps := ["self", "kept"]) fun _ _ _ _ _ _ us hl => match us, hl with | [_, _], _ => rfl
theorem b_Disk_contents (T : Gx K mg) : Binds K T.fd_Disk_contents ["self"] [] := T.F_Disk_contents.binds (ps := ["self"]) fun _ _ _ _ _ _ us hl => match us, hl with | [_], _ => rfl
theorem b_Disk_lasting (T : Gx K mg) : Binds K T.fd_Disk_lasting ["self"] [] := T.F_Disk_lasting.binds (ps := ["self"]) fun _ _ _ _ _ _ us hl => match us, hl with | [_], _ => rfl
theorem b_Disk_pending (T : Gx K mg) : Binds K T.fd_Disk_pending ["self"] [] := T.F_Disk_pending.binds (ps := ["self"]) fun _ _ _ _ _ _ us hl => match us, hl with | [_], _ => rfl
theorem b_Disk__check_cell (T : Gx K mg) : Binds K T.fd_Disk__check_cell ["self", "cell"] [] := T.F_Disk__check_cell.binds (ps := ["self", "cell"]) fun _ _ _ _ _ _ us hl => match us, hl with | [_, _], _ => rfl
theorem b_are_kept (T : Gx K mg) : Binds K T.fd_are_kept ["kept", "many"] [] := T.F_are_kept.binds (ps := ["kept", "many"]) fun _ _ _ _ _ _ us hl => match us, hl with | [_, _], _ => rfl
theorem b__law_random (T : Gx K mg) : Binds K T.fd__law_random ["_law_script", "_law_salt"] [] := T.F__law_random.binds (ps := ["_law_script", "_law_salt"]) fun _ _ _ _ _ _ us hl => match us, hl with | [_, _], _ => rfl
theorem b__law_below (T : Gx K mg) : Binds K T.fd__law_below ["_law_d", "_law_limit"] [] := T.F__law_below.binds (ps := ["_law_d", "_law_limit"]) fun _ _ _ _ _ _ us hl => match us, hl with | [_, _], _ => rfl
theorem b__law_kept (T : Gx K mg) : Binds K T.fd__law_kept ["_law_d", "_law_many"] [] := T.F__law_kept.binds (ps := ["_law_d", "_law_many"]) fun _ _ _ _ _ _ us hl => match us, hl with | [_, _], _ => rfl
end
/-! ### heaps and frames -/
/-- outside S all that was tracked is as it was -/
def Fr (S : List Addr) (H H' : Hp) : Prop := ∀ b o, H b = some o → b ∉ S → H' b = some o
theorem Fr.refl (S : List Addr) (H : Hp) : Fr S H H := fun _ _ h _ => h
theorem Fr.trans {S : List Addr} {H H1 H2 : Hp} (a : Fr S H H1) (b : Fr S H1 H2) : Fr S H H2 := fun c o h n => b c o (a c o h n) n
theorem Fr.mono {S T : List Addr} {H H' : Hp} (a : Fr S H H') (h : ∀ b ∈ S, b ∈ T) : Fr T H H' := fun b o e n => a b o e (fun z => n (h b z))
theorem Fr.put {S : List Addr} {H : Hp} {a : Addr} {o : HO} (h : a ∈ S) : Fr S H (upd H a o) := fun b u e n => by
  rw [upd_ne (fun z => n (by rw [z]; exact h))]
  exact e
theorem Fr.new {S : List Addr} {H : Hp} {p : Addr} {o : HO} (h : H p = none) : Fr S H (upd H p o) := fun b u e _ => by
  rw [upd_ne (ne_of_none e h)]
  exact e
theorem Fr.nil_of {S : List Addr} {H H' : Hp} (a : Fr [] H H') : Fr S H H' := a.mono (fun _ h => by cases h)
theorem Fr.at_ {S : List Addr} {H H' : Hp} {b : Addr} {o : HO} (f : Fr S H H') (e : H b = some o) (n : b ∉ S) : H' b = some o := f b o e n
theorem fresh_out {H : Hp} {b : Addr} {o : HO} {p : Addr} (e : H b = some o) (n : H p = none) : b ≠ p := ne_of_none e n
/-- S and T share nothing -/
def Sep (S T : List Addr) : Prop := ∀ b ∈ S, b ∉ T
theorem Sep.symm {S T : List Addr} (h : Sep S T) : Sep T S := fun b hb hs => h b hs hb
/-- what owns S' came of S or is new, and so is apart from what stood in H -/
theorem Sep.grow {H : Hp} {S S' T : List Addr} (h : Sep S T) (g : ∀ b ∈ S', b ∈ S ∨ H b = none) (t : ∀ b ∈ T, ∃ o, H b = some o) : Sep S' T := fun b hb ht => by
  rcases g b hb with z | z
  · exact h b z ht
  · obtain ⟨o, e⟩ := t b ht
    rw [z] at e
    cases e
theorem vlen {α β : Type} {xs : List α} {f : α → β} : (xs.map f).length = xs.length := List.length_map f
theorem sz_le {n : Nat} (h : n ≤ 100000) : n ≤ sizeLine := Nat.le_trans h (by decide)
theorem sz_lt {n : Nat} (h : n < 100000) : n < sizeLine := Nat.lt_of_lt_of_le h (by decide)
theorem ix_at {n : Nat} (j : Nat) (h : j < n) : ixN n (j : Int) = some j := by
  unfold ixN
  rw [if_pos (Int.natCast_nonneg j), if_pos (by omega)]
  rfl
theorem free_upd {H : Hp} {a p : Addr} {o : HO} (h : upd H a o p = none) : H p = none ∧ p ≠ a := by
  by_cases e : p = a
  · rw [e, upd_same] at h
    cases h
  · rw [upd_ne e] at h
    exact ⟨h, e⟩
theorem int_at {ns : List Int} {i : Nat} {x : V} (h : (ns.map V.int)[i]? = some x) : ∃ u, x = V.int u ∧ ns[i]? = some u := by
  rw [List.getElem?_map] at h
  cases e : ns[i]? with
  | none =>
    rw [e] at h
    cases h
  | some u =>
    rw [e] at h
    exact ⟨u, (Option.some.inj h).symm, rfl⟩
theorem lt_of_at {α : Type} {xs : List α} {i : Nat} {x : α} (h : xs[i]? = some x) : i < xs.length := (List.getElem?_eq_some_iff.mp h).1
theorem Fr.seq {K : PySem.W.Frag} {S : List Addr} {H H' : Hp} {a : Addr} {xs : List V} (f : Fr S H H') (n : a ∉ S) (h : SqL K H a xs) : SqL K H' a xs := by
  rcases h with (h | ⟨o, h⟩) | h
  · exact .inl (.inl (f _ _ h n))
  · exact .inl (.inr ⟨o, f _ _ h n⟩)
  · exact .inr h
theorem Fr.tup {K : PySem.W.Frag} {S : List Addr} {H H' : Hp} {a : Addr} {xs : List V} (f : Fr S H H') (n : a ∉ S) (h : SqT K H a xs) : SqT K H' a xs := by
  rcases h with (h | ⟨o, h⟩) | h
  · exact .inl (.inl (f _ _ h n))
  · exact .inl (.inr ⟨o, f _ _ h n⟩)
  · exact .inr h
/-! ### the law's random list -/
def Rnd (H : Hp) (r : Addr) : Prop := ∃ (a b : Int) (ns : List Int), H r = some (.lst (V.int a :: V.int b :: ns.map V.int))
def spBelow : Sp := fun vs H Q _ => ∃ (r : Addr) (lim : Nat), vs = [.ref r, .int (lim : Int)] ∧ Rnd H r ∧ 0 < lim ∧ lim < 1000000 ∧ ∀ (z : Nat) (H' : Hp), z < lim → Fr [r] H H' → Rnd H' r → Q (.int (z : Int)) H'
theorem Rnd.put {H : Hp} {r : Addr} (a b : Int) (ns : List Int) : Rnd (upd H r (.lst (V.int a :: V.int b :: ns.map V.int))) r := ⟨a, b, ns, upd_same⟩
theorem Rnd.notup {H : Hp} {r : Addr} (h : Rnd H r) : ∀ b ∈ [r], ∀ xs, H b ≠ some (.tup xs) := by
  obtain ⟨a, b, ns, e⟩ := h
  intro b hb xs
  rw [List.mem_singleton.mp hb, e]
  simp
theorem Rnd.keep {H H' : Hp} {r : Addr} {S : List Addr} (h : Rnd H r) (f : Fr S H H') (n : r ∉ S) : Rnd H' r := by
  obtain ⟨a, b, ns, e⟩ := h
  exact ⟨a, b, ns, f _ _ e n⟩
section
variable {P : Program} {w : World} {K : PySem.W.Frag} {mg : Str → Option Value} {base : Heap}
theorem ok_below (T : Gx K mg) : FnOk P w K mg base CX0 1 T.f__law_below T.fd__law_below ["_law_d", "_law_limit"] spBelow := by
  refine T.F__law_below.ok sc__law_below (fun vs H Q E h => ?_) (fun cdv A outer s H vs Q E hr h => ?_)
  · obtain ⟨r, lim, rfl, _⟩ := h
    rfl
  · obtain ⟨r, lin, rfl, hR, h0', h1', k'⟩ := h
    obtain ⟨lim, hlim⟩ : ∃ lim : Int, lim = (lin : Int) := ⟨_, rfl⟩
    have h0 : 0 < lim := by omega
    have h1 : lim < 1000000 := by omega
    have k : ∀ (z : Int) (H' : Hp), 0 ≤ z → z < lim → Fr [r] H H' → Rnd H' r → Q (.int z) H' := fun z H' a b f g => by
      obtain ⟨n, rfl⟩ := Int.eq_ofNat_of_zero_le a
      exact k' n H' (by omega) f g
    rw [← hlim]
    refine ⟨_, C8.pss_cut (ps_if (PW.pt (pw_and (pt_cmpR op_eq (pe_ix ix_list (pv 0) pe_int (fun _ _ => rfl)) pe_int (nomark _))
          (pw_and1 (pt_cmpR op_gt (pe_callB call_len_seq (by rfl) T.z_len PySem.boot_len (pa_cons (pv 0) pa_nil)) pe_int (nomark _)))))
        (pss_one (ps_asg (pe_bm PySem.F.plainAttrs_list PySem.F.slot_list_pop PySem.F.type_list_pop mt_popAt (pv 0) (pa_cons pe_int pa_nil)) (pg_sub (pv 0) pe_int set_list))) pss_nil)
      (pss_cons (ps_if (pt_cmpR op_gt (pe_ix ix_list (pv 0) pe_int (fun _ _ => rfl)) pe_int (nomark _))
        (pss_cons (ps_set (i := 2) sc__law_below.nd rfl (.inl rfl) (pe_op op_mod (pe_callTy call_int1 (by rfl) T.z_int (by decide +kernel) (pa_cons (pe_ix ix_list (pv 0) pe_int (fun _ _ => rfl)) pa_nil)) (pv 1)))
        (pss_cons (ps_asg (pe_op op_fdiv (pe_ix ix_list (pv 0) pe_int (fun _ _ => rfl)) (pv 1)) (pg_sub (pv 0) pe_int set_list))
        (pss_one (ps_ret (pv 2))))) pss_nil)
      (pss_cons (ps_asg (pe_op op_mod (pe_callTy call_int1 (by rfl) T.z_int (by decide +kernel) (pa_cons (pe_op op_add (pe_op op_mul (pe_ix ix_list (pv 0) pe_int (fun _ _ => rfl)) pe_int) pe_int) pa_nil)) pe_int) (pg_sub (pv 0) pe_int set_list))
      (pss_one (ps_ret (pe_op op_mod (pe_callTy call_int1 (by rfl) T.z_int (by decide +kernel) (pa_cons (pe_op op_fdiv (pe_ix ix_list (pv 0) pe_int (fun _ _ => rfl)) pe_int) pa_nil)) (pv 1)))))), ?_⟩
    refine ⟨fun σ H1 => σ = [some (.ref r), some (.int lim), none] ∧ Rnd H1 r ∧ Fr [r] H H1, ?_, ?_⟩
    · obtain ⟨a, b, ns, e⟩ := hR
      have hR0 : Rnd H r := ⟨a, b, ns, e⟩
      refine ⟨_, rfl, r, _, 1, .int b, rfl, rfl, SqL.of e, atI_nat (j := 1) rfl, rfl, _, rfl, ite2 (fun hb => ?_) (fun hb => ?_)⟩
      · refine ⟨_, rfl, r, _, rfl, .inl (SqL.of e), _, _, rfl, rfl, _, rfl, ite2 (fun hl => ?_) (fun hl => ?_)⟩
        · have hl' : (2 : Int) < ((V.int a :: V.int b :: ns.map V.int).length : Int) := of_decide_eq_true hl
          cases ns with
          | nil => exact absurd hl' (by simp)
          | cons c rest =>
            refine ⟨_, rfl, .inl ⟨rfl, _, SqL.of e⟩, r, _, 2, 2, .int c, rfl, rfl, e, by decide, by decide, ?_, rfl, ?_⟩
            · show seqIndex? 2 _ = some 2
              unfold seqIndex?
              rw [List.length_cons, List.length_cons, List.map_cons, List.length_cons]
              simp
              omega
            · refine ⟨_, rfl, r, _, 1, 1, rfl, rfl, upd_same, ?_, rfl, ?_, ?_⟩
              · exact ix_at 1 (by simp [List.length_eraseIdx])
              · rw [upd_upd]
                exact Rnd.put a c rest
              · rw [upd_upd]
                exact Fr.put (List.mem_singleton.mpr rfl)
        · exact ⟨rfl, hR0, Fr.refl _ _⟩
      · exact ⟨rfl, hR0, Fr.refl _ _⟩
    · rintro σ' H1 ⟨rfl, ⟨a, b, ns, e⟩, fr⟩
      refine ⟨_, rfl, r, _, 1, .int b, rfl, rfl, SqL.of e, atI_nat (j := 1) rfl, _, _, rfl, rfl, _, rfl, ite2 (fun hb => ?_) (fun hb => ?_)⟩
      · refine ⟨_, rfl, r, _, 1, .int b, rfl, rfl, SqL.of e, atI_nat (j := 1) rfl, .inl ⟨_, rfl, ?_⟩⟩
        refine ⟨_, rfl, _, _, rfl, rfl, h0, ?_⟩
        refine ⟨_, rfl, r, _, 1, .int b, rfl, rfl, SqL.of e, atI_nat (j := 1) rfl, _, rfl, _, _, rfl, rfl, ⟨h0, by omega⟩, ?_⟩
        refine ⟨_, rfl, r, _, 1, 1, rfl, rfl, e, ix_at 1 (by simp), ?_⟩
        refine ⟨_, rfl, k _ _ (Int.emod_nonneg _ (by omega)) (Int.emod_lt_of_pos _ h0) (fr.trans (Fr.put (List.mem_singleton.mpr rfl))) (Rnd.put a _ ns)⟩
      · refine ⟨_, rfl, r, _, 0, .int a, rfl, rfl, SqL.of e, atI_nat (j := 0) rfl, _, _, rfl, rfl, .inr (by decide), _, _, rfl, rfl, .inl ⟨_, rfl, _, _, rfl, rfl, (by show (0 : Int) < 2147483647; decide), ?_⟩⟩
        refine ⟨_, rfl, r, _, 0, 0, rfl, rfl, e, ix_at 0 (by simp), ?_⟩
        refine ⟨_, rfl, r, _, 0, _, rfl, rfl, SqL.of upd_same, atI_nat (j := 0) rfl, _, _, rfl, rfl, ⟨by decide, by decide⟩, .inl ⟨_, rfl, _, rfl, _, _, rfl, rfl, h0, ?_⟩⟩
        exact k _ _ (Int.emod_nonneg _ (by omega)) (Int.emod_lt_of_pos _ h0) (fr.trans (Fr.put (List.mem_singleton.mpr rfl))) (Rnd.put _ b ns)
end
def spRandom (K : PySem.W.Frag) : Sp := fun vs H Q _ => ∃ (a : Addr) (salt : Int) (ns : List Int), vs = [.ref a, .int salt] ∧ SqL K H a (ns.map V.int) ∧ ns.length ≤ 63 ∧ ∀ (r : Addr) (H' : Hp), H r = none → Fr [] H H' → Rnd H' r → Q (.ref r) H'
section
variable {P : Program} {w : World} {K : PySem.W.Frag} {mg : Str → Option Value} {base : Heap}
theorem ok_random (T : Gx K mg) : FnOk P w K mg base CX0 1 T.f__law_random T.fd__law_random ["_law_script", "_law_salt"] (spRandom K) := by
  refine T.F__law_random.ok sc__law_random (fun vs H Q E h => ?_) (fun cdv A outer s H vs Q E hr h => ?_)
  · obtain ⟨a, salt, ns, rfl, _⟩ := h
    rfl
  · obtain ⟨a, salt, ns, rfl, hS, hlen, k⟩ := h
    refine ⟨_, pss_cons (ps_set (i := 2) sc__law_random.nd rfl (.inl rfl) (pv 1))
      (pss_cons (ps_for PassesOwn.never rfl (pi_list (pv 0)) (pg_name (i := 3) sc__law_random.nd rfl (.inl rfl))
        (pss_one (ps_set (i := 2) sc__law_random.nd rfl (.inl rfl) (pe_op op_mod (pe_callTy call_int1 (by rfl) T.z_int (by decide +kernel) (pa_cons (pe_op op_add (pe_op op_mul (pv 2) pe_int) (pe_callB call_abs (by rfl) T.z_abs (by decide +kernel) (pa_cons (pv 3) pa_nil))) pa_nil)) pe_int))))
      (pss_one (ps_ret (pe_op op_cat (pe_lst (pa_cons (pv 2) (pa_cons pe_int pa_nil))) (pe_lc (own := [("_law_cell", 3)]) (g := gName 3) rfl sc__law_random.nd (pi_list (pv 0)) (blkOk_by (N := ["_law_script", "_law_salt", "_law_seed", "_law_cell"]) (sc := defScope s__law_random) (by decide +kernel)) (fun _ _ _ _ _ => pg_name (i := 3) sc__law_random.nd rfl (.inl rfl)) (fun _ _ _ _ _ => pts_one (pt_cmpR op_ge (pv 3) (pe_op op_pow pe_int pe_int) (nomark _))) (fun _ _ _ _ _ => pv 3)))))), ?_⟩
    refine ⟨_, rfl, _, rfl, a, rfl, ⟨_, hS⟩, for_list (K := K) (a := a) (xs := ns.map V.int) (fun i σ H' => H' = H ∧ ∃ (z : Int) (v : Option V), σ = [some (.ref a), some (.int salt), some (.int z), v]) ⟨rfl, salt, none, rfl⟩ (fun i σ H' _ e => by rw [e.1]; exact hS) ?_ ?_⟩
    · rintro i x σ H' hi ⟨rfl, z, v, rfl⟩
      obtain ⟨u, rfl, _⟩ := int_at hi
      exact ⟨_, rfl, _, _, rfl, rfl, .inr (by decide), _, rfl, _, rfl, _, _, rfl, rfl, .inl ⟨_, rfl, _, _, rfl, rfl, (by show (0 : Int) < 2147483647; decide), rfl, _, _, rfl⟩⟩
    · rintro σ H' ⟨rfl, z, v, rfl⟩
      refine ⟨_, rfl, sz_le (by simp), fun l hl => ?_⟩
      have sl : Fr [] H' (upd H' l (.lst [V.int z, V.int 0])) := Fr.new hl
      have hS1 : SqL K (upd H' l (.lst [V.int z, V.int 0])) a (ns.map V.int) := sl.seq (by simp) hS
      refine ⟨_, rfl, a, rfl, ⟨_, hS1⟩, fun D hD => ?_⟩
      have hDl := free_upd hD
      refine lc_list (K := K) (a := a) (xs := ns.map V.int) (fun i H2 => ∃ ms : List Int, ms.length ≤ i ∧ H2 = upd (upd H' l (.lst [V.int z, V.int 0])) D (.lst (ms.map V.int))) ⟨[], Nat.le_refl _, rfl⟩ ?_ ?_ ?_
      · rintro i H2 _ ⟨ms, _, rfl⟩
        exact (Fr.new (S := []) hD).seq (by simp) hS1
      · rintro i x H2 hi ⟨ms, hm, rfl⟩
        obtain ⟨u, rfl, _⟩ := int_at hi
        have li := lt_of_at hi
        rw [List.length_map] at li
        refine ⟨rfl, _, rfl, _, _, rfl, rfl, ⟨by decide, by decide, by decide⟩, _, _, rfl, rfl, _, rfl, ite2 (fun _ => ?_) (fun _ => ?_)⟩
        · refine ⟨_, rfl, _, upd_same, ?_, ms ++ [u], ?_, ?_⟩
          · rw [List.length_map]
            exact sz_lt (by omega)
          · rw [List.length_append, List.length_singleton]
            omega
          · rw [upd_upd, List.map_append]
            rfl
        · exact ⟨ms, by omega, rfl⟩
      · rintro H2 ⟨ms, hm, rfl⟩
        rw [List.length_map] at hm
        refine ⟨l, D, [V.int z, V.int 0], _, rfl, rfl, ?_, upd_same, ?_, fun p hp => ?_⟩
        · rw [upd_ne hDl.2.symm]
          exact upd_same
        · rw [List.length_map]
          exact sz_le (by simp; omega)
        · obtain ⟨hp1, _⟩ := free_upd hp
          obtain ⟨hp2, _⟩ := free_upd hp1
          exact k p _ hp2 ((sl.trans (Fr.new hD)).trans (Fr.new hp)) ⟨z, 0, ms, upd_same⟩
end
/-! ### what counts as a number -/
def spNum (K : PySem.W.Frag) : Sp := fun vs H Q _ => ∃ (v : V) (t : Value) (b1 b2 : Bool), vs = [v] ∧ TyX K H v t ∧ PySem.W.kitOne K t (.type "int") = some b1 ∧ PySem.W.kitOne K t (.type "bool") = some b2 ∧ Q (.bl (b1 && !b2)) H
def spNumFrom (K : PySem.W.Frag) : Sp := fun vs H Q _ => ∃ (v : V) (lo hi : Int), vs = [v, .int lo, .int hi] ∧
  ((∃ i : Int, v = .int i ∧ Q (.bl (decide (lo ≤ i) && decide (i ≤ hi))) H) ∨ ∃ (t : Value) (b1 b2 : Bool), TyX K H v t ∧ PySem.W.kitOne K t (.type "int") = some b1 ∧ PySem.W.kitOne K t (.type "bool") = some b2 ∧ (b1 && !b2) = false ∧ Q (.bl false) H)
section
variable {P : Program} {w : World} {K : PySem.W.Frag} {mg : Str → Option Value} {base : Heap}
theorem ok_num (T : Gx K mg) : FnOk P w K mg base CX0 1 T.f_is_number T.fd_is_number ["thing"] (spNum K) := by
  refine T.F_is_number.ok sc_is_number (fun vs H Q E h => ?_) (fun cdv A outer s H vs Q E hr h => ?_)
  · obtain ⟨v, t, b1, b2, rfl, _⟩ := h
    rfl
  · obtain ⟨v, t, b1, b2, rfl, ty, e1, e2, k⟩ := h
    refine ⟨_, pss_one (ps_ret (pe_and (pe_callB call_isi (by rfl) T.z_isinstance (by decide +kernel) (pa_cons (pv 0) (pa_cons (pe_bltn (v := .ty "int") (by rfl) T.z_int (by decide +kernel) rfl) pa_nil)))
      (pe_one (pe_not (pe_callB call_isi (by rfl) T.z_isinstance (by decide +kernel) (pa_cons (pv 0) (pa_cons (pe_bltn (v := .ty "bool") (by rfl) T.z_bool (by decide +kernel) rfl) pa_nil))))))), ?_⟩
    refine ⟨v, rfl, v, .ty "int", t, _, b1, rfl, ClsV.ty "int", ty, e1, b1, rfl, ?_⟩
    cases b1 with
    | false => exact iteF k
    | true => exact iteT ⟨v, rfl, v, .ty "bool", t, _, b2, rfl, ClsV.ty "bool", ty, e2, b2, rfl, k⟩
theorem ok_numFrom (T : Gx K mg) : FnOk P w K mg base CX0 2 T.f_is_number_from T.fd_is_number_from ["thing", "least", "most"] (spNumFrom K) := by
  have G1 : FnOk P w K mg base CX0 1 T.f_is_number T.fd_is_number ["thing"] (spNum K) := ok_num T
  refine T.F_is_number_from.ok sc_is_number_from (fun vs H Q E h => ?_) (fun cdv A outer s H vs Q E hr h => ?_)
  · obtain ⟨v, lo, hi, rfl, _⟩ := h
    rfl
  · obtain ⟨v, lo, hi, rfl, h⟩ := h
    refine ⟨_, pss_one (ps_ret (pe_and (pe_call G1 hr (by rfl) T.g_is_number T.F_is_number.kp (b_is_number T) .nil pass0 (pa_cons (pv 0) pa_nil)) (pe_one (pe_chain op_le op_le (pv 1) (pv 0) (pv 2))))), ?_⟩
    rcases h with ⟨i, rfl, k⟩ | ⟨t, b1, b2, ty, e1, e2, e3, k⟩
    · refine ⟨_, rfl, .int i, .type "int", true, false, rfl, .base (.int i), kit_ty (by decide +kernel), kit_ty (by decide +kernel), true, rfl, iteT ?_⟩
      refine ⟨_, rfl, _, rfl, _, _, rfl, rfl, _, rfl, ?_⟩
      by_cases hl : lo ≤ i
      · rw [decide_eq_true hl] at k ⊢
        exact iteT ⟨_, rfl, _, _, rfl, rfl, k⟩
      · rw [decide_eq_false hl] at k ⊢
        exact iteF k
    · refine ⟨_, rfl, v, t, b1, b2, rfl, ty, e1, e2, _, rfl, ?_⟩
      rw [e3]
      exact iteF k
end
/-! ### a disk's attributes -/
def dF (a b c d e f : V) : List (Str × V) := [("_contents", a), ("_lasting", b), ("_pending", c), ("_reads", d), ("_writes", e), ("_syncs", f)]
theorem nf01 : ¬ (("_contents" : Str) = "_lasting") := by decide +kernel
theorem bf01 : (("_contents" : Str) == "_lasting") = false := by decide +kernel
theorem nf02 : ¬ (("_contents" : Str) = "_pending") := by decide +kernel
theorem bf02 : (("_contents" : Str) == "_pending") = false := by decide +kernel
theorem nf03 : ¬ (("_contents" : Str) = "_reads") := by decide +kernel
theorem bf03 : (("_contents" : Str) == "_reads") = false := by decide +kernel
theorem nf04 : ¬ (("_contents" : Str) = "_writes") := by decide +kernel
theorem bf04 : (("_contents" : Str) == "_writes") = false := by decide +kernel
theorem nf05 : ¬ (("_contents" : Str) = "_syncs") := by decide +kernel
theorem bf05 : (("_contents" : Str) == "_syncs") = false := by decide +kernel
theorem nf10 : ¬ (("_lasting" : Str) = "_contents") := by decide +kernel
theorem bf10 : (("_lasting" : Str) == "_contents") = false := by decide +kernel
theorem nf12 : ¬ (("_lasting" : Str) = "_pending") := by decide +kernel
theorem bf12 : (("_lasting" : Str) == "_pending") = false := by decide +kernel
theorem nf13 : ¬ (("_lasting" : Str) = "_reads") := by decide +kernel
theorem bf13 : (("_lasting" : Str) == "_reads") = false := by decide +kernel
theorem nf14 : ¬ (("_lasting" : Str) = "_writes") := by decide +kernel
theorem bf14 : (("_lasting" : Str) == "_writes") = false := by decide +kernel
theorem nf15 : ¬ (("_lasting" : Str) = "_syncs") := by decide +kernel
theorem bf15 : (("_lasting" : Str) == "_syncs") = false := by decide +kernel
theorem nf20 : ¬ (("_pending" : Str) = "_contents") := by decide +kernel
theorem bf20 : (("_pending" : Str) == "_contents") = false := by decide +kernel
theorem nf21 : ¬ (("_pending" : Str) = "_lasting") := by decide +kernel
theorem bf21 : (("_pending" : Str) == "_lasting") = false := by decide +kernel
theorem nf23 : ¬ (("_pending" : Str) = "_reads") := by decide +kernel
theorem bf23 : (("_pending" : Str) == "_reads") = false := by decide +kernel
theorem nf24 : ¬ (("_pending" : Str) = "_writes") := by decide +kernel
theorem bf24 : (("_pending" : Str) == "_writes") = false := by decide +kernel
theorem nf25 : ¬ (("_pending" : Str) = "_syncs") := by decide +kernel
theorem bf25 : (("_pending" : Str) == "_syncs") = false := by decide +kernel
theorem nf30 : ¬ (("_reads" : Str) = "_contents") := by decide +kernel
theorem bf30 : (("_reads" : Str) == "_contents") = false := by decide +kernel
theorem nf31 : ¬ (("_reads" : Str) = "_lasting") := by decide +kernel
theorem bf31 : (("_reads" : Str) == "_lasting") = false := by decide +kernel
theorem nf32 : ¬ (("_reads" : Str) = "_pending") := by decide +kernel
theorem bf32 : (("_reads" : Str) == "_pending") = false := by decide +kernel
theorem nf34 : ¬ (("_reads" : Str) = "_writes") := by decide +kernel
theorem bf34 : (("_reads" : Str) == "_writes") = false := by decide +kernel
theorem nf35 : ¬ (("_reads" : Str) = "_syncs") := by decide +kernel
theorem bf35 : (("_reads" : Str) == "_syncs") = false := by decide +kernel
theorem nf40 : ¬ (("_writes" : Str) = "_contents") := by decide +kernel
theorem bf40 : (("_writes" : Str) == "_contents") = false := by decide +kernel
theorem nf41 : ¬ (("_writes" : Str) = "_lasting") := by decide +kernel
theorem bf41 : (("_writes" : Str) == "_lasting") = false := by decide +kernel
theorem nf42 : ¬ (("_writes" : Str) = "_pending") := by decide +kernel
theorem bf42 : (("_writes" : Str) == "_pending") = false := by decide +kernel
theorem nf43 : ¬ (("_writes" : Str) = "_reads") := by decide +kernel
theorem bf43 : (("_writes" : Str) == "_reads") = false := by decide +kernel
theorem nf45 : ¬ (("_writes" : Str) = "_syncs") := by decide +kernel
theorem bf45 : (("_writes" : Str) == "_syncs") = false := by decide +kernel
theorem nf50 : ¬ (("_syncs" : Str) = "_contents") := by decide +kernel
theorem bf50 : (("_syncs" : Str) == "_contents") = false := by decide +kernel
theorem nf51 : ¬ (("_syncs" : Str) = "_lasting") := by decide +kernel
theorem bf51 : (("_syncs" : Str) == "_lasting") = false := by decide +kernel
theorem nf52 : ¬ (("_syncs" : Str) = "_pending") := by decide +kernel
theorem bf52 : (("_syncs" : Str) == "_pending") = false := by decide +kernel
theorem nf53 : ¬ (("_syncs" : Str) = "_reads") := by decide +kernel
theorem bf53 : (("_syncs" : Str) == "_reads") = false := by decide +kernel
theorem nf54 : ¬ (("_syncs" : Str) = "_writes") := by decide +kernel
theorem bf54 : (("_syncs" : Str) == "_writes") = false := by decide +kernel
theorem bf00 : (("_contents" : Str) == "_contents") = true := by decide +kernel
theorem bf11 : (("_lasting" : Str) == "_lasting") = true := by decide +kernel
theorem bf22 : (("_pending" : Str) == "_pending") = true := by decide +kernel
theorem bf33 : (("_reads" : Str) == "_reads") = true := by decide +kernel
theorem bf44 : (("_writes" : Str) == "_writes") = true := by decide +kernel
theorem bf55 : (("_syncs" : Str) == "_syncs") = true := by decide +kernel
theorem dF_get0 {a b c d e f : V} : (dF a b c d e f).lookup ("_contents" : Str) = some a := by
  unfold dF
  simp only [List.lookup, bf00]
theorem dF_put0 {a b c d e f z : V} : putF "_contents" z (dF a b c d e f) = dF z b c d e f := by
  unfold dF
  simp only [putF, if_true, eq_self_iff_true]
theorem dF_get1 {a b c d e f : V} : (dF a b c d e f).lookup ("_lasting" : Str) = some b := by
  unfold dF
  simp only [List.lookup, bf10, bf11]
theorem dF_put1 {a b c d e f z : V} : putF "_lasting" z (dF a b c d e f) = dF a z c d e f := by
  unfold dF
  simp only [putF, if_neg nf01, if_true, eq_self_iff_true]
theorem dF_get2 {a b c d e f : V} : (dF a b c d e f).lookup ("_pending" : Str) = some c := by
  unfold dF
  simp only [List.lookup, bf20, bf21, bf22]
theorem dF_put2 {a b c d e f z : V} : putF "_pending" z (dF a b c d e f) = dF a b z d e f := by
  unfold dF
  simp only [putF, if_neg nf02, if_neg nf12, if_true, eq_self_iff_true]
theorem dF_get3 {a b c d e f : V} : (dF a b c d e f).lookup ("_reads" : Str) = some d := by
  unfold dF
  simp only [List.lookup, bf30, bf31, bf32, bf33]
theorem dF_put3 {a b c d e f z : V} : putF "_reads" z (dF a b c d e f) = dF a b c z e f := by
  unfold dF
  simp only [putF, if_neg nf03, if_neg nf13, if_neg nf23, if_true, eq_self_iff_true]
theorem dF_get4 {a b c d e f : V} : (dF a b c d e f).lookup ("_writes" : Str) = some e := by
  unfold dF
  simp only [List.lookup, bf40, bf41, bf42, bf43, bf44]
theorem dF_put4 {a b c d e f z : V} : putF "_writes" z (dF a b c d e f) = dF a b c d z f := by
  unfold dF
  simp only [putF, if_neg nf04, if_neg nf14, if_neg nf24, if_neg nf34, if_true, eq_self_iff_true]
theorem dF_get5 {a b c d e f : V} : (dF a b c d e f).lookup ("_syncs" : Str) = some f := by
  unfold dF
  simp only [List.lookup, bf50, bf51, bf52, bf53, bf54, bf55]
theorem dF_put5 {a b c d e f z : V} : putF "_syncs" z (dF a b c d e f) = dF a b c d e z := by
  unfold dF
  simp only [putF, if_neg nf05, if_neg nf15, if_neg nf25, if_neg nf35, if_neg nf45, if_true, eq_self_iff_true]
theorem dF_made {a b c d e f : V} : putF "_syncs" f (putF "_writes" e (putF "_reads" d (putF "_pending" c (putF "_lasting" b (putF "_contents" a []))))) = dF a b c d e f := by
  unfold dF
  simp only [putF, if_neg nf01, if_neg nf02, if_neg nf03, if_neg nf04, if_neg nf05, if_neg nf12, if_neg nf13, if_neg nf14, if_neg nf15, if_neg nf23, if_neg nf24, if_neg nf25, if_neg nf34, if_neg nf35, if_neg nf45]
theorem dF_no_write {a b c d e f : V} : (dF a b c d e f).lookup ("write" : Str) = none := by
  unfold dF
  simp only [List.lookup, (show (("write" : Str) == "_contents") = false by decide +kernel), (show (("write" : Str) == "_lasting") = false by decide +kernel), (show (("write" : Str) == "_pending") = false by decide +kernel), (show (("write" : Str) == "_reads") = false by decide +kernel), (show (("write" : Str) == "_writes") = false by decide +kernel), (show (("write" : Str) == "_syncs") = false by decide +kernel)]
theorem dF_no_sync {a b c d e f : V} : (dF a b c d e f).lookup ("sync" : Str) = none := by
  unfold dF
  simp only [List.lookup, (show (("sync" : Str) == "_contents") = false by decide +kernel), (show (("sync" : Str) == "_lasting") = false by decide +kernel), (show (("sync" : Str) == "_pending") = false by decide +kernel), (show (("sync" : Str) == "_reads") = false by decide +kernel), (show (("sync" : Str) == "_writes") = false by decide +kernel), (show (("sync" : Str) == "_syncs") = false by decide +kernel)]
theorem dF_no_fail {a b c d e f : V} : (dF a b c d e f).lookup ("fail" : Str) = none := by
  unfold dF
  simp only [List.lookup, (show (("fail" : Str) == "_contents") = false by decide +kernel), (show (("fail" : Str) == "_lasting") = false by decide +kernel), (show (("fail" : Str) == "_pending") = false by decide +kernel), (show (("fail" : Str) == "_reads") = false by decide +kernel), (show (("fail" : Str) == "_writes") = false by decide +kernel), (show (("fail" : Str) == "_syncs") = false by decide +kernel)]
theorem dF_no__check_cell {a b c d e f : V} : (dF a b c d e f).lookup ("_check_cell" : Str) = none := by
  unfold dF
  simp only [List.lookup, (show (("_check_cell" : Str) == "_contents") = false by decide +kernel), (show (("_check_cell" : Str) == "_lasting") = false by decide +kernel), (show (("_check_cell" : Str) == "_pending") = false by decide +kernel), (show (("_check_cell" : Str) == "_reads") = false by decide +kernel), (show (("_check_cell" : Str) == "_writes") = false by decide +kernel), (show (("_check_cell" : Str) == "_syncs") = false by decide +kernel)]
theorem dF_no_read {a b c d e f : V} : (dF a b c d e f).lookup ("read" : Str) = none := by
  unfold dF
  simp only [List.lookup, (show (("read" : Str) == "_contents") = false by decide +kernel), (show (("read" : Str) == "_lasting") = false by decide +kernel), (show (("read" : Str) == "_pending") = false by decide +kernel), (show (("read" : Str) == "_reads") = false by decide +kernel), (show (("read" : Str) == "_writes") = false by decide +kernel), (show (("read" : Str) == "_syncs") = false by decide +kernel)]
theorem dF_len {a b c d e f : V} : (dF a b c d e f).length < 1000 := by
  unfold dF
  simp
theorem putF_len (f : Str) (v : V) : ∀ fs : List (Str × V), (putF f v fs).length ≤ fs.length + 1
  | [] => Nat.le_refl _
  | (g, x) :: r => by
    show (if g = f then (g, v) :: r else (g, x) :: putF f v r).length ≤ r.length + 1 + 1
    split
    · simp
    · have := putF_len f v r
      simp only [List.length_cons]
      omega
/-! ### disks -/
structure Dk where
  p : Addr
  dx : Addr
  c : Addr
  l : Addr
  d : Addr
def Dk.own (D : Dk) : List Addr := [D.p, D.c, D.l, D.d]
def Pend (H : Hp) (ts : List Addr) (ps : List (Nat × V)) : Prop := ts.length = ps.length ∧ ∀ (i : Nat) (t : Addr) (q : Nat × V), ts[i]? = some t → ps[i]? = some q → H t = some (.tup [.int (q.1 : Int), q.2])
structure DiskAt (C : Addr) (H : Hp) (D : Dk) (cs ls : List V) (ps : List (Nat × V)) (r w s : Int) : Prop where
  ins : H D.p = some (.ins C D.dx (dF (.ref D.c) (.ref D.l) (.ref D.d) (.int r) (.int w) (.int s)))
  cs_ : H D.c = some (.lst cs)
  ls_ : H D.l = some (.lst ls)
  pend : ∃ ts : List Addr, H D.d = some (.lst (ts.map V.ref)) ∧ Pend H ts ps
  cl : D.c ≠ D.l
  cd : D.c ≠ D.d
  ld : D.l ≠ D.d
  len : cs.length = ls.length
  small : cs.length ≤ 64
  ok : ∀ q ∈ ps, q.1 < ls.length
theorem Pend.keep {H H' : Hp} {ts : List Addr} {ps : List (Nat × V)} {S : List Addr} (h : Pend H ts ps) (f : Fr S H H') (n : ∀ b ∈ S, ∀ xs, H b ≠ some (.tup xs)) : Pend H' ts ps :=
  ⟨h.1, fun i t q e1 e2 => f _ _ (h.2 i t q e1 e2) (fun z => n t z _ (h.2 i t q e1 e2))⟩
theorem Pend.snoc {H : Hp} {ts : List Addr} {ps : List (Nat × V)} {t : Addr} {i : Nat} {v : V} (h : Pend H ts ps) (e : H t = some (.tup [.int (i : Int), v])) : Pend H (ts ++ [t]) (ps ++ [(i, v)]) := by
  refine ⟨by rw [List.length_append, List.length_append, h.1]; rfl, fun j u q e1 e2 => ?_⟩
  by_cases hj : j < ts.length
  · rw [List.getElem?_append_left hj] at e1
    rw [List.getElem?_append_left (by rw [← h.1]; exact hj)] at e2
    exact h.2 j u q e1 e2
  · rw [List.getElem?_append_right (by omega)] at e1
    rw [List.getElem?_append_right (by rw [← h.1]; omega)] at e2
    rw [← h.1] at e2
    have hz : j - ts.length = 0 := by
      have := lt_of_at e1
      simp at this
      omega
    rw [hz] at e1 e2
    cases e1
    cases e2
    exact e
section
variable {C : Addr} {H H' : Hp} {D : Dk} {cs ls : List V} {ps : List (Nat × V)} {r w s : Int}
theorem DiskAt.there (h : DiskAt C H D cs ls ps r w s) : ∀ b ∈ D.own, ∃ o, H b = some o := by
  obtain ⟨ts, e, _⟩ := h.pend
  intro b hb
  simp only [Dk.own, List.mem_cons, List.not_mem_nil, or_false] at hb
  rcases hb with rfl | rfl | rfl | rfl
  · exact ⟨_, h.ins⟩
  · exact ⟨_, h.cs_⟩
  · exact ⟨_, h.ls_⟩
  · exact ⟨_, e⟩
theorem DiskAt.notup (h : DiskAt C H D cs ls ps r w s) : ∀ b ∈ D.own, ∀ xs, H b ≠ some (.tup xs) := by
  obtain ⟨ts, e, _⟩ := h.pend
  intro b hb xs
  simp only [Dk.own, List.mem_cons, List.not_mem_nil, or_false] at hb
  rcases hb with rfl | rfl | rfl | rfl
  · rw [h.ins]; simp
  · rw [h.cs_]; simp
  · rw [h.ls_]; simp
  · rw [e]; simp
theorem DiskAt.pc (h : DiskAt C H D cs ls ps r w s) : D.p ≠ D.c := ne_of h.ins h.cs_ (by simp)
theorem DiskAt.pl (h : DiskAt C H D cs ls ps r w s) : D.p ≠ D.l := ne_of h.ins h.ls_ (by simp)
theorem DiskAt.pd (h : DiskAt C H D cs ls ps r w s) : D.p ≠ D.d := by
  obtain ⟨ts, e, _⟩ := h.pend
  exact ne_of h.ins e (by simp)
/-- a disk stays where only what it does not own changes (and no tuple does) -/
theorem DiskAt.keep {S : List Addr} (h : DiskAt C H D cs ls ps r w s) (f : Fr S H H') (n : ∀ b ∈ D.own, b ∉ S) (m : ∀ b ∈ S, ∀ xs, H b ≠ some (.tup xs)) : DiskAt C H' D cs ls ps r w s := by
  obtain ⟨ts, e, pn⟩ := h.pend
  have hp : D.p ∉ S := n _ (by simp [Dk.own])
  have hc : D.c ∉ S := n _ (by simp [Dk.own])
  have hl : D.l ∉ S := n _ (by simp [Dk.own])
  have hd : D.d ∉ S := n _ (by simp [Dk.own])
  exact ⟨f _ _ h.ins hp, f _ _ h.cs_ hc, f _ _ h.ls_ hl, ⟨ts, f _ _ e hd, pn.keep f m⟩, h.cl, h.cd, h.ld, h.len, h.small, h.ok⟩
end
/-! ### the promises -/
def spCheck (C : Addr) : Sp := fun vs H Q _ => ∃ (D : Dk) (cs ls : List V) (ps : List (Nat × V)) (r w s i : Int), vs = [.ref D.p, .int i] ∧ DiskAt C H D cs ls ps r w s ∧ 0 ≤ i ∧ i < cs.length ∧ Q .non H
def spInit (C : Addr) : Sp := fun vs H Q _ => ∃ (p dx : Addr) (n : Nat) (v : V), vs = [.ref p, .int (n : Int), v] ∧ 1 ≤ n ∧ n ≤ 64 ∧ H p = some (.ins C dx []) ∧
  ∀ (D : Dk) (H' : Hp), D.p = p → Fr [p] H H' → DiskAt C H' D (List.replicate n v) (List.replicate n v) [] 0 0 0 → H D.c = none → H D.l = none → H D.d = none → Q .non H'
def spWrite (C : Addr) : Sp := fun vs H Q _ => ∃ (D : Dk) (cs ls : List V) (ps : List (Nat × V)) (r w s : Int) (i : Nat) (v : V), vs = [.ref D.p, .int (i : Int), v] ∧ DiskAt C H D cs ls ps r w s ∧ i < cs.length ∧ ps.length ≤ 1000 ∧
  ∀ H' : Hp, Fr D.own H H' → DiskAt C H' D (cs.set i v) ls (ps ++ [(i, v)]) r (w + 1) s → Q .non H'
def spSync (C : Addr) : Sp := fun vs H Q _ => ∃ (D : Dk) (cs ls : List V) (ps : List (Nat × V)) (r w s : Int), vs = [.ref D.p] ∧ DiskAt C H D cs ls ps r w s ∧
  ∀ (D' : Dk) (H' : Hp), D'.p = D.p → (∀ b ∈ D'.own, b ∈ D.own ∨ H b = none) → Fr D.own H H' → DiskAt C H' D' cs cs [] r w (s + 1) → Q .non H'
section
variable {P : Program} {w : World} {K : PySem.W.Frag} {mg : Str → Option Value} {base : Heap}
theorem ok_check (T : Gx K mg) : FnOk P w K mg base CX0 3 T.f_Disk__check_cell T.fd_Disk__check_cell ["self", "cell"] (spCheck T.C_Disk) := by
  have GN : FnOk P w K mg base CX0 2 T.f_is_number_from T.fd_is_number_from ["thing", "least", "most"] (spNumFrom K) := ok_numFrom T
  refine T.F_Disk__check_cell.ok sc_Disk__check_cell (fun vs H Q E h => ?_) (fun cdv A outer s H vs Q E hr h => ?_)
  · obtain ⟨D, cs, ls, ps, r, w', s', i, rfl, _⟩ := h
    rfl
  · obtain ⟨D, cs, ls, ps, r, w', s', i, rfl, hD, h0, h1, k⟩ := h
    refine ⟨_, pss_one (ps_if (pt_not (pt_val (pe_call GN hr (by rfl) T.g_is_number_from T.F_is_number_from.kp (b_is_number_from T) .nil pass0
      (pa_cons (pv 1) (pa_cons pe_int (pa_cons (pe_op op_sub (pe_callB call_len_seq (by rfl) T.z_len PySem.boot_len (pa_cons (pe_fld (pv 0) rfl) pa_nil)) pe_int) pa_nil)))))) (pss_one ps_never) pss_nil), ?_⟩
    refine ⟨_, rfl, _, rfl, D.p, T.C_Disk, _, _, _, rfl, hD.ins, T.cl_Disk, T.n_Disk__contents, dF_get0, D.c, cs, rfl, .inl (SqL.of hD.cs_), _, _, rfl, rfl, ?_⟩
    refine ⟨.int i, 0, _, rfl, .inl ⟨i, rfl, _, rfl, ?_⟩⟩
    have e : (decide ((0 : Int) ≤ i) && decide (i ≤ (cs.length : Int) - 1)) = true := by
      rw [Bool.and_eq_true, decide_eq_true_eq, decide_eq_true_eq]
      omega
    rw [e]
    exact iteF k
theorem ok_init (T : Gx K mg) : FnOk P w K mg base CX0 3 T.f_Disk___init__ T.fd_Disk___init__ ["self", "cells", "content"] (spInit T.C_Disk) := by
  have GN : FnOk P w K mg base CX0 2 T.f_is_number_from T.fd_is_number_from ["thing", "least", "most"] (spNumFrom K) := ok_numFrom T
  refine T.F_Disk___init__.ok sc_Disk___init__ (fun vs H Q E h => ?_) (fun cdv A outer s H vs Q E hr h => ?_)
  · obtain ⟨p, dx, n, v, rfl, _⟩ := h
    rfl
  · obtain ⟨p, dx, n, v, rfl, h1, h64, hp, k⟩ := h
    refine ⟨_, PSs.nox (pss_cons (ps_if (pt_not (pt_val (pe_call GN hr (by rfl) T.g_is_number_from T.F_is_number_from.kp (b_is_number_from T) .nil pass0
        (pa_cons (pv 1) (pa_cons pe_int (pa_cons (pe_glob (v := .int 64) (by rfl) T.c_MOST_CELLS ⟨_, rfl⟩) pa_nil)))))) (pss_one ps_never) pss_nil)
      (pss_cons (ps_fld (pv 0) (pe_op op_rep (pe_lst (pa_cons (pv 2) pa_nil)) (pv 1)) rfl)
      (pss_cons (ps_fld (pv 0) (pe_op op_rep (pe_lst (pa_cons (pv 2) pa_nil)) (pv 1)) rfl)
      (pss_cons (ps_fld (pv 0) (pe_lst pa_nil) rfl)
      (pss_cons (ps_fld (pv 0) pe_int rfl) (pss_cons (ps_fld (pv 0) pe_int rfl) (pss_one (ps_fld (pv 0) pe_int rfl)))))))), ?_⟩
    refine ⟨_, rfl, .int (n : Int), 1, 64, rfl, .inl ⟨n, rfl, _, rfl, ?_⟩⟩
    have e : (decide ((1 : Int) ≤ (n : Int)) && decide ((n : Int) ≤ 64)) = true := by
      rw [Bool.and_eq_true, decide_eq_true_eq, decide_eq_true_eq]
      omega
    rw [e]
    refine iteF ?_
    have fl : (List.replicate (n : Int).toNat [v]).flatten = List.replicate n v := by
      rw [Int.toNat_natCast]
      simp
    -- self._contents = [content] * cells
    refine ⟨_, rfl, sz_le (by simp), fun q1 hq1 => ⟨_, rfl, q1, n, [v], rfl, rfl, upd_same, by omega, by omega, sz_le (by simp; omega), fun c hc => ?_⟩⟩
    rw [fl]
    have hcq := free_upd hc
    have pq1 : p ≠ q1 := ne_of_none hp hq1
    have pc : p ≠ c := ne_of_none hp hcq.1
    refine ⟨_, rfl, p, T.C_Disk, dx, [], rfl, (by rw [upd_ne pc, upd_ne pq1]; exact hp), T.cl_Disk, T.n_Disk__contents, by simp, ?_⟩
    -- self._lasting = [content] * cells
    refine ⟨_, rfl, sz_le (by simp), fun q2 hq2 => ⟨_, rfl, q2, n, [v], rfl, rfl, upd_same, by omega, by omega, sz_le (by simp; omega), fun l hl => ?_⟩⟩
    rw [fl]
    have hq2' := free_upd hq2
    have hq2'' := free_upd hq2'.1
    have hlq := free_upd hl
    have hlq2 := free_upd hlq.1
    have hlq3 := free_upd hlq2.1
    have pq2 : p ≠ q2 := hq2'.2.symm
    have pl : p ≠ l := hlq2.2.symm
    refine ⟨_, rfl, p, T.C_Disk, dx, _, rfl, (by rw [upd_ne pl, upd_ne pq2]; exact upd_same), T.cl_Disk, T.n_Disk__lasting, Nat.lt_of_le_of_lt (putF_len _ _ _) (by simp), ?_⟩
    -- self._pending = []
    refine ⟨sz_le (by simp), fun d hd => ?_⟩
    have hd1 := free_upd hd
    have hd2 := free_upd hd1.1
    have hd3 := free_upd hd2.1
    have hd4 := free_upd hd3.1
    have hd5 := free_upd hd4.1
    have hd6 := free_upd hd5.1
    refine ⟨_, rfl, p, T.C_Disk, dx, _, rfl, (by rw [upd_ne hd1.2.symm]; exact upd_same), T.cl_Disk, T.n_Disk__pending, Nat.lt_of_le_of_lt (putF_len _ _ _) (Nat.lt_of_le_of_lt (Nat.succ_le_succ (putF_len _ _ _)) (by simp)), ?_⟩
    refine ⟨_, rfl, p, T.C_Disk, dx, _, rfl, upd_same, T.cl_Disk, T.n_Disk__reads, Nat.lt_of_le_of_lt (putF_len _ _ _) (Nat.lt_of_le_of_lt (Nat.succ_le_succ (Nat.le_trans (putF_len _ _ _) (Nat.succ_le_succ (putF_len _ _ _)))) (by simp)), ?_⟩
    refine ⟨_, rfl, p, T.C_Disk, dx, _, rfl, upd_same, T.cl_Disk, T.n_Disk__writes, Nat.lt_of_le_of_lt (putF_len _ _ _) (Nat.lt_of_le_of_lt (Nat.succ_le_succ (Nat.le_trans (putF_len _ _ _) (Nat.succ_le_succ (Nat.le_trans (putF_len _ _ _) (Nat.succ_le_succ (putF_len _ _ _)))))) (by simp)), ?_⟩
    refine ⟨_, rfl, p, T.C_Disk, dx, _, rfl, upd_same, T.cl_Disk, T.n_Disk__syncs, Nat.lt_of_le_of_lt (putF_len _ _ _) (Nat.lt_of_le_of_lt (Nat.succ_le_succ (Nat.le_trans (putF_len _ _ _) (Nat.succ_le_succ (Nat.le_trans (putF_len _ _ _) (Nat.succ_le_succ (Nat.le_trans (putF_len _ _ _) (Nat.succ_le_succ (putF_len _ _ _)))))))) (by simp)), ?_⟩
    rw [dF_made, upd_upd, upd_upd, upd_upd]
    refine k ⟨p, dx, c, l, d⟩ _ rfl ?_ ⟨upd_same, ?_, ?_, ⟨[], ?_, rfl, fun i t q e _ => by simp at e⟩, hlq3.2.symm, hd5.2.symm, hd2.2.symm, rfl, by simp; omega, fun q hq => by cases hq⟩ hcq.1 (free_upd hlq3.1).1 hd6.1
    · exact (((((((Fr.new hq1).trans (Fr.new hc)).trans (Fr.put (by simp))).trans (Fr.new hq2)).trans (Fr.new hl)).trans (Fr.put (by simp))).trans (Fr.new hd)).trans (Fr.put (by simp))
    · show (upd _ p _) c = _
      rw [upd_ne pc.symm, upd_ne hd5.2.symm, upd_ne pc.symm, upd_ne hlq3.2.symm, upd_ne hq2''.2.symm, upd_ne pc.symm]
      exact upd_same
    · show (upd _ p _) l = _
      rw [upd_ne pl.symm, upd_ne hd2.2.symm, upd_ne pl.symm]
      exact upd_same
    · show (upd _ p _) d = _
      rw [upd_ne hd1.2]
      exact upd_same
end
section
variable {P : Program} {w : World} {K : PySem.W.Frag} {mg : Str → Option Value} {base : Heap}
theorem ok_write (T : Gx K mg) : FnOk P w K mg base CX0 4 T.f_Disk_write T.fd_Disk_write ["self", "cell", "content"] (spWrite T.C_Disk) := by
  have GC : FnOk P w K mg base CX0 3 T.f_Disk__check_cell T.fd_Disk__check_cell ["self", "cell"] (spCheck T.C_Disk) := ok_check T
  refine T.F_Disk_write.ok sc_Disk_write (fun vs H Q E h => ?_) (fun cdv A outer s H vs Q E hr h => ?_)
  · obtain ⟨D, cs, ls, ps, r, w', s', i, v, rfl, _⟩ := h
    rfl
  · obtain ⟨D, cs, ls, ps, r, w', s', i, v, rfl, hD, hi, hp, k⟩ := h
    obtain ⟨ts, e, pn⟩ := hD.pend
    have pl := hD.pl
    have pc := hD.pc
    have pd := hD.pd
    refine ⟨_, pss_cons (ps_expr (pe_meth (pv 0) T.cl_Disk T.m_Disk__check_cell GC hr (b_Disk__check_cell T) .nil pass0 (pa_cons (pv 1) pa_nil)))
      (pss_cons (ps_fldaug (pv 0) pe_int in_add)
      (pss_cons (ps_asg (pv 2) (pg_sub (pe_fld (pv 0) rfl) (pv 1) set_list))
      (pss_one (ps_expr (pe_bm PySem.F.plainAttrs_list PySem.F.slot_list_append PySem.F.type_list_append mt_append (pe_fld (pv 0) rfl) (pa_cons (pe_tup (pa_cons (pv 1) (pa_cons (pv 2) pa_nil))) pa_nil)))))), ?_⟩
    refine ⟨_, rfl, D.p, D.dx, _, rfl, hD.ins, dF_no__check_cell, _, rfl, D, cs, ls, ps, r, w', s', i, rfl, hD, by omega, by omega, ?_⟩
    refine ⟨_, rfl, D.p, T.C_Disk, D.dx, _, _, rfl, hD.ins, T.cl_Disk, T.n_Disk__writes, dF_get4, _, _, rfl, rfl, D.dx, _, hD.ins, dF_len, ?_⟩
    rw [dF_put4]
    refine ⟨_, rfl, _, rfl, D.p, T.C_Disk, D.dx, _, _, rfl, upd_same, T.cl_Disk, T.n_Disk__contents, dF_get0, _, rfl, D.c, cs, (i : Int), i, rfl, rfl, (by rw [upd_ne pc.symm]; exact hD.cs_), ix_at i hi, ?_⟩
    refine ⟨_, rfl, D.p, T.C_Disk, D.dx, _, _, rfl, Eq.trans (upd_ne pc) upd_same, T.cl_Disk, T.n_Disk__pending, dF_get2, .inl ⟨rfl, _, SqL.of (xs := ts.map V.ref) ?_⟩, ?_⟩
    · rw [upd_ne hD.cd.symm, upd_ne pd.symm]
      exact e
    · refine ⟨_, rfl, _, rfl, sz_le (by simp), fun t ht => ?_⟩
      have t1 := free_upd ht
      have t2 := free_upd t1.1
      have dt : D.d ≠ t := ne_of_none e t2.1
      have pt : D.p ≠ t := t2.2.symm
      have ct : D.c ≠ t := t1.2.symm
      have lt : D.l ≠ t := ne_of_none hD.ls_ t2.1
      refine ⟨D.d, ts.map V.ref, .ref t, rfl, rfl, ?_, ?_, ?_⟩
      · rw [upd_ne dt, upd_ne hD.cd.symm, upd_ne pd.symm]
        exact e
      · rw [List.length_map, pn.1]
        exact sz_lt (by omega)
      · have f : Fr D.own H (upd (upd (upd (upd H D.p (.ins T.C_Disk D.dx (dF (.ref D.c) (.ref D.l) (.ref D.d) (.int r) (.int (w' + 1)) (.int s')))) D.c (.lst (cs.set i v))) t (.tup [.int (i : Int), v])) D.d (.lst (ts.map V.ref ++ [.ref t]))) :=
          (((Fr.put (by simp [Dk.own])).trans (Fr.put (by simp [Dk.own]))).trans (Fr.new ht)).trans (Fr.put (by simp [Dk.own]))
        refine k _ f ⟨?_, ?_, ?_, ⟨ts ++ [t], ?_, (pn.keep f hD.notup).snoc ?_⟩, hD.cl, hD.cd, hD.ld, by rw [List.length_set]; exact hD.len, by rw [List.length_set]; exact hD.small, fun q hq => ?_⟩
        · rw [upd_ne pd, upd_ne pt, upd_ne pc]
          exact upd_same
        · rw [upd_ne hD.cd, upd_ne ct]
          exact upd_same
        · rw [upd_ne hD.ld, upd_ne lt, upd_ne hD.cl.symm, upd_ne pl.symm]
          exact hD.ls_
        · rw [List.map_append]
          exact upd_same
        · rw [upd_ne dt.symm]
          exact upd_same
        · rcases List.mem_append.mp hq with z | z
          · exact hD.ok q z
          · rw [List.mem_singleton.mp z, ← hD.len]
            exact hi
theorem ok_sync (T : Gx K mg) : FnOk P w K mg base CX0 1 T.f_Disk_sync T.fd_Disk_sync ["self"] (spSync T.C_Disk) := by
  refine T.F_Disk_sync.ok sc_Disk_sync (fun vs H Q E h => ?_) (fun cdv A outer s H vs Q E hr h => ?_)
  · obtain ⟨D, cs, ls, ps, r, w', s', rfl, _⟩ := h
    rfl
  · obtain ⟨D, cs, ls, ps, r, w', s', rfl, hD, k⟩ := h
    obtain ⟨ts, e, pn⟩ := hD.pend
    have pc := hD.pc
    refine ⟨_, pss_cons (ps_fldaug (pv 0) pe_int in_add)
      (pss_cons (ps_fld (pv 0) (pe_callTy call_list_of (by rfl) T.z_list (by decide +kernel) (pa_cons (pe_fld (pv 0) rfl) pa_nil)) rfl)
      (pss_one (ps_fld (pv 0) (pe_lst pa_nil) rfl))), ?_⟩
    refine ⟨_, rfl, D.p, T.C_Disk, D.dx, _, _, rfl, hD.ins, T.cl_Disk, T.n_Disk__syncs, dF_get5, _, _, rfl, rfl, D.dx, _, hD.ins, dF_len, ?_⟩
    rw [dF_put5]
    have ec : (upd H D.p (.ins T.C_Disk D.dx (dF (.ref D.c) (.ref D.l) (.ref D.d) (.int r) (.int w') (.int (s' + 1))))) D.c = some (.lst cs) := by
      rw [upd_ne pc.symm]
      exact hD.cs_
    refine ⟨_, rfl, D.p, T.C_Disk, D.dx, _, _, rfl, upd_same, T.cl_Disk, T.n_Disk__contents, dF_get0, D.c, cs, rfl, .inl (SqL.of ec), fun l hl => ?_⟩
    have l1 := free_upd hl
    have pl : D.p ≠ l := l1.2.symm
    have cl : D.c ≠ l := ne_of_none hD.cs_ l1.1
    refine ⟨_, rfl, D.p, T.C_Disk, D.dx, _, rfl, Eq.trans (upd_ne pl) upd_same, T.cl_Disk, T.n_Disk__lasting, dF_len, ?_⟩
    rw [dF_put1]
    refine ⟨sz_le (by simp), fun d hd => ?_⟩
    have d1 := free_upd hd
    have d2 := free_upd d1.1
    have d3 := free_upd d2.1
    have cd : D.c ≠ d := ne_of_none hD.cs_ d3.1
    refine ⟨_, rfl, D.p, T.C_Disk, D.dx, _, rfl, Eq.trans (upd_ne d1.2.symm) upd_same, T.cl_Disk, T.n_Disk__pending, dF_len, ?_⟩
    rw [dF_put2]
    refine k ⟨D.p, D.dx, D.c, l, d⟩ _ rfl (fun b hb => ?_) ?_ ⟨upd_same, ?_, ?_, ⟨[], ?_, rfl, fun i t q e _ => by simp at e⟩, cl, cd, d2.2.symm, rfl, hD.small, fun q hq => by cases hq⟩
    · simp only [Dk.own, List.mem_cons, List.not_mem_nil, or_false] at hb ⊢
      rcases hb with z | z | z | z
      · exact .inl (.inl z)
      · exact .inl (.inr (.inl z))
      · rw [z]; exact .inr l1.1
      · rw [z]; exact .inr d3.1
    · exact ((((Fr.put (by simp [Dk.own])).trans (Fr.new hl)).trans (Fr.put (by simp [Dk.own]))).trans (Fr.new hd)).trans (Fr.put (by simp [Dk.own]))
    · show (upd _ D.p _) D.c = _
      rw [upd_ne pc.symm, upd_ne cd, upd_ne pc.symm, upd_ne cl, upd_ne pc.symm]
      exact hD.cs_
    · show (upd _ D.p _) l = _
      rw [upd_ne pl.symm, upd_ne d2.2.symm, upd_ne pl.symm]
      exact upd_same
    · show (upd _ D.p _) d = _
      rw [upd_ne d1.2]
      exact upd_same
end
/-! ### what is kept -/
/-- strictly ascending, from lo on, below m -/
def Asc (m : Nat) : Nat → List Nat → Prop
  | _, [] => True
  | lo, k :: r => lo ≤ k ∧ k < m ∧ Asc m (k + 1) r
def stepK (ps : List (Nat × V)) (ls : List V) (k : Nat) : List V := match ps[k]? with
  | some q => ls.set q.1 q.2
  | none => ls
def applyK (ps : List (Nat × V)) (ls : List V) (ks : List Nat) : List V := ks.foldl (stepK ps) ls
theorem stepK_len (ps : List (Nat × V)) (ls : List V) (k : Nat) : (stepK ps ls k).length = ls.length := by
  unfold stepK
  split
  · exact List.length_set
  · rfl
theorem applyK_len (ps : List (Nat × V)) : ∀ (ks : List Nat) (ls : List V), (applyK ps ls ks).length = ls.length
  | [], _ => rfl
  | k :: r, ls => by
    show (applyK ps (stepK ps ls k) r).length = ls.length
    rw [applyK_len ps r, stepK_len]
theorem applyK_snoc (ps : List (Nat × V)) (ls : List V) (ks : List Nat) (k : Nat) : applyK ps ls (ks ++ [k]) = stepK ps (applyK ps ls ks) k := by
  unfold applyK
  rw [List.foldl_append]
  rfl
def kepV (ks : List Nat) : List V := ks.map fun (k : Nat) => V.int (k : Int)
theorem kV_at {ks : List Nat} {i : Nat} {x : V} (h : (kepV ks)[i]? = some x) : ∃ k : Nat, x = V.int (k : Int) ∧ ks[i]? = some k := by
  unfold kepV at h
  rw [List.getElem?_map] at h
  cases e : ks[i]? with
  | none =>
    rw [e] at h
    cases h
  | some u =>
    rw [e] at h
    exact ⟨u, (Option.some.inj h).symm, rfl⟩
theorem Asc.drop {m : Nat} : ∀ {lo : Nat} {ks : List Nat}, Asc m lo ks → ∀ (i k : Nat), ks[i]? = some k → ∃ lo', Asc m lo' (ks.drop i) ∧ lo' ≤ k
  | _, [], _, i, k, e => by simp at e
  | lo, a :: r, h, 0, k, e => by
    cases e
    exact ⟨lo, h, h.1⟩
  | lo, a :: r, h, i + 1, k, e => by
    obtain ⟨lo', h', hk⟩ := Asc.drop h.2.2 i k (by simpa using e)
    exact ⟨lo', h', hk⟩
theorem Asc.lt {m : Nat} : ∀ {lo : Nat} {ks : List Nat}, Asc m lo ks → ∀ (i k : Nat), ks[i]? = some k → k < m
  | _, [], _, i, k, e => by simp at e
  | lo, a :: r, h, 0, k, e => by
    cases e
    exact h.2.1
  | lo, a :: r, h, i + 1, k, e => Asc.lt h.2.2 i k (by simpa using e)
theorem Asc.len {m : Nat} : ∀ {lo : Nat} {ks : List Nat}, Asc m lo ks → lo ≤ m → ks.length + lo ≤ m
  | _, [], _, h => by simpa using h
  | lo, a :: r, h, _ => by
    have := Asc.len h.2.2 (by have := h.2.1; omega)
    have := h.1
    simp only [List.length_cons]
    omega
def spAreKept : Sp := fun vs H Q _ => ∃ (kt : Addr) (ks : List Nat) (m : Nat), vs = [.ref kt, .int (m : Int)] ∧ H kt = some (.tup (kepV ks)) ∧ Asc m 0 ks ∧ Q (.bl true) H
def spFail (C : Addr) : Sp := fun vs H Q _ => ∃ (D : Dk) (cs ls : List V) (ps : List (Nat × V)) (r w s : Int) (kt : Addr) (ks : List Nat), vs = [.ref D.p, .ref kt] ∧ DiskAt C H D cs ls ps r w s ∧ H kt = some (.tup (kepV ks)) ∧ Asc ps.length 0 ks ∧
  ∀ (D' : Dk) (H' : Hp), D'.p = D.p → (∀ b ∈ D'.own, b ∈ D.own ∨ H b = none) → Fr D.own H H' → DiskAt C H' D' (applyK ps ls ks) (applyK ps ls ks) [] r w s → Q .non H'
def spContents (C : Addr) : Sp := fun vs H Q _ => ∃ (D : Dk) (cs ls : List V) (ps : List (Nat × V)) (r w s : Int), vs = [.ref D.p] ∧ DiskAt C H D cs ls ps r w s ∧ ∀ t, H t = none → Q (.ref t) (upd H t (.tup cs))
def spLasting (C : Addr) : Sp := fun vs H Q _ => ∃ (D : Dk) (cs ls : List V) (ps : List (Nat × V)) (r w s : Int), vs = [.ref D.p] ∧ DiskAt C H D cs ls ps r w s ∧ ∀ t, H t = none → Q (.ref t) (upd H t (.tup ls))
def spPending (C : Addr) : Sp := fun vs H Q _ => ∃ (D : Dk) (cs ls : List V) (ps : List (Nat × V)) (r w s : Int), vs = [.ref D.p] ∧ DiskAt C H D cs ls ps r w s ∧ ∀ (t : Addr) (ts : List Addr), H t = none → Pend H ts ps → Q (.ref t) (upd H t (.lst (ts.map V.ref)))
section
variable {P : Program} {w : World} {K : PySem.W.Frag} {mg : Str → Option Value} {base : Heap}
theorem ok_areKept (T : Gx K mg) : FnOk P w K mg base CX0 3 T.f_are_kept T.fd_are_kept ["kept", "many"] spAreKept := by
  have GN : FnOk P w K mg base CX0 2 T.f_is_number_from T.fd_is_number_from ["thing", "least", "most"] (spNumFrom K) := ok_numFrom T
  refine T.F_are_kept.ok sc_are_kept (fun vs H Q E h => ?_) (fun cdv A outer s H vs Q E hr h => ?_)
  · obtain ⟨kt, ks, m, rfl, _⟩ := h
    rfl
  · obtain ⟨kt, ks, m, rfl, hK, ha, k⟩ := h
    refine ⟨_, pss_cons (ps_if (pt_not (pt_val (pe_callB call_isi (by rfl) T.z_isinstance (by decide +kernel) (pa_cons (pv 0) (pa_cons (pe_bltn (v := .ty "tuple") (by rfl) T.z_tuple (by decide +kernel) rfl) pa_nil))))) (pss_one (ps_ret pe_bl)) pss_nil)
      (pss_cons (ps_set (i := 2) sc_are_kept.nd rfl (.inl rfl) pe_int)
      (pss_cons (ps_for PassesOwn.never rfl (pi_tup (pv 0)) (pg_name (i := 3) sc_are_kept.nd rfl (.inl rfl))
        (pss_cons (ps_if (pt_not (pt_val (pe_call GN hr (by rfl) T.g_is_number_from T.F_is_number_from.kp (b_is_number_from T) .nil pass0 (pa_cons (pv 3) (pa_cons (pv 2) (pa_cons (pe_op op_sub (pv 1) pe_int) pa_nil)))))) (pss_one (ps_ret pe_bl)) pss_nil)
        (pss_one (ps_set (i := 2) sc_are_kept.nd rfl (.inl rfl) (pe_op op_add (pv 3) pe_int)))))
      (pss_one (ps_ret pe_bl)))), ?_⟩
    refine ⟨_, rfl, .ref kt, .ty "tuple", .type "tuple", _, true, rfl, ClsV.ty "tuple", .base (.tup hK), kit_ty (by decide +kernel), _, rfl, iteF ?_⟩
    refine ⟨_, rfl, kt, rfl, ⟨_, SqT.of hK⟩, for_tup (K := K) (a := kt) (xs := kepV ks) (fun i σ H' => H' = H ∧ ∃ (lo : Nat) (v : Option V), σ = [some (.ref kt), some (.int (m : Int)), some (.int (lo : Int)), v] ∧ Asc m lo (ks.drop i)) ⟨rfl, 0, none, rfl, ha⟩ (fun i σ H' _ e => by rw [e.1]; exact SqT.of hK) ?_ ?_⟩
    · rintro i x σ H' hi ⟨rfl, lo, v, rfl, hA⟩
      obtain ⟨kk, rfl, hk⟩ := kV_at hi
      have hd : ks.drop i = kk :: ks.drop (i + 1) := by
        rw [List.drop_eq_getElem_cons (lt_of_at hk)]
        congr 1
        rw [List.getElem?_eq_getElem (lt_of_at hk)] at hk
        exact Option.some.inj hk
      rw [hd] at hA
      obtain ⟨h1, h2, h3⟩ := hA
      refine ⟨_, rfl, _, rfl, _, rfl, _, _, rfl, rfl, .int (kk : Int), (lo : Int), _, rfl, .inl ⟨kk, rfl, _, rfl, ?_⟩⟩
      have e : (decide ((lo : Int) ≤ (kk : Int)) && decide ((kk : Int) ≤ (m : Int) - 1)) = true := by
        rw [Bool.and_eq_true, decide_eq_true_eq, decide_eq_true_eq]
        omega
      rw [e]
      refine iteF ⟨_, rfl, _, _, rfl, rfl, rfl, kk + 1, some (.int (kk : Int)), ?_, h3⟩
      rfl
    · rintro σ H' ⟨rfl, lo, v, rfl, _⟩
      exact k
theorem ok_fail (T : Gx K mg) : FnOk P w K mg base CX0 4 T.f_Disk_fail T.fd_Disk_fail ["self", "kept"] (spFail T.C_Disk) := by
  have GA : FnOk P w K mg base CX0 3 T.f_are_kept T.fd_are_kept ["kept", "many"] spAreKept := ok_areKept T
  refine T.F_Disk_fail.ok sc_Disk_fail (fun vs H Q E h => ?_) (fun cdv A outer s H vs Q E hr h => ?_)
  · obtain ⟨D, cs, ls, ps, r, w', s', kt, ks, rfl, _⟩ := h
    rfl
  · obtain ⟨D, cs, ls, ps, r, w', s', kt, ks, rfl, hD, hK, ha, k⟩ := h
    obtain ⟨ts, e, pn⟩ := hD.pend
    have pl := hD.pl
    have ktl : kt ≠ D.l := ne_of hK hD.ls_ (by simp)
    refine ⟨_, pss_cons (ps_if (pt_not (pt_val (pe_call GA hr (by rfl) T.g_are_kept T.F_are_kept.kp (b_are_kept T) .nil pass0 (pa_cons (pv 1) (pa_cons (pe_callB call_len_seq (by rfl) T.z_len PySem.boot_len (pa_cons (pe_fld (pv 0) rfl) pa_nil)) pa_nil))))) (pss_one ps_never) pss_nil)
      (pss_cons (ps_for PassesOwn.never rfl (pi_tup (pv 1)) (pg_name (i := 2) sc_Disk_fail.nd rfl (.inl rfl))
        (pss_cons (ps_asg (pe_ix ix_list (pe_fld (pv 0) rfl) (pv 2) (fun _ _ => rfl)) (pg_tup (by rfl) (pgs_cons (pg_name (i := 3) sc_Disk_fail.nd rfl (.inl rfl)) (pgs_cons (pg_name (i := 4) sc_Disk_fail.nd rfl (.inl rfl)) pgs_nil))))
        (pss_one (ps_asg (pv 4) (pg_sub (pe_fld (pv 0) rfl) (pv 3) set_list)))))
      (pss_cons (ps_fld (pv 0) (pe_callTy call_list_of (by rfl) T.z_list (by decide +kernel) (pa_cons (pe_fld (pv 0) rfl) pa_nil)) rfl)
      (pss_one (ps_fld (pv 0) (pe_lst pa_nil) rfl)))), ?_⟩
    refine ⟨_, rfl, _, rfl, D.p, T.C_Disk, _, _, _, rfl, hD.ins, T.cl_Disk, T.n_Disk__pending, dF_get2, D.d, ts.map V.ref, rfl, .inl (SqL.of e), kt, ks, ps.length, ?_, hK, ha, _, rfl, iteF ?_⟩
    · rw [List.length_map, pn.1]
      rfl
    refine ⟨_, rfl, kt, rfl, ⟨_, SqT.of hK⟩, for_tup (K := K) (a := kt) (xs := kepV ks) (fun i σ H' => Fr [D.l] H H' ∧ H' D.l = some (.lst (applyK ps ls (ks.take i))) ∧ ∃ (v2 v3 v4 : Option V), σ = [some (.ref D.p), some (.ref kt), v2, v3, v4]) ⟨Fr.refl _ _, hD.ls_, none, none, none, rfl⟩ (fun i σ H' _ e => SqT.of (e.1 _ _ hK (by simpa using ktl))) ?_ ?_⟩
    · rintro i x σ H' hi ⟨fr, el, v2, v3, v4, rfl⟩
      obtain ⟨kk, rfl, hk⟩ := kV_at hi
      have hlt : kk < ps.length := ha.lt i kk hk
      have ep : ps[kk]? = some ps[kk] := List.getElem?_eq_getElem hlt
      have et : ts[kk]? = some (ts[kk]'(by rw [pn.1]; exact hlt)) := List.getElem?_eq_getElem (by rw [pn.1]; exact hlt)
      have etup := pn.2 kk _ _ et ep
      have tl : ts[kk]'(by rw [pn.1]; exact hlt) ≠ D.l := ne_of etup hD.ls_ (by simp)
      have ei := fr _ _ hD.ins (by simpa using pl)
      have ed := fr _ _ e (by simpa using hD.ld.symm)
      have eu := fr _ _ etup (by simpa using tl)
      have hok : ps[kk].1 < (applyK ps ls (ks.take i)).length := by
        rw [applyK_len]
        exact hD.ok _ (List.getElem_mem hlt)
      refine ⟨_, rfl, D.p, T.C_Disk, _, _, _, rfl, ei, T.cl_Disk, T.n_Disk__pending, dF_get2, _, rfl, D.d, ts.map V.ref, (kk : Int), .ref (ts[kk]'(by rw [pn.1]; exact hlt)), rfl, rfl, SqL.of ed, atI_nat (by rw [List.getElem?_map, et]; rfl), ?_⟩
      refine ⟨_, _, rfl, SqT.of eu, rfl, _, _, rfl, _, _, rfl, rfl, ?_⟩
      refine ⟨_, rfl, _, rfl, D.p, T.C_Disk, _, _, _, rfl, ei, T.cl_Disk, T.n_Disk__lasting, dF_get1, _, rfl, D.l, _, (ps[kk].1 : Int), ps[kk].1, rfl, rfl, el, ix_at _ hok, ?_⟩
      refine ⟨fr.trans (Fr.put (by simp)), ?_, _, _, _, rfl⟩
      rw [upd_same, List.take_add_one, hk]
      show _ = some (HO.lst (applyK ps ls (ks.take i ++ [kk])))
      rw [applyK_snoc]
      unfold stepK
      rw [ep]
    · rintro σ H' ⟨fr, el, v2, v3, v4, rfl⟩
      have elen : (kepV ks).length = ks.length := List.length_map _
      rw [elen, List.take_length] at el
      have ei := fr _ _ hD.ins (by simpa using pl)
      have ec := fr _ _ hD.cs_ (by simpa using hD.cl)
      refine ⟨_, rfl, D.p, T.C_Disk, _, _, _, rfl, ei, T.cl_Disk, T.n_Disk__lasting, dF_get1, D.l, _, rfl, .inl (SqL.of el), fun c hc => ?_⟩
      have pc : D.p ≠ c := ne_of_none ei hc
      have lc : D.l ≠ c := ne_of_none el hc
      have c0 : H c = none := by
        cases q : H c with
        | none => rfl
        | some o =>
          rw [fr _ _ q (by simpa using lc.symm)] at hc
          cases hc
      refine ⟨_, rfl, D.p, T.C_Disk, D.dx, _, rfl, Eq.trans (upd_ne pc) ei, T.cl_Disk, T.n_Disk__contents, dF_len, ?_⟩
      rw [dF_put0]
      refine ⟨sz_le (by simp), fun d hd => ?_⟩
      have d1 := free_upd hd
      have d2 := free_upd d1.1
      have ld : D.l ≠ d := ne_of_none el d2.1
      have d0 : H d = none := by
        cases q : H d with
        | none => rfl
        | some o =>
          have := d2.1
          rw [fr _ _ q (by simpa using ld.symm)] at this
          cases this
      refine ⟨_, rfl, D.p, T.C_Disk, D.dx, _, rfl, Eq.trans (upd_ne d1.2.symm) upd_same, T.cl_Disk, T.n_Disk__pending, dF_len, ?_⟩
      rw [dF_put2]
      refine k ⟨D.p, D.dx, c, D.l, d⟩ _ rfl (fun b hb => ?_) ?_ ⟨upd_same, ?_, ?_, ⟨[], ?_, rfl, fun i t q e _ => by simp at e⟩, lc.symm, d2.2.symm, ld, rfl, by rw [applyK_len, ← hD.len]; exact hD.small, fun q hq => by cases hq⟩
      · simp only [Dk.own, List.mem_cons, List.not_mem_nil, or_false] at hb ⊢
        rcases hb with z | z | z | z
        · exact .inl (.inl z)
        · rw [z]; exact .inr c0
        · exact .inl (.inr (.inr (.inl z)))
        · rw [z]; exact .inr d0
      · exact ((((fr.mono (by simp [Dk.own])).trans (Fr.new hc)).trans (Fr.put (by simp [Dk.own]))).trans (Fr.new hd)).trans (Fr.put (by simp [Dk.own]))
      · show (upd _ D.p _) c = _
        rw [upd_ne pc.symm, upd_ne d2.2.symm, upd_ne pc.symm]
        exact upd_same
      · show (upd _ D.p _) D.l = _
        rw [upd_ne pl.symm, upd_ne ld, upd_ne pl.symm, upd_ne lc]
        exact el
      · show (upd _ D.p _) d = _
        rw [upd_ne d1.2]
        exact upd_same
theorem ok_contents (T : Gx K mg) : FnOk P w K mg base CX0 1 T.f_Disk_contents T.fd_Disk_contents ["self"] (spContents T.C_Disk) := by
  refine T.F_Disk_contents.ok sc_Disk_contents (fun vs H Q E h => ?_) (fun cdv A outer s H vs Q E hr h => ?_)
  · obtain ⟨D, cs, ls, ps, r, w', s', rfl, _⟩ := h
    rfl
  · obtain ⟨D, cs, ls, ps, r, w', s', rfl, hD, k⟩ := h
    refine ⟨_, pss_one (ps_ret (pe_callTy call_tuple_of (by rfl) T.z_tuple (by decide +kernel) (pa_cons (pe_fld (pv 0) rfl) pa_nil))), ?_⟩
    exact ⟨_, rfl, D.p, T.C_Disk, _, _, _, rfl, hD.ins, T.cl_Disk, T.n_Disk__contents, dF_get0, D.c, cs, rfl, .inl ⟨SqL.of hD.cs_, k⟩⟩
theorem ok_lasting (T : Gx K mg) : FnOk P w K mg base CX0 1 T.f_Disk_lasting T.fd_Disk_lasting ["self"] (spLasting T.C_Disk) := by
  refine T.F_Disk_lasting.ok sc_Disk_lasting (fun vs H Q E h => ?_) (fun cdv A outer s H vs Q E hr h => ?_)
  · obtain ⟨D, cs, ls, ps, r, w', s', rfl, _⟩ := h
    rfl
  · obtain ⟨D, cs, ls, ps, r, w', s', rfl, hD, k⟩ := h
    refine ⟨_, pss_one (ps_ret (pe_callTy call_tuple_of (by rfl) T.z_tuple (by decide +kernel) (pa_cons (pe_fld (pv 0) rfl) pa_nil))), ?_⟩
    exact ⟨_, rfl, D.p, T.C_Disk, _, _, _, rfl, hD.ins, T.cl_Disk, T.n_Disk__lasting, dF_get1, D.l, ls, rfl, .inl ⟨SqL.of hD.ls_, k⟩⟩
theorem ok_pending (T : Gx K mg) : FnOk P w K mg base CX0 1 T.f_Disk_pending T.fd_Disk_pending ["self"] (spPending T.C_Disk) := by
  refine T.F_Disk_pending.ok sc_Disk_pending (fun vs H Q E h => ?_) (fun cdv A outer s H vs Q E hr h => ?_)
  · obtain ⟨D, cs, ls, ps, r, w', s', rfl, _⟩ := h
    rfl
  · obtain ⟨D, cs, ls, ps, r, w', s', rfl, hD, k⟩ := h
    obtain ⟨ts, e, pn⟩ := hD.pend
    refine ⟨_, pss_one (ps_ret (pe_callTy call_list_of (by rfl) T.z_list (by decide +kernel) (pa_cons (pe_fld (pv 0) rfl) pa_nil))), ?_⟩
    exact ⟨_, rfl, D.p, T.C_Disk, _, _, _, rfl, hD.ins, T.cl_Disk, T.n_Disk__pending, dF_get2, D.d, _, rfl, .inl (SqL.of e), fun t ht => k t ts ht pn⟩
end
theorem Asc.mono {m m' : Nat} (h : m ≤ m') : ∀ {lo : Nat} {ks : List Nat}, Asc m lo ks → Asc m' lo ks
  | _, [], _ => trivial
  | _, _ :: _, ⟨a, b, c⟩ => ⟨a, by omega, Asc.mono h c⟩
theorem Asc.snoc {m : Nat} : ∀ {lo : Nat} {ks : List Nat}, Asc m lo ks → lo ≤ m → Asc (m + 1) lo (ks ++ [m])
  | lo, [], _, h => ⟨h, Nat.lt_succ_self _, trivial⟩
  | lo, k :: r, ⟨a, b, c⟩, h => ⟨a, by omega, Asc.snoc c (by omega)⟩
theorem kepV_len (ks : List Nat) : (kepV ks).length = ks.length := List.length_map _
def spKept : Sp := fun vs H Q _ => ∃ (r : Addr) (m : Nat), vs = [.ref r, .int (m : Int)] ∧ Rnd H r ∧ m ≤ 1000 ∧ ∀ (t : Addr) (ks : List Nat) (H' : Hp), H t = none → Fr [r] H H' → Rnd H' r → H' t = some (.tup (kepV ks)) → Asc m 0 ks → Q (.ref t) H'
section
variable {P : Program} {w : World} {K : PySem.W.Frag} {mg : Str → Option Value} {base : Heap}
theorem ok_kept (T : Gx K mg) : FnOk P w K mg base CX0 2 T.f__law_kept T.fd__law_kept ["_law_d", "_law_many"] spKept := by
  have GB : FnOk P w K mg base CX0 1 T.f__law_below T.fd__law_below ["_law_d", "_law_limit"] spBelow := ok_below T
  refine T.F__law_kept.ok sc__law_kept (fun vs H Q E h => ?_) (fun cdv A outer s H vs Q E hr h => ?_)
  · obtain ⟨r, m, rfl, _⟩ := h
    rfl
  · obtain ⟨r, m, rfl, hR, hm, k⟩ := h
    refine ⟨_, pss_one (ps_ret (pe_callTy call_tuple_of (by rfl) T.z_tuple (by decide +kernel) (pa_cons (pe_lc (own := [("_law_number", 2)]) (g := gName 2) rfl sc__law_kept.nd (pi_range1 (by rfl) T.z_range (pa_cons (pv 1) pa_nil))
      (blkOk_by (N := ["_law_d", "_law_many", "_law_number"]) (sc := defScope s__law_kept) (by decide +kernel)) (fun _ _ _ _ _ => pg_name (i := 2) sc__law_kept.nd rfl (.inl rfl))
      (fun _ _ _ _ _ => pts_one (pt_cmpR op_eq (pe_call GB hr (by rfl) T.g__law_below T.F__law_below.kp (b__law_below T) .nil pass0 (pa_cons (pv 0) (pa_cons pe_int pa_nil))) pe_int (nomark _))) (fun _ _ _ _ _ => pv 2)) pa_nil))), ?_⟩
    refine ⟨_, rfl, (m : Int), rfl, by omega, by omega, fun D hD => ?_⟩
    have rD : r ≠ D := by
      obtain ⟨a, b, ns, e⟩ := hR
      exact ne_of_none e hD
    rw [Int.toNat_natCast]
    refine lc_range (lo := 0) (n := m) (fun i H' => Fr [r] H H' ∧ Rnd H' r ∧ ∃ ks : List Nat, Asc i 0 ks ∧ H' D = some (.lst (kepV ks))) ⟨Fr.new hD, hR.keep (S := []) (Fr.new hD) (by simp), [], trivial, upd_same⟩ ?_ ?_
    · rintro i H1 hi ⟨fr, R1, ks, ha, e⟩
      refine ⟨rfl, _, rfl, r, 2, rfl, R1, by decide, by decide, fun z H2 hz f2 R2 => ⟨rfl, _, rfl, ite2 (fun _ => ?_) (fun _ => ?_)⟩⟩
      · have e2 : H2 D = some (.lst (kepV ks)) := f2 _ _ e (by simpa using rD.symm)
        refine ⟨_, rfl, _, e2, ?_, ?_, ?_, ks ++ [i], ?_, ?_⟩
        · rw [kepV_len]
          have := ha.len (Nat.zero_le _)
          exact sz_lt (by omega)
        · intro b o eb nb
          rw [upd_ne (ne_of_none eb hD)]
          exact (fr.trans f2) b o eb nb
        · obtain ⟨a, b, ns, e3⟩ := R2
          exact ⟨a, b, ns, (upd_ne rD).trans e3⟩
        · exact ha.snoc (Nat.zero_le _)
        · rw [upd_same]
          unfold kepV
          rw [List.map_append]
          show some (HO.lst (_ ++ [V.int (0 + (i : Int))])) = _
          rw [Int.zero_add]
          rfl
      · exact ⟨fr.trans f2, R2, ks, ha.mono (Nat.le_succ _), f2 _ _ e (by simpa using rD.symm)⟩
    · rintro H1 ⟨fr, R1, ks, ha, e⟩
      refine ⟨D, kepV ks, rfl, .inl ⟨SqL.of e, fun t ht => ?_⟩⟩
      have tD : t ≠ D := fun z => by rw [z, e] at ht; cases ht
      have tr : t ≠ r := fun z => by
        obtain ⟨a, b, ns, e3⟩ := R1
        rw [z, e3] at ht
        cases ht
      have t0 : H t = none := by
        cases q : H t with
        | none => rfl
        | some o =>
          rw [fr _ _ q (by simpa using tr)] at ht
          cases ht
      exact k t ks _ t0 (fr.trans (Fr.new ht)) (R1.keep (S := []) (Fr.new ht) (by simp)) upd_same ha
end
/-! ### plain contents: None, bools, ints -/
def isF : V → Bool
  | .non => true
  | .bl _ => true
  | .int _ => true
  | _ => false
def toD : V → PyData
  | .non => .none
  | .bl b => .bool b
  | .int i => .int i
  | _ => .none
def AllF (xs : List V) : Prop := ∀ v ∈ xs, isF v = true
theorem dpAll_flat {K : PySem.W.Frag} {H : Hp} : ∀ {xs : List V}, AllF xs → DpAll K H xs (xs.map toD)
  | [], _ => .nil
  | x :: r, h => by
    refine .cons ?_ (dpAll_flat fun v hv => h v (List.mem_cons_of_mem _ hv))
    have hx := h x List.mem_cons_self
    cases x with
    | non => exact .non
    | bl b => exact .bl b
    | int i => exact .int i
    | str _ => cases hx
    | byt _ => cases hx
    | flt _ => cases hx
    | ref _ => cases hx
    | ty _ => cases hx
theorem lay_flat : ∀ xs : List V, PyData.canLayAll0 (xs.map toD) = true
  | [] => rfl
  | x :: r => by
    show (PyData.canLay0 (toD x) && PyData.canLayAll0 (r.map toD)) = true
    rw [lay_flat r]
    cases x <;> rfl
theorem dep_flat : ∀ xs : List V, PyData.depthAll (xs.map toD) ≤ 1
  | [] => by simp [PyData.depthAll]
  | x :: r => by
    have h := dep_flat r
    show PyData.depthAll (toD x :: r.map toD) ≤ 1
    simp only [PyData.depthAll]
    have hx : PyData.depth (toD x) ≤ 1 := by cases x <;> simp [toD, PyData.depth]
    omega
theorem shaped_tup (xs : List V) : SeqAt.shaped (.tuple (xs.map toD)) = true := by
  unfold SeqAt.shaped
  rw [Bool.and_eq_true, decide_eq_true_eq]
  refine ⟨lay_flat xs, ?_⟩
  have := dep_flat xs
  simp only [PyData.depth]
  omega
theorem shaped_lst (xs : List V) : SeqAt.shaped (.list (xs.map toD)) = true := by
  unfold SeqAt.shaped
  rw [Bool.and_eq_true, decide_eq_true_eq]
  refine ⟨lay_flat xs, ?_⟩
  have := dep_flat xs
  simp only [PyData.depth]
  omega
theorem eqv_tup (xs : List V) : PyData.eqv (.tuple (xs.map toD)) (.tuple (xs.map toD)) = true := SeqAt.eqv_refl _ (lay_flat xs)
theorem eqv_lst (xs : List V) : PyData.eqv (.list (xs.map toD)) (.list (xs.map toD)) = true := SeqAt.eqv_refl _ (lay_flat xs)
theorem AllF.set {xs : List V} {v : V} (h : AllF xs) (hv : isF v = true) (i : Nat) : AllF (xs.set i v) := fun u hu => by
  rcases List.mem_or_eq_of_mem_set hu with z | z
  · exact h u z
  · rw [z]
    exact hv
theorem AllF.rep (n : Nat) {v : V} (hv : isF v = true) : AllF (List.replicate n v) := fun u hu => by
  rw [List.eq_of_mem_replicate hu]
  exact hv
/-! ### what is kept, as writes -/
def applyAll (ps : List (Nat × V)) (ls : List V) : List V := ps.foldl (fun l q => l.set q.1 q.2) ls
def pick (ps : List (Nat × V)) (ks : List Nat) : List (Nat × V) := ks.filterMap (ps[·]?)
theorem pick_snoc {ps : List (Nat × V)} {ks : List Nat} {k : Nat} {q : Nat × V} (e : ps[k]? = some q) : pick ps (ks ++ [k]) = pick ps ks ++ [q] := by
  unfold pick
  rw [List.filterMap_append]
  congr 1
  simp [e]
theorem pick_len (ps : List (Nat × V)) (ks : List Nat) : (pick ps ks).length ≤ ks.length := List.length_filterMap_le _ _
theorem pick_mem {ps : List (Nat × V)} {ks : List Nat} {q : Nat × V} (h : q ∈ pick ps ks) : q ∈ ps := by
  obtain ⟨k, _, e⟩ := List.mem_filterMap.mp h
  exact List.mem_of_getElem? e
theorem applyK_pick (ps : List (Nat × V)) : ∀ (ks : List Nat) (ls : List V), applyK ps ls ks = applyAll (pick ps ks) ls
  | [], _ => rfl
  | k :: r, ls => by
    show applyK ps (stepK ps ls k) r = _
    rw [applyK_pick ps r]
    unfold pick stepK
    cases e : ps[k]? with
    | none => simp [e]
    | some q => simp [e, applyAll]
theorem applyAll_snoc (ps : List (Nat × V)) (q : Nat × V) (ls : List V) : applyAll (ps ++ [q]) ls = (applyAll ps ls).set q.1 q.2 := by
  unfold applyAll
  rw [List.foldl_append]
  rfl
theorem pick_all : ∀ ps : List (Nat × V), pick ps (List.range ps.length) = ps := by
  intro ps
  unfold pick
  apply List.ext_getElem?
  intro i
  have key : ∀ n, n ≤ ps.length → (List.range n).filterMap (ps[·]?) = ps.take n := by
    intro n
    induction n with
    | zero => intro _; simp
    | succ n ih =>
      intro h
      rw [List.range_succ, List.filterMap_append, ih (by omega), List.take_add_one]
      congr 1
  rw [key ps.length (Nat.le_refl _), List.take_length]
theorem applyK_all (ps : List (Nat × V)) (ls : List V) : applyK ps ls (List.range ps.length) = applyAll ps ls := by
  rw [applyK_pick, pick_all]
theorem applyAll_len (ps : List (Nat × V)) : ∀ ls : List V, (applyAll ps ls).length = ls.length := by
  induction ps with
  | nil => intro _; rfl
  | cons q r ih =>
    intro ls
    show (applyAll r (ls.set q.1 q.2)).length = _
    rw [ih, List.length_set]
theorem asc_range (n : Nat) : Asc n 0 (List.range n) := by
  induction n with
  | zero => exact trivial
  | succ n ih =>
    rw [List.range_succ]
    exact ih.snoc (Nat.zero_le _)
theorem rgV_kept (n : Nat) : rgV 0 (n : Int) = kepV (List.range n) := by
  unfold rgV kepV
  rw [Int.sub_zero, Int.toNat_natCast]
  congr 1
  funext i
  rw [Int.zero_add]
theorem applyAll_F {ps : List (Nat × V)} (hp : ∀ q ∈ ps, isF q.2 = true) : ∀ {ls : List V}, AllF ls → AllF (applyAll ps ls) := by
  induction ps with
  | nil => intro _ h; exact h
  | cons q r ih =>
    intro ls h
    exact ih (fun u hu => hp u (List.mem_cons_of_mem _ hu)) (h.set (hp q List.mem_cons_self) _)
/-! ### what is new stands apart -/
theorem made_fr {H H' : Hp} {p dx C : Addr} (hp : H p = none) (hdx : H dx = none) (f : Fr [p] (upd (upd H dx (.own p)) p (.ins C dx [])) H') : Fr [] H H' := fun b o e _ => by
  have n1 : b ≠ p := ne_of_none e hp
  have n2 : b ≠ dx := ne_of_none e hdx
  exact f b o (by rw [upd_ne n1, upd_ne n2]; exact e) (by simpa using n1)
theorem made_none {H : Hp} {p dx C b : Addr} (h : (upd (upd H dx (.own p)) p (.ins C dx [])) b = none) : H b = none := (free_upd (free_upd h).1).1
theorem out_of_new {H : Hp} {S : List Addr} {r : Addr} {o : HO} (e : H r = some o) (n : ∀ b ∈ S, H b = none) : r ∉ S := fun h => by
  rw [n r h] at e
  cases e
theorem out_of_grow {H : Hp} {S S' : List Addr} {r : Addr} {o : HO} (e : H r = some o) (hr : r ∉ S) (g : ∀ b ∈ S', b ∈ S ∨ H b = none) : r ∉ S' := fun h => by
  rcases g r h with z | z
  · exact hr z
  · rw [z] at e
    cases e
theorem Rnd.some {H : Hp} {r : Addr} (h : Rnd H r) : ∃ o, H r = some o := by
  obtain ⟨a, b, ns, e⟩ := h
  exact ⟨_, e⟩
theorem Rnd.new {H : Hp} {r p : Addr} {o : HO} (h : Rnd H r) (hp : H p = none) : Rnd (upd H p o) r := h.keep (S := []) (Fr.new hp) (by simp)
theorem DiskAt.new {C : Addr} {H : Hp} {D : Dk} {cs ls : List V} {ps : List (Nat × V)} {r w s : Int} {p : Addr} {o : HO} (h : DiskAt C H D cs ls ps r w s) (hp : H p = none) : DiskAt C (upd H p o) D cs ls ps r w s := h.keep (S := []) (Fr.new hp) (by simp) (by simp)
theorem DiskAt.draw {C : Addr} {H H' : Hp} {D : Dk} {cs ls : List V} {ps : List (Nat × V)} {r w s : Int} {x : Addr} (h : DiskAt C H D cs ls ps r w s) (hR : Rnd H x) (n : x ∉ D.own) (f : Fr [x] H H') : DiskAt C H' D cs ls ps r w s :=
  h.keep f (fun b hb hx => n (by rw [← List.mem_singleton.mp hx]; exact hb)) hR.notup
theorem DiskAt.other {C : Addr} {H H' : Hp} {D T : Dk} {cs ls cs' ls' : List V} {ps ps' : List (Nat × V)} {r w s r' w' s' : Int} (h : DiskAt C H D cs ls ps r w s) (hT : DiskAt C H T cs' ls' ps' r' w' s') (n : Sep D.own T.own) (f : Fr T.own H H') : DiskAt C H' D cs ls ps r w s :=
  h.keep f (fun b hb => n b hb) hT.notup
/-! ### the law -/
def spLaw (K : PySem.W.Frag) : Sp := fun vs H Q _ => ∃ (a : Addr) (ns : List Int), vs = [.ref a] ∧ SqL K H a (ns.map V.int) ∧ ns.length ≤ 63 ∧ ∀ H', Q (.bl true) H'
abbrev lst (a r : Addr) (n : Nat) (p q : Addr) (v5 v6 v7 v8 v9 : Option V) : L2.St := [some (.ref a), some (.ref r), some (.int (n : Int)), some (.ref p), some (.ref q), v5, v6, v7, v8, v9]
/-- between two turns -/
structure Tw (C : Addr) (H : Hp) (r : Addr) (n : Nat) (D T : Dk) (cs : List V) : Prop where
  rnd : Rnd H r
  dD : ∃ a b c, DiskAt C H D cs cs [] a b c
  dT : ∃ a b c, DiskAt C H T cs cs [] a b c
  sep : Sep D.own T.own
  rD : r ∉ D.own
  rT : r ∉ T.own
  len : cs.length = n
  fl : AllF cs
section
variable {P : Program} {w : World} {K : PySem.W.Frag} {mg : Str → Option Value} {base : Heap}
theorem ok_law {f : Addr} {fd : FuncData} (F : Fun K "law" "law" s_law f fd) (T : Gx K mg) : FnOk P w K mg base CX0 6 f fd ["_law_script"] (spLaw K) := by
  have GB : FnOk P w K mg base CX0 1 T.f__law_below T.fd__law_below ["_law_d", "_law_limit"] spBelow := ok_below T
  have GR : FnOk P w K mg base CX0 1 T.f__law_random T.fd__law_random ["_law_script", "_law_salt"] (spRandom K) := ok_random T
  have GK : FnOk P w K mg base CX0 2 T.f__law_kept T.fd__law_kept ["_law_d", "_law_many"] spKept := ok_kept T
  have GI : FnOk P w K mg base CX0 3 T.f_Disk___init__ T.fd_Disk___init__ ["self", "cells", "content"] (spInit T.C_Disk) := ok_init T
  have GW : FnOk P w K mg base CX0 4 T.f_Disk_write T.fd_Disk_write ["self", "cell", "content"] (spWrite T.C_Disk) := ok_write T
  have GS : FnOk P w K mg base CX0 1 T.f_Disk_sync T.fd_Disk_sync ["self"] (spSync T.C_Disk) := ok_sync T
  have GF : FnOk P w K mg base CX0 4 T.f_Disk_fail T.fd_Disk_fail ["self", "kept"] (spFail T.C_Disk) := ok_fail T
  have GC : FnOk P w K mg base CX0 1 T.f_Disk_contents T.fd_Disk_contents ["self"] (spContents T.C_Disk) := ok_contents T
  have GL : FnOk P w K mg base CX0 1 T.f_Disk_lasting T.fd_Disk_lasting ["self"] (spLasting T.C_Disk) := ok_lasting T
  have GP : FnOk P w K mg base CX0 1 T.f_Disk_pending T.fd_Disk_pending ["self"] (spPending T.C_Disk) := ok_pending T
  obtain ⟨ds, rd, bI⟩ := T.F_Disk___init__.binds0 (ps := ["self", "cells", "content"]) 2 (by simp) rfl (fun D doc pm an cdv ct us ks hu hk => match us, hu, ks, hk with
    | [_, _], _, [_], _ => ⟨_, _, _, _, _, _, rfl, rfl, rfl⟩)
  refine F.ok sc_law (fun vs H Q E h => ?_) (fun cdv A outer s H vs Q E hr h => ?_)
  · obtain ⟨a, ns, rfl, _⟩ := h
    rfl
  · obtain ⟨a, ns, rfl, hS, hlen, k⟩ := h
    have hr1 : Room 1 _ := hr.mono (by decide)
    have hr2 : Room 2 _ := hr.mono (by decide)
    have hr4 : Room 4 _ := hr.mono (by decide)
    refine ⟨_, pss_cons (ps_set (i := 1) sc_law.nd rfl (.inl rfl) (pe_call GR hr1 (by rfl) T.g__law_random T.F__law_random.kp (b__law_random T) .nil pass0 (pa_cons (pv 0) (pa_cons pe_int pa_nil))))
      (pss_cons (ps_set (i := 2) sc_law.nd rfl (.inl rfl) (pe_op op_add pe_int (pe_call GB hr1 (by rfl) T.g__law_below T.F__law_below.kp (b__law_below T) .nil pass0 (pa_cons (pv 1) (pa_cons pe_int pa_nil)))))
      (pss_cons (ps_par (i := 3) (j := 4) (by rfl) sc_law.nd rfl rfl (by decide) rfl rfl (pa_cons (pe_make T.M_Disk___init__ GI hr4 (by rfl) T.gC_Disk bI rd pass0 (pa_cons (pv 2) pa_nil)) (pa_cons (pe_make T.M_Disk___init__ GI hr4 (by rfl) T.gC_Disk bI rd pass0 (pa_cons (pv 2) pa_nil)) pa_nil)) (by rfl))
      (pss_cons (ps_for PassesOwn.never rfl (pi_range1 (by rfl) T.z_range (pa_cons (pe_op op_add pe_int (pe_call GB hr1 (by rfl) T.g__law_below T.F__law_below.kp (b__law_below T) .nil pass0 (pa_cons (pv 1) (pa_cons pe_int pa_nil)))) pa_nil)) (pg_name (i := 5) sc_law.nd rfl (.inl rfl))
        (pss_cons (ps_for PassesOwn.never rfl (pi_range1 (by rfl) T.z_range (pa_cons (pe_call GB hr1 (by rfl) T.g__law_below T.F__law_below.kp (b__law_below T) .nil pass0 (pa_cons (pv 1) (pa_cons pe_int pa_nil))) pa_nil)) (pg_name (i := 6) sc_law.nd rfl (.inl rfl))
          (pss_one (ps_expr (pe_meth (pv 3) T.cl_Disk T.m_Disk_write GW hr4 (b_Disk_write T) .nil pass0 (pa_cons (pe_call GB hr1 (by rfl) T.g__law_below T.F__law_below.kp (b__law_below T) .nil pass0 (pa_cons (pv 1) (pa_cons (pv 2) pa_nil))) (pa_cons (pe_call GB hr1 (by rfl) T.g__law_below T.F__law_below.kp (b__law_below T) .nil pass0 (pa_cons (pv 1) (pa_cons pe_int pa_nil))) pa_nil))))))
        (pss_cons (ps_set (i := 7) sc_law.nd rfl (.inl rfl) (pe_prop (pv 3) T.cl_Disk T.P_Disk_pending GP hr2 (b_Disk_pending T) .nil pass0 rfl))
        (pss_cons (ps_set (i := 8) sc_law.nd rfl (.inl rfl) (pe_call GK hr2 (by rfl) T.g__law_kept T.F__law_kept.kp (b__law_kept T) .nil pass0 (pa_cons (pv 1) (pa_cons (pe_callB call_len_seq (by rfl) T.z_len PySem.boot_len (pa_cons (pv 7) pa_nil)) pa_nil))))
        (pss_cons (ps_for PassesOwn.never rfl (pi_tup (pv 8)) (pg_name (i := 9) sc_law.nd rfl (.inl rfl))
          (pss_one (ps_expr (pe_meth (pv 4) T.cl_Disk T.m_Disk_write GW hr4 (b_Disk_write T) .nil pass0 (pa_cons (pe_ix ix_tup (pe_ix ix_list (pv 7) (pv 9) (fun _ _ => rfl)) pe_int (fun _ _ => rfl)) (pa_cons (pe_ix ix_tup (pe_ix ix_list (pv 7) (pv 9) (fun _ _ => rfl)) pe_int (fun _ _ => rfl)) pa_nil))))))
        (C8.pss_cut (ps_if (pt_cmpR op_eq (pe_call GB hr1 (by rfl) T.g__law_below T.F__law_below.kp (b__law_below T) .nil pass0 (pa_cons (pv 1) (pa_cons pe_int pa_nil))) pe_int (nomark _)) (pss_one (ps_expr (pe_meth0 (pv 4) T.cl_Disk T.m_Disk_sync GS hr1 (b_Disk_sync T) .nil pass0))) pss_nil)
        (pss_cons (ps_expr (pe_meth (pv 3) T.cl_Disk T.m_Disk_fail GF hr4 (b_Disk_fail T) .nil pass0 (pa_cons (pv 8) pa_nil)))
        (pss_cons (ps_expr (pe_meth (pv 4) T.cl_Disk T.m_Disk_fail GF hr4 (b_Disk_fail T) .nil pass0 (pa_cons (pe_tupRg rfl (by rfl) T.z_tuple (prg_1 (by rfl) T.z_range (pe_callB call_len_seq (by rfl) T.z_len PySem.boot_len (pa_cons (pe_prop (pv 4) T.cl_Disk T.P_Disk_pending GP hr2 (b_Disk_pending T) .nil pass0 rfl) pa_nil)))) pa_nil)))
        (pss_one (ps_if (PW.pt (pw_or (pt_cmpR (op_neD hr.units) (pe_prop (pv 3) T.cl_Disk T.P_Disk_contents GC hr2 (b_Disk_contents T) .nil pass0 rfl) (pe_prop (pv 4) T.cl_Disk T.P_Disk_contents GC hr2 (b_Disk_contents T) .nil pass0 rfl) (nomark _))
            (pw_or (pt_cmpR (op_neD hr.units) (pe_prop (pv 3) T.cl_Disk T.P_Disk_lasting GL hr2 (b_Disk_lasting T) .nil pass0 rfl) (pe_prop (pv 4) T.cl_Disk T.P_Disk_lasting GL hr2 (b_Disk_lasting T) .nil pass0 rfl) (nomark _))
            (pw_or1 (pt_cmpR (op_neD hr.units) (pe_prop (pv 3) T.cl_Disk T.P_Disk_pending GP hr2 (b_Disk_pending T) .nil pass0 rfl) (pe_lst pa_nil) (nomark _))))))
          (pss_one (ps_ret pe_bl)) pss_nil))))))))))
      (pss_one (ps_ret pe_bl))))), ?_⟩
    -- d = random(script, 5)
    refine ⟨_, rfl, a, 5, ns, rfl, hS, hlen, fun r H1 r0 f1 R1 => ?_⟩
    -- cells = 1 + below(d, 6)
    refine ⟨_, rfl, r, 6, rfl, R1, by decide, by decide, fun z H2 hz f2 R2 => ⟨_, _, rfl, rfl, ?_⟩⟩
    obtain ⟨n, hn, hn1, hn2⟩ : ∃ n : Nat, (1 : Int) + (z : Int) = (n : Int) ∧ 1 ≤ n ∧ n ≤ 6 := ⟨1 + z, by omega, by omega, by omega⟩
    show gName 2 (V.int ((1 : Int) + (z : Int))) _ _ _
    rw [hn]
    have R2' : Rnd H2 r := R2
    -- disk, twin = Disk(cells), Disk(cells)
    refine ⟨_, rfl, fun p dx hp hdx hne => ⟨p, dx, n, .int 0, rfl, hn1, by omega, upd_same, fun D H3 eD f3 hD c0 l0 d0 => ⟨rfl, ?_⟩⟩⟩
    have g3 := made_fr hp hdx f3
    have nD : ∀ b ∈ D.own, H2 b = none := fun b hb => by
      simp only [Dk.own, List.mem_cons, List.not_mem_nil, or_false] at hb
      rcases hb with e | e | e | e
      · rw [e, eD]; exact hp
      · rw [e]; exact made_none c0
      · rw [e]; exact made_none l0
      · rw [e]; exact made_none d0
    have R3 : Rnd H3 r := R2.keep g3 (by simp)
    have rD : r ∉ D.own := R2.some.elim fun o e => out_of_new e nD
    refine ⟨_, rfl, fun p' dx' hp' hdx' hne' => ⟨p', dx', n, .int 0, rfl, hn1, by omega, upd_same, fun T0 H4 eT f4 hT c0' l0' d0' => ⟨rfl, ?_⟩⟩⟩
    have g4 := made_fr hp' hdx' f4
    have nT : ∀ b ∈ T0.own, H3 b = none := fun b hb => by
      simp only [Dk.own, List.mem_cons, List.not_mem_nil, or_false] at hb
      rcases hb with e | e | e | e
      · rw [e, eT]; exact hp'
      · rw [e]; exact made_none c0'
      · rw [e]; exact made_none l0'
      · rw [e]; exact made_none d0'
    have R4 : Rnd H4 r := R3.keep g4 (by simp)
    have rT : r ∉ T0.own := R3.some.elim fun o e => out_of_new e nT
    have sDT : Sep D.own T0.own := fun b hb ht => by
      obtain ⟨o, e⟩ := hD.there b hb
      rw [nT b ht] at e
      cases e
    have hD4 := hD.keep g4 (by simp) (by simp)
    subst eD eT
    -- the turns
    refine ⟨_, _, rfl, ?_⟩
    refine ⟨_, rfl, r, 6, rfl, R4, by decide, by decide, fun z5 H5 hz5 f5 R5 => ⟨_, _, rfl, rfl, ?_⟩⟩
    refine ⟨_, rfl, by show -(2 ^ 62) ≤ (1 : Int) + (z5 : Int); omega, by show (1 : Int) + (z5 : Int) < 2 ^ 62; omega, ?_⟩
    refine for_range (lo := 0) (n := ((1 : Int) + (z5 : Int)).toNat) (fun i σ H' => ∃ (D T0 : Dk) (cs : List V) (v5 v6 v7 v8 v9 : Option V), σ = lst a r n D.p T0.p v5 v6 v7 v8 v9 ∧ Tw T.C_Disk H' r n D T0 cs)
      ⟨D, T0, List.replicate n (.int 0), none, none, none, none, none, rfl, R5, ⟨_, _, _, hD4.draw R4 rD f5⟩, ⟨_, _, _, hT.draw R4 rT f5⟩, sDT, rD, rT, by simp, AllF.rep n rfl⟩ ?_ ?_
    · clear hD hT hD4 nD nT c0 l0 d0 c0' l0' d0' f3 f4 g3 g4 hp hdx hp' hdx' rD rT sDT
      rintro i σ H6 hi ⟨D, T0, cs, v5, v6, v7, v8, v9, rfl, W⟩
      obtain ⟨R6, ⟨da, db, dc, hD⟩, ⟨ta, tb, tc, hT⟩, sep, rD, rT, hcs, hfl⟩ := W
      -- writes to the disk
      refine ⟨_, rfl, r, 8, rfl, R6, by decide, by decide, fun z7 H7 hz7 f7 R7 => ?_⟩
      refine ⟨_, rfl, by omega, by omega, ?_⟩
      refine for_range (lo := 0) (n := ((z7 : Int)).toNat) (fun i σ H' => ∃ (cs' : List V) (ps : List (Nat × V)) (v5 v6 : Option V), σ = lst a r n D.p T0.p v5 v6 v7 v8 v9 ∧ Rnd H' r ∧ (∃ a b c, DiskAt T.C_Disk H' D cs' cs ps a b c) ∧ (∃ a b c, DiskAt T.C_Disk H' T0 cs cs [] a b c) ∧ ps.length = i ∧ ∀ q ∈ ps, isF q.2 = true)
        ⟨cs, [], _, _, rfl, R7, ⟨_, _, _, hD.draw R6 rD f7⟩, ⟨_, _, _, hT.draw R6 rT f7⟩, rfl, fun q hq => by cases hq⟩ ?_ ?_
      · rintro j σ H8 hj ⟨cs', ps, v5, v6, rfl, R8, ⟨da, db, dc, hD⟩, ⟨ta, tb, tc, hT⟩, hps, hpf⟩
        refine ⟨_, rfl, D.p, D.dx, _, rfl, hD.ins, dF_no_write, ?_⟩
        refine ⟨_, rfl, _, rfl, r, n, rfl, R8, by omega, by omega, fun z9 H9 hz9 f9 R9 => ?_⟩
        refine ⟨_, rfl, r, 999, rfl, R9, by decide, by decide, fun z10 H10 hz10 f10 R10 => ?_⟩
        have hD10 := (hD.draw R8 rD f9).draw R9 rD f10
        have hT10 := (hT.draw R8 rT f9).draw R9 rT f10
        refine ⟨D, cs', cs, ps, da, db, dc, z9, .int (z10 : Int), rfl, hD10, by rw [hD.len, hcs]; exact hz9, by omega, fun H11 f11 hD11 => ?_⟩
        exact ⟨_, _, _, _, rfl, R10.keep f11 rD, ⟨_, _, _, hD11⟩, ⟨_, _, _, hT10.other hD10 sep.symm f11⟩, by rw [List.length_append, hps]; rfl, fun q hq => by
          rcases List.mem_append.mp hq with y | y
          · exact hpf q y
          · rw [List.mem_singleton.mp y]; rfl⟩
      · clear hD hT
        rintro σ H8 ⟨cs', ps, v5, v6, rfl, R8, ⟨da, db, dc, hD⟩, ⟨ta, tb, tc, hT⟩, hps, hpf⟩
        have hps8 : ps.length ≤ 8 := by omega
        -- waits = disk.pending
        refine ⟨_, rfl, D.p, D.dx, _, rfl, hD.ins, D, cs', cs, ps, da, db, dc, rfl, hD, fun wt ts hwt pn => ?_⟩
        have hDw := hD.new (o := .lst (ts.map V.ref)) hwt
        have hTw := hT.new (o := .lst (ts.map V.ref)) hwt
        have Rw := R8.new (o := .lst (ts.map V.ref)) hwt
        have wT : wt ∉ T0.own := fun hb => by
          obtain ⟨o, e⟩ := hT.there wt hb
          rw [hwt] at e
          cases e
        have wr : wt ≠ r := by
          obtain ⟨o, e⟩ := R8.some
          exact (ne_of_none e hwt).symm
        have pnw := pn.keep (Fr.new (S := []) (o := .lst (ts.map V.ref)) hwt) (by simp)
        -- kept_here = kept(d, len(waits))
        refine ⟨_, rfl, _, rfl, wt, _, rfl, .inl (SqL.of upd_same), r, ps.length, ?_, Rw, by omega, fun kt ks H9 hkt f9 R9 ekt hasc => ?_⟩
        · rw [List.length_map, pn.1]
          rfl
        have hD9 := hDw.draw Rw rD f9
        have hT9 := hTw.draw Rw rT f9
        have ewt : H9 wt = some (.lst (ts.map V.ref)) := f9 _ _ upd_same (by simpa using wr)
        have pn9 := pnw.keep f9 Rw.notup
        have kT : kt ∉ T0.own := fun hb => hT9.notup kt hb _ ekt
        -- writes to the twin
        refine ⟨_, rfl, kt, rfl, ⟨_, SqT.of ekt⟩, for_tup (K := K) (a := kt) (xs := kepV ks) (fun i σ H' => Fr T0.own H9 H' ∧ (∃ v9 : Option V, σ = lst a r n D.p T0.p v5 v6 (some (.ref wt)) (some (.ref kt)) v9) ∧ ∃ a b c, DiskAt T.C_Disk H' T0 (applyK ps cs (ks.take i)) cs (pick ps (ks.take i)) a b c)
          ⟨Fr.refl _ _, ⟨_, rfl⟩, _, _, _, hT9⟩ (fun i σ H' _ e => SqT.of (e.1 _ _ ekt kT)) ?_ ?_⟩
        · rintro j x σ H10 hj ⟨f10, ⟨v9, rfl⟩, xa, xb, xc, hT10⟩
          obtain ⟨kk, rfl, hk⟩ := kV_at hj
          have hlt : kk < ps.length := hasc.lt j kk hk
          have ep : ps[kk]? = some ps[kk] := List.getElem?_eq_getElem hlt
          have et : ts[kk]? = some (ts[kk]'(by rw [pn.1]; exact hlt)) := List.getElem?_eq_getElem (by rw [pn.1]; exact hlt)
          have etup := pn9.2 kk _ _ et ep
          have tT : ts[kk]'(by rw [pn.1]; exact hlt) ∉ T0.own := fun hb => hT9.notup _ hb _ etup
          have etup10 := f10 _ _ etup tT
          have ewt10 := f10 _ _ ewt wT
          have hjl := lt_of_at hk
          have hkl := hasc.len (Nat.zero_le _)
          refine ⟨_, rfl, T0.p, T0.dx, _, rfl, hT10.ins, dF_no_write, ?_⟩
          refine ⟨_, rfl, _, rfl, wt, ts.map V.ref, (kk : Int), .ref (ts[kk]'(by rw [pn.1]; exact hlt)), rfl, rfl, SqL.of ewt10, atI_nat (by rw [List.getElem?_map, et]; rfl), ?_⟩
          refine ⟨_, _, 0, .int (ps[kk].1 : Int), rfl, rfl, SqT.of etup10, atI_nat (j := 0) rfl, ?_⟩
          refine ⟨_, rfl, _, rfl, wt, ts.map V.ref, (kk : Int), .ref (ts[kk]'(by rw [pn.1]; exact hlt)), rfl, rfl, SqL.of ewt10, atI_nat (by rw [List.getElem?_map, et]; rfl), ?_⟩
          refine ⟨_, _, 1, ps[kk].2, rfl, rfl, SqT.of etup10, atI_nat (j := 1) rfl, ?_⟩
          refine ⟨T0, _, _, _, xa, xb, xc, ps[kk].1, ps[kk].2, rfl, hT10, ?_, ?_, fun H11 f11 hT11 => ⟨f10.trans f11, ⟨_, rfl⟩, xa, xb + 1, xc, ?_⟩⟩
          · rw [applyK_len]
            exact hD.ok _ (List.getElem_mem hlt)
          · have := pick_len ps (ks.take j)
            rw [List.length_take] at this
            omega
          · rw [List.take_add_one, hk]
            show DiskAt T.C_Disk H11 T0 (applyK ps cs (ks.take j ++ [kk])) cs (pick ps (ks.take j ++ [kk])) xa (xb + 1) xc
            rw [applyK_snoc, pick_snoc ep]
            unfold stepK
            rw [ep]
            exact hT11
        · rintro σ H10 ⟨f10, ⟨v9, rfl⟩, xa, xb, xc, hT10⟩
          rw [kepV_len, List.take_length] at hT10
          have R10 : Rnd H10 r := R9.keep f10 rT
          have hD10 := hD9.other hT9 sep f10
          have ekt10 := f10 _ _ ekt kT
          have hkl := hasc.len (Nat.zero_le _)
          have hpl := pick_len ps ks
          -- if below(d, 2) == 0: twin.sync()
          refine ⟨fun σ H' => σ = lst a r n D.p T0.p v5 v6 (some (.ref wt)) (some (.ref kt)) v9 ∧ Rnd H' r ∧ (∃ a b c, DiskAt T.C_Disk H' D cs' cs ps a b c) ∧ H' kt = some (.tup (kepV ks)) ∧
            ∃ (T1 : Dk) (tls : List V) (tps : List (Nat × V)) (a b c : Int), T1.p = T0.p ∧ Sep D.own T1.own ∧ r ∉ T1.own ∧ DiskAt T.C_Disk H' T1 (applyK ps cs ks) tls tps a b c ∧ tps.length ≤ 8 ∧ applyAll tps tls = applyK ps cs ks, ?_, ?_⟩
          · refine ⟨_, rfl, r, 2, rfl, R10, by decide, by decide, fun z11 H11 hz11 f11 R11 => ⟨rfl, _, rfl, ite2 (fun _ => ?_) (fun _ => ?_)⟩⟩
            · have hT11 := hT10.draw R10 rT f11
              have hD11 := hD10.draw R10 rD f11
              have kr : kt ∉ [r] := fun hb => R10.notup kt hb _ ekt10
              have ekt11 := f11 _ _ ekt10 kr
              refine ⟨_, rfl, T0.p, T0.dx, _, rfl, hT11.ins, dF_no_sync, T0, _, _, _, xa, xb, xc, rfl, hT11, fun T1 H12 e12 g12 f12 hT12 => ?_⟩
              have s12 : Sep D.own T1.own := (sep.symm.grow g12 hD11.there).symm
              refine ⟨rfl, R11.keep f12 rT, ⟨_, _, _, hD11.other hT11 sep f12⟩, f12 _ _ ekt11 kT, T1, _, [], _, _, _, e12, s12, R11.some.elim fun o e => out_of_grow e rT g12, hT12, by simp, rfl⟩
            · have kr : kt ∉ [r] := fun hb => R10.notup kt hb _ ekt10
              exact ⟨rfl, R11, ⟨_, _, _, hD10.draw R10 rD f11⟩, f11 _ _ ekt10 kr, T0, _, _, _, _, _, rfl, sep, rT, hT10.draw R10 rT f11, by omega, (applyK_pick ps ks cs).symm⟩
          · clear hT10 hT9 hT hTw rT sep wT kT f10
            rintro σ H11 ⟨rfl, R11, ⟨ea, eb, ec, hD11⟩, ekt11, T1, tls, tps, ta, tb, tc, e1, sep, rT, hT11, htl, happ⟩
            -- disk.fail(kept_here)
            refine ⟨_, rfl, D.p, D.dx, _, rfl, hD11.ins, dF_no_fail, _, rfl, D, cs', cs, ps, ea, eb, ec, kt, ks, rfl, hD11, ekt11, hasc, fun D1 H12 e12 g12 f12 hD12 => ?_⟩
            have sep12 : Sep D1.own T1.own := sep.grow g12 hT11.there
            have rD12 : r ∉ D1.own := R11.some.elim fun o e => out_of_grow e rD g12
            have R12 := R11.keep f12 rD
            have hT12 := hT11.other hD11 sep.symm f12
            -- twin.fail(tuple(range(len(twin.pending))))
            rw [← e1]
            refine ⟨_, rfl, T1.p, T1.dx, _, rfl, hT12.ins, dF_no_fail, ?_⟩
            refine ⟨_, rfl, T1.p, T1.dx, _, rfl, hT12.ins, T1, _, tls, tps, ta, tb, tc, rfl, hT12, fun wl ts2 hwl pn2 => ?_⟩
            refine ⟨wl, _, rfl, .inl (SqL.of upd_same), _, rfl, RgOk.of_le (Int.le_refl _) ?_ (by decide) (by omega), fun u hu => ?_⟩
            · rw [List.length_map, pn2.1]
              omega
            have hT13 := (hT12.new (o := .lst (ts2.map V.ref)) hwl).new (o := .tup (rgV 0 ((ts2.map V.ref).length : Int))) hu
            have hD13 := (hD12.new (o := .lst (ts2.map V.ref)) hwl).new (o := .tup (rgV 0 ((ts2.map V.ref).length : Int))) hu
            have R13 := (R12.new (o := .lst (ts2.map V.ref)) hwl).new (o := .tup (rgV 0 ((ts2.map V.ref).length : Int))) hu
            have elen : ((ts2.map V.ref).length : Int) = (tps.length : Int) := by
              rw [List.length_map, pn2.1]
            refine ⟨T1, _, tls, tps, ta, tb, tc, u, List.range tps.length, rfl, hT13, ?_, asc_range _, fun T2 H14 e14 g14 f14 hT14 => ?_⟩
            · rw [elen, rgV_kept] at *
              exact upd_same
            rw [applyK_all, happ] at hT14
            have sep14 : Sep D1.own T2.own := (sep12.symm.grow g14 hD13.there).symm
            have rT14 : r ∉ T2.own := R13.some.elim fun o e => out_of_grow e rT g14
            have hD14 := hD13.other hT13 sep12 f14
            have R14 := R13.keep f14 rT
            have hfl' : AllF (applyK ps cs ks) := by
              rw [applyK_pick]
              exact applyAll_F (fun q hq => hpf q (pick_mem hq)) hfl
            rw [← e12, ← e14]
            -- the comparisons
            refine ⟨_, rfl, D1.p, D1.dx, _, rfl, hD14.ins, D1, _, _, [], _, _, _, rfl, hD14, fun t1 ht1 => ?_⟩
            have hD15 := hD14.new (o := .tup (applyK ps cs ks)) ht1
            have hT15 := hT14.new (o := .tup (applyK ps cs ks)) ht1
            have R15 := R14.new (o := .tup (applyK ps cs ks)) ht1
            refine ⟨_, rfl, T2.p, T2.dx, _, rfl, hT15.ins, T2, _, _, [], _, _, _, rfl, hT15, fun t2 ht2 => ?_⟩
            have hD16 := hD15.new (o := .tup (applyK ps cs ks)) ht2
            have hT16 := hT15.new (o := .tup (applyK ps cs ks)) ht2
            have R16 := R15.new (o := .tup (applyK ps cs ks)) ht2
            refine ⟨_, _, .tup (SqT.of ((upd_ne (free_upd ht2).2.symm).trans upd_same)) (dpAll_flat hfl'), .tup (SqT.of upd_same) (dpAll_flat hfl'), shaped_tup _, shaped_tup _, _, rfl, ?_⟩
            rw [eqv_tup]
            refine iteF ?_
            refine ⟨_, rfl, D1.p, D1.dx, _, rfl, hD16.ins, D1, _, _, [], _, _, _, rfl, hD16, fun t3 ht3 => ?_⟩
            have hD17 := hD16.new (o := .tup (applyK ps cs ks)) ht3
            have hT17 := hT16.new (o := .tup (applyK ps cs ks)) ht3
            have R17 := R16.new (o := .tup (applyK ps cs ks)) ht3
            refine ⟨_, rfl, T2.p, T2.dx, _, rfl, hT17.ins, T2, _, _, [], _, _, _, rfl, hT17, fun t4 ht4 => ?_⟩
            have hD18 := hD17.new (o := .tup (applyK ps cs ks)) ht4
            have hT18 := hT17.new (o := .tup (applyK ps cs ks)) ht4
            have R18 := R17.new (o := .tup (applyK ps cs ks)) ht4
            refine ⟨_, _, .tup (SqT.of ((upd_ne (free_upd ht4).2.symm).trans upd_same)) (dpAll_flat hfl'), .tup (SqT.of upd_same) (dpAll_flat hfl'), shaped_tup _, shaped_tup _, _, rfl, ?_⟩
            rw [eqv_tup]
            refine iteF ?_
            refine ⟨_, rfl, D1.p, D1.dx, _, rfl, hD18.ins, D1, _, _, [], _, _, _, rfl, hD18, fun t5 ts5 ht5 pn5 => ?_⟩
            have e5 : ts5 = [] := List.length_eq_zero_iff.mp pn5.1
            subst e5
            have hD19 := hD18.new (o := .lst ([] : List V)) ht5
            have hT19 := hT18.new (o := .lst ([] : List V)) ht5
            have R19 := R18.new (o := .lst ([] : List V)) ht5
            refine ⟨sz_le (by simp), fun t6 ht6 => ?_⟩
            have hD20 := hD19.new (o := .lst ([] : List V)) ht6
            have hT20 := hT19.new (o := .lst ([] : List V)) ht6
            have R20 := R19.new (o := .lst ([] : List V)) ht6
            refine ⟨_, _, .lst (SqL.of ((upd_ne (free_upd ht6).2.symm).trans upd_same)) .nil, .lst (SqL.of upd_same) .nil, rfl, rfl, _, rfl, ?_⟩
            refine iteF ?_
            exact ⟨D1, T2, applyK ps cs ks, v5, v6, _, _, v9, rfl, R20, ⟨_, _, _, hD20⟩, ⟨_, _, _, hT20⟩, sep14, rD12, rT14, by rw [applyK_len]; exact hcs, hfl'⟩
    · rintro σ H6 ⟨D, T0, cs, v5, v6, v7, v8, v9, rfl, W⟩
      exact k _
end
theorem all_mk {l : PySem.W.OpenLaw} {w : World} {K : PySem.W.Frag} {h : Heap} {mg : Str → Option Value} {fa C_Disk f_is_number f_is_number_from f_Disk___init__ D_Disk___init__ f_Disk_write f_Disk_sync f_Disk_fail f_Disk_contents p_Disk_contents f_Disk_lasting p_Disk_lasting f_Disk_pending p_Disk_pending f_Disk__check_cell f_are_kept f__law_random f__law_below f__law_kept f_law : Addr} (X : K.In h) (G : h.Ns mainGlobals mg) (hfa : mg "law" = some (.ref fa))
    {od_is_number an_is_number od_is_number_from an_is_number_from od_Disk___init__ an_Disk___init__ od_Disk_write an_Disk_write od_Disk_sync an_Disk_sync od_Disk_fail an_Disk_fail od_Disk_contents an_Disk_contents od_Disk_lasting an_Disk_lasting od_Disk_pending an_Disk_pending od_Disk__check_cell an_Disk__check_cell od_are_kept an_are_kept od__law_random an__law_random od__law_below an__law_below od__law_kept an__law_kept od_law an_law : Option Addr} {sl_is_number sl_is_number_from sl_Disk___init__ sl_Disk_write sl_Disk_sync sl_Disk_fail sl_Disk_contents sl_Disk_lasting sl_Disk_pending sl_Disk__check_cell sl_are_kept sl__law_random sl__law_below sl__law_kept sl_law : Array (Option Value)} {oc_is_number dc_is_number pm_is_number cd_is_number ct_is_number kV_is_number oc_is_number_from dc_is_number_from pm_is_number_from cd_is_number_from ct_is_number_from kV_is_number_from oc_Disk___init__ dc_Disk___init__ pm_Disk___init__ cd_Disk___init__ ct_Disk___init__ oc_Disk_write dc_Disk_write pm_Disk_write cd_Disk_write ct_Disk_write kV_Disk_write oc_Disk_sync dc_Disk_sync pm_Disk_sync cd_Disk_sync ct_Disk_sync kV_Disk_sync oc_Disk_fail dc_Disk_fail pm_Disk_fail cd_Disk_fail ct_Disk_fail kV_Disk_fail oc_Disk_contents dc_Disk_contents pm_Disk_contents cd_Disk_contents ct_Disk_contents kV_Disk_contents oc_Disk_lasting dc_Disk_lasting pm_Disk_lasting cd_Disk_lasting ct_Disk_lasting kV_Disk_lasting oc_Disk_pending dc_Disk_pending pm_Disk_pending cd_Disk_pending ct_Disk_pending kV_Disk_pending oc_Disk__check_cell dc_Disk__check_cell pm_Disk__check_cell cd_Disk__check_cell ct_Disk__check_cell kV_Disk__check_cell oc_are_kept dc_are_kept pm_are_kept cd_are_kept ct_are_kept kV_are_kept oc__law_random dc__law_random pm__law_random cd__law_random ct__law_random kV__law_random oc__law_below dc__law_below pm__law_below cd__law_below ct__law_below kV__law_below oc__law_kept dc__law_kept pm__law_kept cd__law_kept ct__law_kept kV__law_kept oc_law dc_law pm_law cd_law ct_law kV_law : Value} {t_MOST_CELLS : Tok}
    (aC_Disk : PySem.W.nsIn K mainGlobals "Disk" = some (some (.ref C_Disk)))
    (pg_Disk : PySem.W.plainGet K C_Disk Str.empty = true) (hd_Disk : PySem.W.hasDictIn K C_Disk = true) (po_Disk : PySem.W.plainOver K C_Disk = true) (sa_Disk : PySem.W.findIn K (.ref C_Disk) "__setattr__" = some (some (.builtin "object.__setattr__")))
    (n_Disk__contents : PySem.W.findIn K (.ref C_Disk) "_contents" = some none)
    (n_Disk__lasting : PySem.W.findIn K (.ref C_Disk) "_lasting" = some none)
    (n_Disk__pending : PySem.W.findIn K (.ref C_Disk) "_pending" = some none)
    (n_Disk__reads : PySem.W.findIn K (.ref C_Disk) "_reads" = some none)
    (n_Disk__writes : PySem.W.findIn K (.ref C_Disk) "_writes" = some none)
    (n_Disk__syncs : PySem.W.findIn K (.ref C_Disk) "_syncs" = some none)
    (a_is_number : PySem.W.nsIn K mainGlobals "is_number" = some (some (.ref f_is_number)))
    (l_is_number : K.lookup f_is_number = some ⟨oc_is_number, od_is_number, .func (PySem.W.fnOf "is_number" "is_number" (defArgs s_is_number) (defBody s_is_number) (defScope s_is_number) .none kV_is_number dc_is_number pm_is_number an_is_number cd_is_number ct_is_number), sl_is_number⟩) (c_is_number : PySem.W.codeIn K cd_is_number "is_number" = true) (k_is_number : PySem.W.keepIn K (.ref f_is_number) = true)
    (a_is_number_from : PySem.W.nsIn K mainGlobals "is_number_from" = some (some (.ref f_is_number_from)))
    (l_is_number_from : K.lookup f_is_number_from = some ⟨oc_is_number_from, od_is_number_from, .func (PySem.W.fnOf "is_number_from" "is_number_from" (defArgs s_is_number_from) (defBody s_is_number_from) (defScope s_is_number_from) .none kV_is_number_from dc_is_number_from pm_is_number_from an_is_number_from cd_is_number_from ct_is_number_from), sl_is_number_from⟩) (c_is_number_from : PySem.W.codeIn K cd_is_number_from "is_number_from" = true) (k_is_number_from : PySem.W.keepIn K (.ref f_is_number_from) = true)
    (a_Disk___init__ : PySem.W.findIn K (.ref C_Disk) "__init__" = some (some (.ref f_Disk___init__))) (i_Disk___init__ : PySem.W.isFn K (.ref f_Disk___init__) = true) (mk_Disk___init__ : PySem.W.makesIn K C_Disk = true) (kc_Disk___init__ : PySem.W.keepIn K (.ref C_Disk) = true)
    (l_Disk___init__ : K.lookup f_Disk___init__ = some ⟨oc_Disk___init__, od_Disk___init__, .func (PySem.W.fnOf "__init__" "Disk.__init__" (defArgs s_Disk___init__) (defBody s_Disk___init__) (defScope s_Disk___init__) .none (.ref D_Disk___init__) dc_Disk___init__ pm_Disk___init__ an_Disk___init__ cd_Disk___init__ ct_Disk___init__), sl_Disk___init__⟩) (c_Disk___init__ : PySem.W.codeIn K cd_Disk___init__ "Disk.__init__" = true) (k_Disk___init__ : PySem.W.keepIn K (.ref f_Disk___init__) = true)
    {td_Disk___init___content : Tok} (kd_Disk___init___content : PySem.W.nsIn K D_Disk___init__ "content" = some (some (.int 0 td_Disk___init___content)))
    (a_Disk_write : PySem.W.findIn K (.ref C_Disk) "write" = some (some (.ref f_Disk_write))) (i_Disk_write : PySem.W.isFn K (.ref f_Disk_write) = true)
    (l_Disk_write : K.lookup f_Disk_write = some ⟨oc_Disk_write, od_Disk_write, .func (PySem.W.fnOf "write" "Disk.write" (defArgs s_Disk_write) (defBody s_Disk_write) (defScope s_Disk_write) .none kV_Disk_write dc_Disk_write pm_Disk_write an_Disk_write cd_Disk_write ct_Disk_write), sl_Disk_write⟩) (c_Disk_write : PySem.W.codeIn K cd_Disk_write "Disk.write" = true) (k_Disk_write : PySem.W.keepIn K (.ref f_Disk_write) = true)
    (a_Disk_sync : PySem.W.findIn K (.ref C_Disk) "sync" = some (some (.ref f_Disk_sync))) (i_Disk_sync : PySem.W.isFn K (.ref f_Disk_sync) = true)
    (l_Disk_sync : K.lookup f_Disk_sync = some ⟨oc_Disk_sync, od_Disk_sync, .func (PySem.W.fnOf "sync" "Disk.sync" (defArgs s_Disk_sync) (defBody s_Disk_sync) (defScope s_Disk_sync) .none kV_Disk_sync dc_Disk_sync pm_Disk_sync an_Disk_sync cd_Disk_sync ct_Disk_sync), sl_Disk_sync⟩) (c_Disk_sync : PySem.W.codeIn K cd_Disk_sync "Disk.sync" = true) (k_Disk_sync : PySem.W.keepIn K (.ref f_Disk_sync) = true)
    (a_Disk_fail : PySem.W.findIn K (.ref C_Disk) "fail" = some (some (.ref f_Disk_fail))) (i_Disk_fail : PySem.W.isFn K (.ref f_Disk_fail) = true)
    (l_Disk_fail : K.lookup f_Disk_fail = some ⟨oc_Disk_fail, od_Disk_fail, .func (PySem.W.fnOf "fail" "Disk.fail" (defArgs s_Disk_fail) (defBody s_Disk_fail) (defScope s_Disk_fail) .none kV_Disk_fail dc_Disk_fail pm_Disk_fail an_Disk_fail cd_Disk_fail ct_Disk_fail), sl_Disk_fail⟩) (c_Disk_fail : PySem.W.codeIn K cd_Disk_fail "Disk.fail" = true) (k_Disk_fail : PySem.W.keepIn K (.ref f_Disk_fail) = true)
    {rest_Disk_contents : List Value} (a_Disk_contents : PySem.W.findIn K (.ref C_Disk) "contents" = some (some (.ref p_Disk_contents))) (ge_Disk_contents : PySem.W.specialIn K (.ref p_Disk_contents) "__get__" = some (some (.builtin "property.__get__"))) (tk_Disk_contents : PySem.W.takesIn K (.ref p_Disk_contents) = some true) (rc_Disk_contents : PySem.W.recIn K p_Disk_contents "property" = some (.ref f_Disk_contents :: rest_Disk_contents))
    (l_Disk_contents : K.lookup f_Disk_contents = some ⟨oc_Disk_contents, od_Disk_contents, .func (PySem.W.fnOf "contents" "Disk.contents" (defArgs s_Disk_contents) (defBody s_Disk_contents) (defScope s_Disk_contents) .none kV_Disk_contents dc_Disk_contents pm_Disk_contents an_Disk_contents cd_Disk_contents ct_Disk_contents), sl_Disk_contents⟩) (c_Disk_contents : PySem.W.codeIn K cd_Disk_contents "Disk.contents" = true) (k_Disk_contents : PySem.W.keepIn K (.ref f_Disk_contents) = true)
    {rest_Disk_lasting : List Value} (a_Disk_lasting : PySem.W.findIn K (.ref C_Disk) "lasting" = some (some (.ref p_Disk_lasting))) (ge_Disk_lasting : PySem.W.specialIn K (.ref p_Disk_lasting) "__get__" = some (some (.builtin "property.__get__"))) (tk_Disk_lasting : PySem.W.takesIn K (.ref p_Disk_lasting) = some true) (rc_Disk_lasting : PySem.W.recIn K p_Disk_lasting "property" = some (.ref f_Disk_lasting :: rest_Disk_lasting))
    (l_Disk_lasting : K.lookup f_Disk_lasting = some ⟨oc_Disk_lasting, od_Disk_lasting, .func (PySem.W.fnOf "lasting" "Disk.lasting" (defArgs s_Disk_lasting) (defBody s_Disk_lasting) (defScope s_Disk_lasting) .none kV_Disk_lasting dc_Disk_lasting pm_Disk_lasting an_Disk_lasting cd_Disk_lasting ct_Disk_lasting), sl_Disk_lasting⟩) (c_Disk_lasting : PySem.W.codeIn K cd_Disk_lasting "Disk.lasting" = true) (k_Disk_lasting : PySem.W.keepIn K (.ref f_Disk_lasting) = true)
    {rest_Disk_pending : List Value} (a_Disk_pending : PySem.W.findIn K (.ref C_Disk) "pending" = some (some (.ref p_Disk_pending))) (ge_Disk_pending : PySem.W.specialIn K (.ref p_Disk_pending) "__get__" = some (some (.builtin "property.__get__"))) (tk_Disk_pending : PySem.W.takesIn K (.ref p_Disk_pending) = some true) (rc_Disk_pending : PySem.W.recIn K p_Disk_pending "property" = some (.ref f_Disk_pending :: rest_Disk_pending))
    (l_Disk_pending : K.lookup f_Disk_pending = some ⟨oc_Disk_pending, od_Disk_pending, .func (PySem.W.fnOf "pending" "Disk.pending" (defArgs s_Disk_pending) (defBody s_Disk_pending) (defScope s_Disk_pending) .none kV_Disk_pending dc_Disk_pending pm_Disk_pending an_Disk_pending cd_Disk_pending ct_Disk_pending), sl_Disk_pending⟩) (c_Disk_pending : PySem.W.codeIn K cd_Disk_pending "Disk.pending" = true) (k_Disk_pending : PySem.W.keepIn K (.ref f_Disk_pending) = true)
    (a_Disk__check_cell : PySem.W.findIn K (.ref C_Disk) "_check_cell" = some (some (.ref f_Disk__check_cell))) (i_Disk__check_cell : PySem.W.isFn K (.ref f_Disk__check_cell) = true)
    (l_Disk__check_cell : K.lookup f_Disk__check_cell = some ⟨oc_Disk__check_cell, od_Disk__check_cell, .func (PySem.W.fnOf "_check_cell" "Disk._check_cell" (defArgs s_Disk__check_cell) (defBody s_Disk__check_cell) (defScope s_Disk__check_cell) .none kV_Disk__check_cell dc_Disk__check_cell pm_Disk__check_cell an_Disk__check_cell cd_Disk__check_cell ct_Disk__check_cell), sl_Disk__check_cell⟩) (c_Disk__check_cell : PySem.W.codeIn K cd_Disk__check_cell "Disk._check_cell" = true) (k_Disk__check_cell : PySem.W.keepIn K (.ref f_Disk__check_cell) = true)
    (a_are_kept : PySem.W.nsIn K mainGlobals "are_kept" = some (some (.ref f_are_kept)))
    (l_are_kept : K.lookup f_are_kept = some ⟨oc_are_kept, od_are_kept, .func (PySem.W.fnOf "are_kept" "are_kept" (defArgs s_are_kept) (defBody s_are_kept) (defScope s_are_kept) .none kV_are_kept dc_are_kept pm_are_kept an_are_kept cd_are_kept ct_are_kept), sl_are_kept⟩) (c_are_kept : PySem.W.codeIn K cd_are_kept "are_kept" = true) (k_are_kept : PySem.W.keepIn K (.ref f_are_kept) = true)
    (a__law_random : PySem.W.nsIn K mainGlobals "_law_random" = some (some (.ref f__law_random)))
    (l__law_random : K.lookup f__law_random = some ⟨oc__law_random, od__law_random, .func (PySem.W.fnOf "_law_random" "_law_random" (defArgs s__law_random) (defBody s__law_random) (defScope s__law_random) .none kV__law_random dc__law_random pm__law_random an__law_random cd__law_random ct__law_random), sl__law_random⟩) (c__law_random : PySem.W.codeIn K cd__law_random "_law_random" = true) (k__law_random : PySem.W.keepIn K (.ref f__law_random) = true)
    (a__law_below : PySem.W.nsIn K mainGlobals "_law_below" = some (some (.ref f__law_below)))
    (l__law_below : K.lookup f__law_below = some ⟨oc__law_below, od__law_below, .func (PySem.W.fnOf "_law_below" "_law_below" (defArgs s__law_below) (defBody s__law_below) (defScope s__law_below) .none kV__law_below dc__law_below pm__law_below an__law_below cd__law_below ct__law_below), sl__law_below⟩) (c__law_below : PySem.W.codeIn K cd__law_below "_law_below" = true) (k__law_below : PySem.W.keepIn K (.ref f__law_below) = true)
    (a__law_kept : PySem.W.nsIn K mainGlobals "_law_kept" = some (some (.ref f__law_kept)))
    (l__law_kept : K.lookup f__law_kept = some ⟨oc__law_kept, od__law_kept, .func (PySem.W.fnOf "_law_kept" "_law_kept" (defArgs s__law_kept) (defBody s__law_kept) (defScope s__law_kept) .none kV__law_kept dc__law_kept pm__law_kept an__law_kept cd__law_kept ct__law_kept), sl__law_kept⟩) (c__law_kept : PySem.W.codeIn K cd__law_kept "_law_kept" = true) (k__law_kept : PySem.W.keepIn K (.ref f__law_kept) = true)
    (a_law : PySem.W.nsIn K mainGlobals "law" = some (some (.ref f_law)))
    (l_law : K.lookup f_law = some ⟨oc_law, od_law, .func (PySem.W.fnOf "law" "law" (defArgs s_law) (defBody s_law) (defScope s_law) .none kV_law dc_law pm_law an_law cd_law ct_law), sl_law⟩) (c_law : PySem.W.codeIn K cd_law "law" = true) (k_law : PySem.W.keepIn K (.ref f_law) = true)
    (z_isinstance : PySem.W.nsIn K mainGlobals "isinstance" = some none)
    (z_int : PySem.W.nsIn K mainGlobals "int" = some none)
    (z_bool : PySem.W.nsIn K mainGlobals "bool" = some none)
    (z_list : PySem.W.nsIn K mainGlobals "list" = some none)
    (z_tuple : PySem.W.nsIn K mainGlobals "tuple" = some none)
    (z_len : PySem.W.nsIn K mainGlobals "len" = some none)
    (z_abs : PySem.W.nsIn K mainGlobals "abs" = some none)
    (z_range : PySem.W.nsIn K mainGlobals "range" = some none)
    (c_MOST_CELLS : PySem.W.nsIn K mainGlobals "MOST_CELLS" = some (some (.int 64 t_MOST_CELLS)))
    : ∃ fd : FuncData, (∀ (s : Shared) (v : Value), BindsTo s fd ⟨[v], []⟩ [("_law_script", v)]) ∧ ∀ base : Heap, K.In base → base.Ns mainGlobals mg → FnOk l.prog w K mg base CX0 6 fa fd ["_law_script"] (spLaw K) := by
  have e := hfa.symm.trans (PySem.W.mg_of X G a_law)
  cases e
  have T : Gx K mg := {
    C_Disk := C_Disk, cl_Disk := ⟨pg_Disk, hd_Disk, po_Disk, sa_Disk⟩, gC_Disk := PySem.W.mg_of X G aC_Disk,
    n_Disk__contents := n_Disk__contents,
    n_Disk__lasting := n_Disk__lasting,
    n_Disk__pending := n_Disk__pending,
    n_Disk__reads := n_Disk__reads,
    n_Disk__writes := n_Disk__writes,
    n_Disk__syncs := n_Disk__syncs,
    f_is_number := f_is_number, fd_is_number := _,
    F_is_number := fun_mk (st := s_is_number) l_is_number c_is_number k_is_number,
    g_is_number := PySem.W.mg_of X G a_is_number,
    f_is_number_from := f_is_number_from, fd_is_number_from := _,
    F_is_number_from := fun_mk (st := s_is_number_from) l_is_number_from c_is_number_from k_is_number_from,
    g_is_number_from := PySem.W.mg_of X G a_is_number_from,
    f_Disk___init__ := f_Disk___init__, fd_Disk___init__ := _,
    F_Disk___init__ := ⟨⟨oc_Disk___init__, od_Disk___init__, .none, .ref D_Disk___init__, dc_Disk___init__, pm_Disk___init__, an_Disk___init__, cd_Disk___init__, ct_Disk___init__, sl_Disk___init__, rfl, l_Disk___init__, c_Disk___init__, .inl ⟨rfl, rfl⟩, .inr ⟨D_Disk___init__, rfl, by intro q hq; simp only [List.mem_cons, List.not_mem_nil, or_false] at hq; subst hq; first | exact ⟨_, kd_Disk___init___content, ⟨_, rfl⟩⟩⟩⟩, k_Disk___init__⟩,
    M_Disk___init__ := ⟨mk_Disk___init__, a_Disk___init__, i_Disk___init__, kc_Disk___init__⟩,
    f_Disk_write := f_Disk_write, fd_Disk_write := _,
    F_Disk_write := fun_mk (st := s_Disk_write) l_Disk_write c_Disk_write k_Disk_write,
    m_Disk_write := ⟨a_Disk_write, i_Disk_write, k_Disk_write⟩,
    f_Disk_sync := f_Disk_sync, fd_Disk_sync := _,
    F_Disk_sync := fun_mk (st := s_Disk_sync) l_Disk_sync c_Disk_sync k_Disk_sync,
    m_Disk_sync := ⟨a_Disk_sync, i_Disk_sync, k_Disk_sync⟩,
    f_Disk_fail := f_Disk_fail, fd_Disk_fail := _,
    F_Disk_fail := fun_mk (st := s_Disk_fail) l_Disk_fail c_Disk_fail k_Disk_fail,
    m_Disk_fail := ⟨a_Disk_fail, i_Disk_fail, k_Disk_fail⟩,
    f_Disk_contents := f_Disk_contents, fd_Disk_contents := _,
    F_Disk_contents := fun_mk (st := s_Disk_contents) l_Disk_contents c_Disk_contents k_Disk_contents,
    p_Disk_contents := p_Disk_contents, P_Disk_contents := ⟨a_Disk_contents, ge_Disk_contents, tk_Disk_contents, ⟨_, rc_Disk_contents⟩⟩,
    f_Disk_lasting := f_Disk_lasting, fd_Disk_lasting := _,
    F_Disk_lasting := fun_mk (st := s_Disk_lasting) l_Disk_lasting c_Disk_lasting k_Disk_lasting,
    p_Disk_lasting := p_Disk_lasting, P_Disk_lasting := ⟨a_Disk_lasting, ge_Disk_lasting, tk_Disk_lasting, ⟨_, rc_Disk_lasting⟩⟩,
    f_Disk_pending := f_Disk_pending, fd_Disk_pending := _,
    F_Disk_pending := fun_mk (st := s_Disk_pending) l_Disk_pending c_Disk_pending k_Disk_pending,
    p_Disk_pending := p_Disk_pending, P_Disk_pending := ⟨a_Disk_pending, ge_Disk_pending, tk_Disk_pending, ⟨_, rc_Disk_pending⟩⟩,
    f_Disk__check_cell := f_Disk__check_cell, fd_Disk__check_cell := _,
    F_Disk__check_cell := fun_mk (st := s_Disk__check_cell) l_Disk__check_cell c_Disk__check_cell k_Disk__check_cell,
    m_Disk__check_cell := ⟨a_Disk__check_cell, i_Disk__check_cell, k_Disk__check_cell⟩,
    f_are_kept := f_are_kept, fd_are_kept := _,
    F_are_kept := fun_mk (st := s_are_kept) l_are_kept c_are_kept k_are_kept,
    g_are_kept := PySem.W.mg_of X G a_are_kept,
    f__law_random := f__law_random, fd__law_random := _,
    F__law_random := fun_mk (st := s__law_random) l__law_random c__law_random k__law_random,
    g__law_random := PySem.W.mg_of X G a__law_random,
    f__law_below := f__law_below, fd__law_below := _,
    F__law_below := fun_mk (st := s__law_below) l__law_below c__law_below k__law_below,
    g__law_below := PySem.W.mg_of X G a__law_below,
    f__law_kept := f__law_kept, fd__law_kept := _,
    F__law_kept := fun_mk (st := s__law_kept) l__law_kept c__law_kept k__law_kept,
    g__law_kept := PySem.W.mg_of X G a__law_kept,
    z_isinstance := PySem.W.mg_none_of X G z_isinstance,
    z_int := PySem.W.mg_none_of X G z_int,
    z_bool := PySem.W.mg_none_of X G z_bool,
    z_list := PySem.W.mg_none_of X G z_list,
    z_tuple := PySem.W.mg_none_of X G z_tuple,
    z_len := PySem.W.mg_none_of X G z_len,
    z_abs := PySem.W.mg_none_of X G z_abs,
    z_range := PySem.W.mg_none_of X G z_range,
    t_MOST_CELLS := t_MOST_CELLS, c_MOST_CELLS := PySem.W.mg_of X G c_MOST_CELLS }
  exact ⟨PySem.W.fnOf "law" "law" (defArgs s_law) (defBody s_law) (defScope s_law) .none kV_law dc_law pm_law an_law cd_law ct_law, fun s v => .of_eq rfl, fun base _ _ => ok_law (fun_mk (st := s_law) l_law c_law k_law) T⟩
end Kb
open PySem PySem.W PyProof.Rows in
set_option maxRecDepth 100000 in
set_option maxHeartbeats 0 in
theorem PySem.Challenge.cw_keepbefore_k05_whole_what_is_kept_is_wha_holds : PySem.Challenge.rw_keepbefore_k05_whole_what_is_kept_is_wha.Holds := by
  w_on; o_law; k_head; (case hw => w_witness2)
  k_fill
  refine L2.walk_of (l := PySem.Challenge.rw_keepbefore_k05_whole_what_is_kept_is_wha) (n := 63) (k := 6) (x := "_law_script") (CX := fun _ => L2.CX0) (sp := fun w => Kb.spLaw _) rfl (by decide) rfl ⟨rfl, by decide, by decide⟩ (fun w h Y => PySem.W.kIn_of Y) ?F (fun _ _ a ns hl _ hS => ⟨a, ns, rfl, hS, hl, fun _ => rfl⟩) (fun _ _ _ _ _ h => h)
  case F =>
    intro w mg fa h KX G hmg
    refine' Kb.all_mk KX G hmg ?aC_Disk ?pg_Disk ?hd_Disk ?po_Disk ?sa_Disk ?n_Disk__contents ?n_Disk__lasting ?n_Disk__pending ?n_Disk__reads ?n_Disk__writes ?n_Disk__syncs ?a_is_number ?l_is_number ?c_is_number ?k_is_number ?a_is_number_from ?l_is_number_from ?c_is_number_from ?k_is_number_from ?a_Disk___init__ ?i_Disk___init__ ?mk_Disk___init__ ?kc_Disk___init__ ?l_Disk___init__ ?c_Disk___init__ ?k_Disk___init__ ?kd_Disk___init___content ?a_Disk_write ?i_Disk_write ?l_Disk_write ?c_Disk_write ?k_Disk_write ?a_Disk_sync ?i_Disk_sync ?l_Disk_sync ?c_Disk_sync ?k_Disk_sync ?a_Disk_fail ?i_Disk_fail ?l_Disk_fail ?c_Disk_fail ?k_Disk_fail ?a_Disk_contents ?ge_Disk_contents ?tk_Disk_contents ?rc_Disk_contents ?l_Disk_contents ?c_Disk_contents ?k_Disk_contents ?a_Disk_lasting ?ge_Disk_lasting ?tk_Disk_lasting ?rc_Disk_lasting ?l_Disk_lasting ?c_Disk_lasting ?k_Disk_lasting ?a_Disk_pending ?ge_Disk_pending ?tk_Disk_pending ?rc_Disk_pending ?l_Disk_pending ?c_Disk_pending ?k_Disk_pending ?a_Disk__check_cell ?i_Disk__check_cell ?l_Disk__check_cell ?c_Disk__check_cell ?k_Disk__check_cell ?a_are_kept ?l_are_kept ?c_are_kept ?k_are_kept ?a__law_random ?l__law_random ?c__law_random ?k__law_random ?a__law_below ?l__law_below ?c__law_below ?k__law_below ?a__law_kept ?l__law_kept ?c__law_kept ?k__law_kept ?a_law ?l_law ?c_law ?k_law ?z_isinstance ?z_int ?z_bool ?z_list ?z_tuple ?z_len ?z_abs ?z_range ?c_MOST_CELLS
    (case aC_Disk => k_is)
    (case pg_Disk => k_is)
    (case hd_Disk => k_is)
    (case po_Disk => k_is)
    (case sa_Disk => k_is)
    (case n_Disk__contents => k_is)
    (case n_Disk__lasting => k_is)
    (case n_Disk__pending => k_is)
    (case n_Disk__reads => k_is)
    (case n_Disk__writes => k_is)
    (case n_Disk__syncs => k_is)
    (case a_is_number => k_is)
    (case l_is_number => k_is)
    (case c_is_number => k_is)
    (case k_is_number => k_is)
    (case a_is_number_from => k_is)
    (case l_is_number_from => k_is)
    (case c_is_number_from => k_is)
    (case k_is_number_from => k_is)
    (case a_Disk___init__ => k_is)
    (case i_Disk___init__ => k_is)
    (case mk_Disk___init__ => k_is)
    (case kc_Disk___init__ => k_is)
    (case l_Disk___init__ => k_is)
    (case c_Disk___init__ => k_is)
    (case k_Disk___init__ => k_is)
    (case kd_Disk___init___content => k_is)
    (case a_Disk_write => k_is)
    (case i_Disk_write => k_is)
    (case l_Disk_write => k_is)
    (case c_Disk_write => k_is)
    (case k_Disk_write => k_is)
    (case a_Disk_sync => k_is)
    (case i_Disk_sync => k_is)
    (case l_Disk_sync => k_is)
    (case c_Disk_sync => k_is)
    (case k_Disk_sync => k_is)
    (case a_Disk_fail => k_is)
    (case i_Disk_fail => k_is)
    (case l_Disk_fail => k_is)
    (case c_Disk_fail => k_is)
    (case k_Disk_fail => k_is)
    (case a_Disk_contents => k_is)
    (case ge_Disk_contents => k_is)
    (case tk_Disk_contents => k_is)
    (case rc_Disk_contents => k_is)
    (case l_Disk_contents => k_is)
    (case c_Disk_contents => k_is)
    (case k_Disk_contents => k_is)
    (case a_Disk_lasting => k_is)
    (case ge_Disk_lasting => k_is)
    (case tk_Disk_lasting => k_is)
    (case rc_Disk_lasting => k_is)
    (case l_Disk_lasting => k_is)
    (case c_Disk_lasting => k_is)
    (case k_Disk_lasting => k_is)
    (case a_Disk_pending => k_is)
    (case ge_Disk_pending => k_is)
    (case tk_Disk_pending => k_is)
    (case rc_Disk_pending => k_is)
    (case l_Disk_pending => k_is)
    (case c_Disk_pending => k_is)
    (case k_Disk_pending => k_is)
    (case a_Disk__check_cell => k_is)
    (case i_Disk__check_cell => k_is)
    (case l_Disk__check_cell => k_is)
    (case c_Disk__check_cell => k_is)
    (case k_Disk__check_cell => k_is)
    (case a_are_kept => k_is)
    (case l_are_kept => k_is)
    (case c_are_kept => k_is)
    (case k_are_kept => k_is)
    (case a__law_random => k_is)
    (case l__law_random => k_is)
    (case c__law_random => k_is)
    (case k__law_random => k_is)
    (case a__law_below => k_is)
    (case l__law_below => k_is)
    (case c__law_below => k_is)
    (case k__law_below => k_is)
    (case a__law_kept => k_is)
    (case l__law_kept => k_is)
    (case c__law_kept => k_is)
    (case k__law_kept => k_is)
    (case a_law => k_is)
    (case l_law => k_is)
    (case c_law => k_is)
    (case k_law => k_is)
    (case z_isinstance => k_is)
    (case z_int => k_is)
    (case z_bool => k_is)
    (case z_list => k_is)
    (case z_tuple => k_is)
    (case z_len => k_is)
    (case z_abs => k_is)
    (case z_range => k_is)
    (case c_MOST_CELLS => k_is)
