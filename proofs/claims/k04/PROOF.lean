import PyProof.Rows.All
import Wide.All
import OpenK.AllK
import Wide.FinOn
import HandS.ForMost
import HandS.Defaults
import HandS.Property
import HandS.IsInst
import HandS.Conv
import HandS.Codes
import HandS.MakeKwOnly
import HandS.TupSets
import PySem.Challenge.RW_keepbefore_k04_whole_disks_synced_at_any
set_option Elab.async false
set_option linter.all false
set_option maxRecDepth 100000
set_option maxHeartbeats 4000000
namespace Kb
open PySem L2
def top (i : Nat) : Stmt := PySem.Challenge.pw_keepbefore_k04_whole_disks_synced_at_any.main.body.getD i (.Pass ⟨0, 0, 0, 0⟩)
abbrev s_is_number : Stmt := top 7
theorem sc_is_number : FnScope ["thing"] ["thing"] (defScope s_is_number) := ⟨rfl, rfl, rfl, by decide +kernel, rfl, by decide +kernel, by decide +kernel⟩
abbrev s_is_number_from : Stmt := top 8
theorem sc_is_number_from : FnScope ["thing", "least", "most"] ["thing", "least", "most"] (defScope s_is_number_from) := ⟨rfl, rfl, rfl, by decide +kernel, rfl, by decide +kernel, by decide +kernel⟩
abbrev s_Disk___init__ : Stmt := inClass (top 11) 0
theorem sc_Disk___init__ : FnScope ["self", "cells", "content"] ["self", "cells", "content"] (defScope s_Disk___init__) := ⟨rfl, rfl, rfl, by decide +kernel, rfl, by decide +kernel, by decide +kernel⟩
abbrev s_Disk_write : Stmt := inClass (top 11) 3
theorem sc_Disk_write : FnScope ["self", "cell", "content"] ["self", "cell", "content"] (defScope s_Disk_write) := ⟨rfl, rfl, rfl, by decide +kernel, rfl, by decide +kernel, by decide +kernel⟩
abbrev s_Disk_sync : Stmt := inClass (top 11) 4
theorem sc_Disk_sync : FnScope ["self"] ["self"] (defScope s_Disk_sync) := ⟨rfl, rfl, rfl, by decide +kernel, rfl, by decide +kernel, by decide +kernel⟩
abbrev s_Disk_fail : Stmt := inClass (top 11) 5
theorem sc_Disk_fail : FnScope ["self", "kept", "number", "cell", "content"] ["self", "kept"] (defScope s_Disk_fail) := ⟨rfl, rfl, rfl, by decide +kernel, rfl, by decide +kernel, by decide +kernel⟩
abbrev s_Disk_contents : Stmt := inClass (top 11) 6
theorem sc_Disk_contents : FnScope ["self"] ["self"] (defScope s_Disk_contents) := ⟨rfl, rfl, rfl, by decide +kernel, rfl, by decide +kernel, by decide +kernel⟩
abbrev s_Disk_lasting : Stmt := inClass (top 11) 7
theorem sc_Disk_lasting : FnScope ["self"] ["self"] (defScope s_Disk_lasting) := ⟨rfl, rfl, rfl, by decide +kernel, rfl, by decide +kernel, by decide +kernel⟩
abbrev s_Disk_pending : Stmt := inClass (top 11) 8
theorem sc_Disk_pending : FnScope ["self"] ["self"] (defScope s_Disk_pending) := ⟨rfl, rfl, rfl, by decide +kernel, rfl, by decide +kernel, by decide +kernel⟩
abbrev s_Disk__check_cell : Stmt := inClass (top 11) 10
theorem sc_Disk__check_cell : FnScope ["self", "cell"] ["self", "cell"] (defScope s_Disk__check_cell) := ⟨rfl, rfl, rfl, by decide +kernel, rfl, by decide +kernel, by decide +kernel⟩
abbrev s_are_kept : Stmt := top 12
theorem sc_are_kept : FnScope ["kept", "many", "least", "number"] ["kept", "many"] (defScope s_are_kept) := ⟨rfl, rfl, rfl, by decide +kernel, rfl, by decide +kernel, by decide +kernel⟩
abbrev s__law_random : Stmt := top 14
theorem sc__law_random : FnScope ["_law_script", "_law_salt", "_law_seed", "_law_cell"] ["_law_script", "_law_salt"] (defScope s__law_random) := ⟨rfl, rfl, rfl, by decide +kernel, rfl, by decide +kernel, by decide +kernel⟩
abbrev s__law_below : Stmt := top 15
theorem sc__law_below : FnScope ["_law_d", "_law_limit", "_law_result"] ["_law_d", "_law_limit"] (defScope s__law_below) := ⟨rfl, rfl, rfl, by decide +kernel, rfl, by decide +kernel, by decide +kernel⟩
abbrev s_law : Stmt := top 16
theorem sc_law : FnScope ["_law_script", "_law_d", "_law_step", "_law_cells", "_law_disks", "_law_turn", "_law_cell", "_law_what", "_law_disk", "_law_many", "_law_lasting", "_law_k"] ["_law_script"] (defScope s_law) := ⟨rfl, rfl, rfl, by decide +kernel, rfl, by decide +kernel, by decide +kernel⟩
structure Gx (K : PySem.W.Frag) (mg : Str → Option Value) where
  C_Disk : Addr
  cl_Disk : Cls K C_Disk
  gC_Disk : mg "Disk" = some (.ref C_Disk)
  n_Disk__contents : NoAttr K C_Disk "_contents"
  n_Disk__lasting : NoAttr K C_Disk "_lasting"
  n_Disk__pending : NoAttr K C_Disk "_pending"
  n_Disk__reads : NoAttr K C_Disk "_reads"
  n_Disk__writes : NoAttr K C_Disk "_writes"
  n_Disk__syncs : NoAttr K C_Disk "_syncs"
  f_is_number : Addr
  fd_is_number : FuncData
  F_is_number : Fun K "is_number" "is_number" s_is_number f_is_number fd_is_number
  g_is_number : mg "is_number" = some (.ref f_is_number)
  f_is_number_from : Addr
  fd_is_number_from : FuncData
  F_is_number_from : Fun K "is_number_from" "is_number_from" s_is_number_from f_is_number_from fd_is_number_from
  g_is_number_from : mg "is_number_from" = some (.ref f_is_number_from)
  f_Disk___init__ : Addr
  fd_Disk___init__ : FuncData
  F_Disk___init__ : FunD K "__init__" "Disk.__init__" (defArgs s_Disk___init__) (defBody s_Disk___init__) (defScope s_Disk___init__) [] [("content", .int 0)] f_Disk___init__ fd_Disk___init__
  M_Disk___init__ : Mk K C_Disk f_Disk___init__
  f_Disk_write : Addr
  fd_Disk_write : FuncData
  F_Disk_write : Fun K "write" "Disk.write" s_Disk_write f_Disk_write fd_Disk_write
  m_Disk_write : Meth K C_Disk "write" f_Disk_write
  f_Disk_sync : Addr
  fd_Disk_sync : FuncData
  F_Disk_sync : Fun K "sync" "Disk.sync" s_Disk_sync f_Disk_sync fd_Disk_sync
  m_Disk_sync : Meth K C_Disk "sync" f_Disk_sync
  f_Disk_fail : Addr
  fd_Disk_fail : FuncData
  F_Disk_fail : Fun K "fail" "Disk.fail" s_Disk_fail f_Disk_fail fd_Disk_fail
  m_Disk_fail : Meth K C_Disk "fail" f_Disk_fail
  f_Disk_contents : Addr
  fd_Disk_contents : FuncData
  F_Disk_contents : Fun K "contents" "Disk.contents" s_Disk_contents f_Disk_contents fd_Disk_contents
  p_Disk_contents : Addr
  P_Disk_contents : PropOf K C_Disk "contents" p_Disk_contents f_Disk_contents
  f_Disk_lasting : Addr
  fd_Disk_lasting : FuncData
  F_Disk_lasting : Fun K "lasting" "Disk.lasting" s_Disk_lasting f_Disk_lasting fd_Disk_lasting
  p_Disk_lasting : Addr
  P_Disk_lasting : PropOf K C_Disk "lasting" p_Disk_lasting f_Disk_lasting
  f_Disk_pending : Addr
  fd_Disk_pending : FuncData
  F_Disk_pending : Fun K "pending" "Disk.pending" s_Disk_pending f_Disk_pending fd_Disk_pending
  p_Disk_pending : Addr
  P_Disk_pending : PropOf K C_Disk "pending" p_Disk_pending f_Disk_pending
  f_Disk__check_cell : Addr
  fd_Disk__check_cell : FuncData
  F_Disk__check_cell : Fun K "_check_cell" "Disk._check_cell" s_Disk__check_cell f_Disk__check_cell fd_Disk__check_cell
  m_Disk__check_cell : Meth K C_Disk "_check_cell" f_Disk__check_cell
  f_are_kept : Addr
  fd_are_kept : FuncData
  F_are_kept : Fun K "are_kept" "are_kept" s_are_kept f_are_kept fd_are_kept
  g_are_kept : mg "are_kept" = some (.ref f_are_kept)
  f__law_random : Addr
  fd__law_random : FuncData
  F__law_random : Fun K "_law_random" "_law_random" s__law_random f__law_random fd__law_random
  g__law_random : mg "_law_random" = some (.ref f__law_random)
  f__law_below : Addr
  fd__law_below : FuncData
  F__law_below : Fun K "_law_below" "_law_below" s__law_below f__law_below fd__law_below
  g__law_below : mg "_law_below" = some (.ref f__law_below)
  z_isinstance : mg "isinstance" = none
  z_int : mg "int" = none
  z_bool : mg "bool" = none
  z_list : mg "list" = none
  z_tuple : mg "tuple" = none
  z_len : mg "len" = none
  z_abs : mg "abs" = none
  z_range : mg "range" = none
  z_set : mg "set" = none
  t_MOST_CELLS : Tok
  c_MOST_CELLS : mg "MOST_CELLS" = some (.int 64 t_MOST_CELLS)
section
variable {K : PySem.W.Frag} {mg : Str → Option Value}
theorem b_is_number (T : Gx K mg) : Binds K T.fd_is_number ["thing"] [] := T.F_is_number.binds (ps := ["thing"]) fun _ _ _ _ _ _ us hl => match us, hl with | [_], _ => rfl
theorem b_is_number_from (T : Gx K mg) : Binds K T.fd_is_number_from ["thing", "least", "most"] [] := T.F_is_number_from.binds (ps := ["thing", "least", "most"]) fun _ _ _ _ _ _ us hl => match us, hl with | [_, _, _], _ => rfl
theorem b_Disk_write (T : Gx K mg) : Binds K T.fd_Disk_write ["self", "cell", "content"] [] := T.F_Disk_write.binds (ps := ["self", "cell", "content"]) fun _ _ _ _ _ _ us hl => match us, hl with | [_, _, _], _ => rfl
theorem b_Disk_sync (T : Gx K mg) : Binds K T.fd_Disk_sync ["self"] [] := T.F_Disk_sync.binds (ps := ["self"]) fun _ _ _ _ _ _ us hl => match us, hl with | [_], _ => rfl
theorem b_Disk_fail (T : Gx K mg) : Binds K T.fd_Disk_fail ["self", "kept"] [] := T.F_Disk_fail.binds (ps := ["self", "kept"]) fun _ _ _ _ _ _ us hl => match us, hl with | [_, _], _ => rfl
theorem b_Disk_contents (T : Gx K mg) : Binds K T.fd_Disk_contents ["self"] [] := T.F_Disk_contents.binds (ps := ["self"]) fun _ _ _ _ _ _ us hl => match us, hl with | [_], _ => rfl
theorem b_Disk_lasting (T : Gx K mg) : Binds K T.fd_Disk_lasting ["self"] [] := T.F_Disk_lasting.binds (ps := ["self"]) fun _ _ _ _ _ _ us hl => match us, hl with | [_], _ => rfl
theorem b_Disk_pending (T : Gx K mg) : Binds K T.fd_Disk_pending ["self"] [] := T.F_Disk_pending.binds (ps := ["self"]) fun _ _ _ _ _ _ us hl => match us, hl with | [_], _ => rfl
theorem b_Disk__check_cell (T : Gx K mg) : Binds K T.fd_Disk__check_cell ["self", "cell"] [] := T.F_Disk__check_cell.binds (ps := ["self", "cell"]) fun _ _ _ _ _ _ us hl => match us, hl with | [_, _], _ => rfl
theorem b_are_kept (T : Gx K mg) : Binds K T.fd_are_kept ["kept", "many"] [] := T.F_are_kept.binds (ps := ["kept", "many"]) fun _ _ _ _ _ _ us hl => match us, hl with | [_, _], _ => rfl
theorem b__law_random (T : Gx K mg) : Binds K T.fd__law_random ["_law_script", "_law_salt"] [] := T.F__law_random.binds (ps := ["_law_script", "_law_salt"]) fun _ _ _ _ _ _ us hl => match us, hl with | [_, _], _ => rfl
theorem b__law_below (T : Gx K mg) : Binds K T.fd__law_below ["_law_d", "_law_limit"] [] := T.F__law_below.binds (ps := ["_law_d", "_law_limit"]) fun _ _ _ _ _ _ us hl => match us, hl with | [_, _], _ => rfl
end
/-! ### heaps and frames -/
/-- outside S all that was tracked is as it was -/
def Fr (S : List Addr) (H H' : Hp) : Prop := ∀ b o, H b = some o → b ∉ S → H' b = some o
theorem Fr.refl (S : List Addr) (H : Hp) : Fr S H H := fun _ _ h _ => h
theorem Fr.trans {S : List Addr} {H H1 H2 : Hp} (a : Fr S H H1) (b : Fr S H1 H2) : Fr S H H2 := fun c o h n => b c o (a c o h n) n
theorem Fr.mono {S T : List Addr} {H H' : Hp} (a : Fr S H H') (h : ∀ b ∈ S, b ∈ T) : Fr T H H' := fun b o e n => a b o e (fun z => n (h b z))
theorem Fr.put {S : List Addr} {H : Hp} {a : Addr} {o : HO} (h : a ∈ S) : Fr S H (upd H a o) := fun b u e n => by
  rw [upd_ne (fun z => n (by rw [z]; exact h))]
  exact e
theorem Fr.new {S : List Addr} {H : Hp} {p : Addr} {o : HO} (h : H p = none) : Fr S H (upd H p o) := fun b u e _ => by
  rw [upd_ne (ne_of_none e h)]
  exact e
theorem Fr.nil_of {S : List Addr} {H H' : Hp} (a : Fr [] H H') : Fr S H H' := a.mono (fun _ h => by cases h)
theorem Fr.at_ {S : List Addr} {H H' : Hp} {b : Addr} {o : HO} (f : Fr S H H') (e : H b = some o) (n : b ∉ S) : H' b = some o := f b o e n
theorem fresh_out {H : Hp} {b : Addr} {o : HO} {p : Addr} (e : H b = some o) (n : H p = none) : b ≠ p := ne_of_none e n
/-- S and T share nothing -/
def Sep (S T : List Addr) : Prop := ∀ b ∈ S, b ∉ T
theorem Sep.symm {S T : List Addr} (h : Sep S T) : Sep T S := fun b hb hs => h b hs hb
/-- what owns S' came of S or is new, and so is apart from what stood in H -/
theorem Sep.grow {H : Hp} {S S' T : List Addr} (h : Sep S T) (g : ∀ b ∈ S', b ∈ S ∨ H b = none) (t : ∀ b ∈ T, ∃ o, H b = some o) : Sep S' T := fun b hb ht => by
  rcases g b hb with z | z
  · exact h b z ht
  · obtain ⟨o, e⟩ := t b ht
    rw [z] at e
    cases e
theorem vlen {α β : Type} {xs : List α} {f : α → β} : (xs.map f).length = xs.length := List.length_map f
theorem sz_le {n : Nat} (h : n ≤ 100000) : n ≤ sizeLine := Nat.le_trans h (by decide)
theorem sz_lt {n : Nat} (h : n < 100000) : n < sizeLine := Nat.lt_of_lt_of_le h (by decide)
theorem ix_at {n : Nat} (j : Nat) (h : j < n) : ixN n (j : Int) = some j := by
  unfold ixN
  rw [if_pos (Int.natCast_nonneg j), if_pos (by omega)]
  rfl
theorem free_upd {H : Hp} {a p : Addr} {o : HO} (h : upd H a o p = none) : H p = none ∧ p ≠ a := by
  by_cases e : p = a
  · rw [e, upd_same] at h
    cases h
  · rw [upd_ne e] at h
    exact ⟨h, e⟩
theorem int_at {ns : List Int} {i : Nat} {x : V} (h : (ns.map V.int)[i]? = some x) : ∃ u, x = V.int u ∧ ns[i]? = some u := by
  rw [List.getElem?_map] at h
  cases e : ns[i]? with
  | none =>
    rw [e] at h
    cases h
  | some u =>
    rw [e] at h
    exact ⟨u, (Option.some.inj h).symm, rfl⟩
theorem lt_of_at {α : Type} {xs : List α} {i : Nat} {x : α} (h : xs[i]? = some x) : i < xs.length := (List.getElem?_eq_some_iff.mp h).1
theorem Fr.seq {K : PySem.W.Frag} {S : List Addr} {H H' : Hp} {a : Addr} {xs : List V} (f : Fr S H H') (n : a ∉ S) (h : SqL K H a xs) : SqL K H' a xs := by
  rcases h with (h | ⟨o, h⟩) | h
  · exact .inl (.inl (f _ _ h n))
  · exact .inl (.inr ⟨o, f _ _ h n⟩)
  · exact .inr h
theorem Fr.tup {K : PySem.W.Frag} {S : List Addr} {H H' : Hp} {a : Addr} {xs : List V} (f : Fr S H H') (n : a ∉ S) (h : SqT K H a xs) : SqT K H' a xs := by
  rcases h with (h | ⟨o, h⟩) | h
  · exact .inl (.inl (f _ _ h n))
  · exact .inl (.inr ⟨o, f _ _ h n⟩)
  · exact .inr h
/-! ### the law's random list -/
def Rnd (H : Hp) (r : Addr) : Prop := ∃ (a b : Int) (ns : List Int), H r = some (.lst (V.int a :: V.int b :: ns.map V.int))
def spBelow : Sp := fun vs H Q _ => ∃ (r : Addr) (lim : Nat), vs = [.ref r, .int (lim : Int)] ∧ Rnd H r ∧ 0 < lim ∧ lim < 1000000 ∧ ∀ (z : Nat) (H' : Hp), z < lim → Fr [r] H H' → Rnd H' r → Q (.int (z : Int)) H'
theorem Rnd.put {H : Hp} {r : Addr} (a b : Int) (ns : List Int) : Rnd (upd H r (.lst (V.int a :: V.int b :: ns.map V.int))) r := ⟨a, b, ns, upd_same⟩
theorem Rnd.notup {H : Hp} {r : Addr} (h : Rnd H r) : ∀ b ∈ [r], ∀ xs, H b ≠ some (.tup xs) := by
  obtain ⟨a, b, ns, e⟩ := h
  intro b hb xs
  rw [List.mem_singleton.mp hb, e]
  simp
theorem Rnd.keep {H H' : Hp} {r : Addr} {S : List Addr} (h : Rnd H r) (f : Fr S H H') (n : r ∉ S) : Rnd H' r := by
  obtain ⟨a, b, ns, e⟩ := h
  exact ⟨a, b, ns, f _ _ e n⟩
section
variable {P : Program} {w : World} {K : PySem.W.Frag} {mg : Str → Option Value} {base : Heap}
theorem ok_below (T : Gx K mg) : FnOk P w K mg base CX0 1 T.f__law_below T.fd__law_below ["_law_d", "_law_limit"] spBelow := by
  refine T.F__law_below.ok sc__law_below (fun vs H Q E h => ?_) (fun cdv A outer s H vs Q E hr h => ?_)
  · obtain ⟨r, lim, rfl, _⟩ := h
    rfl
  · obtain ⟨r, lin, rfl, hR, h0', h1', k'⟩ := h
    obtain ⟨lim, hlim⟩ : ∃ lim : Int, lim = (lin : Int) := ⟨_, rfl⟩
    have h0 : 0 < lim := by omega
    have h1 : lim < 1000000 := by omega
    have k : ∀ (z : Int) (H' : Hp), 0 ≤ z → z < lim → Fr [r] H H' → Rnd H' r → Q (.int z) H' := fun z H' a b f g => by
      obtain ⟨n, rfl⟩ := Int.eq_ofNat_of_zero_le a
      exact k' n H' (by omega) f g
    rw [← hlim]
    refine ⟨_, C8.pss_cut (ps_if (PW.pt (pw_and (pt_cmpR op_eq (pe_ix ix_list (pv 0) pe_int (fun _ _ => rfl)) pe_int (nomark _))
          (pw_and1 (pt_cmpR op_gt (pe_callB call_len_seq (by rfl) T.z_len PySem.boot_len (pa_cons (pv 0) pa_nil)) pe_int (nomark _)))))
        (pss_one (ps_asg (pe_bm PySem.F.plainAttrs_list PySem.F.slot_list_pop PySem.F.type_list_pop mt_popAt (pv 0) (pa_cons pe_int pa_nil)) (pg_sub (pv 0) pe_int set_list))) pss_nil)
      (pss_cons (ps_if (pt_cmpR op_gt (pe_ix ix_list (pv 0) pe_int (fun _ _ => rfl)) pe_int (nomark _))
        (pss_cons (ps_set (i := 2) sc__law_below.nd rfl (.inl rfl) (pe_op op_mod (pe_callTy call_int1 (by rfl) T.z_int (by decide +kernel) (pa_cons (pe_ix ix_list (pv 0) pe_int (fun _ _ => rfl)) pa_nil)) (pv 1)))
        (pss_cons (ps_asg (pe_op op_fdiv (pe_ix ix_list (pv 0) pe_int (fun _ _ => rfl)) (pv 1)) (pg_sub (pv 0) pe_int set_list))
        (pss_one (ps_ret (pv 2))))) pss_nil)
      (pss_cons (ps_asg (pe_op op_mod (pe_callTy call_int1 (by rfl) T.z_int (by decide +kernel) (pa_cons (pe_op op_add (pe_op op_mul (pe_ix ix_list (pv 0) pe_int (fun _ _ => rfl)) pe_int) pe_int) pa_nil)) pe_int) (pg_sub (pv 0) pe_int set_list))
      (pss_one (ps_ret (pe_op op_mod (pe_callTy call_int1 (by rfl) T.z_int (by decide +kernel) (pa_cons (pe_op op_fdiv (pe_ix ix_list (pv 0) pe_int (fun _ _ => rfl)) pe_int) pa_nil)) (pv 1)))))), ?_⟩
    refine ⟨fun σ H1 => σ = [some (.ref r), some (.int lim), none] ∧ Rnd H1 r ∧ Fr [r] H H1, ?_, ?_⟩
    · obtain ⟨a, b, ns, e⟩ := hR
      have hR0 : Rnd H r := ⟨a, b, ns, e⟩
      refine ⟨_, rfl, r, _, 1, .int b, rfl, rfl, SqL.of e, atI_nat (j := 1) rfl, rfl, _, rfl, ite2 (fun hb => ?_) (fun hb => ?_)⟩
      · refine ⟨_, rfl, r, _, rfl, .inl (SqL.of e), _, _, rfl, rfl, _, rfl, ite2 (fun hl => ?_) (fun hl => ?_)⟩
        · have hl' : (2 : Int) < ((V.int a :: V.int b :: ns.map V.int).length : Int) := of_decide_eq_true hl
          cases ns with
          | nil => exact absurd hl' (by simp)
          | cons c rest =>
            refine ⟨_, rfl, .inl ⟨rfl, _, SqL.of e⟩, r, _, 2, 2, .int c, rfl, rfl, e, by decide, by decide, ?_, rfl, ?_⟩
            · show seqIndex? 2 _ = some 2
              unfold seqIndex?
              rw [List.length_cons, List.length_cons, List.map_cons, List.length_cons]
              simp
              omega
            · refine ⟨_, rfl, r, _, 1, 1, rfl, rfl, upd_same, ?_, rfl, ?_, ?_⟩
              · exact ix_at 1 (by simp [List.length_eraseIdx])
              · rw [upd_upd]
                exact Rnd.put a c rest
              · rw [upd_upd]
                exact Fr.put (List.mem_singleton.mpr rfl)
        · exact ⟨rfl, hR0, Fr.refl _ _⟩
      · exact ⟨rfl, hR0, Fr.refl _ _⟩
    · rintro σ' H1 ⟨rfl, ⟨a, b, ns, e⟩, fr⟩
      refine ⟨_, rfl, r, _, 1, .int b, rfl, rfl, SqL.of e, atI_nat (j := 1) rfl, _, _, rfl, rfl, _, rfl, ite2 (fun hb => ?_) (fun hb => ?_)⟩
      · refine ⟨_, rfl, r, _, 1, .int b, rfl, rfl, SqL.of e, atI_nat (j := 1) rfl, .inl ⟨_, rfl, ?_⟩⟩
        refine ⟨_, rfl, _, _, rfl, rfl, h0, ?_⟩
        refine ⟨_, rfl, r, _, 1, .int b, rfl, rfl, SqL.of e, atI_nat (j := 1) rfl, _, rfl, _, _, rfl, rfl, ⟨h0, by omega⟩, ?_⟩
        refine ⟨_, rfl, r, _, 1, 1, rfl, rfl, e, ix_at 1 (by simp), ?_⟩
        refine ⟨_, rfl, k _ _ (Int.emod_nonneg _ (by omega)) (Int.emod_lt_of_pos _ h0) (fr.trans (Fr.put (List.mem_singleton.mpr rfl))) (Rnd.put a _ ns)⟩
      · refine ⟨_, rfl, r, _, 0, .int a, rfl, rfl, SqL.of e, atI_nat (j := 0) rfl, _, _, rfl, rfl, .inr (by decide), _, _, rfl, rfl, .inl ⟨_, rfl, _, _, rfl, rfl, (by show (0 : Int) < 2147483647; decide), ?_⟩⟩
        refine ⟨_, rfl, r, _, 0, 0, rfl, rfl, e, ix_at 0 (by simp), ?_⟩
        refine ⟨_, rfl, r, _, 0, _, rfl, rfl, SqL.of upd_same, atI_nat (j := 0) rfl, _, _, rfl, rfl, ⟨by decide, by decide⟩, .inl ⟨_, rfl, _, rfl, _, _, rfl, rfl, h0, ?_⟩⟩
        exact k _ _ (Int.emod_nonneg _ (by omega)) (Int.emod_lt_of_pos _ h0) (fr.trans (Fr.put (List.mem_singleton.mpr rfl))) (Rnd.put _ b ns)
end
def spRandom (K : PySem.W.Frag) : Sp := fun vs H Q _ => ∃ (a : Addr) (salt : Int) (ns : List Int), vs = [.ref a, .int salt] ∧ SqL K H a (ns.map V.int) ∧ ns.length ≤ 63 ∧ ∀ (r : Addr) (H' : Hp), H r = none → Fr [] H H' → Rnd H' r → Q (.ref r) H'
section
variable {P : Program} {w : World} {K : PySem.W.Frag} {mg : Str → Option Value} {base : Heap}
theorem ok_random (T : Gx K mg) : FnOk P w K mg base CX0 1 T.f__law_random T.fd__law_random ["_law_script", "_law_salt"] (spRandom K) := by
  refine T.F__law_random.ok sc__law_random (fun vs H Q E h => ?_) (fun cdv A outer s H vs Q E hr h => ?_)
  · obtain ⟨a, salt, ns, rfl, _⟩ := h
    rfl
  · obtain ⟨a, salt, ns, rfl, hS, hlen, k⟩ := h
    refine ⟨_, pss_cons (ps_set (i := 2) sc__law_random.nd rfl (.inl rfl) (pv 1))
      (pss_cons (ps_for PassesOwn.never rfl (pi_list (pv 0)) (pg_name (i := 3) sc__law_random.nd rfl (.inl rfl))
        (pss_one (ps_set (i := 2) sc__law_random.nd rfl (.inl rfl) (pe_op op_mod (pe_callTy call_int1 (by rfl) T.z_int (by decide +kernel) (pa_cons (pe_op op_add (pe_op op_mul (pv 2) pe_int) (pe_callB call_abs (by rfl) T.z_abs (by decide +kernel) (pa_cons (pv 3) pa_nil))) pa_nil)) pe_int))))
      (pss_one (ps_ret (pe_op op_cat (pe_lst (pa_cons (pv 2) (pa_cons pe_int pa_nil))) (pe_lc (own := [("_law_cell", 3)]) (g := gName 3) rfl sc__law_random.nd (pi_list (pv 0)) (blkOk_by (N := ["_law_script", "_law_salt", "_law_seed", "_law_cell"]) (sc := defScope s__law_random) (by decide +kernel)) (fun _ _ _ _ _ => pg_name (i := 3) sc__law_random.nd rfl (.inl rfl)) (fun _ _ _ _ _ => pts_one (pt_cmpR op_ge (pv 3) (pe_op op_pow pe_int pe_int) (nomark _))) (fun _ _ _ _ _ => pv 3)))))), ?_⟩
    refine ⟨_, rfl, _, rfl, a, rfl, ⟨_, hS⟩, for_list (K := K) (a := a) (xs := ns.map V.int) (fun i σ H' => H' = H ∧ ∃ (z : Int) (v : Option V), σ = [some (.ref a), some (.int salt), some (.int z), v]) ⟨rfl, salt, none, rfl⟩ (fun i σ H' _ e => by rw [e.1]; exact hS) ?_ ?_⟩
    · rintro i x σ H' hi ⟨rfl, z, v, rfl⟩
      obtain ⟨u, rfl, _⟩ := int_at hi
      exact ⟨_, rfl, _, _, rfl, rfl, .inr (by decide), _, rfl, _, rfl, _, _, rfl, rfl, .inl ⟨_, rfl, _, _, rfl, rfl, (by show (0 : Int) < 2147483647; decide), rfl, _, _, rfl⟩⟩
    · rintro σ H' ⟨rfl, z, v, rfl⟩
      refine ⟨_, rfl, sz_le (by simp), fun l hl => ?_⟩
      have sl : Fr [] H' (upd H' l (.lst [V.int z, V.int 0])) := Fr.new hl
      have hS1 : SqL K (upd H' l (.lst [V.int z, V.int 0])) a (ns.map V.int) := sl.seq (by simp) hS
      refine ⟨_, rfl, a, rfl, ⟨_, hS1⟩, fun D hD => ?_⟩
      have hDl := free_upd hD
      refine lc_list (K := K) (a := a) (xs := ns.map V.int) (fun i H2 => ∃ ms : List Int, ms.length ≤ i ∧ H2 = upd (upd H' l (.lst [V.int z, V.int 0])) D (.lst (ms.map V.int))) ⟨[], Nat.le_refl _, rfl⟩ ?_ ?_ ?_
      · rintro i H2 _ ⟨ms, _, rfl⟩
        exact (Fr.new (S := []) hD).seq (by simp) hS1
      · rintro i x H2 hi ⟨ms, hm, rfl⟩
        obtain ⟨u, rfl, _⟩ := int_at hi
        have li := lt_of_at hi
        rw [List.length_map] at li
        refine ⟨rfl, _, rfl, _, _, rfl, rfl, ⟨by decide, by decide, by decide⟩, _, _, rfl, rfl, _, rfl, ite2 (fun _ => ?_) (fun _ => ?_)⟩
        · refine ⟨_, rfl, _, upd_same, ?_, ms ++ [u], ?_, ?_⟩
          · rw [List.length_map]
            exact sz_lt (by omega)
          · rw [List.length_append, List.length_singleton]
            omega
          · rw [upd_upd, List.map_append]
            rfl
        · exact ⟨ms, by omega, rfl⟩
      · rintro H2 ⟨ms, hm, rfl⟩
        rw [List.length_map] at hm
        refine ⟨l, D, [V.int z, V.int 0], _, rfl, rfl, ?_, upd_same, ?_, fun p hp => ?_⟩
        · rw [upd_ne hDl.2.symm]
          exact upd_same
        · rw [List.length_map]
          exact sz_le (by simp; omega)
        · obtain ⟨hp1, _⟩ := free_upd hp
          obtain ⟨hp2, _⟩ := free_upd hp1
          exact k p _ hp2 ((sl.trans (Fr.new hD)).trans (Fr.new hp)) ⟨z, 0, ms, upd_same⟩
end
/-! ### what counts as a number -/
def spNum (K : PySem.W.Frag) : Sp := fun vs H Q _ => ∃ (v : V) (t : Value) (b1 b2 : Bool), vs = [v] ∧ TyX K H v t ∧ PySem.W.kitOne K t (.type "int") = some b1 ∧ PySem.W.kitOne K t (.type "bool") = some b2 ∧ Q (.bl (b1 && !b2)) H
def spNumFrom (K : PySem.W.Frag) : Sp := fun vs H Q _ => ∃ (v : V) (lo hi : Int), vs = [v, .int lo, .int hi] ∧
  ((∃ i : Int, v = .int i ∧ Q (.bl (decide (lo ≤ i) && decide (i ≤ hi))) H) ∨ ∃ (t : Value) (b1 b2 : Bool), TyX K H v t ∧ PySem.W.kitOne K t (.type "int") = some b1 ∧ PySem.W.kitOne K t (.type "bool") = some b2 ∧ (b1 && !b2) = false ∧ Q (.bl false) H)
section
variable {P : Program} {w : World} {K : PySem.W.Frag} {mg : Str → Option Value} {base : Heap}
theorem ok_num (T : Gx K mg) : FnOk P w K mg base CX0 1 T.f_is_number T.fd_is_number ["thing"] (spNum K) := by
  refine T.F_is_number.ok sc_is_number (fun vs H Q E h => ?_) (fun cdv A outer s H vs Q E hr h => ?_)
  · obtain ⟨v, t, b1, b2, rfl, _⟩ := h
    rfl
  · obtain ⟨v, t, b1, b2, rfl, ty, e1, e2, k⟩ := h
    refine ⟨_, pss_one (ps_ret (pe_and (pe_callB call_isi (by rfl) T.z_isinstance (by decide +kernel) (pa_cons (pv 0) (pa_cons (pe_bltn (v := .ty "int") (by rfl) T.z_int (by decide +kernel) rfl) pa_nil)))
      (pe_one (pe_not (pe_callB call_isi (by rfl) T.z_isinstance (by decide +kernel) (pa_cons (pv 0) (pa_cons (pe_bltn (v := .ty "bool") (by rfl) T.z_bool (by decide +kernel) rfl) pa_nil))))))), ?_⟩
    refine ⟨v, rfl, v, .ty "int", t, _, b1, rfl, ClsV.ty "int", ty, e1, b1, rfl, ?_⟩
    cases b1 with
    | false => exact iteF k
    | true => exact iteT ⟨v, rfl, v, .ty "bool", t, _, b2, rfl, ClsV.ty "bool", ty, e2, b2, rfl, k⟩
theorem ok_numFrom (T : Gx K mg) : FnOk P w K mg base CX0 2 T.f_is_number_from T.fd_is_number_from ["thing", "least", "most"] (spNumFrom K) := by
  have G1 : FnOk P w K mg base CX0 1 T.f_is_number T.fd_is_number ["thing"] (spNum K) := ok_num T
  refine T.F_is_number_from.ok sc_is_number_from (fun vs H Q E h => ?_) (fun cdv A outer s H vs Q E hr h => ?_)
  · obtain ⟨v, lo, hi, rfl, _⟩ := h
    rfl
  · obtain ⟨v, lo, hi, rfl, h⟩ := h
    refine ⟨_, pss_one (ps_ret (pe_and (pe_call G1 hr (by rfl) T.g_is_number T.F_is_number.kp (b_is_number T) .nil pass0 (pa_cons (pv 0) pa_nil)) (pe_one (pe_chain op_le op_le (pv 1) (pv 0) (pv 2))))), ?_⟩
    rcases h with ⟨i, rfl, k⟩ | ⟨t, b1, b2, ty, e1, e2, e3, k⟩
    · refine ⟨_, rfl, .int i, .type "int", true, false, rfl, .base (.int i), kit_ty (by decide +kernel), kit_ty (by decide +kernel), true, rfl, iteT ?_⟩
      refine ⟨_, rfl, _, rfl, _, _, rfl, rfl, _, rfl, ?_⟩
      by_cases hl : lo ≤ i
      · rw [decide_eq_true hl] at k ⊢
        exact iteT ⟨_, rfl, _, _, rfl, rfl, k⟩
      · rw [decide_eq_false hl] at k ⊢
        exact iteF k
    · refine ⟨_, rfl, v, t, b1, b2, rfl, ty, e1, e2, _, rfl, ?_⟩
      rw [e3]
      exact iteF k
end
/-! ### a disk's attributes -/
def dF (a b c d e f : V) : List (Str × V) := [("_contents", a), ("_lasting", b), ("_pending", c), ("_reads", d), ("_writes", e), ("_syncs", f)]
theorem nf01 : ¬ (("_contents" : Str) = "_lasting") := by decide +kernel
theorem bf01 : (("_contents" : Str) == "_lasting") = false := by decide +kernel
theorem nf02 : ¬ (("_contents" : Str) = "_pending") := by decide +kernel
theorem bf02 : (("_contents" : Str) == "_pending") = false := by decide +kernel
theorem nf03 : ¬ (("_contents" : Str) = "_reads") := by decide +kernel
theorem bf03 : (("_contents" : Str) == "_reads") = false := by decide +kernel
theorem nf04 : ¬ (("_contents" : Str) = "_writes") := by decide +kernel
theorem bf04 : (("_contents" : Str) == "_writes") = false := by decide +kernel
theorem nf05 : ¬ (("_contents" : Str) = "_syncs") := by decide +kernel
theorem bf05 : (("_contents" : Str) == "_syncs") = false := by decide +kernel
theorem nf10 : ¬ (("_lasting" : Str) = "_contents") := by decide +kernel
theorem bf10 : (("_lasting" : Str) == "_contents") = false := by decide +kernel
theorem nf12 : ¬ (("_lasting" : Str) = "_pending") := by decide +kernel
theorem bf12 : (("_lasting" : Str) == "_pending") = false := by decide +kernel
theorem nf13 : ¬ (("_lasting" : Str) = "_reads") := by decide +kernel
theorem bf13 : (("_lasting" : Str) == "_reads") = false := by decide +kernel
theorem nf14 : ¬ (("_lasting" : Str) = "_writes") := by decide +kernel
theorem bf14 : (("_lasting" : Str) == "_writes") = false := by decide +kernel
theorem nf15 : ¬ (("_lasting" : Str) = "_syncs") := by decide +kernel
theorem bf15 : (("_lasting" : Str) == "_syncs") = false := by decide +kernel
theorem nf20 : ¬ (("_pending" : Str) = "_contents") := by decide +kernel
theorem bf20 : (("_pending" : Str) == "_contents") = false := by decide +kernel
theorem nf21 : ¬ (("_pending" : Str) = "_lasting") := by decide +kernel
theorem bf21 : (("_pending" : Str) == "_lasting") = false := by decide +kernel
theorem nf23 : ¬ (("_pending" : Str) = "_reads") := by decide +kernel
theorem bf23 : (("_pending" : Str) == "_reads") = false := by decide +kernel
theorem nf24 : ¬ (("_pending" : Str) = "_writes") := by decide +kernel
theorem bf24 : (("_pending" : Str) == "_writes") = false := by decide +kernel
theorem nf25 : ¬ (("_pending" : Str) = "_syncs") := by decide +kernel
theorem bf25 : (("_pending" : Str) == "_syncs") = false := by decide +kernel
theorem nf30 : ¬ (("_reads" : Str) = "_contents") := by decide +kernel
theorem bf30 : (("_reads" : Str) == "_contents") = false := by decide +kernel
theorem nf31 : ¬ (("_reads" : Str) = "_lasting") := by decide +kernel
theorem bf31 : (("_reads" : Str) == "_lasting") = false := by decide +kernel
theorem nf32 : ¬ (("_reads" : Str) = "_pending") := by decide +kernel
theorem bf32 : (("_reads" : Str) == "_pending") = false := by decide +kernel
theorem nf34 : ¬ (("_reads" : Str) = "_writes") := by decide +kernel
theorem bf34 : (("_reads" : Str) == "_writes") = false := by decide +kernel
theorem nf35 : ¬ (("_reads" : Str) = "_syncs") := by decide +kernel
theorem bf35 : (("_reads" : Str) == "_syncs") = false := by decide +kernel
theorem nf40 : ¬ (("_writes" : Str) = "_contents") := by decide +kernel
theorem bf40 : (("_writes" : Str) == "_contents") = false := by decide +kernel
theorem nf41 : ¬ (("_writes" : Str) = "_lasting") := by decide +kernel
theorem bf41 : (("_writes" : Str) == "_lasting") = false := by decide +kernel
theorem nf42 : ¬ (("_writes" : Str) = "_pending") := by decide +kernel
theorem bf42 : (("_writes" : Str) == "_pending") = false := by decide +kernel
theorem nf43 : ¬ (("_writes" : Str) = "_reads") := by decide +kernel
theorem bf43 : (("_writes" : Str) == "_reads") = false := by decide +kernel
theorem nf45 : ¬ (("_writes" : Str) = "_syncs") := by decide +kernel
theorem bf45 : (("_writes" : Str) == "_syncs") = false := by decide +kernel
theorem nf50 : ¬ (("_syncs" : Str) = "_contents") := by decide +kernel
theorem bf50 : (("_syncs" : Str) == "_contents") = false := by decide +kernel
theorem nf51 : ¬ (("_syncs" : Str) = "_lasting") := by decide +kernel
theorem bf51 : (("_syncs" : Str) == "_lasting") = false := by decide +kernel
theorem nf52 : ¬ (("_syncs" : Str) = "_pending") := by decide +kernel
theorem bf52 : (("_syncs" : Str) == "_pending") = false := by decide +kernel
theorem nf53 : ¬ (("_syncs" : Str) = "_reads") := by decide +kernel
theorem bf53 : (("_syncs" : Str) == "_reads") = false := by decide +kernel
theorem nf54 : ¬ (("_syncs" : Str) = "_writes") := by decide +kernel
theorem bf54 : (("_syncs" : Str) == "_writes") = false := by decide +kernel
theorem bf00 : (("_contents" : Str) == "_contents") = true := by decide +kernel
theorem bf11 : (("_lasting" : Str) == "_lasting") = true := by decide +kernel
theorem bf22 : (("_pending" : Str) == "_pending") = true := by decide +kernel
theorem bf33 : (("_reads" : Str) == "_reads") = true := by decide +kernel
theorem bf44 : (("_writes" : Str) == "_writes") = true := by decide +kernel
theorem bf55 : (("_syncs" : Str) == "_syncs") = true := by decide +kernel
theorem dF_get0 {a b c d e f : V} : (dF a b c d e f).lookup ("_contents" : Str) = some a := by
  unfold dF
  simp only [List.lookup, bf00]
theorem dF_put0 {a b c d e f z : V} : putF "_contents" z (dF a b c d e f) = dF z b c d e f := by
  unfold dF
  simp only [putF, if_true, eq_self_iff_true]
theorem dF_get1 {a b c d e f : V} : (dF a b c d e f).lookup ("_lasting" : Str) = some b := by
  unfold dF
  simp only [List.lookup, bf10, bf11]
theorem dF_put1 {a b c d e f z : V} : putF "_lasting" z (dF a b c d e f) = dF a z c d e f := by
  unfold dF
  simp only [putF, if_neg nf01, if_true, eq_self_iff_true]
theorem dF_get2 {a b c d e f : V} : (dF a b c d e f).lookup ("_pending" : Str) = some c := by
  unfold dF
  simp only [List.lookup, bf20, bf21, bf22]
theorem dF_put2 {a b c d e f z : V} : putF "_pending" z (dF a b c d e f) = dF a b z d e f := by
  unfold dF
  simp only [putF, if_neg nf02, if_neg nf12, if_true, eq_self_iff_true]
theorem dF_get3 {a b c d e f : V} : (dF a b c d e f).lookup ("_reads" : Str) = some d := by
  unfold dF
  simp only [List.lookup, bf30, bf31, bf32, bf33]
theorem dF_put3 {a b c d e f z : V} : putF "_reads" z (dF a b c d e f) = dF a b c z e f := by
  unfold dF
  simp only [putF, if_neg nf03, if_neg nf13, if_neg nf23, if_true, eq_self_iff_true]
theorem dF_get4 {a b c d e f : V} : (dF a b c d e f).lookup ("_writes" : Str) = some e := by
  unfold dF
  simp only [List.lookup, bf40, bf41, bf42, bf43, bf44]
theorem dF_put4 {a b c d e f z : V} : putF "_writes" z (dF a b c d e f) = dF a b c d z f := by
  unfold dF
  simp only [putF, if_neg nf04, if_neg nf14, if_neg nf24, if_neg nf34, if_true, eq_self_iff_true]
theorem dF_get5 {a b c d e f : V} : (dF a b c d e f).lookup ("_syncs" : Str) = some f := by
  unfold dF
  simp only [List.lookup, bf50, bf51, bf52, bf53, bf54, bf55]
theorem dF_put5 {a b c d e f z : V} : putF "_syncs" z (dF a b c d e f) = dF a b c d e z := by
  unfold dF
  simp only [putF, if_neg nf05, if_neg nf15, if_neg nf25, if_neg nf35, if_neg nf45, if_true, eq_self_iff_true]
theorem dF_made {a b c d e f : V} : putF "_syncs" f (putF "_writes" e (putF "_reads" d (putF "_pending" c (putF "_lasting" b (putF "_contents" a []))))) = dF a b c d e f := by
  unfold dF
  simp only [putF, if_neg nf01, if_neg nf02, if_neg nf03, if_neg nf04, if_neg nf05, if_neg nf12, if_neg nf13, if_neg nf14, if_neg nf15, if_neg nf23, if_neg nf24, if_neg nf25, if_neg nf34, if_neg nf35, if_neg nf45]
theorem dF_no_write {a b c d e f : V} : (dF a b c d e f).lookup ("write" : Str) = none := by
  unfold dF
  simp only [List.lookup, (show (("write" : Str) == "_contents") = false by decide +kernel), (show (("write" : Str) == "_lasting") = false by decide +kernel), (show (("write" : Str) == "_pending") = false by decide +kernel), (show (("write" : Str) == "_reads") = false by decide +kernel), (show (("write" : Str) == "_writes") = false by decide +kernel), (show (("write" : Str) == "_syncs") = false by decide +kernel)]
theorem dF_no_sync {a b c d e f : V} : (dF a b c d e f).lookup ("sync" : Str) = none := by
  unfold dF
  simp only [List.lookup, (show (("sync" : Str) == "_contents") = false by decide +kernel), (show (("sync" : Str) == "_lasting") = false by decide +kernel), (show (("sync" : Str) == "_pending") = false by decide +kernel), (show (("sync" : Str) == "_reads") = false by decide +kernel), (show (("sync" : Str) == "_writes") = false by decide +kernel), (show (("sync" : Str) == "_syncs") = false by decide +kernel)]
theorem dF_no_fail {a b c d e f : V} : (dF a b c d e f).lookup ("fail" : Str) = none := by
  unfold dF
  simp only [List.lookup, (show (("fail" : Str) == "_contents") = false by decide +kernel), (show (("fail" : Str) == "_lasting") = false by decide +kernel), (show (("fail" : Str) == "_pending") = false by decide +kernel), (show (("fail" : Str) == "_reads") = false by decide +kernel), (show (("fail" : Str) == "_writes") = false by decide +kernel), (show (("fail" : Str) == "_syncs") = false by decide +kernel)]
theorem dF_no__check_cell {a b c d e f : V} : (dF a b c d e f).lookup ("_check_cell" : Str) = none := by
  unfold dF
  simp only [List.lookup, (show (("_check_cell" : Str) == "_contents") = false by decide +kernel), (show (("_check_cell" : Str) == "_lasting") = false by decide +kernel), (show (("_check_cell" : Str) == "_pending") = false by decide +kernel), (show (("_check_cell" : Str) == "_reads") = false by decide +kernel), (show (("_check_cell" : Str) == "_writes") = false by decide +kernel), (show (("_check_cell" : Str) == "_syncs") = false by decide +kernel)]
theorem dF_no_read {a b c d e f : V} : (dF a b c d e f).lookup ("read" : Str) = none := by
  unfold dF
  simp only [List.lookup, (show (("read" : Str) == "_contents") = false by decide +kernel), (show (("read" : Str) == "_lasting") = false by decide +kernel), (show (("read" : Str) == "_pending") = false by decide +kernel), (show (("read" : Str) == "_reads") = false by decide +kernel), (show (("read" : Str) == "_writes") = false by decide +kernel), (show (("read" : Str) == "_syncs") = false by decide +kernel)]
theorem dF_len {a b c d e f : V} : (dF a b c d e f).length < 1000 := by
  unfold dF
  simp
theorem putF_len (f : Str) (v : V) : ∀ fs : List (Str × V), (putF f v fs).length ≤ fs.length + 1
  | [] => Nat.le_refl _
  | (g, x) :: r => by
    show (if g = f then (g, v) :: r else (g, x) :: putF f v r).length ≤ r.length + 1 + 1
    split
    · simp
    · have := putF_len f v r
      simp only [List.length_cons]
      omega
/-! ### disks -/
structure Dk where
  p : Addr
  dx : Addr
  c : Addr
  l : Addr
  d : Addr
def Dk.own (D : Dk) : List Addr := [D.p, D.c, D.l, D.d]
def Pend (H : Hp) (ts : List Addr) (ps : List (Nat × V)) : Prop := ts.length = ps.length ∧ ∀ (i : Nat) (t : Addr) (q : Nat × V), ts[i]? = some t → ps[i]? = some q → H t = some (.tup [.int (q.1 : Int), q.2])
structure DiskAt (C : Addr) (H : Hp) (D : Dk) (cs ls : List V) (ps : List (Nat × V)) (r w s : Int) : Prop where
  ins : H D.p = some (.ins C D.dx (dF (.ref D.c) (.ref D.l) (.ref D.d) (.int r) (.int w) (.int s)))
  cs_ : H D.c = some (.lst cs)
  ls_ : H D.l = some (.lst ls)
  pend : ∃ ts : List Addr, H D.d = some (.lst (ts.map V.ref)) ∧ Pend H ts ps
  cl : D.c ≠ D.l
  cd : D.c ≠ D.d
  ld : D.l ≠ D.d
  len : cs.length = ls.length
  small : cs.length ≤ 64
  ok : ∀ q ∈ ps, q.1 < ls.length
theorem Pend.keep {H H' : Hp} {ts : List Addr} {ps : List (Nat × V)} {S : List Addr} (h : Pend H ts ps) (f : Fr S H H') (n : ∀ b ∈ S, ∀ xs, H b ≠ some (.tup xs)) : Pend H' ts ps :=
  ⟨h.1, fun i t q e1 e2 => f _ _ (h.2 i t q e1 e2) (fun z => n t z _ (h.2 i t q e1 e2))⟩
theorem Pend.snoc {H : Hp} {ts : List Addr} {ps : List (Nat × V)} {t : Addr} {i : Nat} {v : V} (h : Pend H ts ps) (e : H t = some (.tup [.int (i : Int), v])) : Pend H (ts ++ [t]) (ps ++ [(i, v)]) := by
  refine ⟨by rw [List.length_append, List.length_append, h.1]; rfl, fun j u q e1 e2 => ?_⟩
  by_cases hj : j < ts.length
  · rw [List.getElem?_append_left hj] at e1
    rw [List.getElem?_append_left (by rw [← h.1]; exact hj)] at e2
    exact h.2 j u q e1 e2
  · rw [List.getElem?_append_right (by omega)] at e1
    rw [List.getElem?_append_right (by rw [← h.1]; omega)] at e2
    rw [← h.1] at e2
    have hz : j - ts.length = 0 := by
      have := lt_of_at e1
      simp at this
      omega
    rw [hz] at e1 e2
    cases e1
    cases e2
    exact e
section
variable {C : Addr} {H H' : Hp} {D : Dk} {cs ls : List V} {ps : List (Nat × V)} {r w s : Int}
theorem DiskAt.there (h : DiskAt C H D cs ls ps r w s) : ∀ b ∈ D.own, ∃ o, H b = some o := by
  obtain ⟨ts, e, _⟩ := h.pend
  intro b hb
  simp only [Dk.own, List.mem_cons, List.not_mem_nil, or_false] at hb
  rcases hb with rfl | rfl | rfl | rfl
  · exact ⟨_, h.ins⟩
  · exact ⟨_, h.cs_⟩
  · exact ⟨_, h.ls_⟩
  · exact ⟨_, e⟩
theorem DiskAt.notup (h : DiskAt C H D cs ls ps r w s) : ∀ b ∈ D.own, ∀ xs, H b ≠ some (.tup xs) := by
  obtain ⟨ts, e, _⟩ := h.pend
  intro b hb xs
  simp only [Dk.own, List.mem_cons, List.not_mem_nil, or_false] at hb
  rcases hb with rfl | rfl | rfl | rfl
  · rw [h.ins]; simp
  · rw [h.cs_]; simp
  · rw [h.ls_]; simp
  · rw [e]; simp
theorem DiskAt.pc (h : DiskAt C H D cs ls ps r w s) : D.p ≠ D.c := ne_of h.ins h.cs_ (by simp)
theorem DiskAt.pl (h : DiskAt C H D cs ls ps r w s) : D.p ≠ D.l := ne_of h.ins h.ls_ (by simp)
theorem DiskAt.pd (h : DiskAt C H D cs ls ps r w s) : D.p ≠ D.d := by
  obtain ⟨ts, e, _⟩ := h.pend
  exact ne_of h.ins e (by simp)
/-- a disk stays where only what it does not own changes (and no tuple does) -/
theorem DiskAt.keep {S : List Addr} (h : DiskAt C H D cs ls ps r w s) (f : Fr S H H') (n : ∀ b ∈ D.own, b ∉ S) (m : ∀ b ∈ S, ∀ xs, H b ≠ some (.tup xs)) : DiskAt C H' D cs ls ps r w s := by
  obtain ⟨ts, e, pn⟩ := h.pend
  have hp : D.p ∉ S := n _ (by simp [Dk.own])
  have hc : D.c ∉ S := n _ (by simp [Dk.own])
  have hl : D.l ∉ S := n _ (by simp [Dk.own])
  have hd : D.d ∉ S := n _ (by simp [Dk.own])
  exact ⟨f _ _ h.ins hp, f _ _ h.cs_ hc, f _ _ h.ls_ hl, ⟨ts, f _ _ e hd, pn.keep f m⟩, h.cl, h.cd, h.ld, h.len, h.small, h.ok⟩
end
/-! ### the promises -/
def spCheck (C : Addr) : Sp := fun vs H Q _ => ∃ (D : Dk) (cs ls : List V) (ps : List (Nat × V)) (r w s i : Int), vs = [.ref D.p, .int i] ∧ DiskAt C H D cs ls ps r w s ∧ 0 ≤ i ∧ i < cs.length ∧ Q .non H
def spInit (C : Addr) : Sp := fun vs H Q _ => ∃ (p dx : Addr) (n : Nat) (v : V), vs = [.ref p, .int (n : Int), v] ∧ 1 ≤ n ∧ n ≤ 64 ∧ H p = some (.ins C dx []) ∧
  ∀ (D : Dk) (H' : Hp), D.p = p → Fr [p] H H' → DiskAt C H' D (List.replicate n v) (List.replicate n v) [] 0 0 0 → H D.c = none → H D.l = none → H D.d = none → Q .non H'
def spWrite (C : Addr) : Sp := fun vs H Q _ => ∃ (D : Dk) (cs ls : List V) (ps : List (Nat × V)) (r w s : Int) (i : Nat) (v : V), vs = [.ref D.p, .int (i : Int), v] ∧ DiskAt C H D cs ls ps r w s ∧ i < cs.length ∧ ps.length ≤ 1000 ∧
  ∀ H' : Hp, Fr D.own H H' → DiskAt C H' D (cs.set i v) ls (ps ++ [(i, v)]) r (w + 1) s → Q .non H'
def spSync (C : Addr) : Sp := fun vs H Q _ => ∃ (D : Dk) (cs ls : List V) (ps : List (Nat × V)) (r w s : Int), vs = [.ref D.p] ∧ DiskAt C H D cs ls ps r w s ∧
  ∀ (D' : Dk) (H' : Hp), D'.p = D.p → (∀ b ∈ D'.own, b ∈ D.own ∨ H b = none) → Fr D.own H H' → DiskAt C H' D' cs cs [] r w (s + 1) → Q .non H'
section
variable {P : Program} {w : World} {K : PySem.W.Frag} {mg : Str → Option Value} {base : Heap}
theorem ok_check (T : Gx K mg) : FnOk P w K mg base CX0 3 T.f_Disk__check_cell T.fd_Disk__check_cell ["self", "cell"] (spCheck T.C_Disk) := by
  have GN : FnOk P w K mg base CX0 2 T.f_is_number_from T.fd_is_number_from ["thing", "least", "most"] (spNumFrom K) := ok_numFrom T
  refine T.F_Disk__check_cell.ok sc_Disk__check_cell (fun vs H Q E h => ?_) (fun cdv A outer s H vs Q E hr h => ?_)
  · obtain ⟨D, cs, ls, ps, r, w', s', i, rfl, _⟩ := h
    rfl
  · obtain ⟨D, cs, ls, ps, r, w', s', i, rfl, hD, h0, h1, k⟩ := h
    refine ⟨_, pss_one (ps_if (pt_not (pt_val (pe_call GN hr (by rfl) T.g_is_number_from T.F_is_number_from.kp (b_is_number_from T) .nil pass0
      (pa_cons (pv 1) (pa_cons pe_int (pa_cons (pe_op op_sub (pe_callB call_len_seq (by rfl) T.z_len PySem.boot_len (pa_cons (pe_fld (pv 0) rfl) pa_nil)) pe_int) pa_nil)))))) (pss_one ps_never) pss_nil), ?_⟩
    refine ⟨_, rfl, _, rfl, D.p, T.C_Disk, _, _, _, rfl, hD.ins, T.cl_Disk, T.n_Disk__contents, dF_get0, D.c, cs, rfl, .inl (SqL.of hD.cs_), _, _, rfl, rfl, ?_⟩
    refine ⟨.int i, 0, _, rfl, .inl ⟨i, rfl, _, rfl, ?_⟩⟩
    have e : (decide ((0 : Int) ≤ i) && decide (i ≤ (cs.length : Int) - 1)) = true := by
      rw [Bool.and_eq_true, decide_eq_true_eq, decide_eq_true_eq]
      omega
    rw [e]
    exact iteF k
theorem ok_init (T : Gx K mg) : FnOk P w K mg base CX0 3 T.f_Disk___init__ T.fd_Disk___init__ ["self", "cells", "content"] (spInit T.C_Disk) := by
  have GN : FnOk P w K mg base CX0 2 T.f_is_number_from T.fd_is_number_from ["thing", "least", "most"] (spNumFrom K) := ok_numFrom T
  refine T.F_Disk___init__.ok sc_Disk___init__ (fun vs H Q E h => ?_) (fun cdv A outer s H vs Q E hr h => ?_)
  · obtain ⟨p, dx, n, v, rfl, _⟩ := h
    rfl
  · obtain ⟨p, dx, n, v, rfl, h1, h64, hp, k⟩ := h
    refine ⟨_, PSs.nox (pss_cons (ps_if (pt_not (pt_val (pe_call GN hr (by rfl) T.g_is_number_from T.F_is_number_from.kp (b_is_number_from T) .nil pass0
        (pa_cons (pv 1) (pa_cons pe_int (pa_cons (pe_glob (v := .int 64) (by rfl) T.c_MOST_CELLS ⟨_, rfl⟩) pa_nil)))))) (pss_one ps_never) pss_nil)
      (pss_cons (ps_fld (pv 0) (pe_op op_rep (pe_lst (pa_cons (pv 2) pa_nil)) (pv 1)) rfl)
      (pss_cons (ps_fld (pv 0) (pe_op op_rep (pe_lst (pa_cons (pv 2) pa_nil)) (pv 1)) rfl)
      (pss_cons (ps_fld (pv 0) (pe_lst pa_nil) rfl)
      (pss_cons (ps_fld (pv 0) pe_int rfl) (pss_cons (ps_fld (pv 0) pe_int rfl) (pss_one (ps_fld (pv 0) pe_int rfl)))))))), ?_⟩
    refine ⟨_, rfl, .int (n : Int), 1, 64, rfl, .inl ⟨n, rfl, _, rfl, ?_⟩⟩
    have e : (decide ((1 : Int) ≤ (n : Int)) && decide ((n : Int) ≤ 64)) = true := by
      rw [Bool.and_eq_true, decide_eq_true_eq, decide_eq_true_eq]
      omega
    rw [e]
    refine iteF ?_
    have fl : (List.replicate (n : Int).toNat [v]).flatten = List.replicate n v := by
      rw [Int.toNat_natCast]
      simp
    -- self._contents = [content] * cells
    refine ⟨_, rfl, sz_le (by simp), fun q1 hq1 => ⟨_, rfl, q1, n, [v], rfl, rfl, upd_same, by omega, by omega, sz_le (by simp; omega), fun c hc => ?_⟩⟩
    rw [fl]
    have hcq := free_upd hc
    have pq1 : p ≠ q1 := ne_of_none hp hq1
    have pc : p ≠ c := ne_of_none hp hcq.1
    refine ⟨_, rfl, p, T.C_Disk, dx, [], rfl, (by rw [upd_ne pc, upd_ne pq1]; exact hp), T.cl_Disk, T.n_Disk__contents, by simp, ?_⟩
    -- self._lasting = [content] * cells
    refine ⟨_, rfl, sz_le (by simp), fun q2 hq2 => ⟨_, rfl, q2, n, [v], rfl, rfl, upd_same, by omega, by omega, sz_le (by simp; omega), fun l hl => ?_⟩⟩
    rw [fl]
    have hq2' := free_upd hq2
    have hq2'' := free_upd hq2'.1
    have hlq := free_upd hl
    have hlq2 := free_upd hlq.1
    have hlq3 := free_upd hlq2.1
    have pq2 : p ≠ q2 := hq2'.2.symm
    have pl : p ≠ l := hlq2.2.symm
    refine ⟨_, rfl, p, T.C_Disk, dx, _, rfl, (by rw [upd_ne pl, upd_ne pq2]; exact upd_same), T.cl_Disk, T.n_Disk__lasting, Nat.lt_of_le_of_lt (putF_len _ _ _) (by simp), ?_⟩
    -- self._pending = []
    refine ⟨sz_le (by simp), fun d hd => ?_⟩
    have hd1 := free_upd hd
    have hd2 := free_upd hd1.1
    have hd3 := free_upd hd2.1
    have hd4 := free_upd hd3.1
    have hd5 := free_upd hd4.1
    have hd6 := free_upd hd5.1
    refine ⟨_, rfl, p, T.C_Disk, dx, _, rfl, (by rw [upd_ne hd1.2.symm]; exact upd_same), T.cl_Disk, T.n_Disk__pending, Nat.lt_of_le_of_lt (putF_len _ _ _) (Nat.lt_of_le_of_lt (Nat.succ_le_succ (putF_len _ _ _)) (by simp)), ?_⟩
    refine ⟨_, rfl, p, T.C_Disk, dx, _, rfl, upd_same, T.cl_Disk, T.n_Disk__reads, Nat.lt_of_le_of_lt (putF_len _ _ _) (Nat.lt_of_le_of_lt (Nat.succ_le_succ (Nat.le_trans (putF_len _ _ _) (Nat.succ_le_succ (putF_len _ _ _)))) (by simp)), ?_⟩
    refine ⟨_, rfl, p, T.C_Disk, dx, _, rfl, upd_same, T.cl_Disk, T.n_Disk__writes, Nat.lt_of_le_of_lt (putF_len _ _ _) (Nat.lt_of_le_of_lt (Nat.succ_le_succ (Nat.le_trans (putF_len _ _ _) (Nat.succ_le_succ (Nat.le_trans (putF_len _ _ _) (Nat.succ_le_succ (putF_len _ _ _)))))) (by simp)), ?_⟩
    refine ⟨_, rfl, p, T.C_Disk, dx, _, rfl, upd_same, T.cl_Disk, T.n_Disk__syncs, Nat.lt_of_le_of_lt (putF_len _ _ _) (Nat.lt_of_le_of_lt (Nat.succ_le_succ (Nat.le_trans (putF_len _ _ _) (Nat.succ_le_succ (Nat.le_trans (putF_len _ _ _) (Nat.succ_le_succ (Nat.le_trans (putF_len _ _ _) (Nat.succ_le_succ (putF_len _ _ _)))))))) (by simp)), ?_⟩
    rw [dF_made, upd_upd, upd_upd, upd_upd]
    refine k ⟨p, dx, c, l, d⟩ _ rfl ?_ ⟨upd_same, ?_, ?_, ⟨[], ?_, rfl, fun i t q e _ => by simp at e⟩, hlq3.2.symm, hd5.2.symm, hd2.2.symm, rfl, by simp; omega, fun q hq => by cases hq⟩ hcq.1 (free_upd hlq3.1).1 hd6.1
    · exact (((((((Fr.new hq1).trans (Fr.new hc)).trans (Fr.put (by simp))).trans (Fr.new hq2)).trans (Fr.new hl)).trans (Fr.put (by simp))).trans (Fr.new hd)).trans (Fr.put (by simp))
    · show (upd _ p _) c = _
      rw [upd_ne pc.symm, upd_ne hd5.2.symm, upd_ne pc.symm, upd_ne hlq3.2.symm, upd_ne hq2''.2.symm, upd_ne pc.symm]
      exact upd_same
    · show (upd _ p _) l = _
      rw [upd_ne pl.symm, upd_ne hd2.2.symm, upd_ne pl.symm]
      exact upd_same
    · show (upd _ p _) d = _
      rw [upd_ne hd1.2]
      exact upd_same
end
section
variable {P : Program} {w : World} {K : PySem.W.Frag} {mg : Str → Option Value} {base : Heap}
theorem ok_write (T : Gx K mg) : FnOk P w K mg base CX0 4 T.f_Disk_write T.fd_Disk_write ["self", "cell", "content"] (spWrite T.C_Disk) := by
  have GC : FnOk P w K mg base CX0 3 T.f_Disk__check_cell T.fd_Disk__check_cell ["self", "cell"] (spCheck T.C_Disk) := ok_check T
  refine T.F_Disk_write.ok sc_Disk_write (fun vs H Q E h => ?_) (fun cdv A outer s H vs Q E hr h => ?_)
  · obtain ⟨D, cs, ls, ps, r, w', s', i, v, rfl, _⟩ := h
    rfl
  · obtain ⟨D, cs, ls, ps, r, w', s', i, v, rfl, hD, hi, hp, k⟩ := h
    obtain ⟨ts, e, pn⟩ := hD.pend
    have pl := hD.pl
    have pc := hD.pc
    have pd := hD.pd
    refine ⟨_, pss_cons (ps_expr (pe_meth (pv 0) T.cl_Disk T.m_Disk__check_cell GC hr (b_Disk__check_cell T) .nil pass0 (pa_cons (pv 1) pa_nil)))
      (pss_cons (ps_fldaug (pv 0) pe_int in_add)
      (pss_cons (ps_asg (pv 2) (pg_sub (pe_fld (pv 0) rfl) (pv 1) set_list))
      (pss_one (ps_expr (pe_bm PySem.F.plainAttrs_list PySem.F.slot_list_append PySem.F.type_list_append mt_append (pe_fld (pv 0) rfl) (pa_cons (pe_tup (pa_cons (pv 1) (pa_cons (pv 2) pa_nil))) pa_nil)))))), ?_⟩
    refine ⟨_, rfl, D.p, D.dx, _, rfl, hD.ins, dF_no__check_cell, _, rfl, D, cs, ls, ps, r, w', s', i, rfl, hD, by omega, by omega, ?_⟩
    refine ⟨_, rfl, D.p, T.C_Disk, D.dx, _, _, rfl, hD.ins, T.cl_Disk, T.n_Disk__writes, dF_get4, _, _, rfl, rfl, D.dx, _, hD.ins, dF_len, ?_⟩
    rw [dF_put4]
    refine ⟨_, rfl, _, rfl, D.p, T.C_Disk, D.dx, _, _, rfl, upd_same, T.cl_Disk, T.n_Disk__contents, dF_get0, _, rfl, D.c, cs, (i : Int), i, rfl, rfl, (by rw [upd_ne pc.symm]; exact hD.cs_), ix_at i hi, ?_⟩
    refine ⟨_, rfl, D.p, T.C_Disk, D.dx, _, _, rfl, Eq.trans (upd_ne pc) upd_same, T.cl_Disk, T.n_Disk__pending, dF_get2, .inl ⟨rfl, _, SqL.of (xs := ts.map V.ref) ?_⟩, ?_⟩
    · rw [upd_ne hD.cd.symm, upd_ne pd.symm]
      exact e
    · refine ⟨_, rfl, _, rfl, sz_le (by simp), fun t ht => ?_⟩
      have t1 := free_upd ht
      have t2 := free_upd t1.1
      have dt : D.d ≠ t := ne_of_none e t2.1
      have pt : D.p ≠ t := t2.2.symm
      have ct : D.c ≠ t := t1.2.symm
      have lt : D.l ≠ t := ne_of_none hD.ls_ t2.1
      refine ⟨D.d, ts.map V.ref, .ref t, rfl, rfl, ?_, ?_, ?_⟩
      · rw [upd_ne dt, upd_ne hD.cd.symm, upd_ne pd.symm]
        exact e
      · rw [List.length_map, pn.1]
        exact sz_lt (by omega)
      · have f : Fr D.own H (upd (upd (upd (upd H D.p (.ins T.C_Disk D.dx (dF (.ref D.c) (.ref D.l) (.ref D.d) (.int r) (.int (w' + 1)) (.int s')))) D.c (.lst (cs.set i v))) t (.tup [.int (i : Int), v])) D.d (.lst (ts.map V.ref ++ [.ref t]))) :=
          (((Fr.put (by simp [Dk.own])).trans (Fr.put (by simp [Dk.own]))).trans (Fr.new ht)).trans (Fr.put (by simp [Dk.own]))
        refine k _ f ⟨?_, ?_, ?_, ⟨ts ++ [t], ?_, (pn.keep f hD.notup).snoc ?_⟩, hD.cl, hD.cd, hD.ld, by rw [List.length_set]; exact hD.len, by rw [List.length_set]; exact hD.small, fun q hq => ?_⟩
        · rw [upd_ne pd, upd_ne pt, upd_ne pc]
          exact upd_same
        · rw [upd_ne hD.cd, upd_ne ct]
          exact upd_same
        · rw [upd_ne hD.ld, upd_ne lt, upd_ne hD.cl.symm, upd_ne pl.symm]
          exact hD.ls_
        · rw [List.map_append]
          exact upd_same
        · rw [upd_ne dt.symm]
          exact upd_same
        · rcases List.mem_append.mp hq with z | z
          · exact hD.ok q z
          · rw [List.mem_singleton.mp z, ← hD.len]
            exact hi
theorem ok_sync (T : Gx K mg) : FnOk P w K mg base CX0 1 T.f_Disk_sync T.fd_Disk_sync ["self"] (spSync T.C_Disk) := by
  refine T.F_Disk_sync.ok sc_Disk_sync (fun vs H Q E h => ?_) (fun cdv A outer s H vs Q E hr h => ?_)
  · obtain ⟨D, cs, ls, ps, r, w', s', rfl, _⟩ := h
    rfl
  · obtain ⟨D, cs, ls, ps, r, w', s', rfl, hD, k⟩ := h
    obtain ⟨ts, e, pn⟩ := hD.pend
    have pc := hD.pc
    refine ⟨_, pss_cons (ps_fldaug (pv 0) pe_int in_add)
      (pss_cons (ps_fld (pv 0) (pe_callTy call_list_of (by rfl) T.z_list (by decide +kernel) (pa_cons (pe_fld (pv 0) rfl) pa_nil)) rfl)
      (pss_one (ps_fld (pv 0) (pe_lst pa_nil) rfl))), ?_⟩
    refine ⟨_, rfl, D.p, T.C_Disk, D.dx, _, _, rfl, hD.ins, T.cl_Disk, T.n_Disk__syncs, dF_get5, _, _, rfl, rfl, D.dx, _, hD.ins, dF_len, ?_⟩
    rw [dF_put5]
    have ec : (upd H D.p (.ins T.C_Disk D.dx (dF (.ref D.c) (.ref D.l) (.ref D.d) (.int r) (.int w') (.int (s' + 1))))) D.c = some (.lst cs) := by
      rw [upd_ne pc.symm]
      exact hD.cs_
    refine ⟨_, rfl, D.p, T.C_Disk, D.dx, _, _, rfl, upd_same, T.cl_Disk, T.n_Disk__contents, dF_get0, D.c, cs, rfl, .inl (SqL.of ec), fun l hl => ?_⟩
    have l1 := free_upd hl
    have pl : D.p ≠ l := l1.2.symm
    have cl : D.c ≠ l := ne_of_none hD.cs_ l1.1
    refine ⟨_, rfl, D.p, T.C_Disk, D.dx, _, rfl, Eq.trans (upd_ne pl) upd_same, T.cl_Disk, T.n_Disk__lasting, dF_len, ?_⟩
    rw [dF_put1]
    refine ⟨sz_le (by simp), fun d hd => ?_⟩
    have d1 := free_upd hd
    have d2 := free_upd d1.1
    have d3 := free_upd d2.1
    have cd : D.c ≠ d := ne_of_none hD.cs_ d3.1
    refine ⟨_, rfl, D.p, T.C_Disk, D.dx, _, rfl, Eq.trans (upd_ne d1.2.symm) upd_same, T.cl_Disk, T.n_Disk__pending, dF_len, ?_⟩
    rw [dF_put2]
    refine k ⟨D.p, D.dx, D.c, l, d⟩ _ rfl (fun b hb => ?_) ?_ ⟨upd_same, ?_, ?_, ⟨[], ?_, rfl, fun i t q e _ => by simp at e⟩, cl, cd, d2.2.symm, rfl, hD.small, fun q hq => by cases hq⟩
    · simp only [Dk.own, List.mem_cons, List.not_mem_nil, or_false] at hb ⊢
      rcases hb with z | z | z | z
      · exact .inl (.inl z)
      · exact .inl (.inr (.inl z))
      · rw [z]; exact .inr l1.1
      · rw [z]; exact .inr d3.1
    · exact ((((Fr.put (by simp [Dk.own])).trans (Fr.new hl)).trans (Fr.put (by simp [Dk.own]))).trans (Fr.new hd)).trans (Fr.put (by simp [Dk.own]))
    · show (upd _ D.p _) D.c = _
      rw [upd_ne pc.symm, upd_ne cd, upd_ne pc.symm, upd_ne cl, upd_ne pc.symm]
      exact hD.cs_
    · show (upd _ D.p _) l = _
      rw [upd_ne pl.symm, upd_ne d2.2.symm, upd_ne pl.symm]
      exact upd_same
    · show (upd _ D.p _) d = _
      rw [upd_ne d1.2]
      exact upd_same
end
/-! ### what is kept -/
/-- strictly ascending, from lo on, below m -/
def Asc (m : Nat) : Nat → List Nat → Prop
  | _, [] => True
  | lo, k :: r => lo ≤ k ∧ k < m ∧ Asc m (k + 1) r
def stepK (ps : List (Nat × V)) (ls : List V) (k : Nat) : List V := match ps[k]? with
  | some q => ls.set q.1 q.2
  | none => ls
def applyK (ps : List (Nat × V)) (ls : List V) (ks : List Nat) : List V := ks.foldl (stepK ps) ls
theorem stepK_len (ps : List (Nat × V)) (ls : List V) (k : Nat) : (stepK ps ls k).length = ls.length := by
  unfold stepK
  split
  · exact List.length_set
  · rfl
theorem applyK_len (ps : List (Nat × V)) : ∀ (ks : List Nat) (ls : List V), (applyK ps ls ks).length = ls.length
  | [], _ => rfl
  | k :: r, ls => by
    show (applyK ps (stepK ps ls k) r).length = ls.length
    rw [applyK_len ps r, stepK_len]
theorem applyK_snoc (ps : List (Nat × V)) (ls : List V) (ks : List Nat) (k : Nat) : applyK ps ls (ks ++ [k]) = stepK ps (applyK ps ls ks) k := by
  unfold applyK
  rw [List.foldl_append]
  rfl
def kepV (ks : List Nat) : List V := ks.map fun (k : Nat) => V.int (k : Int)
theorem kV_at {ks : List Nat} {i : Nat} {x : V} (h : (kepV ks)[i]? = some x) : ∃ k : Nat, x = V.int (k : Int) ∧ ks[i]? = some k := by
  unfold kepV at h
  rw [List.getElem?_map] at h
  cases e : ks[i]? with
  | none =>
    rw [e] at h
    cases h
  | some u =>
    rw [e] at h
    exact ⟨u, (Option.some.inj h).symm, rfl⟩
theorem Asc.drop {m : Nat} : ∀ {lo : Nat} {ks : List Nat}, Asc m lo ks → ∀ (i k : Nat), ks[i]? = some k → ∃ lo', Asc m lo' (ks.drop i) ∧ lo' ≤ k
  | _, [], _, i, k, e => by simp at e
  | lo, a :: r, h, 0, k, e => by
    cases e
    exact ⟨lo, h, h.1⟩
  | lo, a :: r, h, i + 1, k, e => by
    obtain ⟨lo', h', hk⟩ := Asc.drop h.2.2 i k (by simpa using e)
    exact ⟨lo', h', hk⟩
theorem Asc.lt {m : Nat} : ∀ {lo : Nat} {ks : List Nat}, Asc m lo ks → ∀ (i k : Nat), ks[i]? = some k → k < m
  | _, [], _, i, k, e => by simp at e
  | lo, a :: r, h, 0, k, e => by
    cases e
    exact h.2.1
  | lo, a :: r, h, i + 1, k, e => Asc.lt h.2.2 i k (by simpa using e)
theorem Asc.len {m : Nat} : ∀ {lo : Nat} {ks : List Nat}, Asc m lo ks → lo ≤ m → ks.length + lo ≤ m
  | _, [], _, h => by simpa using h
  | lo, a :: r, h, _ => by
    have := Asc.len h.2.2 (by have := h.2.1; omega)
    have := h.1
    simp only [List.length_cons]
    omega
def spAreKept : Sp := fun vs H Q _ => ∃ (kt : Addr) (ks : List Nat) (m : Nat), vs = [.ref kt, .int (m : Int)] ∧ H kt = some (.tup (kepV ks)) ∧ Asc m 0 ks ∧ Q (.bl true) H
def spFail (C : Addr) : Sp := fun vs H Q _ => ∃ (D : Dk) (cs ls : List V) (ps : List (Nat × V)) (r w s : Int) (kt : Addr) (ks : List Nat), vs = [.ref D.p, .ref kt] ∧ DiskAt C H D cs ls ps r w s ∧ H kt = some (.tup (kepV ks)) ∧ Asc ps.length 0 ks ∧
  ∀ (D' : Dk) (H' : Hp), D'.p = D.p → (∀ b ∈ D'.own, b ∈ D.own ∨ H b = none) → Fr D.own H H' → DiskAt C H' D' (applyK ps ls ks) (applyK ps ls ks) [] r w s → Q .non H'
def spContents (C : Addr) : Sp := fun vs H Q _ => ∃ (D : Dk) (cs ls : List V) (ps : List (Nat × V)) (r w s : Int), vs = [.ref D.p] ∧ DiskAt C H D cs ls ps r w s ∧ ∀ t, H t = none → Q (.ref t) (upd H t (.tup cs))
def spLasting (C : Addr) : Sp := fun vs H Q _ => ∃ (D : Dk) (cs ls : List V) (ps : List (Nat × V)) (r w s : Int), vs = [.ref D.p] ∧ DiskAt C H D cs ls ps r w s ∧ ∀ t, H t = none → Q (.ref t) (upd H t (.tup ls))
def spPending (C : Addr) : Sp := fun vs H Q _ => ∃ (D : Dk) (cs ls : List V) (ps : List (Nat × V)) (r w s : Int), vs = [.ref D.p] ∧ DiskAt C H D cs ls ps r w s ∧ ∀ (t : Addr) (ts : List Addr), H t = none → Pend H ts ps → Q (.ref t) (upd H t (.lst (ts.map V.ref)))
section
variable {P : Program} {w : World} {K : PySem.W.Frag} {mg : Str → Option Value} {base : Heap}
theorem ok_areKept (T : Gx K mg) : FnOk P w K mg base CX0 3 T.f_are_kept T.fd_are_kept ["kept", "many"] spAreKept := by
  have GN : FnOk P w K mg base CX0 2 T.f_is_number_from T.fd_is_number_from ["thing", "least", "most"] (spNumFrom K) := ok_numFrom T
  refine T.F_are_kept.ok sc_are_kept (fun vs H Q E h => ?_) (fun cdv A outer s H vs Q E hr h => ?_)
  · obtain ⟨kt, ks, m, rfl, _⟩ := h
    rfl
  · obtain ⟨kt, ks, m, rfl, hK, ha, k⟩ := h
    refine ⟨_, pss_cons (ps_if (pt_not (pt_val (pe_callB call_isi (by rfl) T.z_isinstance (by decide +kernel) (pa_cons (pv 0) (pa_cons (pe_bltn (v := .ty "tuple") (by rfl) T.z_tuple (by decide +kernel) rfl) pa_nil))))) (pss_one (ps_ret pe_bl)) pss_nil)
      (pss_cons (ps_set (i := 2) sc_are_kept.nd rfl (.inl rfl) pe_int)
      (pss_cons (ps_for PassesOwn.never rfl (pi_tup (pv 0)) (pg_name (i := 3) sc_are_kept.nd rfl (.inl rfl))
        (pss_cons (ps_if (pt_not (pt_val (pe_call GN hr (by rfl) T.g_is_number_from T.F_is_number_from.kp (b_is_number_from T) .nil pass0 (pa_cons (pv 3) (pa_cons (pv 2) (pa_cons (pe_op op_sub (pv 1) pe_int) pa_nil)))))) (pss_one (ps_ret pe_bl)) pss_nil)
        (pss_one (ps_set (i := 2) sc_are_kept.nd rfl (.inl rfl) (pe_op op_add (pv 3) pe_int)))))
      (pss_one (ps_ret pe_bl)))), ?_⟩
    refine ⟨_, rfl, .ref kt, .ty "tuple", .type "tuple", _, true, rfl, ClsV.ty "tuple", .base (.tup hK), kit_ty (by decide +kernel), _, rfl, iteF ?_⟩
    refine ⟨_, rfl, kt, rfl, ⟨_, SqT.of hK⟩, for_tup (K := K) (a := kt) (xs := kepV ks) (fun i σ H' => H' = H ∧ ∃ (lo : Nat) (v : Option V), σ = [some (.ref kt), some (.int (m : Int)), some (.int (lo : Int)), v] ∧ Asc m lo (ks.drop i)) ⟨rfl, 0, none, rfl, ha⟩ (fun i σ H' _ e => by rw [e.1]; exact SqT.of hK) ?_ ?_⟩
    · rintro i x σ H' hi ⟨rfl, lo, v, rfl, hA⟩
      obtain ⟨kk, rfl, hk⟩ := kV_at hi
      have hd : ks.drop i = kk :: ks.drop (i + 1) := by
        rw [List.drop_eq_getElem_cons (lt_of_at hk)]
        congr 1
        rw [List.getElem?_eq_getElem (lt_of_at hk)] at hk
        exact Option.some.inj hk
      rw [hd] at hA
      obtain ⟨h1, h2, h3⟩ := hA
      refine ⟨_, rfl, _, rfl, _, rfl, _, _, rfl, rfl, .int (kk : Int), (lo : Int), _, rfl, .inl ⟨kk, rfl, _, rfl, ?_⟩⟩
      have e : (decide ((lo : Int) ≤ (kk : Int)) && decide ((kk : Int) ≤ (m : Int) - 1)) = true := by
        rw [Bool.and_eq_true, decide_eq_true_eq, decide_eq_true_eq]
        omega
      rw [e]
      refine iteF ⟨_, rfl, _, _, rfl, rfl, rfl, kk + 1, some (.int (kk : Int)), ?_, h3⟩
      rfl
    · rintro σ H' ⟨rfl, lo, v, rfl, _⟩
      exact k
theorem ok_fail (T : Gx K mg) : FnOk P w K mg base CX0 4 T.f_Disk_fail T.fd_Disk_fail ["self", "kept"] (spFail T.C_Disk) := by
  have GA : FnOk P w K mg base CX0 3 T.f_are_kept T.fd_are_kept ["kept", "many"] spAreKept := ok_areKept T
  refine T.F_Disk_fail.ok sc_Disk_fail (fun vs H Q E h => ?_) (fun cdv A outer s H vs Q E hr h => ?_)
  · obtain ⟨D, cs, ls, ps, r, w', s', kt, ks, rfl, _⟩ := h
    rfl
  · obtain ⟨D, cs, ls, ps, r, w', s', kt, ks, rfl, hD, hK, ha, k⟩ := h
    obtain ⟨ts, e, pn⟩ := hD.pend
    have pl := hD.pl
    have ktl : kt ≠ D.l := ne_of hK hD.ls_ (by simp)
    refine ⟨_, pss_cons (ps_if (pt_not (pt_val (pe_call GA hr (by rfl) T.g_are_kept T.F_are_kept.kp (b_are_kept T) .nil pass0 (pa_cons (pv 1) (pa_cons (pe_callB call_len_seq (by rfl) T.z_len PySem.boot_len (pa_cons (pe_fld (pv 0) rfl) pa_nil)) pa_nil))))) (pss_one ps_never) pss_nil)
      (pss_cons (ps_for PassesOwn.never rfl (pi_tup (pv 1)) (pg_name (i := 2) sc_Disk_fail.nd rfl (.inl rfl))
        (pss_cons (ps_asg (pe_ix ix_list (pe_fld (pv 0) rfl) (pv 2) (fun _ _ => rfl)) (pg_tup (by rfl) (pgs_cons (pg_name (i := 3) sc_Disk_fail.nd rfl (.inl rfl)) (pgs_cons (pg_name (i := 4) sc_Disk_fail.nd rfl (.inl rfl)) pgs_nil))))
        (pss_one (ps_asg (pv 4) (pg_sub (pe_fld (pv 0) rfl) (pv 3) set_list)))))
      (pss_cons (ps_fld (pv 0) (pe_callTy call_list_of (by rfl) T.z_list (by decide +kernel) (pa_cons (pe_fld (pv 0) rfl) pa_nil)) rfl)
      (pss_one (ps_fld (pv 0) (pe_lst pa_nil) rfl)))), ?_⟩
    refine ⟨_, rfl, _, rfl, D.p, T.C_Disk, _, _, _, rfl, hD.ins, T.cl_Disk, T.n_Disk__pending, dF_get2, D.d, ts.map V.ref, rfl, .inl (SqL.of e), kt, ks, ps.length, ?_, hK, ha, _, rfl, iteF ?_⟩
    · rw [List.length_map, pn.1]
      rfl
    refine ⟨_, rfl, kt, rfl, ⟨_, SqT.of hK⟩, for_tup (K := K) (a := kt) (xs := kepV ks) (fun i σ H' => Fr [D.l] H H' ∧ H' D.l = some (.lst (applyK ps ls (ks.take i))) ∧ ∃ (v2 v3 v4 : Option V), σ = [some (.ref D.p), some (.ref kt), v2, v3, v4]) ⟨Fr.refl _ _, hD.ls_, none, none, none, rfl⟩ (fun i σ H' _ e => SqT.of (e.1 _ _ hK (by simpa using ktl))) ?_ ?_⟩
    · rintro i x σ H' hi ⟨fr, el, v2, v3, v4, rfl⟩
      obtain ⟨kk, rfl, hk⟩ := kV_at hi
      have hlt : kk < ps.length := ha.lt i kk hk
      have ep : ps[kk]? = some ps[kk] := List.getElem?_eq_getElem hlt
      have et : ts[kk]? = some (ts[kk]'(by rw [pn.1]; exact hlt)) := List.getElem?_eq_getElem (by rw [pn.1]; exact hlt)
      have etup := pn.2 kk _ _ et ep
      have tl : ts[kk]'(by rw [pn.1]; exact hlt) ≠ D.l := ne_of etup hD.ls_ (by simp)
      have ei := fr _ _ hD.ins (by simpa using pl)
      have ed := fr _ _ e (by simpa using hD.ld.symm)
      have eu := fr _ _ etup (by simpa using tl)
      have hok : ps[kk].1 < (applyK ps ls (ks.take i)).length := by
        rw [applyK_len]
        exact hD.ok _ (List.getElem_mem hlt)
      refine ⟨_, rfl, D.p, T.C_Disk, _, _, _, rfl, ei, T.cl_Disk, T.n_Disk__pending, dF_get2, _, rfl, D.d, ts.map V.ref, (kk : Int), .ref (ts[kk]'(by rw [pn.1]; exact hlt)), rfl, rfl, SqL.of ed, atI_nat (by rw [List.getElem?_map, et]; rfl), ?_⟩
      refine ⟨_, _, rfl, SqT.of eu, rfl, _, _, rfl, _, _, rfl, rfl, ?_⟩
      refine ⟨_, rfl, _, rfl, D.p, T.C_Disk, _, _, _, rfl, ei, T.cl_Disk, T.n_Disk__lasting, dF_get1, _, rfl, D.l, _, (ps[kk].1 : Int), ps[kk].1, rfl, rfl, el, ix_at _ hok, ?_⟩
      refine ⟨fr.trans (Fr.put (by simp)), ?_, _, _, _, rfl⟩
      rw [upd_same, List.take_add_one, hk]
      show _ = some (HO.lst (applyK ps ls (ks.take i ++ [kk])))
      rw [applyK_snoc]
      unfold stepK
      rw [ep]
    · rintro σ H' ⟨fr, el, v2, v3, v4, rfl⟩
      have elen : (kepV ks).length = ks.length := List.length_map _
      rw [elen, List.take_length] at el
      have ei := fr _ _ hD.ins (by simpa using pl)
      have ec := fr _ _ hD.cs_ (by simpa using hD.cl)
      refine ⟨_, rfl, D.p, T.C_Disk, _, _, _, rfl, ei, T.cl_Disk, T.n_Disk__lasting, dF_get1, D.l, _, rfl, .inl (SqL.of el), fun c hc => ?_⟩
      have pc : D.p ≠ c := ne_of_none ei hc
      have lc : D.l ≠ c := ne_of_none el hc
      have c0 : H c = none := by
        cases q : H c with
        | none => rfl
        | some o =>
          rw [fr _ _ q (by simpa using lc.symm)] at hc
          cases hc
      refine ⟨_, rfl, D.p, T.C_Disk, D.dx, _, rfl, Eq.trans (upd_ne pc) ei, T.cl_Disk, T.n_Disk__contents, dF_len, ?_⟩
      rw [dF_put0]
      refine ⟨sz_le (by simp), fun d hd => ?_⟩
      have d1 := free_upd hd
      have d2 := free_upd d1.1
      have ld : D.l ≠ d := ne_of_none el d2.1
      have d0 : H d = none := by
        cases q : H d with
        | none => rfl
        | some o =>
          have := d2.1
          rw [fr _ _ q (by simpa using ld.symm)] at this
          cases this
      refine ⟨_, rfl, D.p, T.C_Disk, D.dx, _, rfl, Eq.trans (upd_ne d1.2.symm) upd_same, T.cl_Disk, T.n_Disk__pending, dF_len, ?_⟩
      rw [dF_put2]
      refine k ⟨D.p, D.dx, c, D.l, d⟩ _ rfl (fun b hb => ?_) ?_ ⟨upd_same, ?_, ?_, ⟨[], ?_, rfl, fun i t q e _ => by simp at e⟩, lc.symm, d2.2.symm, ld, rfl, by rw [applyK_len, ← hD.len]; exact hD.small, fun q hq => by cases hq⟩
      · simp only [Dk.own, List.mem_cons, List.not_mem_nil, or_false] at hb ⊢
        rcases hb with z | z | z | z
        · exact .inl (.inl z)
        · rw [z]; exact .inr c0
        · exact .inl (.inr (.inr (.inl z)))
        · rw [z]; exact .inr d0
      · exact ((((fr.mono (by simp [Dk.own])).trans (Fr.new hc)).trans (Fr.put (by simp [Dk.own]))).trans (Fr.new hd)).trans (Fr.put (by simp [Dk.own]))
      · show (upd _ D.p _) c = _
        rw [upd_ne pc.symm, upd_ne d2.2.symm, upd_ne pc.symm]
        exact upd_same
      · show (upd _ D.p _) D.l = _
        rw [upd_ne pl.symm, upd_ne ld, upd_ne pl.symm, upd_ne lc]
        exact el
      · show (upd _ D.p _) d = _
        rw [upd_ne d1.2]
        exact upd_same
end
section
variable {P : Program} {w : World} {K : PySem.W.Frag} {mg : Str → Option Value} {base : Heap}
theorem ok_contents (T : Gx K mg) : FnOk P w K mg base CX0 1 T.f_Disk_contents T.fd_Disk_contents ["self"] (spContents T.C_Disk) := by
  refine T.F_Disk_contents.ok sc_Disk_contents (fun vs H Q E h => ?_) (fun cdv A outer s H vs Q E hr h => ?_)
  · obtain ⟨D, cs, ls, ps, r, w', s', rfl, _⟩ := h
    rfl
  · obtain ⟨D, cs, ls, ps, r, w', s', rfl, hD, k⟩ := h
    refine ⟨_, pss_one (ps_ret (pe_callTy call_tuple_of (by rfl) T.z_tuple (by decide +kernel) (pa_cons (pe_fld (pv 0) rfl) pa_nil))), ?_⟩
    exact ⟨_, rfl, D.p, T.C_Disk, _, _, _, rfl, hD.ins, T.cl_Disk, T.n_Disk__contents, dF_get0, D.c, cs, rfl, .inl ⟨SqL.of hD.cs_, k⟩⟩
theorem ok_lasting (T : Gx K mg) : FnOk P w K mg base CX0 1 T.f_Disk_lasting T.fd_Disk_lasting ["self"] (spLasting T.C_Disk) := by
  refine T.F_Disk_lasting.ok sc_Disk_lasting (fun vs H Q E h => ?_) (fun cdv A outer s H vs Q E hr h => ?_)
  · obtain ⟨D, cs, ls, ps, r, w', s', rfl, _⟩ := h
    rfl
  · obtain ⟨D, cs, ls, ps, r, w', s', rfl, hD, k⟩ := h
    refine ⟨_, pss_one (ps_ret (pe_callTy call_tuple_of (by rfl) T.z_tuple (by decide +kernel) (pa_cons (pe_fld (pv 0) rfl) pa_nil))), ?_⟩
    exact ⟨_, rfl, D.p, T.C_Disk, _, _, _, rfl, hD.ins, T.cl_Disk, T.n_Disk__lasting, dF_get1, D.l, ls, rfl, .inl ⟨SqL.of hD.ls_, k⟩⟩
theorem ok_pending (T : Gx K mg) : FnOk P w K mg base CX0 1 T.f_Disk_pending T.fd_Disk_pending ["self"] (spPending T.C_Disk) := by
  refine T.F_Disk_pending.ok sc_Disk_pending (fun vs H Q E h => ?_) (fun cdv A outer s H vs Q E hr h => ?_)
  · obtain ⟨D, cs, ls, ps, r, w', s', rfl, _⟩ := h
    rfl
  · obtain ⟨D, cs, ls, ps, r, w', s', rfl, hD, k⟩ := h
    obtain ⟨ts, e, pn⟩ := hD.pend
    refine ⟨_, pss_one (ps_ret (pe_callTy call_list_of (by rfl) T.z_list (by decide +kernel) (pa_cons (pe_fld (pv 0) rfl) pa_nil))), ?_⟩
    exact ⟨_, rfl, D.p, T.C_Disk, _, _, _, rfl, hD.ins, T.cl_Disk, T.n_Disk__pending, dF_get2, D.d, _, rfl, .inl (SqL.of e), fun t ht => k t ts ht pn⟩
end
/-! ### plain contents: None, bools, ints -/
def isF : V → Bool
  | .non => true
  | .bl _ => true
  | .int _ => true
  | _ => false
def toD : V → PyData
  | .non => .none
  | .bl b => .bool b
  | .int i => .int i
  | _ => .none
def AllF (xs : List V) : Prop := ∀ v ∈ xs, isF v = true
theorem dpAll_flat {K : PySem.W.Frag} {H : Hp} : ∀ {xs : List V}, AllF xs → DpAll K H xs (xs.map toD)
  | [], _ => .nil
  | x :: r, h => by
    refine .cons ?_ (dpAll_flat fun v hv => h v (List.mem_cons_of_mem _ hv))
    have hx := h x List.mem_cons_self
    cases x with
    | non => exact .non
    | bl b => exact .bl b
    | int i => exact .int i
    | str _ => cases hx
    | byt _ => cases hx
    | flt _ => cases hx
    | ref _ => cases hx
    | ty _ => cases hx
theorem lay_flat : ∀ xs : List V, PyData.canLayAll0 (xs.map toD) = true
  | [] => rfl
  | x :: r => by
    show (PyData.canLay0 (toD x) && PyData.canLayAll0 (r.map toD)) = true
    rw [lay_flat r]
    cases x <;> rfl
theorem dep_flat : ∀ xs : List V, PyData.depthAll (xs.map toD) ≤ 1
  | [] => by simp [PyData.depthAll]
  | x :: r => by
    have h := dep_flat r
    show PyData.depthAll (toD x :: r.map toD) ≤ 1
    simp only [PyData.depthAll]
    have hx : PyData.depth (toD x) ≤ 1 := by cases x <;> simp [toD, PyData.depth]
    omega
theorem shaped_tup (xs : List V) : SeqAt.shaped (.tuple (xs.map toD)) = true := by
  unfold SeqAt.shaped
  rw [Bool.and_eq_true, decide_eq_true_eq]
  refine ⟨lay_flat xs, ?_⟩
  have := dep_flat xs
  simp only [PyData.depth]
  omega
theorem shaped_lst (xs : List V) : SeqAt.shaped (.list (xs.map toD)) = true := by
  unfold SeqAt.shaped
  rw [Bool.and_eq_true, decide_eq_true_eq]
  refine ⟨lay_flat xs, ?_⟩
  have := dep_flat xs
  simp only [PyData.depth]
  omega
theorem eqv_tup (xs : List V) : PyData.eqv (.tuple (xs.map toD)) (.tuple (xs.map toD)) = true := SeqAt.eqv_refl _ (lay_flat xs)
theorem eqv_lst (xs : List V) : PyData.eqv (.list (xs.map toD)) (.list (xs.map toD)) = true := SeqAt.eqv_refl _ (lay_flat xs)
theorem AllF.set {xs : List V} {v : V} (h : AllF xs) (hv : isF v = true) (i : Nat) : AllF (xs.set i v) := fun u hu => by
  rcases List.mem_or_eq_of_mem_set hu with z | z
  · exact h u z
  · rw [z]
    exact hv
theorem AllF.rep (n : Nat) {v : V} (hv : isF v = true) : AllF (List.replicate n v) := fun u hu => by
  rw [List.eq_of_mem_replicate hu]
  exact hv
theorem Asc.mono {m m' : Nat} (h : m ≤ m') : ∀ {lo : Nat} {ks : List Nat}, Asc m lo ks → Asc m' lo ks
  | _, [], _ => trivial
  | _, _ :: _, ⟨a, b, c⟩ => ⟨a, by omega, Asc.mono h c⟩
theorem Asc.snoc {m : Nat} : ∀ {lo : Nat} {ks : List Nat}, Asc m lo ks → lo ≤ m → Asc (m + 1) lo (ks ++ [m])
  | lo, [], _, h => ⟨h, Nat.lt_succ_self _, trivial⟩
  | lo, k :: r, ⟨a, b, c⟩, h => ⟨a, by omega, Asc.snoc c (by omega)⟩
theorem kepV_len (ks : List Nat) : (kepV ks).length = ks.length := List.length_map _
/-! ### what is kept, as writes -/
def applyAll (ps : List (Nat × V)) (ls : List V) : List V := ps.foldl (fun l q => l.set q.1 q.2) ls
def pick (ps : List (Nat × V)) (ks : List Nat) : List (Nat × V) := ks.filterMap (ps[·]?)
theorem pick_snoc {ps : List (Nat × V)} {ks : List Nat} {k : Nat} {q : Nat × V} (e : ps[k]? = some q) : pick ps (ks ++ [k]) = pick ps ks ++ [q] := by
  unfold pick
  rw [List.filterMap_append]
  congr 1
  simp [e]
theorem pick_len (ps : List (Nat × V)) (ks : List Nat) : (pick ps ks).length ≤ ks.length := List.length_filterMap_le _ _
theorem pick_mem {ps : List (Nat × V)} {ks : List Nat} {q : Nat × V} (h : q ∈ pick ps ks) : q ∈ ps := by
  obtain ⟨k, _, e⟩ := List.mem_filterMap.mp h
  exact List.mem_of_getElem? e
theorem applyK_pick (ps : List (Nat × V)) : ∀ (ks : List Nat) (ls : List V), applyK ps ls ks = applyAll (pick ps ks) ls
  | [], _ => rfl
  | k :: r, ls => by
    show applyK ps (stepK ps ls k) r = _
    rw [applyK_pick ps r]
    unfold pick stepK
    cases e : ps[k]? with
    | none => simp [e]
    | some q => simp [e, applyAll]
theorem applyAll_snoc (ps : List (Nat × V)) (q : Nat × V) (ls : List V) : applyAll (ps ++ [q]) ls = (applyAll ps ls).set q.1 q.2 := by
  unfold applyAll
  rw [List.foldl_append]
  rfl
theorem pick_all : ∀ ps : List (Nat × V), pick ps (List.range ps.length) = ps := by
  intro ps
  unfold pick
  apply List.ext_getElem?
  intro i
  have key : ∀ n, n ≤ ps.length → (List.range n).filterMap (ps[·]?) = ps.take n := by
    intro n
    induction n with
    | zero => intro _; simp
    | succ n ih =>
      intro h
      rw [List.range_succ, List.filterMap_append, ih (by omega), List.take_add_one]
      congr 1
  rw [key ps.length (Nat.le_refl _), List.take_length]
theorem applyK_all (ps : List (Nat × V)) (ls : List V) : applyK ps ls (List.range ps.length) = applyAll ps ls := by
  rw [applyK_pick, pick_all]
theorem applyAll_len (ps : List (Nat × V)) : ∀ ls : List V, (applyAll ps ls).length = ls.length := by
  induction ps with
  | nil => intro _; rfl
  | cons q r ih =>
    intro ls
    show (applyAll r (ls.set q.1 q.2)).length = _
    rw [ih, List.length_set]
theorem asc_range (n : Nat) : Asc n 0 (List.range n) := by
  induction n with
  | zero => exact trivial
  | succ n ih =>
    rw [List.range_succ]
    exact ih.snoc (Nat.zero_le _)
theorem rgV_kept (n : Nat) : rgV 0 (n : Int) = kepV (List.range n) := by
  unfold rgV kepV
  rw [Int.sub_zero, Int.toNat_natCast]
  congr 1
  funext i
  rw [Int.zero_add]
theorem applyAll_F {ps : List (Nat × V)} (hp : ∀ q ∈ ps, isF q.2 = true) : ∀ {ls : List V}, AllF ls → AllF (applyAll ps ls) := by
  induction ps with
  | nil => intro _ h; exact h
  | cons q r ih =>
    intro ls h
    exact ih (fun u hu => hp u (List.mem_cons_of_mem _ hu)) (h.set (hp q List.mem_cons_self) _)
/-! ### what is new stands apart -/
theorem made_fr {H H' : Hp} {p dx C : Addr} (hp : H p = none) (hdx : H dx = none) (f : Fr [p] (upd (upd H dx (.own p)) p (.ins C dx [])) H') : Fr [] H H' := fun b o e _ => by
  have n1 : b ≠ p := ne_of_none e hp
  have n2 : b ≠ dx := ne_of_none e hdx
  exact f b o (by rw [upd_ne n1, upd_ne n2]; exact e) (by simpa using n1)
theorem made_none {H : Hp} {p dx C b : Addr} (h : (upd (upd H dx (.own p)) p (.ins C dx [])) b = none) : H b = none := (free_upd (free_upd h).1).1
theorem out_of_new {H : Hp} {S : List Addr} {r : Addr} {o : HO} (e : H r = some o) (n : ∀ b ∈ S, H b = none) : r ∉ S := fun h => by
  rw [n r h] at e
  cases e
theorem out_of_grow {H : Hp} {S S' : List Addr} {r : Addr} {o : HO} (e : H r = some o) (hr : r ∉ S) (g : ∀ b ∈ S', b ∈ S ∨ H b = none) : r ∉ S' := fun h => by
  rcases g r h with z | z
  · exact hr z
  · rw [z] at e
    cases e
theorem Rnd.some {H : Hp} {r : Addr} (h : Rnd H r) : ∃ o, H r = some o := by
  obtain ⟨a, b, ns, e⟩ := h
  exact ⟨_, e⟩
theorem Rnd.new {H : Hp} {r p : Addr} {o : HO} (h : Rnd H r) (hp : H p = none) : Rnd (upd H p o) r := h.keep (S := []) (Fr.new hp) (by simp)
theorem DiskAt.new {C : Addr} {H : Hp} {D : Dk} {cs ls : List V} {ps : List (Nat × V)} {r w s : Int} {p : Addr} {o : HO} (h : DiskAt C H D cs ls ps r w s) (hp : H p = none) : DiskAt C (upd H p o) D cs ls ps r w s := h.keep (S := []) (Fr.new hp) (by simp) (by simp)
theorem DiskAt.draw {C : Addr} {H H' : Hp} {D : Dk} {cs ls : List V} {ps : List (Nat × V)} {r w s : Int} {x : Addr} (h : DiskAt C H D cs ls ps r w s) (hR : Rnd H x) (n : x ∉ D.own) (f : Fr [x] H H') : DiskAt C H' D cs ls ps r w s :=
  h.keep f (fun b hb hx => n (by rw [← List.mem_singleton.mp hx]; exact hb)) hR.notup
theorem DiskAt.other {C : Addr} {H H' : Hp} {D T : Dk} {cs ls cs' ls' : List V} {ps ps' : List (Nat × V)} {r w s r' w' s' : Int} (h : DiskAt C H D cs ls ps r w s) (hT : DiskAt C H T cs' ls' ps' r' w' s') (n : Sep D.own T.own) (f : Fr T.own H H') : DiskAt C H' D cs ls ps r w s :=
  h.keep f (fun b hb => n b hb) hT.notup
/-! ### len of a set of tuples -/
theorem cr_lenSetT {X : Cx} : CallR X (.builtin "len") (fun xs H Q => ∃ (a : Addr) (L : List (Addr × List Int)), xs = [.ref a] ∧ H a = some (SetTO X.prog X.w a L) ∧ (∀ p ∈ L, SqT X.K H p.1 (p.2.map V.int)) ∧ ((L.map (·.2)).Nodup → Q (.int (L.length : Nat)) H)) := by
  intro pins s σ H xs us Q I r h
  obtain ⟨a, L, rfl, ha, hk, q⟩ := h
  rw [Vals.ref1 r]
  have ob : SetT0 X.prog X.w s.heap a L := (I.hok a _ ha).1
  obtain ⟨es, ep, t, R⟩ := ob.full (fun p hp => I.isT (hk p hp))
  obtain ⟨o, ho, hex, hd⟩ := R.ob
  refine call_len_set ho hex hd R.fits ?_ ⟨.int L.length, H, I.tok _, ⟨_, by rw [R.size]⟩, q R.nd⟩
  rw [R.size]
  have := R.few
  omega
theorem one_of_all {L : List (Addr × List Int)} {ns : List Int} (h1 : ∀ p ∈ L, p.2 = ns) (h2 : ns ∈ L.map (·.2)) (nd : (L.map (·.2)).Nodup) : L.length = 1 := by
  match L, h1, h2, nd with
  | [], _, h2, _ => cases h2
  | [_], _, _, _ => rfl
  | p :: q :: r, h1, _, nd =>
    exfalso
    have e1 := h1 p List.mem_cons_self
    have e2 := h1 q (List.mem_cons_of_mem _ List.mem_cons_self)
    have := (List.nodup_cons.mp nd).1
    apply this
    show p.2 ∈ q.2 :: _
    rw [e1, e2]
    exact List.mem_cons_self
/-! ### the law -/
def spLaw (K : PySem.W.Frag) : Sp := fun vs H Q _ => ∃ (a : Addr) (ns : List Int), vs = [.ref a] ∧ SqL K H a (ns.map V.int) ∧ ns.length ≤ 63 ∧ ∀ H', Q (.bl true) H'
def iV (ns : List Int) : List V := ns.map V.int
theorem iV_set (ns : List Int) (i : Nat) (v : Int) : (iV ns).set i (.int v) = iV (ns.set i v) := List.map_set.symm
theorem iV_F (ns : List Int) : AllF (iV ns) := fun v hv => by
  obtain ⟨i, _, rfl⟩ := List.mem_map.mp hv
  rfl
theorem iV_len (ns : List Int) : (iV ns).length = ns.length := List.length_map _
/-- one disk, its counts untold -/
def Dsk (C : Addr) (H : Hp) (D : Dk) (cs ls : List V) (ps : List (Nat × V)) : Prop := ∃ a b c, DiskAt C H D cs ls ps a b c
/-- the list of the disks, the random list, the disks: who stands where -/
structure Apart (r l : Addr) (D0 D1 D2 : Dk) : Prop where
  s01 : Sep D0.own D1.own
  s02 : Sep D0.own D2.own
  s12 : Sep D1.own D2.own
  r0 : r ∉ D0.own
  r1 : r ∉ D1.own
  r2 : r ∉ D2.own
  l0 : l ∉ D0.own
  l1 : l ∉ D1.own
  l2 : l ∉ D2.own
  lr : l ≠ r
structure T3 (C : Addr) (H : Hp) (r l : Addr) (p0 p1 p2 : Addr) (D0 D1 D2 : Dk) (c0 k0 : List V) (q0 : List (Nat × V)) (c1 k1 : List V) (q1 : List (Nat × V)) (c2 k2 : List V) (q2 : List (Nat × V)) : Prop where
  rnd : Rnd H r
  lst : H l = some (.lst [.ref p0, .ref p1, .ref p2])
  e0 : D0.p = p0
  e1 : D1.p = p1
  e2 : D2.p = p2
  d0 : Dsk C H D0 c0 k0 q0
  d1 : Dsk C H D1 c1 k1 q1
  d2 : Dsk C H D2 c2 k2 q2
  ap : Apart r l D0 D1 D2
section
variable {C : Addr} {H H' : Hp} {r l p0 p1 p2 : Addr} {D D' D0 D1 D2 : Dk} {cs ls c0 k0 c1 k1 c2 k2 : List V} {ps q0 q1 q2 : List (Nat × V)}
theorem Dsk.keep0 (h : Dsk C H D cs ls ps) (f : Fr [] H H') : Dsk C H' D cs ls ps := by
  obtain ⟨a, b, c, h⟩ := h
  exact ⟨a, b, c, h.keep f (by simp) (by simp)⟩
theorem Dsk.draw {x : Addr} (h : Dsk C H D cs ls ps) (hR : Rnd H x) (n : x ∉ D.own) (f : Fr [x] H H') : Dsk C H' D cs ls ps := by
  obtain ⟨a, b, c, h⟩ := h
  exact ⟨a, b, c, h.draw hR n f⟩
theorem Dsk.other {T : Dk} {cs' ls' : List V} {ps' : List (Nat × V)} {r' w' s' : Int} (h : Dsk C H D cs ls ps) (hT : DiskAt C H T cs' ls' ps' r' w' s') (n : Sep D.own T.own) (f : Fr T.own H H') : Dsk C H' D cs ls ps := by
  obtain ⟨a, b, c, h⟩ := h
  exact ⟨a, b, c, h.other hT n f⟩
theorem Dsk.there (h : Dsk C H D cs ls ps) : ∀ b ∈ D.own, ∃ o, H b = some o := by
  obtain ⟨a, b, c, h⟩ := h
  exact h.there
theorem T3.keep0 (W : T3 C H r l p0 p1 p2 D0 D1 D2 c0 k0 q0 c1 k1 q1 c2 k2 q2) (f : Fr [] H H') : T3 C H' r l p0 p1 p2 D0 D1 D2 c0 k0 q0 c1 k1 q1 c2 k2 q2 :=
  ⟨W.rnd.keep f (by simp), f _ _ W.lst (by simp), W.e0, W.e1, W.e2, W.d0.keep0 f, W.d1.keep0 f, W.d2.keep0 f, W.ap⟩
theorem T3.new {p : Addr} {o : HO} (W : T3 C H r l p0 p1 p2 D0 D1 D2 c0 k0 q0 c1 k1 q1 c2 k2 q2) (hp : H p = none) : T3 C (upd H p o) r l p0 p1 p2 D0 D1 D2 c0 k0 q0 c1 k1 q1 c2 k2 q2 := W.keep0 (Fr.new hp)
theorem T3.draw (W : T3 C H r l p0 p1 p2 D0 D1 D2 c0 k0 q0 c1 k1 q1 c2 k2 q2) (f : Fr [r] H H') (R : Rnd H' r) : T3 C H' r l p0 p1 p2 D0 D1 D2 c0 k0 q0 c1 k1 q1 c2 k2 q2 :=
  ⟨R, f _ _ W.lst (by simpa using W.ap.lr), W.e0, W.e1, W.e2, W.d0.draw W.rnd W.ap.r0 f, W.d1.draw W.rnd W.ap.r1 f, W.d2.draw W.rnd W.ap.r2 f, W.ap⟩
/-- the first | second | third disk does something -/
theorem T3.at0 {cs' ls' : List V} {ps' : List (Nat × V)} {a b c a' b' c' : Int} (W : T3 C H r l p0 p1 p2 D0 D1 D2 c0 k0 q0 c1 k1 q1 c2 k2 q2) (h : DiskAt C H D0 c0 k0 q0 a b c) (f : Fr D0.own H H') (e : D'.p = D0.p) (g : ∀ b ∈ D'.own, b ∈ D0.own ∨ H b = none) (h' : DiskAt C H' D' cs' ls' ps' a' b' c') :
    T3 C H' r l p0 p1 p2 D' D1 D2 cs' ls' ps' c1 k1 q1 c2 k2 q2 :=
  ⟨W.rnd.keep f W.ap.r0, f _ _ W.lst W.ap.l0, e.trans W.e0, W.e1, W.e2, ⟨_, _, _, h'⟩, W.d1.other h W.ap.s01.symm f, W.d2.other h W.ap.s02.symm f,
    ⟨W.ap.s01.grow g W.d1.there, W.ap.s02.grow g W.d2.there, W.ap.s12, W.rnd.some.elim fun _ z => out_of_grow z W.ap.r0 g, W.ap.r1, W.ap.r2, out_of_grow W.lst W.ap.l0 g, W.ap.l1, W.ap.l2, W.ap.lr⟩⟩
theorem T3.at1 {cs' ls' : List V} {ps' : List (Nat × V)} {a b c a' b' c' : Int} (W : T3 C H r l p0 p1 p2 D0 D1 D2 c0 k0 q0 c1 k1 q1 c2 k2 q2) (h : DiskAt C H D1 c1 k1 q1 a b c) (f : Fr D1.own H H') (e : D'.p = D1.p) (g : ∀ b ∈ D'.own, b ∈ D1.own ∨ H b = none) (h' : DiskAt C H' D' cs' ls' ps' a' b' c') :
    T3 C H' r l p0 p1 p2 D0 D' D2 c0 k0 q0 cs' ls' ps' c2 k2 q2 :=
  ⟨W.rnd.keep f W.ap.r1, f _ _ W.lst W.ap.l1, W.e0, e.trans W.e1, W.e2, W.d0.other h W.ap.s01 f, ⟨_, _, _, h'⟩, W.d2.other h W.ap.s12.symm f,
    ⟨(W.ap.s01.symm.grow g W.d0.there).symm, W.ap.s02, W.ap.s12.grow g W.d2.there, W.ap.r0, W.rnd.some.elim fun _ z => out_of_grow z W.ap.r1 g, W.ap.r2, W.ap.l0, out_of_grow W.lst W.ap.l1 g, W.ap.l2, W.ap.lr⟩⟩
theorem T3.at2 {cs' ls' : List V} {ps' : List (Nat × V)} {a b c a' b' c' : Int} (W : T3 C H r l p0 p1 p2 D0 D1 D2 c0 k0 q0 c1 k1 q1 c2 k2 q2) (h : DiskAt C H D2 c2 k2 q2 a b c) (f : Fr D2.own H H') (e : D'.p = D2.p) (g : ∀ b ∈ D'.own, b ∈ D2.own ∨ H b = none) (h' : DiskAt C H' D' cs' ls' ps' a' b' c') :
    T3 C H' r l p0 p1 p2 D0 D1 D' c0 k0 q0 c1 k1 q1 cs' ls' ps' :=
  ⟨W.rnd.keep f W.ap.r2, f _ _ W.lst W.ap.l2, W.e0, W.e1, e.trans W.e2, W.d0.other h W.ap.s02 f, W.d1.other h W.ap.s12 f, ⟨_, _, _, h'⟩,
    ⟨W.ap.s01, (W.ap.s02.symm.grow g W.d0.there).symm, (W.ap.s12.symm.grow g W.d1.there).symm, W.ap.r0, W.ap.r1, W.rnd.some.elim fun _ z => out_of_grow z W.ap.r2 g, W.ap.l0, W.ap.l1, out_of_grow W.lst W.ap.l2 g, W.ap.lr⟩⟩
theorem Dk.same_own : ∀ b ∈ D.own, b ∈ D.own ∨ H b = none := fun _ h => .inl h
end
/-- the disks made so far -/
structure Mk3 (C : Addr) (H : Hp) (r l : Addr) (n : Nat) (Ds : List Dk) : Prop where
  rnd : Rnd H r
  lst : H l = some (.lst (Ds.map fun D => V.ref D.p))
  ds : ∀ D ∈ Ds, DiskAt C H D (List.replicate n (.int 1)) (List.replicate n (.int 1)) [] 0 0 0
  sep : Ds.Pairwise fun D E => Sep D.own E.own
  rn : ∀ D ∈ Ds, r ∉ D.own
  ln : ∀ D ∈ Ds, l ∉ D.own
  lr : l ≠ r
section
variable {P : Program} {w : World} {K : PySem.W.Frag} {mg : Str → Option Value} {base : Heap}
theorem ok_law {f : Addr} {fd : FuncData} (F : Fun K "law" "law" s_law f fd) (T : Gx K mg) : FnOk P w K mg base CX0 6 f fd ["_law_script"] (spLaw K) := by
  have G__law_below : FnOk P w K mg base CX0 1 T.f__law_below T.fd__law_below ["_law_d", "_law_limit"] spBelow := ok_below T
  have G__law_random : FnOk P w K mg base CX0 1 T.f__law_random T.fd__law_random ["_law_script", "_law_salt"] (spRandom K) := ok_random T
  have G_Disk___init__ : FnOk P w K mg base CX0 3 T.f_Disk___init__ T.fd_Disk___init__ ["self", "cells", "content"] (spInit T.C_Disk) := ok_init T
  have G_Disk_write : FnOk P w K mg base CX0 4 T.f_Disk_write T.fd_Disk_write ["self", "cell", "content"] (spWrite T.C_Disk) := ok_write T
  have G_Disk_sync : FnOk P w K mg base CX0 1 T.f_Disk_sync T.fd_Disk_sync ["self"] (spSync T.C_Disk) := ok_sync T
  have G_Disk_fail : FnOk P w K mg base CX0 4 T.f_Disk_fail T.fd_Disk_fail ["self", "kept"] (spFail T.C_Disk) := ok_fail T
  have G_Disk_contents : FnOk P w K mg base CX0 1 T.f_Disk_contents T.fd_Disk_contents ["self"] (spContents T.C_Disk) := ok_contents T
  have G_Disk_lasting : FnOk P w K mg base CX0 1 T.f_Disk_lasting T.fd_Disk_lasting ["self"] (spLasting T.C_Disk) := ok_lasting T
  have G_Disk_pending : FnOk P w K mg base CX0 1 T.f_Disk_pending T.fd_Disk_pending ["self"] (spPending T.C_Disk) := ok_pending T
  obtain ⟨_, kb_Disk⟩ := T.F_Disk___init__.kbinds0 (ps := ["self", "cells", "content"]) 2 ["content"] [] (fun vs mz zs => vs ++ zs) (by simp) (by simp) (fun a _ b => a.append b)
    (fun D doc pm an cdv ct us mv ws hu hm hw => match us, hu, mv, hm, ws, hw with | [_, _], _, [], _, [_], _ => rfl)
  refine F.ok sc_law (fun vs H Q E h => ?_) (fun cdv A outer s H vs Q E hr h => ?_)
  · obtain ⟨a, ns, rfl, _⟩ := h
    rfl
  · obtain ⟨a, ns, rfl, hS, hlen, k⟩ := h
    refine ⟨_, (pss_cons (ps_set (i := 1) sc_law.nd rfl (.inl rfl) (pe_call G__law_random (hr.mono (by first | decide | omega)) (by rfl) T.g__law_random T.F__law_random.kp (b__law_random T) .nil pass0 (pa_cons (pv 0) (pa_cons pe_int pa_nil))))
      (pss_cons (ps_for PassesOwn.never rfl (pi_range1 (by rfl) T.z_range (pa_cons pe_int pa_nil)) (pg_name (i := 2) sc_law.nd rfl (.inl rfl)) (pss_cons (ps_set (i := 3) sc_law.nd rfl (.inr rfl) (pe_op op_add pe_int (pe_call G__law_below (hr.mono (by first | decide | omega)) (by rfl) T.g__law_below T.F__law_below.kp (b__law_below T) .nil pass0 (pa_cons (pv 1) (pa_cons pe_int pa_nil)))))
      (pss_cons (ps_setLc (i := 4) (own := [("_law_k", 11)]) (g := gName 11) rfl sc_law.nd rfl rfl (sw_true rfl rfl rfl (by decide +kernel)) (pi_range1 (by rfl) T.z_range (pa_cons pe_int pa_nil)) (blkOk_by (N := ["_law_script", "_law_d", "_law_step", "_law_cells", "_law_disks", "_law_turn", "_law_cell", "_law_what", "_law_disk", "_law_many", "_law_lasting", "_law_k"]) (sc := defScope s_law) (by decide +kernel)) (fun _ _ _ _ _ => pg_name (i := 11) sc_law.nd rfl (.inl rfl)) (fun _ _ _ _ _ => pts_nil) (fun _ _ _ _ _ => (pe_makeK T.M_Disk___init__ G_Disk___init__ (hr.mono (by first | decide | omega)) (by rfl) T.gC_Disk kb_Disk pass0 (pa_cons (pv 3) pa_nil) (pk_cons pe_int pk_nil))))
      (pss_cons (ps_for PassesOwn.never rfl (pi_range1 (by rfl) T.z_range (pa_cons (pe_call G__law_below (hr.mono (by first | decide | omega)) (by rfl) T.g__law_below T.F__law_below.kp (b__law_below T) .nil pass0 (pa_cons (pv 1) (pa_cons pe_int pa_nil))) pa_nil)) (pg_name (i := 5) sc_law.nd rfl (.inl rfl)) (pss_cons (ps_par (i := 6) (j := 7) (by rfl) sc_law.nd rfl rfl (by decide) rfl rfl (pa_cons (pe_call G__law_below (hr.mono (by first | decide | omega)) (by rfl) T.g__law_below T.F__law_below.kp (b__law_below T) .nil pass0 (pa_cons (pv 1) (pa_cons (pv 3) pa_nil))) (pa_cons (pe_call G__law_below (hr.mono (by first | decide | omega)) (by rfl) T.g__law_below T.F__law_below.kp (b__law_below T) .nil pass0 (pa_cons (pv 1) (pa_cons pe_int pa_nil))) pa_nil)) (by rfl))
      (pss_cons (ps_for PassesOwn.never rfl (pi_list (pv 4)) (pg_name (i := 8) sc_law.nd rfl (.inl rfl)) (pss_one (ps_expr (pe_meth (pv 8) T.cl_Disk T.m_Disk_write G_Disk_write (hr.mono (by first | decide | omega)) (b_Disk_write T) .nil pass0 (pa_cons (pv 6) (pa_cons (pv 7) pa_nil))))))
      (pss_cons (ps_expr (pe_meth0 (pe_ix ix_list (pv 4) pe_int (fun _ _ => rfl)) T.cl_Disk T.m_Disk_sync G_Disk_sync (hr.mono (by first | decide | omega)) (b_Disk_sync T) .nil pass0))
      (C8.pss_cut (ps_if (pt_cmpR op_eq (pe_call G__law_below (hr.mono (by first | decide | omega)) (by rfl) T.g__law_below T.F__law_below.kp (b__law_below T) .nil pass0 (pa_cons (pv 1) (pa_cons pe_int pa_nil))) pe_int (nomark _)) (pss_one (ps_expr (pe_meth0 (pe_ix ix_list (pv 4) pe_int (fun _ _ => rfl)) T.cl_Disk T.m_Disk_sync G_Disk_sync (hr.mono (by first | decide | omega)) (b_Disk_sync T) .nil pass0))) pss_nil)
      (pss_one (ps_if (PW.pt (pw_or (pt_cmpR op_ne (pe_callB cr_lenSetT (by rfl) T.z_len (by decide +kernel) (pa_cons (pe_callTy (cr_setOfT rfl hr.units) (by rfl) T.z_set (by decide +kernel) (pa_cons (pe_lc (own := [("_law_disk", 8)]) (g := gName 8) rfl sc_law.nd (pi_list (pv 4)) (blkOk_by (N := ["_law_script", "_law_d", "_law_step", "_law_cells", "_law_disks", "_law_turn", "_law_cell", "_law_what", "_law_disk", "_law_many", "_law_lasting", "_law_k"]) (sc := defScope s_law) (by decide +kernel)) (fun _ _ _ _ _ => pg_name (i := 8) sc_law.nd rfl (.inl rfl)) (fun _ _ _ _ _ => pts_nil) (fun _ _ _ _ _ => (pe_prop (pv 8) T.cl_Disk T.P_Disk_contents G_Disk_contents (hr.mono (by first | decide | omega)) (b_Disk_contents T) .nil pass0 rfl))) pa_nil)) pa_nil)) pe_int (nomark _)) (pw_or1 (pt_cmpR (op_neD hr.units) (pe_prop (pe_ix ix_list (pv 4) pe_int (fun _ _ => rfl)) T.cl_Disk T.P_Disk_lasting G_Disk_lasting (hr.mono (by first | decide | omega)) (b_Disk_lasting T) .nil pass0 rfl) (pe_prop (pe_ix ix_list (pv 4) pe_int (fun _ _ => rfl)) T.cl_Disk T.P_Disk_contents G_Disk_contents (hr.mono (by first | decide | omega)) (b_Disk_contents T) .nil pass0 rfl) (nomark _))))) (pss_one (ps_ret pe_bl)) pss_nil)))))))
      (pss_cons (ps_set (i := 9) sc_law.nd rfl (.inl rfl) (pe_callB call_len_seq (by rfl) T.z_len (by decide +kernel) (pa_cons (pe_prop (pe_ix ix_list (pv 4) pe_int (fun _ _ => rfl)) T.cl_Disk T.P_Disk_pending G_Disk_pending (hr.mono (by first | decide | omega)) (b_Disk_pending T) .nil pass0 rfl) pa_nil)))
      (pss_cons (ps_expr (pe_meth (pe_ix ix_list (pv 4) pe_int (fun _ _ => rfl)) T.cl_Disk T.m_Disk_fail G_Disk_fail (hr.mono (by first | decide | omega)) (b_Disk_fail T) .nil pass0 (pa_cons (pe_tupRg rfl (by rfl) T.z_tuple (prg_1 (by rfl) T.z_range (pv 9))) pa_nil)))
      (pss_cons (ps_set (i := 10) sc_law.nd rfl (.inl rfl) (pe_prop (pe_ix ix_list (pv 4) pe_int (fun _ _ => rfl)) T.cl_Disk T.P_Disk_lasting G_Disk_lasting (hr.mono (by first | decide | omega)) (b_Disk_lasting T) .nil pass0 rfl))
      (pss_cons (ps_expr (pe_meth (pe_ix ix_list (pv 4) pe_int (fun _ _ => rfl)) T.cl_Disk T.m_Disk_fail G_Disk_fail (hr.mono (by first | decide | omega)) (b_Disk_fail T) .nil pass0 (pa_cons (pe_tup pa_nil) pa_nil)))
      (pss_one (ps_if (PW.pt (pw_or (pt_cmpR (op_neD hr.units) (pe_prop (pe_ix ix_list (pv 4) pe_int (fun _ _ => rfl)) T.cl_Disk T.P_Disk_lasting G_Disk_lasting (hr.mono (by first | decide | omega)) (b_Disk_lasting T) .nil pass0 rfl) (pe_prop (pe_ix ix_list (pv 4) pe_int (fun _ _ => rfl)) T.cl_Disk T.P_Disk_lasting G_Disk_lasting (hr.mono (by first | decide | omega)) (b_Disk_lasting T) .nil pass0 rfl) (nomark _)) (pw_or (pt_cmpR (op_neD hr.units) (pe_prop (pe_ix ix_list (pv 4) pe_int (fun _ _ => rfl)) T.cl_Disk T.P_Disk_contents G_Disk_contents (hr.mono (by first | decide | omega)) (b_Disk_contents T) .nil pass0 rfl) (pv 10) (nomark _)) (pw_or1 (pt_cmpR (op_neD hr.units) (pe_prop (pe_ix ix_list (pv 4) pe_int (fun _ _ => rfl)) T.cl_Disk T.P_Disk_pending G_Disk_pending (hr.mono (by first | decide | omega)) (b_Disk_pending T) .nil pass0 rfl) (pe_lst pa_nil) (nomark _)))))) (pss_one (ps_ret pe_bl)) pss_nil))))))))))
      (pss_one (ps_ret pe_bl)))), ?_⟩
    -- the random list
    refine ⟨_, rfl, a, 4, ns, rfl, hS, hlen, fun r H1 r0 f1 R1 => ?_⟩
    refine ⟨3, rfl, by decide, by decide, for_range (lo := 0) (n := 3) (fun i σ H' => ∃ (v2 v3 v4 v5 v6 v7 v8 v9 v10 v11 : Option V), σ = [some (.ref a), some (.ref r), v2, v3, v4, v5, v6, v7, v8, v9, v10, v11] ∧ Rnd H' r)
      ⟨_, _, _, _, _, _, _, _, _, _, rfl, R1⟩ ?_ (fun σ H' h => by obtain ⟨_, _, _, _, _, _, _, _, _, _, rfl, _⟩ := h; exact k _)⟩
    clear R1 f1 r0
    rintro i σ H2 hi ⟨v2, v3, v4, v5, v6, v7, v8, v9, v10, v11, rfl, R2⟩
    -- cells
    refine ⟨_, rfl, r, 6, rfl, R2, by decide, by decide, fun z H3 hz f3 R3 => ⟨_, _, rfl, rfl, ?_⟩⟩
    obtain ⟨n, hn, hn1, hn2⟩ : ∃ n : Nat, (1 : Int) + (z : Int) = (n : Int) ∧ 1 ≤ n ∧ n ≤ 6 := ⟨1 + z, by omega, by omega, by omega⟩
    show gName 3 (V.int ((1 : Int) + (z : Int))) _ _ _
    rw [hn]
    have R3' : Rnd H3 r := R3
    -- the disks
    refine ⟨3, rfl, by decide, by decide, fun l hl => ?_⟩
    have lr : l ≠ r := by
      obtain ⟨o, e⟩ := R3.some
      exact (ne_of_none e hl).symm
    refine lc_range (lo := 0) (n := 3) (fun i H' => ∃ Ds : List Dk, Ds.length = i ∧ Mk3 T.C_Disk H' r l n Ds) ⟨[], rfl, R3.new hl, upd_same, fun D hD => (by cases hD), .nil, fun D hD => (by cases hD), fun D hD => (by cases hD), lr⟩ ?_ ?_
    · rintro j H4 hj ⟨Ds, hDs, M⟩
      refine ⟨rfl, _, rfl, rfl, rfl, fun p dx hp hdx hne => ⟨p, dx, n, .int 1, rfl, hn1, by omega, upd_same, fun D H5 eD f5 hD c0 l0 d0 => ⟨rfl, ?_⟩⟩⟩
      have g5 := made_fr hp hdx f5
      have nD : ∀ b ∈ D.own, H4 b = none := fun b hb => by
        simp only [Dk.own, List.mem_cons, List.not_mem_nil, or_false] at hb
        rcases hb with e | e | e | e
        · rw [e, eD]; exact hp
        · rw [e]; exact made_none c0
        · rw [e]; exact made_none l0
        · rw [e]; exact made_none d0
      have lD : l ∉ D.own := out_of_new M.lst nD
      have rD : r ∉ D.own := M.rnd.some.elim fun _ e => out_of_new e nD
      have el := g5 _ _ M.lst (by simp)
      refine ⟨_, el, ?_, Ds ++ [D], by rw [List.length_append, hDs]; rfl, ?_⟩
      · rw [List.length_map]
        exact sz_lt (by omega)
      · have f6 : Fr [l] H5 (upd H5 l (.lst (Ds.map (fun D => V.ref D.p) ++ [.ref p]))) := Fr.put (by simp)
        have lt : ∀ b ∈ [l], ∀ xs, H5 b ≠ some (.tup xs) := fun b hb xs => by
          rw [List.mem_singleton.mp hb, el]
          simp
        refine ⟨(M.rnd.keep g5 (by simp)).keep f6 (by simpa using lr.symm), by rw [upd_same, List.map_append, ← eD]; rfl, fun E hE => ?_, ?_, fun E hE => ?_, fun E hE => ?_, lr⟩
        · rcases List.mem_append.mp hE with e | e
          · exact ((M.ds E e).keep g5 (by simp) (by simp)).keep f6 (fun b hb hx => M.ln E e (by rw [← List.mem_singleton.mp hx]; exact hb)) lt
          · rw [List.mem_singleton.mp e]
            exact hD.keep f6 (fun b hb hx => lD (by rw [← List.mem_singleton.mp hx]; exact hb)) lt
        · rw [List.pairwise_append]
          refine ⟨M.sep, List.pairwise_singleton _ _, fun E hE D' hD' => ?_⟩
          rw [List.mem_singleton.mp hD']
          intro b hb ht
          obtain ⟨o, e⟩ := (M.ds E hE).there b hb
          rw [nD b ht] at e
          cases e
        · rcases List.mem_append.mp hE with e | e
          · exact M.rn E e
          · rw [List.mem_singleton.mp e]; exact rD
        · rcases List.mem_append.mp hE with e | e
          · exact M.ln E e
          · rw [List.mem_singleton.mp e]; exact lD
    · rintro H4 ⟨Ds, hDs, M⟩
      match Ds, hDs, M with
      | [D0, D1, D2], _, M =>
      have m0 : D0 ∈ [D0, D1, D2] := by simp
      have m1 : D1 ∈ [D0, D1, D2] := by simp
      have m2 : D2 ∈ [D0, D1, D2] := by simp
      have sp := M.sep
      rw [List.pairwise_cons, List.pairwise_cons] at sp
      have W4 : T3 T.C_Disk H4 r l D0.p D1.p D2.p D0 D1 D2 (iV (List.replicate n 1)) (iV (List.replicate n 1)) [] (iV (List.replicate n 1)) (iV (List.replicate n 1)) [] (iV (List.replicate n 1)) (iV (List.replicate n 1)) [] := by
        have e : List.replicate n (V.int 1) = iV (List.replicate n 1) := by unfold iV; rw [List.map_replicate]
        refine ⟨M.rnd, M.lst, rfl, rfl, rfl, ⟨_, _, _, by rw [← e]; exact M.ds _ m0⟩, ⟨_, _, _, by rw [← e]; exact M.ds _ m1⟩, ⟨_, _, _, by rw [← e]; exact M.ds _ m2⟩,
          ⟨sp.1 _ (by simp), sp.1 _ (by simp), sp.2.1 _ (by simp), M.rn _ m0, M.rn _ m1, M.rn _ m2, M.ln _ m0, M.ln _ m1, M.ln _ m2, lr⟩⟩
      have hn0 : (List.replicate n (1 : Int)).length = n := by simp
      clear sp m0 m1 m2 M
      obtain ⟨p0, e0⟩ : ∃ p, p = D0.p := ⟨_, rfl⟩
      obtain ⟨p1, e1⟩ : ∃ p, p = D1.p := ⟨_, rfl⟩
      obtain ⟨p2, e2⟩ : ∃ p, p = D2.p := ⟨_, rfl⟩
      rw [← e0, ← e1, ← e2] at W4
      clear e0 e1 e2
      -- the turns
      refine ⟨_, rfl, r, 20, rfl, W4.rnd, by decide, by decide, fun zt H5 hzt f5 R5 => ?_⟩
      refine ⟨_, rfl, by omega, by omega, ?_⟩
      refine for_range (lo := 0) (n := ((zt : Int)).toNat) (fun i σ H' => ∃ (D0 D1 D2 : Dk) (ms m1 m2 : List Int) (q1 q2 : List (Nat × V)) (v2 v5 v6 v7 v8 v9 v10 v11 : Option V), σ = [some (.ref a), some (.ref r), v2, some (.int (n : Int)), some (.ref l), v5, v6, v7, v8, v9, v10, v11] ∧
          T3 T.C_Disk H' r l p0 p1 p2 D0 D1 D2 (iV ms) (iV ms) [] (iV ms) (iV m1) q1 (iV ms) (iV m2) q2 ∧ ms.length = n ∧ m1.length = n ∧ m2.length = n ∧ q1.length ≤ i ∧ q2.length ≤ i ∧ applyAll q2 (iV m2) = iV ms)
        ⟨D0, D1, D2, _, _, _, [], [], _, _, _, _, _, _, _, _, rfl, W4.draw f5 R5, hn0, hn0, hn0, by simp, by simp, rfl⟩ ?_ ?_
      · clear W4
        rintro j σ H6 hj ⟨D0, D1, D2, ms, m1, m2, q1, q2, v2, v5, v6, v7, v8, v9, v10, v11, rfl, W6, hms, hm1, hm2, hq1, hq2, hap⟩
        -- cell, what
        refine ⟨_, rfl, _, rfl, r, n, rfl, W6.rnd, by omega, by omega, fun zc H7 hzc f7 R7 => ?_⟩
        have W7 := W6.draw f7 R7
        refine ⟨_, rfl, r, 999, rfl, W7.rnd, by decide, by decide, fun zv H8 hzv f8 R8 => ?_⟩
        have W8 := W7.draw f8 R8
        refine ⟨_, _, rfl, ?_⟩
        -- each disk is written to
        have hcl : zc < (iV ms).length := by rw [iV_len, hms]; exact hzc
        refine ⟨_, rfl, l, rfl, ⟨_, SqL.of W8.lst⟩, for_list (K := K) (a := l) (xs := [.ref p0, .ref p1, .ref p2]) (fun i σ H' => (∃ (v8 : Option V), σ = [some (.ref a), some (.ref r), v2, some (.int (n : Int)), some (.ref l), some (.int ((0 : Int) + (j : Int))), some (.int (zc : Int)), some (.int (zv : Int)), v8, v9, v10, v11]) ∧
            ((i = 0 ∧ T3 T.C_Disk H' r l p0 p1 p2 D0 D1 D2 (iV ms) (iV ms) [] (iV ms) (iV m1) q1 (iV ms) (iV m2) q2)
            ∨ (i = 1 ∧ T3 T.C_Disk H' r l p0 p1 p2 D0 D1 D2 (iV (ms.set zc zv)) (iV ms) [(zc, .int zv)] (iV ms) (iV m1) q1 (iV ms) (iV m2) q2)
            ∨ (i = 2 ∧ T3 T.C_Disk H' r l p0 p1 p2 D0 D1 D2 (iV (ms.set zc zv)) (iV ms) [(zc, .int zv)] (iV (ms.set zc zv)) (iV m1) (q1 ++ [(zc, .int zv)]) (iV ms) (iV m2) q2)
            ∨ (i = 3 ∧ T3 T.C_Disk H' r l p0 p1 p2 D0 D1 D2 (iV (ms.set zc zv)) (iV ms) [(zc, .int zv)] (iV (ms.set zc zv)) (iV m1) (q1 ++ [(zc, .int zv)]) (iV (ms.set zc zv)) (iV m2) (q2 ++ [(zc, .int zv)]))))
          ⟨⟨_, rfl⟩, .inl ⟨rfl, W8⟩⟩ (fun i σ H' _ h => by
            rcases h.2 with h | h | h | h
            · exact SqL.of h.2.lst
            · exact SqL.of h.2.lst
            · exact SqL.of h.2.lst
            · exact SqL.of h.2.lst) ?_ ?_⟩
        · clear W8 W7 W6
          rintro jj x σ H9 hx ⟨⟨v8, rfl⟩, hW⟩
          rcases hW with ⟨rfl, W⟩ | ⟨rfl, W⟩ | ⟨rfl, W⟩ | ⟨rfl, W⟩
          · cases hx
            obtain ⟨xa, xb, xc, hD⟩ := W.d0
            refine ⟨_, rfl, p0, D0.dx, _, rfl, by rw [← W.e0]; exact hD.ins, dF_no_write, _, rfl, _, rfl, D0, _, _, [], xa, xb, xc, zc, .int zv, by rw [W.e0]; rfl, hD, hcl, by simp, fun H10 f10 hD10 => ⟨⟨_, rfl⟩, .inr (.inl ⟨rfl, ?_⟩)⟩⟩
            rw [iV_set] at hD10
            exact W.at0 hD f10 rfl Dk.same_own hD10
          · cases hx
            obtain ⟨xa, xb, xc, hD⟩ := W.d1
            refine ⟨_, rfl, p1, D1.dx, _, rfl, by rw [← W.e1]; exact hD.ins, dF_no_write, _, rfl, _, rfl, D1, _, _, q1, xa, xb, xc, zc, .int zv, by rw [W.e1]; rfl, hD, hcl, by omega, fun H10 f10 hD10 => ⟨⟨_, rfl⟩, .inr (.inr (.inl ⟨rfl, ?_⟩))⟩⟩
            rw [iV_set] at hD10
            exact W.at1 hD f10 rfl Dk.same_own hD10
          · cases hx
            obtain ⟨xa, xb, xc, hD⟩ := W.d2
            refine ⟨_, rfl, p2, D2.dx, _, rfl, by rw [← W.e2]; exact hD.ins, dF_no_write, _, rfl, _, rfl, D2, _, _, q2, xa, xb, xc, zc, .int zv, by rw [W.e2]; rfl, hD, hcl, by omega, fun H10 f10 hD10 => ⟨⟨_, rfl⟩, .inr (.inr (.inr ⟨rfl, ?_⟩))⟩⟩
            rw [iV_set] at hD10
            exact W.at2 hD f10 rfl Dk.same_own hD10
          · cases hx
        · clear W8 W7 W6
          rintro σ H9 ⟨⟨v8, rfl⟩, hW⟩
          have W9 : T3 T.C_Disk H9 r l p0 p1 p2 D0 D1 D2 (iV (ms.set zc zv)) (iV ms) [(zc, .int zv)] (iV (ms.set zc zv)) (iV m1) (q1 ++ [(zc, .int zv)]) (iV (ms.set zc zv)) (iV m2) (q2 ++ [(zc, .int zv)]) := by
            rcases hW with ⟨h, _⟩ | ⟨h, _⟩ | ⟨h, _⟩ | ⟨_, W⟩
            · cases h
            · cases h
            · cases h
            · exact W
          clear hW
          have hap' : applyAll (q2 ++ [(zc, .int (zv : Int))]) (iV m2) = iV (ms.set zc zv) := by
            rw [applyAll_snoc, hap, iV_set]
          have hms' : (ms.set zc (zv : Int)).length = n := by rw [List.length_set]; exact hms
          obtain ⟨mt, hmt⟩ : ∃ mt, mt = ms.set zc (zv : Int) := ⟨_, rfl⟩
          rw [← hmt] at W9 hap' hms'
          have hq1' : (q1 ++ [(zc, V.int (zv : Int))]).length ≤ j + 1 := by rw [List.length_append, List.length_singleton]; omega
          have hq2' : (q2 ++ [(zc, V.int (zv : Int))]).length ≤ j + 1 := by rw [List.length_append, List.length_singleton]; omega
          obtain ⟨t1, ht1⟩ : ∃ t, t = q1 ++ [(zc, V.int (zv : Int))] := ⟨_, rfl⟩
          obtain ⟨t2, ht2⟩ : ∃ t, t = q2 ++ [(zc, V.int (zv : Int))] := ⟨_, rfl⟩
          rw [← ht1] at W9 hq1'
          rw [← ht2] at W9 hq2' hap'
          -- the first is synced
          obtain ⟨xa, xb, xc, hD⟩ := W9.d0
          refine ⟨_, rfl, l, _, 0, .ref p0, rfl, rfl, SqL.of W9.lst, atI_nat (j := 0) rfl, p0, D0.dx, _, rfl, by rw [← W9.e0]; exact hD.ins, dF_no_sync, D0, _, _, _, xa, xb, xc, by rw [W9.e0]; rfl, hD, fun D0' H10 e10 g10 f10 hD10 => ?_⟩
          have W10 := W9.at0 hD f10 e10 g10 hD10
          clear W9 hD
          -- the second, sometimes
          refine ⟨fun σ H' => σ = [some (.ref a), some (.ref r), v2, some (.int (n : Int)), some (.ref l), some (.int ((0 : Int) + (j : Int))), some (.int (zc : Int)), some (.int (zv : Int)), v8, v9, v10, v11] ∧
            ∃ (D1' : Dk) (m1' : List Int) (u1 : List (Nat × V)), T3 T.C_Disk H' r l p0 p1 p2 D0' D1' D2 (iV mt) (iV mt) [] (iV mt) (iV m1') u1 (iV mt) (iV m2) t2 ∧ m1'.length = n ∧ u1.length ≤ j + 1, ?_, ?_⟩
          · refine ⟨_, rfl, r, 3, rfl, W10.rnd, by decide, by decide, fun zs H11 hzs f11 R11 => ⟨rfl, _, rfl, ite2 (fun _ => ?_) (fun _ => ?_)⟩⟩
            · have W11 := W10.draw f11 R11
              obtain ⟨xa, xb, xc, hD⟩ := W11.d1
              refine ⟨_, rfl, l, _, 1, .ref p1, rfl, rfl, SqL.of W11.lst, atI_nat (j := 1) rfl, p1, D1.dx, _, rfl, by rw [← W11.e1]; exact hD.ins, dF_no_sync, D1, _, _, _, xa, xb, xc, by rw [W11.e1]; rfl, hD, fun D1' H12 e12 g12 f12 hD12 => ?_⟩
              exact ⟨rfl, D1', mt, [], W11.at1 hD f12 e12 g12 hD12, hms', Nat.zero_le _⟩
            · exact ⟨rfl, D1, m1, t1, W10.draw f11 R11, hm1, hq1'⟩
          · clear W10
            rintro σ H11 ⟨rfl, D1', m1', u1, W11, hm1', hu1⟩
            -- all show the same
            have all3 : ∀ {H' : Hp}, T3 T.C_Disk H' r l p0 p1 p2 D0' D1' D2 (iV mt) (iV mt) [] (iV mt) (iV m1') u1 (iV mt) (iV m2) t2 → ∀ x ∈ ([.ref p0, .ref p1, .ref p2] : List V), ∃ (D : Dk) (ls : List V) (ps : List (Nat × V)) (a b c : Int), x = .ref D.p ∧ DiskAt T.C_Disk H' D (iV mt) ls ps a b c := fun W x hx => by
              simp only [List.mem_cons, List.not_mem_nil, or_false] at hx
              rcases hx with e | e | e
              · obtain ⟨xa, xb, xc, h⟩ := W.d0
                exact ⟨_, _, _, _, _, _, by rw [e, W.e0], h⟩
              · obtain ⟨xa, xb, xc, h⟩ := W.d1
                exact ⟨_, _, _, _, _, _, by rw [e, W.e1], h⟩
              · obtain ⟨xa, xb, xc, h⟩ := W.d2
                exact ⟨_, _, _, _, _, _, by rw [e, W.e2], h⟩
            refine ⟨_, rfl, l, rfl, ⟨_, SqL.of W11.lst⟩, fun b hb => ?_⟩
            refine lc_list (K := K) (a := l) (xs := [.ref p0, .ref p1, .ref p2]) (fun i H' => Fr [] H11 H' ∧ ∃ ts : List Addr, ts.length = i ∧ H' b = some (.lst (ts.map V.ref)) ∧ ∀ t ∈ ts, H' t = some (.tup (iV mt))) ⟨Fr.new hb, [], rfl, upd_same, fun t ht => (by cases ht)⟩ (fun i H' _ h => SqL.of (h.1 _ _ W11.lst (by simp))) ?_ ?_
            · rintro i x H12 hx ⟨f12, ts, hts, eb, htt⟩
              have hil := lt_of_at hx
              obtain ⟨D, ls, ps, xa, xb, xc, rfl, hD⟩ := all3 (W11.keep0 f12) x (List.mem_of_getElem? hx)
              refine ⟨rfl, _, rfl, D.p, D.dx, _, rfl, hD.ins, D, _, ls, ps, xa, xb, xc, rfl, hD, fun t ht => ?_⟩
              have bt : b ≠ t := ne_of_none eb ht
              refine ⟨_, (upd_ne bt).trans eb, ?_, ?_, ts ++ [t], ?_, ?_, ?_⟩
              · rw [List.length_map, hts]
                simp only [List.length_cons, List.length_nil] at hil
                exact sz_lt (by omega)
              · intro c o ec _
                have cb : c ≠ b := ne_of_none ec hb
                rw [upd_ne cb]
                exact (f12.trans (Fr.new ht)) c o ec (by simp)
              · rw [List.length_append, hts]; rfl
              · rw [upd_same, List.map_append]; rfl
              · intro u hu
                rcases List.mem_append.mp hu with e | e
                · have h1 := htt u e
                  rw [upd_ne (ne_of h1 eb (by simp)), upd_ne (ne_of_none h1 ht)]
                  exact h1
                · rw [List.mem_singleton.mp e, upd_ne bt.symm]
                  exact upd_same
            · rintro H12 ⟨f12, ts, hts, eb, htt⟩
              have W12 := W11.keep0 f12
              have hts3 : ts.length = 3 := hts
              refine ⟨b, ts.map fun t => (t, mt), rfl, SqL.of ?_, fun p hp => ?_, by rw [List.length_map]; omega, fun g L hg hL1 hL2 => ?_⟩
              · rw [List.map_map]
                exact eb
              · obtain ⟨t, ht, rfl⟩ := List.mem_map.mp hp
                exact SqT.of (htt t ht)
              · have W13 := W12.new (o := SetTO P w g L) hg
                have sub : ∀ p ∈ L, p.2 = mt ∧ H12 p.1 = some (.tup (iV mt)) := fun p hp => by
                  obtain ⟨t, ht, rfl⟩ := List.mem_map.mp (hL1 p hp)
                  exact ⟨rfl, htt t ht⟩
                refine ⟨g, L, rfl, upd_same, fun p hp => ?_, fun nd => ?_⟩
                · obtain ⟨s1, s2⟩ := sub p hp
                  rw [s1]
                  exact SqT.of ((upd_ne (ne_of_none s2 hg)).trans s2)
                · have hin : mt ∈ L.map (·.2) := by
                    match ts, hts3, hL2 with
                    | t :: _, _, hL2 => exact hL2 (t, mt) (by simp)
                  have one := one_of_all (fun p hp => (sub p hp).1) hin nd
                  rw [one]
                  refine ⟨rfl, _, rfl, iteF ?_⟩
                  -- the first one's lasting, the third one's contents
                  obtain ⟨xa, xb, xc, hD⟩ := W13.d0
                  refine ⟨_, rfl, l, _, 0, .ref p0, rfl, rfl, SqL.of W13.lst, atI_nat (j := 0) rfl, p0, D0'.dx, _, rfl, by rw [← W13.e0]; exact hD.ins, D0', _, _, _, xa, xb, xc, by rw [W13.e0], hD, fun t1 ht1 => ?_⟩
                  have W14 := W13.new (o := .tup (iV mt)) ht1
                  obtain ⟨ya, yb, yc, hE⟩ := W14.d2
                  refine ⟨_, rfl, l, _, 2, .ref p2, rfl, rfl, SqL.of W14.lst, atI_nat (j := 2) rfl, p2, D2.dx, _, rfl, by rw [← W14.e2]; exact hE.ins, D2, _, _, _, ya, yb, yc, by rw [W14.e2], hE, fun t2' ht2' => ?_⟩
                  have W15 := W14.new (o := .tup (iV mt)) ht2'
                  refine ⟨_, _, .tup (SqT.of ((upd_ne (free_upd ht2').2.symm).trans upd_same)) (dpAll_flat (iV_F mt)), .tup (SqT.of upd_same) (dpAll_flat (iV_F mt)), shaped_tup _, shaped_tup _, _, rfl, ?_⟩
                  rw [eqv_tup]
                  refine iteF ?_
                  exact ⟨D0', D1', D2, mt, m1', m2, u1, t2, _, _, _, _, _, _, _, _, rfl, W15, hms', hm1', hm2, hu1, hq2', hap'⟩
      · clear W4
        rintro σ H6 ⟨D0, D1, D2, ms, m1, m2, q1, q2, v2, v5, v6, v7, v8, v9, v10, v11, rfl, W6, hms, hm1, hm2, hq1, hq2, hap⟩
        have hzt' : ((zt : Int)).toNat ≤ 20 := by omega
        -- many = len(disks[2].pending)
        obtain ⟨xa, xb, xc, hD⟩ := W6.d2
        refine ⟨_, rfl, l, _, 2, .ref p2, rfl, rfl, SqL.of W6.lst, atI_nat (j := 2) rfl, p2, D2.dx, _, rfl, by rw [← W6.e2]; exact hD.ins, D2, _, _, q2, xa, xb, xc, by rw [W6.e2], hD, fun wl ts hwl pn => ?_⟩
        have W7 := W6.new (o := .lst (ts.map V.ref)) hwl
        refine ⟨wl, _, rfl, .inl (SqL.of upd_same), ?_⟩
        have elen : ((ts.map V.ref).length : Int) = (q2.length : Int) := by rw [List.length_map, pn.1]
        -- disks[2].fail(tuple(range(many)))
        obtain ⟨ya, yb, yc, hE⟩ := W7.d2
        refine ⟨_, rfl, l, _, 2, .ref p2, rfl, rfl, SqL.of W7.lst, atI_nat (j := 2) rfl, p2, D2.dx, _, rfl, by rw [← W7.e2]; exact hE.ins, dF_no_fail, ?_⟩
        refine ⟨_, rfl, _, rfl, RgOk.of_le (Int.le_refl _) ?_ (by decide) (by omega), fun u hu => ?_⟩
        · rw [elen]
          omega
        have W8 := W7.new (o := .tup (rgV 0 ((ts.map V.ref).length : Int))) hu
        obtain ⟨za, zb, zc, hG⟩ := W8.d2
        refine ⟨D2, _, _, q2, za, zb, zc, u, List.range q2.length, by rw [W8.e2]; rfl, hG, ?_, asc_range _, fun D2' H9 e9 g9 f9 hD9 => ?_⟩
        · rw [elen, rgV_kept]
          exact upd_same
        rw [applyK_all, hap] at hD9
        have W9 := W8.at2 hG f9 e9 g9 hD9
        clear W8 W7 W6 hG hE hD
        -- lasting = disks[1].lasting
        obtain ⟨xa, xb, xc, hD⟩ := W9.d1
        refine ⟨_, rfl, l, _, 1, .ref p1, rfl, rfl, SqL.of W9.lst, atI_nat (j := 1) rfl, p1, D1.dx, _, rfl, by rw [← W9.e1]; exact hD.ins, D1, _, _, q1, xa, xb, xc, by rw [W9.e1], hD, fun lt hlt => ?_⟩
        have W10 := W9.new (o := .tup (iV m1)) hlt
        have elt : (upd H9 lt (.tup (iV m1))) lt = some (.tup (iV m1)) := upd_same
        -- disks[1].fail(())
        obtain ⟨ya, yb, yc, hE⟩ := W10.d1
        refine ⟨_, rfl, l, _, 1, .ref p1, rfl, rfl, SqL.of W10.lst, atI_nat (j := 1) rfl, p1, D1.dx, _, rfl, by rw [← W10.e1]; exact hE.ins, dF_no_fail, ?_⟩
        refine ⟨sz_le (by simp), fun et het => ?_⟩
        have W11 := W10.new (o := .tup []) het
        have elt11 : (upd (upd H9 lt (.tup (iV m1))) et (.tup [])) lt = some (.tup (iV m1)) := (upd_ne (free_upd het).2.symm).trans elt
        obtain ⟨za, zb, zc, hG⟩ := W11.d1
        refine ⟨D1, _, _, q1, za, zb, zc, et, [], by rw [W11.e1]; rfl, hG, upd_same, trivial, fun D1' H12 e12 g12 f12 hD12 => ?_⟩
        rw [show applyK q1 (iV m1) [] = iV m1 from rfl] at hD12
        have W12 := W11.at1 hG f12 e12 g12 hD12
        have elt12 : H12 lt = some (.tup (iV m1)) := f12 _ _ elt11 (fun hb => hG.notup lt hb _ elt11)
        clear W11 W10 W9 hG hE hD
        -- the comparisons
        obtain ⟨xa, xb, xc, hD⟩ := W12.d2
        refine ⟨_, rfl, l, _, 2, .ref p2, rfl, rfl, SqL.of W12.lst, atI_nat (j := 2) rfl, p2, D2'.dx, _, rfl, by rw [← W12.e2]; exact hD.ins, D2', _, _, _, xa, xb, xc, by rw [W12.e2], hD, fun t1 ht1 => ?_⟩
        have W13 := W12.new (o := .tup (iV ms)) ht1
        obtain ⟨ya, yb, yc, hE⟩ := W13.d0
        refine ⟨_, rfl, l, _, 0, .ref p0, rfl, rfl, SqL.of W13.lst, atI_nat (j := 0) rfl, p0, D0.dx, _, rfl, by rw [← W13.e0]; exact hE.ins, D0, _, _, _, ya, yb, yc, by rw [W13.e0], hE, fun t2 ht2 => ?_⟩
        have W14 := W13.new (o := .tup (iV ms)) ht2
        refine ⟨_, _, .tup (SqT.of ((upd_ne (free_upd ht2).2.symm).trans upd_same)) (dpAll_flat (iV_F ms)), .tup (SqT.of upd_same) (dpAll_flat (iV_F ms)), shaped_tup _, shaped_tup _, _, rfl, ?_⟩
        rw [eqv_tup]
        refine iteF ?_
        have elt14 : (upd (upd H12 t1 (.tup (iV ms))) t2 (.tup (iV ms))) lt = some (.tup (iV m1)) := (Fr.new (S := []) ht2) _ _ ((Fr.new (S := []) ht1) _ _ elt12 (by simp)) (by simp)
        obtain ⟨za, zb, zc, hG⟩ := W14.d1
        refine ⟨_, rfl, l, _, 1, .ref p1, rfl, rfl, SqL.of W14.lst, atI_nat (j := 1) rfl, p1, D1'.dx, _, rfl, by rw [← W14.e1]; exact hG.ins, D1', _, _, _, za, zb, zc, by rw [W14.e1], hG, fun t3 ht3 => ?_⟩
        have W15 := W14.new (o := .tup (iV m1)) ht3
        refine ⟨_, rfl, ?_⟩
        refine ⟨_, _, .tup (SqT.of upd_same) (dpAll_flat (iV_F m1)), .tup (SqT.of ((upd_ne (ne_of_none elt14 ht3)).trans elt14)) (dpAll_flat (iV_F m1)), shaped_tup _, shaped_tup _, _, rfl, ?_⟩
        rw [eqv_tup]
        refine iteF ?_
        obtain ⟨wa, wb, wc, hJ⟩ := W15.d2
        refine ⟨_, rfl, l, _, 2, .ref p2, rfl, rfl, SqL.of W15.lst, atI_nat (j := 2) rfl, p2, D2'.dx, _, rfl, by rw [← W15.e2]; exact hJ.ins, D2', _, _, _, wa, wb, wc, by rw [W15.e2], hJ, fun t4 ts4 ht4 pn4 => ?_⟩
        have e4 : ts4 = [] := List.length_eq_zero_iff.mp pn4.1
        subst e4
        have W16 := W15.new (o := .lst ([] : List V)) ht4
        refine ⟨sz_le (by simp), fun t5 ht5 => ?_⟩
        have W17 := W16.new (o := .lst ([] : List V)) ht5
        refine ⟨_, _, .lst (SqL.of ((upd_ne (free_upd ht5).2.symm).trans upd_same)) .nil, .lst (SqL.of upd_same) .nil, rfl, rfl, _, rfl, ?_⟩
        refine iteF ?_
        exact ⟨_, _, _, _, _, _, _, _, _, _, rfl, W17.rnd⟩
end
theorem all_mk {l : PySem.W.OpenLaw} {w : World} {K : PySem.W.Frag} {h : Heap} {mg : Str → Option Value} {fa C_Disk f_is_number f_is_number_from f_Disk___init__ D_Disk___init__ f_Disk_write f_Disk_sync f_Disk_fail f_Disk_contents p_Disk_contents f_Disk_lasting p_Disk_lasting f_Disk_pending p_Disk_pending f_Disk__check_cell f_are_kept f__law_random f__law_below f_law : Addr} (X : K.In h) (G : h.Ns mainGlobals mg) (hfa : mg "law" = some (.ref fa))
    {od_is_number an_is_number od_is_number_from an_is_number_from od_Disk___init__ an_Disk___init__ od_Disk_write an_Disk_write od_Disk_sync an_Disk_sync od_Disk_fail an_Disk_fail od_Disk_contents an_Disk_contents od_Disk_lasting an_Disk_lasting od_Disk_pending an_Disk_pending od_Disk__check_cell an_Disk__check_cell od_are_kept an_are_kept od__law_random an__law_random od__law_below an__law_below od_law an_law : Option Addr} {sl_is_number sl_is_number_from sl_Disk___init__ sl_Disk_write sl_Disk_sync sl_Disk_fail sl_Disk_contents sl_Disk_lasting sl_Disk_pending sl_Disk__check_cell sl_are_kept sl__law_random sl__law_below sl_law : Array (Option Value)} {oc_is_number dc_is_number pm_is_number cd_is_number ct_is_number kV_is_number oc_is_number_from dc_is_number_from pm_is_number_from cd_is_number_from ct_is_number_from kV_is_number_from oc_Disk___init__ dc_Disk___init__ pm_Disk___init__ cd_Disk___init__ ct_Disk___init__ oc_Disk_write dc_Disk_write pm_Disk_write cd_Disk_write ct_Disk_write kV_Disk_write oc_Disk_sync dc_Disk_sync pm_Disk_sync cd_Disk_sync ct_Disk_sync kV_Disk_sync oc_Disk_fail dc_Disk_fail pm_Disk_fail cd_Disk_fail ct_Disk_fail kV_Disk_fail oc_Disk_contents dc_Disk_contents pm_Disk_contents cd_Disk_contents ct_Disk_contents kV_Disk_contents oc_Disk_lasting dc_Disk_lasting pm_Disk_lasting cd_Disk_lasting ct_Disk_lasting kV_Disk_lasting oc_Disk_pending dc_Disk_pending pm_Disk_pending cd_Disk_pending ct_Disk_pending kV_Disk_pending oc_Disk__check_cell dc_Disk__check_cell pm_Disk__check_cell cd_Disk__check_cell ct_Disk__check_cell kV_Disk__check_cell oc_are_kept dc_are_kept pm_are_kept cd_are_kept ct_are_kept kV_are_kept oc__law_random dc__law_random pm__law_random cd__law_random ct__law_random kV__law_random oc__law_below dc__law_below pm__law_below cd__law_below ct__law_below kV__law_below oc_law dc_law pm_law cd_law ct_law kV_law : Value} {t_MOST_CELLS : Tok}
    (aC_Disk : PySem.W.nsIn K mainGlobals "Disk" = some (some (.ref C_Disk)))
    (pg_Disk : PySem.W.plainGet K C_Disk Str.empty = true) (hd_Disk : PySem.W.hasDictIn K C_Disk = true) (po_Disk : PySem.W.plainOver K C_Disk = true) (sa_Disk : PySem.W.findIn K (.ref C_Disk) "__setattr__" = some (some (.builtin "object.__setattr__")))
    (n_Disk__contents : PySem.W.findIn K (.ref C_Disk) "_contents" = some none)
    (n_Disk__lasting : PySem.W.findIn K (.ref C_Disk) "_lasting" = some none)
    (n_Disk__pending : PySem.W.findIn K (.ref C_Disk) "_pending" = some none)
    (n_Disk__reads : PySem.W.findIn K (.ref C_Disk) "_reads" = some none)
    (n_Disk__writes : PySem.W.findIn K (.ref C_Disk) "_writes" = some none)
    (n_Disk__syncs : PySem.W.findIn K (.ref C_Disk) "_syncs" = some none)
    (a_is_number : PySem.W.nsIn K mainGlobals "is_number" = some (some (.ref f_is_number)))
    (l_is_number : K.lookup f_is_number = some ⟨oc_is_number, od_is_number, .func (PySem.W.fnOf "is_number" "is_number" (defArgs s_is_number) (defBody s_is_number) (defScope s_is_number) .none kV_is_number dc_is_number pm_is_number an_is_number cd_is_number ct_is_number), sl_is_number⟩) (c_is_number : PySem.W.codeIn K cd_is_number "is_number" = true) (k_is_number : PySem.W.keepIn K (.ref f_is_number) = true)
    (a_is_number_from : PySem.W.nsIn K mainGlobals "is_number_from" = some (some (.ref f_is_number_from)))
    (l_is_number_from : K.lookup f_is_number_from = some ⟨oc_is_number_from, od_is_number_from, .func (PySem.W.fnOf "is_number_from" "is_number_from" (defArgs s_is_number_from) (defBody s_is_number_from) (defScope s_is_number_from) .none kV_is_number_from dc_is_number_from pm_is_number_from an_is_number_from cd_is_number_from ct_is_number_from), sl_is_number_from⟩) (c_is_number_from : PySem.W.codeIn K cd_is_number_from "is_number_from" = true) (k_is_number_from : PySem.W.keepIn K (.ref f_is_number_from) = true)
    (a_Disk___init__ : PySem.W.findIn K (.ref C_Disk) "__init__" = some (some (.ref f_Disk___init__))) (i_Disk___init__ : PySem.W.isFn K (.ref f_Disk___init__) = true) (mk_Disk___init__ : PySem.W.makesIn K C_Disk = true) (kc_Disk___init__ : PySem.W.keepIn K (.ref C_Disk) = true)
    (l_Disk___init__ : K.lookup f_Disk___init__ = some ⟨oc_Disk___init__, od_Disk___init__, .func (PySem.W.fnOf "__init__" "Disk.__init__" (defArgs s_Disk___init__) (defBody s_Disk___init__) (defScope s_Disk___init__) .none (.ref D_Disk___init__) dc_Disk___init__ pm_Disk___init__ an_Disk___init__ cd_Disk___init__ ct_Disk___init__), sl_Disk___init__⟩) (c_Disk___init__ : PySem.W.codeIn K cd_Disk___init__ "Disk.__init__" = true) (k_Disk___init__ : PySem.W.keepIn K (.ref f_Disk___init__) = true)
    {td_Disk___init___content : Tok} (kd_Disk___init___content : PySem.W.nsIn K D_Disk___init__ "content" = some (some (.int 0 td_Disk___init___content)))
    (a_Disk_write : PySem.W.findIn K (.ref C_Disk) "write" = some (some (.ref f_Disk_write))) (i_Disk_write : PySem.W.isFn K (.ref f_Disk_write) = true)
    (l_Disk_write : K.lookup f_Disk_write = some ⟨oc_Disk_write, od_Disk_write, .func (PySem.W.fnOf "write" "Disk.write" (defArgs s_Disk_write) (defBody s_Disk_write) (defScope s_Disk_write) .none kV_Disk_write dc_Disk_write pm_Disk_write an_Disk_write cd_Disk_write ct_Disk_write), sl_Disk_write⟩) (c_Disk_write : PySem.W.codeIn K cd_Disk_write "Disk.write" = true) (k_Disk_write : PySem.W.keepIn K (.ref f_Disk_write) = true)
    (a_Disk_sync : PySem.W.findIn K (.ref C_Disk) "sync" = some (some (.ref f_Disk_sync))) (i_Disk_sync : PySem.W.isFn K (.ref f_Disk_sync) = true)
    (l_Disk_sync : K.lookup f_Disk_sync = some ⟨oc_Disk_sync, od_Disk_sync, .func (PySem.W.fnOf "sync" "Disk.sync" (defArgs s_Disk_sync) (defBody s_Disk_sync) (defScope s_Disk_sync) .none kV_Disk_sync dc_Disk_sync pm_Disk_sync an_Disk_sync cd_Disk_sync ct_Disk_sync), sl_Disk_sync⟩) (c_Disk_sync : PySem.W.codeIn K cd_Disk_sync "Disk.sync" = true) (k_Disk_sync : PySem.W.keepIn K (.ref f_Disk_sync) = true)
    (a_Disk_fail : PySem.W.findIn K (.ref C_Disk) "fail" = some (some (.ref f_Disk_fail))) (i_Disk_fail : PySem.W.isFn K (.ref f_Disk_fail) = true)
    (l_Disk_fail : K.lookup f_Disk_fail = some ⟨oc_Disk_fail, od_Disk_fail, .func (PySem.W.fnOf "fail" "Disk.fail" (defArgs s_Disk_fail) (defBody s_Disk_fail) (defScope s_Disk_fail) .none kV_Disk_fail dc_Disk_fail pm_Disk_fail an_Disk_fail cd_Disk_fail ct_Disk_fail), sl_Disk_fail⟩) (c_Disk_fail : PySem.W.codeIn K cd_Disk_fail "Disk.fail" = true) (k_Disk_fail : PySem.W.keepIn K (.ref f_Disk_fail) = true)
    {rest_Disk_contents : List Value} (a_Disk_contents : PySem.W.findIn K (.ref C_Disk) "contents" = some (some (.ref p_Disk_contents))) (ge_Disk_contents : PySem.W.specialIn K (.ref p_Disk_contents) "__get__" = some (some (.builtin "property.__get__"))) (tk_Disk_contents : PySem.W.takesIn K (.ref p_Disk_contents) = some true) (rc_Disk_contents : PySem.W.recIn K p_Disk_contents "property" = some (.ref f_Disk_contents :: rest_Disk_contents))
    (l_Disk_contents : K.lookup f_Disk_contents = some ⟨oc_Disk_contents, od_Disk_contents, .func (PySem.W.fnOf "contents" "Disk.contents" (defArgs s_Disk_contents) (defBody s_Disk_contents) (defScope s_Disk_contents) .none kV_Disk_contents dc_Disk_contents pm_Disk_contents an_Disk_contents cd_Disk_contents ct_Disk_contents), sl_Disk_contents⟩) (c_Disk_contents : PySem.W.codeIn K cd_Disk_contents "Disk.contents" = true) (k_Disk_contents : PySem.W.keepIn K (.ref f_Disk_contents) = true)
    {rest_Disk_lasting : List Value} (a_Disk_lasting : PySem.W.findIn K (.ref C_Disk) "lasting" = some (some (.ref p_Disk_lasting))) (ge_Disk_lasting : PySem.W.specialIn K (.ref p_Disk_lasting) "__get__" = some (some (.builtin "property.__get__"))) (tk_Disk_lasting : PySem.W.takesIn K (.ref p_Disk_lasting) = some true) (rc_Disk_lasting : PySem.W.recIn K p_Disk_lasting "property" = some (.ref f_Disk_lasting :: rest_Disk_lasting))
    (l_Disk_lasting : K.lookup f_Disk_lasting = some ⟨oc_Disk_lasting, od_Disk_lasting, .func (PySem.W.fnOf "lasting" "Disk.lasting" (defArgs s_Disk_lasting) (defBody s_Disk_lasting) (defScope s_Disk_lasting) .none kV_Disk_lasting dc_Disk_lasting pm_Disk_lasting an_Disk_lasting cd_Disk_lasting ct_Disk_lasting), sl_Disk_lasting⟩) (c_Disk_lasting : PySem.W.codeIn K cd_Disk_lasting "Disk.lasting" = true) (k_Disk_lasting : PySem.W.keepIn K (.ref f_Disk_lasting) = true)
    {rest_Disk_pending : List Value} (a_Disk_pending : PySem.W.findIn K (.ref C_Disk) "pending" = some (some (.ref p_Disk_pending))) (ge_Disk_pending : PySem.W.specialIn K (.ref p_Disk_pending) "__get__" = some (some (.builtin "property.__get__"))) (tk_Disk_pending : PySem.W.takesIn K (.ref p_Disk_pending) = some true) (rc_Disk_pending : PySem.W.recIn K p_Disk_pending "property" = some (.ref f_Disk_pending :: rest_Disk_pending))
    (l_Disk_pending : K.lookup f_Disk_pending = some ⟨oc_Disk_pending, od_Disk_pending, .func (PySem.W.fnOf "pending" "Disk.pending" (defArgs s_Disk_pending) (defBody s_Disk_pending) (defScope s_Disk_pending) .none kV_Disk_pending dc_Disk_pending pm_Disk_pending an_Disk_pending cd_Disk_pending ct_Disk_pending), sl_Disk_pending⟩) (c_Disk_pending : PySem.W.codeIn K cd_Disk_pending "Disk.pending" = true) (k_Disk_pending : PySem.W.keepIn K (.ref f_Disk_pending) = true)
    (a_Disk__check_cell : PySem.W.findIn K (.ref C_Disk) "_check_cell" = some (some (.ref f_Disk__check_cell))) (i_Disk__check_cell : PySem.W.isFn K (.ref f_Disk__check_cell) = true)
    (l_Disk__check_cell : K.lookup f_Disk__check_cell = some ⟨oc_Disk__check_cell, od_Disk__check_cell, .func (PySem.W.fnOf "_check_cell" "Disk._check_cell" (defArgs s_Disk__check_cell) (defBody s_Disk__check_cell) (defScope s_Disk__check_cell) .none kV_Disk__check_cell dc_Disk__check_cell pm_Disk__check_cell an_Disk__check_cell cd_Disk__check_cell ct_Disk__check_cell), sl_Disk__check_cell⟩) (c_Disk__check_cell : PySem.W.codeIn K cd_Disk__check_cell "Disk._check_cell" = true) (k_Disk__check_cell : PySem.W.keepIn K (.ref f_Disk__check_cell) = true)
    (a_are_kept : PySem.W.nsIn K mainGlobals "are_kept" = some (some (.ref f_are_kept)))
    (l_are_kept : K.lookup f_are_kept = some ⟨oc_are_kept, od_are_kept, .func (PySem.W.fnOf "are_kept" "are_kept" (defArgs s_are_kept) (defBody s_are_kept) (defScope s_are_kept) .none kV_are_kept dc_are_kept pm_are_kept an_are_kept cd_are_kept ct_are_kept), sl_are_kept⟩) (c_are_kept : PySem.W.codeIn K cd_are_kept "are_kept" = true) (k_are_kept : PySem.W.keepIn K (.ref f_are_kept) = true)
    (a__law_random : PySem.W.nsIn K mainGlobals "_law_random" = some (some (.ref f__law_random)))
    (l__law_random : K.lookup f__law_random = some ⟨oc__law_random, od__law_random, .func (PySem.W.fnOf "_law_random" "_law_random" (defArgs s__law_random) (defBody s__law_random) (defScope s__law_random) .none kV__law_random dc__law_random pm__law_random an__law_random cd__law_random ct__law_random), sl__law_random⟩) (c__law_random : PySem.W.codeIn K cd__law_random "_law_random" = true) (k__law_random : PySem.W.keepIn K (.ref f__law_random) = true)
    (a__law_below : PySem.W.nsIn K mainGlobals "_law_below" = some (some (.ref f__law_below)))
    (l__law_below : K.lookup f__law_below = some ⟨oc__law_below, od__law_below, .func (PySem.W.fnOf "_law_below" "_law_below" (defArgs s__law_below) (defBody s__law_below) (defScope s__law_below) .none kV__law_below dc__law_below pm__law_below an__law_below cd__law_below ct__law_below), sl__law_below⟩) (c__law_below : PySem.W.codeIn K cd__law_below "_law_below" = true) (k__law_below : PySem.W.keepIn K (.ref f__law_below) = true)
    (a_law : PySem.W.nsIn K mainGlobals "law" = some (some (.ref f_law)))
    (l_law : K.lookup f_law = some ⟨oc_law, od_law, .func (PySem.W.fnOf "law" "law" (defArgs s_law) (defBody s_law) (defScope s_law) .none kV_law dc_law pm_law an_law cd_law ct_law), sl_law⟩) (c_law : PySem.W.codeIn K cd_law "law" = true) (k_law : PySem.W.keepIn K (.ref f_law) = true)
    (z_isinstance : PySem.W.nsIn K mainGlobals "isinstance" = some none)
    (z_int : PySem.W.nsIn K mainGlobals "int" = some none)
    (z_bool : PySem.W.nsIn K mainGlobals "bool" = some none)
    (z_list : PySem.W.nsIn K mainGlobals "list" = some none)
    (z_tuple : PySem.W.nsIn K mainGlobals "tuple" = some none)
    (z_len : PySem.W.nsIn K mainGlobals "len" = some none)
    (z_abs : PySem.W.nsIn K mainGlobals "abs" = some none)
    (z_range : PySem.W.nsIn K mainGlobals "range" = some none)
    (z_set : PySem.W.nsIn K mainGlobals "set" = some none)
    (c_MOST_CELLS : PySem.W.nsIn K mainGlobals "MOST_CELLS" = some (some (.int 64 t_MOST_CELLS)))
    : ∃ fd : FuncData, (∀ (s : Shared) (v : Value), BindsTo s fd ⟨[v], []⟩ [("_law_script", v)]) ∧ ∀ base : Heap, K.In base → base.Ns mainGlobals mg → FnOk l.prog w K mg base CX0 6 fa fd ["_law_script"] (spLaw K) := by
  have e := hfa.symm.trans (PySem.W.mg_of X G a_law)
  cases e
  have T : Gx K mg := {
    C_Disk := C_Disk, cl_Disk := ⟨pg_Disk, hd_Disk, po_Disk, sa_Disk⟩, gC_Disk := PySem.W.mg_of X G aC_Disk,
    n_Disk__contents := n_Disk__contents,
    n_Disk__lasting := n_Disk__lasting,
    n_Disk__pending := n_Disk__pending,
    n_Disk__reads := n_Disk__reads,
    n_Disk__writes := n_Disk__writes,
    n_Disk__syncs := n_Disk__syncs,
    f_is_number := f_is_number, fd_is_number := _,
    F_is_number := fun_mk (st := s_is_number) l_is_number c_is_number k_is_number,
    g_is_number := PySem.W.mg_of X G a_is_number,
    f_is_number_from := f_is_number_from, fd_is_number_from := _,
    F_is_number_from := fun_mk (st := s_is_number_from) l_is_number_from c_is_number_from k_is_number_from,
    g_is_number_from := PySem.W.mg_of X G a_is_number_from,
    f_Disk___init__ := f_Disk___init__, fd_Disk___init__ := _,
    F_Disk___init__ := ⟨⟨oc_Disk___init__, od_Disk___init__, .none, .ref D_Disk___init__, dc_Disk___init__, pm_Disk___init__, an_Disk___init__, cd_Disk___init__, ct_Disk___init__, sl_Disk___init__, rfl, l_Disk___init__, c_Disk___init__, .inl ⟨rfl, rfl⟩, .inr ⟨D_Disk___init__, rfl, by intro q hq; simp only [List.mem_cons, List.not_mem_nil, or_false] at hq; subst hq; first | exact ⟨_, kd_Disk___init___content, ⟨_, rfl⟩⟩⟩⟩, k_Disk___init__⟩,
    M_Disk___init__ := ⟨mk_Disk___init__, a_Disk___init__, i_Disk___init__, kc_Disk___init__⟩,
    f_Disk_write := f_Disk_write, fd_Disk_write := _,
    F_Disk_write := fun_mk (st := s_Disk_write) l_Disk_write c_Disk_write k_Disk_write,
    m_Disk_write := ⟨a_Disk_write, i_Disk_write, k_Disk_write⟩,
    f_Disk_sync := f_Disk_sync, fd_Disk_sync := _,
    F_Disk_sync := fun_mk (st := s_Disk_sync) l_Disk_sync c_Disk_sync k_Disk_sync,
    m_Disk_sync := ⟨a_Disk_sync, i_Disk_sync, k_Disk_sync⟩,
    f_Disk_fail := f_Disk_fail, fd_Disk_fail := _,
    F_Disk_fail := fun_mk (st := s_Disk_fail) l_Disk_fail c_Disk_fail k_Disk_fail,
    m_Disk_fail := ⟨a_Disk_fail, i_Disk_fail, k_Disk_fail⟩,
    f_Disk_contents := f_Disk_contents, fd_Disk_contents := _,
    F_Disk_contents := fun_mk (st := s_Disk_contents) l_Disk_contents c_Disk_contents k_Disk_contents,
    p_Disk_contents := p_Disk_contents, P_Disk_contents := ⟨a_Disk_contents, ge_Disk_contents, tk_Disk_contents, ⟨_, rc_Disk_contents⟩⟩,
    f_Disk_lasting := f_Disk_lasting, fd_Disk_lasting := _,
    F_Disk_lasting := fun_mk (st := s_Disk_lasting) l_Disk_lasting c_Disk_lasting k_Disk_lasting,
    p_Disk_lasting := p_Disk_lasting, P_Disk_lasting := ⟨a_Disk_lasting, ge_Disk_lasting, tk_Disk_lasting, ⟨_, rc_Disk_lasting⟩⟩,
    f_Disk_pending := f_Disk_pending, fd_Disk_pending := _,
    F_Disk_pending := fun_mk (st := s_Disk_pending) l_Disk_pending c_Disk_pending k_Disk_pending,
    p_Disk_pending := p_Disk_pending, P_Disk_pending := ⟨a_Disk_pending, ge_Disk_pending, tk_Disk_pending, ⟨_, rc_Disk_pending⟩⟩,
    f_Disk__check_cell := f_Disk__check_cell, fd_Disk__check_cell := _,
    F_Disk__check_cell := fun_mk (st := s_Disk__check_cell) l_Disk__check_cell c_Disk__check_cell k_Disk__check_cell,
    m_Disk__check_cell := ⟨a_Disk__check_cell, i_Disk__check_cell, k_Disk__check_cell⟩,
    f_are_kept := f_are_kept, fd_are_kept := _,
    F_are_kept := fun_mk (st := s_are_kept) l_are_kept c_are_kept k_are_kept,
    g_are_kept := PySem.W.mg_of X G a_are_kept,
    f__law_random := f__law_random, fd__law_random := _,
    F__law_random := fun_mk (st := s__law_random) l__law_random c__law_random k__law_random,
    g__law_random := PySem.W.mg_of X G a__law_random,
    f__law_below := f__law_below, fd__law_below := _,
    F__law_below := fun_mk (st := s__law_below) l__law_below c__law_below k__law_below,
    g__law_below := PySem.W.mg_of X G a__law_below,
    z_isinstance := PySem.W.mg_none_of X G z_isinstance,
    z_int := PySem.W.mg_none_of X G z_int,
    z_bool := PySem.W.mg_none_of X G z_bool,
    z_list := PySem.W.mg_none_of X G z_list,
    z_tuple := PySem.W.mg_none_of X G z_tuple,
    z_len := PySem.W.mg_none_of X G z_len,
    z_abs := PySem.W.mg_none_of X G z_abs,
    z_range := PySem.W.mg_none_of X G z_range,
    z_set := PySem.W.mg_none_of X G z_set,
    t_MOST_CELLS := t_MOST_CELLS, c_MOST_CELLS := PySem.W.mg_of X G c_MOST_CELLS }
  exact ⟨PySem.W.fnOf "law" "law" (defArgs s_law) (defBody s_law) (defScope s_law) .none kV_law dc_law pm_law an_law cd_law ct_law, fun s v => .of_eq rfl, fun base _ _ => ok_law (fun_mk (st := s_law) l_law c_law k_law) T⟩
end Kb
open PySem PySem.W PyProof.Rows in
set_option maxRecDepth 100000 in
set_option maxHeartbeats 0 in
theorem PySem.Challenge.cw_keepbefore_k04_whole_disks_synced_at_any_holds : PySem.Challenge.rw_keepbefore_k04_whole_disks_synced_at_any.Holds := by
  w_on; o_law; k_head; (case hw => w_witness2)
  k_fill
  refine L2.walk_of (l := PySem.Challenge.rw_keepbefore_k04_whole_disks_synced_at_any) (n := 63) (k := 6) (x := "_law_script") (CX := fun _ => L2.CX0) (sp := fun w => Kb.spLaw _) rfl (by decide) rfl ⟨rfl, by decide, by decide⟩ (fun w h Y => PySem.W.kIn_of Y) ?F (fun _ _ a ns hl _ hS => ⟨a, ns, rfl, hS, hl, fun _ => rfl⟩) (fun _ _ _ _ _ h => h)
  case F =>
    intro w mg fa h KX G hmg
    refine' Kb.all_mk KX G hmg ?aC_Disk ?pg_Disk ?hd_Disk ?po_Disk ?sa_Disk ?n_Disk__contents ?n_Disk__lasting ?n_Disk__pending ?n_Disk__reads ?n_Disk__writes ?n_Disk__syncs ?a_is_number ?l_is_number ?c_is_number ?k_is_number ?a_is_number_from ?l_is_number_from ?c_is_number_from ?k_is_number_from ?a_Disk___init__ ?i_Disk___init__ ?mk_Disk___init__ ?kc_Disk___init__ ?l_Disk___init__ ?c_Disk___init__ ?k_Disk___init__ ?kd_Disk___init___content ?a_Disk_write ?i_Disk_write ?l_Disk_write ?c_Disk_write ?k_Disk_write ?a_Disk_sync ?i_Disk_sync ?l_Disk_sync ?c_Disk_sync ?k_Disk_sync ?a_Disk_fail ?i_Disk_fail ?l_Disk_fail ?c_Disk_fail ?k_Disk_fail ?a_Disk_contents ?ge_Disk_contents ?tk_Disk_contents ?rc_Disk_contents ?l_Disk_contents ?c_Disk_contents ?k_Disk_contents ?a_Disk_lasting ?ge_Disk_lasting ?tk_Disk_lasting ?rc_Disk_lasting ?l_Disk_lasting ?c_Disk_lasting ?k_Disk_lasting ?a_Disk_pending ?ge_Disk_pending ?tk_Disk_pending ?rc_Disk_pending ?l_Disk_pending ?c_Disk_pending ?k_Disk_pending ?a_Disk__check_cell ?i_Disk__check_cell ?l_Disk__check_cell ?c_Disk__check_cell ?k_Disk__check_cell ?a_are_kept ?l_are_kept ?c_are_kept ?k_are_kept ?a__law_random ?l__law_random ?c__law_random ?k__law_random ?a__law_below ?l__law_below ?c__law_below ?k__law_below ?a_law ?l_law ?c_law ?k_law ?z_isinstance ?z_int ?z_bool ?z_list ?z_tuple ?z_len ?z_abs ?z_range ?z_set ?c_MOST_CELLS
    (case aC_Disk => k_is)
    (case pg_Disk => k_is)
    (case hd_Disk => k_is)
    (case po_Disk => k_is)
    (case sa_Disk => k_is)
    (case n_Disk__contents => k_is)
    (case n_Disk__lasting => k_is)
    (case n_Disk__pending => k_is)
    (case n_Disk__reads => k_is)
    (case n_Disk__writes => k_is)
    (case n_Disk__syncs => k_is)
    (case a_is_number => k_is)
    (case l_is_number => k_is)
    (case c_is_number => k_is)
    (case k_is_number => k_is)
    (case a_is_number_from => k_is)
    (case l_is_number_from => k_is)
    (case c_is_number_from => k_is)
    (case k_is_number_from => k_is)
    (case a_Disk___init__ => k_is)
    (case i_Disk___init__ => k_is)
    (case mk_Disk___init__ => k_is)
    (case kc_Disk___init__ => k_is)
    (case l_Disk___init__ => k_is)
    (case c_Disk___init__ => k_is)
    (case k_Disk___init__ => k_is)
    (case kd_Disk___init___content => k_is)
    (case a_Disk_write => k_is)
    (case i_Disk_write => k_is)
    (case l_Disk_write => k_is)
    (case c_Disk_write => k_is)
    (case k_Disk_write => k_is)
    (case a_Disk_sync => k_is)
    (case i_Disk_sync => k_is)
    (case l_Disk_sync => k_is)
    (case c_Disk_sync => k_is)
    (case k_Disk_sync => k_is)
    (case a_Disk_fail => k_is)
    (case i_Disk_fail => k_is)
    (case l_Disk_fail => k_is)
    (case c_Disk_fail => k_is)
    (case k_Disk_fail => k_is)
    (case a_Disk_contents => k_is)
    (case ge_Disk_contents => k_is)
    (case tk_Disk_contents => k_is)
    (case rc_Disk_contents => k_is)
    (case l_Disk_contents => k_is)
    (case c_Disk_contents => k_is)
    (case k_Disk_contents => k_is)
    (case a_Disk_lasting => k_is)
    (case ge_Disk_lasting => k_is)
    (case tk_Disk_lasting => k_is)
    (case rc_Disk_lasting => k_is)
    (case l_Disk_lasting => k_is)
    (case c_Disk_lasting => k_is)
    (case k_Disk_lasting => k_is)
    (case a_Disk_pending => k_is)
    (case ge_Disk_pending => k_is)
    (case tk_Disk_pending => k_is)
    (case rc_Disk_pending => k_is)
    (case l_Disk_pending => k_is)
    (case c_Disk_pending => k_is)
    (case k_Disk_pending => k_is)
    (case a_Disk__check_cell => k_is)
    (case i_Disk__check_cell => k_is)
    (case l_Disk__check_cell => k_is)
    (case c_Disk__check_cell => k_is)
    (case k_Disk__check_cell => k_is)
    (case a_are_kept => k_is)
    (case l_are_kept => k_is)
    (case c_are_kept => k_is)
    (case k_are_kept => k_is)
    (case a__law_random => k_is)
    (case l__law_random => k_is)
    (case c__law_random => k_is)
    (case k__law_random => k_is)
    (case a__law_below => k_is)
    (case l__law_below => k_is)
    (case c__law_below => k_is)
    (case k__law_below => k_is)
    (case a_law => k_is)
    (case l_law => k_is)
    (case c_law => k_is)
    (case k_law => k_is)
    (case z_isinstance => k_is)
    (case z_int => k_is)
    (case z_bool => k_is)
    (case z_list => k_is)
    (case z_tuple => k_is)
    (case z_len => k_is)
    (case z_abs => k_is)
    (case z_range => k_is)
    (case z_set => k_is)
    (case c_MOST_CELLS => k_is)
