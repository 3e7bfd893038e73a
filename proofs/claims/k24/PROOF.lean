import PyProof.Rows.All
import Wide.All
import OpenK.AllK
import Wide.FinOn
import HandS.ForMost
import HandS.Defaults
import HandS.Property
import HandS.IsInst
import HandS.Conv
import HandS.Codes
import HandS.MakeKwOnly
import HandS.GenYield
import HandS.TupAny
import HandS.Zip
import HandS.Walk
import HandS.Wide
import KE.DatumOrd
import HandS.Style
import HandS.TupSets
import PySem.Challenge.RW_keepbefore_k24_whole_reads_more_miss_mor
set_option Elab.async false
set_option linter.all false
set_option maxRecDepth 100000
set_option maxHeartbeats 4000000
namespace Kb
open PySem L2
def top (i : Nat) : Stmt := PySem.Challenge.pw_keepbefore_k24_whole_reads_more_miss_mor.main.body.getD i (.Pass ⟨0, 0, 0, 0⟩)
abbrev s_is_number : Stmt := top 7
theorem sc_is_number : FnScope ["thing"] ["thing"] (defScope s_is_number) := ⟨rfl, rfl, rfl, by decide +kernel, rfl, by decide +kernel, by decide +kernel⟩
abbrev s_is_number_from : Stmt := top 8
theorem sc_is_number_from : FnScope ["thing", "least", "most"] ["thing", "least", "most"] (defScope s_is_number_from) := ⟨rfl, rfl, rfl, by decide +kernel, rfl, by decide +kernel, by decide +kernel⟩
abbrev s_check_slots : Stmt := top 9
theorem sc_check_slots : FnScope ["slots", "most"] ["slots", "most"] (defScope s_check_slots) := ⟨rfl, rfl, rfl, by decide +kernel, rfl, by decide +kernel, by decide +kernel⟩
abbrev s_fewest_misses : Stmt := top 13
theorem sc_fewest_misses : FnScope ["slots", "blocks", "kept", "plan", "at", "block", "entry"] ["slots", "blocks"] (defScope s_fewest_misses) := ⟨rfl, rfl, rfl, by decide +kernel, rfl, by decide +kernel, by decide +kernel⟩
abbrev s_judge_plan : Stmt := top 14
theorem sc_judge_plan : FnScope ["slots", "blocks", "plan", "kept", "misses", "at", "block"] ["slots", "blocks", "plan"] (defScope s_judge_plan) := ⟨rfl, rfl, rfl, by decide +kernel, rfl, by decide +kernel, by decide +kernel⟩
abbrev s__check_reads : Stmt := top 15
theorem sc__check_reads : FnScope ["slots", "blocks", "index", "block"] ["slots", "blocks"] (defScope s__check_reads) := ⟨rfl, rfl, rfl, by decide +kernel, rfl, by decide +kernel, by decide +kernel⟩
abbrev s__best_entry : Stmt := top 16
theorem sc__best_entry : FnScope ["slots", "kept", "block", "later", "other", "waits", "wait"] ["slots", "kept", "block", "later"] (defScope s__best_entry) := ⟨rfl, rfl, rfl, by decide +kernel, rfl, by decide +kernel, by decide +kernel⟩
abbrev s__wait : Stmt := top 17
theorem sc__wait : FnScope ["block", "later"] ["block", "later"] (defScope s__wait) := ⟨rfl, rfl, rfl, by decide +kernel, rfl, by decide +kernel, by decide +kernel⟩
abbrev s__can_be : Stmt := top 18
theorem sc__can_be : FnScope ["slots", "kept", "block", "entry"] ["slots", "kept", "block", "entry"] (defScope s__can_be) := ⟨rfl, rfl, rfl, by decide +kernel, rfl, by decide +kernel, by decide +kernel⟩
abbrev s__kept_after : Stmt := top 19
theorem sc__kept_after : FnScope ["kept", "block", "entry", "other"] ["kept", "block", "entry"] (defScope s__kept_after) := ⟨rfl, rfl, rfl, by decide +kernel, rfl, by decide +kernel, by decide +kernel⟩
abbrev s__law_random : Stmt := top 21
theorem sc__law_random : FnScope ["_law_script", "_law_salt", "_law_seed", "_law_cell"] ["_law_script", "_law_salt"] (defScope s__law_random) := ⟨rfl, rfl, rfl, by decide +kernel, rfl, by decide +kernel, by decide +kernel⟩
abbrev s__law_below : Stmt := top 22
theorem sc__law_below : FnScope ["_law_d", "_law_limit", "_law_result"] ["_law_d", "_law_limit"] (defScope s__law_below) := ⟨rfl, rfl, rfl, by decide +kernel, rfl, by decide +kernel, by decide +kernel⟩
abbrev s__law_shuffled : Stmt := top 23
theorem sc__law_shuffled : FnScope ["_law_d", "_law_items", "_law_pool", "_law_result"] ["_law_d", "_law_items"] (defScope s__law_shuffled) := ⟨rfl, rfl, rfl, by decide +kernel, rfl, by decide +kernel, by decide +kernel⟩
abbrev s_law : Stmt := top 24
theorem sc_law : FnScope ["_law_script", "_law_d", "_law_slots", "_law_few", "_law_blocks", "_law_before", "_law_length", "_law_misses", "_law_plan", "_law_names", "_law_k", "_law_block"] ["_law_script"] (defScope s_law) := ⟨rfl, rfl, rfl, by decide +kernel, rfl, by decide +kernel, by decide +kernel⟩
structure Gx (K : PySem.W.Frag) (mg : Str → Option Value) where
  f_is_number : Addr
  fd_is_number : FuncData
  F_is_number : Fun K "is_number" "is_number" s_is_number f_is_number fd_is_number
  g_is_number : mg "is_number" = some (.ref f_is_number)
  f_is_number_from : Addr
  fd_is_number_from : FuncData
  F_is_number_from : Fun K "is_number_from" "is_number_from" s_is_number_from f_is_number_from fd_is_number_from
  g_is_number_from : mg "is_number_from" = some (.ref f_is_number_from)
  f_check_slots : Addr
  fd_check_slots : FuncData
  F_check_slots : FunD K "check_slots" "check_slots" (defArgs s_check_slots) (defBody s_check_slots) (defScope s_check_slots) [.int 8] [] f_check_slots fd_check_slots
  g_check_slots : mg "check_slots" = some (.ref f_check_slots)
  f_fewest_misses : Addr
  fd_fewest_misses : FuncData
  F_fewest_misses : Fun K "fewest_misses" "fewest_misses" s_fewest_misses f_fewest_misses fd_fewest_misses
  g_fewest_misses : mg "fewest_misses" = some (.ref f_fewest_misses)
  f_judge_plan : Addr
  fd_judge_plan : FuncData
  F_judge_plan : Fun K "judge_plan" "judge_plan" s_judge_plan f_judge_plan fd_judge_plan
  g_judge_plan : mg "judge_plan" = some (.ref f_judge_plan)
  f__check_reads : Addr
  fd__check_reads : FuncData
  F__check_reads : Fun K "_check_reads" "_check_reads" s__check_reads f__check_reads fd__check_reads
  g__check_reads : mg "_check_reads" = some (.ref f__check_reads)
  f__best_entry : Addr
  fd__best_entry : FuncData
  F__best_entry : Fun K "_best_entry" "_best_entry" s__best_entry f__best_entry fd__best_entry
  g__best_entry : mg "_best_entry" = some (.ref f__best_entry)
  f__wait : Addr
  fd__wait : FuncData
  F__wait : Fun K "_wait" "_wait" s__wait f__wait fd__wait
  g__wait : mg "_wait" = some (.ref f__wait)
  f__can_be : Addr
  fd__can_be : FuncData
  F__can_be : Fun K "_can_be" "_can_be" s__can_be f__can_be fd__can_be
  g__can_be : mg "_can_be" = some (.ref f__can_be)
  f__kept_after : Addr
  fd__kept_after : FuncData
  F__kept_after : Fun K "_kept_after" "_kept_after" s__kept_after f__kept_after fd__kept_after
  g__kept_after : mg "_kept_after" = some (.ref f__kept_after)
  f__law_random : Addr
  fd__law_random : FuncData
  F__law_random : Fun K "_law_random" "_law_random" s__law_random f__law_random fd__law_random
  g__law_random : mg "_law_random" = some (.ref f__law_random)
  f__law_below : Addr
  fd__law_below : FuncData
  F__law_below : Fun K "_law_below" "_law_below" s__law_below f__law_below fd__law_below
  g__law_below : mg "_law_below" = some (.ref f__law_below)
  f__law_shuffled : Addr
  fd__law_shuffled : FuncData
  F__law_shuffled : Fun K "_law_shuffled" "_law_shuffled" s__law_shuffled f__law_shuffled fd__law_shuffled
  g__law_shuffled : mg "_law_shuffled" = some (.ref f__law_shuffled)
  z_isinstance : mg "isinstance" = none
  z_int : mg "int" = none
  z_bool : mg "bool" = none
  z_list : mg "list" = none
  z_len : mg "len" = none
  z_abs : mg "abs" = none
  z_range : mg "range" = none
  z_enumerate : mg "enumerate" = none
  z_max : mg "max" = none
  z_set : mg "set" = none
  t_MOST_READS : Tok
  c_MOST_READS : mg "MOST_READS" = some (.int 14 t_MOST_READS)
  t_MOST_READ_BLOCK : Tok
  c_MOST_READ_BLOCK : mg "MOST_READ_BLOCK" = some (.int 15 t_MOST_READ_BLOCK)
section
variable {K : PySem.W.Frag} {mg : Str → Option Value}
theorem b_is_number (T : Gx K mg) : Binds K T.fd_is_number ["thing"] [] := T.F_is_number.binds (ps := ["thing"]) fun _ _ _ _ _ _ us hl => match us, hl with | [_], _ => rfl
theorem b_is_number_from (T : Gx K mg) : Binds K T.fd_is_number_from ["thing", "least", "most"] [] := T.F_is_number_from.binds (ps := ["thing", "least", "most"]) fun _ _ _ _ _ _ us hl => match us, hl with | [_, _, _], _ => rfl
theorem b_fewest_misses (T : Gx K mg) : Binds K T.fd_fewest_misses ["slots", "blocks"] [] := T.F_fewest_misses.binds (ps := ["slots", "blocks"]) fun _ _ _ _ _ _ us hl => match us, hl with | [_, _], _ => rfl
theorem b_judge_plan (T : Gx K mg) : Binds K T.fd_judge_plan ["slots", "blocks", "plan"] [] := T.F_judge_plan.binds (ps := ["slots", "blocks", "plan"]) fun _ _ _ _ _ _ us hl => match us, hl with | [_, _, _], _ => rfl
theorem b__check_reads (T : Gx K mg) : Binds K T.fd__check_reads ["slots", "blocks"] [] := T.F__check_reads.binds (ps := ["slots", "blocks"]) fun _ _ _ _ _ _ us hl => match us, hl with | [_, _], _ => rfl
theorem b__best_entry (T : Gx K mg) : Binds K T.fd__best_entry ["slots", "kept", "block", "later"] [] := T.F__best_entry.binds (ps := ["slots", "kept", "block", "later"]) fun _ _ _ _ _ _ us hl => match us, hl with | [_, _, _, _], _ => rfl
theorem b__wait (T : Gx K mg) : Binds K T.fd__wait ["block", "later"] [] := T.F__wait.binds (ps := ["block", "later"]) fun _ _ _ _ _ _ us hl => match us, hl with | [_, _], _ => rfl
theorem b__can_be (T : Gx K mg) : Binds K T.fd__can_be ["slots", "kept", "block", "entry"] [] := T.F__can_be.binds (ps := ["slots", "kept", "block", "entry"]) fun _ _ _ _ _ _ us hl => match us, hl with | [_, _, _, _], _ => rfl
theorem b__kept_after (T : Gx K mg) : Binds K T.fd__kept_after ["kept", "block", "entry"] [] := T.F__kept_after.binds (ps := ["kept", "block", "entry"]) fun _ _ _ _ _ _ us hl => match us, hl with | [_, _, _], _ => rfl
theorem b__law_random (T : Gx K mg) : Binds K T.fd__law_random ["_law_script", "_law_salt"] [] := T.F__law_random.binds (ps := ["_law_script", "_law_salt"]) fun _ _ _ _ _ _ us hl => match us, hl with | [_, _], _ => rfl
theorem b__law_below (T : Gx K mg) : Binds K T.fd__law_below ["_law_d", "_law_limit"] [] := T.F__law_below.binds (ps := ["_law_d", "_law_limit"]) fun _ _ _ _ _ _ us hl => match us, hl with | [_, _], _ => rfl
theorem b__law_shuffled (T : Gx K mg) : Binds K T.fd__law_shuffled ["_law_d", "_law_items"] [] := T.F__law_shuffled.binds (ps := ["_law_d", "_law_items"]) fun _ _ _ _ _ _ us hl => match us, hl with | [_, _], _ => rfl
end
/-! ### heaps and frames -/
/-- outside S all that was tracked is as it was -/
def Fr (S : List Addr) (H H' : Hp) : Prop := ∀ b o, H b = some o → b ∉ S → H' b = some o
theorem Fr.refl (S : List Addr) (H : Hp) : Fr S H H := fun _ _ h _ => h
theorem Fr.trans {S : List Addr} {H H1 H2 : Hp} (a : Fr S H H1) (b : Fr S H1 H2) : Fr S H H2 := fun c o h n => b c o (a c o h n) n
theorem Fr.mono {S T : List Addr} {H H' : Hp} (a : Fr S H H') (h : ∀ b ∈ S, b ∈ T) : Fr T H H' := fun b o e n => a b o e (fun z => n (h b z))
theorem Fr.put {S : List Addr} {H : Hp} {a : Addr} {o : HO} (h : a ∈ S) : Fr S H (upd H a o) := fun b u e n => by
  rw [upd_ne (fun z => n (by rw [z]; exact h))]
  exact e
theorem Fr.new {S : List Addr} {H : Hp} {p : Addr} {o : HO} (h : H p = none) : Fr S H (upd H p o) := fun b u e _ => by
  rw [upd_ne (ne_of_none e h)]
  exact e
theorem Fr.nil_of {S : List Addr} {H H' : Hp} (a : Fr [] H H') : Fr S H H' := a.mono (fun _ h => by cases h)
theorem Fr.at_ {S : List Addr} {H H' : Hp} {b : Addr} {o : HO} (f : Fr S H H') (e : H b = some o) (n : b ∉ S) : H' b = some o := f b o e n
theorem fresh_out {H : Hp} {b : Addr} {o : HO} {p : Addr} (e : H b = some o) (n : H p = none) : b ≠ p := ne_of_none e n
/-- S and T share nothing -/
def Sep (S T : List Addr) : Prop := ∀ b ∈ S, b ∉ T
theorem Sep.symm {S T : List Addr} (h : Sep S T) : Sep T S := fun b hb hs => h b hs hb
/-- what owns S' came of S or is new, and so is apart from what stood in H -/
theorem Sep.grow {H : Hp} {S S' T : List Addr} (h : Sep S T) (g : ∀ b ∈ S', b ∈ S ∨ H b = none) (t : ∀ b ∈ T, ∃ o, H b = some o) : Sep S' T := fun b hb ht => by
  rcases g b hb with z | z
  · exact h b z ht
  · obtain ⟨o, e⟩ := t b ht
    rw [z] at e
    cases e
theorem vlen {α β : Type} {xs : List α} {f : α → β} : (xs.map f).length = xs.length := List.length_map f
theorem sz_le {n : Nat} (h : n ≤ 100000) : n ≤ sizeLine := Nat.le_trans h (by decide)
theorem sz_lt {n : Nat} (h : n < 100000) : n < sizeLine := Nat.lt_of_lt_of_le h (by decide)
theorem ix_at {n : Nat} (j : Nat) (h : j < n) : ixN n (j : Int) = some j := by
  unfold ixN
  rw [if_pos (Int.natCast_nonneg j), if_pos (by omega)]
  rfl
theorem free_upd {H : Hp} {a p : Addr} {o : HO} (h : upd H a o p = none) : H p = none ∧ p ≠ a := by
  by_cases e : p = a
  · rw [e, upd_same] at h
    cases h
  · rw [upd_ne e] at h
    exact ⟨h, e⟩
theorem int_at {ns : List Int} {i : Nat} {x : V} (h : (ns.map V.int)[i]? = some x) : ∃ u, x = V.int u ∧ ns[i]? = some u := by
  rw [List.getElem?_map] at h
  cases e : ns[i]? with
  | none =>
    rw [e] at h
    cases h
  | some u =>
    rw [e] at h
    exact ⟨u, (Option.some.inj h).symm, rfl⟩
theorem lt_of_at {α : Type} {xs : List α} {i : Nat} {x : α} (h : xs[i]? = some x) : i < xs.length := (List.getElem?_eq_some_iff.mp h).1
theorem Fr.seq {K : PySem.W.Frag} {S : List Addr} {H H' : Hp} {a : Addr} {xs : List V} (f : Fr S H H') (n : a ∉ S) (h : SqL K H a xs) : SqL K H' a xs := by
  rcases h with (h | ⟨o, h⟩) | h
  · exact .inl (.inl (f _ _ h n))
  · exact .inl (.inr ⟨o, f _ _ h n⟩)
  · exact .inr h
theorem Fr.tup {K : PySem.W.Frag} {S : List Addr} {H H' : Hp} {a : Addr} {xs : List V} (f : Fr S H H') (n : a ∉ S) (h : SqT K H a xs) : SqT K H' a xs := by
  rcases h with (h | ⟨o, h⟩) | h
  · exact .inl (.inl (f _ _ h n))
  · exact .inl (.inr ⟨o, f _ _ h n⟩)
  · exact .inr h
theorem some_of {H H' : Hp} {S : List Addr} (f : Fr S H H') (hs : ∀ b ∈ S, ∃ o, H' b = some o) {p : Addr} (h : H' p = none) : H p = none := by
  cases e : H p with
  | none => rfl
  | some o =>
    by_cases hp : p ∈ S
    · obtain ⟨o', e'⟩ := hs p hp
      rw [e'] at h
      cases h
    · rw [f p o e hp] at h
      cases h
theorem pe_never {X : Cx} {e : Expr} : PE X e (fun _ _ _ => False) := ⟨fun _ _ _ _ _ _ h => h.elim⟩
theorem iteFb {A B : Prop} {b : Bool} (e : b = false) (h : B) : if b = true then A else B := by
  rw [if_neg (by rw [e]; simp)]
  exact h
theorem iteTb {A B : Prop} {b : Bool} (e : b = true) (h : A) : if b = true then A else B := by
  rw [if_pos e]
  exact h
/-! ### the law's random list -/
def Rnd (H : Hp) (r : Addr) : Prop := ∃ (a b : Int) (ns : List Int), H r = some (.lst (V.int a :: V.int b :: ns.map V.int))
def spBelow : Sp := fun vs H Q _ => ∃ (r : Addr) (lim : Nat), vs = [.ref r, .int (lim : Int)] ∧ Rnd H r ∧ 0 < lim ∧ lim < 1180591620717411303424 ∧ ∀ (z : Nat) (H' : Hp), z < lim → Fr [r] H H' → Rnd H' r → Q (.int (z : Int)) H'
theorem Rnd.put {H : Hp} {r : Addr} (a b : Int) (ns : List Int) : Rnd (upd H r (.lst (V.int a :: V.int b :: ns.map V.int))) r := ⟨a, b, ns, upd_same⟩
theorem Rnd.notup {H : Hp} {r : Addr} (h : Rnd H r) : ∀ b ∈ [r], ∀ xs, H b ≠ some (.tup xs) := by
  obtain ⟨a, b, ns, e⟩ := h
  intro b hb xs
  rw [List.mem_singleton.mp hb, e]
  simp
theorem Rnd.keep {H H' : Hp} {r : Addr} {S : List Addr} (h : Rnd H r) (f : Fr S H H') (n : r ∉ S) : Rnd H' r := by
  obtain ⟨a, b, ns, e⟩ := h
  exact ⟨a, b, ns, f _ _ e n⟩
section
variable {P : Program} {w : World} {K : PySem.W.Frag} {mg : Str → Option Value} {base : Heap}
theorem ok_below (T : Gx K mg) : FnOk P w K mg base CX0 1 T.f__law_below T.fd__law_below ["_law_d", "_law_limit"] spBelow := by
  refine T.F__law_below.ok sc__law_below (fun vs H Q E h => ?_) (fun cdv A outer s H vs Q E hr h => ?_)
  · obtain ⟨r, lim, rfl, _⟩ := h
    rfl
  · obtain ⟨r, lin, rfl, hR, h0', h1', k'⟩ := h
    obtain ⟨lim, hlim⟩ : ∃ lim : Int, lim = (lin : Int) := ⟨_, rfl⟩
    have h0 : 0 < lim := by omega
    have h1 : lim < 1180591620717411303424 := by omega
    have k : ∀ (z : Int) (H' : Hp), 0 ≤ z → z < lim → Fr [r] H H' → Rnd H' r → Q (.int z) H' := fun z H' a b f g => by
      obtain ⟨n, rfl⟩ := Int.eq_ofNat_of_zero_le a
      exact k' n H' (by omega) f g
    rw [← hlim]
    refine ⟨_, C8.pss_cut (ps_if (PW.pt (pw_and (pt_cmpR op_eq (pe_ix ix_list (pv 0) pe_int (fun _ _ => rfl)) pe_int (nomark _))
          (pw_and1 (pt_cmpR op_gt (pe_callB call_len_seq (by rfl) T.z_len PySem.boot_len (pa_cons (pv 0) pa_nil)) pe_int (nomark _)))))
        (pss_one (ps_asg (pe_bm PySem.F.plainAttrs_list PySem.F.slot_list_pop PySem.F.type_list_pop mt_popAt (pv 0) (pa_cons pe_int pa_nil)) (pg_sub (pv 0) pe_int set_list))) pss_nil)
      (pss_cons (ps_if (pt_cmpR op_gt (pe_ix ix_list (pv 0) pe_int (fun _ _ => rfl)) pe_int (nomark _))
        (pss_cons (ps_set (i := 2) sc__law_below.nd rfl (.inl rfl) (pe_op op_mod (pe_callTy call_int1 (by rfl) T.z_int (by decide +kernel) (pa_cons (pe_ix ix_list (pv 0) pe_int (fun _ _ => rfl)) pa_nil)) (pv 1)))
        (pss_cons (ps_asg (pe_op op_fdivW (pe_ix ix_list (pv 0) pe_int (fun _ _ => rfl)) (pv 1)) (pg_sub (pv 0) pe_int set_list))
        (pss_one (ps_ret (pv 2))))) pss_nil)
      (pss_cons (ps_asg (pe_op op_mod (pe_callTy call_int1 (by rfl) T.z_int (by decide +kernel) (pa_cons (pe_op op_add (pe_op op_mul (pe_ix ix_list (pv 0) pe_int (fun _ _ => rfl)) pe_int) pe_int) pa_nil)) pe_int) (pg_sub (pv 0) pe_int set_list))
      (pss_one (ps_ret (pe_op op_mod (pe_callTy call_int1 (by rfl) T.z_int (by decide +kernel) (pa_cons (pe_op op_fdiv (pe_ix ix_list (pv 0) pe_int (fun _ _ => rfl)) pe_int) pa_nil)) (pv 1)))))), ?_⟩
    refine ⟨fun σ H1 => σ = [some (.ref r), some (.int lim), none] ∧ Rnd H1 r ∧ Fr [r] H H1, ?_, ?_⟩
    · obtain ⟨a, b, ns, e⟩ := hR
      have hR0 : Rnd H r := ⟨a, b, ns, e⟩
      refine ⟨_, rfl, r, _, 1, .int b, rfl, rfl, SqL.of e, atI_nat (j := 1) rfl, rfl, _, rfl, ite2 (fun hb => ?_) (fun hb => ?_)⟩
      · refine ⟨_, rfl, r, _, rfl, .inl (SqL.of e), _, _, rfl, rfl, _, rfl, ite2 (fun hl => ?_) (fun hl => ?_)⟩
        · have hl' : (2 : Int) < ((V.int a :: V.int b :: ns.map V.int).length : Int) := of_decide_eq_true hl
          cases ns with
          | nil => exact absurd hl' (by simp)
          | cons c rest =>
            refine ⟨_, rfl, .inl ⟨rfl, _, SqL.of e⟩, r, _, 2, 2, .int c, rfl, rfl, e, by decide, by decide, ?_, rfl, ?_⟩
            · show seqIndex? 2 _ = some 2
              unfold seqIndex?
              rw [List.length_cons, List.length_cons, List.map_cons, List.length_cons]
              simp
              omega
            · refine ⟨_, rfl, r, _, 1, 1, rfl, rfl, upd_same, ?_, rfl, ?_, ?_⟩
              · exact ix_at 1 (by simp [List.length_eraseIdx])
              · rw [upd_upd]
                exact Rnd.put a c rest
              · rw [upd_upd]
                exact Fr.put (List.mem_singleton.mpr rfl)
        · exact ⟨rfl, hR0, Fr.refl _ _⟩
      · exact ⟨rfl, hR0, Fr.refl _ _⟩
    · rintro σ' H1 ⟨rfl, ⟨a, b, ns, e⟩, fr⟩
      refine ⟨_, rfl, r, _, 1, .int b, rfl, rfl, SqL.of e, atI_nat (j := 1) rfl, _, _, rfl, rfl, _, rfl, ite2 (fun hb => ?_) (fun hb => ?_)⟩
      · refine ⟨_, rfl, r, _, 1, .int b, rfl, rfl, SqL.of e, atI_nat (j := 1) rfl, .inl ⟨_, rfl, ?_⟩⟩
        refine ⟨_, rfl, _, _, rfl, rfl, h0, ?_⟩
        refine ⟨_, rfl, r, _, 1, .int b, rfl, rfl, SqL.of e, atI_nat (j := 1) rfl, _, rfl, _, _, rfl, rfl, wide_div (b := 70) h0 (by omega) (by decide) (by decide), ?_⟩
        refine ⟨_, rfl, r, _, 1, 1, rfl, rfl, e, ix_at 1 (by simp), ?_⟩
        refine ⟨_, rfl, k _ _ (Int.emod_nonneg _ (by omega)) (Int.emod_lt_of_pos _ h0) (fr.trans (Fr.put (List.mem_singleton.mpr rfl))) (Rnd.put a _ ns)⟩
      · refine ⟨_, rfl, r, _, 0, .int a, rfl, rfl, SqL.of e, atI_nat (j := 0) rfl, _, _, rfl, rfl, .inr (by decide), _, _, rfl, rfl, .inl ⟨_, rfl, _, _, rfl, rfl, (by show (0 : Int) < 2147483647; decide), ?_⟩⟩
        refine ⟨_, rfl, r, _, 0, 0, rfl, rfl, e, ix_at 0 (by simp), ?_⟩
        refine ⟨_, rfl, r, _, 0, _, rfl, rfl, SqL.of upd_same, atI_nat (j := 0) rfl, _, _, rfl, rfl, ⟨by decide, by decide⟩, .inl ⟨_, rfl, _, rfl, _, _, rfl, rfl, h0, ?_⟩⟩
        exact k _ _ (Int.emod_nonneg _ (by omega)) (Int.emod_lt_of_pos _ h0) (fr.trans (Fr.put (List.mem_singleton.mpr rfl))) (Rnd.put _ b ns)
end
def spRandom (K : PySem.W.Frag) : Sp := fun vs H Q _ => ∃ (a : Addr) (salt : Int) (ns : List Int), vs = [.ref a, .int salt] ∧ SqL K H a (ns.map V.int) ∧ ns.length ≤ 63 ∧ ∀ (r : Addr) (H' : Hp), H r = none → Fr [] H H' → Rnd H' r → Q (.ref r) H'
section
variable {P : Program} {w : World} {K : PySem.W.Frag} {mg : Str → Option Value} {base : Heap}
theorem ok_random (T : Gx K mg) : FnOk P w K mg base CX0 1 T.f__law_random T.fd__law_random ["_law_script", "_law_salt"] (spRandom K) := by
  refine T.F__law_random.ok sc__law_random (fun vs H Q E h => ?_) (fun cdv A outer s H vs Q E hr h => ?_)
  · obtain ⟨a, salt, ns, rfl, _⟩ := h
    rfl
  · obtain ⟨a, salt, ns, rfl, hS, hlen, k⟩ := h
    refine ⟨_, pss_cons (ps_set (i := 2) sc__law_random.nd rfl (.inl rfl) (pv 1))
      (pss_cons (ps_for PassesOwn.never rfl (pi_list (pv 0)) (pg_name (i := 3) sc__law_random.nd rfl (.inl rfl))
        (pss_one (ps_set (i := 2) sc__law_random.nd rfl (.inl rfl) (pe_op op_mod (pe_callTy call_int1 (by rfl) T.z_int (by decide +kernel) (pa_cons (pe_op op_add (pe_op op_mul (pv 2) pe_int) (pe_callB call_abs (by rfl) T.z_abs (by decide +kernel) (pa_cons (pv 3) pa_nil))) pa_nil)) pe_int))))
      (pss_one (ps_ret (pe_op op_cat (pe_lst (pa_cons (pv 2) (pa_cons pe_int pa_nil))) (pe_lc (own := [("_law_cell", 3)]) (g := gName 3) rfl sc__law_random.nd (pi_list (pv 0)) (blkOk_by (N := ["_law_script", "_law_salt", "_law_seed", "_law_cell"]) (sc := defScope s__law_random) (by decide +kernel)) (fun _ _ _ _ _ => pg_name (i := 3) sc__law_random.nd rfl (.inl rfl)) (fun _ _ _ _ _ => pts_one (pt_cmpR op_ge (pv 3) (pe_op op_pow pe_int pe_int) (nomark _))) (fun _ _ _ _ _ => pv 3)))))), ?_⟩
    refine ⟨_, rfl, _, rfl, a, rfl, ⟨_, hS⟩, for_list (K := K) (a := a) (xs := ns.map V.int) (fun i σ H' => H' = H ∧ ∃ (z : Int) (v : Option V), σ = [some (.ref a), some (.int salt), some (.int z), v]) ⟨rfl, salt, none, rfl⟩ (fun i σ H' _ e => by rw [e.1]; exact hS) ?_ ?_⟩
    · rintro i x σ H' hi ⟨rfl, z, v, rfl⟩
      obtain ⟨u, rfl, _⟩ := int_at hi
      exact ⟨_, rfl, _, _, rfl, rfl, .inr (by decide), _, rfl, _, rfl, _, _, rfl, rfl, .inl ⟨_, rfl, _, _, rfl, rfl, (by show (0 : Int) < 2147483647; decide), rfl, _, _, rfl⟩⟩
    · rintro σ H' ⟨rfl, z, v, rfl⟩
      refine ⟨_, rfl, sz_le (by simp), fun l hl => ?_⟩
      have sl : Fr [] H' (upd H' l (.lst [V.int z, V.int 0])) := Fr.new hl
      have hS1 : SqL K (upd H' l (.lst [V.int z, V.int 0])) a (ns.map V.int) := sl.seq (by simp) hS
      refine ⟨_, rfl, a, rfl, ⟨_, hS1⟩, fun D hD => ?_⟩
      have hDl := free_upd hD
      refine lc_list (K := K) (a := a) (xs := ns.map V.int) (fun i H2 => ∃ ms : List Int, ms.length ≤ i ∧ H2 = upd (upd H' l (.lst [V.int z, V.int 0])) D (.lst (ms.map V.int))) ⟨[], Nat.le_refl _, rfl⟩ ?_ ?_ ?_
      · rintro i H2 _ ⟨ms, _, rfl⟩
        exact (Fr.new (S := []) hD).seq (by simp) hS1
      · rintro i x H2 hi ⟨ms, hm, rfl⟩
        obtain ⟨u, rfl, _⟩ := int_at hi
        have li := lt_of_at hi
        rw [List.length_map] at li
        refine ⟨rfl, _, rfl, _, _, rfl, rfl, ⟨by decide, by decide, by decide⟩, _, _, rfl, rfl, _, rfl, ite2 (fun _ => ?_) (fun _ => ?_)⟩
        · refine ⟨_, rfl, _, upd_same, ?_, ms ++ [u], ?_, ?_⟩
          · rw [List.length_map]
            exact sz_lt (by omega)
          · rw [List.length_append, List.length_singleton]
            omega
          · rw [upd_upd, List.map_append]
            rfl
        · exact ⟨ms, by omega, rfl⟩
      · rintro H2 ⟨ms, hm, rfl⟩
        rw [List.length_map] at hm
        refine ⟨l, D, [V.int z, V.int 0], _, rfl, rfl, ?_, upd_same, ?_, fun p hp => ?_⟩
        · rw [upd_ne hDl.2.symm]
          exact upd_same
        · rw [List.length_map]
          exact sz_le (by simp; omega)
        · obtain ⟨hp1, _⟩ := free_upd hp
          obtain ⟨hp2, _⟩ := free_upd hp1
          exact k p _ hp2 ((sl.trans (Fr.new hD)).trans (Fr.new hp)) ⟨z, 0, ms, upd_same⟩
end
/-! ### what counts as a number -/
def spNum (K : PySem.W.Frag) : Sp := fun vs H Q _ => ∃ (v : V) (t : Value) (b1 b2 : Bool), vs = [v] ∧ TyX K H v t ∧ PySem.W.kitOne K t (.type "int") = some b1 ∧ PySem.W.kitOne K t (.type "bool") = some b2 ∧ Q (.bl (b1 && !b2)) H
def spNumFrom (K : PySem.W.Frag) : Sp := fun vs H Q _ => ∃ (v : V) (lo hi : Int), vs = [v, .int lo, .int hi] ∧
  ((∃ i : Int, v = .int i ∧ Q (.bl (decide (lo ≤ i) && decide (i ≤ hi))) H) ∨ ∃ (t : Value) (b1 b2 : Bool), TyX K H v t ∧ PySem.W.kitOne K t (.type "int") = some b1 ∧ PySem.W.kitOne K t (.type "bool") = some b2 ∧ (b1 && !b2) = false ∧ Q (.bl false) H)
section
variable {P : Program} {w : World} {K : PySem.W.Frag} {mg : Str → Option Value} {base : Heap}
theorem ok_num (T : Gx K mg) : FnOk P w K mg base CX0 1 T.f_is_number T.fd_is_number ["thing"] (spNum K) := by
  refine T.F_is_number.ok sc_is_number (fun vs H Q E h => ?_) (fun cdv A outer s H vs Q E hr h => ?_)
  · obtain ⟨v, t, b1, b2, rfl, _⟩ := h
    rfl
  · obtain ⟨v, t, b1, b2, rfl, ty, e1, e2, k⟩ := h
    refine ⟨_, pss_one (ps_ret (pe_and (pe_callB call_isi (by rfl) T.z_isinstance (by decide +kernel) (pa_cons (pv 0) (pa_cons (pe_bltn (v := .ty "int") (by rfl) T.z_int (by decide +kernel) rfl) pa_nil)))
      (pe_one (pe_not (pe_callB call_isi (by rfl) T.z_isinstance (by decide +kernel) (pa_cons (pv 0) (pa_cons (pe_bltn (v := .ty "bool") (by rfl) T.z_bool (by decide +kernel) rfl) pa_nil))))))), ?_⟩
    refine ⟨v, rfl, v, .ty "int", t, _, b1, rfl, ClsV.ty "int", ty, e1, b1, rfl, ?_⟩
    cases b1 with
    | false => exact iteF k
    | true => exact iteT ⟨v, rfl, v, .ty "bool", t, _, b2, rfl, ClsV.ty "bool", ty, e2, b2, rfl, k⟩
theorem ok_numFrom (T : Gx K mg) : FnOk P w K mg base CX0 2 T.f_is_number_from T.fd_is_number_from ["thing", "least", "most"] (spNumFrom K) := by
  have G1 : FnOk P w K mg base CX0 1 T.f_is_number T.fd_is_number ["thing"] (spNum K) := ok_num T
  refine T.F_is_number_from.ok sc_is_number_from (fun vs H Q E h => ?_) (fun cdv A outer s H vs Q E hr h => ?_)
  · obtain ⟨v, lo, hi, rfl, _⟩ := h
    rfl
  · obtain ⟨v, lo, hi, rfl, h⟩ := h
    refine ⟨_, pss_one (ps_ret (pe_and (pe_call G1 hr (by rfl) T.g_is_number T.F_is_number.kp (b_is_number T) .nil pass0 (pa_cons (pv 0) pa_nil)) (pe_one (pe_chain op_le op_le (pv 1) (pv 0) (pv 2))))), ?_⟩
    rcases h with ⟨i, rfl, k⟩ | ⟨t, b1, b2, ty, e1, e2, e3, k⟩
    · refine ⟨_, rfl, .int i, .type "int", true, false, rfl, .base (.int i), kit_ty (by decide +kernel), kit_ty (by decide +kernel), true, rfl, iteT ?_⟩
      refine ⟨_, rfl, _, rfl, _, _, rfl, rfl, _, rfl, ?_⟩
      by_cases hl : lo ≤ i
      · rw [decide_eq_true hl] at k ⊢
        exact iteT ⟨_, rfl, _, _, rfl, rfl, k⟩
      · rw [decide_eq_false hl] at k ⊢
        exact iteF k
    · refine ⟨_, rfl, v, t, b1, b2, rfl, ty, e1, e2, _, rfl, ?_⟩
      rw [e3]
      exact iteF k
end
theorem ix_listK {X : Cx} {K : PySem.W.Frag} (h : X.K = K) : IxR X (rIxL K) := by
  subst h
  exact ix_list
theorem ix_tupK {X : Cx} {K : PySem.W.Frag} (h : X.K = K) : IxR X (rIxT K) := by
  subst h
  exact ix_tup
theorem Fr.upd0 {H H1 : Hp} {D : Addr} {o : HO} (f : Fr [] H H1) (h : H D = none) : Fr [] H (upd H1 D o) := fun b u e n => by
  have hb : b ≠ D := fun z => by rw [z, h] at e; cases e
  rw [upd_ne hb]
  exact f b u e n
theorem for_enumL {K : PySem.W.Frag} {a : Addr} {xs : List V} {g : TG} {tb : TS} {D : Ends} {σ : L2.St} {H : Hp} (Pv : Nat → L2.St → Hp → Prop) (h0 : Pv 0 σ H) (hl : ∀ i σ H, i ≤ xs.length → Pv i σ H → SqL K H a xs)
    (hs : ∀ i x σ H T, xs[i]? = some x → Pv i σ H → H T = none → g (.ref T) σ (upd H T (.tup [.int (i : Nat), x])) fun σ2 H2 => tb { D with nx := Pv (i + 1), ct := Pv (i + 1), bk := D.nx } σ2 H2) (hd : ∀ σ H, Pv xs.length σ H → D.nx σ H) :
    ∃ W : Nat → Nat → L2.St → Hp → Prop, (∃ m, W 0 m σ H) ∧ ∀ i m σ H, W i m σ H →
      ((Ite K a).stop i H ∧ D.nx σ H) ∨ ((Ite K a).go i H ∧ ∃ N : L2.St → Hp → Prop, (∀ σ' H', N σ' H' → ∃ m', m' < m ∧ W (i + 1) m' σ' H') ∧ ∀ x H', (Ite K a).yld i H x H' → g x σ H' fun σ2 H2 => tb { D with nx := N, ct := N, bk := D.nx } σ2 H2) := by
  refine for_it (walk_enum (K := K) (a := a) (xs := xs)) Pv h0 hl (fun i x σ H H' hi p y => ?_) hd
  obtain ⟨T, x', y', rfl, hT, rfl, e1, e2⟩ := y
  cases e1
  exact hs i y' σ H T e2 p hT
/-! ### plans -/
/-- an entry that is none, "keep", or a block -/
inductive Ent where
  | no
  | keep
  | drop (n : Int)
def Ent.v : Ent → V
  | .no => .non
  | .keep => .str "keep"
  | .drop n => .int n
def keptAfter (kept : List Int) (b : Int) : Ent → List Int
  | .no => kept
  | .keep => kept ++ [b]
  | .drop n => kept.filter (fun o => decide (o ≠ n)) ++ [b]
def canBe (s : Int) (kept : List Int) (b : Int) : Ent → Bool
  | .no => true
  | .keep => decide (b ∉ kept) && decide ((kept.length : Int) < s)
  | .drop n => decide (b ∉ kept) && decide (n ∈ kept)
def keptOf (l : List (Int × Ent)) : List Int := l.foldl (fun k q => keptAfter k q.1 q.2) []
def missOf : List Int → List (Int × Ent) → Int
  | _, [] => 0
  | k, q :: l => (if q.1 ∈ k then 0 else 1) + missOf (keptAfter k q.1 q.2) l
theorem keptOf_snoc (l : List (Int × Ent)) (q : Int × Ent) : keptOf (l ++ [q]) = keptAfter (keptOf l) q.1 q.2 := by
  unfold keptOf
  rw [List.foldl_append]
  rfl
theorem missOf_snoc (q : Int × Ent) : ∀ (k : List Int) (l : List (Int × Ent)), missOf k (l ++ [q]) = missOf k l + (if q.1 ∈ l.foldl (fun k q => keptAfter k q.1 q.2) k then 0 else 1)
  | k, [] => by
    show (if q.1 ∈ k then 0 else 1) + (0 : Int) = 0 + (if q.1 ∈ k then 0 else 1)
    omega
  | k, p :: l => by
    show (if p.1 ∈ k then 0 else 1) + missOf (keptAfter k p.1 p.2) (l ++ [q]) = (if p.1 ∈ k then 0 else 1) + missOf (keptAfter k p.1 p.2) l + _
    rw [missOf_snoc q (keptAfter k p.1 p.2) l]
    show _ = (if p.1 ∈ k then 0 else 1) + missOf (keptAfter k p.1 p.2) l + (if q.1 ∈ l.foldl (fun k q => keptAfter k q.1 q.2) (keptAfter k p.1 p.2) then 0 else 1)
    omega
theorem after_len (kept : List Int) (b : Int) (e : Ent) : (keptAfter kept b e).length ≤ kept.length + 1 := by
  cases e with
  | no => exact Nat.le_succ _
  | keep => simp [keptAfter]
  | drop n =>
    show (kept.filter _ ++ [b]).length ≤ _
    rw [List.length_append]
    have := List.length_filter_le (fun o => decide (o ≠ n)) kept
    simp only [List.length_cons, List.length_nil]
    omega
theorem keptOf_len (l : List (Int × Ent)) : (keptOf l).length ≤ l.length := by
  have : ∀ (l : List (Int × Ent)) (k : List Int), (l.foldl (fun k q => keptAfter k q.1 q.2) k).length ≤ k.length + l.length := fun l => by
    induction l with
    | nil => intro k; exact Nat.le_refl _
    | cons q l ih =>
      intro k
      have h1 := ih (keptAfter k q.1 q.2)
      have h2 := after_len k q.1 q.2
      simp only [List.foldl_cons, List.length_cons]
      omega
  have h := this l []
  rw [List.length_nil, Nat.zero_add] at h
  exact h
/-- what an entry is: one of the three, or odd -/
inductive Can (H : Hp) (s : Int) (kept : List Int) (b : Int) : V → Bool → Prop
  | ent (e : Ent) : Can H s kept b e.v (canBe s kept b e)
  | word : Can H s kept b (.str "Keep") false
  | bool : Can H s kept b (.bl true) false
  | tup (t : Addr) (h : H t = some (.tup [.int 0])) : Can H s kept b (.ref t) false
theorem Can.keep {H H' : Hp} {s : Int} {kept : List Int} {b : Int} {v : V} {c : Bool} (h : Can H s kept b v c) (f : ∀ b xs, H b = some (.tup xs) → H' b = some (.tup xs)) : Can H' s kept b v c := by
  cases h with
  | ent e => exact .ent e
  | word => exact .word
  | bool => exact .bool
  | tup t h => exact .tup t (f _ _ h)
theorem flat_ints : ∀ (xs : List Int), (xs.map V.int).all flatV = true
  | [] => rfl
  | _ :: r => flat_ints r
theorem inV_int (b : Int) : ∀ (xs : List Int), inV (.int b) (xs.map V.int) = decide (b ∈ xs)
  | [] => rfl
  | x :: r => by
    have ih := inV_int b r
    show (eqV (.int x) (.int b) || inV (.int b) (r.map V.int)) = decide (b ∈ x :: r)
    rw [ih]
    by_cases h : b = x
    · subst h
      simp [eqV]
    · have h' : ¬ x = b := fun e => h e.symm
      simp [eqV, h, h']
def spSlots : Sp := fun vs H Q _ => ∃ s : Int, vs = [.int s, .int 8] ∧ 1 ≤ s ∧ s ≤ 8 ∧ Q .non H
def GoodR (xs : List Int) : Prop := xs.length ≤ 14 ∧ ∀ x ∈ xs, 0 ≤ x ∧ x ≤ 15
def spReads : Sp := fun vs H Q _ => ∃ (s : Int) (b : Addr) (xs : List Int), vs = [.int s, .ref b] ∧ 1 ≤ s ∧ s ≤ 8 ∧ H b = some (.lst (xs.map V.int)) ∧ GoodR xs ∧ ∀ H', Fr [] H H' → Q .non H'
def spCan : Sp := fun vs H Q _ => ∃ (s : Int) (k : Addr) (kept : List Int) (b : Int) (v : V) (c : Bool), vs = [.int s, .ref k, .int b, v] ∧ H k = some (.lst (kept.map V.int)) ∧ Can H s kept b v c ∧ Q (.bl c) H
def spAfter : Sp := fun vs H Q _ => ∃ (k : Addr) (kept : List Int) (b : Int) (e : Ent), vs = [.ref k, .int b, e.v] ∧ H k = some (.lst (kept.map V.int)) ∧ kept.length ≤ 100 ∧ ∀ (k' : Addr) (H' : Hp), Fr [] H H' → H' k' = some (.lst ((keptAfter kept b e).map V.int)) → (k' = k ∨ H k' = none) → Q (.ref k') H'
theorem shaped_i (i : Int) : SeqAt.shaped (.int i) = true := by
  unfold SeqAt.shaped
  simp [PyData.canLay0, PyData.depth]
theorem decI {a b : Int} (h : a ≠ b) : decide (V.int a = V.int b) = false := decide_eq_false fun e => h (V.int.inj e)
section
variable {P : Program} {w : World} {K : PySem.W.Frag} {mg : Str → Option Value} {base : Heap}
theorem ok_slots (T : Gx K mg) : FnOk P w K mg base CX0 3 T.f_check_slots T.fd_check_slots ["slots", "most"] spSlots := by
  have G_is_number_from : FnOk P w K mg base CX0 2 T.f_is_number_from T.fd_is_number_from ["thing", "least", "most"] (spNumFrom K) := ok_numFrom T
  refine T.F_check_slots.ok sc_check_slots (fun vs H Q E h => ?_) (fun cdv A outer s H vs Q E hr h => ?_)
  · obtain ⟨s, rfl, _⟩ := h
    rfl
  · obtain ⟨s, rfl, h1, h2, k⟩ := h
    refine ⟨_, (pss_one (ps_if (pt_not (pt_val (pe_call G_is_number_from (hr.mono (by first | decide | omega)) (by rfl) T.g_is_number_from T.F_is_number_from.kp (b_is_number_from T) .nil pass0 (pa_cons (pv 0) (pa_cons pe_int (pa_cons (pv 1) pa_nil)))))) (pss_one ps_never) pss_nil)), ?_⟩
    refine ⟨_, rfl, _, rfl, _, 1, 8, rfl, .inl ⟨s, rfl, _, rfl, ?_⟩⟩
    rw [decide_eq_true h1, decide_eq_true h2]
    exact iteF k
theorem ok_reads (T : Gx K mg) : FnOk P w K mg base CX0 4 T.f__check_reads T.fd__check_reads ["slots", "blocks"] spReads := by
  have G_check_slots : FnOk P w K mg base CX0 3 T.f_check_slots T.fd_check_slots ["slots", "most"] spSlots := ok_slots T
  have G_is_number_from : FnOk P w K mg base CX0 2 T.f_is_number_from T.fd_is_number_from ["thing", "least", "most"] (spNumFrom K) := ok_numFrom T
  obtain ⟨ds, rd, bS⟩ := T.F_check_slots.binds1 (ps := ["slots", "most"]) 1 0 (by simp) rfl (fun U kV doc pm an cdv ct us its hu hi => match us, hu, its, hi with
    | [_], _, [_], _ => ⟨_, rfl, rfl⟩)
  refine T.F__check_reads.ok sc__check_reads (fun vs H Q E h => ?_) (fun cdv A outer s H vs Q E hr h => ?_)
  · obtain ⟨s, b, xs, rfl, _⟩ := h
    rfl
  · obtain ⟨n, b, xs, rfl, h1, h2, hb, hg, k⟩ := h
    refine ⟨_, (pss_cons (ps_expr (pe_call G_check_slots (hr.mono (by first | decide | omega)) (by rfl) T.g_check_slots T.F_check_slots.kp bS rd pass0 (pa_cons (pv 0) pa_nil)))
      (pss_cons (ps_if (pt_not (pt_val (pe_callB call_isi (by rfl) T.z_isinstance (by decide +kernel) (pa_cons (pv 1) (pa_cons (pe_bltn (v := .ty "list") (by rfl) T.z_list (by decide +kernel) rfl) pa_nil))))) (pss_one ps_never) pss_nil)
      (pss_one (ps_for PassesOwn.never rfl (pi_enum (by rfl) T.z_enumerate (pa_cons (pv 1) pa_nil)) (pg_tup (by rfl) (pgs_cons (pg_name (i := 2) sc__check_reads.nd rfl (.inl rfl)) (pgs_cons (pg_name (i := 3) sc__check_reads.nd rfl (.inl rfl)) pgs_nil))) (pss_one (ps_if (PW.pt (pw_or (pt_cmpR op_eq (pv 2) (pe_glob (v := .int 14) (by rfl) T.c_MOST_READS ⟨_, rfl⟩) (nomark _)) (pw_or1 (pt_not (pt_val (pe_call G_is_number_from (hr.mono (by first | decide | omega)) (by rfl) T.g_is_number_from T.F_is_number_from.kp (b_is_number_from T) .nil pass0 (pa_cons (pv 3) (pa_cons pe_int (pa_cons (pe_glob (v := .int 15) (by rfl) T.c_MOST_READ_BLOCK ⟨_, rfl⟩) pa_nil))))))))) (pss_one ps_never) pss_nil)))))), ?_⟩
    refine ⟨_, rfl, n, rfl, h1, h2, ?_⟩
    refine ⟨_, rfl, _, .ty "list", .type "list", _, true, rfl, ClsV.ty "list", .base (.lst hb), kit_ty (by decide +kernel), _, rfl, iteF ?_⟩
    refine ⟨_, rfl, b, _, rfl, SqL.of hb, for_enumL (K := K) (a := b) (xs := xs.map V.int) (fun i σ H' => Fr [] H H' ∧ ∃ v2 v3 : Option V, σ = [some (.int n), some (.ref b), v2, v3]) ⟨Fr.refl _ _, none, none, rfl⟩ (fun i σ H' _ h => SqL.of (h.1 _ _ hb (by simp))) ?_ ?_⟩
    · rintro i x σ H1 U hx ⟨f1, v2, v3, rfl⟩ hU
      obtain ⟨u, rfl, hu⟩ := int_at hx
      have hi := lt_of_at hu
      obtain ⟨g0, g1⟩ := hg.2 u (List.mem_of_getElem? hu)
      refine ⟨U, _, rfl, SqT.of upd_same, rfl, _, _, rfl, _, _, rfl, rfl, ?_⟩
      refine ⟨_, rfl, rfl, _, rfl, ?_⟩
      rw [decI (a := (i : Int)) (b := 14) (by have := hg.1; omega)]
      refine iteF ⟨_, rfl, _, 0, 15, rfl, .inl ⟨u, rfl, _, rfl, ?_⟩⟩
      rw [decide_eq_true g0, decide_eq_true g1]
      exact iteF ⟨f1.trans (Fr.new hU), _, _, rfl⟩
    · rintro σ H1 ⟨f1, v2, v3, rfl⟩
      exact k _ f1
theorem ok_can (T : Gx K mg) : FnOk P w K mg base CX0 2 T.f__can_be T.fd__can_be ["slots", "kept", "block", "entry"] spCan := by
  have G_is_number : FnOk P w K mg base CX0 1 T.f_is_number T.fd_is_number ["thing"] (spNum K) := ok_num T
  refine T.F__can_be.ok sc__can_be (fun vs H Q E h => ?_) (fun cdv A outer s H vs Q E hr h => ?_)
  · obtain ⟨s, k, kept, b, v, c, rfl, _⟩ := h
    rfl
  · obtain ⟨n, kk, kept, b, v, c, rfl, hk, hc, k⟩ := h
    refine ⟨_, (pss_cons (ps_if (pt_cmpR op_isN (pv 3) pe_non (nomark _)) (pss_one (ps_ret pe_bl)) pss_nil)
      (pss_cons (ps_if (pt_cmpR op_in_seq (pv 2) (pv 1) (by rfl)) (pss_one (ps_ret pe_bl)) pss_nil)
      (pss_cons (ps_if (pt_cmpR (op_eqD hr.units) (pv 3) pe_str (nomark _)) (pss_one (ps_ret (pe_cmpR op_lt (pe_callB call_len_seq (by rfl) T.z_len (by decide +kernel) (pa_cons (pv 1) pa_nil)) (pv 0) (nomark _)))) pss_nil)
      (pss_one (ps_ret (pe_and (pe_call G_is_number (hr.mono (by first | decide | omega)) (by rfl) T.g_is_number T.F_is_number.kp (b_is_number T) .nil pass0 (pa_cons (pv 3) pa_nil)) (pe_one (pe_cmpR op_in_seq (pv 3) (pv 1) (by rfl))))))))), ?_⟩
    have hshp : SeqAt.shaped (.str "keep") = true := by decide +kernel
    cases hc with
    | ent e =>
      cases e with
      | no => exact ⟨_, rfl, rfl, _, rfl, iteT k⟩
      | keep =>
        refine ⟨_, rfl, rfl, _, rfl, iteF ?_⟩
        refine ⟨_, rfl, _, rfl, kk, _, rfl, .inl (SqL.of hk), rfl, flat_ints kept, _, rfl, ?_⟩
        rw [inV_int]
        by_cases hm : b ∈ kept
        · rw [decide_eq_true hm]
          refine iteT ?_
          rw [show canBe n kept b .keep = false by simp [canBe, hm]] at k
          exact k
        · rw [decide_eq_false hm]
          refine iteF ⟨_, rfl, .str "keep", .str "keep", .str _, .str _, hshp, hshp, _, rfl, ?_⟩
          refine iteTb (by decide +kernel) ?_
          refine ⟨_, rfl, kk, _, rfl, .inl (SqL.of hk), _, rfl, _, _, rfl, rfl, ?_⟩
          rw [List.length_map]
          rw [show canBe n kept b .keep = decide ((kept.length : Int) < n) by simp [canBe, hm]] at k
          exact k
      | drop m =>
        refine ⟨_, rfl, rfl, _, rfl, iteF ?_⟩
        refine ⟨_, rfl, _, rfl, kk, _, rfl, .inl (SqL.of hk), rfl, flat_ints kept, _, rfl, ?_⟩
        rw [inV_int]
        by_cases hm : b ∈ kept
        · rw [decide_eq_true hm]
          refine iteT ?_
          rw [show canBe n kept b (.drop m) = false by simp [canBe, hm]] at k
          exact k
        · rw [decide_eq_false hm]
          refine iteF ⟨_, rfl, .int m, .str "keep", .int _, .str _, shaped_i m, hshp, _, rfl, ?_⟩
          refine iteFb (by simp [PyData.eqv]) ?_
          refine ⟨_, rfl, .int m, .type "int", true, false, rfl, .base (.int m), kit_ty (by decide +kernel), kit_ty (by decide +kernel), true, rfl, iteT ?_⟩
          refine ⟨_, rfl, _, rfl, kk, _, rfl, .inl (SqL.of hk), rfl, flat_ints kept, ?_⟩
          show Q (.bl (inV (.int m) (kept.map V.int))) _
          rw [inV_int]
          rw [show canBe n kept b (.drop m) = decide (m ∈ kept) by simp [canBe, hm]] at k
          exact k
    | word =>
      refine ⟨_, rfl, rfl, _, rfl, iteF ?_⟩
      refine ⟨_, rfl, _, rfl, kk, _, rfl, .inl (SqL.of hk), rfl, flat_ints kept, _, rfl, ?_⟩
      rw [inV_int]
      by_cases hm : b ∈ kept
      · rw [decide_eq_true hm]
        exact iteT k
      · rw [decide_eq_false hm]
        refine iteF ⟨_, rfl, .str "Keep", .str "keep", .str _, .str _, by decide +kernel, hshp, _, rfl, ?_⟩
        refine iteFb (by decide +kernel) ?_
        exact ⟨_, rfl, _, .type "str", false, false, rfl, .base (.str _), kit_ty (by decide +kernel), kit_ty (by decide +kernel), false, rfl, iteF k⟩
    | bool =>
      refine ⟨_, rfl, rfl, _, rfl, iteF ?_⟩
      refine ⟨_, rfl, _, rfl, kk, _, rfl, .inl (SqL.of hk), rfl, flat_ints kept, _, rfl, ?_⟩
      rw [inV_int]
      by_cases hm : b ∈ kept
      · rw [decide_eq_true hm]
        exact iteT k
      · rw [decide_eq_false hm]
        refine iteF ⟨_, rfl, .bool true, .str "keep", .bl _, .str _, by decide +kernel, hshp, _, rfl, ?_⟩
        refine iteFb (by decide +kernel) ?_
        exact ⟨_, rfl, _, .type "bool", true, true, rfl, .base (.bl true), kit_ty (by decide +kernel), kit_ty (by decide +kernel), false, rfl, iteF k⟩
    | tup t ht =>
      refine ⟨_, rfl, rfl, _, rfl, iteF ?_⟩
      refine ⟨_, rfl, _, rfl, kk, _, rfl, .inl (SqL.of hk), rfl, flat_ints kept, _, rfl, ?_⟩
      rw [inV_int]
      by_cases hm : b ∈ kept
      · rw [decide_eq_true hm]
        exact iteT k
      · rw [decide_eq_false hm]
        refine iteF ⟨_, rfl, .tuple [.int 0], .str "keep", .tup (SqT.of ht) (.cons (.int _) .nil), .str _, by decide +kernel, hshp, _, rfl, ?_⟩
        refine iteFb (by decide +kernel) ?_
        exact ⟨_, rfl, _, .type "tuple", false, false, rfl, .base (.tup ht), kit_ty (by decide +kernel), kit_ty (by decide +kernel), false, rfl, iteF k⟩
theorem ok_after (T : Gx K mg) : FnOk P w K mg base CX0 1 T.f__kept_after T.fd__kept_after ["kept", "block", "entry"] spAfter := by
  refine T.F__kept_after.ok sc__kept_after (fun vs H Q E h => ?_) (fun cdv A outer s H vs Q E hr h => ?_)
  · obtain ⟨k, kept, b, e, rfl, _⟩ := h
    rfl
  · obtain ⟨kk, kept, b, e, rfl, hk, hl, k⟩ := h
    refine ⟨_, (pss_cons (ps_if (pt_cmpR op_isN (pv 2) pe_non (nomark _)) (pss_one (ps_ret (pv 0))) pss_nil)
      (pss_one (ps_ret (pe_op op_cat (pe_lc (own := [("other", 3)]) (g := gName 3) rfl sc__kept_after.nd (pi_list (pv 0)) (blkOk_by (N := ["kept", "block", "entry", "other"]) (sc := defScope s__kept_after) (by decide +kernel)) (fun _ _ _ _ _ => pg_name (i := 3) sc__kept_after.nd rfl (.inl rfl)) (fun _ _ _ _ _ => (pts_one (pt_cmpR op_ne (pv 3) (pv 2) (nomark _)))) (fun _ _ _ _ _ => (pv 3))) (pe_lst (pa_cons (pv 1) pa_nil)))))), ?_⟩
    cases e with
    | no => exact ⟨_, rfl, rfl, _, rfl, iteT ⟨_, rfl, k kk H (Fr.refl _ _) hk (.inl rfl)⟩⟩
    | keep =>
      refine ⟨_, rfl, rfl, _, rfl, iteF ?_⟩
      refine ⟨_, rfl, kk, rfl, ⟨_, SqL.of hk⟩, fun D hD => ?_⟩
      refine lc_list (K := K) (a := kk) (xs := kept.map V.int) (fun i H' => Fr [] H H' ∧ H' D = some (.lst ((kept.take i).map V.int))) ⟨Fr.new hD, upd_same⟩ (fun i H' _ h => SqL.of (h.1 _ _ hk (by simp))) ?_ ?_
      · rintro i x H1 hx ⟨f1, e1⟩
        obtain ⟨u, rfl, hu⟩ := int_at hx
        have hi := lt_of_at hu
        refine ⟨rfl, _, rfl, _, rfl, rfl, _, rfl, iteTb (by show (!decide (V.int u = V.str "keep")) = true; simp) ⟨_, rfl, _, e1, by rw [List.length_map, List.length_take]; exact sz_lt (by omega), f1.upd0 hD, ?_⟩⟩
        rw [upd_same, List.take_succ_eq_append_getElem hi, List.map_append]
        rw [List.getElem?_eq_getElem hi] at hu
        rw [Option.some.inj hu]
        rfl
      · rintro H1 ⟨f1, e1⟩
        rw [List.length_map, List.take_length] at e1
        refine ⟨_, rfl, sz_le (by simp), fun g hg => ?_⟩
        refine ⟨D, g, _, _, rfl, rfl, (upd_ne (ne_of_none e1 hg)).trans e1, upd_same, sz_le (by simp; omega), fun p hp => ?_⟩
        refine k p _ ((f1.trans (Fr.new hg)).trans (Fr.new hp)) ?_ (.inr (some_of (f1.trans (Fr.new hg)) (by simp) hp))
        rw [upd_same]
        show _ = some (HO.lst ((kept ++ [b]).map V.int))
        rw [List.map_append]
        rfl
    | drop m =>
      refine ⟨_, rfl, rfl, _, rfl, iteF ?_⟩
      refine ⟨_, rfl, kk, rfl, ⟨_, SqL.of hk⟩, fun D hD => ?_⟩
      refine lc_list (K := K) (a := kk) (xs := kept.map V.int) (fun i H' => Fr [] H H' ∧ H' D = some (.lst (((kept.take i).filter (fun o => decide (o ≠ m))).map V.int))) ⟨Fr.new hD, upd_same⟩ (fun i H' _ h => SqL.of (h.1 _ _ hk (by simp))) ?_ ?_
      · rintro i x H1 hx ⟨f1, e1⟩
        obtain ⟨u, rfl, hu⟩ := int_at hx
        have hi := lt_of_at hu
        have hu' := hu
        rw [List.getElem?_eq_getElem hi] at hu'
        have eu := Option.some.inj hu'
        have hlf := List.length_filter_le (fun o => decide (o ≠ m)) (kept.take i)
        rw [List.length_take] at hlf
        have es : (kept.take (i + 1)).filter (fun o => decide (o ≠ m)) = (kept.take i).filter (fun o => decide (o ≠ m)) ++ (if decide (u ≠ m) = true then [u] else []) := by
          rw [List.take_succ_eq_append_getElem hi, List.filter_append, eu]
          by_cases hh : u = m <;> simp [hh]
        refine ⟨rfl, _, rfl, _, rfl, rfl, _, rfl, ?_⟩
        by_cases hh : u = m
        · rw [if_neg (by simp [hh]), List.append_nil] at es
          subst hh
          refine iteFb (by show (!decide (V.int u = V.int u)) = false; simp) ⟨f1, ?_⟩
          rw [es]
          exact e1
        · rw [if_pos (by simp [hh])] at es
          refine iteTb (by show (!decide (V.int u = V.int m)) = true; rw [decI hh]; rfl) ⟨_, rfl, _, e1, by rw [List.length_map]; exact sz_lt (by omega), f1.upd0 hD, ?_⟩
          rw [upd_same, es, List.map_append]
          rfl
      · rintro H1 ⟨f1, e1⟩
        rw [List.length_map, List.take_length] at e1
        have hlf := List.length_filter_le (fun o => decide (o ≠ m)) kept
        refine ⟨_, rfl, sz_le (by simp), fun g hg => ?_⟩
        refine ⟨D, g, _, _, rfl, rfl, (upd_ne (ne_of_none e1 hg)).trans e1, upd_same, sz_le (by simp only [List.length_map, List.length_cons, List.length_nil]; omega), fun p hp => ?_⟩
        refine k p _ ((f1.trans (Fr.new hg)).trans (Fr.new hp)) ?_ (.inr (some_of (f1.trans (Fr.new hg)) (by simp) hp))
        rw [upd_same]
        show _ = some (HO.lst ((kept.filter (fun o => decide (o ≠ m)) ++ [b]).map V.int))
        rw [List.map_append]
        rfl
end
/-! ### a plan that can be -/
def Valid (s : Int) (l : List (Int × Ent)) : Prop := ∀ (i : Nat) (q : Int × Ent), l[i]? = some q → canBe s (keptOf (l.take i)) q.1 q.2 = true
def spJudge : Sp := fun vs H Q _ => ∃ (s : Int) (b p : Addr) (l : List (Int × Ent)), vs = [.int s, .ref b, .ref p] ∧ 1 ≤ s ∧ s ≤ 8 ∧ H b = some (.lst ((l.map (·.1)).map V.int)) ∧ H p = some (.lst (l.map fun q => q.2.v)) ∧ GoodR (l.map (·.1)) ∧ Valid s l ∧ ∀ H', Fr [] H H' → Q (.int (missOf [] l)) H'
theorem take_snoc {α : Type} {l : List α} {i : Nat} {q : α} (h : l[i]? = some q) : l.take (i + 1) = l.take i ++ [q] := by
  have hi := lt_of_at h
  rw [List.getElem?_eq_getElem hi] at h
  rw [List.take_succ_eq_append_getElem hi, Option.some.inj h]
theorem miss_step {l : List (Int × Ent)} {i : Nat} {q : Int × Ent} (h : l[i]? = some q) : missOf [] (l.take (i + 1)) = missOf [] (l.take i) + (if q.1 ∈ keptOf (l.take i) then 0 else 1) := by
  rw [take_snoc h, missOf_snoc]
  rfl
theorem kept_step {l : List (Int × Ent)} {i : Nat} {q : Int × Ent} (h : l[i]? = some q) : keptOf (l.take (i + 1)) = keptAfter (keptOf (l.take i)) q.1 q.2 := by
  rw [take_snoc h, keptOf_snoc]
section
variable {P : Program} {w : World} {K : PySem.W.Frag} {mg : Str → Option Value} {base : Heap}
theorem ok_judge (T : Gx K mg) : FnOk P w K mg base CX0 5 T.f_judge_plan T.fd_judge_plan ["slots", "blocks", "plan"] spJudge := by
  have G__check_reads : FnOk P w K mg base CX0 4 T.f__check_reads T.fd__check_reads ["slots", "blocks"] spReads := ok_reads T
  have G__can_be : FnOk P w K mg base CX0 2 T.f__can_be T.fd__can_be ["slots", "kept", "block", "entry"] spCan := ok_can T
  have G__kept_after : FnOk P w K mg base CX0 1 T.f__kept_after T.fd__kept_after ["kept", "block", "entry"] spAfter := ok_after T
  refine T.F_judge_plan.ok sc_judge_plan (fun vs H Q E h => ?_) (fun cdv A outer s H vs Q E hr h => ?_)
  · obtain ⟨s, b, p, l, rfl, _⟩ := h
    rfl
  · obtain ⟨n, b, p, l, rfl, h1, h2, hb, hp, hg, hv, k⟩ := h
    refine ⟨_, (pss_cons (ps_expr (pe_call G__check_reads (hr.mono (by first | decide | omega)) (by rfl) T.g__check_reads T.F__check_reads.kp (b__check_reads T) .nil pass0 (pa_cons (pv 0) (pa_cons (pv 1) pa_nil))))
      (pss_cons (ps_if (pt_not (pt_val (pe_callB call_isi (by rfl) T.z_isinstance (by decide +kernel) (pa_cons (pv 2) (pa_cons (pe_bltn (v := .ty "list") (by rfl) T.z_list (by decide +kernel) rfl) pa_nil))))) (pss_one ps_never) pss_nil)
      (pss_cons (ps_set (i := 3) sc_judge_plan.nd rfl (.inl rfl) (pe_lst pa_nil))
      (pss_cons (ps_set (i := 4) sc_judge_plan.nd rfl (.inl rfl) pe_int)
      (pss_cons (ps_for PassesOwn.never rfl (pi_enum (by rfl) T.z_enumerate (pa_cons (pv 1) pa_nil)) (pg_tup (by rfl) (pgs_cons (pg_name (i := 5) sc_judge_plan.nd rfl (.inl rfl)) (pgs_cons (pg_name (i := 6) sc_judge_plan.nd rfl (.inl rfl)) pgs_nil))) (pss_cons (ps_if (PW.pt (pw_or (pt_cmpR op_eq (pv 5) (pe_callB call_len_seq (by rfl) T.z_len (by decide +kernel) (pa_cons (pv 2) pa_nil)) (nomark _)) (pw_or1 (pt_not (pt_val (pe_call G__can_be (hr.mono (by first | decide | omega)) (by rfl) T.g__can_be T.F__can_be.kp (b__can_be T) .nil pass0 (pa_cons (pv 0) (pa_cons (pv 3) (pa_cons (pv 6) (pa_cons (pe_ix ix_list (pv 2) (pv 5) (fun _ _ => rfl)) pa_nil)))))))))) (pss_one ps_never) pss_nil)
      (pss_cons (ps_if (pt_cmpR op_notIn_seq (pv 6) (pv 3) (by rfl)) (pss_one (ps_aug (i := 4) sc_judge_plan.nd rfl (.inl rfl) pe_int ip_add)) pss_nil)
      (pss_one (ps_set (i := 3) sc_judge_plan.nd rfl (.inl rfl) (pe_call G__kept_after (hr.mono (by first | decide | omega)) (by rfl) T.g__kept_after T.F__kept_after.kp (b__kept_after T) .nil pass0 (pa_cons (pv 3) (pa_cons (pv 6) (pa_cons (pe_ix ix_list (pv 2) (pv 5) (fun _ _ => rfl)) pa_nil)))))))))
      (pss_cons (ps_if (pt_cmpR op_gt (pe_callB call_len_seq (by rfl) T.z_len (by decide +kernel) (pa_cons (pv 2) pa_nil)) (pe_callB call_len_seq (by rfl) T.z_len (by decide +kernel) (pa_cons (pv 1) pa_nil)) (nomark _)) (pss_one ps_never) pss_nil)
      (pss_one (ps_ret (pv 4))))))))), ?_⟩
    have hl : l.length ≤ 14 := by
      have := hg.1
      rw [List.length_map] at this
      exact this
    refine ⟨_, rfl, _, rfl, n, b, _, rfl, h1, h2, hb, hg, fun H1 f1 => ?_⟩
    refine ⟨_, rfl, _, .ty "list", .type "list", _, true, rfl, ClsV.ty "list", .base (.lst (f1 _ _ hp (by simp))), kit_ty (by decide +kernel), _, rfl, iteF ?_⟩
    refine ⟨sz_le (by simp), fun kk hkk => ?_⟩
    refine ⟨_, rfl, b, _, rfl, SqL.of ((upd_ne (ne_of_none (f1 _ _ hb (by simp)) hkk)).trans (f1 _ _ hb (by simp))), for_enumL (K := K) (a := b) (xs := (l.map (·.1)).map V.int) (fun i σ H' => Fr [] H H' ∧ ∃ (kk : Addr) (v5 v6 : Option V), H' kk = some (.lst ((keptOf (l.take i)).map V.int)) ∧ σ = [some (.int n), some (.ref b), some (.ref p), some (.ref kk), some (.int (missOf [] (l.take i))), v5, v6])
      ⟨f1.trans (Fr.new hkk), kk, none, none, upd_same, rfl⟩ (fun i σ H' _ h => SqL.of (h.1 _ _ hb (by simp))) ?_ ?_⟩
    · rintro i x σ H2 U hx ⟨f2, kk, v5, v6, e2, rfl⟩ hU
      obtain ⟨u, rfl, hu⟩ := int_at hx
      obtain ⟨q, hq, rfl⟩ : ∃ q, l[i]? = some q ∧ q.1 = u := by
        rw [List.getElem?_map] at hu
        cases hq : l[i]? with
        | none => rw [hq] at hu; cases hu
        | some q => rw [hq] at hu; exact ⟨q, rfl, Option.some.inj hu⟩
      have hi := lt_of_at hq
      have hkl := keptOf_len (l.take i)
      rw [List.length_take] at hkl
      have f3 := f2.trans (Fr.new (o := .tup [.int (i : Nat), .int q.1]) hU)
      have e3 := (upd_ne (o := .tup [.int (i : Nat), .int q.1]) (ne_of_none e2 hU)).trans e2
      have hpl : (l.map fun q => q.2.v)[i]? = some q.2.v := by rw [List.getElem?_map, hq]; rfl
      refine ⟨U, _, rfl, SqT.of upd_same, rfl, _, _, rfl, _, _, rfl, rfl, ?_⟩
      refine ⟨_, rfl, _, rfl, p, _, rfl, .inl (SqL.of (f3 _ _ hp (by simp))), rfl, _, rfl, ?_⟩
      rw [List.length_map, decI (a := (i : Int)) (b := (l.length : Int)) (by omega)]
      refine iteF ⟨_, rfl, _, rfl, _, rfl, _, rfl, _, rfl, p, _, (i : Int), _, rfl, rfl, SqL.of (f3 _ _ hp (by simp)), atI_nat hpl, ?_⟩
      refine ⟨n, kk, _, q.1, _, _, rfl, e3, .ent q.2, _, rfl, ?_⟩
      rw [hv i q hq]
      refine iteF ?_
      refine ⟨_, rfl, _, rfl, kk, _, rfl, .inl (SqL.of e3), rfl, flat_ints _, _, rfl, ?_⟩
      rw [inV_int]
      have hm := miss_step hq
      by_cases hk : q.1 ∈ keptOf (l.take i)
      · rw [decide_eq_true hk]
        rw [if_pos hk, Int.add_zero] at hm
        refine iteF ?_
        refine ⟨_, rfl, _, rfl, _, rfl, _, rfl, p, _, (i : Int), _, rfl, rfl, SqL.of (f3 _ _ hp (by simp)), atI_nat hpl, ?_⟩
        refine ⟨kk, _, q.1, q.2, rfl, e3, by omega, fun k' H4 f4 e4 _ => ?_⟩
        rw [← kept_step hq] at e4
        exact ⟨f3.trans f4, k', some (.int (i : Int)), some (.int q.1), e4, by rw [hm]; rfl⟩
      · rw [decide_eq_false hk]
        rw [if_neg hk] at hm
        refine iteT ?_
        refine ⟨_, rfl, _, _, rfl, rfl, ?_⟩
        refine ⟨_, rfl, _, rfl, _, rfl, _, rfl, p, _, (i : Int), _, rfl, rfl, SqL.of (f3 _ _ hp (by simp)), atI_nat hpl, ?_⟩
        refine ⟨kk, _, q.1, q.2, rfl, e3, by omega, fun k' H4 f4 e4 _ => ?_⟩
        rw [← kept_step hq] at e4
        exact ⟨f3.trans f4, k', some (.int (i : Int)), some (.int q.1), e4, by rw [hm]; rfl⟩
    · rintro σ H2 ⟨f2, kk, v5, v6, e2, rfl⟩
      refine ⟨_, rfl, p, _, rfl, .inl (SqL.of (f2 _ _ hp (by simp))), _, rfl, b, _, rfl, .inl (SqL.of (f2 _ _ hb (by simp))), _, _, rfl, rfl, _, rfl, ?_⟩
      rw [List.length_map, List.length_map, List.length_map, decide_eq_false (by omega)]
      refine iteF ⟨_, rfl, ?_⟩
      have e := k _ f2
      rw [List.take_length]
      exact e
end
/-! ### how many reads can be hits at most -/
def hitN (K : List Int) (b : Int) : Nat := if b ∈ K then 1 else 0
theorem hitN_in {K : List Int} {b : Int} (h : b ∈ K) : hitN K b = 1 := if_pos h
theorem hitN_out {K : List Int} {b : Int} (h : b ∉ K) : hitN K b = 0 := if_neg h
theorem hitN_le (K : List Int) (b : Int) : hitN K b ≤ 1 := by unfold hitN; split <;> omega
theorem hitN_mono {K K2 : List Int} {b : Int} (h : b ∈ K → b ∈ K2) : hitN K b ≤ hitN K2 b := by
  by_cases hb : b ∈ K
  · rw [hitN_in hb, hitN_in (h hb)]
    exact Nat.le_refl _
  · rw [hitN_out hb]
    exact Nat.zero_le _
theorem nodup_filter {K : List Int} (p : Int → Bool) (h : K.Nodup) : (K.filter p).Nodup := List.Pairwise.filter p h
/-- so many hits can be had: what is kept behind a read is among what was kept ahead of it and its block -/
inductive Ach (k : Nat) : List Int → List Int → Nat → Prop
  | nil (K : List Int) : Ach k K [] 0
  | cons (K K' : List Int) (b : Int) (s : List Int) (h : Nat) (sub : ∀ x ∈ K', x ∈ K ∨ x = b) (nd : K'.Nodup) (le : K'.length ≤ k) : Ach k K' s h → Ach k K (b :: s) (hitN K b + h)
theorem Ach.mono {k : Nat} {K K2 s : List Int} {h : Nat} (a : Ach k K s h) (hs : ∀ x ∈ K, x ∈ K2) : ∃ h', h ≤ h' ∧ Ach k K2 s h' := by
  cases a with
  | nil => exact ⟨0, Nat.le_refl _, .nil _⟩
  | cons _ K' b s h sub nd le a => exact ⟨_, Nat.add_le_add_right (hitN_mono (hs b)) _, .cons K2 K' b s h (fun x hx => (sub x hx).imp (hs x) id) nd le a⟩
/-- one block less costs one hit at most -/
theorem Ach.less {k : Nat} {K s : List Int} {h : Nat} (a : Ach k K s h) : ∀ (y : Int) (K2 : List Int), (∀ x ∈ K, x ≠ y → x ∈ K2) → ∃ h', h ≤ h' + 1 ∧ Ach k K2 s h' := by
  induction a with
  | nil K => exact fun y K2 _ => ⟨0, Nat.zero_le _, .nil _⟩
  | cons K K' b s h sub nd le a ih =>
    intro y K2 hK
    by_cases hb : b = y
    · subst hb
      refine ⟨hitN K2 b + h, ?_, .cons K2 K' b s h (fun x hx => ?_) nd le a⟩
      · have := hitN_le K b
        omega
      · rcases sub x hx with h1 | h1
        · by_cases hxb : x = b
          · exact .inr hxb
          · exact .inl (hK x h1 hxb)
        · exact .inr h1
    · obtain ⟨h', e1, a'⟩ := ih y (K'.filter fun x => decide (x ≠ y)) (fun x hx hne => List.mem_filter.mpr ⟨hx, by simpa using hne⟩)
      refine ⟨hitN K2 b + h', ?_, .cons K2 _ b s h' (fun x hx => ?_) (nodup_filter _ nd) (Nat.le_trans (List.length_filter_le _ _) le) a'⟩
      · have := hitN_mono (K := K) (K2 := K2) (b := b) (fun h => hK b h hb)
        omega
      · obtain ⟨h1, h2⟩ := List.mem_filter.mp hx
        have h2' : x ≠ y := by simpa using h2
        exact (sub x h1).imp (fun h => hK x h h2') id
/-- how many reads there are ahead of the next one of a block -/
def waitOf (b : Int) : List Int → Nat
  | [] => 0
  | c :: s => if c = b then 0 else 1 + waitOf b s
/-- a block that is read sooner is worth no less -/
theorem Ach.sooner {k : Nat} {Ky s : List Int} {h : Nat} (a : Ach k Ky s h) : ∀ (x y : Int) (Kx : List Int), waitOf x s ≤ waitOf y s → (∀ z ∈ Ky, z = y ∨ z ∈ Kx) → x ∈ Kx → x ∉ Ky → ∃ h', h ≤ h' ∧ Ach k Kx s h' := by
  induction a with
  | nil K => exact fun x y Kx _ _ _ _ => ⟨0, Nat.le_refl _, .nil _⟩
  | cons K K' b s h sub nd le a ih =>
    intro x y Kx hw hz hx hn
    by_cases hbx : b = x
    · subst hbx
      obtain ⟨h', e1, a'⟩ := a.less y (K'.filter fun z => decide (z ≠ y)) (fun z hz hne => List.mem_filter.mpr ⟨hz, by simpa using hne⟩)
      refine ⟨hitN Kx b + h', ?_, .cons Kx _ b s h' (fun z hz' => ?_) (nodup_filter _ nd) (Nat.le_trans (List.length_filter_le _ _) le) a'⟩
      · rw [hitN_out hn, hitN_in hx]
        omega
      · obtain ⟨h1, h2⟩ := List.mem_filter.mp hz'
        have h2' : z ≠ y := by simpa using h2
        rcases sub z h1 with h | h
        · exact .inl ((hz z h).resolve_left h2')
        · exact .inr h
    · have w1 : waitOf x (b :: s) = 1 + waitOf x s := by
        show (if b = x then 0 else 1 + waitOf x s) = _
        rw [if_neg hbx]
      by_cases hby : b = y
      · have w2 : waitOf y (b :: s) = 0 := by
          show (if b = y then 0 else 1 + waitOf y s) = _
          rw [if_pos hby]
        omega
      · have w2 : waitOf y (b :: s) = 1 + waitOf y s := by
          show (if b = y then 0 else 1 + waitOf y s) = _
          rw [if_neg hby]
        have hh : hitN K b ≤ hitN Kx b := hitN_mono fun h => (hz b h).resolve_left hby
        by_cases hy : y ∈ K'
        · have hxK : x ∉ K' := fun h => by
            rcases sub x h with h | h
            · exact hn h
            · exact hbx h.symm
          have hxf : x ∉ K'.filter fun z => decide (z ≠ y) := fun h => hxK (List.mem_filter.mp h).1
          obtain ⟨h', e1, a'⟩ := ih x y (x :: K'.filter fun z => decide (z ≠ y)) (by omega) (fun z hz' => by
            by_cases hzy : z = y
            · exact .inl hzy
            · exact .inr (List.mem_cons_of_mem _ (List.mem_filter.mpr ⟨hz', by simpa using hzy⟩))) List.mem_cons_self hxK
          refine ⟨hitN Kx b + h', by omega, .cons Kx _ b s h' (fun z hz' => ?_) (List.nodup_cons.mpr ⟨hxf, nodup_filter _ nd⟩) ?_ a'⟩
          · rcases List.mem_cons.mp hz' with h | h
            · rw [h]; exact .inl hx
            · obtain ⟨h1, h2⟩ := List.mem_filter.mp h
              have h2' : z ≠ y := by simpa using h2
              exact (sub z h1).imp (fun h => (hz z h).resolve_left h2') id
          · have : (K'.filter fun z => decide (z ≠ y)).length < K'.length := List.length_filter_lt_length_iff_exists.mpr ⟨y, hy, by simp⟩
            rw [List.length_cons]
            omega
        · exact ⟨hitN Kx b + h, by omega, .cons Kx K' b s h (fun z hz' => (sub z hz').imp (fun h => (hz z h).resolve_left fun e => hy (by rw [← e]; exact hz')) id) nd le a⟩
/-- what is best for a read -/
def Best (k : Nat) (K : List Int) (b : Int) (later : List Int) (e : Ent) : Prop :=
  (b ∈ K ∧ e = .no) ∨ (b ∉ K ∧ K.length < k ∧ e = .keep) ∨ (b ∉ K ∧ k ≤ K.length ∧ ((∃ w ∈ K, (∀ z ∈ K, waitOf z later ≤ waitOf w later) ∧ waitOf b later < waitOf w later ∧ e = .drop w) ∨ ((∀ z ∈ K, waitOf z later ≤ waitOf b later) ∧ e = .no)))
def Greedy (k : Nat) : List Int → List (Int × Ent) → Prop
  | _, [] => True
  | K, q :: l => Best k K q.1 (l.map (·.1)) q.2 ∧ Greedy k (keptAfter K q.1 q.2) l
def hitsOf : List Int → List (Int × Ent) → Nat
  | _, [] => 0
  | K, q :: l => hitN K q.1 + hitsOf (keptAfter K q.1 q.2) l
theorem best_after {k : Nat} {K : List Int} {b : Int} {later : List Int} {e : Ent} (h : Best k K b later e) (nd : K.Nodup) (hk : K.length ≤ k) : (keptAfter K b e).Nodup ∧ (keptAfter K b e).length ≤ k ∧ ∀ x ∈ keptAfter K b e, x ∈ K ∨ x = b := by
  rcases h with ⟨hb, rfl⟩ | ⟨hb, hl, rfl⟩ | ⟨hb, hl, ⟨w, hw, hm, hlt, rfl⟩ | ⟨hm, rfl⟩⟩
  · exact ⟨nd, hk, fun x h => .inl h⟩
  · refine ⟨List.nodup_append.mpr ⟨nd, by simp, fun a ha c hc => ?_⟩, by simp [keptAfter]; omega, fun x hx => ?_⟩
    · rw [List.mem_singleton.mp hc]
      exact fun e => hb (by rw [← e]; exact ha)
    · rcases List.mem_append.mp hx with h | h
      · exact .inl h
      · exact .inr (List.mem_singleton.mp h)
  · have : (K.filter fun z => decide (z ≠ w)).length < K.length := List.length_filter_lt_length_iff_exists.mpr ⟨w, hw, by simp⟩
    refine ⟨List.nodup_append.mpr ⟨nodup_filter _ nd, by simp, fun a ha c hc => ?_⟩, ?_, fun x hx => ?_⟩
    · rw [List.mem_singleton.mp hc]
      exact fun e => hb (by rw [← e]; exact (List.mem_filter.mp ha).1)
    · show (K.filter _ ++ [b]).length ≤ k
      rw [List.length_append, List.length_singleton]
      omega
    · rcases List.mem_append.mp hx with h | h
      · exact .inl (List.mem_filter.mp h).1
      · exact .inr (List.mem_singleton.mp h)
  · exact ⟨nd, hk, fun x h => .inl h⟩
/-- .. and that is so many hits as can be had -/
theorem greedy_best {k : Nat} : ∀ (l : List (Int × Ent)) (K : List Int), K.Nodup → K.length ≤ k → Greedy k K l → Ach k K (l.map (·.1)) (hitsOf K l) ∧ ∀ h, Ach k K (l.map (·.1)) h → h ≤ hitsOf K l
  | [], K, _, _, _ => ⟨.nil _, fun h a => by cases a; exact Nat.le_refl _⟩
  | q :: l, K, nd, hk, ⟨hb, hg⟩ => by
    obtain ⟨nd2, hk2, hsub⟩ := best_after hb nd hk
    obtain ⟨a2, m2⟩ := greedy_best l _ nd2 hk2 hg
    refine ⟨.cons K _ q.1 _ _ hsub nd2 hk2 a2, fun h a => ?_⟩
    show h ≤ hitN K q.1 + hitsOf (keptAfter K q.1 q.2) l
    cases a with
    | cons _ K' b s h0 sub nd' le a =>
      have key : ∃ h1, h0 ≤ h1 ∧ Ach k (keptAfter K q.1 q.2) (l.map (·.1)) h1 := by
        rcases hb with ⟨hb, e⟩ | ⟨hb, hl, e⟩ | ⟨hb, hl, hb3⟩
        · rw [e]
          refine a.mono fun x hx => ?_
          rcases sub x hx with h | h
          · exact h
          · rw [h]; exact hb
        · rw [e]
          refine a.mono fun x hx => ?_
          rcases sub x hx with h | h
          · exact List.mem_append_left _ h
          · rw [h]; exact List.mem_append_right _ List.mem_cons_self
        · -- one block of those lacks
          have lack : ∃ z, (z ∈ K ∨ z = q.1) ∧ z ∉ K' := by
            refine Classical.byContradiction fun hc => ?_
            have hall : ∀ z, (z ∈ K ∨ z = q.1) → z ∈ K' := fun z hz => Classical.byContradiction fun hn => hc ⟨z, hz, hn⟩
            have : (q.1 :: K).length ≤ K'.length := List.Nodup.length_le_of_subset (List.nodup_cons.mpr ⟨hb, nd⟩) (fun z hz => by
              rcases List.mem_cons.mp hz with h | h
              · exact hall z (.inr h)
              · exact hall z (.inl h))
            rw [List.length_cons] at this
            omega
          obtain ⟨z, hz, hzn⟩ := lack
          have go : ∀ (w : Int) (Kn : List Int), (∀ x, (x ∈ K ∨ x = q.1) → x = w ∨ x ∈ Kn) → waitOf z (l.map (·.1)) ≤ waitOf w (l.map (·.1)) → ∃ h1, h0 ≤ h1 ∧ Ach k Kn (l.map (·.1)) h1 := fun w Kn hKn hwz => by
            by_cases hzw : z = w
            · refine a.mono fun x hx => (hKn x (sub x hx)).resolve_left fun e => hzn ?_
              rw [hzw, ← e]
              exact hx
            · exact a.sooner z w Kn hwz (fun x hx => hKn x (sub x hx)) ((hKn z hz).resolve_left hzw) hzn
          rcases hb3 with ⟨w, hw, hm, hlt, e⟩ | ⟨hm, e⟩
          · rw [e]
            refine go w _ (fun x hx => ?_) ?_
            · by_cases hxw : x = w
              · exact .inl hxw
              · refine .inr ?_
                rcases hx with h | h
                · exact List.mem_append_left _ (List.mem_filter.mpr ⟨h, by simpa using hxw⟩)
                · rw [h]; exact List.mem_append_right _ List.mem_cons_self
            · rcases hz with h | h
              · exact hm z h
              · rw [h]; exact Nat.le_of_lt hlt
          · rw [e]
            refine go q.1 K (fun x hx => hx.elim .inr .inl) ?_
            rcases hz with h | h
            · exact hm z h
            · rw [h]; exact Nat.le_refl _
      obtain ⟨h1, e1, a1⟩ := key
      have := m2 h1 a1
      exact Nat.add_le_add_left (Nat.le_trans e1 this) _
/-! ### one read more -/
theorem Ach.snoc {k : Nat} {K s : List Int} {h : Nat} (a : Ach k K s h) (b : Int) : ∃ h', h ≤ h' ∧ Ach k K (s ++ [b]) h' := by
  induction a with
  | nil K => exact ⟨hitN K b + 0, Nat.zero_le _, .cons K [] b [] 0 (fun x hx => by cases hx) List.nodup_nil (Nat.zero_le _) (.nil _)⟩
  | cons K K' c s h sub nd le a ih =>
    obtain ⟨h', e, a'⟩ := ih
    exact ⟨_, Nat.add_le_add_left e _, .cons K K' c (s ++ [b]) h' sub nd le a'⟩
theorem Ach.unsnoc {k : Nat} {b : Int} : ∀ {s K : List Int} {h : Nat}, Ach k K (s ++ [b]) h → ∃ h', Ach k K s h' ∧ h ≤ h' + 1 ∧ (b ∉ K → b ∉ s → h ≤ h')
  | [], K, h, a => by
    cases a with
    | cons _ K' b s h sub nd le a =>
      cases a
      have := hitN_le K b
      exact ⟨0, .nil _, by omega, fun hb _ => by rw [hitN_out hb]; exact Nat.le_refl _⟩
  | c :: s, K, h, a => by
    cases a with
    | cons _ K' _ _ h sub nd le a =>
      obtain ⟨h', a', e1, e2⟩ := Ach.unsnoc a
      refine ⟨hitN K c + h', .cons K K' c s h' sub nd le a', by omega, fun hb hs => ?_⟩
      have := e2 (fun h => ?_) (fun h => hs (List.mem_cons_of_mem _ h))
      · omega
      · rcases sub b h with h | h
        · exact hb h
        · exact hs (by rw [h]; exact List.mem_cons_self)
/-! ### backward -/
structure Stp (k : Nat) (K : List Int) (b : Int) (K' : List Int) : Prop where
  same : ∀ x, x ≠ b → (x ∈ K ↔ x ∈ K')
  nd : K.Nodup
  nd' : K'.Nodup
  le : K.length ≤ k
  le' : K'.length ≤ k
theorem Stp.symm {k : Nat} {K K' : List Int} {b : Int} (h : Stp k K b K') : Stp k K' b K := ⟨fun x hx => (h.same x hx).symm, h.nd', h.nd, h.le', h.le⟩
theorem erase_hit {K : List Int} {b : Int} (_ : K.Nodup) : (K.erase b).length + hitN K b = K.length := by
  by_cases hb : b ∈ K
  · have hp := List.length_pos_of_mem hb
    rw [List.length_erase_of_mem hb, hitN_in hb]
    omega
  · rw [List.erase_of_not_mem hb, hitN_out hb]
    rfl
theorem Stp.len {k : Nat} {K K' : List Int} {b : Int} (h : Stp k K b K') : K.length + hitN K' b = K'.length + hitN K b := by
  have e : (K.erase b).length = (K'.erase b).length := ((List.perm_ext_iff_of_nodup (h.nd.erase b) (h.nd'.erase b)).mpr fun x => by
    rw [h.nd.mem_erase_iff, h.nd'.mem_erase_iff]
    constructor
    · exact fun ⟨h1, h2⟩ => ⟨h1, (h.same x h1).mp h2⟩
    · exact fun ⟨h1, h2⟩ => ⟨h1, (h.same x h1).mpr h2⟩).length_eq
  have e1 := erase_hit (b := b) h.nd
  have e2 := erase_hit (b := b) h.nd'
  omega
inductive Tgt (k : Nat) : List Int → List Int → List Int → Nat → Nat → Prop
  | nil (K : List Int) : Tgt k K [] K 0 0
  | cons (K K' K2 : List Int) (b : Int) (s : List Int) (f g : Nat) (st : Stp k K b K') : Tgt k K' s K2 f g → Tgt k K (b :: s) K2 (hitN K b + f) (hitN K' b + g)
theorem Tgt.snoc {k : Nat} {K s K2 : List Int} {f g : Nat} (t : Tgt k K s K2 f g) : ∀ {b : Int} {K3 : List Int}, Stp k K2 b K3 → Tgt k K (s ++ [b]) K3 (f + hitN K2 b) (g + hitN K3 b) := by
  induction t with
  | nil K =>
    intro b K3 st
    have := Tgt.cons K K3 K3 b [] 0 0 st (.nil _)
    simpa using this
  | cons K K' K2 c s f g st t ih =>
    intro b K3 st2
    have := Tgt.cons K K' K3 c (s ++ [b]) _ _ st (ih st2)
    rw [Nat.add_assoc, Nat.add_assoc]
    exact this
theorem Tgt.rev {k : Nat} {K s K2 : List Int} {f g : Nat} (t : Tgt k K s K2 f g) : Tgt k K2 s.reverse K g f := by
  induction t with
  | nil K => exact .nil _
  | cons K K' K2 b s f g st t ih =>
    rw [List.reverse_cons, Nat.add_comm (hitN K' b), Nat.add_comm (hitN K b)]
    exact ih.snoc st.symm
theorem Tgt.even {k : Nat} {K s K2 : List Int} {f g : Nat} (t : Tgt k K s K2 f g) : K.length + g = K2.length + f := by
  induction t with
  | nil K => rfl
  | cons K K' K2 b s f g st t ih =>
    have := st.len
    omega
theorem Tgt.ach {k : Nat} {K s K2 : List Int} {f g : Nat} (t : Tgt k K s K2 f g) : Ach k K s f := by
  induction t with
  | nil K => exact .nil _
  | cons K K' K2 b s f g st t ih =>
    refine .cons K K' b s f (fun x hx => ?_) st.nd' st.le' ih
    by_cases h : x = b
    · exact .inr h
    · exact .inl ((st.same x h).mpr hx)
/-- what is kept and not hit any more need not be kept -/
theorem Ach.prune {k : Nat} {K s : List Int} {h : Nat} (a : Ach k K s h) : K.length ≤ k → ∃ (K0 : List Int) (g : Nat), K0.Nodup ∧ (∀ x ∈ K0, x ∈ K) ∧ K0.length ≤ k ∧ Tgt k K0 s [] h g := by
  induction a with
  | nil K => exact fun _ => ⟨[], 0, List.nodup_nil, fun x hx => (by cases hx), Nat.zero_le _, .nil _⟩
  | cons K K' b s h sub nd le a ih =>
    intro hk
    obtain ⟨K0', g, n0, s0, l0, t⟩ := ih le
    let K0 := (K0'.filter fun x => decide (x ≠ b)) ++ (if b ∈ K then [b] else [])
    have m1 : ∀ x, x ≠ b → (x ∈ K0 ↔ x ∈ K0') := fun x hx => by
      constructor
      · intro h
        rcases List.mem_append.mp h with h | h
        · exact (List.mem_filter.mp h).1
        · split at h
          · exact absurd (List.mem_singleton.mp h) hx
          · cases h
      · exact fun h => List.mem_append_left _ (List.mem_filter.mpr ⟨h, by simpa using hx⟩)
    have m2 : b ∈ K0 ↔ b ∈ K := by
      constructor
      · intro h
        rcases List.mem_append.mp h with h | h
        · simpa using (List.mem_filter.mp h).2
        · split at h
          · assumption
          · cases h
      · exact fun h => List.mem_append_right _ (by rw [if_pos h]; exact List.mem_cons_self)
    have nd0 : K0.Nodup := by
      refine List.nodup_append.mpr ⟨nodup_filter _ n0, by split <;> simp, fun x hx y hy => ?_⟩
      split at hy
      · rw [List.mem_singleton.mp hy]
        simpa using (List.mem_filter.mp hx).2
      · cases hy
    have sb0 : ∀ x ∈ K0, x ∈ K := fun x hx => by
      by_cases hxb : x = b
      · rw [hxb] at hx ⊢
        exact m2.mp hx
      · exact (sub x (s0 x ((m1 x hxb).mp hx))).resolve_right hxb
    have le0 : K0.length ≤ k := Nat.le_trans (List.Nodup.length_le_of_subset nd0 sb0) hk
    refine ⟨K0, hitN K0' b + g, nd0, sb0, le0, ?_⟩
    have e : hitN K b = hitN K0 b := by
      unfold hitN
      by_cases hb : b ∈ K
      · rw [if_pos hb, if_pos (m2.mpr hb)]
      · rw [if_neg hb, if_neg (fun h => hb (m2.mp h))]
    rw [e]
    exact .cons K0 K0' [] b s h g ⟨m1, nd0, n0, le0, l0⟩ t
theorem Ach.rev {k : Nat} {s : List Int} {h : Nat} (a : Ach k [] s h) : Ach k [] s.reverse h := by
  obtain ⟨K0, g, _, sb, _, t⟩ := a.prune (Nat.zero_le _)
  have e : K0 = [] := by
    cases K0 with
    | nil => rfl
    | cons x r => exact absurd (sb x List.mem_cons_self) (by simp)
  subst e
  have ev := t.even
  have := t.rev.ach
  simp only [List.length_nil, Nat.zero_add] at ev
  rw [← ev]
  exact this
/-! ### blocks called otherwise -/
theorem nodup_map {f : Int → Int} : ∀ {K : List Int}, (∀ x ∈ K, ∀ y ∈ K, f x = f y → x = y) → K.Nodup → (K.map f).Nodup
  | [], _, _ => List.nodup_nil
  | x :: K, hf, nd => by
    obtain ⟨h1, h2⟩ := List.nodup_cons.mp nd
    refine List.nodup_cons.mpr ⟨fun h => ?_, nodup_map (fun a ha c hc => hf a (List.mem_cons_of_mem _ ha) c (List.mem_cons_of_mem _ hc)) h2⟩
    obtain ⟨y, hy, e⟩ := List.mem_map.mp h
    have := hf y (List.mem_cons_of_mem _ hy) x List.mem_cons_self e
    rw [this] at hy
    exact h1 hy
theorem Ach.map {k : Nat} {f : Int → Int} {S : Int → Prop} (hf : ∀ x, S x → ∀ y, S y → f x = f y → x = y) {K s : List Int} {h : Nat} (a : Ach k K s h) : (∀ x ∈ K, S x) → (∀ x ∈ s, S x) → Ach k (K.map f) (s.map f) h := by
  induction a with
  | nil K => exact fun _ _ => .nil _
  | cons K K' b s h sub nd le a ih =>
    intro hK hs
    have hb : S b := hs b List.mem_cons_self
    have hK' : ∀ x ∈ K', S x := fun x hx => by
      rcases sub x hx with h | h
      · exact hK x h
      · rw [h]; exact hb
    have e : hitN K b = hitN (K.map f) (f b) := by
      unfold hitN
      by_cases h : b ∈ K
      · rw [if_pos h, if_pos (List.mem_map_of_mem h)]
      · rw [if_neg h, if_neg (fun hm => by
          obtain ⟨y, hy, e⟩ := List.mem_map.mp hm
          have := hf y (hK y hy) b hb e
          rw [this] at hy
          exact h hy)]
    rw [e]
    refine .cons _ (K'.map f) (f b) (s.map f) h (fun x hx => ?_) (nodup_map (fun x hx y hy => hf x (hK' x hx) y (hK' y hy)) nd) (by rw [List.length_map]; exact le) (ih hK' fun x hx => hs x (List.mem_cons_of_mem _ hx))
    obtain ⟨y, hy, e⟩ := List.mem_map.mp hx
    rcases sub y hy with h | h
    · exact .inl (by rw [← e]; exact List.mem_map_of_mem h)
    · exact .inr (by rw [← e, h])
/-! ### the most hits -/
def Most (k : Nat) (s : List Int) (g : Nat) : Prop := Ach k [] s g ∧ ∀ h, Ach k [] s h → h ≤ g
theorem Most.uniq {k : Nat} {s : List Int} {g h : Nat} (a : Most k s g) (b : Most k s h) : g = h := Nat.le_antisymm (b.2 _ a.1) (a.2 _ b.1)
theorem Most.rev {k : Nat} {s : List Int} {g : Nat} (a : Most k s g) : Most k s.reverse g := ⟨a.1.rev, fun h b => a.2 h (by have := b.rev; rwa [List.reverse_reverse] at this)⟩
theorem Most.step {k : Nat} {s : List Int} {b : Int} {g h : Nat} (a : Most k s g) (c : Most k (s ++ [b]) h) : g ≤ h ∧ h ≤ g + 1 ∧ (b ∉ s → h = g) := by
  obtain ⟨h1, e1, a1⟩ := a.1.snoc b
  have e2 := c.2 _ a1
  obtain ⟨h2, a2, e3, e4⟩ := c.1.unsnoc
  have e5 := a.2 _ a2
  refine ⟨by omega, by omega, fun hb => ?_⟩
  have := e4 (by simp) hb
  omega
theorem Most.map {k : Nat} {f : Int → Int} {s : List Int} {g : Nat} (hf : ∀ x ∈ s, ∀ y ∈ s, f x = f y → x = y) (a : Most k s g) : Most k (s.map f) g := by
  refine ⟨a.1.map (S := fun x => x ∈ s) hf (fun x hx => by cases hx) (fun x hx => hx), fun h b => ?_⟩
  have ex : ∀ v, ∃ u, v ∈ s.map f → u ∈ s ∧ f u = v := fun v => by
    by_cases hv : v ∈ s.map f
    · obtain ⟨u, hu, e⟩ := List.mem_map.mp hv
      exact ⟨u, fun _ => ⟨hu, e⟩⟩
    · exact ⟨0, fun h => absurd h hv⟩
  let gg : Int → Int := fun v => (ex v).choose
  have hgg : ∀ v ∈ s.map f, gg v ∈ s ∧ f (gg v) = v := fun v hv => (ex v).choose_spec hv
  have b2 := b.map (f := gg) (S := fun x => x ∈ s.map f) (fun x hx y hy e => by rw [← (hgg x hx).2, ← (hgg y hy).2, e]) (fun x hx => by cases hx) (fun x hx => hx)
  have e : (s.map f).map gg = s := by
    rw [List.map_map]
    refine (List.map_congr_left fun x hx => ?_).trans (List.map_id s)
    have h1 := hgg (f x) (List.mem_map_of_mem hx)
    exact hf _ h1.1 _ hx h1.2
  rw [e] at b2
  exact a.2 h b2
theorem roomU {k : Nat} {A : Around} (r : Room k A) : A.units + 65 < cLine := by
  have := r.un
  omega
/-! ### the greatest of pairs of numbers -/
section
open PySem PySem.Spec PyProof.Rows PySem.W
theorem reads_pair {h : Heap} {t : Addr} {o : Obj} {vs : List Value} {n : Nat} {a b c d : Int} {as : List Addr} (ho : h.get? t = some o) (hd : o.data = .seq vs.toArray n) (hv : Vals [.int a, .int b] vs) (r : Reads h (.ref t) (.tuple [.int c, .int d]) as) : a = c ∧ b = d := by
  cases r with
  | tuple ho2 _ hd2 ra =>
    rw [ho] at ho2
    cases ho2
    rw [hd] at hd2
    injection hd2 with e1 _
    subst e1
    match vs, hv with
    | [u, w], .cons ru (.cons rw' .nil) =>
      obtain ⟨tu, rfl⟩ := ru
      obtain ⟨tw, rfl⟩ := rw'
      simp only [] at ra
      cases ra with
      | cons r1 r2 =>
        cases r2 with
        | cons r2 r3 =>
          cases r1
          cases r2
          exact ⟨rfl, rfl⟩
theorem vals_at {xs : List V} {us : List Value} (h : Vals xs us) : ∀ (i : Nat) (u : Value), us[i]? = some u → ∃ x, xs[i]? = some x ∧ RelV x u := by
  induction h with
  | nil => intro i u e; simp at e
  | cons r _ ih =>
    intro i u e
    cases i with
    | zero => cases e; exact ⟨_, rfl, r⟩
    | succ i => exact ih i u e
def rMaxP (K : Frag) : List V → Hp → VK → Prop := fun xs H Q => ∃ (a : Addr) (ts : List Addr) (p : Int × Int) (ps : List (Int × Int)), xs = [.ref a] ∧ SqL K H a (ts.map V.ref) ∧ ts.length = ps.length + 1 ∧ (∀ (i : Nat) (t : Addr) (q : Int × Int), ts[i]? = some t → (p :: ps)[i]? = some q → SqT K H t [.int q.1, .int q.2]) ∧
  ∀ (i : Nat) (t : Addr), ts[i]? = some t → (p :: ps)[i]? = some (maxOf p ps) → Q (.ref t) H
theorem dp_pairs {K : Frag} {H : Hp} : ∀ {ts : List Addr} {qs : List (Int × Int)}, ts.length = qs.length → (∀ (i : Nat) (t : Addr) (q : Int × Int), ts[i]? = some t → qs[i]? = some q → SqT K H t [.int q.1, .int q.2]) → DpAll K H (ts.map V.ref) (qs.map Datum.toD)
  | [], [], _, _ => .nil
  | [], _ :: _, h, _ => by cases h
  | _ :: _, [], h, _ => by cases h
  | t :: ts, q :: qs, h, f => .cons (.tup (f 0 t q rfl rfl) (.cons (.int _) (.cons (.int _) .nil))) (dp_pairs (by simpa using h) fun i t q e1 e2 => f (i + 1) t q e1 e2)
theorem cr_maxP {X : Cx} (hc : X.calm = true) (hu : X.A.units + 65 < cLine) : CallR X (.builtin "max") (rMaxP X.K) := by
  intro pins s σ H xs us Q I r h
  obtain ⟨a, ts, p, ps, rfl, ha, hl, ht, q⟩ := h
  obtain ⟨its, rv, pl, _⟩ := I.list ha
  rw [Vals.ref1 r]
  have hd : DpAll X.K H (ts.map V.ref) ((p :: ps).map Datum.toD) := dp_pairs (by rw [List.length_cons]; exact hl) ht
  have hold : HoldAll s.heap its.toArray.toList (p :: ps) := Dp.readsAll I _ _ _ hd (by simpa using rv)
  refine max_list_datum (I.ok.hd hc) pl.isList hold (by show X.A.units + 1 + 1 < cLine; omega) fun i v h' tk hi hv hk => ?_
  obtain ⟨x, ex, rx⟩ := vals_at rv i v (by simpa using hi)
  rw [List.getElem?_map] at ex
  cases et : ts[i]? with
  | none => rw [et] at ex; cases ex
  | some t =>
    rw [et] at ex
    cases ex
    cases rx
    have hil : i < (p :: ps).length := by
      have := lt_of_at et
      rw [List.length_cons]
      omega
    have eq := List.getElem?_eq_getElem hil
    obtain ⟨ws, rw2, ⟨o, ho, _, n, hdat⟩, _⟩ := I.tuple (ht i t _ et eq)
    obtain ⟨as, rd⟩ := hv
    have u2 := reads_pair (hk _ _ ho) hdat rw2 rd
    refine ⟨.ref t, H, I.kept hk, rfl, q i t et ?_⟩
    rw [eq]
    exact congrArg some (Prod.ext u2.1 u2.2)
theorem maxOf_ok (p : Int × Int) (ps : List (Int × Int)) : maxOf p ps ∈ p :: ps ∧ ∀ q ∈ p :: ps, q.1 ≤ (maxOf p ps).1 := by
  induction ps generalizing p with
  | nil => exact ⟨List.mem_cons_self, fun q hq => by rw [List.mem_singleton.mp hq]; exact Int.le_refl _⟩
  | cons r ps ih =>
    have e : maxOf p (r :: ps) = maxOf (if DatumOrd.lt p r = true then r else p) ps := rfl
    rw [e]
    obtain ⟨i1, i2⟩ := ih (if DatumOrd.lt p r = true then r else p)
    have lt_le : DatumOrd.lt p r = true → p.1 ≤ r.1 := fun h => by
      have h' : (if p.1 = r.1 then DatumOrd.lt p.2 r.2 else DatumOrd.lt p.1 r.1) = true := h
      by_cases e : p.1 = r.1
      · omega
      · rw [if_neg e] at h'
        exact Int.le_of_lt (of_decide_eq_true h')
    have nlt_le : ¬ DatumOrd.lt p r = true → r.1 ≤ p.1 := fun h => by
      have h' : ¬ (if p.1 = r.1 then DatumOrd.lt p.2 r.2 else DatumOrd.lt p.1 r.1) = true := h
      by_cases e : p.1 = r.1
      · omega
      · rw [if_neg e] at h'
        exact Int.not_lt.mp fun hh => h' (decide_eq_true hh)
    by_cases hlt : DatumOrd.lt p r = true
    · rw [if_pos hlt] at i1 i2 ⊢
      refine ⟨List.mem_cons_of_mem _ i1, fun q hq => ?_⟩
      rcases List.mem_cons.mp hq with h | h
      · rw [h]
        exact Int.le_trans (lt_le hlt) (i2 r List.mem_cons_self)
      · exact i2 q h
    · rw [if_neg hlt] at i1 i2 ⊢
      refine ⟨?_, fun q hq => ?_⟩
      · rcases List.mem_cons.mp i1 with h | h
        · rw [h]; exact List.mem_cons_self
        · exact List.mem_cons_of_mem _ (List.mem_cons_of_mem _ h)
      · rcases List.mem_cons.mp hq with h | h
        · rw [h]; exact i2 p List.mem_cons_self
        · rcases List.mem_cons.mp h with h | h
          · rw [h]
            exact Int.le_trans (nlt_le hlt) (i2 p List.mem_cons_self)
          · exact i2 q (List.mem_cons_of_mem _ h)
end
/-! ### what is dropped for a read -/
theorem wait_in {b : Int} : ∀ {s : List Int}, b ∈ s → s[waitOf b s]? = some b ∧ ∀ (m : Nat) (z : Int), m < waitOf b s → s[m]? = some z → z ≠ b
  | [], h => by cases h
  | c :: s, h => by
    by_cases hc : c = b
    · have e : waitOf b (c :: s) = 0 := by
        show (if c = b then 0 else 1 + waitOf b s) = _
        rw [if_pos hc]
      rw [e]
      exact ⟨by rw [hc]; rfl, fun m z hm => absurd hm (Nat.not_lt_zero _)⟩
    · have e : waitOf b (c :: s) = waitOf b s + 1 := by
        show (if c = b then 0 else 1 + waitOf b s) = _
        rw [if_neg hc, Nat.add_comm]
      obtain ⟨i1, i2⟩ := wait_in ((List.mem_cons.mp h).resolve_left fun z => hc z.symm)
      rw [e]
      refine ⟨i1, fun m z hm hz => ?_⟩
      cases m with
      | zero => cases hz; exact hc
      | succ m => exact i2 m z (by omega) hz
theorem wait_out {b : Int} : ∀ {s : List Int}, b ∉ s → waitOf b s = s.length
  | [], _ => rfl
  | c :: s, h => by
    show (if c = b then 0 else 1 + waitOf b s) = _
    rw [if_neg (fun z => h (by rw [z]; exact List.mem_cons_self)), wait_out (fun z => h (List.mem_cons_of_mem _ z)), List.length_cons, Nat.add_comm]
theorem best_can {k : Nat} {K : List Int} {b : Int} {later : List Int} {e : Ent} (h : Best k K b later e) : canBe (k : Int) K b e = true := by
  rcases h with ⟨hb, rfl⟩ | ⟨hb, hl, rfl⟩ | ⟨hb, hl, ⟨w, hw, hm, hlt, rfl⟩ | ⟨hm, rfl⟩⟩
  · rfl
  · have : (K.length : Int) < (k : Int) := by omega
    simp [canBe, hb, this]
  · simp [canBe, hb, hw]
  · rfl
theorem greedy_of {k : Nat} : ∀ (l : List (Int × Ent)) (K : List Int), (∀ (j : Nat) (q : Int × Ent), l[j]? = some q → Best k ((l.take j).foldl (fun k q => keptAfter k q.1 q.2) K) q.1 ((l.map (·.1)).drop (j + 1)) q.2) → Greedy k K l
  | [], _, _ => trivial
  | q :: l, K, h => ⟨h 0 q rfl, greedy_of l _ fun j p e => h (j + 1) p e⟩
theorem miss_hits : ∀ (l : List (Int × Ent)) (K : List Int), missOf K l + (hitsOf K l : Int) = (l.length : Int)
  | [], _ => rfl
  | q :: l, K => by
    have ih := miss_hits l (keptAfter K q.1 q.2)
    show (if q.1 ∈ K then 0 else 1) + missOf (keptAfter K q.1 q.2) l + ((hitN K q.1 + hitsOf (keptAfter K q.1 q.2) l : Nat) : Int) = ((l.length + 1 : Nat) : Int)
    by_cases hb : q.1 ∈ K
    · rw [if_pos hb, hitN_in hb]
      omega
    · rw [if_neg hb, hitN_out hb]
      omega
def spWait : Sp := fun vs H Q _ => ∃ (b : Int) (lt : Addr) (s : List Int), vs = [.int b, .ref lt] ∧ H lt = some (.lst (s.map V.int)) ∧ Q (.int (waitOf b s : Nat)) H
def spBest : Sp := fun vs H Q _ => ∃ (k : Nat) (kk : Addr) (b : Int) (lt : Addr) (kept later : List Int), vs = [.int (k : Int), .ref kk, .int b, .ref lt] ∧ H kk = some (.lst (kept.map V.int)) ∧ H lt = some (.lst (later.map V.int)) ∧ 1 ≤ k ∧ kept.length ≤ 8 ∧ ∀ (e : Ent) (H' : Hp), Fr [] H H' → Best k kept b later e → Q e.v H'
/-- a number of misses, a plan that has so many, and no plan has less -/
def spFew : Sp := fun vs H Q _ => ∃ (k : Nat) (b : Addr) (xs : List Int), vs = [.int (k : Int), .ref b] ∧ 1 ≤ k ∧ k ≤ 8 ∧ H b = some (.lst (xs.map V.int)) ∧ GoodR xs ∧
  ∀ (t p : Addr) (l : List (Int × Ent)) (g : Nat) (H' : Hp), Fr [] H H' → l.map (·.1) = xs → Valid (k : Int) l → Most k xs g → missOf [] l + (g : Int) = (xs.length : Int) → H' t = some (.tup [.int (missOf [] l), .ref p]) → H' p = some (.lst (l.map fun q => q.2.v)) → Q (.ref t) H'
theorem cut_from {xs : List V} {i : Nat} (h : i ≤ xs.length) : cutV xs (some (i : Int)) none = xs.drop i := by
  unfold cutV
  rw [HT.sIx_none, HT.sIx_nat, Nat.min_eq_left h]
  exact List.take_of_length_le (by simp)
section
variable {P : Program} {w : World} {K : PySem.W.Frag} {mg : Str → Option Value} {base : Heap}
theorem ok_wait (T : Gx K mg) : FnOk P w K mg base CX0 1 T.f__wait T.fd__wait ["block", "later"] spWait := by
  refine T.F__wait.ok sc__wait (fun vs H Q E h => ?_) (fun cdv A outer s H vs Q E hr h => ?_)
  · obtain ⟨b, lt, s, rfl, _⟩ := h
    rfl
  · obtain ⟨b, lt, xs, rfl, hl, k⟩ := h
    refine ⟨_, (pss_cons (ps_if (pt_cmpR op_in_seq (pv 0) (pv 1) (by rfl)) (pss_one (ps_ret (pe_bm PySem.F.plainAttrs_list PySem.F.slot_list_index PySem.F.type_list_index mt_index (pv 1) (pa_cons (pv 0) pa_nil)))) pss_nil)
      (pss_one (ps_ret (pe_callB call_len_seq (by rfl) T.z_len (by decide +kernel) (pa_cons (pv 1) pa_nil))))), ?_⟩
    refine ⟨_, rfl, _, rfl, lt, _, rfl, .inl (SqL.of hl), rfl, flat_ints xs, _, rfl, ?_⟩
    rw [inV_int]
    by_cases hb : b ∈ xs
    · rw [decide_eq_true hb]
      obtain ⟨w1, w2⟩ := wait_in hb
      refine iteT ⟨_, rfl, .inl ⟨rfl, _, SqL.of hl⟩, _, rfl, lt, _, .int b, waitOf b xs, .int b, rfl, rfl, SqL.of hl, rfl, flat_ints xs, by rw [List.getElem?_map, w1]; rfl, by simp [eqV], fun m z' hm hz => ?_, k⟩
      obtain ⟨u, rfl, hu⟩ := int_at hz
      have := w2 m u hm hu
      simp [eqV, this]
    · rw [decide_eq_false hb]
      refine iteF ⟨_, rfl, lt, _, rfl, .inl (SqL.of hl), ?_⟩
      rw [List.length_map, ← wait_out hb]
      exact k
theorem ok_best (T : Gx K mg) : FnOk P w K mg base CX0 3 T.f__best_entry T.fd__best_entry ["slots", "kept", "block", "later"] spBest := by
  have G__wait : FnOk P w K mg base CX0 1 T.f__wait T.fd__wait ["block", "later"] spWait := ok_wait T
  refine T.F__best_entry.ok sc__best_entry (fun vs H Q E h => ?_) (fun cdv A outer s H vs Q E hr h => ?_)
  · obtain ⟨k, kk, b, lt, kept, later, rfl, _⟩ := h
    rfl
  · obtain ⟨n, kk, b, lt, kept, later, rfl, hk, hl, hn, hkl, k⟩ := h
    refine ⟨_, (pss_cons (ps_if (pt_cmpR op_in_seq (pv 2) (pv 1) (by rfl)) (pss_one (ps_ret pe_non)) pss_nil)
      (pss_cons (ps_if (pt_cmpR op_lt (pe_callB call_len_seq (by rfl) T.z_len (by decide +kernel) (pa_cons (pv 1) pa_nil)) (pv 0) (nomark _)) (pss_one (ps_ret pe_str)) pss_nil)
      (pss_cons (ps_setLc (i := 5) (own := [("other", 4)]) (g := gName 4) rfl sc__best_entry.nd rfl rfl (sw_true rfl rfl rfl (by decide +kernel)) (pi_list (pv 1)) (blkOk_by (N := ["slots", "kept", "block", "later", "other", "waits", "wait"]) (sc := defScope s__best_entry) (by decide +kernel)) (fun _ _ _ _ _ => pg_name (i := 4) sc__best_entry.nd rfl (.inl rfl)) (fun _ _ _ _ _ => pts_nil) (fun _ _ _ _ _ => (pe_tup (pa_cons (pe_call G__wait (hr.mono (by first | decide | omega)) (by rfl) T.g__wait T.F__wait.kp (b__wait T) .nil pass0 (pa_cons (pv 4) (pa_cons (pv 3) pa_nil))) (pa_cons (pv 4) pa_nil)))))
      (pss_cons (ps_asg (pe_callB (cr_maxP rfl (roomU hr)) (by rfl) T.z_max (by decide +kernel) (pa_cons (pv 5) pa_nil)) (pg_tup (by rfl) (pgs_cons (pg_name (i := 6) sc__best_entry.nd rfl (.inl rfl)) (pgs_cons (pg_name (i := 4) sc__best_entry.nd rfl (.inl rfl)) pgs_nil))))
      (pss_cons (ps_if (pt_cmpR op_gt (pv 6) (pe_call G__wait (hr.mono (by first | decide | omega)) (by rfl) T.g__wait T.F__wait.kp (b__wait T) .nil pass0 (pa_cons (pv 2) (pa_cons (pv 3) pa_nil))) (nomark _)) (pss_one (ps_ret (pv 4))) pss_nil)
      (pss_one (ps_ret pe_non))))))), ?_⟩
    refine ⟨_, rfl, _, rfl, kk, _, rfl, .inl (SqL.of hk), rfl, flat_ints kept, _, rfl, ?_⟩
    rw [inV_int]
    by_cases hb : b ∈ kept
    · rw [decide_eq_true hb]
      exact iteT (k .no H (Fr.refl _ _) (.inl ⟨hb, rfl⟩))
    · rw [decide_eq_false hb]
      refine iteF ⟨_, rfl, kk, _, rfl, .inl (SqL.of hk), _, rfl, _, _, rfl, rfl, _, rfl, ?_⟩
      rw [List.length_map]
      by_cases hlt : kept.length < n
      · rw [decide_eq_true (by omega)]
        exact iteT (k .keep H (Fr.refl _ _) (.inr (.inl ⟨hb, hlt, rfl⟩)))
      · rw [decide_eq_false (by omega)]
        refine iteF ?_
        refine ⟨_, rfl, kk, rfl, ⟨_, SqL.of hk⟩, fun D hD => ?_⟩
        refine lc_list (K := K) (a := kk) (xs := kept.map V.int) (fun i H' => Fr [] H H' ∧ ∃ ts : List Addr, H' D = some (.lst (ts.map V.ref)) ∧ ts.length = i ∧ ∀ (j : Nat) (t : Addr) (o : Int), ts[j]? = some t → kept[j]? = some o → H' t = some (.tup [.int (waitOf o later : Nat), .int o])) ⟨Fr.new hD, [], upd_same, rfl, fun j t o e => by simp at e⟩ (fun i H' _ h => SqL.of (h.1 _ _ hk (by simp))) ?_ ?_
        · rintro i x H1 hx ⟨f1, ts, e1, l1, t1⟩
          obtain ⟨u, rfl, hu⟩ := int_at hx
          have hi := lt_of_at hu
          refine ⟨rfl, _, rfl, _, rfl, u, lt, later, rfl, f1 _ _ hl (by simp), _, rfl, sz_le (by simp), fun t ht => ?_⟩
          have e2 := (upd_ne (o := .tup [.int (waitOf u later : Nat), .int u]) (ne_of_none e1 ht)).trans e1
          refine ⟨_, e2, by rw [List.length_map, l1]; exact sz_lt (by omega), (f1.trans (Fr.new ht)).upd0 hD, ts ++ [t], ?_, by rw [List.length_append, l1]; rfl, fun j t' o h1 h2 => ?_⟩
          · rw [upd_same, List.map_append]
            rfl
          · by_cases hj : j < ts.length
            · rw [List.getElem?_append_left hj] at h1
              have h3 := t1 j t' o h1 h2
              have h4 : t' ≠ D := fun z => by rw [z, e1] at h3; cases h3
              rw [upd_ne h4]
              exact (upd_ne (ne_of_none h3 ht)).trans h3
            · rw [List.getElem?_append_right (by omega)] at h1
              have ej : j = ts.length := by
                have := lt_of_at h1
                simp only [List.length_cons, List.length_nil] at this
                omega
              subst ej
              rw [Nat.sub_self] at h1
              cases h1
              rw [l1, hu] at h2
              cases h2
              rw [upd_ne (fun z => by rw [z, e1] at ht; cases ht)]
              exact upd_same
        · rintro H1 ⟨f1, ts, e1, l1, t1⟩
          rw [List.length_map] at l1
          obtain ⟨o, os, ek⟩ : ∃ o os, kept = o :: os := by
            cases kept with
            | nil => simp at hlt; omega
            | cons o os => exact ⟨o, os, rfl⟩
          have hps : (((waitOf o later : Nat) : Int), o) :: os.map (fun z => (((waitOf z later : Nat) : Int), z)) = kept.map (fun z => (((waitOf z later : Nat) : Int), z)) := by rw [ek]; rfl
          refine ⟨_, rfl, D, ts, (((waitOf o later : Nat) : Int), o), os.map (fun z => (((waitOf z later : Nat) : Int), z)), rfl, SqL.of e1, by rw [l1, ek, List.length_map]; rfl, fun i t q h1 h2 => ?_, fun i t h1 h2 => ?_⟩
          · rw [hps, List.getElem?_map] at h2
            cases eo : kept[i]? with
            | none => rw [eo] at h2; cases h2
            | some z =>
              rw [eo] at h2
              cases h2
              exact SqT.of (t1 i t z h1 eo)
          · obtain ⟨m1, m2⟩ := maxOf_ok (((waitOf o later : Nat) : Int), o) (os.map (fun z => (((waitOf z later : Nat) : Int), z)))
            rw [hps] at h2 m1 m2
            rw [List.getElem?_map] at h2
            cases eo : kept[i]? with
            | none => rw [eo] at h2; cases h2
            | some z =>
              rw [eo] at h2
              have ez := Option.some.inj h2
              rw [← ez] at m2
              have hz := List.mem_of_getElem? eo
              have mx : ∀ y ∈ kept, waitOf y later ≤ waitOf z later := fun y hy => by
                have := m2 _ (List.mem_map_of_mem hy)
                simp only [] at this
                omega
              refine ⟨t, _, rfl, SqT.of (t1 i t z h1 eo), rfl, _, _, rfl, _, _, rfl, rfl, ?_⟩
              refine ⟨_, rfl, _, rfl, _, rfl, b, lt, later, rfl, f1 _ _ hl (by simp), _, _, rfl, rfl, _, rfl, ?_⟩
              by_cases hw : waitOf b later < waitOf z later
              · rw [decide_eq_true (by omega)]
                exact iteT ⟨_, rfl, k (.drop z) _ f1 (.inr (.inr ⟨hb, by omega, .inl ⟨z, hz, mx, hw, rfl⟩⟩))⟩
              · rw [decide_eq_false (by omega)]
                exact iteF (k .no _ f1 (.inr (.inr ⟨hb, by omega, .inr ⟨fun y hy => Nat.le_trans (mx y hy) (by omega), rfl⟩⟩)))
end
section
variable {P : Program} {w : World} {K : PySem.W.Frag} {mg : Str → Option Value} {base : Heap}
theorem ok_few (T : Gx K mg) : FnOk P w K mg base CX0 6 T.f_fewest_misses T.fd_fewest_misses ["slots", "blocks"] spFew := by
  have G__check_reads : FnOk P w K mg base CX0 4 T.f__check_reads T.fd__check_reads ["slots", "blocks"] spReads := ok_reads T
  have G_judge_plan : FnOk P w K mg base CX0 5 T.f_judge_plan T.fd_judge_plan ["slots", "blocks", "plan"] spJudge := ok_judge T
  have G__best_entry : FnOk P w K mg base CX0 3 T.f__best_entry T.fd__best_entry ["slots", "kept", "block", "later"] spBest := ok_best T
  have G__kept_after : FnOk P w K mg base CX0 1 T.f__kept_after T.fd__kept_after ["kept", "block", "entry"] spAfter := ok_after T
  refine T.F_fewest_misses.ok sc_fewest_misses (fun vs H Q E h => ?_) (fun cdv A outer s H vs Q E hr h => ?_)
  · obtain ⟨k, b, xs, rfl, _⟩ := h
    rfl
  · obtain ⟨n, b, xs, rfl, hn1, hn8, hb, hg, k⟩ := h
    refine ⟨_, (pss_cons (ps_expr (pe_call G__check_reads (hr.mono (by first | decide | omega)) (by rfl) T.g__check_reads T.F__check_reads.kp (b__check_reads T) .nil pass0 (pa_cons (pv 0) (pa_cons (pv 1) pa_nil))))
      (pss_cons (ps_set (i := 2) sc_fewest_misses.nd rfl (.inl rfl) (pe_lst pa_nil))
      (pss_cons (ps_set (i := 3) sc_fewest_misses.nd rfl (.inl rfl) (pe_lst pa_nil))
      (pss_cons (ps_for PassesOwn.never rfl (pi_enum (by rfl) T.z_enumerate (pa_cons (pv 1) pa_nil)) (pg_tup (by rfl) (pgs_cons (pg_name (i := 4) sc_fewest_misses.nd rfl (.inl rfl)) (pgs_cons (pg_name (i := 5) sc_fewest_misses.nd rfl (.inl rfl)) pgs_nil))) (pss_cons (ps_set (i := 6) sc_fewest_misses.nd rfl (.inl rfl) (pe_call G__best_entry (hr.mono (by first | decide | omega)) (by rfl) T.g__best_entry T.F__best_entry.kp (b__best_entry T) .nil pass0 (pa_cons (pv 0) (pa_cons (pv 2) (pa_cons (pv 5) (pa_cons (pe_slice sl_list (pv 1) (po_some (pe_op op_add (pv 4) pe_int)) po_none) pa_nil))))))
      (pss_cons (ps_set (i := 2) sc_fewest_misses.nd rfl (.inl rfl) (pe_call G__kept_after (hr.mono (by first | decide | omega)) (by rfl) T.g__kept_after T.F__kept_after.kp (b__kept_after T) .nil pass0 (pa_cons (pv 2) (pa_cons (pv 5) (pa_cons (pv 6) pa_nil)))))
      (pss_one (ps_expr (pe_bm PySem.F.plainAttrs_list PySem.F.slot_list_append PySem.F.type_list_append mt_append (pv 3) (pa_cons (pv 6) pa_nil)))))))
      (pss_one (ps_ret (pe_tup (pa_cons (pe_call G_judge_plan (hr.mono (by first | decide | omega)) (by rfl) T.g_judge_plan T.F_judge_plan.kp (b_judge_plan T) .nil pass0 (pa_cons (pv 0) (pa_cons (pv 1) (pa_cons (pv 3) pa_nil)))) (pa_cons (pv 3) pa_nil))))))))), ?_⟩
    refine ⟨_, rfl, _, rfl, (n : Int), b, xs, rfl, by omega, by omega, hb, hg, fun H1 f1 => ?_⟩
    refine ⟨sz_le (by simp), fun kk hkk => ⟨sz_le (by simp), fun pl hpl => ?_⟩⟩
    have f2 := (f1.trans (Fr.new (o := .lst []) hkk)).trans (Fr.new (o := .lst []) hpl)
    have hplk : pl ≠ kk := (free_upd hpl).2
    have hplb : pl ≠ b := fun z => by
      have := f2 _ _ hb (by simp)
      rw [← z, upd_same] at this
      have e0 := ((Fr.new (S := []) (o := .lst []) hkk) _ _ (f1 _ _ hb (by simp)) (by simp))
      rw [← z, hpl] at e0
      cases e0
    have hpl0 : H pl = none := some_of (f1.trans (Fr.new (o := .lst []) hkk)) (by simp) hpl
    refine ⟨_, rfl, b, _, rfl, SqL.of (f2 _ _ hb (by simp)), for_enumL (K := K) (a := b) (xs := xs.map V.int) (fun i σ H' => ∃ (kk : Addr) (l : List (Int × Ent)) (v4 v5 v6 : Option V), σ = [some (.int (n : Int)), some (.ref b), some (.ref kk), some (.ref pl), v4, v5, v6] ∧ Fr [] H H' ∧ H' kk = some (.lst ((keptOf l).map V.int)) ∧ pl ≠ kk ∧ H' pl = some (.lst (l.map fun q => q.2.v)) ∧ l.length = i ∧ l.map (·.1) = xs.take i ∧ (keptOf l).Nodup ∧ (keptOf l).length ≤ n ∧
      ∀ (j : Nat) (q : Int × Ent), l[j]? = some q → Best n (keptOf (l.take j)) q.1 (xs.drop (j + 1)) q.2)
      ⟨kk, [], none, none, none, rfl, f2, (upd_ne hplk.symm).trans upd_same, hplk, upd_same, rfl, rfl, List.nodup_nil, Nat.zero_le _, fun j q e => by simp at e⟩ (fun i σ H' _ h => by obtain ⟨_, _, _, _, _, _, f, _⟩ := h; exact SqL.of (f _ _ hb (by simp))) ?_ ?_⟩
    · rintro i x σ H2 U hx ⟨kk, l, v4, v5, v6, rfl, f3, ek, npk, ep, hl, hlx, nd, hkn, bs⟩ hU
      obtain ⟨u, rfl, hu⟩ := int_at hx
      have hi := lt_of_at hu
      have hx14 := hg.1
      have f4 := f3.trans (Fr.new (o := .tup [.int (i : Nat), .int u]) hU)
      have ek4 := (upd_ne (o := .tup [.int (i : Nat), .int u]) (ne_of_none ek hU)).trans ek
      have ep4 := (upd_ne (o := .tup [.int (i : Nat), .int u]) (ne_of_none ep hU)).trans ep
      refine ⟨U, _, rfl, SqT.of upd_same, rfl, _, _, rfl, _, _, rfl, rfl, ?_⟩
      refine ⟨_, rfl, _, rfl, _, rfl, _, rfl, _, rfl, _, _, rfl, rfl, ((i + 1 : Nat) : Int), rfl, b, _, rfl, SqL.of (f4 _ _ hb (by simp)), fun g hg2 => ?_⟩
      rw [cut_from (by rw [List.length_map]; omega), ← List.map_drop]
      have f5 := f4.trans (Fr.new (o := .lst ((xs.drop (i + 1)).map V.int)) hg2)
      have ek5 := (upd_ne (o := .lst ((xs.drop (i + 1)).map V.int)) (ne_of_none ek4 hg2)).trans ek4
      have ep5 := (upd_ne (o := .lst ((xs.drop (i + 1)).map V.int)) (ne_of_none ep4 hg2)).trans ep4
      refine ⟨n, kk, u, g, keptOf l, xs.drop (i + 1), rfl, ek5, upd_same, hn1, by omega, fun e H3 f6 be => ?_⟩
      have ek6 := f6 _ _ ek5 (by simp)
      have ep6 := f6 _ _ ep5 (by simp)
      refine ⟨_, rfl, _, rfl, _, rfl, kk, keptOf l, u, e, rfl, ek6, by omega, fun k' H4 f7 ek7 hk' => ?_⟩
      have ep7 := f7 _ _ ep6 (by simp)
      have F7 := (f5.trans f6).trans f7
      obtain ⟨nd2, kn2, _⟩ := best_after be nd hkn
      refine ⟨_, rfl, .inl ⟨rfl, _, SqL.of ep7⟩, _, rfl, pl, _, e.v, rfl, rfl, ep7, by rw [List.length_map]; exact sz_lt (by omega), ?_⟩
      have hkp : k' ≠ pl := fun z => by
        rcases hk' with h | h
        · exact npk (z.symm.trans h)
        · rw [z, ep6] at h
          cases h
      · refine ⟨k', l ++ [(u, e)], some (.int (i : Int)), some (.int u), some e.v, rfl, F7.upd0 hpl0, ?_, fun z => hkp z.symm, ?_, by rw [List.length_append, hl]; rfl, ?_, by rw [keptOf_snoc]; exact nd2, by rw [keptOf_snoc]; exact kn2, fun j q hq => ?_⟩
        · rw [upd_ne hkp, keptOf_snoc]
          exact ek7
        · rw [upd_same, List.map_append]
          rfl
        · rw [List.map_append, hlx, take_snoc hu]
          rfl
        · by_cases h2 : j < l.length
          · rw [List.getElem?_append_left h2] at hq
            rw [List.take_append_of_le_length (by omega)]
            exact bs j q hq
          · rw [List.getElem?_append_right (by omega)] at hq
            have ej : j = l.length := by
              have := lt_of_at hq
              simp only [List.length_cons, List.length_nil] at this
              omega
            subst ej
            rw [Nat.sub_self] at hq
            cases hq
            rw [List.take_append_of_le_length (Nat.le_refl _), List.take_length, hl]
            exact be
    · rintro σ H2 ⟨kk, l, v4, v5, v6, rfl, f3, ek, npk, ep, hl, hlx, nd, hkn, bs⟩
      rw [List.length_map] at hl
      rw [List.length_map, List.take_length] at hlx
      have hv : Valid (n : Int) l := fun i q e => best_can (bs i q e)
      have gr : Greedy n [] l := greedy_of l [] fun j q e => by rw [hlx]; exact bs j q e
      have mo := greedy_best l [] List.nodup_nil (Nat.zero_le _) gr
      rw [hlx] at mo
      have mh := miss_hits l []
      refine ⟨_, rfl, _, rfl, _, rfl, (n : Int), b, pl, l, rfl, by omega, by omega, by rw [hlx]; exact f3 _ _ hb (by simp), ep, by rw [hlx]; exact hg, hv, fun H3 f4 => ?_⟩
      refine ⟨_, rfl, sz_le (by simp), fun t ht => ?_⟩
      refine k t pl l (hitsOf [] l) _ ((f3.trans f4).trans (Fr.new ht)) hlx hv mo (by omega) upd_same ((upd_ne (ne_of_none (f4 _ _ ep (by simp)) ht)).trans (f4 _ _ ep (by simp)))
end
/-! ### how many different numbers a list has -/
section
open PySem PySem.Spec PyProof.Rows L2
theorem firstMet_fold (ns : List Int) : ∀ i, i ≤ ns.length → firstMet (fun i => ns.getD i 0) i = (ns.take i).foldl step_dedup []
  | 0, _ => rfl
  | i + 1, h => by
    have g : ns[i]? = some ns[i] := List.getElem?_eq_getElem h
    rw [firstMet_succ, firstMet_fold ns i (Nat.le_of_lt h), List.take_succ_eq_append_getElem h, List.foldl_append]
    show step_dedup _ (ns.getD i 0) = step_dedup _ ns[i]
    rw [List.getD_eq_getElem?_getD, g]
    rfl
def many (ns : List Int) : Nat := (ns.foldl step_dedup []).length
theorem in_fold (x : Int) : ∀ (ns acc : List Int), x ∈ ns.foldl step_dedup acc ↔ x ∈ acc ∨ x ∈ ns
  | [], acc => by simp
  | n :: ns, acc => by
    rw [List.foldl_cons, in_fold x ns]
    have e : x ∈ step_dedup acc n ↔ x ∈ acc ∨ x = n := by
      unfold step_dedup
      by_cases h : acc.any (· == n) = true
      · rw [if_pos h]
        obtain ⟨y, hy, e⟩ := List.any_eq_true.mp h
        have : y = n := beq_iff_eq.mp e
        constructor
        · exact .inl
        · rintro (h | h)
          · exact h
          · rw [h, ← this]; exact hy
      · rw [if_neg h, List.mem_append, List.mem_singleton]
    rw [e, List.mem_cons, or_assoc]
theorem many_snoc (ns : List Int) (b : Int) : many (ns ++ [b]) ≤ many ns + 1 ∧ (b ∈ ns → many (ns ++ [b]) = many ns) := by
  unfold many
  rw [List.foldl_append]
  show (step_dedup (ns.foldl step_dedup []) b).length ≤ _ ∧ (_ → (step_dedup (ns.foldl step_dedup []) b).length = _)
  unfold step_dedup
  split
  · exact ⟨Nat.le_succ _, fun _ => rfl⟩
  · rename_i h
    refine ⟨by rw [List.length_append]; exact Nat.le_refl _, fun hb => absurd ?_ h⟩
    have := (in_fold b ns []).mpr (.inr hb)
    exact List.any_eq_true.mpr ⟨b, this, beq_iff_eq.mpr rfl⟩
variable {X : Cx}
/-- set(xs) made, then counted -/
theorem set_counted {pins : List (Addr × Obj)} {σ : L2.St} {H : Hp} {s : Shared} {l : Addr} {ns : List Int} {R : Value → Shared → Prop} {E : Value → Shared → Prop} (cal : A.handled = none) (J : Inv X pins σ H s) (hq : SqL X.K H l (ns.map V.int)) (small : ns.length ≤ 60)
    (go : ∀ (t : Addr) (h' : Heap) (tk : Nat), Inv X pins σ H { s with heap := h', toks := tk } → h'.SetOf (intKind X.prog X.w) t (fun k => (ns.foldl step_dedup []).any (· == k)) (many ns) → R (.ref t) { s with heap := h', toks := tk }) : wpAny (model X.prog X.w) A (call (.type "set") [.ref l]) R E s := by
  obtain ⟨us, rel, at_, _⟩ := J.list hq
  have size : us.toArray.size = ns.length := by rw [List.size_toArray, ← rel.length, List.length_map]
  have fits : us.toArray.size + 1 < scanBound := by
    rw [size]
    unfold scanBound
    omega
  refine call_set_list (ns := ns) cal at_.isList (by simpa using rel.ints) fits fun h' tk made old => ?_
  rw [size, firstMet_fold ns _ (Nat.le_refl _), List.take_length] at made
  exact go _ h' tk (J.kept fun b o e => old b o (Heap.lt_size e) e) made
def tLenSetD (K : PySem.W.Frag) (ta : TE) : TE := fun σ H Q => ta σ H fun x H1 => ∃ (l : Addr) (ns : List Int), x = .ref l ∧ SqL K H1 l (ns.map V.int) ∧ ns.length ≤ 60 ∧ Q (.int (many ns : Nat)) H1
theorem many_le (ns : List Int) : many ns ≤ ns.length := by
  have := firstMet_length_le (fun i => ns.getD i 0) ns.length
  rw [firstMet_fold ns _ (Nat.le_refl _), List.take_length] at this
  exact this
theorem pe_lenSetD {a : Expr} {ta : TE} {p p2 q pos : Pos} (cal : X.calm = true) (g1 : Gl X "len") (m1 : X.mg "len" = none) (g2 : Gl X "set") (m2 : X.mg "set" = none) (ha : PE X a ta)
    (st : starEach [a] X.env = (false, eval a X.env) :: starEach [] X.env := by rfl) : PE X (.Call (.Name "len" p) [.Call (.Name "set" p2) [a] [] q] [] pos) (tLenSetD X.K ta) :=
  ⟨fun pins s σ H Q I h => by
    have arg := ha.run pins s σ H _ I h
    refine Call_ (ld_blt I g1 m1 PySem.boot_len (PyProof.Rows.callWith_builtin1 (PyProof.Rows.args_cons (Call_ (ld_blt I g2 m2 PyProof.Rows.boot_set (PyProof.Rows.callWith_type1 (PyProof.Rows.args_cons (thn arg fun v s1 got => PyProof.Rows.args_nil ?_) st) st rfl))) rfl) rfl rfl))
    obtain ⟨x, H1, J, rx, l, ns, ex, hq, small, fin⟩ := got
    subst ex
    cases rx
    refine set_counted (J.ok.hd cal) J hq small fun t h' tk J2 made => PyProof.Rows.args_nil ?_
    obtain ⟨o, es, ep, tb, ho, hx, hd, _, _, _, hf, hn⟩ := made
    have le := many_le ns
    exact call_len_set ho hx hd hf (by rw [hn] <;> omega) ⟨.int (many ns : Nat), H1, J2.tok _, ⟨_, by rw [hn]⟩, fin⟩⟩
end
/-! ### numbers shuffled -/
def spShufI : Sp := fun vs H Q _ => ∃ (r l : Addr) (zs : List Int), vs = [.ref r, .ref l] ∧ Rnd H r ∧ l ≠ r ∧ H l = some (.lst (zs.map V.int)) ∧ zs.length ≤ 100 ∧ ∀ (q : Addr) (ys : List Int) (H' : Hp), H q = none → Fr [r] H H' → Rnd H' r → H' q = some (.lst (ys.map V.int)) → ys.Perm zs → Q (.ref q) H'
theorem perm_pop {a b : List Int} {z : Int} {i : Nat} (h : b[i]? = some z) : (a ++ [z] ++ b.eraseIdx i).Perm (a ++ b) := by
  have hi := List.getElem?_eq_some_iff.mp h
  obtain ⟨hl, he⟩ := hi
  have e : (z :: b.eraseIdx i).Perm b := by
    have e2 : b = b.take i ++ z :: b.drop (i + 1) := by rw [← he, List.getElem_cons_drop hl, List.take_append_drop]
    rw [List.eraseIdx_eq_take_drop_succ]
    exact List.perm_middle.symm.trans (List.Perm.of_eq e2.symm)
  rw [List.append_assoc]
  exact List.Perm.append_left a e
def lenAt (p : Addr) (H : Hp) : Nat := match H p with
  | some (.lst xs) => xs.length
  | _ => 0
theorem lenAt_of {p : Addr} {H : Hp} {xs : List V} (h : H p = some (.lst xs)) : lenAt p H = xs.length := by
  unfold lenAt
  rw [h]
theorem eqv_nilI (zs : List Int) : PyData.eqv (.list (zs.map PyData.int)) (.list []) = decide (zs = []) := by
  cases zs <;> simp [PyData.eqv, PyData.eqvAll]
theorem dpAll_ints {K : PySem.W.Frag} {H : Hp} : ∀ zs : List Int, DpAll K H (zs.map V.int) (zs.map PyData.int)
  | [] => .nil
  | z :: r => .cons (.int z) (dpAll_ints r)
theorem lay_ints : ∀ zs : List Int, PyData.canLayAll0 (zs.map PyData.int) = true ∧ PyData.depthAll (zs.map PyData.int) ≤ 1
  | [] => ⟨rfl, Nat.zero_le _⟩
  | z :: r => by
    obtain ⟨h1, h2⟩ := lay_ints r
    refine ⟨?_, ?_⟩
    · show (PyData.canLay0 (.int z) && PyData.canLayAll0 (r.map PyData.int)) = true
      rw [h1]
      rfl
    · show PyData.depthAll (PyData.int z :: r.map PyData.int) ≤ 1
      simp only [PyData.depthAll, PyData.depth]
      omega
theorem shapedL_ints (zs : List Int) : SeqAt.shaped (.list (zs.map PyData.int)) = true := by
  obtain ⟨h1, h2⟩ := lay_ints zs
  unfold SeqAt.shaped
  rw [Bool.and_eq_true, decide_eq_true_eq]
  refine ⟨by simp only [PyData.canLay0, h1], ?_⟩
  simp only [PyData.depth]
  omega
section
variable {P : Program} {w : World} {K : PySem.W.Frag} {mg : Str → Option Value} {base : Heap}
theorem ok_shuf (T : Gx K mg) : FnOk P w K mg base CX0 2 T.f__law_shuffled T.fd__law_shuffled ["_law_d", "_law_items"] spShufI := by
  have G__law_below : FnOk P w K mg base CX0 1 T.f__law_below T.fd__law_below ["_law_d", "_law_limit"] spBelow := ok_below T
  refine T.F__law_shuffled.ok sc__law_shuffled (fun vs H Q E h => ?_) (fun cdv A outer s H vs Q E hr h => ?_)
  · obtain ⟨r, l, zs, rfl, _⟩ := h
    rfl
  · obtain ⟨r, l, zs, rfl, hR, lr, hl, hz, k⟩ := h
    refine ⟨_, (pss_cons (ps_set (i := 2) sc__law_shuffled.nd rfl (.inl rfl) (pe_callTy call_list_of (by rfl) T.z_list (by decide +kernel) (pa_cons (pv 1) pa_nil)))
      (pss_cons (ps_set (i := 3) sc__law_shuffled.nd rfl (.inl rfl) (pe_lst pa_nil))
      (pss_cons (ps_while PassesOwn.never (pt_cmpR (op_neD hr.units) (pv 2) (pe_lst pa_nil) (nomark _)) (pss_one (ps_expr (pe_bm PySem.F.plainAttrs_list PySem.F.slot_list_append PySem.F.type_list_append mt_append (pv 3) (pa_cons (pe_bm PySem.F.plainAttrs_list PySem.F.slot_list_pop PySem.F.type_list_pop mt_popAt (pv 2) (pa_cons (pe_call G__law_below (hr.mono (by first | decide | omega)) (by rfl) T.g__law_below T.F__law_below.kp (b__law_below T) .nil pass0 (pa_cons (pv 0) (pa_cons (pe_callB call_len_seq (by rfl) T.z_len (by decide +kernel) (pa_cons (pv 2) pa_nil)) pa_nil))) pa_nil)) pa_nil)))))
      (pss_one (ps_ret (pv 3)))))), ?_⟩
    refine ⟨_, rfl, l, _, rfl, .inl (SqL.of hl), fun p hp => ?_⟩
    refine ⟨sz_le (by simp), fun q hq => ?_⟩
    obtain ⟨hq1, qp⟩ := free_upd hq
    have pr : p ≠ r := fun e => by
      obtain ⟨a, b, ns, e2⟩ := hR
      rw [e, e2] at hp
      cases hp
    have qr : q ≠ r := fun e => by
      obtain ⟨a, b, ns, e2⟩ := hR
      rw [e, e2] at hq1
      cases hq1
    refine while_by (fun σ H' => σ = [some (.ref r), some (.ref l), some (.ref p), some (.ref q)] ∧ Fr [r] H H' ∧ Rnd H' r ∧ ∃ a b : List Int, H' p = some (.lst (b.map V.int)) ∧ H' q = some (.lst (a.map V.int)) ∧ (a ++ b).Perm zs) (fun σ H' => lenAt p H')
      ⟨rfl, (Fr.new hp).trans (Fr.new hq), (hR.keep (S := []) (Fr.new hp) (by simp)).keep (S := []) (Fr.new hq) (by simp), [], zs, (upd_ne qp.symm).trans upd_same, upd_same, List.Perm.refl _⟩ ?_ ?_
    · rintro σ H1 ⟨rfl, f1, R1, a, b, e1, e2, pm⟩
      have hlen : a.length + b.length = zs.length := by rw [← pm.length_eq, List.length_append]
      refine ⟨_, rfl, sz_le (by simp), fun e he => ?_⟩
      have ep := ne_of_none e1 he
      have eq := ne_of_none e2 he
      have R1' := R1.keep (S := []) (Fr.new (o := .lst []) he) (by simp)
      refine ⟨.list (b.map PyData.int), .list [], .lst (SqL.of ((upd_ne ep).trans e1)) (dpAll_ints b), .lst (SqL.of upd_same) .nil, shapedL_ints b, by decide +kernel, _, rfl, ?_⟩
      rw [eqv_nilI]
      cases b with
      | nil =>
        refine iteF ?_
        refine ⟨_, rfl, k q a _ hq1 (f1.trans (Fr.new he)) R1' ((upd_ne eq).trans e2) (by simpa using pm)⟩
      | cons z0 b0 =>
        refine iteT ?_
        have e1' : (upd H1 e (.lst [])) p = some (.lst (((z0 :: b0).map V.int))) := (upd_ne ep).trans e1
        have e2' : (upd H1 e (.lst [])) q = some (.lst (a.map V.int)) := (upd_ne eq).trans e2
        refine ⟨_, rfl, .inl ⟨rfl, _, SqL.of e2'⟩, _, rfl, .inl ⟨rfl, _, SqL.of e1'⟩, _, rfl, _, rfl, p, _, rfl, .inl (SqL.of e1'), r, (((z0 :: b0).map V.int)).length, rfl, R1', by rw [List.length_map]; simp, by rw [List.length_map]; simp at hlen ⊢; omega, fun i H2 hi f2 R2 => ?_⟩
        have e1'' := f2 _ _ e1' (by simpa using pr)
        have e2'' := f2 _ _ e2' (by simpa using qr)
        rw [List.length_map] at hi
        obtain ⟨y, hy⟩ : ∃ y, (z0 :: b0)[i]? = some y := ⟨_, List.getElem?_eq_getElem hi⟩
        have hy' : (((z0 :: b0).map V.int))[i]? = some (.int y) := by
          skip
          rw [List.getElem?_map, hy]
          rfl
        refine ⟨p, _, (i : Int), i, V.int y, rfl, rfl, e1'', by omega, by simp at hlen hi; omega, ?_, hy', ?_⟩
        · unfold seqIndex?
          rw [List.length_map]
          simp at hi ⊢
          omega
        · have ee : (((z0 :: b0).map V.int)).eraseIdx i = ((z0 :: b0).eraseIdx i).map V.int := by
            skip
            rw [List.eraseIdx_eq_take_drop_succ, List.eraseIdx_eq_take_drop_succ, List.map_append, List.map_take, List.map_drop]
          rw [ee]
          refine ⟨q, _, _, rfl, rfl, (upd_ne qp).trans e2'', ?_, ⟨rfl, ?_, ?_, a ++ [y], (z0 :: b0).eraseIdx i, (upd_ne qp.symm).trans upd_same, ?_, (perm_pop hy).trans pm⟩, ?_⟩
          · rw [List.length_map]
            exact sz_lt (by omega)
          · exact fun x o ex nx => by
              have np : x ≠ p := ne_of_none ex hp
              have nq : x ≠ q := ne_of_none ex hq1
              rw [upd_ne nq, upd_ne np]
              exact ((f1.trans (Fr.new he)).trans f2) x o ex nx
          · obtain ⟨c, d, ns, e3⟩ := R2
            exact ⟨c, d, ns, by rw [upd_ne qr.symm, upd_ne pr.symm]; exact e3⟩
          · rw [upd_same]
            skip
            rw [List.map_append]
            rfl
          · rw [lenAt_of ((upd_ne qp.symm).trans upd_same), lenAt_of e1, List.length_map, List.length_map, List.length_eraseIdx, if_pos hi]
            simp
    · intro σ H Q Q' hq h
      obtain ⟨v, e1, h1, h2⟩ := h
      refine ⟨v, e1, h1, fun p hp => ?_⟩
      obtain ⟨d, e, a1, a2, a3, a4, c, a5, a6⟩ := h2 p hp
      exact ⟨d, e, a1, a2, a3, a4, c, a5, hq _ _ a6⟩
end
/-! ### the most hits there can be, and their number -/
theorem top_of {Pr : Nat → Prop} {B : Nat} (hB : ∀ h, Pr h → h ≤ B) : ∀ (n h0 : Nat), B - h0 = n → Pr h0 → ∃ g, Pr g ∧ ∀ h, Pr h → h ≤ g
  | 0, h0, e, p => ⟨h0, p, fun h q => by
    have := hB h q
    omega⟩
  | n + 1, h0, e, p => by
    by_cases hx : ∃ h, h0 < h ∧ Pr h
    · obtain ⟨h, h1, h2⟩ := hx
      by_cases hb : B - h ≤ n
      · exact (fun m (hm : B - h = m) => top_of hB m h hm h2) _ rfl
      · omega
    · exact ⟨h0, p, fun h q => Nat.le_of_not_lt fun hh => hx ⟨h, hh, q⟩⟩
termination_by n => n
theorem ach_some (k : Nat) : ∀ (s K : List Int), ∃ h, Ach k K s h
  | [], K => ⟨0, .nil _⟩
  | b :: s, K => by
    obtain ⟨h, a⟩ := ach_some k s []
    exact ⟨_, .cons K [] b s h (fun x hx => by cases hx) List.nodup_nil (Nat.zero_le _) a⟩
theorem ach_le {k : Nat} {K s : List Int} {h : Nat} (a : Ach k K s h) : h ≤ s.length := by
  induction a with
  | nil => exact Nat.le_refl _
  | cons K K' b s h _ _ _ _ ih =>
    have := hitN_le K b
    rw [List.length_cons]
    omega
theorem most_some (k : Nat) (s : List Int) : ∃ g, Most k s g := by
  obtain ⟨h, a⟩ := ach_some k s []
  exact top_of (Pr := fun h => Ach k [] s h) (fun h b => ach_le b) _ h rfl a
/-- some reads more -/
theorem most_more {k : Nat} (r : List Int) : ∀ {s : List Int} {g h : Nat}, Most k s g → Most k (s ++ r) h → g ≤ h ∧ h ≤ g + r.length := by
  induction r with
  | nil =>
    intro s g h a c
    rw [List.append_nil] at c
    rw [a.uniq c]
    exact ⟨Nat.le_refl _, Nat.le_refl _⟩
  | cons b r ih =>
    intro s g h a c
    obtain ⟨m, hm⟩ := most_some k (s ++ [b])
    obtain ⟨e1, e2, _⟩ := a.step hm
    rw [List.append_cons] at c
    obtain ⟨e3, e4⟩ := ih hm c
    rw [List.length_cons]
    exact ⟨by omega, by omega⟩
/-! ### the law -/
def spLaw (K : PySem.W.Frag) : Sp := fun vs H Q _ => ∃ (a : Addr) (ns : List Int), vs = [.ref a] ∧ SqL K H a (ns.map V.int) ∧ ns.length ≤ 63 ∧ ∀ H', Q (.bl true) H'
theorem rnd_out {r p : Addr} {H : Hp} (h : Rnd H r) (n : H p = none) : p ≠ r := fun e => by
  obtain ⟨a, b, ns, e2⟩ := h
  rw [e, e2] at n
  cases n
theorem rnd_put {r D : Addr} {H : Hp} {o : HO} (h : Rnd H r) (n : D ≠ r) : Rnd (upd H D o) r := h.keep (S := [D]) (Fr.put (List.mem_singleton.mpr rfl)) (by simpa using n.symm)
theorem good_take {xs : List Int} (h : xs.length = 14) (g : ∀ x ∈ xs, 0 ≤ x ∧ x < 10) (i : Nat) : GoodR (xs.take i) := ⟨by rw [List.length_take]; omega, fun x hx => by
  have := g x (List.mem_of_mem_take hx)
  omega⟩
theorem cut_to {xs : List V} {i : Nat} (h : i ≤ xs.length) : cutV xs none (some (i : Int)) = xs.take i := by
  unfold cutV
  rw [HT.sIx_none, HT.sIx_nat, Nat.min_eq_left h]
  simp
section
variable {P : Program} {w : World} {K : PySem.W.Frag} {mg : Str → Option Value} {base : Heap}
theorem ok_law {f : Addr} {fd : FuncData} (F : L2.Fun K "law" "law" s_law f fd) (T : Gx K mg) : FnOk P w K mg base CX0 12 f fd ["_law_script"] (spLaw K) := by
  have G__law_random : FnOk P w K mg base CX0 1 T.f__law_random T.fd__law_random ["_law_script", "_law_salt"] (spRandom K) := ok_random T
  have G__law_below : FnOk P w K mg base CX0 1 T.f__law_below T.fd__law_below ["_law_d", "_law_limit"] spBelow := ok_below T
  have G_fewest_misses : FnOk P w K mg base CX0 6 T.f_fewest_misses T.fd_fewest_misses ["slots", "blocks"] spFew := ok_few T
  have G_judge_plan : FnOk P w K mg base CX0 5 T.f_judge_plan T.fd_judge_plan ["slots", "blocks", "plan"] spJudge := ok_judge T
  have G__law_shuffled : FnOk P w K mg base CX0 2 T.f__law_shuffled T.fd__law_shuffled ["_law_d", "_law_items"] spShufI := ok_shuf T
  refine F.ok sc_law (fun vs H Q E h => ?_) (fun cdv A outer s H vs Q E hr h => ?_)
  · obtain ⟨a, ns, rfl, _⟩ := h
    rfl
  · obtain ⟨a, ns, rfl, hS, hlen, k⟩ := h
    refine ⟨_, (pss_cons (ps_set (i := 1) sc_law.nd rfl (.inr rfl) (pe_call G__law_random (hr.mono (by first | decide | omega)) (by rfl) T.g__law_random T.F__law_random.kp (b__law_random T) .nil pass0 (pa_cons (pv 0) (pa_cons pe_int pa_nil))))
      (pss_cons (ps_asg (pe_tup (pa_cons (pe_op op_add pe_int (pe_call G__law_below (hr.mono (by first | decide | omega)) (by rfl) T.g__law_below T.F__law_below.kp (b__law_below T) .nil pass0 (pa_cons (pv 1) (pa_cons pe_int pa_nil)))) (pa_cons (pe_op op_add pe_int (pe_call G__law_below (hr.mono (by first | decide | omega)) (by rfl) T.g__law_below T.F__law_below.kp (b__law_below T) .nil pass0 (pa_cons (pv 1) (pa_cons pe_int pa_nil)))) pa_nil))) (pg_tup (by rfl) (pgs_cons (pg_name (i := 2) sc_law.nd rfl (.inl rfl)) (pgs_cons (pg_name (i := 3) sc_law.nd rfl (.inr rfl)) pgs_nil))))
      (pss_cons (ps_par (i := 4) (j := 5) (by rfl) sc_law.nd rfl rfl (by decide) rfl rfl (pa_cons (pe_lc (own := [("_law_k", 10)]) (g := gName 10) rfl sc_law.nd (pi_range1 (by rfl) T.z_range (pa_cons pe_int pa_nil)) (blkOk_by (N := ["_law_script", "_law_d", "_law_slots", "_law_few", "_law_blocks", "_law_before", "_law_length", "_law_misses", "_law_plan", "_law_names", "_law_k", "_law_block"]) (sc := defScope s_law) (by decide +kernel)) (fun _ _ _ _ _ => pg_name (i := 10) sc_law.nd rfl (.inl rfl)) (fun _ _ _ _ _ => pts_nil) (fun _ _ _ _ _ => (pe_call G__law_below (hr.mono (by first | decide | omega)) (by rfl) T.g__law_below T.F__law_below.kp (b__law_below T) .nil pass0 (pa_cons (pv 1) (pa_cons (pv 3) pa_nil))))) (pa_cons pe_int pa_nil)) (by rfl))
      (pss_cons (ps_for PassesOwn.never rfl (pi_range1 (by rfl) T.z_range (pa_cons pe_int pa_nil)) (pg_name (i := 6) sc_law.nd rfl (.inl rfl)) (C8.pss_cut (ps_asg (pe_call G_fewest_misses (hr.mono (by first | decide | omega)) (by rfl) T.g_fewest_misses T.F_fewest_misses.kp (b_fewest_misses T) .nil pass0 (pa_cons (pv 2) (pa_cons (pe_slice sl_list (pv 4) po_none (po_some (pv 6))) pa_nil))) (pg_tup (by rfl) (pgs_cons (pg_name (i := 7) sc_law.nd rfl (.inl rfl)) (pgs_cons (pg_name (i := 8) sc_law.nd rfl (.inl rfl)) pgs_nil))))
      (C8.pss_cut (ps_if (PW.pt (pw_or (pt_not (pt_chain op_le op_le pe_int (pe_op op_sub (pv 7) (pv 5)) pe_int)) (pw_or1 (pt_cmpR op_ne (pe_call G_judge_plan (hr.mono (by first | decide | omega)) (by rfl) T.g_judge_plan T.F_judge_plan.kp (b_judge_plan T) .nil pass0 (pa_cons (pv 2) (pa_cons (pe_slice sl_list (pv 4) po_none (po_some (pv 6))) (pa_cons (pv 8) pa_nil)))) (pv 7) (nomark _))))) (pss_one (ps_ret pe_bl)) pss_nil)
      (C8.pss_cut (ps_if (pt_cmpR op_ne (pe_ix ix_tup (pe_call G_fewest_misses (hr.mono (by first | decide | omega)) (by rfl) T.g_fewest_misses T.F_fewest_misses.kp (b_fewest_misses T) .nil pass0 (pa_cons (pv 2) (pa_cons (pe_revL (pe_slice sl_list (pv 4) po_none (po_some (pv 6)))) pa_nil))) pe_int (fun _ _ => rfl)) (pv 7) (nomark _)) (pss_one (ps_ret pe_bl)) pss_nil)
      (C8.pss_cut (ps_if (PW.pt (pw_and (pt_cmpR op_gt (pv 6) pe_int (nomark _)) (pw_and (pt_cmpR op_notIn_seq (pe_ix ix_list (pv 4) (pe_op op_sub (pv 6) pe_int) (fun _ _ => rfl)) (pe_slice sl_list (pv 4) po_none (po_some (pe_op op_sub (pv 6) pe_int))) (by rfl)) (pw_and1 (pt_cmpR op_ne (pv 7) (pe_op op_add (pv 5) pe_int) (nomark _)))))) (pss_one (ps_ret pe_bl)) pss_nil)
      (C8.pss_cut (ps_if (PW.pt (pw_or (pt_cmpR op_lt (pv 7) (pe_lenSetD rfl (by rfl) T.z_len (by rfl) T.z_set (pe_slice sl_list (pv 4) po_none (po_some (pv 6)))) (nomark _)) (pw_or1 (pt_cmpR op_gt (pv 7) (pv 6) (nomark _))))) (pss_one (ps_ret pe_bl)) pss_nil)
      (pss_one (ps_set (i := 5) sc_law.nd rfl (.inl rfl) (pv 7)))))))))
      (pss_cons (ps_set (i := 9) sc_law.nd rfl (.inr rfl) (pe_call G__law_shuffled (hr.mono (by first | decide | omega)) (by rfl) T.g__law_shuffled T.F__law_shuffled.kp (b__law_shuffled T) .nil pass0 (pa_cons (pv 1) (pa_cons (pe_listRg rfl (by rfl) T.z_list (prg_1 (by rfl) T.z_range pe_int)) pa_nil))))
      (pss_cons (ps_set (i := 7) sc_law.nd rfl (.inl rfl) (pe_ix ix_tup (pe_call G_fewest_misses (hr.mono (by first | decide | omega)) (by rfl) T.g_fewest_misses T.F_fewest_misses.kp (b_fewest_misses T) .nil pass0 (pa_cons (pv 2) (pa_cons (pv 4) pa_nil))) pe_int (fun _ _ => rfl)))
      (pss_cons (ps_if (pt_not (pt_chain op_le op_le (pv 5) (pv 7) (pe_op op_add (pv 5) pe_int))) (pss_one (ps_ret pe_bl)) pss_nil)
      (pss_one (ps_ret (pe_cmpR op_eq (pe_ix ix_tup (pe_call G_fewest_misses (hr.mono (by first | decide | omega)) (by rfl) T.g_fewest_misses T.F_fewest_misses.kp (b_fewest_misses T) .nil pass0 (pa_cons (pv 2) (pa_cons (pe_lc (own := [("_law_block", 11)]) (g := gName 11) rfl sc_law.nd (pi_list (pv 4)) (blkOk_by (N := ["_law_script", "_law_d", "_law_slots", "_law_few", "_law_blocks", "_law_before", "_law_length", "_law_misses", "_law_plan", "_law_names", "_law_k", "_law_block"]) (sc := defScope s_law) (by decide +kernel)) (fun _ _ _ _ _ => pg_name (i := 11) sc_law.nd rfl (.inl rfl)) (fun _ _ _ _ _ => pts_nil) (fun _ _ _ _ _ => (pe_ix (ix_listK (K := K) rfl) (pv 9) (pv 11) (fun _ _ => rfl)))) pa_nil))) pe_int (fun _ _ => rfl)) (pv 7) (nomark _))))))))))), ?_⟩
    refine ⟨_, rfl, a, 102, ns, rfl, hS, hlen, fun r H1 r0 f1 R1 => ?_⟩
    refine ⟨_, rfl, r, 8, rfl, R1, by decide, by decide, fun x H2 hx f2 R2 => ?_⟩
    refine ⟨_, _, rfl, rfl, _, rfl, r, 10, rfl, R2, by decide, by decide, fun y H3 hy f3 R3 => ?_⟩
    refine ⟨_, _, rfl, rfl, sz_le (by simp), fun t ht => ⟨t, _, rfl, SqT.of upd_same, rfl, _, _, rfl, _, _, rfl, rfl, ?_⟩⟩
    have R4 := R3.keep (S := []) (Fr.new (o := .tup [.int (1 + (x : Int)), .int (1 + (y : Int))]) ht) (by simp)
    refine ⟨14, rfl, by decide, by decide, fun D hD => ?_⟩
    have hDr := rnd_out R4 hD
    refine lc_range (lo := 0) (n := 14) (fun j H' => Rnd H' r ∧ ∃ xs : List Int, H' D = some (.lst (xs.map V.int)) ∧ xs.length = j ∧ ∀ z ∈ xs, 0 ≤ z ∧ z < 10) ⟨R4.keep (S := []) (Fr.new hD) (by simp), [], upd_same, rfl, fun z hz => by cases hz⟩ ?_ ?_
    · rintro j H5 hj ⟨R5, ds, e5, l5, g5⟩
      refine ⟨rfl, _, rfl, _, rfl, r, 1 + y, by rw [show ((1 + y : Nat) : Int) = 1 + (y : Int) by omega]; rfl, R5, by omega, by omega, fun z H6 hz f6 R6 => ?_⟩
      have e6 := f6 _ _ e5 (by simpa using hDr)
      refine ⟨_, e6, by rw [List.length_map, l5]; exact sz_lt (by omega), rnd_put R6 hDr, ds ++ [(z : Int)], ?_, by rw [List.length_append, l5]; rfl, ?_⟩
      · rw [upd_same, List.map_append]
        rfl
      · intro u hu
        rcases List.mem_append.mp hu with h | h
        · exact g5 u h
        · rw [List.mem_singleton.mp h]
          exact ⟨by omega, by omega⟩
    · rintro H5 ⟨R5, xs, e5, l5, g5⟩
      refine ⟨_, _, rfl, ?_⟩
      clear R1 R2 R3 R4 f1 f2 f3 hS r0
      obtain ⟨kn, hkn⟩ : ∃ kn : Nat, ((kn : Nat) : Int) = 1 + (x : Int) := ⟨1 + x, by omega⟩
      have hk1 : 1 ≤ kn := by omega
      have hk8 : kn ≤ 8 := by omega
      obtain ⟨few, hfew⟩ : ∃ few : Int, few = 1 + (y : Int) := ⟨_, rfl⟩
      refine ⟨10, rfl, by decide, by decide, for_range (lo := 0) (n := 10) (fun i σ' H' => ∃ (g : Nat) (b : Int) (v6 v7 v8 : Option V), σ' = [some (.ref a), some (.ref r), some (.int (kn : Int)), some (.int few), some (.ref D), some (.int b), v6, v7, v8, none, none, none] ∧ Rnd H' r ∧ H' D = some (.lst (xs.map V.int)) ∧ Most kn (xs.take (i - 1)) g ∧ b + (g : Int) = ((i - 1 : Nat) : Int) ∧ (many (xs.take (i - 1)) : Int) ≤ b) ?_ ?_ ?_⟩
      · obtain ⟨g0, m0⟩ := most_some kn []
        have := ach_le m0.1
        have e0 : g0 = 0 := by simpa using this
        subst e0
        exact ⟨0, 0, none, none, none, by rw [hkn, hfew]; rfl, R5, e5, m0, rfl, by show ((many (xs.take 0) : Nat) : Int) ≤ 0; rw [List.take_zero]; decide⟩
      · rintro i σ' H7 hi ⟨g, b, v6, v7, v8, rfl, R7, e7, mo, hb, hmany⟩
        have hil : i ≤ xs.length := by omega
        have hxi : xs.take i = if i = 0 then [] else xs.take (i - 1) ++ [xs.getD (i - 1) 0] := by
          by_cases h0 : i = 0
          · rw [if_pos h0, h0, List.take_zero]
          · rw [if_neg h0]
            have hlt : i - 1 < xs.length := by omega
            have e := List.take_succ_eq_append_getElem hlt
            rw [show i - 1 + 1 = i by omega] at e
            rw [e, List.getD_eq_getElem?_getD, List.getElem?_eq_getElem hlt]
            rfl
        -- misses, plan
        refine ⟨fun σ' H' => ∃ (pl : Addr) (l : List (Int × Ent)) (g' : Nat), σ' = [some (.ref a), some (.ref r), some (.int (kn : Int)), some (.int few), some (.ref D), some (.int b), some (.int (0 + (i : Int))), some (.int (missOf [] l)), some (.ref pl), none, none, none] ∧ Rnd H' r ∧ H' D = some (.lst (xs.map V.int)) ∧ l.map (·.1) = xs.take i ∧ Valid (kn : Int) l ∧ Most kn (xs.take i) g' ∧ missOf [] l + (g' : Int) = (i : Int) ∧ H' pl = some (.lst (l.map fun q => q.2.v)), ?_, ?_⟩
        · refine ⟨_, rfl, _, rfl, _, rfl, ((0 : Int) + (i : Int)), rfl, D, _, rfl, SqL.of e7, fun p1 h1 => ?_⟩
          rw [Int.zero_add, cut_to (by rw [List.length_map]; exact hil), ← List.map_take]
          have F1 : Fr [] H7 (upd H7 p1 (.lst ((xs.take i).map V.int))) := Fr.new h1
          refine ⟨kn, p1, xs.take i, rfl, hk1, hk8, upd_same, good_take l5 g5 i, fun t p l g' H8 f8 hl hv mo' hm et ep => ?_⟩
          rw [List.length_take, Nat.min_eq_left hil] at hm
          have F := F1.trans f8
          refine ⟨t, _, rfl, SqT.of et, rfl, _, _, rfl, _, _, rfl, rfl, ?_⟩
          exact ⟨p, l, g', rfl, R7.keep F (by simp), F _ _ e7 (by simp), hl, hv, mo', hm, ep⟩
        clear R7 e7
        rintro _ H7 ⟨pl, l, g', rfl, R7, e7, hl, hv, mo', hm, ep⟩
        have diff : missOf [] l = b ∨ missOf [] l = b + 1 := by
          by_cases h0 : i = 0
          · subst h0
            have h1 := ach_le mo.1
            have h2 := ach_le mo'.1
            simp only [Nat.zero_sub, List.take_zero, List.length_nil] at h1 h2 hb
            left
            omega
          · rw [if_neg h0] at hxi
            have mo2 := mo'
            rw [hxi] at mo2
            obtain ⟨s1, s2, _⟩ := mo.step mo2
            have : ((i - 1 : Nat) : Int) = (i : Int) - 1 := by omega
            by_cases hgg : g' = g
            · right; omega
            · left; omega
        -- judged
        refine ⟨fun σ' H' => ∃ pl : Addr, σ' = [some (.ref a), some (.ref r), some (.int (kn : Int)), some (.int few), some (.ref D), some (.int b), some (.int (0 + (i : Int))), some (.int (missOf [] l)), some (.ref pl), none, none, none] ∧ Rnd H' r ∧ H' D = some (.lst (xs.map V.int)), ?_, ?_⟩
        · refine ⟨_, rfl, _, rfl, _, _, rfl, rfl, _, _, rfl, rfl, _, rfl, ?_⟩
          rw [decide_eq_true (show (0 : Int) ≤ missOf [] l - b by omega)]
          refine iteT ⟨_, _, rfl, rfl, _, rfl, ?_⟩
          rw [decide_eq_true (show missOf [] l - b ≤ 1 by omega)]
          refine iteF ?_
          refine ⟨_, rfl, _, rfl, _, rfl, ((0 : Int) + (i : Int)), rfl, D, _, rfl, SqL.of e7, fun p1 h1 => ?_⟩
          rw [Int.zero_add, cut_to (by rw [List.length_map]; exact hil), ← List.map_take]
          have F1 : Fr [] H7 (upd H7 p1 (.lst ((xs.take i).map V.int))) := Fr.new h1
          refine ⟨_, rfl, (kn : Int), p1, pl, l, rfl, by omega, by omega, by rw [hl]; exact upd_same, F1 _ _ ep (by simp), by rw [hl]; exact good_take l5 g5 i, hv, fun H8 f8 => ?_⟩
          have F := F1.trans f8
          refine ⟨_, rfl, rfl, _, rfl, ?_⟩
          refine iteFb (by simp) ⟨pl, rfl, R7.keep F (by simp), F _ _ e7 (by simp)⟩
        clear R7 e7 ep
        clear pl
        rintro _ H7 ⟨pl, rfl, R7, e7⟩
        -- backward
        refine ⟨fun σ' H' => σ' = [some (.ref a), some (.ref r), some (.int (kn : Int)), some (.int few), some (.ref D), some (.int b), some (.int (0 + (i : Int))), some (.int (missOf [] l)), some (.ref pl), none, none, none] ∧ Rnd H' r ∧ H' D = some (.lst (xs.map V.int)), ?_, ?_⟩
        · refine ⟨_, rfl, _, rfl, _, rfl, ((0 : Int) + (i : Int)), rfl, D, _, rfl, SqL.of e7, fun p1 h1 => ?_⟩
          rw [Int.zero_add, cut_to (by rw [List.length_map]; exact hil), ← List.map_take]
          refine ⟨p1, _, rfl, SqL.of upd_same, fun p2 h2 => ?_⟩
          rw [← List.map_reverse]
          have F1 := (Fr.new (S := []) (o := .lst ((xs.take i).map V.int)) h1).trans (Fr.new (o := .lst ((xs.take i).reverse.map V.int)) h2)
          have gr := good_take l5 g5 i
          refine ⟨kn, p2, (xs.take i).reverse, rfl, hk1, hk8, upd_same, ⟨by rw [List.length_reverse]; exact gr.1, fun z hz => gr.2 z (List.mem_reverse.mp hz)⟩, fun t p l2 g2 H8 f8 hl2 hv2 mo2 hm2 et ep2 => ?_⟩
          rw [List.length_reverse, List.length_take, Nat.min_eq_left hil] at hm2
          have eg := mo2.uniq mo'.rev
          have F := F1.trans f8
          refine ⟨t, _, (0 : Int), _, rfl, rfl, SqT.of et, atI_nat (j := 0) rfl, ?_⟩
          refine ⟨_, rfl, rfl, _, rfl, ?_⟩
          have em : missOf [] l2 = missOf [] l := by omega
          rw [em]
          refine iteFb (by simp) ⟨rfl, R7.keep F (by simp), F _ _ e7 (by simp)⟩
        clear R7 e7
        rintro _ H7 ⟨rfl, R7, e7⟩
        have more : i ≠ 0 → xs.getD (i - 1) 0 ∉ xs.take (i - 1) → missOf [] l = b + 1 := fun h0 hn => by
          rw [if_neg h0] at hxi
          have mo2 := mo'
          rw [hxi] at mo2
          obtain ⟨_, _, s3⟩ := mo.step mo2
          have := s3 hn
          have : ((i - 1 : Nat) : Int) = (i : Int) - 1 := by omega
          omega
        -- a new block
        refine ⟨fun σ' H' => σ' = [some (.ref a), some (.ref r), some (.int (kn : Int)), some (.int few), some (.ref D), some (.int b), some (.int (0 + (i : Int))), some (.int (missOf [] l)), some (.ref pl), none, none, none] ∧ Rnd H' r ∧ H' D = some (.lst (xs.map V.int)), ?_, ?_⟩
        · refine ⟨_, rfl, _, _, rfl, rfl, _, rfl, ?_⟩
          by_cases h0 : i = 0
          · rw [decide_eq_false (show ¬ ((0 : Int) + (i : Int) > 0) by omega)]
            exact iteF ⟨rfl, R7, e7⟩
          · rw [decide_eq_true (show (0 : Int) + (i : Int) > 0 by omega)]
            have ei : (0 : Int) + (i : Int) - 1 = ((i - 1 : Nat) : Int) := by omega
            have hlt : i - 1 < xs.length := by omega
            have hx0 : xs[i - 1]? = some (xs.getD (i - 1) 0) := by
              rw [List.getD_eq_getElem?_getD, List.getElem?_eq_getElem hlt]
              rfl
            refine iteT ⟨_, rfl, _, rfl, _, _, rfl, rfl, D, _, _, .int (xs.getD (i - 1) 0), rfl, rfl, SqL.of e7, (by rw [ei]; exact atI_nat (by rw [List.getElem?_map, hx0]; rfl)), ?_⟩
            refine ⟨_, rfl, _, rfl, _, _, rfl, rfl, ((0 : Int) + (i : Int) - 1), rfl, D, _, rfl, SqL.of e7, fun p1 h1 => ?_⟩
            rw [ei, cut_to (by rw [List.length_map]; omega), ← List.map_take]
            have F : Fr [] H7 (upd H7 p1 (.lst ((xs.take (i - 1)).map V.int))) := Fr.new h1
            refine ⟨p1, _, rfl, .inl (SqL.of upd_same), rfl, flat_ints _, _, rfl, ?_⟩
            rw [inV_int]
            by_cases hn : xs.getD (i - 1) 0 ∈ xs.take (i - 1)
            · rw [decide_eq_true hn]
              exact iteF ⟨rfl, R7.keep F (by simp), F _ _ e7 (by simp)⟩
            · rw [decide_eq_false hn]
              refine iteT ⟨_, rfl, _, rfl, _, _, rfl, rfl, rfl, _, rfl, ?_⟩
              rw [more h0 hn]
              refine iteFb (by simp) ⟨by rw [← more h0 hn], R7.keep F (by simp), F _ _ e7 (by simp)⟩
        clear R7 e7
        rintro _ H7 ⟨rfl, R7, e7⟩
        have hm2 : (many (xs.take i) : Int) ≤ missOf [] l := by
          by_cases h0 : i = 0
          · rw [h0, List.take_zero]
            have := ach_le mo'.1
            rw [h0, List.take_zero] at this
            rw [h0] at hm
            have e0 : many [] = 0 := rfl
            rw [e0]
            simp only [List.length_nil] at this
            omega
          · have h1 := many_snoc (xs.take (i - 1)) (xs.getD (i - 1) 0)
            have hx2 := hxi
            rw [if_neg h0] at hx2
            rw [← hx2] at h1
            by_cases hn : xs.getD (i - 1) 0 ∈ xs.take (i - 1)
            · have := h1.2 hn
              omega
            · have := more h0 hn
              omega
        -- the different blocks
        refine ⟨fun σ' H' => σ' = [some (.ref a), some (.ref r), some (.int (kn : Int)), some (.int few), some (.ref D), some (.int b), some (.int (0 + (i : Int))), some (.int (missOf [] l)), some (.ref pl), none, none, none] ∧ Rnd H' r ∧ H' D = some (.lst (xs.map V.int)), ?_, ?_⟩
        · refine ⟨_, rfl, _, rfl, _, rfl, ((0 : Int) + (i : Int)), rfl, D, _, rfl, SqL.of e7, fun p1 h1 => ?_⟩
          rw [Int.zero_add, cut_to (by rw [List.length_map]; exact hil), ← List.map_take]
          have F : Fr [] H7 (upd H7 p1 (.lst ((xs.take i).map V.int))) := Fr.new h1
          refine ⟨p1, xs.take i, rfl, SqL.of upd_same, by rw [List.length_take]; omega, _, _, rfl, rfl, _, rfl, ?_⟩
          rw [decide_eq_false (show ¬ (missOf [] l < ((many (xs.take i) : Nat) : Int)) by omega)]
          refine iteF ⟨_, rfl, _, rfl, _, _, rfl, rfl, _, rfl, ?_⟩
          rw [decide_eq_false (by omega)]
          exact iteF ⟨rfl, R7.keep F (by simp), F _ _ e7 (by simp)⟩
        clear R7 e7
        rintro _ H7 ⟨rfl, R7, e7⟩
        exact ⟨_, rfl, g', missOf [] l, _, _, _, rfl, R7, e7, by rw [Nat.add_sub_cancel]; exact mo', by rw [Nat.add_sub_cancel]; exact hm, by rw [Nat.add_sub_cancel]; exact hm2⟩
      · rintro σ' H7 ⟨g, b, v6, v7, v8, rfl, R7, e7, mo, hb, hmany⟩
        have mo9 : Most kn (xs.take 9) g := mo
        have hb9 : b + (g : Int) = 9 := hb
        refine ⟨_, rfl, 16, rfl, RgOk.of_le (by decide) (by decide) (by decide) (by decide), fun q hq => ?_⟩
        have R8 := R7.keep (S := []) (Fr.new (o := .lst (rgV 0 16)) hq) (by simp)
        refine ⟨r, q, (List.range 16).map (fun n : Nat => (n : Int)), rfl, R8, rnd_out R7 hq, by rw [upd_same]; rfl, by decide, fun q2 ys H8 hq2 f8 R9 eq2 pm => ?_⟩
        have hDr2 : D ≠ r := hDr
        have e8 := f8 _ _ ((upd_ne (o := .lst (rgV 0 16)) (ne_of_none e7 hq)).trans e7) (by simpa using hDr2)
        refine ⟨_, rfl, _, rfl, kn, D, xs, rfl, hk1, hk8, e8, ⟨by omega, fun z hz => by have := g5 z hz; omega⟩, fun t p l g2 H9 f9 hl hv mo2 hm et ep => ?_⟩
        have e9 := f9 _ _ e8 (by simp)
        have q9 := f9 _ _ eq2 (by simp)
        refine ⟨t, _, (0 : Int), _, rfl, rfl, SqT.of et, atI_nat (j := 0) rfl, ?_⟩
        have hsplit : xs = xs.take 9 ++ xs.drop 9 := (List.take_append_drop 9 xs).symm
        have mo3 := mo2
        rw [hsplit] at mo3
        obtain ⟨s1, s2⟩ := most_more (xs.drop 9) mo9 mo3
        rw [List.length_drop, l5] at s2
        refine ⟨_, rfl, _, rfl, _, _, rfl, rfl, _, rfl, ?_⟩
        rw [decide_eq_true (show b ≤ missOf [] l by omega)]
        refine iteT ⟨_, rfl, _, _, rfl, rfl, _, _, rfl, rfl, _, rfl, ?_⟩
        rw [decide_eq_true (show missOf [] l ≤ b + 5 by omega)]
        refine iteF ?_
        -- names
        have hyl : ys.length = 16 := by rw [pm.length_eq]; rfl
        have hyn : ys.Nodup := pm.nodup_iff.mpr (by decide)
        have hyr : ∀ z ∈ ys, 0 ≤ z ∧ z ≤ 15 := fun z hz => by
          have h := pm.mem_iff.mp hz
          obtain ⟨n, hn, e⟩ := List.mem_map.mp h
          have := List.mem_range.mp hn
          omega
        have hat : ∀ z : Int, 0 ≤ z → z < 10 → ys[z.toNat]? = some (ys.getD z.toNat 0) := fun z h0 h1 => by
          have hlt : z.toNat < ys.length := by omega
          rw [List.getD_eq_getElem?_getD, List.getElem?_eq_getElem hlt]
          rfl
        refine ⟨_, rfl, _, rfl, D, rfl, ⟨_, SqL.of e9⟩, fun L hL => ?_⟩
        refine lc_list (K := K) (a := D) (xs := xs.map V.int) (fun i H' => Fr [] H9 H' ∧ H' L = some (.lst (((xs.take i).map fun z => ys.getD z.toNat 0).map V.int))) ⟨Fr.new hL, upd_same⟩ (fun i H' _ h => SqL.of (h.1 _ _ e9 (by simp))) ?_ ?_
        · rintro i z H10 hz ⟨f10, e10⟩
          obtain ⟨u, rfl, hu⟩ := int_at hz
          have hi := lt_of_at hu
          have gu := g5 u (List.mem_of_getElem? hu)
          refine ⟨rfl, _, rfl, _, rfl, q2, _, u, _, rfl, rfl, SqL.of (f10 _ _ q9 (by simp)), (by rw [show u = ((u.toNat : Nat) : Int) by omega]; exact atI_nat (by rw [List.getElem?_map, hat u gu.1 gu.2]; rfl)), ?_⟩
          refine ⟨_, e10, by rw [List.length_map, List.length_map, List.length_take]; exact sz_lt (by omega), f10.upd0 hL, ?_⟩
          rw [upd_same, List.take_succ_eq_append_getElem hi, List.map_append, List.map_append]
          rw [List.getElem?_eq_getElem hi] at hu
          rw [Option.some.inj hu]
          rfl
        · rintro H10 ⟨f10, e10⟩
          rw [List.length_map, List.take_length] at e10
          have hinj : ∀ u ∈ xs, ∀ v ∈ xs, ys.getD u.toNat 0 = ys.getD v.toNat 0 → u = v := fun u hu v hv e => by
            have gu := g5 u hu
            have gv := g5 v hv
            have a1 := hat u gu.1 gu.2
            have a2 := hat v gv.1 gv.2
            have hu2 : u.toNat < ys.length := by omega
            have hv2 : v.toNat < ys.length := by omega
            rw [List.getElem?_eq_getElem hu2] at a1
            rw [List.getElem?_eq_getElem hv2] at a2
            have e3 : ys[u.toNat] = ys[v.toNat] := by rw [Option.some.inj a1, Option.some.inj a2, e]
            have := (List.getElem_inj hyn).mp e3
            omega
          refine ⟨kn, L, xs.map fun z => ys.getD z.toNat 0, rfl, hk1, hk8, e10, ⟨by rw [List.length_map]; omega, fun z hz => ?_⟩, fun t2 p2 l2 g3 H11 f11 hl2 hv2 mo4 hm2 et2 ep2 => ?_⟩
          · obtain ⟨u, hu, e⟩ := List.mem_map.mp hz
            have gu := g5 u hu
            rw [← e]
            exact hyr _ (List.mem_of_getElem? (hat u gu.1 gu.2))
          · refine ⟨t2, _, (0 : Int), _, rfl, rfl, SqT.of et2, atI_nat (j := 0) rfl, ?_⟩
            have eg := mo4.uniq (mo2.map hinj)
            rw [List.length_map] at hm2
            have em : missOf [] l2 = missOf [] l := by omega
            refine ⟨_, rfl, rfl, ?_⟩
            rw [em]
            show Q (.bl (decide (V.int (missOf [] l) = V.int (missOf [] l)))) _
            rw [decide_eq_true rfl]
            exact k _
end
theorem all_mk {l : PySem.W.OpenLaw} {w : World} {K : PySem.W.Frag} {h : Heap} {mg : Str → Option Value} {fa f_is_number f_is_number_from f_check_slots Dt_check_slots f_fewest_misses f_judge_plan f__check_reads f__best_entry f__wait f__can_be f__kept_after f__law_random f__law_below f__law_shuffled f_law : Addr} (X : K.In h) (G : h.Ns mainGlobals mg) (hfa : mg "law" = some (.ref fa))
    {od_is_number an_is_number od_is_number_from an_is_number_from od_check_slots an_check_slots odt_check_slots od_fewest_misses an_fewest_misses od_judge_plan an_judge_plan od__check_reads an__check_reads od__best_entry an__best_entry od__wait an__wait od__can_be an__can_be od__kept_after an__kept_after od__law_random an__law_random od__law_below an__law_below od__law_shuffled an__law_shuffled od_law an_law : Option Addr} {sl_is_number sl_is_number_from sl_check_slots sdt_check_slots sl_fewest_misses sl_judge_plan sl__check_reads sl__best_entry sl__wait sl__can_be sl__kept_after sl__law_random sl__law_below sl__law_shuffled sl_law : Array (Option Value)} {oc_is_number dc_is_number pm_is_number cd_is_number ct_is_number kV_is_number oc_is_number_from dc_is_number_from pm_is_number_from cd_is_number_from ct_is_number_from kV_is_number_from oc_check_slots dc_check_slots pm_check_slots cd_check_slots ct_check_slots kV_check_slots oc_fewest_misses dc_fewest_misses pm_fewest_misses cd_fewest_misses ct_fewest_misses kV_fewest_misses oc_judge_plan dc_judge_plan pm_judge_plan cd_judge_plan ct_judge_plan kV_judge_plan oc__check_reads dc__check_reads pm__check_reads cd__check_reads ct__check_reads kV__check_reads oc__best_entry dc__best_entry pm__best_entry cd__best_entry ct__best_entry kV__best_entry oc__wait dc__wait pm__wait cd__wait ct__wait kV__wait oc__can_be dc__can_be pm__can_be cd__can_be ct__can_be kV__can_be oc__kept_after dc__kept_after pm__kept_after cd__kept_after ct__kept_after kV__kept_after oc__law_random dc__law_random pm__law_random cd__law_random ct__law_random kV__law_random oc__law_below dc__law_below pm__law_below cd__law_below ct__law_below kV__law_below oc__law_shuffled dc__law_shuffled pm__law_shuffled cd__law_shuffled ct__law_shuffled kV__law_shuffled oc_law dc_law pm_law cd_law ct_law kV_law : Value} {t_MOST_READS t_MOST_READ_BLOCK : Tok}
    (a_is_number : PySem.W.nsIn K mainGlobals "is_number" = some (some (.ref f_is_number)))
    (l_is_number : K.lookup f_is_number = some ⟨oc_is_number, od_is_number, .func (PySem.W.fnOf "is_number" "is_number" (defArgs s_is_number) (defBody s_is_number) (defScope s_is_number) .none kV_is_number dc_is_number pm_is_number an_is_number cd_is_number ct_is_number), sl_is_number⟩) (c_is_number : PySem.W.codeIn K cd_is_number "is_number" = true) (k_is_number : PySem.W.keepIn K (.ref f_is_number) = true)
    (a_is_number_from : PySem.W.nsIn K mainGlobals "is_number_from" = some (some (.ref f_is_number_from)))
    (l_is_number_from : K.lookup f_is_number_from = some ⟨oc_is_number_from, od_is_number_from, .func (PySem.W.fnOf "is_number_from" "is_number_from" (defArgs s_is_number_from) (defBody s_is_number_from) (defScope s_is_number_from) .none kV_is_number_from dc_is_number_from pm_is_number_from an_is_number_from cd_is_number_from ct_is_number_from), sl_is_number_from⟩) (c_is_number_from : PySem.W.codeIn K cd_is_number_from "is_number_from" = true) (k_is_number_from : PySem.W.keepIn K (.ref f_is_number_from) = true)
    (a_check_slots : PySem.W.nsIn K mainGlobals "check_slots" = some (some (.ref f_check_slots)))
    (l_check_slots : K.lookup f_check_slots = some ⟨oc_check_slots, od_check_slots, .func (PySem.W.fnOf "check_slots" "check_slots" (defArgs s_check_slots) (defBody s_check_slots) (defScope s_check_slots) (.ref Dt_check_slots) kV_check_slots dc_check_slots pm_check_slots an_check_slots cd_check_slots ct_check_slots), sl_check_slots⟩) (c_check_slots : PySem.W.codeIn K cd_check_slots "check_slots" = true) (k_check_slots : PySem.W.keepIn K (.ref f_check_slots) = true)
    {td_check_slots_0 : Tok} {nt_check_slots : Nat} (ld_check_slots : K.lookup Dt_check_slots = some ⟨.type "tuple", odt_check_slots, .seq #[.int 8 td_check_slots_0] nt_check_slots, sdt_check_slots⟩)
    (a_fewest_misses : PySem.W.nsIn K mainGlobals "fewest_misses" = some (some (.ref f_fewest_misses)))
    (l_fewest_misses : K.lookup f_fewest_misses = some ⟨oc_fewest_misses, od_fewest_misses, .func (PySem.W.fnOf "fewest_misses" "fewest_misses" (defArgs s_fewest_misses) (defBody s_fewest_misses) (defScope s_fewest_misses) .none kV_fewest_misses dc_fewest_misses pm_fewest_misses an_fewest_misses cd_fewest_misses ct_fewest_misses), sl_fewest_misses⟩) (c_fewest_misses : PySem.W.codeIn K cd_fewest_misses "fewest_misses" = true) (k_fewest_misses : PySem.W.keepIn K (.ref f_fewest_misses) = true)
    (a_judge_plan : PySem.W.nsIn K mainGlobals "judge_plan" = some (some (.ref f_judge_plan)))
    (l_judge_plan : K.lookup f_judge_plan = some ⟨oc_judge_plan, od_judge_plan, .func (PySem.W.fnOf "judge_plan" "judge_plan" (defArgs s_judge_plan) (defBody s_judge_plan) (defScope s_judge_plan) .none kV_judge_plan dc_judge_plan pm_judge_plan an_judge_plan cd_judge_plan ct_judge_plan), sl_judge_plan⟩) (c_judge_plan : PySem.W.codeIn K cd_judge_plan "judge_plan" = true) (k_judge_plan : PySem.W.keepIn K (.ref f_judge_plan) = true)
    (a__check_reads : PySem.W.nsIn K mainGlobals "_check_reads" = some (some (.ref f__check_reads)))
    (l__check_reads : K.lookup f__check_reads = some ⟨oc__check_reads, od__check_reads, .func (PySem.W.fnOf "_check_reads" "_check_reads" (defArgs s__check_reads) (defBody s__check_reads) (defScope s__check_reads) .none kV__check_reads dc__check_reads pm__check_reads an__check_reads cd__check_reads ct__check_reads), sl__check_reads⟩) (c__check_reads : PySem.W.codeIn K cd__check_reads "_check_reads" = true) (k__check_reads : PySem.W.keepIn K (.ref f__check_reads) = true)
    (a__best_entry : PySem.W.nsIn K mainGlobals "_best_entry" = some (some (.ref f__best_entry)))
    (l__best_entry : K.lookup f__best_entry = some ⟨oc__best_entry, od__best_entry, .func (PySem.W.fnOf "_best_entry" "_best_entry" (defArgs s__best_entry) (defBody s__best_entry) (defScope s__best_entry) .none kV__best_entry dc__best_entry pm__best_entry an__best_entry cd__best_entry ct__best_entry), sl__best_entry⟩) (c__best_entry : PySem.W.codeIn K cd__best_entry "_best_entry" = true) (k__best_entry : PySem.W.keepIn K (.ref f__best_entry) = true)
    (a__wait : PySem.W.nsIn K mainGlobals "_wait" = some (some (.ref f__wait)))
    (l__wait : K.lookup f__wait = some ⟨oc__wait, od__wait, .func (PySem.W.fnOf "_wait" "_wait" (defArgs s__wait) (defBody s__wait) (defScope s__wait) .none kV__wait dc__wait pm__wait an__wait cd__wait ct__wait), sl__wait⟩) (c__wait : PySem.W.codeIn K cd__wait "_wait" = true) (k__wait : PySem.W.keepIn K (.ref f__wait) = true)
    (a__can_be : PySem.W.nsIn K mainGlobals "_can_be" = some (some (.ref f__can_be)))
    (l__can_be : K.lookup f__can_be = some ⟨oc__can_be, od__can_be, .func (PySem.W.fnOf "_can_be" "_can_be" (defArgs s__can_be) (defBody s__can_be) (defScope s__can_be) .none kV__can_be dc__can_be pm__can_be an__can_be cd__can_be ct__can_be), sl__can_be⟩) (c__can_be : PySem.W.codeIn K cd__can_be "_can_be" = true) (k__can_be : PySem.W.keepIn K (.ref f__can_be) = true)
    (a__kept_after : PySem.W.nsIn K mainGlobals "_kept_after" = some (some (.ref f__kept_after)))
    (l__kept_after : K.lookup f__kept_after = some ⟨oc__kept_after, od__kept_after, .func (PySem.W.fnOf "_kept_after" "_kept_after" (defArgs s__kept_after) (defBody s__kept_after) (defScope s__kept_after) .none kV__kept_after dc__kept_after pm__kept_after an__kept_after cd__kept_after ct__kept_after), sl__kept_after⟩) (c__kept_after : PySem.W.codeIn K cd__kept_after "_kept_after" = true) (k__kept_after : PySem.W.keepIn K (.ref f__kept_after) = true)
    (a__law_random : PySem.W.nsIn K mainGlobals "_law_random" = some (some (.ref f__law_random)))
    (l__law_random : K.lookup f__law_random = some ⟨oc__law_random, od__law_random, .func (PySem.W.fnOf "_law_random" "_law_random" (defArgs s__law_random) (defBody s__law_random) (defScope s__law_random) .none kV__law_random dc__law_random pm__law_random an__law_random cd__law_random ct__law_random), sl__law_random⟩) (c__law_random : PySem.W.codeIn K cd__law_random "_law_random" = true) (k__law_random : PySem.W.keepIn K (.ref f__law_random) = true)
    (a__law_below : PySem.W.nsIn K mainGlobals "_law_below" = some (some (.ref f__law_below)))
    (l__law_below : K.lookup f__law_below = some ⟨oc__law_below, od__law_below, .func (PySem.W.fnOf "_law_below" "_law_below" (defArgs s__law_below) (defBody s__law_below) (defScope s__law_below) .none kV__law_below dc__law_below pm__law_below an__law_below cd__law_below ct__law_below), sl__law_below⟩) (c__law_below : PySem.W.codeIn K cd__law_below "_law_below" = true) (k__law_below : PySem.W.keepIn K (.ref f__law_below) = true)
    (a__law_shuffled : PySem.W.nsIn K mainGlobals "_law_shuffled" = some (some (.ref f__law_shuffled)))
    (l__law_shuffled : K.lookup f__law_shuffled = some ⟨oc__law_shuffled, od__law_shuffled, .func (PySem.W.fnOf "_law_shuffled" "_law_shuffled" (defArgs s__law_shuffled) (defBody s__law_shuffled) (defScope s__law_shuffled) .none kV__law_shuffled dc__law_shuffled pm__law_shuffled an__law_shuffled cd__law_shuffled ct__law_shuffled), sl__law_shuffled⟩) (c__law_shuffled : PySem.W.codeIn K cd__law_shuffled "_law_shuffled" = true) (k__law_shuffled : PySem.W.keepIn K (.ref f__law_shuffled) = true)
    (a_law : PySem.W.nsIn K mainGlobals "law" = some (some (.ref f_law)))
    (l_law : K.lookup f_law = some ⟨oc_law, od_law, .func (PySem.W.fnOf "law" "law" (defArgs s_law) (defBody s_law) (defScope s_law) .none kV_law dc_law pm_law an_law cd_law ct_law), sl_law⟩) (c_law : PySem.W.codeIn K cd_law "law" = true) (k_law : PySem.W.keepIn K (.ref f_law) = true)
    (z_isinstance : PySem.W.nsIn K mainGlobals "isinstance" = some none)
    (z_int : PySem.W.nsIn K mainGlobals "int" = some none)
    (z_bool : PySem.W.nsIn K mainGlobals "bool" = some none)
    (z_list : PySem.W.nsIn K mainGlobals "list" = some none)
    (z_len : PySem.W.nsIn K mainGlobals "len" = some none)
    (z_abs : PySem.W.nsIn K mainGlobals "abs" = some none)
    (z_range : PySem.W.nsIn K mainGlobals "range" = some none)
    (z_enumerate : PySem.W.nsIn K mainGlobals "enumerate" = some none)
    (z_max : PySem.W.nsIn K mainGlobals "max" = some none)
    (z_set : PySem.W.nsIn K mainGlobals "set" = some none)
    (c_MOST_READS : PySem.W.nsIn K mainGlobals "MOST_READS" = some (some (.int 14 t_MOST_READS)))
    (c_MOST_READ_BLOCK : PySem.W.nsIn K mainGlobals "MOST_READ_BLOCK" = some (some (.int 15 t_MOST_READ_BLOCK)))
    : ∃ fd : FuncData, (∀ (s : Shared) (v : Value), BindsTo s fd ⟨[v], []⟩ [("_law_script", v)]) ∧ ∀ base : Heap, K.In base → base.Ns mainGlobals mg → FnOk l.prog w K mg base CX0 12 fa fd ["_law_script"] (spLaw K) := by
  have e := hfa.symm.trans (PySem.W.mg_of X G a_law)
  cases e
  have T : Gx K mg := {
    f_is_number := f_is_number, fd_is_number := _,
    F_is_number := fun_mk (st := s_is_number) l_is_number c_is_number k_is_number,
    g_is_number := PySem.W.mg_of X G a_is_number,
    f_is_number_from := f_is_number_from, fd_is_number_from := _,
    F_is_number_from := fun_mk (st := s_is_number_from) l_is_number_from c_is_number_from k_is_number_from,
    g_is_number_from := PySem.W.mg_of X G a_is_number_from,
    f_check_slots := f_check_slots, fd_check_slots := _,
    F_check_slots := ⟨⟨oc_check_slots, od_check_slots, .ref Dt_check_slots, kV_check_slots, dc_check_slots, pm_check_slots, an_check_slots, cd_check_slots, ct_check_slots, sl_check_slots, rfl, l_check_slots, c_check_slots, .inr ⟨by simp, Dt_check_slots, _, [.int 8 td_check_slots_0], nt_check_slots, rfl, ld_check_slots, rfl, .cons ⟨_, rfl⟩ (.nil)⟩, .inl rfl⟩, k_check_slots⟩,
    g_check_slots := PySem.W.mg_of X G a_check_slots,
    f_fewest_misses := f_fewest_misses, fd_fewest_misses := _,
    F_fewest_misses := fun_mk (st := s_fewest_misses) l_fewest_misses c_fewest_misses k_fewest_misses,
    g_fewest_misses := PySem.W.mg_of X G a_fewest_misses,
    f_judge_plan := f_judge_plan, fd_judge_plan := _,
    F_judge_plan := fun_mk (st := s_judge_plan) l_judge_plan c_judge_plan k_judge_plan,
    g_judge_plan := PySem.W.mg_of X G a_judge_plan,
    f__check_reads := f__check_reads, fd__check_reads := _,
    F__check_reads := fun_mk (st := s__check_reads) l__check_reads c__check_reads k__check_reads,
    g__check_reads := PySem.W.mg_of X G a__check_reads,
    f__best_entry := f__best_entry, fd__best_entry := _,
    F__best_entry := fun_mk (st := s__best_entry) l__best_entry c__best_entry k__best_entry,
    g__best_entry := PySem.W.mg_of X G a__best_entry,
    f__wait := f__wait, fd__wait := _,
    F__wait := fun_mk (st := s__wait) l__wait c__wait k__wait,
    g__wait := PySem.W.mg_of X G a__wait,
    f__can_be := f__can_be, fd__can_be := _,
    F__can_be := fun_mk (st := s__can_be) l__can_be c__can_be k__can_be,
    g__can_be := PySem.W.mg_of X G a__can_be,
    f__kept_after := f__kept_after, fd__kept_after := _,
    F__kept_after := fun_mk (st := s__kept_after) l__kept_after c__kept_after k__kept_after,
    g__kept_after := PySem.W.mg_of X G a__kept_after,
    f__law_random := f__law_random, fd__law_random := _,
    F__law_random := fun_mk (st := s__law_random) l__law_random c__law_random k__law_random,
    g__law_random := PySem.W.mg_of X G a__law_random,
    f__law_below := f__law_below, fd__law_below := _,
    F__law_below := fun_mk (st := s__law_below) l__law_below c__law_below k__law_below,
    g__law_below := PySem.W.mg_of X G a__law_below,
    f__law_shuffled := f__law_shuffled, fd__law_shuffled := _,
    F__law_shuffled := fun_mk (st := s__law_shuffled) l__law_shuffled c__law_shuffled k__law_shuffled,
    g__law_shuffled := PySem.W.mg_of X G a__law_shuffled,
    z_isinstance := PySem.W.mg_none_of X G z_isinstance,
    z_int := PySem.W.mg_none_of X G z_int,
    z_bool := PySem.W.mg_none_of X G z_bool,
    z_list := PySem.W.mg_none_of X G z_list,
    z_len := PySem.W.mg_none_of X G z_len,
    z_abs := PySem.W.mg_none_of X G z_abs,
    z_range := PySem.W.mg_none_of X G z_range,
    z_enumerate := PySem.W.mg_none_of X G z_enumerate,
    z_max := PySem.W.mg_none_of X G z_max,
    z_set := PySem.W.mg_none_of X G z_set,
    t_MOST_READS := t_MOST_READS, c_MOST_READS := PySem.W.mg_of X G c_MOST_READS,
    t_MOST_READ_BLOCK := t_MOST_READ_BLOCK, c_MOST_READ_BLOCK := PySem.W.mg_of X G c_MOST_READ_BLOCK }
  exact ⟨PySem.W.fnOf "law" "law" (defArgs s_law) (defBody s_law) (defScope s_law) .none kV_law dc_law pm_law an_law cd_law ct_law, fun s v => .of_eq rfl, fun base _ _ => ok_law (fun_mk (st := s_law) l_law c_law k_law) T⟩
end Kb
open PySem PySem.W PyProof.Rows in
set_option maxRecDepth 100000 in
set_option maxHeartbeats 0 in
theorem PySem.Challenge.cw_keepbefore_k24_whole_reads_more_miss_mor_holds : PySem.Challenge.rw_keepbefore_k24_whole_reads_more_miss_mor.Holds := by
  w_on; o_law; k_head; (case hw => w_witness2)
  k_fill
  refine L2.walk_of (l := PySem.Challenge.rw_keepbefore_k24_whole_reads_more_miss_mor) (n := 63) (k := 12) (x := "_law_script") (CX := fun _ => L2.CX0) (sp := fun w => Kb.spLaw _) rfl (by decide) rfl ⟨rfl, by decide, by decide⟩ (fun w h Y => PySem.W.kIn_of Y) ?F (fun _ _ a ns hl _ hS => ⟨a, ns, rfl, hS, hl, fun _ => rfl⟩) (fun _ _ _ _ _ h => h)
  case F =>
    intro w mg fa h KX G hmg
    refine' Kb.all_mk KX G hmg ?a_is_number ?l_is_number ?c_is_number ?k_is_number ?a_is_number_from ?l_is_number_from ?c_is_number_from ?k_is_number_from ?a_check_slots ?l_check_slots ?c_check_slots ?k_check_slots ?ld_check_slots ?a_fewest_misses ?l_fewest_misses ?c_fewest_misses ?k_fewest_misses ?a_judge_plan ?l_judge_plan ?c_judge_plan ?k_judge_plan ?a__check_reads ?l__check_reads ?c__check_reads ?k__check_reads ?a__best_entry ?l__best_entry ?c__best_entry ?k__best_entry ?a__wait ?l__wait ?c__wait ?k__wait ?a__can_be ?l__can_be ?c__can_be ?k__can_be ?a__kept_after ?l__kept_after ?c__kept_after ?k__kept_after ?a__law_random ?l__law_random ?c__law_random ?k__law_random ?a__law_below ?l__law_below ?c__law_below ?k__law_below ?a__law_shuffled ?l__law_shuffled ?c__law_shuffled ?k__law_shuffled ?a_law ?l_law ?c_law ?k_law ?z_isinstance ?z_int ?z_bool ?z_list ?z_len ?z_abs ?z_range ?z_enumerate ?z_max ?z_set ?c_MOST_READS ?c_MOST_READ_BLOCK
    (case a_is_number => k_is)
    (case l_is_number => k_is)
    (case c_is_number => k_is)
    (case k_is_number => k_is)
    (case a_is_number_from => k_is)
    (case l_is_number_from => k_is)
    (case c_is_number_from => k_is)
    (case k_is_number_from => k_is)
    (case a_check_slots => k_is)
    (case l_check_slots => k_is)
    (case c_check_slots => k_is)
    (case k_check_slots => k_is)
    (case ld_check_slots => k_is)
    (case a_fewest_misses => k_is)
    (case l_fewest_misses => k_is)
    (case c_fewest_misses => k_is)
    (case k_fewest_misses => k_is)
    (case a_judge_plan => k_is)
    (case l_judge_plan => k_is)
    (case c_judge_plan => k_is)
    (case k_judge_plan => k_is)
    (case a__check_reads => k_is)
    (case l__check_reads => k_is)
    (case c__check_reads => k_is)
    (case k__check_reads => k_is)
    (case a__best_entry => k_is)
    (case l__best_entry => k_is)
    (case c__best_entry => k_is)
    (case k__best_entry => k_is)
    (case a__wait => k_is)
    (case l__wait => k_is)
    (case c__wait => k_is)
    (case k__wait => k_is)
    (case a__can_be => k_is)
    (case l__can_be => k_is)
    (case c__can_be => k_is)
    (case k__can_be => k_is)
    (case a__kept_after => k_is)
    (case l__kept_after => k_is)
    (case c__kept_after => k_is)
    (case k__kept_after => k_is)
    (case a__law_random => k_is)
    (case l__law_random => k_is)
    (case c__law_random => k_is)
    (case k__law_random => k_is)
    (case a__law_below => k_is)
    (case l__law_below => k_is)
    (case c__law_below => k_is)
    (case k__law_below => k_is)
    (case a__law_shuffled => k_is)
    (case l__law_shuffled => k_is)
    (case c__law_shuffled => k_is)
    (case k__law_shuffled => k_is)
    (case a_law => k_is)
    (case l_law => k_is)
    (case c_law => k_is)
    (case k_law => k_is)
    (case z_isinstance => k_is)
    (case z_int => k_is)
    (case z_bool => k_is)
    (case z_list => k_is)
    (case z_len => k_is)
    (case z_abs => k_is)
    (case z_range => k_is)
    (case z_enumerate => k_is)
    (case z_max => k_is)
    (case z_set => k_is)
    (case c_MOST_READS => k_is)
    (case c_MOST_READ_BLOCK => k_is)
