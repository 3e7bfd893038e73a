import PyProof.Rows.All
import Wide.All
import OpenK.AllK
import Wide.FinOn
import HandS.ForMost
import HandS.Defaults
import HandS.Property
import HandS.IsInst
import HandS.Conv
import HandS.Codes
import HandS.MakeKwOnly
import HandS.Strs
import HandS.SetFor
import HandS.GenYield
import HandS.TupAny
import HandS.Zip
import HandS.Walk
import HandS.Wide
import KE.DatumOrd
import HandS.Style
import HandS.TupSets
import HandS.Small
import HandS.More
import HandS.Deep
import HandS.SortRule
import HandS.Iter
import KE.KStateDown
import HandS.Head0
import HandS.Head1
import HandS.Head2
import HandS.HeadEnd
import HandS.HeadHook1
import HandS.HeadHook2
import HandS.HeadHook3
import HandS.HeadHook4
import HandS.HeadWalk
import PySem.Challenge.RW_keepbefore_k75_logs_that_can_be
set_option Elab.async false
set_option linter.all false
set_option maxRecDepth 100000
set_option maxHeartbeats 4000000
/-! ### what is looked at behind the top: the defs, the classes, the names -/
namespace Hx
open PySem PySem.Spec PyProof.Rows L2
/-- where a def stands: a name of the top, a method, a property's getter, a class method -/
inductive At where
  | glo (x : Str)
  | meth (C m : Str)
  | prop (C m : Str)
  | clsm (C m : Str)
section
variable {K : PySem.W.Frag} {p C : Addr} {t : String} {m : Str}
def recAd (K : PySem.W.Frag) (p : Addr) (t : String) : Addr := match PySem.W.recIn K p t with
  | some (.ref f :: _) => f
  | _ => 0
def isRec (K : PySem.W.Frag) (p : Addr) (t : String) : Bool := match PySem.W.recIn K p t with
  | some (.ref _ :: _) => true
  | _ => false
theorem isRec_ok (h : isRec K p t = true) : ∃ rest, PySem.W.recIn K p t = some (.ref (recAd K p t) :: rest) := by
  unfold isRec at h
  split at h
  · rename_i f r e
    refine ⟨r, ?_⟩
    unfold recAd
    rw [e]
  · cases h
def clAd (K : PySem.W.Frag) (C : Addr) (m : Str) : Addr := match PySem.W.findCls K (.ref C) (.type "type") m with
  | some (.get _ (.ref p) _ _) => p
  | _ => 0
def isCl (K : PySem.W.Frag) (C : Addr) (m : Str) : Bool := match PySem.W.findCls K (.ref C) (.type "type") m with
  | some (.get (.builtin b) (.ref _) .none (.ref D)) => decide (b = "classmethod.__get__") && decide (D = C)
  | _ => false
theorem isCl_ok (h : isCl K C m = true) : PySem.W.findCls K (.ref C) (.type "type") m = some (.get (.builtin "classmethod.__get__") (.ref (clAd K C m)) .none (.ref C)) := by
  unfold isCl at h
  split at h
  · rename_i b p D e
    obtain ⟨h1, h2⟩ := Bool.and_eq_true_iff.mp h
    have e1 := of_decide_eq_true h1
    have e2 := of_decide_eq_true h2
    subst e1 e2
    unfold clAd
    rw [e]
  · cases h
def At.ad (K : PySem.W.Frag) : At → Addr
  | .glo x => He.ga K x
  | .meth C m => He.ma K (He.ga K C) m
  | .prop C m => recAd K (He.ma K (He.ga K C) m) "property"
  | .clsm C m => recAd K (clAd K (He.ga K C) m) "classmethod"
/-! ### defs -/
abbrev Seen : Type := Option (FuncBody × Scope × Arguments × Str × Str × Addr × Addr × List (Str × Addr))
def seen (K : PySem.W.Frag) (a : Addr) : Seen := match K.lookup a with
  | some o => (match o.data with
    | .func d => some (d.body, d.scope, d.params, d.name, d.qualname, d.globals, d.builtins, d.closure)
    | _ => none)
  | none => none
structure Df where
  at_ : At
  name : Str
  qual : Str
  st : Stmt
  dfl : List V
  kwd : List (Str × V)
def Df.want (d : Df) : Seen := some (.stmts (defBody d.st), defScope d.st, defArgs d.st, d.name, d.qual, mainGlobals, builtinsNs, [])
def Df.sound (K : PySem.W.Frag) (d : Df) : Bool := PySem.W.keepIn K (.ref (d.at_.ad K)) && (match K.lookup (d.at_.ad K) with
  | some o => (match o.data with
    | .func u => PySem.W.codeIn K u.code d.qual && (He.dflB K u.defaults d.dfl && He.kwdB K u.kwdefaults d.kwd)
    | _ => false)
  | none => false)
theorem Df.funD {d : Df} (e : seen K (d.at_.ad K) = d.want) (c : d.sound K = true) : ∃ fd, FunD K d.name d.qual (defArgs d.st) (defBody d.st) (defScope d.st) d.dfl d.kwd (d.at_.ad K) fd := by
  obtain ⟨kp, c2⟩ := Bool.and_eq_true_iff.mp c
  unfold seen at e
  cases q : K.lookup (d.at_.ad K) with
  | none =>
    rw [q] at e
    cases e
  | some o =>
    obtain ⟨oc, od, dt, osl⟩ := o
    rw [q] at c2 e
    cases dt with
    | func u =>
      obtain ⟨n1, n2, n3, n4, n5, n6, n7, n8, n9, n10, n11, n12, n13, n14, n15⟩ := u
      have e2 : (some (n4, n5, n3, n1, n2, n6, n15, n7) : Seen) = some (.stmts (defBody d.st), defScope d.st, defArgs d.st, d.name, d.qual, mainGlobals, builtinsNs, []) := e
      simp only [Option.some.injEq, Prod.mk.injEq] at e2
      obtain ⟨h4, h5, h3, h1, h2, h6, h8, h7⟩ := e2
      subst h1 h2 h3 h4 h5 h6 h7 h8
      have c3 : (PySem.W.codeIn K n13 d.qual && (He.dflB K n8 d.dfl && He.kwdB K n9 d.kwd)) = true := c2
      obtain ⟨k1, k2⟩ := Bool.and_eq_true_iff.mp c3
      obtain ⟨k3, k4⟩ := Bool.and_eq_true_iff.mp k2
      exact ⟨_, ⟨oc, od, n8, n9, n10, n11, n12, n13, n14, osl, rfl, q, k1, He.dflB_ok k3, He.kwdB_ok k4⟩, kp⟩
    | _ => cases e
theorem plain {x qual : Str} {st : Stmt} {f : Addr} {fd : FuncData} (F : FunD K x qual (defArgs st) (defBody st) (defScope st) [] [] f fd) : Fun K x qual st f fd := by
  obtain ⟨oc, od, dV, kV, doc, pm, an, cdv, ct, osl, e, lk, hcd, hd, hk⟩ := F.ex
  rcases hd with ⟨_, rfl⟩ | ⟨h, _⟩
  · exact ⟨⟨oc, od, kV, doc, pm, an, cdv, ct, osl, e, lk, hcd⟩, F.kp⟩
  · exact absurd rfl h
/-! ### written tuples -/
def itAd (K : PySem.W.Frag) (a : Addr) (i : Nat) : Addr := match K.lookup a with
  | some o => (match o.data with
    | .seq its _ => (match its.toList[i]? with
      | some (.ref b) => b
      | _ => 0)
    | _ => 0)
  | none => 0
def isTup (K : PySem.W.Frag) (a : Addr) (vs : List V) : Bool := match K.lookup a with
  | some ⟨.type c, _, .seq its _, _⟩ => (c == "tuple" && its.size.ble 1000) && He.relAll vs its.toList
  | _ => false
theorem isTup_ok {a : Addr} {vs : List V} (h : isTup K a vs = true) (H : Hp) : SqT K H a vs := by
  unfold isTup at h
  split at h
  · rename_i c od its n sl q
    obtain ⟨h1, h2⟩ := Bool.and_eq_true_iff.mp h
    obtain ⟨h3, h4⟩ := Bool.and_eq_true_iff.mp h1
    have e := eq_of_beq h3
    subst e
    exact .inr ⟨_, its, n, q, rfl, rfl, Nat.le_trans (Nat.le_of_ble_eq_true h4) (by decide), He.relAll_ok h2⟩
  · cases h
/-! ### code objects -/
def cdAd (K : PySem.W.Frag) (a : Addr) : Addr := match K.lookup a with
  | some o => (match o.data with
    | .func u => (match u.code with
      | .ref c => c
      | _ => 0)
    | _ => 0)
  | none => 0
/-! ### the part of the heap that is looked at: what the names reach, but not into code objects -/
def isCode (o : Obj) : Bool := match o.cls with
  | .type n => n == "code"
  | _ => false
def more (g : Addr → Option Obj) (as : List Addr) : List Addr := as.flatMap fun a => match g a with
  | some o => bif isCode o then [] else He.refsD o
  | none => []
/-- what is new of these, each once -/
def fresh : List Addr → List Addr → List Addr → List Addr
  | _, [], acc => acc.reverse
  | old, a :: r, acc => bif old.elem a then fresh old r acc else bif acc.elem a then fresh old r acc else fresh old r (a :: acc)
/-- old: what was found; as: what was found last -/
def reach (g : Addr → Option Obj) : Nat → List Addr → List Addr → List Addr
  | 0, old, _ => old
  | n + 1, old, as => match fresh old (more g as) [] with
    | [] => old
    | a :: r => reach g n (old ++ a :: r) (a :: r)
/-! ### the Hook -/
abbrev Al : Type := Bool × List Seen
def looks (n : Nat) (dfs : List Df) (ex : PySem.W.Frag → Bool) (tf : List At) (g : Addr → Option Obj) (K : PySem.W.Frag) : Al :=
  ((ex K && dfs.all (Df.sound K)) && tf.all fun a => PySem.W.codeHdIn K (cdAd K (a.ad K)) (He.tabOf K (cdAd K (a.ad K))) && (match g (He.tabOf K (cdAd K (a.ad K))) with
    | some o => He.emptyTab o
    | none => false), dfs.map fun d => seen K (d.at_.ad K))
structure Says (dfs : List Df) (ex : PySem.W.Frag → Bool) (tf : List At) (h : Heap) (K : PySem.W.Frag) : Prop where
  ex : ex K = true
  defs : ∀ d ∈ dfs, ∃ fd, FunD K d.name d.qual (defArgs d.st) (defBody d.st) (defScope d.st) d.dfl d.kwd (d.at_.ad K) fd
  head : ∀ a ∈ tf, PySem.W.codeHdIn K (cdAd K (a.ad K)) (He.tabOf K (cdAd K (a.ad K))) = true
  out : ∀ a ∈ tf, K.lookup (He.tabOf K (cdAd K (a.ad K))) = none
  tab : ∀ a ∈ tf, h.get? (He.tabOf K (cdAd K (a.ad K))) = some { cls := .none, data := .fields #[] }
def hook (n : Nat) (dfs : List Df) (ex : PySem.W.Frag → Bool) (tf : List At) : PySem.W.Hook where
  α := Al
  obs := fun s => looks n dfs ex tf s.heap.get? (He.frT s.heap.get? (reach s.heap.get? n [mainGlobals, cStatics] [mainGlobals]))
  val := fun _ => (true, dfs.map Df.want)
  says := fun _ h => ∃ K : PySem.W.Frag, K.In h ∧ Says dfs ex tf h K
  of := fun _ s e => ⟨_, He.frT_in, by
    obtain ⟨K, hK⟩ : ∃ K, K = He.frT s.heap.get? (reach s.heap.get? n [mainGlobals, cStatics] [mainGlobals]) := ⟨_, rfl⟩
    have hn : ∀ {a o}, s.heap.get? a = some o → He.emptyTab o = true → K.lookup a = none := fun a b => by
      rw [hK]
      exact He.frT_none a b
    rw [← hK] at e ⊢
    obtain ⟨e1, e2⟩ := Prod.mk.inj e
    obtain ⟨h1, h2⟩ := Bool.and_eq_true_iff.mp e1
    obtain ⟨h3, h4⟩ := Bool.and_eq_true_iff.mp h1
    have key : ∀ a ∈ tf, PySem.W.codeHdIn K (cdAd K (a.ad K)) (He.tabOf K (cdAd K (a.ad K))) = true ∧ ∃ o, s.heap.get? (He.tabOf K (cdAd K (a.ad K))) = some o ∧ He.emptyTab o = true := fun a ha => by
      obtain ⟨h5, h6⟩ := Bool.and_eq_true_iff.mp (List.all_eq_true.mp h2 a ha)
      refine ⟨h5, ?_⟩
      split at h6
      · rename_i o q
        exact ⟨o, q, h6⟩
      · cases h6
    refine ⟨h3, fun d hd => ?_, fun a ha => (key a ha).1, fun a ha => ?_, fun a ha => ?_⟩
    · obtain ⟨i, hi, ei⟩ := List.getElem_of_mem hd
      have e3 : (dfs.map fun d => seen K (d.at_.ad K))[i]? = (dfs.map Df.want)[i]? := by rw [e2]
      rw [List.getElem?_map, List.getElem?_map, List.getElem?_eq_getElem hi, ei] at e3
      exact Df.funD (Option.some.inj e3) (List.all_eq_true.mp h4 d hd)
    · obtain ⟨_, o, q, z⟩ := key a ha
      exact hn q z
    · obtain ⟨_, o, q, z⟩ := key a ha
      rw [q, He.emptyTab_eq z]⟩
  keeps := fun _ _ _ ⟨K, hK, c⟩ k => ⟨K, PySem.W.Frag.In.keeps hK k, ⟨c.ex, c.defs, c.head, c.out, fun a ha => k _ _ (c.tab a ha)⟩⟩
def ob (n : Nat) (dfs : List Df) (ex : PySem.W.Frag → Bool) (tf : List At) (s : PySem.W.SharedT) : Al := looks n dfs ex tf (HandSHeadRun.getT s) (He.frT (HandSHeadRun.getT s) (reach (HandSHeadRun.getT s) n [mainGlobals, cStatics] [mainGlobals]))
theorem ob_eq {n : Nat} {dfs : List Df} {ex : PySem.W.Frag → Bool} {tf : List At} (s : PySem.W.SharedT) : ob n dfs ex tf s = (hook n dfs ex tf).obs s.abs := by
  have e : HandSHeadRun.getT s = s.abs.heap.get? := funext (HandSHeadRun.getT_eq s)
  unfold ob
  rw [e]
  rfl
theorem Says.fact {dfs : List Df} {exs : PySem.W.Frag → List (List Bool)} {tf : List At} {h : Heap} (c : Says dfs (fun K => (exs K).all fun l => l.all id) tf h K) (i j : Nat) {l : List Bool} {b : Bool} (hl : (exs K)[i]? = some l := by rfl) (hb : l[j]? = some b := by rfl) : b = true :=
  List.all_eq_true.mp (List.all_eq_true.mp c.ex l (List.mem_of_getElem? hl)) b (List.mem_of_getElem? hb)
theorem Says.def_ {dfs : List Df} {ex : PySem.W.Frag → Bool} {tf : List At} {h : Heap} (c : Says dfs ex tf h K) (i : Nat) {d : Df} (hd : dfs[i]? = some d := by rfl) : ∃ fd, FunD K d.name d.qual (defArgs d.st) (defBody d.st) (defScope d.st) d.dfl d.kwd (d.at_.ad K) fd := c.defs d (List.mem_of_getElem? hd)
end
end Hx
namespace Kb
open PySem L2
def top (i : Nat) : Stmt := PySem.Challenge.pw_keepbefore_k75_logs_that_can_be.main.body.getD i (.Pass ⟨0, 0, 0, 0⟩)
abbrev s_is_number : Stmt := top 6
theorem sc_is_number : FnScope ["thing"] ["thing"] (defScope s_is_number) := ⟨rfl, rfl, rfl, by decide +kernel, rfl, by decide +kernel, by decide +kernel⟩
abbrev s_is_number_from : Stmt := top 7
theorem sc_is_number_from : FnScope ["thing", "least", "most"] ["thing", "least", "most"] (defScope s_is_number_from) := ⟨rfl, rfl, rfl, by decide +kernel, rfl, by decide +kernel, by decide +kernel⟩
abbrev s_check_blocks : Stmt := top 8
theorem sc_check_blocks : FnScope ["blocks", "most"] ["blocks", "most"] (defScope s_check_blocks) := ⟨rfl, rfl, rfl, by decide +kernel, rfl, by decide +kernel, by decide +kernel⟩
abbrev s_Possibilities___init__ : Stmt := inClass (top 12) 0
theorem sc_Possibilities___init__ : FnScope ["self", "blocks", "_"] ["self", "blocks"] (defScope s_Possibilities___init__) := ⟨rfl, rfl, rfl, by decide +kernel, rfl, by decide +kernel, by decide +kernel⟩
abbrev s_Possibilities_follow : Stmt := inClass (top 12) 1
theorem sc_Possibilities_follow : FnScope ["self", "entry", "word", "block", "value"] ["self", "entry"] (defScope s_Possibilities_follow) := ⟨rfl, rfl, rfl, by decide +kernel, rfl, by decide +kernel, by decide +kernel⟩
abbrev s_Possibilities_values_now : Stmt := inClass (top 12) 2
theorem sc_Possibilities_values_now : FnScope ["self", "values", "block", "value", "some"] ["self"] (defScope s_Possibilities_values_now) := ⟨rfl, rfl, rfl, by decide +kernel, rfl, by decide +kernel, by decide +kernel⟩
abbrev s_first_error : Stmt := top 13
theorem sc_first_error : FnScope ["blocks", "log"] ["blocks", "log"] (defScope s_first_error) := ⟨rfl, rfl, rfl, by decide +kernel, rfl, by decide +kernel, by decide +kernel⟩
abbrev s_possible_values : Stmt := top 14
theorem sc_possible_values : FnScope ["blocks", "log", "error", "walked", "values"] ["blocks", "log"] (defScope s_possible_values) := ⟨rfl, rfl, rfl, by decide +kernel, rfl, by decide +kernel, by decide +kernel⟩
abbrev s__walk : Stmt := top 15
theorem sc__walk : FnScope ["blocks", "log", "walked", "index", "entry"] ["blocks", "log"] (defScope s__walk) := ⟨rfl, rfl, rfl, by decide +kernel, rfl, by decide +kernel, by decide +kernel⟩
abbrev s__has_form : Stmt := top 16
theorem sc__has_form : FnScope ["entry", "blocks"] ["entry", "blocks"] (defScope s__has_form) := ⟨rfl, rfl, rfl, by decide +kernel, rfl, by decide +kernel, by decide +kernel⟩
abbrev s__law_random : Stmt := top 18
theorem sc__law_random : FnScope ["_law_script", "_law_salt", "_law_seed", "_law_cell"] ["_law_script", "_law_salt"] (defScope s__law_random) := ⟨rfl, rfl, rfl, by decide +kernel, rfl, by decide +kernel, by decide +kernel⟩
abbrev s__law_below : Stmt := top 19
theorem sc__law_below : FnScope ["_law_d", "_law_limit", "_law_result"] ["_law_d", "_law_limit"] (defScope s__law_below) := ⟨rfl, rfl, rfl, by decide +kernel, rfl, by decide +kernel, by decide +kernel⟩
abbrev s__law_log : Stmt := top 20
theorem sc__law_log : FnScope ["_law_d", "_law_blocks", "_law_length", "_law_block", "_law_log_here", "_law_possible", "_law_under", "_law_k", "_law_value", "_law_way", "_law_old", "_law_some"] ["_law_d", "_law_blocks", "_law_length"] (defScope s__law_log) := ⟨rfl, rfl, rfl, by decide +kernel, rfl, by decide +kernel, by decide +kernel⟩
abbrev s__law_equal : Stmt := top 21
theorem sc__law_equal : FnScope ["_law_actual", "_law_expected", "_law_k"] ["_law_actual", "_law_expected"] (defScope s__law_equal) := ⟨rfl, rfl, rfl, by decide +kernel, rfl, by decide +kernel, by decide +kernel⟩
abbrev s_law : Stmt := top 22
theorem sc_law : FnScope ["_law_script", "_law_d", "_law_step", "_law_blocks", "_law_log_here", "_law_possible", "_law_under", "_law_due", "_law_found", "_law_some"] ["_law_script"] (defScope s_law) := ⟨rfl, rfl, rfl, by decide +kernel, rfl, by decide +kernel, by decide +kernel⟩
/-- a written tuple -/
def TupK (K : PySem.W.Frag) (a : Addr) (xs : List V) : Prop := ∀ H : Hp, SqT K H a xs
theorem TupK.of {K : PySem.W.Frag} {a : Addr} {xs : List V} {od : Option Addr} {its : Array Value} {n : Nat} {sl : Array (Option Value)} (h : K.lookup a = some ⟨.type "tuple", od, .seq its n, sl⟩) (hz : its.size ≤ sizeLine) (r : Vals xs its.toList) : TupK K a xs :=
  fun _ => .inr ⟨_, its, n, h, rfl, rfl, hz, r⟩
structure Gx (K : PySem.W.Frag) (mg : Str → Option Value) where
  C_Possibilities : Addr
  cl_Possibilities : Cls K C_Possibilities
  gC_Possibilities : mg "Possibilities" = some (.ref C_Possibilities)
  n_Possibilities__values : NoAttr K C_Possibilities "_values"
  n_Possibilities__under_way : NoAttr K C_Possibilities "_under_way"
  f_is_number : Addr
  fd_is_number : FuncData
  F_is_number : Fun K "is_number" "is_number" s_is_number f_is_number fd_is_number
  g_is_number : mg "is_number" = some (.ref f_is_number)
  f_is_number_from : Addr
  fd_is_number_from : FuncData
  F_is_number_from : Fun K "is_number_from" "is_number_from" s_is_number_from f_is_number_from fd_is_number_from
  g_is_number_from : mg "is_number_from" = some (.ref f_is_number_from)
  f_check_blocks : Addr
  fd_check_blocks : FuncData
  F_check_blocks : FunD K "check_blocks" "check_blocks" (defArgs s_check_blocks) (defBody s_check_blocks) (defScope s_check_blocks) [.int 16] [] f_check_blocks fd_check_blocks
  g_check_blocks : mg "check_blocks" = some (.ref f_check_blocks)
  f_Possibilities___init__ : Addr
  fd_Possibilities___init__ : FuncData
  F_Possibilities___init__ : Fun K "__init__" "Possibilities.__init__" s_Possibilities___init__ f_Possibilities___init__ fd_Possibilities___init__
  M_Possibilities___init__ : Mk K C_Possibilities f_Possibilities___init__
  f_Possibilities_follow : Addr
  fd_Possibilities_follow : FuncData
  F_Possibilities_follow : Fun K "follow" "Possibilities.follow" s_Possibilities_follow f_Possibilities_follow fd_Possibilities_follow
  m_Possibilities_follow : Meth K C_Possibilities "follow" f_Possibilities_follow
  f_Possibilities_values_now : Addr
  fd_Possibilities_values_now : FuncData
  F_Possibilities_values_now : Fun K "values_now" "Possibilities.values_now" s_Possibilities_values_now f_Possibilities_values_now fd_Possibilities_values_now
  m_Possibilities_values_now : Meth K C_Possibilities "values_now" f_Possibilities_values_now
  f_first_error : Addr
  fd_first_error : FuncData
  F_first_error : Fun K "first_error" "first_error" s_first_error f_first_error fd_first_error
  g_first_error : mg "first_error" = some (.ref f_first_error)
  f_possible_values : Addr
  fd_possible_values : FuncData
  F_possible_values : Fun K "possible_values" "possible_values" s_possible_values f_possible_values fd_possible_values
  g_possible_values : mg "possible_values" = some (.ref f_possible_values)
  f__walk : Addr
  fd__walk : FuncData
  F__walk : Fun K "_walk" "_walk" s__walk f__walk fd__walk
  g__walk : mg "_walk" = some (.ref f__walk)
  f__has_form : Addr
  fd__has_form : FuncData
  F__has_form : Fun K "_has_form" "_has_form" s__has_form f__has_form fd__has_form
  g__has_form : mg "_has_form" = some (.ref f__has_form)
  f__law_random : Addr
  fd__law_random : FuncData
  F__law_random : Fun K "_law_random" "_law_random" s__law_random f__law_random fd__law_random
  g__law_random : mg "_law_random" = some (.ref f__law_random)
  f__law_below : Addr
  fd__law_below : FuncData
  F__law_below : Fun K "_law_below" "_law_below" s__law_below f__law_below fd__law_below
  g__law_below : mg "_law_below" = some (.ref f__law_below)
  f__law_log : Addr
  fd__law_log : FuncData
  F__law_log : Fun K "_law_log" "_law_log" s__law_log f__law_log fd__law_log
  g__law_log : mg "_law_log" = some (.ref f__law_log)
  f__law_equal : Addr
  fd__law_equal : FuncData
  F__law_equal : Fun K "_law_equal" "_law_equal" s__law_equal f__law_equal fd__law_equal
  g__law_equal : mg "_law_equal" = some (.ref f__law_equal)
  z_isinstance : mg "isinstance" = none
  z_int : mg "int" = none
  z_bool : mg "bool" = none
  z_str : mg "str" = none
  z_list : mg "list" = none
  z_tuple : mg "tuple" = none
  z_len : mg "len" = none
  z_abs : mg "abs" = none
  z_range : mg "range" = none
  z_enumerate : mg "enumerate" = none
  z_sorted : mg "sorted" = none
  z_set : mg "set" = none
  z_all : mg "all" = none
  t_MOST_BLOCKS : Tok
  c_MOST_BLOCKS : mg "MOST_BLOCKS" = some (.int (16) t_MOST_BLOCKS)
  t_MOST_VALUE : Tok
  c_MOST_VALUE : mg "MOST_VALUE" = some (.int (999) t_MOST_VALUE)
  t_ANY_VALUE : Tok
  c_ANY_VALUE : mg "ANY_VALUE" = some (.int (-1) t_ANY_VALUE)
  A_ENTRY_FORMS_0 : Addr
  k_ENTRY_FORMS_0 : TupK K A_ENTRY_FORMS_0 [.str "read", .int 3]
  A_ENTRY_FORMS_1 : Addr
  k_ENTRY_FORMS_1 : TupK K A_ENTRY_FORMS_1 [.str "begin", .int 3]
  A_ENTRY_FORMS_2 : Addr
  k_ENTRY_FORMS_2 : TupK K A_ENTRY_FORMS_2 [.str "done", .int 1]
  A_ENTRY_FORMS_3 : Addr
  k_ENTRY_FORMS_3 : TupK K A_ENTRY_FORMS_3 [.str "fail", .int 1]
  A_ENTRY_FORMS_4 : Addr
  k_ENTRY_FORMS_4 : TupK K A_ENTRY_FORMS_4 [.str "lost", .int 2]
  A_ENTRY_FORMS : Addr
  g_ENTRY_FORMS : mg "ENTRY_FORMS" = some (.ref A_ENTRY_FORMS)
  k_ENTRY_FORMS : TupK K A_ENTRY_FORMS [.ref A_ENTRY_FORMS_0, .ref A_ENTRY_FORMS_1, .ref A_ENTRY_FORMS_2, .ref A_ENTRY_FORMS_3, .ref A_ENTRY_FORMS_4]
section
variable {K : PySem.W.Frag} {mg : Str → Option Value}
theorem b_is_number (T : Gx K mg) : Binds K T.fd_is_number ["thing"] [] := T.F_is_number.binds (ps := ["thing"]) fun _ _ _ _ _ _ us hl => match us, hl with | [_], _ => rfl
theorem b_is_number_from (T : Gx K mg) : Binds K T.fd_is_number_from ["thing", "least", "most"] [] := T.F_is_number_from.binds (ps := ["thing", "least", "most"]) fun _ _ _ _ _ _ us hl => match us, hl with | [_, _, _], _ => rfl
theorem b_Possibilities___init__ (T : Gx K mg) : Binds K T.fd_Possibilities___init__ ["self", "blocks"] [] := T.F_Possibilities___init__.binds (ps := ["self", "blocks"]) fun _ _ _ _ _ _ us hl => match us, hl with | [_, _], _ => rfl
theorem b_Possibilities_follow (T : Gx K mg) : Binds K T.fd_Possibilities_follow ["self", "entry"] [] := T.F_Possibilities_follow.binds (ps := ["self", "entry"]) fun _ _ _ _ _ _ us hl => match us, hl with | [_, _], _ => rfl
theorem b_Possibilities_values_now (T : Gx K mg) : Binds K T.fd_Possibilities_values_now ["self"] [] := T.F_Possibilities_values_now.binds (ps := ["self"]) fun _ _ _ _ _ _ us hl => match us, hl with | [_], _ => rfl
theorem b_first_error (T : Gx K mg) : Binds K T.fd_first_error ["blocks", "log"] [] := T.F_first_error.binds (ps := ["blocks", "log"]) fun _ _ _ _ _ _ us hl => match us, hl with | [_, _], _ => rfl
theorem b_possible_values (T : Gx K mg) : Binds K T.fd_possible_values ["blocks", "log"] [] := T.F_possible_values.binds (ps := ["blocks", "log"]) fun _ _ _ _ _ _ us hl => match us, hl with | [_, _], _ => rfl
theorem b__walk (T : Gx K mg) : Binds K T.fd__walk ["blocks", "log"] [] := T.F__walk.binds (ps := ["blocks", "log"]) fun _ _ _ _ _ _ us hl => match us, hl with | [_, _], _ => rfl
theorem b__has_form (T : Gx K mg) : Binds K T.fd__has_form ["entry", "blocks"] [] := T.F__has_form.binds (ps := ["entry", "blocks"]) fun _ _ _ _ _ _ us hl => match us, hl with | [_, _], _ => rfl
theorem b__law_random (T : Gx K mg) : Binds K T.fd__law_random ["_law_script", "_law_salt"] [] := T.F__law_random.binds (ps := ["_law_script", "_law_salt"]) fun _ _ _ _ _ _ us hl => match us, hl with | [_, _], _ => rfl
theorem b__law_below (T : Gx K mg) : Binds K T.fd__law_below ["_law_d", "_law_limit"] [] := T.F__law_below.binds (ps := ["_law_d", "_law_limit"]) fun _ _ _ _ _ _ us hl => match us, hl with | [_, _], _ => rfl
theorem b__law_log (T : Gx K mg) : Binds K T.fd__law_log ["_law_d", "_law_blocks", "_law_length"] [] := T.F__law_log.binds (ps := ["_law_d", "_law_blocks", "_law_length"]) fun _ _ _ _ _ _ us hl => match us, hl with | [_, _, _], _ => rfl
theorem b__law_equal (T : Gx K mg) : Binds K T.fd__law_equal ["_law_actual", "_law_expected"] [] := T.F__law_equal.binds (ps := ["_law_actual", "_law_expected"]) fun _ _ _ _ _ _ us hl => match us, hl with | [_, _], _ => rfl
end
/-! ### heaps and frames -/
/-- outside S all that was tracked is as it was -/
def Fr (S : List Addr) (H H' : Hp) : Prop := ∀ b o, H b = some o → b ∉ S → H' b = some o
theorem Fr.refl (S : List Addr) (H : Hp) : Fr S H H := fun _ _ h _ => h
theorem Fr.trans {S : List Addr} {H H1 H2 : Hp} (a : Fr S H H1) (b : Fr S H1 H2) : Fr S H H2 := fun c o h n => b c o (a c o h n) n
theorem Fr.mono {S T : List Addr} {H H' : Hp} (a : Fr S H H') (h : ∀ b ∈ S, b ∈ T) : Fr T H H' := fun b o e n => a b o e (fun z => n (h b z))
theorem Fr.put {S : List Addr} {H : Hp} {a : Addr} {o : HO} (h : a ∈ S) : Fr S H (upd H a o) := fun b u e n => by
  rw [upd_ne (fun z => n (by rw [z]; exact h))]
  exact e
theorem Fr.new {S : List Addr} {H : Hp} {p : Addr} {o : HO} (h : H p = none) : Fr S H (upd H p o) := fun b u e _ => by
  rw [upd_ne (ne_of_none e h)]
  exact e
theorem Fr.nil_of {S : List Addr} {H H' : Hp} (a : Fr [] H H') : Fr S H H' := a.mono (fun _ h => by cases h)
theorem Fr.at_ {S : List Addr} {H H' : Hp} {b : Addr} {o : HO} (f : Fr S H H') (e : H b = some o) (n : b ∉ S) : H' b = some o := f b o e n
theorem fresh_out {H : Hp} {b : Addr} {o : HO} {p : Addr} (e : H b = some o) (n : H p = none) : b ≠ p := ne_of_none e n
/-- S and T share nothing -/
def Sep (S T : List Addr) : Prop := ∀ b ∈ S, b ∉ T
theorem Sep.symm {S T : List Addr} (h : Sep S T) : Sep T S := fun b hb hs => h b hs hb
/-- what owns S' came of S or is new, and so is apart from what stood in H -/
theorem Sep.grow {H : Hp} {S S' T : List Addr} (h : Sep S T) (g : ∀ b ∈ S', b ∈ S ∨ H b = none) (t : ∀ b ∈ T, ∃ o, H b = some o) : Sep S' T := fun b hb ht => by
  rcases g b hb with z | z
  · exact h b z ht
  · obtain ⟨o, e⟩ := t b ht
    rw [z] at e
    cases e
theorem vlen {α β : Type} {xs : List α} {f : α → β} : (xs.map f).length = xs.length := List.length_map f
theorem sz_le {n : Nat} (h : n ≤ 100000) : n ≤ sizeLine := Nat.le_trans h (by decide)
theorem sz_lt {n : Nat} (h : n < 100000) : n < sizeLine := Nat.lt_of_lt_of_le h (by decide)
theorem ix_at {n : Nat} (j : Nat) (h : j < n) : ixN n (j : Int) = some j := by
  unfold ixN
  rw [if_pos (Int.natCast_nonneg j), if_pos (by omega)]
  rfl
theorem free_upd {H : Hp} {a p : Addr} {o : HO} (h : upd H a o p = none) : H p = none ∧ p ≠ a := by
  by_cases e : p = a
  · rw [e, upd_same] at h
    cases h
  · rw [upd_ne e] at h
    exact ⟨h, e⟩
theorem int_at {ns : List Int} {i : Nat} {x : V} (h : (ns.map V.int)[i]? = some x) : ∃ u, x = V.int u ∧ ns[i]? = some u := by
  rw [List.getElem?_map] at h
  cases e : ns[i]? with
  | none =>
    rw [e] at h
    cases h
  | some u =>
    rw [e] at h
    exact ⟨u, (Option.some.inj h).symm, rfl⟩
theorem lt_of_at {α : Type} {xs : List α} {i : Nat} {x : α} (h : xs[i]? = some x) : i < xs.length := (List.getElem?_eq_some_iff.mp h).1
theorem Fr.seq {K : PySem.W.Frag} {S : List Addr} {H H' : Hp} {a : Addr} {xs : List V} (f : Fr S H H') (n : a ∉ S) (h : SqL K H a xs) : SqL K H' a xs := by
  rcases h with (h | ⟨o, h⟩) | h
  · exact .inl (.inl (f _ _ h n))
  · exact .inl (.inr ⟨o, f _ _ h n⟩)
  · exact .inr h
theorem Fr.tup {K : PySem.W.Frag} {S : List Addr} {H H' : Hp} {a : Addr} {xs : List V} (f : Fr S H H') (n : a ∉ S) (h : SqT K H a xs) : SqT K H' a xs := by
  rcases h with (h | ⟨o, h⟩) | h
  · exact .inl (.inl (f _ _ h n))
  · exact .inl (.inr ⟨o, f _ _ h n⟩)
  · exact .inr h
theorem some_of {H H' : Hp} {S : List Addr} (f : Fr S H H') (hs : ∀ b ∈ S, ∃ o, H' b = some o) {p : Addr} (h : H' p = none) : H p = none := by
  cases e : H p with
  | none => rfl
  | some o =>
    by_cases hp : p ∈ S
    · obtain ⟨o', e'⟩ := hs p hp
      rw [e'] at h
      cases h
    · rw [f p o e hp] at h
      cases h
theorem pe_never {X : Cx} {e : Expr} : PE X e (fun _ _ _ => False) := ⟨fun _ _ _ _ _ _ h => h.elim⟩
theorem iteFb {A B : Prop} {b : Bool} (e : b = false) (h : B) : if b = true then A else B := by
  rw [if_neg (by rw [e]; simp)]
  exact h
theorem iteTb {A B : Prop} {b : Bool} (e : b = true) (h : A) : if b = true then A else B := by
  rw [if_pos e]
  exact h
/-! ### the law's random list -/
def Rnd (H : Hp) (r : Addr) : Prop := ∃ (a b : Int) (ns : List Int), H r = some (.lst (V.int a :: V.int b :: ns.map V.int))
def spBelow : Sp := fun vs H Q _ => ∃ (r : Addr) (lim : Nat), vs = [.ref r, .int (lim : Int)] ∧ Rnd H r ∧ 0 < lim ∧ lim < 1180591620717411303424 ∧ ∀ (z : Nat) (H' : Hp), z < lim → Fr [r] H H' → Rnd H' r → Q (.int (z : Int)) H'
theorem Rnd.put {H : Hp} {r : Addr} (a b : Int) (ns : List Int) : Rnd (upd H r (.lst (V.int a :: V.int b :: ns.map V.int))) r := ⟨a, b, ns, upd_same⟩
theorem Rnd.notup {H : Hp} {r : Addr} (h : Rnd H r) : ∀ b ∈ [r], ∀ xs, H b ≠ some (.tup xs) := by
  obtain ⟨a, b, ns, e⟩ := h
  intro b hb xs
  rw [List.mem_singleton.mp hb, e]
  simp
theorem Rnd.keep {H H' : Hp} {r : Addr} {S : List Addr} (h : Rnd H r) (f : Fr S H H') (n : r ∉ S) : Rnd H' r := by
  obtain ⟨a, b, ns, e⟩ := h
  exact ⟨a, b, ns, f _ _ e n⟩
section
variable {P : Program} {w : World} {K : PySem.W.Frag} {mg : Str → Option Value} {base : Heap}
theorem ok_below (T : Gx K mg) : FnOk P w K mg base CX0 1 T.f__law_below T.fd__law_below ["_law_d", "_law_limit"] spBelow := by
  refine T.F__law_below.ok sc__law_below (fun vs H Q E h => ?_) (fun cdv A outer s H vs Q E hr h => ?_)
  · obtain ⟨r, lim, rfl, _⟩ := h
    rfl
  · obtain ⟨r, lin, rfl, hR, h0', h1', k'⟩ := h
    obtain ⟨lim, hlim⟩ : ∃ lim : Int, lim = (lin : Int) := ⟨_, rfl⟩
    have h0 : 0 < lim := by omega
    have h1 : lim < 1180591620717411303424 := by omega
    have k : ∀ (z : Int) (H' : Hp), 0 ≤ z → z < lim → Fr [r] H H' → Rnd H' r → Q (.int z) H' := fun z H' a b f g => by
      obtain ⟨n, rfl⟩ := Int.eq_ofNat_of_zero_le a
      exact k' n H' (by omega) f g
    rw [← hlim]
    refine ⟨_, C8.pss_cut (ps_if (PW.pt (pw_and (pt_cmpR op_eq (pe_ix ix_list (pv 0) pe_int (fun _ _ => rfl)) pe_int (nomark _))
          (pw_and1 (pt_cmpR op_gt (pe_callB call_len_seq (by rfl) T.z_len PySem.boot_len (pa_cons (pv 0) pa_nil)) pe_int (nomark _)))))
        (pss_one (ps_asg (pe_bm PySem.F.plainAttrs_list PySem.F.slot_list_pop PySem.F.type_list_pop mt_popAt (pv 0) (pa_cons pe_int pa_nil)) (pg_sub (pv 0) pe_int set_list))) pss_nil)
      (pss_cons (ps_if (pt_cmpR op_gt (pe_ix ix_list (pv 0) pe_int (fun _ _ => rfl)) pe_int (nomark _))
        (pss_cons (ps_set (i := 2) sc__law_below.nd rfl (.inl rfl) (pe_op op_mod (pe_callTy call_int1 (by rfl) T.z_int (by decide +kernel) (pa_cons (pe_ix ix_list (pv 0) pe_int (fun _ _ => rfl)) pa_nil)) (pv 1)))
        (pss_cons (ps_asg (pe_op op_fdivW (pe_ix ix_list (pv 0) pe_int (fun _ _ => rfl)) (pv 1)) (pg_sub (pv 0) pe_int set_list))
        (pss_one (ps_ret (pv 2))))) pss_nil)
      (pss_cons (ps_asg (pe_op op_mod (pe_callTy call_int1 (by rfl) T.z_int (by decide +kernel) (pa_cons (pe_op op_add (pe_op op_mul (pe_ix ix_list (pv 0) pe_int (fun _ _ => rfl)) pe_int) pe_int) pa_nil)) pe_int) (pg_sub (pv 0) pe_int set_list))
      (pss_one (ps_ret (pe_op op_mod (pe_callTy call_int1 (by rfl) T.z_int (by decide +kernel) (pa_cons (pe_op op_fdiv (pe_ix ix_list (pv 0) pe_int (fun _ _ => rfl)) pe_int) pa_nil)) (pv 1)))))), ?_⟩
    refine ⟨fun σ H1 => σ = [some (.ref r), some (.int lim), none] ∧ Rnd H1 r ∧ Fr [r] H H1, ?_, ?_⟩
    · obtain ⟨a, b, ns, e⟩ := hR
      have hR0 : Rnd H r := ⟨a, b, ns, e⟩
      refine ⟨_, rfl, r, _, 1, .int b, rfl, rfl, SqL.of e, atI_nat (j := 1) rfl, rfl, _, rfl, ite2 (fun hb => ?_) (fun hb => ?_)⟩
      · refine ⟨_, rfl, r, _, rfl, .inl (SqL.of e), _, _, rfl, rfl, _, rfl, ite2 (fun hl => ?_) (fun hl => ?_)⟩
        · have hl' : (2 : Int) < ((V.int a :: V.int b :: ns.map V.int).length : Int) := of_decide_eq_true hl
          cases ns with
          | nil => exact absurd hl' (by simp)
          | cons c rest =>
            refine ⟨_, rfl, .inl ⟨rfl, _, SqL.of e⟩, r, _, 2, 2, .int c, rfl, rfl, e, by decide, by decide, ?_, rfl, ?_⟩
            · show seqIndex? 2 _ = some 2
              unfold seqIndex?
              rw [List.length_cons, List.length_cons, List.map_cons, List.length_cons]
              simp
              omega
            · refine ⟨_, rfl, r, _, 1, 1, rfl, rfl, upd_same, ?_, rfl, ?_, ?_⟩
              · exact ix_at 1 (by simp [List.length_eraseIdx])
              · rw [upd_upd]
                exact Rnd.put a c rest
              · rw [upd_upd]
                exact Fr.put (List.mem_singleton.mpr rfl)
        · exact ⟨rfl, hR0, Fr.refl _ _⟩
      · exact ⟨rfl, hR0, Fr.refl _ _⟩
    · rintro σ' H1 ⟨rfl, ⟨a, b, ns, e⟩, fr⟩
      refine ⟨_, rfl, r, _, 1, .int b, rfl, rfl, SqL.of e, atI_nat (j := 1) rfl, _, _, rfl, rfl, _, rfl, ite2 (fun hb => ?_) (fun hb => ?_)⟩
      · refine ⟨_, rfl, r, _, 1, .int b, rfl, rfl, SqL.of e, atI_nat (j := 1) rfl, .inl ⟨_, rfl, ?_⟩⟩
        refine ⟨_, rfl, _, _, rfl, rfl, h0, ?_⟩
        refine ⟨_, rfl, r, _, 1, .int b, rfl, rfl, SqL.of e, atI_nat (j := 1) rfl, _, rfl, _, _, rfl, rfl, wide_div (b := 70) h0 (by omega) (by decide) (by decide), ?_⟩
        refine ⟨_, rfl, r, _, 1, 1, rfl, rfl, e, ix_at 1 (by simp), ?_⟩
        refine ⟨_, rfl, k _ _ (Int.emod_nonneg _ (by omega)) (Int.emod_lt_of_pos _ h0) (fr.trans (Fr.put (List.mem_singleton.mpr rfl))) (Rnd.put a _ ns)⟩
      · refine ⟨_, rfl, r, _, 0, .int a, rfl, rfl, SqL.of e, atI_nat (j := 0) rfl, _, _, rfl, rfl, .inr (by decide), _, _, rfl, rfl, .inl ⟨_, rfl, _, _, rfl, rfl, (by show (0 : Int) < 2147483647; decide), ?_⟩⟩
        refine ⟨_, rfl, r, _, 0, 0, rfl, rfl, e, ix_at 0 (by simp), ?_⟩
        refine ⟨_, rfl, r, _, 0, _, rfl, rfl, SqL.of upd_same, atI_nat (j := 0) rfl, _, _, rfl, rfl, ⟨by decide, by decide⟩, .inl ⟨_, rfl, _, rfl, _, _, rfl, rfl, h0, ?_⟩⟩
        exact k _ _ (Int.emod_nonneg _ (by omega)) (Int.emod_lt_of_pos _ h0) (fr.trans (Fr.put (List.mem_singleton.mpr rfl))) (Rnd.put _ b ns)
end
def spRandom (K : PySem.W.Frag) : Sp := fun vs H Q _ => ∃ (a : Addr) (salt : Int) (ns : List Int), vs = [.ref a, .int salt] ∧ SqL K H a (ns.map V.int) ∧ ns.length ≤ 63 ∧ ∀ (r : Addr) (H' : Hp), H r = none → Fr [] H H' → Rnd H' r → Q (.ref r) H'
section
variable {P : Program} {w : World} {K : PySem.W.Frag} {mg : Str → Option Value} {base : Heap}
theorem ok_random (T : Gx K mg) : FnOk P w K mg base CX0 1 T.f__law_random T.fd__law_random ["_law_script", "_law_salt"] (spRandom K) := by
  refine T.F__law_random.ok sc__law_random (fun vs H Q E h => ?_) (fun cdv A outer s H vs Q E hr h => ?_)
  · obtain ⟨a, salt, ns, rfl, _⟩ := h
    rfl
  · obtain ⟨a, salt, ns, rfl, hS, hlen, k⟩ := h
    refine ⟨_, pss_cons (ps_set (i := 2) sc__law_random.nd rfl (.inl rfl) (pv 1))
      (pss_cons (ps_for PassesOwn.never rfl (pi_list (pv 0)) (pg_name (i := 3) sc__law_random.nd rfl (.inl rfl))
        (pss_one (ps_set (i := 2) sc__law_random.nd rfl (.inl rfl) (pe_op op_mod (pe_callTy call_int1 (by rfl) T.z_int (by decide +kernel) (pa_cons (pe_op op_add (pe_op op_mul (pv 2) pe_int) (pe_callB call_abs (by rfl) T.z_abs (by decide +kernel) (pa_cons (pv 3) pa_nil))) pa_nil)) pe_int))))
      (pss_one (ps_ret (pe_op op_cat (pe_lst (pa_cons (pv 2) (pa_cons pe_int pa_nil))) (pe_lc (own := [("_law_cell", 3)]) (g := gName 3) rfl sc__law_random.nd (pi_list (pv 0)) (blkOk_by (N := ["_law_script", "_law_salt", "_law_seed", "_law_cell"]) (sc := defScope s__law_random) (by decide +kernel)) (fun _ _ _ _ _ => pg_name (i := 3) sc__law_random.nd rfl (.inl rfl)) (fun _ _ _ _ _ => pts_one (pt_cmpR op_ge (pv 3) (pe_op op_pow pe_int pe_int) (nomark _))) (fun _ _ _ _ _ => pv 3)))))), ?_⟩
    refine ⟨_, rfl, _, rfl, a, rfl, ⟨_, hS⟩, for_list (K := K) (a := a) (xs := ns.map V.int) (fun i σ H' => H' = H ∧ ∃ (z : Int) (v : Option V), σ = [some (.ref a), some (.int salt), some (.int z), v]) ⟨rfl, salt, none, rfl⟩ (fun i σ H' _ e => by rw [e.1]; exact hS) ?_ ?_⟩
    · rintro i x σ H' hi ⟨rfl, z, v, rfl⟩
      obtain ⟨u, rfl, _⟩ := int_at hi
      exact ⟨_, rfl, _, _, rfl, rfl, .inr (by decide), _, rfl, _, rfl, _, _, rfl, rfl, .inl ⟨_, rfl, _, _, rfl, rfl, (by show (0 : Int) < 2147483647; decide), rfl, _, _, rfl⟩⟩
    · rintro σ H' ⟨rfl, z, v, rfl⟩
      refine ⟨_, rfl, sz_le (by simp), fun l hl => ?_⟩
      have sl : Fr [] H' (upd H' l (.lst [V.int z, V.int 0])) := Fr.new hl
      have hS1 : SqL K (upd H' l (.lst [V.int z, V.int 0])) a (ns.map V.int) := sl.seq (by simp) hS
      refine ⟨_, rfl, a, rfl, ⟨_, hS1⟩, fun D hD => ?_⟩
      have hDl := free_upd hD
      refine lc_list (K := K) (a := a) (xs := ns.map V.int) (fun i H2 => ∃ ms : List Int, ms.length ≤ i ∧ H2 = upd (upd H' l (.lst [V.int z, V.int 0])) D (.lst (ms.map V.int))) ⟨[], Nat.le_refl _, rfl⟩ ?_ ?_ ?_
      · rintro i H2 _ ⟨ms, _, rfl⟩
        exact (Fr.new (S := []) hD).seq (by simp) hS1
      · rintro i x H2 hi ⟨ms, hm, rfl⟩
        obtain ⟨u, rfl, _⟩ := int_at hi
        have li := lt_of_at hi
        rw [List.length_map] at li
        refine ⟨rfl, _, rfl, _, _, rfl, rfl, ⟨by decide, by decide, by decide⟩, _, _, rfl, rfl, _, rfl, ite2 (fun _ => ?_) (fun _ => ?_)⟩
        · refine ⟨_, rfl, _, upd_same, ?_, ms ++ [u], ?_, ?_⟩
          · rw [List.length_map]
            exact sz_lt (by omega)
          · rw [List.length_append, List.length_singleton]
            omega
          · rw [upd_upd, List.map_append]
            rfl
        · exact ⟨ms, by omega, rfl⟩
      · rintro H2 ⟨ms, hm, rfl⟩
        rw [List.length_map] at hm
        refine ⟨l, D, [V.int z, V.int 0], _, rfl, rfl, ?_, upd_same, ?_, fun p hp => ?_⟩
        · rw [upd_ne hDl.2.symm]
          exact upd_same
        · rw [List.length_map]
          exact sz_le (by simp; omega)
        · obtain ⟨hp1, _⟩ := free_upd hp
          obtain ⟨hp2, _⟩ := free_upd hp1
          exact k p _ hp2 ((sl.trans (Fr.new hD)).trans (Fr.new hp)) ⟨z, 0, ms, upd_same⟩
end
/-! ### what counts as a number -/
def spNum (K : PySem.W.Frag) : Sp := fun vs H Q _ => ∃ (v : V) (t : Value) (b1 b2 : Bool), vs = [v] ∧ TyX K H v t ∧ PySem.W.kitOne K t (.type "int") = some b1 ∧ PySem.W.kitOne K t (.type "bool") = some b2 ∧ Q (.bl (b1 && !b2)) H
def spNumFrom (K : PySem.W.Frag) : Sp := fun vs H Q _ => ∃ (v : V) (lo hi : Int), vs = [v, .int lo, .int hi] ∧
  ((∃ i : Int, v = .int i ∧ Q (.bl (decide (lo ≤ i) && decide (i ≤ hi))) H) ∨ ∃ (t : Value) (b1 b2 : Bool), TyX K H v t ∧ PySem.W.kitOne K t (.type "int") = some b1 ∧ PySem.W.kitOne K t (.type "bool") = some b2 ∧ (b1 && !b2) = false ∧ Q (.bl false) H)
section
variable {P : Program} {w : World} {K : PySem.W.Frag} {mg : Str → Option Value} {base : Heap}
theorem ok_num (T : Gx K mg) : FnOk P w K mg base CX0 1 T.f_is_number T.fd_is_number ["thing"] (spNum K) := by
  refine T.F_is_number.ok sc_is_number (fun vs H Q E h => ?_) (fun cdv A outer s H vs Q E hr h => ?_)
  · obtain ⟨v, t, b1, b2, rfl, _⟩ := h
    rfl
  · obtain ⟨v, t, b1, b2, rfl, ty, e1, e2, k⟩ := h
    refine ⟨_, pss_one (ps_ret (pe_and (pe_callB call_isi (by rfl) T.z_isinstance (by decide +kernel) (pa_cons (pv 0) (pa_cons (pe_bltn (v := .ty "int") (by rfl) T.z_int (by decide +kernel) rfl) pa_nil)))
      (pe_one (pe_not (pe_callB call_isi (by rfl) T.z_isinstance (by decide +kernel) (pa_cons (pv 0) (pa_cons (pe_bltn (v := .ty "bool") (by rfl) T.z_bool (by decide +kernel) rfl) pa_nil))))))), ?_⟩
    refine ⟨v, rfl, v, .ty "int", t, _, b1, rfl, ClsV.ty "int", ty, e1, b1, rfl, ?_⟩
    cases b1 with
    | false => exact iteF k
    | true => exact iteT ⟨v, rfl, v, .ty "bool", t, _, b2, rfl, ClsV.ty "bool", ty, e2, b2, rfl, k⟩
theorem ok_numFrom (T : Gx K mg) : FnOk P w K mg base CX0 2 T.f_is_number_from T.fd_is_number_from ["thing", "least", "most"] (spNumFrom K) := by
  have G1 : FnOk P w K mg base CX0 1 T.f_is_number T.fd_is_number ["thing"] (spNum K) := ok_num T
  refine T.F_is_number_from.ok sc_is_number_from (fun vs H Q E h => ?_) (fun cdv A outer s H vs Q E hr h => ?_)
  · obtain ⟨v, lo, hi, rfl, _⟩ := h
    rfl
  · obtain ⟨v, lo, hi, rfl, h⟩ := h
    refine ⟨_, pss_one (ps_ret (pe_and (pe_call G1 hr (by rfl) T.g_is_number T.F_is_number.kp (b_is_number T) .nil pass0 (pa_cons (pv 0) pa_nil)) (pe_one (pe_chain op_le op_le (pv 1) (pv 0) (pv 2))))), ?_⟩
    rcases h with ⟨i, rfl, k⟩ | ⟨t, b1, b2, ty, e1, e2, e3, k⟩
    · refine ⟨_, rfl, .int i, .type "int", true, false, rfl, .base (.int i), kit_ty (by decide +kernel), kit_ty (by decide +kernel), true, rfl, iteT ?_⟩
      refine ⟨_, rfl, _, rfl, _, _, rfl, rfl, _, rfl, ?_⟩
      by_cases hl : lo ≤ i
      · rw [decide_eq_true hl] at k ⊢
        exact iteT ⟨_, rfl, _, _, rfl, rfl, k⟩
      · rw [decide_eq_false hl] at k ⊢
        exact iteF k
    · refine ⟨_, rfl, v, t, b1, b2, rfl, ty, e1, e2, _, rfl, ?_⟩
      rw [e3]
      exact iteF k
end
theorem ix_listK {X : Cx} {K : PySem.W.Frag} (h : X.K = K) : IxR X (rIxL K) := by
  subst h
  exact ix_list
theorem ix_tupK {X : Cx} {K : PySem.W.Frag} (h : X.K = K) : IxR X (rIxT K) := by
  subst h
  exact ix_tup
theorem Fr.upd0 {H H1 : Hp} {D : Addr} {o : HO} (f : Fr [] H H1) (h : H D = none) : Fr [] H (upd H1 D o) := fun b u e n => by
  have hb : b ≠ D := fun z => by rw [z, h] at e; cases e
  rw [upd_ne hb]
  exact f b u e n
theorem for_enumL {K : PySem.W.Frag} {a : Addr} {xs : List V} {g : TG} {tb : TS} {D : Ends} {σ : L2.St} {H : Hp} (Pv : Nat → L2.St → Hp → Prop) (h0 : Pv 0 σ H) (hl : ∀ i σ H, i ≤ xs.length → Pv i σ H → SqL K H a xs)
    (hs : ∀ i x σ H T, xs[i]? = some x → Pv i σ H → H T = none → g (.ref T) σ (upd H T (.tup [.int (i : Nat), x])) fun σ2 H2 => tb { D with nx := Pv (i + 1), ct := Pv (i + 1), bk := D.nx } σ2 H2) (hd : ∀ σ H, Pv xs.length σ H → D.nx σ H) :
    ∃ W : Nat → Nat → L2.St → Hp → Prop, (∃ m, W 0 m σ H) ∧ ∀ i m σ H, W i m σ H →
      ((Ite K a).stop i H ∧ D.nx σ H) ∨ ((Ite K a).go i H ∧ ∃ N : L2.St → Hp → Prop, (∀ σ' H', N σ' H' → ∃ m', m' < m ∧ W (i + 1) m' σ' H') ∧ ∀ x H', (Ite K a).yld i H x H' → g x σ H' fun σ2 H2 => tb { D with nx := N, ct := N, bk := D.nx } σ2 H2) := by
  refine for_it (walk_enum (K := K) (a := a) (xs := xs)) Pv h0 hl (fun i x σ H H' hi p y => ?_) hd
  obtain ⟨T, x', y', rfl, hT, rfl, e1, e2⟩ := y
  cases e1
  exact hs i y' σ H T e2 p hT
/-! ### rules within a comprehension: what is written stands outside -/
theorem call_list_ofK {X : Cx} {K : PySem.W.Frag} (h : X.K = K) : CallR X (.type "list") (fun xs H Q => ∃ p ys, xs = [.ref p] ∧ (SqL K H p ys ∨ SqT K H p ys) ∧ ∀ l, H l = none → Q (.ref l) (upd H l (.lst ys))) := by
  subst h
  exact call_list_of
theorem call_tuple_ofK {X : Cx} {K : PySem.W.Frag} (h : X.K = K) : CallR X (.type "tuple") (fun xs H Q => ∃ p ys, xs = [.ref p] ∧ ((SqL K H p ys ∧ ∀ l, H l = none → Q (.ref l) (upd H l (.tup ys))) ∨ (SqT K H p ys ∧ Q (.ref p) H))) := by
  subst h
  exact call_tuple_of
theorem call_len_seqK {X : Cx} {K : PySem.W.Frag} (h : X.K = K) : CallR X (.builtin "len") (fun xs H Q => ∃ p ys, xs = [.ref p] ∧ (SqL K H p ys ∨ SqT K H p ys) ∧ Q (.int ys.length) H) := by
  subst h
  exact call_len_seq
theorem cr_sortedK {X : Cx} {K : PySem.W.Frag} (h : X.K = K) : CallR X (.builtin "sorted") (rSorted K) := by
  subst h
  exact cr_sorted
theorem sl_listK {X : Cx} {K : PySem.W.Frag} (h : X.K = K) : SlR X (rSlL K) := by
  subst h
  exact sl_list
theorem sl_tupK {X : Cx} {K : PySem.W.Frag} (h : X.K = K) : SlR X (rSlT K) := by
  subst h
  exact sl_tup
theorem op_notInK {X : Cx} {K : PySem.W.Frag} (h : X.K = K) : OpR X (compareOp .NotIn) (rIn K true) := by
  subst h
  exact op_notIn_seq
theorem op_inK {X : Cx} {K : PySem.W.Frag} (h : X.K = K) : OpR X (compareOp .In) (rIn K false) := by
  subst h
  exact op_in_seq
theorem op_eqDK {X : Cx} {K : PySem.W.Frag} (h : X.K = K) (hu : X.A.units + 64 < cLine) : OpR X (compareOp .Eq) (rEqD K) := by
  subst h
  exact op_eqD hu
theorem op_neDK2 {X : Cx} {K : PySem.W.Frag} (h : X.K = K) (hu : X.A.units + 64 < cLine) : OpR X (compareOp .NotEq) (rNeD K) := by
  subst h
  exact op_neD hu
/-! ### attributes -/
def lF (a b : V) : List (Str × V) := [("_values", a), ("_under_way", b)]
theorem lnf0_1 : ¬ (("_values" : Str) = "_under_way") := by decide +kernel
theorem lbf0_1 : (("_values" : Str) == "_under_way") = false := by decide +kernel
theorem lnf1_0 : ¬ (("_under_way" : Str) = "_values") := by decide +kernel
theorem lbf1_0 : (("_under_way" : Str) == "_values") = false := by decide +kernel
theorem lbf0_0 : (("_values" : Str) == "_values") = true := by decide +kernel
theorem lbf1_1 : (("_under_way" : Str) == "_under_way") = true := by decide +kernel
theorem lF_get0 {a b : V} : (lF a b).lookup ("_values" : Str) = some a := by
  unfold lF
  simp only [List.lookup, lbf0_0]
theorem lF_put0 {a b z : V} : putF "_values" z (lF a b) = lF z b := by
  unfold lF
  simp only [putF, if_true, eq_self_iff_true]
theorem lF_get1 {a b : V} : (lF a b).lookup ("_under_way" : Str) = some b := by
  unfold lF
  simp only [List.lookup, lbf1_0, lbf1_1]
theorem lF_put1 {a b z : V} : putF "_under_way" z (lF a b) = lF a z := by
  unfold lF
  simp only [putF, if_neg lnf0_1, if_true, eq_self_iff_true]
theorem lF_made {a b : V} : (putF "_under_way" b (putF "_values" a [])) = lF a b := by
  unfold lF
  simp only [putF, if_neg lnf0_1]
theorem lF_no_follow {a b : V} : (lF a b).lookup ("follow" : Str) = none := by
  unfold lF
  simp only [List.lookup, (show (("follow" : Str) == "_values") = false by decide +kernel), (show (("follow" : Str) == "_under_way") = false by decide +kernel)]
theorem lF_no_values_now {a b : V} : (lF a b).lookup ("values_now" : Str) = none := by
  unfold lF
  simp only [List.lookup, (show (("values_now" : Str) == "_values") = false by decide +kernel), (show (("values_now" : Str) == "_under_way") = false by decide +kernel)]
theorem putF_len (f : Str) (v : V) : ∀ fs : List (Str × V), (putF f v fs).length ≤ fs.length + 1
  | [] => Nat.le_refl _
  | (g, x) :: r => by
    show (if g = f then (g, v) :: r else (g, x) :: putF f v r).length ≤ r.length + 1 + 1
    split
    · simp
    · have := putF_len f v r
      simp only [List.length_cons]
      omega
/-! ### one change behind another -/
theorem Fr.nah {S : List Addr} {H H1 : Hp} {b : Addr} (f : Fr S H H1) (h : H1 b = none) : b ∈ S ∨ H b = none := by
  by_cases z : b ∈ S
  · exact .inl z
  · right
    cases e : H b with
    | none => rfl
    | some o =>
      rw [f b o e z] at h
      cases h
def Gw (S : List Addr) (H : Hp) (S' : List Addr) : Prop := ∀ b ∈ S', b ∈ S ∨ H b = none
theorem Fr.grow {S S1 : List Addr} {H H1 H2 : Hp} (f1 : Fr S H H1) (f2 : Fr S1 H1 H2) (g : Gw S H S1) : Fr S H H2 := fun b o e n => f2 b o (f1 b o e n) fun z => (g b z).elim n fun y => by
  rw [e] at y
  cases y
theorem Gw.trans {S S1 S2 : List Addr} {H H1 : Hp} (f : Fr S H H1) (g1 : Gw S H S1) (g2 : Gw S1 H1 S2) : Gw S H S2 := fun b hb => (g2 b hb).elim (g1 b) f.nah
theorem Gw.refl (S : List Addr) (H : Hp) : Gw S H S := fun _ h => .inl h
/-! ### what a log tells -/
inductive En where
  | rd (b : Nat) (v : Int)
  | bg (b : Nat) (v : Int)
  | dn
  | fl
  | ls (b : Nat)
def En.vs : En → List V
  | .rd b v => [.str "read", .int (b : Int), .int v]
  | .bg b v => [.str "begin", .int (b : Int), .int v]
  | .dn => [.str "done"]
  | .fl => [.str "fail"]
  | .ls b => [.str "lost", .int (b : Int)]
def En.ok (nb : Nat) : En → Prop
  | .rd b v => b < nb ∧ 0 ≤ v ∧ v ≤ 999
  | .bg b v => b < nb ∧ 0 ≤ v ∧ v ≤ 999
  | .ls b => b < nb
  | _ => True
structure Po where
  vs : List (List Int)
  un : Option (Nat × Int)
def addV (v : Int) (l : List Int) : List Int := if v ∈ l then l else l ++ [v]
def allV : List Int := (List.range 1000).map fun (n : Nat) => (n : Int)
def Po.now (p : Po) : List (List Int) := match p.un with
  | none => p.vs
  | some (b, v) => p.vs.set b (addV v (p.vs.getD b []))
def Po.go (p : Po) : En → Option Po
  | .fl => some ⟨p.now, none⟩
  | .dn => match p.un with
    | none => none
    | some (b, v) => some ⟨p.vs.set b [v], none⟩
  | .bg b v => if p.un.isSome then none else some ⟨p.vs, some (b, v)⟩
  | .ls b => if p.un.isSome then none else some ⟨p.vs.set b allV, none⟩
  | .rd b v => if p.un.isSome then none else if v ∈ p.vs.getD b [] then some ⟨p.vs.set b [v], none⟩ else none
/-- how the lists of values stand in n steps -/
structure PoOk (nb n : Nat) (p : Po) : Prop where
  len : p.vs.length = nb
  un : ∀ b v, p.un = some (b, v) → b < nb ∧ 0 ≤ v ∧ v ≤ 999
  vs : ∀ l ∈ p.vs, l = allV ∨ (l ≠ [] ∧ l.Nodup ∧ l.length ≤ n + 1 ∧ ∀ v ∈ l, 0 ≤ v ∧ v ≤ 999)
theorem mem_allV {v : Int} : v ∈ allV ↔ 0 ≤ v ∧ v ≤ 999 := by
  unfold allV
  rw [List.mem_map]
  constructor
  · rintro ⟨n, hn, rfl⟩
    rw [List.mem_range] at hn
    omega
  · rintro ⟨h0, h1⟩
    exact ⟨v.toNat, List.mem_range.mpr (by omega), by omega⟩
theorem allV_len : allV.length = 1000 := by
  unfold allV
  rw [List.length_map, List.length_range]
theorem addV_ok {n : Nat} {v : Int} {l : List Int} (hv : 0 ≤ v ∧ v ≤ 999) (h : l = allV ∨ (l ≠ [] ∧ l.Nodup ∧ l.length ≤ n + 1 ∧ ∀ v ∈ l, 0 ≤ v ∧ v ≤ 999)) : addV v l = allV ∨ (addV v l ≠ [] ∧ (addV v l).Nodup ∧ (addV v l).length ≤ n + 1 + 1 ∧ ∀ v' ∈ addV v l, 0 ≤ v' ∧ v' ≤ 999) := by
  unfold addV
  rcases h with rfl | ⟨h0, h1, h2, h3⟩
  · rw [if_pos (mem_allV.mpr hv)]
    exact .inl rfl
  · by_cases z : v ∈ l
    · rw [if_pos z]
      exact .inr ⟨h0, h1, by omega, h3⟩
    · rw [if_neg z]
      refine .inr ⟨by simp, ?_, by rw [List.length_append, List.length_singleton]; omega, ?_⟩
      · rw [List.nodup_append]
        exact ⟨h1, by simp, fun a ha b hb e => z (by rw [List.mem_singleton] at hb; rw [← hb, ← e]; exact ha)⟩
      · intro u hu
        rcases List.mem_append.mp hu with y | y
        · exact h3 u y
        · rw [List.mem_singleton.mp y]
          exact hv
theorem one_ok {n : Nat} {v : Int} (hv : 0 ≤ v ∧ v ≤ 999) : [v] = allV ∨ ([v] ≠ [] ∧ [v].Nodup ∧ [v].length ≤ n + 1 ∧ ∀ v' ∈ [v], 0 ≤ v' ∧ v' ≤ 999) :=
  .inr ⟨by simp, by simp, by simp, fun u hu => by rw [List.mem_singleton.mp hu]; exact hv⟩
theorem getD_mem {α : Type} {xs : List α} {i : Nat} {d : α} (h : i < xs.length) : xs.getD i d ∈ xs := by
  rw [List.getD_eq_getElem?_getD, List.getElem?_eq_getElem h]
  exact List.getElem_mem h
theorem mem_set {α : Type} {xs : List α} {i : Nat} {a y : α} (h : y ∈ xs.set i a) : y = a ∨ y ∈ xs := (List.mem_or_eq_of_mem_set h).symm
theorem PoOk.up {nb n : Nat} {p : Po} (h : PoOk nb n p) : PoOk nb (n + 1) p := ⟨h.len, h.un, fun l hl => (h.vs l hl).imp id fun ⟨a, b, c, d⟩ => ⟨a, b, by omega, d⟩⟩
theorem PoOk.now {nb n : Nat} {p : Po} (h : PoOk nb n p) : PoOk nb (n + 1) ⟨p.now, none⟩ := by
  refine ⟨?_, fun b v e => (by cases e), ?_⟩
  · unfold Po.now
    cases e : p.un with
    | none => exact h.len
    | some q =>
      obtain ⟨b, v⟩ := q
      show (p.vs.set _ _).length = nb
      rw [List.length_set]
      exact h.len
  · unfold Po.now
    cases e : p.un with
    | none => exact fun l hl => (h.up.vs l hl)
    | some q =>
      obtain ⟨b, v⟩ := q
      obtain ⟨hb, hv⟩ := h.un b v e
      intro l hl
      rcases mem_set hl with rfl | y
      · exact addV_ok hv (h.vs _ (getD_mem (by rw [h.len]; exact hb)))
      · exact h.up.vs l y
theorem PoOk.set {nb n : Nat} {p : Po} (h : PoOk nb n p) {b : Nat} {l : List Int} (hl : l = allV ∨ (l ≠ [] ∧ l.Nodup ∧ l.length ≤ n + 1 ∧ ∀ v ∈ l, 0 ≤ v ∧ v ≤ 999)) : PoOk nb n ⟨p.vs.set b l, none⟩ := by
  refine ⟨by show (p.vs.set b l).length = nb; rw [List.length_set]; exact h.len, fun b v e => (by cases e), fun y hy => ?_⟩
  rcases mem_set hy with rfl | y'
  · exact hl
  · exact h.vs y y'
theorem PoOk.go {nb n : Nat} {p p' : Po} (h : PoOk nb n p) {e : En} (he : e.ok nb) (hg : p.go e = some p') : PoOk nb (n + 1) p' := by
  cases e with
  | fl =>
    cases hg
    exact h.now
  | dn =>
    unfold Po.go at hg
    cases eu : p.un with
    | none => rw [eu] at hg; cases hg
    | some q =>
      obtain ⟨b, v⟩ := q
      rw [eu] at hg
      cases hg
      exact (h.set (one_ok (h.un b v eu).2)).up
  | bg b v =>
    unfold Po.go at hg
    simp only at hg
    split at hg
    · cases hg
    · cases hg
      exact ⟨h.len, fun b' v' e => by cases e; exact he, h.up.vs⟩
  | ls b =>
    unfold Po.go at hg
    simp only at hg
    split at hg
    · cases hg
    · cases hg
      exact (h.set (.inl rfl)).up
  | rd b v =>
    unfold Po.go at hg
    simp only at hg
    split at hg
    · cases hg
    · split at hg
      · cases hg
        exact (h.set (one_ok he.2)).up
      · cases hg
/-! ### the lists in memory -/
structure Lists (H : Hp) (l : Addr) (as : List Addr) (ls : List (List Int)) : Prop where
  lst : H l = some (.lst (as.map V.ref))
  len : as.length = ls.length
  its : ∀ (i : Nat) (a : Addr) (xs : List Int), as[i]? = some a → ls[i]? = some xs → H a = some (.lst (xs.map V.int))
  out : l ∉ as
theorem Lists.keep {H H' : Hp} {l : Addr} {as : List Addr} {ls : List (List Int)} {S : List Addr} (h : Lists H l as ls) (f : Fr S H H') (n : l ∉ S) (m : ∀ a ∈ as, a ∉ S) : Lists H' l as ls :=
  ⟨f _ _ h.lst n, h.len, fun i a xs e1 e2 => f _ _ (h.its i a xs e1 e2) (m a (List.mem_of_getElem? e1)), h.out⟩
theorem Lists.keep0 {H H' : Hp} {l : Addr} {as : List Addr} {ls : List (List Int)} (h : Lists H l as ls) (f : Fr [] H H') : Lists H' l as ls := h.keep f (by simp) (by simp)
theorem Lists.at {H : Hp} {l : Addr} {as : List Addr} {ls : List (List Int)} (h : Lists H l as ls) {b : Nat} (hb : b < ls.length) : ∃ a, as[b]? = some a ∧ H a = some (.lst ((ls.getD b []).map V.int)) := by
  have hl : b < as.length := by rw [h.len]; exact hb
  refine ⟨as[b], List.getElem?_eq_getElem hl, h.its b _ _ (List.getElem?_eq_getElem hl) ?_⟩
  rw [List.getD_eq_getElem?_getD, List.getElem?_eq_getElem hb]
  rfl
theorem Lists.there {H : Hp} {l : Addr} {as : List Addr} {ls : List (List Int)} (h : Lists H l as ls) : ∀ a ∈ as, ∃ o, H a = some o := fun a ha => by
  obtain ⟨i, hi, e⟩ := List.getElem_of_mem ha
  have e1 : as[i]? = some a := by rw [List.getElem?_eq_getElem hi, e]
  have hl : i < ls.length := by rw [← h.len]; exact hi
  exact ⟨_, h.its i a _ e1 (List.getElem?_eq_getElem hl)⟩
/-- one list is exchanged for another -/
theorem Lists.set {H H' : Hp} {l : Addr} {as : List Addr} {ls : List (List Int)} (h : Lists H l as ls) {b : Nat} {w : Addr} {ys : List Int} (f : Fr [l] H H') (e : H' l = some (.lst ((as.set b w).map V.ref))) (ew : H' w = some (.lst (ys.map V.int))) (nw : w ≠ l) : Lists H' l (as.set b w) (ls.set b ys) := by
  refine ⟨e, by rw [List.length_set, List.length_set]; exact h.len, fun i a xs e1 e2 => ?_, fun z => ?_⟩
  · rw [List.getElem?_set] at e1 e2
    by_cases z : b = i
    · rw [if_pos z] at e1 e2
      split at e1
      · split at e2
        · cases e1
          cases e2
          exact ew
        · cases e2
      · cases e1
    · rw [if_neg z] at e1 e2
      have := h.its i a xs e1 e2
      exact f _ _ this (by rw [List.mem_singleton]; exact fun y => h.out (by rw [← y]; exact List.mem_of_getElem? e1))
  · rcases mem_set z with y | y
    · exact nw y.symm
    · exact h.out y
def UnAt (H : Hp) (v : V) : Option (Nat × Int) → Prop
  | none => v = .non
  | some (b, x) => ∃ t : Addr, v = .ref t ∧ H t = some (.tup [.int (b : Int), .int x])
theorem UnAt.keep {H H' : Hp} {v : V} {o : Option (Nat × Int)} {S : List Addr} (h : UnAt H v o) (f : Fr S H H') (m : ∀ b ∈ S, ∀ xs, H b ≠ some (.tup xs)) : UnAt H' v o := by
  cases o with
  | none => exact h
  | some q =>
    obtain ⟨t, e, ht⟩ := h
    exact ⟨t, e, f _ _ ht fun z => m _ z _ ht⟩
structure PoAt (C : Addr) (H : Hp) (a ax l : Addr) (as : List Addr) (uv : V) (p : Po) : Prop where
  ins : H a = some (.ins C ax (lF (.ref l) uv))
  ls : Lists H l as p.vs
  un : UnAt H uv p.un
  na : a ∉ as
theorem PoAt.nal {C : Addr} {H : Hp} {a ax l : Addr} {as : List Addr} {uv : V} {p : Po} (h : PoAt C H a ax l as uv p) : a ≠ l := fun z => by
  have := h.ins
  rw [z, h.ls.lst] at this
  cases this
theorem PoAt.notup {C : Addr} {H : Hp} {a ax l : Addr} {as : List Addr} {uv : V} {p : Po} (h : PoAt C H a ax l as uv p) : ∀ b ∈ [a, l], ∀ xs, H b ≠ some (.tup xs) := fun b hb xs => by
  rcases List.mem_cons.mp hb with rfl | hb
  · rw [h.ins]; simp
  · rw [List.mem_singleton.mp hb, h.ls.lst]; simp
theorem PoAt.keep0 {C : Addr} {H H' : Hp} {a ax l : Addr} {as : List Addr} {uv : V} {p : Po} (h : PoAt C H a ax l as uv p) (f : Fr [] H H') : PoAt C H' a ax l as uv p := ⟨f _ _ h.ins (by simp), h.ls.keep0 f, h.un.keep f (by simp), h.na⟩
/-! ### numbers of blocks -/
def spChk : Sp := fun vs H Q _ => ∃ n m : Int, vs = [.int n, .int m] ∧ 1 ≤ n ∧ n ≤ m ∧ Q .non H
section
variable {P : Program} {w : World} {K : PySem.W.Frag} {mg : Str → Option Value} {base : Heap}
theorem ok_chkB (T : Gx K mg) : FnOk P w K mg base CX0 3 T.f_check_blocks T.fd_check_blocks ["blocks", "most"] spChk := by
  have G_is_number_from : FnOk P w K mg base CX0 2 T.f_is_number_from T.fd_is_number_from ["thing", "least", "most"] (spNumFrom K) := ok_numFrom T
  refine T.F_check_blocks.ok sc_check_blocks (fun vs H Q E h => ?_) (fun cdv A outer s H vs Q E hr h => ?_)
  · obtain ⟨n, m, rfl, _⟩ := h
    rfl
  · obtain ⟨n, m, rfl, h1, h2, k⟩ := h
    refine ⟨_, (pss_one (ps_if (pt_not (pt_val (pe_call G_is_number_from (hr.mono (by first | decide | omega)) (by rfl) T.g_is_number_from T.F_is_number_from.kp (b_is_number_from T) .nil pass0 (pa_cons (pv 0) (pa_cons pe_int (pa_cons (pv 1) pa_nil)))))) (pss_one ps_never) pss_nil)), ?_⟩
    refine ⟨_, rfl, _, rfl, .int n, 1, m, rfl, .inl ⟨n, rfl, _, rfl, ?_⟩⟩
    have e : (decide ((1 : Int) ≤ n) && decide (n ≤ m)) = true := by
      rw [Bool.and_eq_true, decide_eq_true_eq, decide_eq_true_eq]
      omega
    rw [e]
    exact iteF k
end
/-! ### lists of numbers as data -/
theorem dpAll_ints {K : PySem.W.Frag} {H : Hp} : ∀ zs : List Int, DpAll K H (zs.map V.int) (zs.map PyData.int)
  | [] => .nil
  | z :: r => .cons (.int z) (dpAll_ints r)
theorem lay_ints : ∀ zs : List Int, PyData.canLayAll0 (zs.map PyData.int) = true ∧ PyData.depthAll (zs.map PyData.int) ≤ 1
  | [] => ⟨rfl, Nat.zero_le _⟩
  | z :: r => by
    obtain ⟨h1, h2⟩ := lay_ints r
    refine ⟨?_, ?_⟩
    · show (PyData.canLay0 (.int z) && PyData.canLayAll0 (r.map PyData.int)) = true
      rw [h1]
      rfl
    · show PyData.depthAll (PyData.int z :: r.map PyData.int) ≤ 1
      simp only [PyData.depthAll, PyData.depth]
      omega
theorem shapedL_ints (zs : List Int) : SeqAt.shaped (.list (zs.map PyData.int)) = true := by
  obtain ⟨h1, h2⟩ := lay_ints zs
  unfold SeqAt.shaped
  rw [Bool.and_eq_true, decide_eq_true_eq]
  refine ⟨by simp only [PyData.canLay0, h1], ?_⟩
  simp only [PyData.depth]
  omega
theorem eqvL_ints (a b : List Int) : PyData.eqv (.list (a.map PyData.int)) (.list (b.map PyData.int)) = decide (a = b) := PySem.W.Datum.eqv (α := List Int) a b
def iD (zss : List (List Int)) : List PyData := zss.map fun z => PyData.list (z.map PyData.int)
theorem eqvL_iD (a b : List (List Int)) : PyData.eqv (.list (iD a)) (.list (iD b)) = decide (a = b) := PySem.W.Datum.eqv (α := List (List Int)) a b
theorem lay_iD : ∀ zss : List (List Int), PyData.canLayAll0 (iD zss) = true ∧ PyData.depthAll (iD zss) ≤ 2
  | [] => ⟨rfl, Nat.zero_le _⟩
  | z :: r => by
    obtain ⟨h1, h2⟩ := lay_iD r
    obtain ⟨h3, h4⟩ := lay_ints z
    refine ⟨?_, ?_⟩
    · show (PyData.canLay0 (.list (z.map PyData.int)) && PyData.canLayAll0 (iD r)) = true
      rw [h1, Bool.and_true]
      simp only [PyData.canLay0, h3]
    · show PyData.depthAll (PyData.list (z.map PyData.int) :: iD r) ≤ 2
      simp only [PyData.depthAll, PyData.depth]
      omega
theorem shapedL_iD (zss : List (List Int)) : SeqAt.shaped (.list (iD zss)) = true := by
  obtain ⟨h1, h2⟩ := lay_iD zss
  unfold SeqAt.shaped
  rw [Bool.and_eq_true, decide_eq_true_eq]
  refine ⟨by simp only [PyData.canLay0, h1], ?_⟩
  simp only [PyData.depth]
  omega
theorem dpAll_iD {K : PySem.W.Frag} {H : Hp} : ∀ {ws : List Addr} {zss : List (List Int)}, ws.length = zss.length → (∀ (j : Nat) (w : Addr) (ys : List Int), ws[j]? = some w → zss[j]? = some ys → H w = some (.lst (ys.map V.int))) → DpAll K H (ws.map V.ref) (iD zss)
  | [], [], _, _ => .nil
  | [], _ :: _, h, _ => by cases h
  | _ :: _, [], h, _ => by cases h
  | w :: ws, z :: zss, h, f => .cons (.lst (SqL.of (f 0 w z rfl rfl)) (dpAll_ints z)) (dpAll_iD (by simpa using h) fun j w ys a b => f (j + 1) w ys a b)
theorem inV_int (b : Int) : ∀ (xs : List Int), inV (.int b) (xs.map V.int) = decide (b ∈ xs)
  | [] => rfl
  | x :: r => by
    have ih := inV_int b r
    show (eqV (.int x) (.int b) || inV (.int b) (r.map V.int)) = decide (b ∈ x :: r)
    rw [ih]
    by_cases h : b = x
    · subst h
      simp [eqV]
    · have h' : ¬ x = b := fun e => h e.symm
      simp [eqV, h, h']
theorem flat_ints (ys : List Int) : (ys.map V.int).all flatV = true := by
  induction ys with
  | nil => rfl
  | cons y ys ih =>
    rw [List.map_cons, List.all_cons, ih]
    rfl
/-! ### what each block can have -/
theorem Lists.snoc {H H' : Hp} {l : Addr} {as : List Addr} {ls : List (List Int)} (h : Lists H l as ls) {w : Addr} {ys : List Int} (f : Fr [l] H H') (e : H' l = some (.lst ((as ++ [w]).map V.ref))) (ew : H' w = some (.lst (ys.map V.int))) (nw : w ≠ l) : Lists H' l (as ++ [w]) (ls ++ [ys]) := by
  refine ⟨e, by rw [List.length_append, List.length_append, h.len]; rfl, fun i a xs e1 e2 => ?_, fun z => ?_⟩
  · by_cases hj : i < as.length
    · rw [List.getElem?_append_left hj] at e1
      rw [List.getElem?_append_left (by rw [← h.len]; exact hj)] at e2
      exact f _ _ (h.its i a xs e1 e2) (by rw [List.mem_singleton]; exact fun y => h.out (by rw [← y]; exact List.mem_of_getElem? e1))
    · rw [List.getElem?_append_right (by omega)] at e1
      rw [List.getElem?_append_right (by rw [← h.len]; omega)] at e2
      rw [← h.len] at e2
      have hz : i - as.length = 0 := by
        have := lt_of_at e1
        simp at this
        omega
      rw [hz] at e1 e2
      cases e1
      cases e2
      exact ew
  · rcases List.mem_append.mp z with y | y
    · exact h.out y
    · exact nw (List.mem_singleton.mp y).symm
def spPoInit (C : Addr) : Sp := fun vs H Q _ => ∃ (p px : Addr) (nb : Nat), vs = [.ref p, .int (nb : Int)] ∧ nb ≤ 16 ∧ H p = some (.ins C px []) ∧
  ∀ (H' : Hp) (l : Addr) (as : List Addr), Fr [p] H H' → H l = none → PoAt C H' p px l as .non ⟨List.replicate nb [0], none⟩ → Q .non H'
def spNow (C : Addr) : Sp := fun vs H Q _ => ∃ (a ax l : Addr) (as : List Addr) (uv : V) (p : Po) (nb n : Nat), vs = [.ref a] ∧ PoAt C H a ax l as uv p ∧ PoOk nb n p ∧ nb ≤ 16 ∧ n ≤ 100 ∧
  ∀ (H' : Hp) (r : Addr) (rs : List Addr), Fr [] H H' → H r = none → (∀ w ∈ rs, H w = none) → Lists H' r rs p.now → Q (.ref r) H'
section
variable {P : Program} {w : World} {K : PySem.W.Frag} {mg : Str → Option Value} {base : Heap}
theorem ok_poInit (T : Gx K mg) : FnOk P w K mg base CX0 1 T.f_Possibilities___init__ T.fd_Possibilities___init__ ["self", "blocks"] (spPoInit T.C_Possibilities) := by
  refine T.F_Possibilities___init__.ok sc_Possibilities___init__ (fun vs H Q E h => ?_) (fun cdv A outer s H vs Q E hr h => ?_)
  · obtain ⟨p, px, nb, rfl, _⟩ := h
    rfl
  · obtain ⟨p, px, nb, rfl, hn, hp, k⟩ := h
    refine ⟨_, (pss_cons (ps_fld (pv 0) (pe_lc (own := [("_", 2)]) (g := gName 2) rfl sc_Possibilities___init__.nd (pi_range1 (by rfl) T.z_range (pa_cons (pv 1) pa_nil)) (blkOk_by (N := ["self", "blocks", "_"]) (sc := defScope s_Possibilities___init__) (by decide +kernel)) (fun _ _ _ _ _ => pg_name (i := 2) sc_Possibilities___init__.nd rfl (.inl rfl)) (fun _ _ _ _ _ => pts_nil) (fun _ _ _ _ _ => (pe_lst (pa_cons pe_int pa_nil)))) rfl)
      (pss_one (ps_fld (pv 0) pe_non rfl))), ?_⟩
    refine ⟨_, rfl, _, rfl, by omega, by omega, fun D hD => ?_⟩
    have pD : p ≠ D := ne_of_none hp hD
    refine lc_range (lo := 0) (n := nb) (fun i H' => Fr [] H H' ∧ H' p = some (.ins T.C_Possibilities px []) ∧ ∃ as : List Addr, Lists H' D as (List.replicate i [0]) ∧ p ∉ as) ⟨Fr.new hD, (upd_ne pD).trans hp, [], ⟨upd_same, rfl, fun i a xs e => by simp at e, by simp⟩, by simp⟩ ?_ ?_
    · rintro j H1 hj ⟨f1, hp1, as, L, na⟩
      refine ⟨rfl, sz_le (by simp), fun q hq => ⟨_, (upd_ne (ne_of_none L.lst hq)).trans L.lst, by rw [List.length_map, L.len, List.length_replicate]; exact sz_lt (by omega), ?_⟩⟩
      have e1 : ∀ o, upd (upd H1 q (.lst [V.int 0])) D o D = some o := fun o => upd_same
      have qD : q ≠ D := (ne_of_none L.lst hq).symm
      have f2 : Fr [D] H1 (upd (upd H1 q (.lst [V.int 0])) D (.lst (as.map V.ref ++ [V.ref q]))) := (Fr.new hq).trans (Fr.put (by simp))
      refine ⟨?_, ?_, as ++ [q], ?_, ?_⟩
      · exact (f1.trans (Fr.new hq)).upd0 hD
      · exact f2 _ _ hp1 (by simpa using pD)
      · rw [List.replicate_succ']
        exact L.snoc f2 (by rw [upd_same, List.map_append]; rfl) ((upd_ne qD).trans upd_same) qD
      · intro z
        rcases List.mem_append.mp z with y | y
        · exact na y
        · exact ne_of_none hp1 hq (List.mem_singleton.mp y)
    · rintro H1 ⟨f1, hp1, as, L, na⟩
      refine ⟨_, rfl, p, T.C_Possibilities, px, [], rfl, hp1, T.cl_Possibilities, T.n_Possibilities__values, by simp, ?_⟩
      refine ⟨_, rfl, p, T.C_Possibilities, px, _, rfl, upd_same, T.cl_Possibilities, T.n_Possibilities__under_way, Nat.lt_of_le_of_lt (putF_len _ _ _) (by simp), ?_⟩
      rw [upd_upd, lF_made]
      have f2 : Fr [p] H1 (upd H1 p (.ins T.C_Possibilities px (lF (.ref D) .non))) := Fr.put (by simp)
      refine k _ D as ((f1.mono (by simp)).trans f2) hD ⟨upd_same, L.keep f2 (by simpa using pD.symm) (fun a ha => ?_), rfl, na⟩
      rw [List.mem_singleton]
      exact fun z => na (by rw [← z]; exact ha)
theorem ok_now (T : Gx K mg) : FnOk P w K mg base CX0 1 T.f_Possibilities_values_now T.fd_Possibilities_values_now ["self"] (spNow T.C_Possibilities) := by
  refine T.F_Possibilities_values_now.ok sc_Possibilities_values_now (fun vs H Q E h => ?_) (fun cdv A outer s H vs Q E hr h => ?_)
  · obtain ⟨a, ax, l, as, uv, p, nb, n, rfl, _⟩ := h
    rfl
  · obtain ⟨a, ax, l, as, uv, p, nb, n, rfl, hP, ok, hnb, hn, k⟩ := h
    refine ⟨_, (pss_cons (ps_setLc (i := 1) (own := [("some", 4)]) (g := gName 4) rfl sc_Possibilities_values_now.nd rfl rfl (sw_true rfl rfl rfl (by decide +kernel)) (pi_list (pe_fld (pv 0) rfl)) (blkOk_by (N := ["self", "values", "block", "value", "some"]) (sc := defScope s_Possibilities_values_now) (by decide +kernel)) (fun _ _ _ _ _ => pg_name (i := 4) sc_Possibilities_values_now.nd rfl (.inl rfl)) (fun _ _ _ _ _ => pts_nil) (fun _ _ _ _ _ => (pe_callTy (call_list_ofK (K := K) rfl) (by rfl) T.z_list (by decide +kernel) (pa_cons (pv 4) pa_nil))))
      (pss_cons (ps_if (pt_cmpR op_notN (pe_fld (pv 0) rfl) pe_non (nomark _)) (pss_cons (ps_asg (pe_fld (pv 0) rfl) (pg_tup (by rfl) (pgs_cons (pg_name (i := 2) sc_Possibilities_values_now.nd rfl (.inl rfl)) (pgs_cons (pg_name (i := 3) sc_Possibilities_values_now.nd rfl (.inl rfl)) pgs_nil))))
      (pss_one (ps_if (pt_cmpR op_notIn_seq (pv 3) (pe_ix ix_list (pv 1) (pv 2) (fun _ _ => rfl)) (by rfl)) (pss_one (ps_expr (pe_bm PySem.F.plainAttrs_list PySem.F.slot_list_append PySem.F.type_list_append mt_append (pe_ix ix_list (pv 1) (pv 2) (fun _ _ => rfl)) (pa_cons (pv 3) pa_nil)))) pss_nil))) pss_nil)
      (pss_one (ps_ret (pv 1))))), ?_⟩
    refine ⟨_, rfl, a, T.C_Possibilities, ax, _, _, rfl, hP.ins, T.cl_Possibilities, T.n_Possibilities__values, lF_get0, l, rfl, ⟨_, SqL.of hP.ls.lst⟩, fun D hD => ?_⟩
    refine lc_list (K := K) (a := l) (xs := as.map V.ref) (fun i H' => Fr [] H H' ∧ ∃ rs : List Addr, Lists H' D rs (p.vs.take i) ∧ rs.Nodup ∧ ∀ w ∈ rs, H w = none) ⟨Fr.new hD, [], ⟨upd_same, rfl, fun i a xs e => by simp at e, by simp⟩, List.nodup_nil, by simp⟩ (fun i H' _ h => SqL.of (h.1 _ _ hP.ls.lst (by simp))) ?_ ?_
    · rintro i x H1 hx ⟨f1, rs, L, nd, nw⟩
      obtain ⟨b, rfl, hb⟩ : ∃ b, x = V.ref b ∧ as[i]? = some b := by
        rw [List.getElem?_map] at hx
        cases e : as[i]? with
        | none => rw [e] at hx; cases hx
        | some b => rw [e] at hx; exact ⟨b, (Option.some.inj hx).symm, rfl⟩
      have hi : i < p.vs.length := by rw [← hP.ls.len]; exact lt_of_at hb
      have hB := f1 _ _ (hP.ls.its i b _ hb (List.getElem?_eq_getElem hi)) (by simp)
      refine ⟨rfl, _, rfl, b, _, rfl, .inl (SqL.of hB), fun q hq => ⟨_, (upd_ne (ne_of_none L.lst hq)).trans L.lst, ?_, ?_⟩⟩
      · rw [List.length_map, L.len, List.length_take]
        have := ok.len
        exact sz_lt (by omega)
      · have qD : q ≠ D := (ne_of_none L.lst hq).symm
        refine ⟨(f1.trans (Fr.new hq)).upd0 hD, rs ++ [q], ?_, ?_, ?_⟩
        · rw [List.take_succ, List.getElem?_eq_getElem hi]
          exact L.snoc (((Fr.new hq).trans (Fr.put (by simp)))) (by rw [upd_same, List.map_append]; rfl) ((upd_ne qD).trans upd_same) qD
        · rw [List.nodup_append]
          refine ⟨nd, by simp, fun u hu v hv e => ?_⟩
          rw [List.mem_singleton] at hv
          obtain ⟨o, eo⟩ := L.there u hu
          rw [e, hv, hq] at eo
          cases eo
        · intro u hu
          rcases List.mem_append.mp hu with y | y
          · exact nw u y
          · rw [List.mem_singleton.mp y]
            exact some_of f1 (by simp) hq
    · rintro H1 ⟨f1, rs, L, nd, nw⟩
      rw [List.length_map, List.take_of_length_le (by rw [hP.ls.len]; exact Nat.le_refl _)] at L
      have hi1 := f1 _ _ hP.ins (by simp)
      refine ⟨_, rfl, a, T.C_Possibilities, ax, _, _, rfl, hi1, T.cl_Possibilities, T.n_Possibilities__under_way, lF_get1, rfl, _, rfl, ?_⟩
      have hU := hP.un
      unfold Po.now at k
      cases eu : p.un with
      | none =>
        rw [eu] at hU k
        have : uv = .non := hU
        rw [this]
        exact iteF ⟨_, rfl, k H1 D rs f1 hD nw L⟩
      | some q =>
        obtain ⟨b, v⟩ := q
        rw [eu] at hU k
        obtain ⟨t, rfl, ht⟩ := hU
        refine iteT ?_
        have ht1 := f1 _ _ ht (by simp)
        refine ⟨_, rfl, a, T.C_Possibilities, ax, _, _, rfl, hi1, T.cl_Possibilities, T.n_Possibilities__under_way, lF_get1, t, _, rfl, SqT.of ht1, rfl, _, _, rfl, _, _, rfl, rfl, ?_⟩
        obtain ⟨hb, hv⟩ := ok.un b v eu
        have hbl : b < p.vs.length := by rw [ok.len]; exact hb
        obtain ⟨c, hc, hC⟩ := L.at hbl
        have hcm : (rs.map V.ref)[b]? = some (V.ref c) := by rw [List.getElem?_map, hc]; rfl
        refine ⟨_, rfl, _, rfl, _, rfl, D, _, _, _, rfl, rfl, SqL.of L.lst, atI_nat hcm, c, _, rfl, .inl (SqL.of hC), rfl, flat_ints _, _, rfl, ?_⟩
        rw [inV_int]
        unfold addV at k
        by_cases hm : v ∈ p.vs.getD b []
        · rw [decide_eq_true hm]
          refine iteF ⟨_, rfl, k H1 D rs f1 hD nw ?_⟩
          show Lists _ D rs (p.vs.set b (if v ∈ p.vs.getD b [] then p.vs.getD b [] else p.vs.getD b [] ++ [v]))
          rw [if_pos hm]
          have : p.vs.set b (p.vs.getD b []) = p.vs := by
            rw [List.getD_eq_getElem?_getD, List.getElem?_eq_getElem hbl]
            exact List.set_getElem_self hbl
          rw [this]
          exact L
        · rw [decide_eq_false hm]
          refine iteT ⟨_, rfl, _, rfl, D, _, _, _, rfl, rfl, SqL.of L.lst, atI_nat hcm, .inl ⟨rfl, _, SqL.of hC⟩, _, rfl, c, _, _, rfl, rfl, hC, ?_, ?_⟩
          · rw [List.length_map]
            have hl := ok.vs _ (getD_mem (d := []) hbl)
            rcases hl with e | ⟨_, _, e, _⟩
            · rw [e, allV_len]
              exact sz_lt (by decide)
            · exact sz_lt (by omega)
          · have cD : c ≠ D := fun z => L.out (by rw [← z]; exact List.mem_of_getElem? hc)
            have f2 : Fr [c] H1 (upd H1 c (.lst ((p.vs.getD b []).map V.int ++ [V.int v]))) := Fr.put (by simp)
            refine ⟨_, rfl, k _ D rs ?_ hD nw ?_⟩
            · intro u o e _
              have : u ≠ c := ne_of_none e (nw c (List.mem_of_getElem? hc))
              rw [upd_ne this]
              exact f1 _ _ e (by simp)
            · show Lists _ D rs (p.vs.set b (if v ∈ p.vs.getD b [] then p.vs.getD b [] else p.vs.getD b [] ++ [v]))
              rw [if_neg hm]
              refine ⟨(upd_ne cD.symm).trans L.lst, by rw [List.length_set]; exact L.len, fun i u xs e1 e2 => ?_, L.out⟩
              rw [List.getElem?_set] at e2
              by_cases z : b = i
              · rw [if_pos z] at e2
                split at e2
                · cases e2
                  rw [← z, hc] at e1
                  cases e1
                  rw [upd_same, List.map_append]
                  rfl
                · exact absurd hbl (by assumption)
              · rw [if_neg z] at e2
                have hu : u ≠ c := fun y => by
                  rw [y] at e1
                  have h1 := lt_of_at e1
                  have h2 := lt_of_at hc
                  rw [List.getElem?_eq_getElem h1] at e1
                  rw [List.getElem?_eq_getElem h2] at hc
                  exact z ((List.getElem_inj (h₀ := h2) (h₁ := h1) nd).mp (Option.some.inj (hc.trans e1.symm)))
                exact (upd_ne hu).trans (L.its i u xs e1 e2)
end
/-! ### what is asked of things that are no words -/
theorem units2 {k : Nat} {A : Around} (r : Room k A) : A.units + 65 < cLine := by
  have := r.un
  omega
def rNotInT (K : PySem.W.Frag) : R2 := fun x y H Q => ∃ d ds, Dp K H x d ∧ Dp K H y (.tuple ds) ∧ SeqAt.shaped d = true ∧ SeqAt.shaped (.tuple ds) = true ∧ Q (.bl (!ds.any fun z => PyData.eqv z d)) H
section
open PyProof.Rows
theorem op_notInT {X : Cx} (hu : X.A.units + 65 < cLine) : OpR X (compareOp .NotIn) (rNotInT X.K) := by
  intro pins s σ H x y v u Q I rx ry h
  obtain ⟨d, ds, hd, he, sd, se, q⟩ := h
  obtain ⟨as, r1⟩ := Dp.reads I d x v hd rx
  obtain ⟨bs, r2⟩ := Dp.reads I (.tuple ds) y u he ry
  exact SeqAt.notIn_tuple_reads r2 r1 (SeqAt.canLay_of_shaped se) (SeqAt.canLay_of_shaped sd) (room_in_shaped sd hu) ⟨.bl _, H, I, rfl, q⟩
end
/-! ### entries and their forms -/
def FlatE (x : V) : Prop := x = .non ∨ (∃ b, x = .bl b) ∨ (∃ i, x = .int i) ∨ ∃ z, x = .str z ∧ PyData.strOk z = true
def flD : V → PyData
  | .bl b => .bool b
  | .int i => .int i
  | .str z => .str z
  | _ => .none
theorem FlatE.dp {K : PySem.W.Frag} {H : Hp} {x : V} (h : FlatE x) : Dp K H x (flD x) := by
  rcases h with rfl | ⟨b, rfl⟩ | ⟨i, rfl⟩ | ⟨z, rfl, _⟩
  · exact .non
  · exact .bl b
  · exact .int i
  · exact .str z
def numV (x : V) (lo hi : Int) : Bool := match x with
  | .int i => decide (lo ≤ i) && decide (i ≤ hi)
  | _ => false
def formsL : List (Str × Int) := [("read", 3), ("begin", 3), ("done", 1), ("fail", 1), ("lost", 2)]
def formsD : List PyData := formsL.map fun q => .tuple [.str q.1, .int q.2]
def isForm (x : V) (n : Nat) : Bool := match x with
  | .str z => formsL.any fun q => q.1 == z && q.2 == (n : Int)
  | _ => false
theorem any_congr {α : Type} {xs : List α} {f g : α → Bool} (h : ∀ x ∈ xs, f x = g x) : xs.any f = xs.any g := by
  induction xs with
  | nil => rfl
  | cons x xs ih =>
    rw [List.any_cons, List.any_cons, h x List.mem_cons_self, ih fun y hy => h y (List.mem_cons_of_mem _ hy)]
theorem any_form {x : V} (h : FlatE x) (n : Nat) : (formsD.any fun z => PyData.eqv z (.tuple [flD x, .int (n : Int)])) = isForm x n := by
  unfold formsD
  rw [List.any_map]
  rcases h with rfl | ⟨b, rfl⟩ | ⟨i, rfl⟩ | ⟨z, rfl, _⟩
  · exact List.any_eq_false.mpr (by intro q hq; simp [PyData.eqv, PyData.eqvAll, flD])
  · exact List.any_eq_false.mpr (by intro q hq; simp [PyData.eqv, PyData.eqvAll, flD])
  · exact List.any_eq_false.mpr (by intro q hq; simp [PyData.eqv, PyData.eqvAll, flD])
  · show formsL.any _ = formsL.any (fun q => q.1 == z && q.2 == (n : Int))
    refine any_congr fun q hq => ?_
    show PyData.eqv (.tuple [.str q.1, .int q.2]) (.tuple [.str z, .int (n : Int)]) = (q.1 == z && q.2 == (n : Int))
    simp [PyData.eqv, PyData.eqvAll]
def formV (nb : Nat) (xs : List V) : Bool := match xs with
  | [] => false
  | x :: r => isForm x (r.length + 1) && (decide (r.length = 0) || numV (r.getD 0 .non) 0 ((nb : Int) - 1)) && (decide (r.length < 2) || numV (r.getD 1 .non) 0 999)
theorem formV_ok {nb : Nat} {e : En} (h : e.ok nb) : formV nb e.vs = true := by
  cases e with
  | rd b v =>
    obtain ⟨h1, h2, h3⟩ := h
    have e1 : isForm (.str "read") 3 = true := by decide +kernel
    simp [formV, En.vs, e1, numV]
    omega
  | bg b v =>
    obtain ⟨h1, h2, h3⟩ := h
    have e1 : isForm (.str "begin") 3 = true := by decide +kernel
    simp [formV, En.vs, e1, numV]
    omega
  | dn =>
    have e1 : isForm (.str "done") 1 = true := by decide +kernel
    simp [formV, En.vs, e1]
  | fl =>
    have e1 : isForm (.str "fail") 1 = true := by decide +kernel
    simp [formV, En.vs, e1]
  | ls b =>
    have h1 : b < nb := h
    have e1 : isForm (.str "lost") 2 = true := by decide +kernel
    simp [formV, En.vs, e1, numV]
    omega
theorem flat_en {e : En} : ∀ x ∈ e.vs, FlatE x := by
  have s : ∀ z : Str, PyData.strOk z = true → FlatE (.str z) := fun z h => .inr (.inr (.inr ⟨z, rfl, h⟩))
  have n : ∀ i : Int, FlatE (.int i) := fun i => .inr (.inr (.inl ⟨i, rfl⟩))
  have w1 : FlatE (.str "read") := s _ (by decide +kernel)
  have w2 : FlatE (.str "begin") := s _ (by decide +kernel)
  have w3 : FlatE (.str "done") := s _ (by decide +kernel)
  have w4 : FlatE (.str "fail") := s _ (by decide +kernel)
  have w5 : FlatE (.str "lost") := s _ (by decide +kernel)
  cases e <;> simp [En.vs, n, w1, w2, w3, w4, w5]
theorem en_len {e : En} : e.vs.length ≤ 5 := by cases e <;> simp [En.vs]
/-- what is no tuple -/
def NoTup (H : Hp) (v : V) : Prop := v = .non ∨ (∃ i, v = .int i) ∨ (∃ z, v = .str z) ∨ ∃ (l : Addr) (xs : List V), v = .ref l ∧ H l = some (.lst xs)
def spForm (K : PySem.W.Frag) : Sp := fun vs H Q _ => ∃ (v : V) (nb : Nat), vs = [v, .int (nb : Int)] ∧
  ((∃ (t : Addr) (xs : List V), v = .ref t ∧ H t = some (.tup xs) ∧ (∀ x ∈ xs, FlatE x) ∧ xs.length ≤ 5 ∧ ∀ H', Fr [] H H' → Q (.bl (formV nb xs)) H') ∨ (NoTup H v ∧ ∀ H', Fr [] H H' → Q (.bl false) H'))
theorem shaped_fl {x : V} {n : Int} (h : FlatE x) : SeqAt.shaped (.tuple [flD x, .int n]) = true := by
  rcases h with rfl | ⟨b, rfl⟩ | ⟨i, rfl⟩ | ⟨z, rfl, hz⟩
  · simp [SeqAt.shaped, PyData.canLay, PyData.canLayAll0, PyData.depth, PyData.depthAll, PyData.canLay0, flD]
  · simp [SeqAt.shaped, PyData.canLay, PyData.canLayAll0, PyData.depth, PyData.depthAll, PyData.canLay0, flD]
  · simp [SeqAt.shaped, PyData.canLay, PyData.canLayAll0, PyData.depth, PyData.depthAll, PyData.canLay0, flD]
  · simp [SeqAt.shaped, PyData.canLay, PyData.canLayAll0, PyData.depth, PyData.depthAll, PyData.canLay0, flD, hz]
def spNumB : Sp := fun vs H Q _ => ∃ (v : V) (lo hi : Int), vs = [v, .int lo, .int hi] ∧ FlatE v ∧ Q (.bl (numV v lo hi)) H
theorem sE_T {b : Bool} {A B : Prop} (e : b = true) (h : A) : if b = true then A else B := iteTb e h
section
variable {P : Program} {w : World} {K : PySem.W.Frag} {mg : Str → Option Value} {base : Heap}
theorem ok_numB (T : Gx K mg) : FnOk P w K mg base CX0 2 T.f_is_number_from T.fd_is_number_from ["thing", "least", "most"] spNumB := by
  have G_is_number : FnOk P w K mg base CX0 1 T.f_is_number T.fd_is_number ["thing"] (spNum K) := ok_num T
  refine T.F_is_number_from.ok sc_is_number_from (fun vs H Q E h => ?_) (fun cdv A outer s H vs Q E hr h => ?_)
  · obtain ⟨v, lo, hi, rfl, _⟩ := h
    rfl
  · obtain ⟨v, lo, hi, rfl, h, k⟩ := h
    refine ⟨_, (pss_one (ps_ret (pe_and (pe_call G_is_number (hr.mono (by first | decide | omega)) (by rfl) T.g_is_number T.F_is_number.kp (b_is_number T) .nil pass0 (pa_cons (pv 0) pa_nil)) (pe_one (pe_chain op_le op_le (pv 1) (pv 0) (pv 2)))))), ?_⟩
    rcases h with rfl | ⟨b, rfl⟩ | ⟨i, rfl⟩ | ⟨z, rfl, _⟩
    · exact ⟨_, rfl, _, _, false, false, rfl, .base .non, kit_ty (by decide +kernel), kit_ty (by decide +kernel), _, rfl, iteF k⟩
    · exact ⟨_, rfl, _, _, true, true, rfl, .base (.bl b), kit_ty (by decide +kernel), kit_ty (by decide +kernel), _, rfl, iteF k⟩
    · refine ⟨_, rfl, .int i, .type "int", true, false, rfl, .base (.int i), kit_ty (by decide +kernel), kit_ty (by decide +kernel), true, rfl, iteT ?_⟩
      refine ⟨_, rfl, _, rfl, _, _, rfl, rfl, _, rfl, ?_⟩
      have e : numV (.int i) lo hi = (decide (lo ≤ i) && decide (i ≤ hi)) := rfl
      rw [e] at k
      by_cases hl : lo ≤ i
      · rw [decide_eq_true hl] at k ⊢
        exact iteT ⟨_, rfl, _, _, rfl, rfl, k⟩
      · rw [decide_eq_false hl] at k ⊢
        exact iteF k
    · exact ⟨_, rfl, _, _, false, false, rfl, .base (.str z), kit_ty (by decide +kernel), kit_ty (by decide +kernel), _, rfl, iteF k⟩
theorem ok_form (T : Gx K mg) : FnOk P w K mg base CX0 3 T.f__has_form T.fd__has_form ["entry", "blocks"] (spForm K) := by
  have G_is_number_from : FnOk P w K mg base CX0 2 T.f_is_number_from T.fd_is_number_from ["thing", "least", "most"] spNumB := ok_numB T
  refine T.F__has_form.ok sc__has_form (fun vs H Q E h => ?_) (fun cdv A outer s H vs Q E hr h => ?_)
  · obtain ⟨v, nb, rfl, _⟩ := h
    rfl
  · obtain ⟨v, nb, rfl, h⟩ := h
    refine ⟨_, (pss_cons (ps_if (PW.pt (pw_or (pt_not (pt_val (pe_callB call_isi (by rfl) T.z_isinstance (by decide +kernel) (pa_cons (pv 0) (pa_cons (pe_bltn (v := .ty "tuple") (by rfl) T.z_tuple (by decide +kernel) rfl) pa_nil))))) (pw_or (pt_not (pt_truth (pv 0) (fun _ => rfl))) (pw_or1 (pt_cmpR (op_notInT (units2 hr)) (pe_tup (pa_cons (pe_ix ix_tup (pv 0) pe_int (fun _ _ => rfl)) (pa_cons (pe_callB call_len_seq (by rfl) T.z_len (by decide +kernel) (pa_cons (pv 0) pa_nil)) pa_nil))) (pe_glob (v := .ref T.A_ENTRY_FORMS) (by rfl) T.g_ENTRY_FORMS rfl) (by rfl)))))) (pss_one (ps_ret pe_bl)) pss_nil)
      (pss_cons (ps_if (PW.pt (pw_and (pt_cmpR op_gt (pe_callB call_len_seq (by rfl) T.z_len (by decide +kernel) (pa_cons (pv 0) pa_nil)) pe_int (nomark _)) (pw_and1 (pt_not (pt_val (pe_call G_is_number_from (hr.mono (by first | decide | omega)) (by rfl) T.g_is_number_from T.F_is_number_from.kp (b_is_number_from T) .nil pass0 (pa_cons (pe_ix ix_tup (pv 0) pe_int (fun _ _ => rfl)) (pa_cons pe_int (pa_cons (pe_op op_sub (pv 1) pe_int) pa_nil))))))))) (pss_one (ps_ret pe_bl)) pss_nil)
      (pss_one (ps_ret (pe_or (pe_cmpR op_lt (pe_callB call_len_seq (by rfl) T.z_len (by decide +kernel) (pa_cons (pv 0) pa_nil)) pe_int (nomark _)) (pe_one (pe_call G_is_number_from (hr.mono (by first | decide | omega)) (by rfl) T.g_is_number_from T.F_is_number_from.kp (b_is_number_from T) .nil pass0 (pa_cons (pe_ix ix_tup (pv 0) pe_int (fun _ _ => rfl)) (pa_cons pe_int (pa_cons (pe_glob (v := .int (999)) (by rfl) T.c_MOST_VALUE ⟨_, rfl⟩) pa_nil)))))))))), ?_⟩
    rcases h with ⟨t, xs, rfl, ht, hf, hl, k⟩ | ⟨hn, k⟩
    · have isT : ∀ H, Dp K H (.ref T.A_ENTRY_FORMS) (.tuple formsD) := fun H => .tup (T.k_ENTRY_FORMS H) (.cons (.tup (T.k_ENTRY_FORMS_0 H) (.cons (.str _) (.cons (.int _) .nil))) (.cons (.tup (T.k_ENTRY_FORMS_1 H) (.cons (.str _) (.cons (.int _) .nil))) (.cons (.tup (T.k_ENTRY_FORMS_2 H) (.cons (.str _) (.cons (.int _) .nil))) (.cons (.tup (T.k_ENTRY_FORMS_3 H) (.cons (.str _) (.cons (.int _) .nil))) (.cons (.tup (T.k_ENTRY_FORMS_4 H) (.cons (.str _) (.cons (.int _) .nil))) .nil)))))
      refine ⟨_, rfl, _, .ty "tuple", .type "tuple", _, true, rfl, ClsV.ty "tuple", .base (.tup ht), kit_ty (by decide +kernel), true, rfl, ?_⟩
      refine iteF ⟨_, rfl, _, .inr (.inl ⟨xs, SqT.of ht, rfl⟩), ?_⟩
      cases xs with
      | nil => exact iteT (k H (Fr.refl _ _))
      | cons x r =>
        have hx : FlatE x := hf x List.mem_cons_self
        rw [List.length_cons] at hl
        refine iteF ⟨_, rfl, t, _, ((0 : Nat) : Int), _, rfl, rfl, SqT.of ht, atI_nat rfl, _, rfl, t, _, rfl, .inr (SqT.of ht), sz_le (by simp), fun q hq => ?_⟩
        have f1 : Fr [] H (upd H q (.tup [x, .int ((x :: r).length : Nat)])) := Fr.new hq
        have ht1 := f1 _ _ ht (by simp)
        refine ⟨_, formsD, .tup (SqT.of upd_same) (.cons hx.dp (.cons (.int _) .nil)), isT _, shaped_fl hx, by decide +kernel, _, rfl, ?_⟩
        rw [any_form hx]
        have kk := k _ f1
        have eV : formV nb (x :: r) = (isForm x (r.length + 1) && (decide (r.length = 0) || numV (r.getD 0 .non) 0 ((nb : Int) - 1)) && (decide (r.length < 2) || numV (r.getD 1 .non) 0 999)) := rfl
        rw [List.length_cons]
        cases eF : isForm x (r.length + 1) with
        | false =>
          have eb : formV nb (x :: r) = false := by rw [eV, eF]; rfl
          rw [eb] at kk
          exact iteT kk
        | true =>
          rw [eF] at eV
          refine iteF ⟨_, rfl, t, _, rfl, .inr (SqT.of ht1), _, _, rfl, rfl, _, rfl, ?_⟩
          have e1 : decide (((x :: r).length : Int) > 1) = decide (0 < r.length) := by
            rw [List.length_cons]
            exact decide_eq_decide.mpr (by omega)
          rw [e1]
          cases r with
          | nil =>
            refine iteF ?_
            refine ⟨_, rfl, t, _, rfl, .inr (SqT.of ht1), _, _, rfl, rfl, _, rfl, ?_⟩
            have eb : formV nb [x] = true := by rw [eV]; rfl
            rw [eb] at kk
            exact iteT kk
          | cons y r =>
            have hy : FlatE y := hf y (List.mem_cons_of_mem _ List.mem_cons_self)
            refine iteTb (by simp) ⟨_, rfl, t, _, ((1 : Nat) : Int), _, rfl, rfl, SqT.of ht1, atI_nat rfl, _, rfl, _, _, rfl, rfl, _, _, _, rfl, hy, ?_⟩
            refine ⟨_, rfl, ?_⟩
            have e0 : (y :: r).getD 0 .non = y := rfl
            rw [e0] at eV
            cases eN : numV y 0 ((nb : Int) - 1) with
            | false =>
              have eb : formV nb (x :: y :: r) = false := by rw [eV, eN]; simp
              rw [eb] at kk
              exact iteT kk
            | true =>
              rw [eN] at eV
              refine iteF ?_
              refine ⟨_, rfl, t, _, rfl, .inr (SqT.of ht1), _, _, rfl, rfl, _, rfl, ?_⟩
              cases r with
              | nil =>
                have eb : formV nb [x, y] = true := by rw [eV]; rfl
                rw [eb] at kk
                exact iteT kk
              | cons z r =>
                have hz : FlatE z := hf z (List.mem_cons_of_mem _ (List.mem_cons_of_mem _ List.mem_cons_self))
                have eb : formV nb (x :: y :: z :: r) = numV z 0 999 := by
                  rw [eV]
                  have : decide ((y :: z :: r).length < 2) = false := decide_eq_false (by simp only [List.length_cons]; omega)
                  rw [this]
                  simp
                rw [eb] at kk
                refine iteFb ?_ ⟨_, rfl, t, _, ((2 : Nat) : Int), _, rfl, rfl, SqT.of ht1, atI_nat rfl, _, _, _, rfl, hz, kk⟩
                refine decide_eq_false ?_
                simp only [List.length_cons]
                omega
    · obtain ⟨tv, hty, hk⟩ : ∃ tv, TyX K H v tv ∧ PySem.W.kitOne K tv (.type "tuple") = some false := by
        rcases hn with rfl | ⟨i, rfl⟩ | ⟨z, rfl⟩ | ⟨l, xs, rfl, e⟩
        · exact ⟨_, .base .non, kit_ty (by decide +kernel)⟩
        · exact ⟨_, .base (.int i), kit_ty (by decide +kernel)⟩
        · exact ⟨_, .base (.str z), kit_ty (by decide +kernel)⟩
        · exact ⟨_, .base (.lst e), kit_ty (by decide +kernel)⟩
      refine ⟨_, rfl, _, .ty "tuple", tv, _, false, rfl, ClsV.ty "tuple", hty, hk, false, rfl, iteT (k H (Fr.refl _ _))⟩
end
/-! ### an entry is followed -/
theorem UnAt.non {H : Hp} {v : V} {o : Option (Nat × Int)} (h : UnAt H v o) : decide (v = .non) = o.isNone := by
  cases o with
  | none =>
    have : v = .non := h
    rw [this]
    rfl
  | some q =>
    obtain ⟨t, rfl, _⟩ := h
    rfl
/-- the values of one block are exchanged for a new list -/
theorem PoAt.setv {C : Addr} {H : Hp} {a ax l : Addr} {as : List Addr} {uv : V} {p : Po} (h : PoAt C H a ax l as uv p) {q : Addr} {b : Nat} {ys : List Int} (hq : H q = none) :
    PoAt C (upd (upd H q (.lst (ys.map V.int))) l (.lst ((as.set b q).map V.ref))) a ax l (as.set b q) uv ⟨p.vs.set b ys, p.un⟩ ∧ Fr [a, l] H (upd (upd H q (.lst (ys.map V.int))) l (.lst ((as.set b q).map V.ref))) := by
  have f1 : Fr [] H (upd H q (.lst (ys.map V.int))) := Fr.new hq
  have f2 : Fr [l] H (upd (upd H q (.lst (ys.map V.int))) l (.lst ((as.set b q).map V.ref))) := (Fr.new hq).trans (Fr.put (by simp))
  have ql : q ≠ l := (ne_of_none h.ls.lst hq).symm
  refine ⟨⟨f2 _ _ h.ins (by simpa using h.nal), h.ls.set f2 upd_same ((upd_ne ql).trans upd_same) ql, h.un.keep f2 fun b hb xs => ?_, fun z => ?_⟩, f2.mono (by simp)⟩
  · rw [List.mem_singleton.mp hb, h.ls.lst]; simp
  · rcases mem_set z with y | y
    · exact ne_of_none h.ins hq y
    · exact h.na y
/-- the write under way changes -/
theorem PoAt.setu {C : Addr} {H : Hp} {a ax l : Addr} {as : List Addr} {uv : V} {p : Po} (h : PoAt C H a ax l as uv p) {uv' : V} {un' : Option (Nat × Int)} (hu : UnAt H uv' un') :
    PoAt C (upd H a (.ins C ax (lF (.ref l) uv'))) a ax l as uv' ⟨p.vs, un'⟩ ∧ Fr [a, l] H (upd H a (.ins C ax (lF (.ref l) uv'))) := by
  have f1 : Fr [a] H (upd H a (.ins C ax (lF (.ref l) uv'))) := Fr.put (by simp)
  refine ⟨⟨upd_same, h.ls.keep f1 (by simpa using h.nal.symm) (fun w hw => ?_), hu.keep f1 fun b hb xs => ?_, h.na⟩, f1.mono (by simp)⟩
  · rw [List.mem_singleton]
    exact fun z => h.na (by rw [← z]; exact hw)
  · rw [List.mem_singleton.mp hb, h.ins]; simp
/-- all lists are exchanged -/
theorem PoAt.setl {C : Addr} {H : Hp} {a ax l : Addr} {as : List Addr} {uv : V} {p : Po} (h : PoAt C H a ax l as uv p) {l' : Addr} {as' : List Addr} {vs : List (List Int)} (hl : Lists H l' as' vs) (na : a ≠ l') (na2 : a ∉ as') :
    PoAt C (upd H a (.ins C ax (lF (.ref l') uv))) a ax l' as' uv ⟨vs, p.un⟩ ∧ Fr [a] H (upd H a (.ins C ax (lF (.ref l') uv))) := by
  have f1 : Fr [a] H (upd H a (.ins C ax (lF (.ref l') uv))) := Fr.put (by simp)
  refine ⟨⟨upd_same, hl.keep f1 (by simpa using na.symm) (fun w hw => ?_), h.un.keep f1 fun b hb xs => ?_, na2⟩, f1⟩
  · rw [List.mem_singleton]
    exact fun z => na2 (by rw [← z]; exact hw)
  · rw [List.mem_singleton.mp hb, h.ins]; simp
def spFollow (C : Addr) : Sp := fun vs H Q _ => ∃ (a ax l : Addr) (as : List Addr) (uv : V) (p : Po) (nb n : Nat) (t : Addr) (e : En), vs = [.ref a, .ref t] ∧ PoAt C H a ax l as uv p ∧ PoOk nb n p ∧ nb ≤ 16 ∧ n ≤ 99 ∧ e.ok nb ∧ H t = some (.tup e.vs) ∧
  (match p.go e with
    | none => Q (.bl false) H
    | some p' => ∀ (H' : Hp) (l' : Addr) (as' : List Addr) (uv' : V), Fr [a, l] H H' → Gw [a, l] H [a, l'] → PoAt C H' a ax l' as' uv' p' → Q (.bl true) H')
theorem refs_set {as : List Addr} {b : Nat} {q : Addr} : (as.map V.ref).set b (.ref q) = (as.set b q).map V.ref := by rw [List.map_set]
section
variable {P : Program} {w : World} {K : PySem.W.Frag} {mg : Str → Option Value} {base : Heap}
theorem ok_follow (T : Gx K mg) : FnOk P w K mg base CX0 2 T.f_Possibilities_follow T.fd_Possibilities_follow ["self", "entry"] (spFollow T.C_Possibilities) := by
  have G_Possibilities_values_now : FnOk P w K mg base CX0 1 T.f_Possibilities_values_now T.fd_Possibilities_values_now ["self"] (spNow T.C_Possibilities) := ok_now T
  refine T.F_Possibilities_follow.ok sc_Possibilities_follow (fun vs H Q E h => ?_) (fun cdv A outer s H vs Q E hr h => ?_)
  · obtain ⟨a, ax, l, as, uv, p, nb, n, t, e, rfl, _⟩ := h
    rfl
  · obtain ⟨a, ax, l, as, uv, p, nb, n, t, e, rfl, hP, ok, hnb, hn, he, ht, k⟩ := h
    refine ⟨_, (pss_cons (ps_set (i := 2) sc_Possibilities_follow.nd rfl (.inl rfl) (pe_ix ix_tup (pv 1) pe_int (fun _ _ => rfl)))
      (pss_cons (ps_if (pt_cmpR op_eq (pv 2) pe_str (nomark _)) (pss_cons (ps_fld (pv 0) (pe_meth0 (pv 0) T.cl_Possibilities T.m_Possibilities_values_now G_Possibilities_values_now (hr.mono (by first | decide | omega)) (b_Possibilities_values_now T) .nil pass0) rfl)
      (pss_cons (ps_fld (pv 0) pe_non rfl)
      (pss_one (ps_ret pe_bl)))) pss_nil)
      (pss_cons (ps_if (pt_cmpR op_eq (pe_cmpR op_isN (pe_fld (pv 0) rfl) pe_non (nomark _)) (pe_cmpR op_eq (pv 2) pe_str (nomark _)) (nomark _)) (pss_one (ps_ret pe_bl)) pss_nil)
      (pss_cons (ps_if (pt_cmpR op_eq (pv 2) pe_str (nomark _)) (pss_cons (ps_asg (pe_fld (pv 0) rfl) (pg_tup (by rfl) (pgs_cons (pg_name (i := 3) sc_Possibilities_follow.nd rfl (.inl rfl)) (pgs_cons (pg_name (i := 4) sc_Possibilities_follow.nd rfl (.inl rfl)) pgs_nil))))
      (pss_cons (ps_asg (pe_lst (pa_cons (pv 4) pa_nil)) (pg_sub (pe_fld (pv 0) rfl) (pv 3) set_list))
      (pss_one (ps_fld (pv 0) pe_non rfl)))) (pss_one (ps_if (pt_cmpR op_eq (pv 2) pe_str (nomark _)) (pss_one (ps_fld (pv 0) (pe_slice sl_tup (pv 1) (po_some pe_int) po_none) rfl)) (pss_one (ps_if (pt_cmpR op_eq (pv 2) pe_str (nomark _)) (pss_one (ps_asg (pe_listRg rfl (by rfl) T.z_list (prg_1 (by rfl) T.z_range (pe_op op_add (pe_glob (v := .int (999)) (by rfl) T.c_MOST_VALUE ⟨_, rfl⟩) pe_int))) (pg_sub (pe_fld (pv 0) rfl) (pe_ix ix_tup (pv 1) pe_int (fun _ _ => rfl)) set_list))) (pss_one (ps_if (pt_cmpR op_notIn_seq (pe_ix ix_tup (pv 1) pe_int (fun _ _ => rfl)) (pe_ix ix_list (pe_fld (pv 0) rfl) (pe_ix ix_tup (pv 1) pe_int (fun _ _ => rfl)) (fun _ _ => rfl)) (by rfl)) (pss_one (ps_ret pe_bl)) (pss_one (ps_asg (pe_lst (pa_cons (pe_ix ix_tup (pv 1) pe_int (fun _ _ => rfl)) pa_nil)) (pg_sub (pe_fld (pv 0) rfl) (pe_ix ix_tup (pv 1) pe_int (fun _ _ => rfl)) set_list))))))))))
      (pss_one (ps_ret pe_bl)))))), ?_⟩
    have hlen : as.length = nb := hP.ls.len.trans ok.len
    cases e with
    | fl =>
      refine ⟨_, rfl, t, _, ((0 : Nat) : Int), _, rfl, rfl, SqT.of ht, atI_nat rfl, ?_⟩
      refine ⟨_, rfl, rfl, _, rfl, iteTb (by decide +kernel) ?_⟩
      refine ⟨_, rfl, a, ax, _, rfl, hP.ins, lF_no_values_now, a, ax, l, as, uv, p, nb, n, rfl, hP, ok, hnb, by omega, fun H1 r rs f1 hr1 nw L => ?_⟩
      have hP1 := hP.keep0 f1
      have nar : a ≠ r := ne_of_none hP.ins hr1
      refine ⟨_, rfl, a, T.C_Possibilities, ax, _, rfl, hP1.ins, T.cl_Possibilities, T.n_Possibilities__values, by simp [lF], ?_⟩
      rw [lF_put0]
      obtain ⟨hP2, f2⟩ := hP1.setl L nar fun z => by
        have := nw a z
        rw [hP.ins] at this
        cases this
      refine ⟨_, rfl, a, T.C_Possibilities, ax, _, rfl, hP2.ins, T.cl_Possibilities, T.n_Possibilities__under_way, by simp [lF], ?_⟩
      rw [lF_put1]
      obtain ⟨hP3, f3⟩ := hP2.setu (uv' := .non) (un' := none) rfl
      refine k _ r rs .non ?_ ?_ hP3
      · have f12 : Fr [a, l] H _ := (f1.mono (by simp)).trans (f2.mono (by simp))
        exact f12.grow f3 fun b hb => by
          rcases List.mem_cons.mp hb with rfl | hb
          · exact .inl (by simp)
          · rw [List.mem_singleton.mp hb]
            exact .inr hr1
      · intro b hb
        rcases List.mem_cons.mp hb with rfl | hb
        · exact .inl (by simp)
        · rw [List.mem_singleton.mp hb]
          exact .inr hr1
    | dn =>
      refine ⟨_, rfl, t, _, ((0 : Nat) : Int), _, rfl, rfl, SqT.of ht, atI_nat rfl, ?_⟩
      refine ⟨_, rfl, rfl, _, rfl, iteFb (by decide +kernel) ?_⟩
      refine ⟨_, rfl, a, T.C_Possibilities, ax, _, _, rfl, hP.ins, T.cl_Possibilities, T.n_Possibilities__under_way, lF_get1, rfl, _, rfl, rfl, rfl, _, rfl, ?_⟩
      rw [hP.un.non]
      cases eu : p.un with
      | none =>
        have eg : p.go .dn = none := by show (match p.un with | none => none | some (b, v) => some (⟨p.vs.set b [v], none⟩ : Po)) = none; rw [eu]
        rw [eg] at k
        exact iteTb (by decide +kernel) k
      | some q =>
        obtain ⟨b, v⟩ := q
        have eg : p.go .dn = some ⟨p.vs.set b [v], none⟩ := by show (match p.un with | none => none | some (b, v) => some (⟨p.vs.set b [v], none⟩ : Po)) = _; rw [eu]
        rw [eg] at k
        rw [Option.isNone_some]
        refine iteFb (by decide +kernel) ?_
        have hU := hP.un
        rw [eu] at hU
        obtain ⟨u, rfl, hu⟩ := hU
        refine ⟨_, rfl, rfl, _, rfl, iteTb (by decide +kernel) ?_⟩
        refine ⟨_, rfl, a, T.C_Possibilities, ax, _, _, rfl, hP.ins, T.cl_Possibilities, T.n_Possibilities__under_way, lF_get1, u, _, rfl, SqT.of hu, rfl, _, _, rfl, _, _, rfl, rfl, ?_⟩
        refine ⟨_, rfl, sz_le (by simp), fun q hq => ?_⟩
        have f1 : Fr [] H (upd H q (.lst [V.int v])) := Fr.new hq
        have hb := (ok.un b v eu).1
        refine ⟨_, rfl, a, T.C_Possibilities, ax, _, _, rfl, f1 _ _ hP.ins (by simp), T.cl_Possibilities, T.n_Possibilities__values, lF_get0, _, rfl, l, _, _, b, rfl, rfl, f1 _ _ hP.ls.lst (by simp), ix_at b (by rw [List.length_map]; omega), ?_⟩
        rw [refs_set]
        obtain ⟨hP2, f2⟩ := hP.setv (b := b) (ys := [v]) hq
        refine ⟨_, rfl, a, T.C_Possibilities, ax, _, rfl, hP2.ins, T.cl_Possibilities, T.n_Possibilities__under_way, by simp [lF], ?_⟩
        rw [lF_put1]
        obtain ⟨hP3, f3⟩ := hP2.setu (uv' := .non) (un' := none) rfl
        exact k _ l _ .non (f2.trans f3) (Gw.refl _ _) hP3
    | bg b v =>
      have eg : p.go (.bg b v) = if p.un.isSome then none else some ⟨p.vs, some (b, v)⟩ := rfl
      rw [eg] at k
      refine ⟨_, rfl, t, _, ((0 : Nat) : Int), _, rfl, rfl, SqT.of ht, atI_nat rfl, ?_⟩
      refine ⟨_, rfl, rfl, _, rfl, iteFb (by decide +kernel) ?_⟩
      refine ⟨_, rfl, a, T.C_Possibilities, ax, _, _, rfl, hP.ins, T.cl_Possibilities, T.n_Possibilities__under_way, lF_get1, rfl, _, rfl, rfl, rfl, _, rfl, ?_⟩
      rw [hP.un.non]
      cases eu : p.un with
      | some q =>
        rw [eu] at k
        rw [Option.isNone_some]
        exact iteTb (by decide +kernel) k
      | none =>
        rw [eu] at k
        refine iteFb (by decide +kernel) ?_
        refine ⟨_, rfl, rfl, _, rfl, iteFb (by decide +kernel) ?_⟩
        refine ⟨_, rfl, rfl, _, rfl, iteTb (by decide +kernel) ?_⟩
        refine ⟨_, rfl, (1 : Int), rfl, t, _, rfl, SqT.of ht, (fun z => absurd z.1 (by decide : ¬ HT.sIx 3 0 (some 1) = 0)), fun q hq => ?_⟩
        have f1 : Fr [] H (upd H q (.tup [V.int (b : Int), V.int v])) := Fr.new hq
        have hP1 := hP.keep0 f1
        refine ⟨_, rfl, a, T.C_Possibilities, ax, _, rfl, hP1.ins, T.cl_Possibilities, T.n_Possibilities__under_way, by simp [lF], ?_⟩
        rw [lF_put1]
        obtain ⟨hP3, f3⟩ := hP1.setu (uv' := .ref q) (un' := some (b, v)) ⟨q, rfl, upd_same⟩
        exact k _ l _ _ ((f1.mono (by simp)).trans f3) (Gw.refl _ _) hP3
    | ls b =>
      have eg : p.go (.ls b) = if p.un.isSome then none else some ⟨p.vs.set b allV, none⟩ := rfl
      rw [eg] at k
      refine ⟨_, rfl, t, _, ((0 : Nat) : Int), _, rfl, rfl, SqT.of ht, atI_nat rfl, ?_⟩
      refine ⟨_, rfl, rfl, _, rfl, iteFb (by decide +kernel) ?_⟩
      refine ⟨_, rfl, a, T.C_Possibilities, ax, _, _, rfl, hP.ins, T.cl_Possibilities, T.n_Possibilities__under_way, lF_get1, rfl, _, rfl, rfl, rfl, _, rfl, ?_⟩
      rw [hP.un.non]
      cases eu : p.un with
      | some q =>
        rw [eu] at k
        rw [Option.isNone_some]
        exact iteTb (by decide +kernel) k
      | none =>
        rw [eu] at k
        refine iteFb (by decide +kernel) ?_
        refine ⟨_, rfl, rfl, _, rfl, iteFb (by decide +kernel) ?_⟩
        refine ⟨_, rfl, rfl, _, rfl, iteFb (by decide +kernel) ?_⟩
        refine ⟨_, rfl, rfl, _, rfl, iteTb (by decide +kernel) ?_⟩
        refine ⟨_, _, rfl, rfl, _, rfl, RgOk.of_le (Int.le_refl _) (by decide) (by decide) (by decide), fun q hq => ?_⟩
        have erg : rgV 0 (999 + 1) = allV.map V.int := by
          unfold rgV allV
          rw [List.map_map]
          refine List.map_congr_left fun n _ => ?_
          show V.int (0 + (n : Int)) = V.int (n : Int)
          rw [Int.zero_add]
        rw [erg]
        have f1 : Fr [] H (upd H q (.lst (allV.map V.int))) := Fr.new hq
        have ht1 := f1 _ _ ht (by simp)
        refine ⟨_, rfl, a, T.C_Possibilities, ax, _, _, rfl, f1 _ _ hP.ins (by simp), T.cl_Possibilities, T.n_Possibilities__values, lF_get0, _, rfl, t, _, ((1 : Nat) : Int), _, rfl, rfl, SqT.of ht1, atI_nat rfl, l, _, _, b, rfl, rfl, f1 _ _ hP.ls.lst (by simp), ix_at b (by rw [List.length_map, hlen]; exact he), ?_⟩
        rw [refs_set]
        obtain ⟨hP2, f2⟩ := hP.setv (b := b) (ys := allV) hq
        rw [eu] at hP2
        exact k _ l _ _ f2 (Gw.refl _ _) hP2
    | rd b v =>
      have eg : p.go (.rd b v) = if p.un.isSome then none else if v ∈ p.vs.getD b [] then some ⟨p.vs.set b [v], none⟩ else none := rfl
      rw [eg] at k
      refine ⟨_, rfl, t, _, ((0 : Nat) : Int), _, rfl, rfl, SqT.of ht, atI_nat rfl, ?_⟩
      refine ⟨_, rfl, rfl, _, rfl, iteFb (by decide +kernel) ?_⟩
      refine ⟨_, rfl, a, T.C_Possibilities, ax, _, _, rfl, hP.ins, T.cl_Possibilities, T.n_Possibilities__under_way, lF_get1, rfl, _, rfl, rfl, rfl, _, rfl, ?_⟩
      rw [hP.un.non]
      cases eu : p.un with
      | some q =>
        rw [eu] at k
        rw [Option.isNone_some]
        exact iteTb (by decide +kernel) k
      | none =>
        rw [eu] at k
        refine iteFb (by decide +kernel) ?_
        refine ⟨_, rfl, rfl, _, rfl, iteFb (by decide +kernel) ?_⟩
        refine ⟨_, rfl, rfl, _, rfl, iteFb (by decide +kernel) ?_⟩
        refine ⟨_, rfl, rfl, _, rfl, iteFb (by decide +kernel) ?_⟩
        have hb : b < p.vs.length := by rw [ok.len]; exact he.1
        obtain ⟨c, hc, hC⟩ := hP.ls.at hb
        have hcm : (as.map V.ref)[b]? = some (V.ref c) := by rw [List.getElem?_map, hc]; rfl
        refine ⟨_, rfl, t, _, ((2 : Nat) : Int), _, rfl, rfl, SqT.of ht, atI_nat rfl, _, rfl, a, T.C_Possibilities, ax, _, _, rfl, hP.ins, T.cl_Possibilities, T.n_Possibilities__values, lF_get0, _, rfl, t, _, ((1 : Nat) : Int), _, rfl, rfl, SqT.of ht, atI_nat rfl, l, _, _, _, rfl, rfl, SqL.of hP.ls.lst, atI_nat hcm, c, _, rfl, .inl (SqL.of hC), rfl, flat_ints _, _, rfl, ?_⟩
        rw [inV_int]
        by_cases hm : v ∈ p.vs.getD b []
        · simp only [Option.isSome_none, if_neg Bool.false_ne_true, if_pos hm] at k
          rw [decide_eq_true hm]
          refine iteF ⟨_, rfl, t, _, ((2 : Nat) : Int), _, rfl, rfl, SqT.of ht, atI_nat rfl, sz_le (by simp), fun q hq => ?_⟩
          have f1 : Fr [] H (upd H q (.lst [V.int v])) := Fr.new hq
          have ht1 := f1 _ _ ht (by simp)
          refine ⟨_, rfl, a, T.C_Possibilities, ax, _, _, rfl, f1 _ _ hP.ins (by simp), T.cl_Possibilities, T.n_Possibilities__values, lF_get0, _, rfl, t, _, ((1 : Nat) : Int), _, rfl, rfl, SqT.of ht1, atI_nat rfl, l, _, _, b, rfl, rfl, f1 _ _ hP.ls.lst (by simp), ix_at b (by rw [List.length_map, hlen]; exact he.1), ?_⟩
          rw [refs_set]
          obtain ⟨hP2, f2⟩ := hP.setv (b := b) (ys := [v]) hq
          rw [eu] at hP2
          exact k _ l _ _ f2 (Gw.refl _ _) hP2
        · simp only [Option.isSome_none, if_neg Bool.false_ne_true, if_neg hm] at k
          rw [decide_eq_false hm]
          exact iteT k
end
/-! ### what is new stands apart -/
theorem made_fr {H H' : Hp} {p dx C : Addr} (hp : H p = none) (hdx : H dx = none) (f : Fr [p] (upd (upd H dx (.own p)) p (.ins C dx [])) H') : Fr [] H H' := fun b o e _ => by
  have n1 : b ≠ p := ne_of_none e hp
  have n2 : b ≠ dx := ne_of_none e hdx
  exact f b o (by rw [upd_ne n1, upd_ne n2]; exact e) (by simpa using n1)
/-! ### a log is walked -/
def ItAt (H : Hp) (nb : Nat) (v : V) : Option En → Prop
  | some e => ∃ t : Addr, v = .ref t ∧ H t = some (.tup e.vs) ∧ e.ok nb
  | none => NoTup H v ∨ ∃ (t : Addr) (xs : List V), v = .ref t ∧ H t = some (.tup xs) ∧ (∀ x ∈ xs, FlatE x) ∧ xs.length ≤ 5 ∧ formV nb xs = false
theorem NoTup.keep0 {H H' : Hp} {v : V} (h : NoTup H v) (f : Fr [] H H') : NoTup H' v := by
  rcases h with h | h | h | ⟨l, xs, e, e2⟩
  · exact .inl h
  · exact .inr (.inl h)
  · exact .inr (.inr (.inl h))
  · exact .inr (.inr (.inr ⟨l, xs, e, f _ _ e2 (by simp)⟩))
theorem ItAt.keep0 {H H' : Hp} {nb : Nat} {v : V} {o : Option En} (h : ItAt H nb v o) (f : Fr [] H H') : ItAt H' nb v o := by
  cases o with
  | some e =>
    obtain ⟨t, e1, e2, e3⟩ := h
    exact ⟨t, e1, f _ _ e2 (by simp), e3⟩
  | none =>
    rcases h with h | ⟨t, xs, e1, e2, e3⟩
    · exact .inl (h.keep0 f)
    · exact .inr ⟨t, xs, e1, f _ _ e2 (by simp), e3⟩
def walkP : Nat → Po → List (Option En) → Option Nat × Po
  | _, p, [] => (none, p)
  | i, p, x :: r => match x.bind p.go with
    | none => (some i, p)
    | some p' => walkP (i + 1) p' r
def po0 (nb : Nat) : Po := ⟨List.replicate nb [0], none⟩
theorem po0_ok (nb : Nat) : PoOk nb 0 (po0 nb) := ⟨List.length_replicate, fun b v e => (by cases e), fun l hl => .inr (by
  rw [List.eq_of_mem_replicate hl]
  simp)⟩
def optV : Option Nat → V
  | none => .non
  | some i => .int (i : Int)
structure Log (H : Hp) (nb : Nat) (lg : Addr) (xs : List V) (its : List (Option En)) : Prop where
  lst : H lg = some (.lst xs)
  len : xs.length = its.length
  its : ∀ (i : Nat) (x : V) (o : Option En), xs[i]? = some x → its[i]? = some o → ItAt H nb x o
theorem Log.keep0 {H H' : Hp} {nb : Nat} {lg : Addr} {xs : List V} {its : List (Option En)} (h : Log H nb lg xs its) (f : Fr [] H H') : Log H' nb lg xs its := ⟨f _ _ h.lst (by simp), h.len, fun i x o e1 e2 => (h.its i x o e1 e2).keep0 f⟩
def NoLst (H : Hp) (v : V) : Prop := v = .non ∨ (∃ i, v = .int i) ∨ (∃ z, v = .str z) ∨ ∃ (t : Addr) (xs : List V), v = .ref t ∧ H t = some (.tup xs)
/-- what a log is, and what walking it tells -/
def Walked (H : Hp) (nb : Nat) (v : V) (r : Option Nat × Po) : Prop := (∃ (lg : Addr) (xs : List V) (its : List (Option En)), v = .ref lg ∧ Log H nb lg xs its ∧ its.length ≤ 60 ∧ r = walkP 0 (po0 nb) its) ∨ (NoLst H v ∧ r = (some 0, po0 nb))
def spWalk (C : Addr) : Sp := fun vs H Q _ => ∃ (nb : Nat) (v : V) (r : Option Nat × Po), vs = [.int (nb : Int), v] ∧ 1 ≤ nb ∧ nb ≤ 16 ∧ Walked H nb v r ∧
  ∀ (H' : Hp) (u a ax l : Addr) (as : List Addr) (uv : V), Fr [] H H' → H u = none → H a = none → H' u = some (.tup [optV r.1, .ref a]) → PoAt C H' a ax l as uv r.2 → PoOk nb 60 r.2 → Q (.ref u) H'
theorem PoOk.le {nb n m : Nat} {p : Po} (h : PoOk nb n p) (hm : n ≤ m) : PoOk nb m p := ⟨h.len, h.un, fun l hl => (h.vs l hl).imp id fun ⟨a, b, c, d⟩ => ⟨a, b, by omega, d⟩⟩
section
variable {P : Program} {w : World} {K : PySem.W.Frag} {mg : Str → Option Value} {base : Heap}
theorem ok_walk (T : Gx K mg) : FnOk P w K mg base CX0 4 T.f__walk T.fd__walk ["blocks", "log"] (spWalk T.C_Possibilities) := by
  have G_check_blocks : FnOk P w K mg base CX0 3 T.f_check_blocks T.fd_check_blocks ["blocks", "most"] spChk := ok_chkB T
  have G_Possibilities___init__ : FnOk P w K mg base CX0 1 T.f_Possibilities___init__ T.fd_Possibilities___init__ ["self", "blocks"] (spPoInit T.C_Possibilities) := ok_poInit T
  have G__has_form : FnOk P w K mg base CX0 3 T.f__has_form T.fd__has_form ["entry", "blocks"] (spForm K) := ok_form T
  have G_Possibilities_follow : FnOk P w K mg base CX0 2 T.f_Possibilities_follow T.fd_Possibilities_follow ["self", "entry"] (spFollow T.C_Possibilities) := ok_follow T
  obtain ⟨dsB, rdB, bB⟩ := T.F_check_blocks.binds1 (ps := ["blocks", "most"]) 1 0 (by simp) rfl (fun U kV doc pm an cdv ct us its hu hi => match us, hu, its, hi with
    | [_], _, [_], _ => ⟨_, rfl, rfl⟩)
  refine T.F__walk.ok sc__walk (fun vs H Q E h => ?_) (fun cdv A outer s H vs Q E hr h => ?_)
  · obtain ⟨nb, v, r, rfl, _⟩ := h
    rfl
  · obtain ⟨nb, v, r, rfl, hb1, hb2, hW, k⟩ := h
    refine ⟨_, (pss_cons (ps_expr (pe_call G_check_blocks (hr.mono (by first | decide | omega)) (by rfl) T.g_check_blocks T.F_check_blocks.kp bB rdB pass0 (pa_cons (pv 0) pa_nil)))
      (pss_cons (ps_set (i := 2) sc__walk.nd rfl (.inl rfl) (pe_make T.M_Possibilities___init__ G_Possibilities___init__ (hr.mono (by first | decide | omega)) (by rfl) T.gC_Possibilities (b_Possibilities___init__ T) .nil pass0 (pa_cons (pv 0) pa_nil)))
      (pss_cons (ps_if (pt_not (pt_val (pe_callB call_isi (by rfl) T.z_isinstance (by decide +kernel) (pa_cons (pv 1) (pa_cons (pe_bltn (v := .ty "list") (by rfl) T.z_list (by decide +kernel) rfl) pa_nil))))) (pss_one (ps_ret (pe_tup (pa_cons pe_int (pa_cons (pv 2) pa_nil))))) pss_nil)
      (pss_cons (ps_for PassesOwn.never rfl (pi_enum (by rfl) T.z_enumerate (pa_cons (pv 1) pa_nil)) (pg_tup (by rfl) (pgs_cons (pg_name (i := 3) sc__walk.nd rfl (.inl rfl)) (pgs_cons (pg_name (i := 4) sc__walk.nd rfl (.inl rfl)) pgs_nil))) (pss_one (ps_if (PW.pt (pw_or (pt_not (pt_val (pe_call G__has_form (hr.mono (by first | decide | omega)) (by rfl) T.g__has_form T.F__has_form.kp (b__has_form T) .nil pass0 (pa_cons (pv 4) (pa_cons (pv 0) pa_nil))))) (pw_or1 (pt_not (pt_val (pe_meth (pv 2) T.cl_Possibilities T.m_Possibilities_follow G_Possibilities_follow (hr.mono (by first | decide | omega)) (b_Possibilities_follow T) .nil pass0 (pa_cons (pv 4) pa_nil))))))) (pss_one (ps_ret (pe_tup (pa_cons (pv 3) (pa_cons (pv 2) pa_nil))))) pss_nil)))
      (pss_one (ps_ret (pe_tup (pa_cons pe_non (pa_cons (pv 2) pa_nil))))))))), ?_⟩
    refine ⟨_, rfl, (nb : Int), 16, rfl, by omega, by omega, ?_⟩
    refine ⟨_, rfl, fun q qx hq hqx hne => ⟨q, qx, nb, rfl, hb2, upd_same, fun H1 l as f1 hl hP => ⟨rfl, ?_⟩⟩⟩
    have g1 := made_fr hq hqx f1
    have hl0 := (free_upd (free_upd hl).1).1
    rcases hW with ⟨lg, xs, its, rfl, hL, hlen, rfl⟩ | ⟨hn, rfl⟩
    · have hL1 := hL.keep0 g1
      refine ⟨_, rfl, _, .ty "list", .type "list", _, true, rfl, ClsV.ty "list", .base (.lst hL1.lst), kit_ty (by decide +kernel), true, rfl, iteF ?_⟩
      refine ⟨_, rfl, lg, _, rfl, SqL.of hL1.lst, for_enumL (K := K) (a := lg) (xs := xs) (fun i σ H' => ∃ (l : Addr) (as : List Addr) (uv : V) (p : Po) (v3 v4 : Option V), σ = [some (.int (nb : Int)), some (.ref lg), some (.ref q), v3, v4] ∧ Fr [] H H' ∧ H l = none ∧ PoAt T.C_Possibilities H' q qx l as uv p ∧ PoOk nb i p ∧ walkP 0 (po0 nb) its = walkP i p (its.drop i))
        ⟨l, as, .non, po0 nb, none, none, rfl, g1, hl0, hP, po0_ok nb, rfl⟩ (fun i σ H' _ h => by
          obtain ⟨l, as, uv, p, v3, v4, _, f, _⟩ := h
          exact SqL.of (hL.keep0 f).lst) ?_ ?_⟩
      · rintro i x _ H2 U hx ⟨l2, as2, uv, p, v3, v4, rfl, f2, hl2, hP2, ok2, eW⟩ hU
        have hi : i < its.length := by rw [← hL.len]; exact lt_of_at hx
        have f3 : Fr [] H (upd H2 U (.tup [.int (i : Nat), x])) := f2.trans (Fr.new hU)
        have hP3 := hP2.keep0 (Fr.new (o := .tup [.int (i : Nat), x]) hU)
        refine ⟨U, _, rfl, SqT.of upd_same, rfl, _, _, rfl, _, _, rfl, rfl, ?_⟩
        have hIt := ((hL.its i x _ hx (List.getElem?_eq_getElem hi)).keep0 f3)
        rw [List.drop_eq_getElem_cons hi] at eW
        have bad : ∀ H4, Fr [] H H4 → (∃ as uv, PoAt T.C_Possibilities H4 q qx l2 as uv p) → (its[i].bind p.go = none) → ∀ t, H4 t = none → Q (.ref t) (upd H4 t (.tup [.int (i : Int), .ref q])) := fun H4 f4 hP4 hb t ht => by
          obtain ⟨as4, uv4, hP4⟩ := hP4
          have e : walkP 0 (po0 nb) its = (some i, p) := by
            rw [eW]
            show (match its[i].bind p.go with | none => (some i, p) | some p' => walkP (i + 1) p' (its.drop (i + 1))) = _
            rw [hb]
          rw [e] at k
          exact k _ t q qx l2 as4 uv4 (f4.trans (Fr.new ht)) (some_of f4 (by simp) ht) hq upd_same (hP4.keep0 (Fr.new ht)) (ok2.le (by omega))
        cases eI : its[i] with
        | none =>
          rw [eI] at hIt
          have run : ∀ H4, Fr [] (upd H2 U (.tup [.int (i : Nat), x])) H4 → ∀ t, H4 t = none → Q (.ref t) (upd H4 t (.tup [.int (i : Int), .ref q])) := fun H4 f4 t ht => bad H4 (f3.trans f4) ⟨_, _, hP3.keep0 f4⟩ (by rw [eI]; rfl) t ht
          rcases hIt with hIt | ⟨t, zs, rfl, ht, hf, hz, hv⟩
          · exact ⟨_, rfl, _, rfl, x, nb, rfl, .inr ⟨hIt, fun H4 f4 => ⟨_, rfl, iteT ⟨_, rfl, _, rfl, sz_le (by simp), fun t ht => run H4 f4 t ht⟩⟩⟩⟩
          · refine ⟨_, rfl, _, rfl, _, nb, rfl, .inl ⟨t, zs, rfl, ht, hf, hz, fun H4 f4 => ⟨_, rfl, ?_⟩⟩⟩
            rw [hv]
            exact iteT ⟨_, rfl, _, rfl, sz_le (by simp), fun t ht => run H4 f4 t ht⟩
        | some e =>
          rw [eI] at hIt
          obtain ⟨t, rfl, ht, he⟩ := hIt
          refine ⟨_, rfl, _, rfl, _, nb, rfl, .inl ⟨t, e.vs, rfl, ht, flat_en, en_len, fun H4 f4 => ⟨_, rfl, ?_⟩⟩⟩
          rw [formV_ok he]
          refine iteF ?_
          have f5 := f3.trans f4
          have hP5 := hP3.keep0 f4
          have ht5 := f4 _ _ ht (by simp)
          refine ⟨_, rfl, q, qx, _, rfl, hP5.ins, lF_no_follow, _, rfl, q, qx, l2, as2, uv, p, nb, i, t, e, rfl, hP5, ok2, hb2, by omega, he, ht5, ?_⟩
          cases eg : p.go e with
          | none => exact ⟨_, rfl, iteT ⟨_, rfl, _, rfl, sz_le (by simp), fun t ht => bad H4 f5 ⟨_, _, hP5⟩ (by rw [eI]; exact eg) t ht⟩⟩
          | some p' =>
            refine fun H6 l6 as6 uv6 f6 g6 hP6 => ⟨_, rfl, iteF ?_⟩
            have f06 : Fr [] H H6 := f5.grow f6 fun b hb => by
              rcases List.mem_cons.mp hb with e | hb
              · rw [e]; exact .inr hq
              · rw [List.mem_singleton.mp hb]; exact .inr hl2
            have hl6 : H l6 = none := by
              rcases g6 l6 (by simp) with z | z
              · rcases List.mem_cons.mp z with e | z
                · rw [e]; exact hq
                · rw [List.mem_singleton.mp z]; exact hl2
              · exact some_of f5 (by simp) z
            refine ⟨l6, as6, uv6, p', _, _, rfl, f06, hl6, hP6, ok2.go he eg, ?_⟩
            rw [eW]
            show (match its[i].bind p.go with | none => (some i, p) | some p' => walkP (i + 1) p' (its.drop (i + 1))) = _
            rw [eI]
            show (match p.go e with | none => (some i, p) | some p' => walkP (i + 1) p' (its.drop (i + 1))) = _
            rw [eg]
      · rintro _ H2 ⟨l2, as2, uv, p, v3, v4, rfl, f2, hl2, hP2, ok2, eW⟩
        refine ⟨_, rfl, sz_le (by simp), fun t ht => ?_⟩
        rw [hL.len, List.drop_length] at eW
        rw [eW] at k
        exact k _ t q qx l2 as2 uv (f2.trans (Fr.new ht)) (some_of f2 (by simp) ht) hq upd_same (hP2.keep0 (Fr.new ht)) (ok2.le (by rw [hL.len]; omega))
    · obtain ⟨tv, hty, hk⟩ : ∃ tv, TyX K H1 v tv ∧ PySem.W.kitOne K tv (.type "list") = some false := by
        rcases hn with rfl | ⟨i, rfl⟩ | ⟨z, rfl⟩ | ⟨t, xs, rfl, e⟩
        · exact ⟨_, .base .non, kit_ty (by decide +kernel)⟩
        · exact ⟨_, .base (.int i), kit_ty (by decide +kernel)⟩
        · exact ⟨_, .base (.str z), kit_ty (by decide +kernel)⟩
        · exact ⟨_, .base (.tup (g1 _ _ e (by simp))), kit_ty (by decide +kernel)⟩
      refine ⟨_, rfl, _, .ty "list", tv, _, false, rfl, ClsV.ty "list", hty, hk, false, rfl, iteT ⟨_, rfl, sz_le (by simp), fun t ht => ?_⟩⟩
      exact k _ t q qx l as .non (g1.trans (Fr.new ht)) (some_of g1 (by simp) ht) hq upd_same (hP.keep0 (Fr.new ht)) ((po0_ok nb).le (by omega))
end
/-! ### sorted lists of numbers -/
def sortI (ys : List Int) : List Int := ys.mergeSort fun a b => decide (a ≤ b)
theorem sortI_sorted (ys : List Int) : (sortI ys).Pairwise (· ≤ ·) :=
  (List.pairwise_mergeSort (le := fun (a b : Int) => decide (a ≤ b)) (fun a b c h1 h2 => decide_eq_true (Int.le_trans (of_decide_eq_true h1) (of_decide_eq_true h2))) (fun a b => by
    rcases Int.le_total a b with h | h
    · simp [h]
    · simp [h]) ys).imp fun h => of_decide_eq_true h
theorem sorted_eq {as bs : List Int} (h : as.Perm bs) (ha : as.Pairwise (· ≤ ·)) (hb : bs.Pairwise (· ≤ ·)) : as = bs :=
  List.Perm.eq_of_pairwise (le := fun (a b : Int) => a ≤ b) (fun a b _ _ h1 h2 => Int.le_antisymm h1 h2) ha hb h
theorem sortI_of {as ys : List Int} (h : as.Perm ys) (ha : as.Pairwise (· ≤ ·)) : as = sortI ys := sorted_eq (h.trans (List.mergeSort_perm _ _).symm) ha (sortI_sorted ys)
theorem sortI_perm {as bs : List Int} (h : as.Perm bs) : sortI as = sortI bs := sorted_eq (((List.mergeSort_perm _ _).trans h).trans (List.mergeSort_perm _ _).symm) (sortI_sorted as) (sortI_sorted bs)
/-! ### errors and possible values -/
def shownV (l : List Int) : List Int := if l.length > 999 then [-1] else sortI l
def spFirst : Sp := fun vs H Q _ => ∃ (nb : Nat) (v : V) (r : Option Nat × Po), vs = [.int (nb : Int), v] ∧ 1 ≤ nb ∧ nb ≤ 16 ∧ Walked H nb v r ∧ ∀ H', Fr [] H H' → Q (optV r.1) H'
def spPoss : Sp := fun vs H Q _ => ∃ (nb : Nat) (v : V) (r : Option Nat × Po), vs = [.int (nb : Int), v] ∧ 1 ≤ nb ∧ nb ≤ 16 ∧ Walked H nb v r ∧ (∀ l ∈ r.2.now, l = allV ∨ l.length < 64) ∧
  (match r.1 with
    | some _ => ∀ H', Fr [] H H' → Q .non H'
    | none => ∀ (H' : Hp) (l : Addr) (as : List Addr), Fr [] H H' → H l = none → (∀ a ∈ as, H a = none) → as.Nodup → Lists H' l as (r.2.now.map shownV) → Q (.ref l) H')
section
variable {P : Program} {w : World} {K : PySem.W.Frag} {mg : Str → Option Value} {base : Heap}
theorem ok_first (T : Gx K mg) : FnOk P w K mg base CX0 5 T.f_first_error T.fd_first_error ["blocks", "log"] spFirst := by
  have G__walk : FnOk P w K mg base CX0 4 T.f__walk T.fd__walk ["blocks", "log"] (spWalk T.C_Possibilities) := ok_walk T
  refine T.F_first_error.ok sc_first_error (fun vs H Q E h => ?_) (fun cdv A outer s H vs Q E hr h => ?_)
  · obtain ⟨nb, v, r, rfl, _⟩ := h
    rfl
  · obtain ⟨nb, v, r, rfl, h1, h2, hW, k⟩ := h
    refine ⟨_, (pss_one (ps_ret (pe_ix ix_tup (pe_call G__walk (hr.mono (by first | decide | omega)) (by rfl) T.g__walk T.F__walk.kp (b__walk T) .nil pass0 (pa_cons (pv 0) (pa_cons (pv 1) pa_nil))) pe_int (fun _ _ => rfl)))), ?_⟩
    refine ⟨_, rfl, _, rfl, nb, v, r, rfl, h1, h2, hW, fun H1 u a ax l as uv f1 hu ha e1 hP ok => ?_⟩
    exact ⟨u, _, ((0 : Nat) : Int), _, rfl, rfl, SqT.of e1, atI_nat rfl, k H1 f1⟩
theorem ok_poss (T : Gx K mg) : FnOk P w K mg base CX0 5 T.f_possible_values T.fd_possible_values ["blocks", "log"] spPoss := by
  have G__walk : FnOk P w K mg base CX0 4 T.f__walk T.fd__walk ["blocks", "log"] (spWalk T.C_Possibilities) := ok_walk T
  have G_Possibilities_values_now : FnOk P w K mg base CX0 1 T.f_Possibilities_values_now T.fd_Possibilities_values_now ["self"] (spNow T.C_Possibilities) := ok_now T
  refine T.F_possible_values.ok sc_possible_values (fun vs H Q E h => ?_) (fun cdv A outer s H vs Q E hr h => ?_)
  · obtain ⟨nb, v, r, rfl, _⟩ := h
    rfl
  · obtain ⟨nb, v, r, rfl, h1, h2, hW, hs, k⟩ := h
    refine ⟨_, (pss_cons (ps_asg (pe_call G__walk (hr.mono (by first | decide | omega)) (by rfl) T.g__walk T.F__walk.kp (b__walk T) .nil pass0 (pa_cons (pv 0) (pa_cons (pv 1) pa_nil))) (pg_tup (by rfl) (pgs_cons (pg_name (i := 2) sc_possible_values.nd rfl (.inl rfl)) (pgs_cons (pg_name (i := 3) sc_possible_values.nd rfl (.inl rfl)) pgs_nil))))
      (pss_cons (ps_if (pt_cmpR op_notN (pv 2) pe_non (nomark _)) (pss_one (ps_ret pe_non)) pss_nil)
      (pss_one (ps_ret (pe_lc (own := [("values", 4)]) (g := gName 4) rfl sc_possible_values.nd (pi_list (pe_meth0 (pv 3) T.cl_Possibilities T.m_Possibilities_values_now G_Possibilities_values_now (hr.mono (by first | decide | omega)) (b_Possibilities_values_now T) .nil pass0)) (blkOk_by (N := ["blocks", "log", "error", "walked", "values"]) (sc := defScope s_possible_values) (by decide +kernel)) (fun _ _ _ _ _ => pg_name (i := 4) sc_possible_values.nd rfl (.inl rfl)) (fun _ _ _ _ _ => pts_nil) (fun _ _ _ _ _ => (pe_ifExp (pt_cmpR op_gt (pe_callB (call_len_seqK (K := K) rfl) (by rfl) T.z_len (by decide +kernel) (pa_cons (pv 4) pa_nil)) (pe_glob (v := .int (999)) (by rfl) T.c_MOST_VALUE ⟨_, rfl⟩) (nomark _)) (pe_lst (pa_cons (pe_glob (v := .int (-1)) (by rfl) T.c_ANY_VALUE ⟨_, rfl⟩) pa_nil)) (pe_callB (cr_sortedK (K := K) rfl) (by rfl) T.z_sorted (by decide +kernel) (pa_cons (pv 4) pa_nil))))))))), ?_⟩
    refine ⟨_, rfl, _, rfl, nb, v, r, rfl, h1, h2, hW, fun H1 u a ax l as uv f1 hu ha e1 hP ok => ?_⟩
    refine ⟨u, _, rfl, SqT.of e1, rfl, _, _, rfl, _, _, rfl, rfl, ?_⟩
    obtain ⟨o, p⟩ := r
    cases o with
    | some i => exact ⟨_, rfl, rfl, _, rfl, iteT (k H1 f1)⟩
    | none =>
      refine ⟨_, rfl, rfl, _, rfl, iteF ?_⟩
      refine ⟨_, rfl, a, ax, _, rfl, hP.ins, lF_no_values_now, a, ax, l, as, uv, p, nb, 60, rfl, hP, ok, h2, by omega, fun H2 r rs f2 hr2 nw L => ?_⟩
      refine ⟨r, rfl, ⟨_, SqL.of L.lst⟩, fun D hD => ?_⟩
      have f02 := f1.trans f2
      refine lc_list (K := K) (a := r) (xs := rs.map V.ref) (fun i H' => Fr [] H2 H' ∧ ∃ ws : List Addr, Lists H' D ws ((p.now.take i).map shownV) ∧ ws.Nodup ∧ ∀ w ∈ ws, H2 w = none) ⟨Fr.new hD, [], ⟨upd_same, rfl, fun i a xs e => by simp at e, by simp⟩, List.nodup_nil, by simp⟩ (fun i H' _ h => SqL.of (h.1 _ _ L.lst (by simp))) ?_ ?_
      · rintro i x H3 hx ⟨f3, ws, L3, nd, nw3⟩
        obtain ⟨b, rfl, hb⟩ : ∃ b, x = V.ref b ∧ rs[i]? = some b := by
          rw [List.getElem?_map] at hx
          cases e : rs[i]? with
          | none => rw [e] at hx; cases hx
          | some b => rw [e] at hx; exact ⟨b, (Option.some.inj hx).symm, rfl⟩
        have hi : i < p.now.length := by rw [← L.len]; exact lt_of_at hb
        have hB := f3 _ _ (L.its i b _ hb (List.getElem?_eq_getElem hi)) (by simp)
        have hwl : ws.length = i := by rw [L3.len, List.length_map, List.length_take]; omega
        have hnow : p.now.length ≤ 16 := by
          have : p.now.length = nb := (ok.now).len
          omega
        have fin : ∀ (q : Addr) (ys : List Int), shownV p.now[i] = ys → H3 q = none → (∃ acc, (upd H3 q (.lst (ys.map V.int))) D = some (.lst acc) ∧ acc.length < sizeLine ∧ (Fr [] H2 (upd (upd H3 q (.lst (ys.map V.int))) D (.lst (acc ++ [.ref q]))) ∧ ∃ ws' : List Addr, Lists (upd (upd H3 q (.lst (ys.map V.int))) D (.lst (acc ++ [.ref q]))) D ws' ((p.now.take (i + 1)).map shownV) ∧ ws'.Nodup ∧ ∀ w ∈ ws', H2 w = none)) := by
          rintro q ys rfl hq
          have qD : q ≠ D := (ne_of_none L3.lst hq).symm
          refine ⟨_, (upd_ne qD.symm).trans L3.lst, by rw [List.length_map]; exact sz_lt (by omega), (f3.trans (Fr.new hq)).upd0 hD, ws ++ [q], ?_, ?_, ?_⟩
          · rw [List.take_succ, List.getElem?_eq_getElem hi, List.map_append]
            exact L3.snoc (((Fr.new hq).trans (Fr.put (by simp)))) (by rw [upd_same, List.map_append]; rfl) ((upd_ne qD).trans upd_same) qD
          · rw [List.nodup_append]
            refine ⟨nd, by simp, fun u hu v hv e => ?_⟩
            rw [List.mem_singleton] at hv
            obtain ⟨o, eo⟩ := L3.there u hu
            rw [e, hv, hq] at eo
            cases eo
          · intro u hu
            rcases List.mem_append.mp hu with y | y
            · exact nw3 u y
            · rw [List.mem_singleton.mp y]
              exact some_of f3 (by simp) hq
        refine ⟨rfl, _, rfl, b, _, rfl, .inl (SqL.of hB), _, _, rfl, rfl, _, rfl, ?_⟩
        rw [List.length_map]
        by_cases hgt : p.now[i].length > 999
        · refine iteTb (decide_eq_true (by omega)) ⟨sz_le (by simp), fun q hq => ?_⟩
          exact fin q [-1] (by unfold shownV; rw [if_pos hgt]) hq
        · refine iteFb (decide_eq_false (by omega)) ⟨_, rfl, b, _, rfl, SqL.of hB, ?_, fun ns q hp hs' hq => ?_⟩
          · rcases hs _ (List.getElem_mem hi) with e | e
            · have : p.now[i].length = 1000 := by
                have e' : p.now[i] = allV := e
                rw [e', allV_len]
              omega
            · exact e
          · exact fin q ns (by unfold shownV; rw [if_neg hgt]; exact (sortI_of hp hs').symm) hq
      · rintro H3 ⟨f3, ws, L3, nd, nw3⟩
        rw [List.length_map, L.len, List.take_length] at L3
        exact k H3 D ws (f02.trans f3) (some_of f02 (by simp) hD) (fun w hw => some_of f02 (by simp) (nw3 w hw)) nd L3
end
/-! ### the law's random logs -/
def runE : Po → List En → Option Po
  | p, [] => some p
  | p, e :: r => (p.go e).bind fun q => runE q r
theorem runE_snoc (e : En) : ∀ (es : List En) (p : Po), runE p (es ++ [e]) = (runE p es).bind fun q => q.go e
  | [], p => by
    show (p.go e).bind (fun q => some q) = p.go e
    cases p.go e <;> rfl
  | a :: es, p => by
    show (p.go a).bind (fun q => runE q (es ++ [e])) = ((p.go a).bind fun q => runE q es).bind fun q => q.go e
    cases p.go a with
    | none => rfl
    | some q => exact runE_snoc e es q
theorem walkP_run {r : List (Option En)} : ∀ {es : List En} {p p' : Po} {i : Nat}, runE p es = some p' → walkP i p (es.map some ++ r) = walkP (i + es.length) p' r
  | [], p, p', i, h => by
    cases h
    rfl
  | a :: es, p, p', i, h => by
    cases e : p.go a with
    | none =>
      have h' : (p.go a).bind (fun q => runE q es) = some p' := h
      rw [e] at h'
      cases h'
    | some q =>
      have h' : (p.go a).bind (fun q => runE q es) = some p' := h
      rw [e] at h'
      show (match (some a : Option En).bind p.go with | none => (some i, p) | some p' => walkP (i + 1) p' (es.map some ++ r)) = _
      rw [show (some a : Option En).bind p.go = some q from e]
      show walkP (i + 1) q (es.map some ++ r) = _
      rw [walkP_run (i := i + 1) h', List.length_cons]
      congr 1
      omega
theorem runE_ok {nb : Nat} : ∀ {es : List En} {n : Nat} {p p' : Po}, PoOk nb n p → (∀ e ∈ es, e.ok nb) → runE p es = some p' → PoOk nb (n + es.length) p'
  | [], n, p, p', h, _, e => by
    cases e
    exact h
  | a :: es, n, p, p', h, g, e => by
    have e' : (p.go a).bind (fun q => runE q es) = some p' := e
    cases eg : p.go a with
    | none =>
      rw [eg] at e'
      cases e'
    | some q =>
      rw [eg] at e'
      have := runE_ok (h.go (g a List.mem_cons_self) eg) (fun b hb => g b (List.mem_cons_of_mem _ hb)) e'
      rw [List.length_cons]
      exact this.le (by omega)
/-- the law's list of values, and the program's -/
def SimL (n : Nat) (l v : List Int) : Prop := (l = [-1] ∧ v = allV) ∨ (l ≠ [] ∧ l.length ≤ n + 1 ∧ (∀ x ∈ l, 0 ≤ x ∧ x ≤ 999) ∧ (∀ x, x ∈ l ↔ x ∈ v) ∧ v.Nodup ∧ v.length ≤ n + 1)
def SimA (n : Nat) (ls vs : List (List Int)) : Prop := ls.length = vs.length ∧ ∀ (i : Nat) (l v : List Int), ls[i]? = some l → vs[i]? = some v → SimL n l v
theorem SimL.up {n : Nat} {l v : List Int} (h : SimL n l v) : SimL (n + 1) l v := h.imp id fun ⟨a, b, c, d, e, f⟩ => ⟨a, by omega, c, d, e, by omega⟩
theorem SimA.up {n : Nat} {ls vs : List (List Int)} (h : SimA n ls vs) : SimA (n + 1) ls vs := ⟨h.1, fun i l v e1 e2 => (h.2 i l v e1 e2).up⟩
theorem SimA.set {n : Nat} {ls vs : List (List Int)} (h : SimA n ls vs) (b : Nat) {l v : List Int} (g : SimL n l v) : SimA n (ls.set b l) (vs.set b v) := by
  refine ⟨by rw [List.length_set, List.length_set]; exact h.1, fun i x y e1 e2 => ?_⟩
  rw [List.getElem?_set] at e1 e2
  by_cases z : b = i
  · rw [if_pos z] at e1 e2
    by_cases hl : b < ls.length
    · rw [if_pos hl] at e1
      rw [if_pos (by rw [← h.1]; exact hl)] at e2
      cases e1
      cases e2
      exact g
    · rw [if_neg hl] at e1
      cases e1
  · rw [if_neg z] at e1 e2
    exact h.2 i x y e1 e2
theorem SimA.at {n : Nat} {ls vs : List (List Int)} (h : SimA n ls vs) {b : Nat} (hb : b < vs.length) : SimL n (ls.getD b []) (vs.getD b []) := by
  have hb2 : b < ls.length := by rw [h.1]; exact hb
  refine h.2 b _ _ ?_ ?_
  · rw [List.getD_eq_getElem?_getD, List.getElem?_eq_getElem hb2]; rfl
  · rw [List.getD_eq_getElem?_getD, List.getElem?_eq_getElem hb]; rfl
theorem SimL.one {n : Nat} {x : Int} (h : 0 ≤ x ∧ x ≤ 999) : SimL n [x] [x] := .inr ⟨by simp, by simp, fun y hy => by rw [List.mem_singleton.mp hy]; exact h, fun y => Iff.rfl, by simp, by simp⟩
theorem SimL.add {n : Nat} {l v : List Int} {x : Int} (g : SimL n l v) (h : 0 ≤ x ∧ x ≤ 999) : SimL (n + 1) (if l = [-1] then l else l ++ [x]) (addV x v) := by
  rcases g with ⟨rfl, rfl⟩ | ⟨g1, g2, g3, g4, g5, g6⟩
  · rw [if_pos rfl]
    refine .inl ⟨rfl, ?_⟩
    unfold addV
    rw [if_pos (mem_allV.mpr h)]
  · have hn : l ≠ [-1] := fun z => by
      have := g3 (-1) (by rw [z]; simp)
      omega
    rw [if_neg hn]
    unfold addV
    refine .inr ⟨by simp, by rw [List.length_append, List.length_singleton]; omega, fun y hy => ?_, fun y => ?_, ?_, ?_⟩
    · rcases List.mem_append.mp hy with z | z
      · exact g3 y z
      · rw [List.mem_singleton.mp z]; exact h
    · by_cases hx : x ∈ v
      · rw [if_pos hx, List.mem_append, List.mem_singleton, g4]
        exact ⟨fun z => z.elim id fun e => by rw [e]; exact hx, .inl⟩
      · rw [if_neg hx, List.mem_append, List.mem_append, g4]
    · by_cases hx : x ∈ v
      · rw [if_pos hx]; exact g5
      · rw [if_neg hx, List.nodup_append]
        exact ⟨g5, by simp, fun a ha b hb e => hx (by rw [List.mem_singleton] at hb; rw [← hb, ← e]; exact ha)⟩
    · by_cases hx : x ∈ v
      · rw [if_pos hx]; omega
      · rw [if_neg hx, List.length_append, List.length_singleton]; omega
theorem SimL.any {n : Nat} {l v : List Int} (g : SimL n l v) : (l = [-1] ↔ v = allV) ∨ 999 ≤ n := by
  rcases g with ⟨rfl, rfl⟩ | ⟨g1, g2, g3, g4, g5, g6⟩
  · exact .inl ⟨fun _ => rfl, fun _ => rfl⟩
  · by_cases hn : 999 ≤ n
    · exact .inr hn
    · refine .inl ⟨fun z => ?_, fun z => ?_⟩
      · have := g3 (-1) (by rw [z]; simp)
        omega
      · rw [z, allV_len] at g6
        omega
/-- the log and the law's lists in memory -/
structure LgAt (H : Hp) (r lg pl : Addr) (ts pas : List Addr) (uv : V) (es : List En) (ls : List (List Int)) (un : Option (Nat × Int)) : Prop where
  rnd : Rnd H r
  log : H lg = some (.lst (ts.map V.ref))
  len : ts.length = es.length
  its : ∀ (i : Nat) (t : Addr) (e : En), ts[i]? = some t → es[i]? = some e → H t = some (.tup e.vs)
  pos : Lists H pl pas ls
  un : UnAt H uv un
  rl : r ≠ lg
  rp : r ≠ pl
  lp : lg ≠ pl
  la : lg ∉ pas
  ra : r ∉ pas
section
variable {H H' : Hp} {r lg pl : Addr} {ts pas : List Addr} {uv : V} {es : List En} {ls : List (List Int)} {un : Option (Nat × Int)}
theorem LgAt.keepS {S : List Addr} (h : LgAt H r lg pl ts pas uv es ls un) (f : Fr S H H') (R : Rnd H' r) (n1 : lg ∉ S) (n2 : pl ∉ S) (n3 : ∀ a ∈ pas, a ∉ S) (m : ∀ b ∈ S, ∀ xs, H b ≠ some (.tup xs)) : LgAt H' r lg pl ts pas uv es ls un :=
  ⟨R, f _ _ h.log n1, h.len, fun i t e e1 e2 => f _ _ (h.its i t e e1 e2) fun z => m _ z _ (h.its i t e e1 e2), h.pos.keep f n2 n3, h.un.keep f m, h.rl, h.rp, h.lp, h.la, h.ra⟩
theorem LgAt.keep0 (h : LgAt H r lg pl ts pas uv es ls un) (f : Fr [] H H') : LgAt H' r lg pl ts pas uv es ls un := h.keepS f (h.rnd.keep f (by simp)) (by simp) (by simp) (by simp) (by simp)
theorem LgAt.draw (h : LgAt H r lg pl ts pas uv es ls un) (f : Fr [r] H H') (R : Rnd H' r) : LgAt H' r lg pl ts pas uv es ls un :=
  h.keepS f R (by simpa using h.rl.symm) (by simpa using h.rp.symm) (fun a ha => by rw [List.mem_singleton]; exact fun z => h.ra (by rw [← z]; exact ha)) h.rnd.notup
theorem LgAt.notlg (h : LgAt H r lg pl ts pas uv es ls un) : ∀ b ∈ [lg], ∀ xs, H b ≠ some (.tup xs) := fun b hb xs => by rw [List.mem_singleton.mp hb, h.log]; simp
theorem LgAt.notpl (h : LgAt H r lg pl ts pas uv es ls un) : ∀ b ∈ [pl], ∀ xs, H b ≠ some (.tup xs) := fun b hb xs => by rw [List.mem_singleton.mp hb, h.pos.lst]; simp
theorem LgAt.snoc (h : LgAt H r lg pl ts pas uv es ls un) {t : Addr} {e : En} (ht : H t = some (.tup e.vs)) : LgAt (upd H lg (.lst (ts.map V.ref ++ [.ref t]))) r lg pl (ts ++ [t]) pas uv (es ++ [e]) ls un := by
  have f : Fr [lg] H (upd H lg (.lst (ts.map V.ref ++ [.ref t]))) := Fr.put (by simp)
  have g := h.notlg
  refine ⟨h.rnd.keep f (by simpa using h.rl), by rw [upd_same, List.map_append]; rfl, by rw [List.length_append, List.length_append, h.len]; rfl, fun i t2 e2 e1 e3 => ?_, h.pos.keep f (by simpa using h.lp.symm) (fun a ha => ?_), h.un.keep f g, h.rl, h.rp, h.lp, h.la, h.ra⟩
  · by_cases hj : i < ts.length
    · rw [List.getElem?_append_left hj] at e1
      rw [List.getElem?_append_left (by rw [← h.len]; exact hj)] at e3
      have := h.its i t2 e2 e1 e3
      exact f _ _ this fun z => g _ z _ this
    · rw [List.getElem?_append_right (by omega)] at e1
      rw [List.getElem?_append_right (by rw [← h.len]; omega)] at e3
      rw [← h.len] at e3
      have hz : i - ts.length = 0 := by
        have := lt_of_at e1
        simp at this
        omega
      rw [hz] at e1 e3
      cases e1
      cases e3
      exact f _ _ ht fun z => g _ z _ ht
  · rw [List.mem_singleton]
    exact fun z => h.la (by rw [← z]; exact ha)
theorem LgAt.setp (h : LgAt H r lg pl ts pas uv es ls un) {b : Nat} {w : Addr} {ys : List Int} (hw : H w = some (.lst (ys.map V.int))) (w1 : w ≠ lg) (w2 : w ≠ pl) (w3 : w ≠ r) : LgAt (upd H pl (.lst ((pas.set b w).map V.ref))) r lg pl ts (pas.set b w) uv es (ls.set b ys) un := by
  have f : Fr [pl] H (upd H pl (.lst ((pas.set b w).map V.ref))) := Fr.put (by simp)
  refine ⟨h.rnd.keep f (by simpa using h.rp), f _ _ h.log (by simpa using h.lp), h.len, fun i t e e1 e2 => f _ _ (h.its i t e e1 e2) fun z => h.notpl _ z _ (h.its i t e e1 e2), h.pos.set f upd_same ((upd_ne w2).trans hw) w2, h.un.keep f h.notpl, h.rl, h.rp, h.lp, fun z => ?_, fun z => ?_⟩
  · rcases mem_set z with y | y
    · exact w1 y.symm
    · exact h.la y
  · rcases mem_set z with y | y
    · exact w3 y.symm
    · exact h.ra y
theorem LgAt.setu (h : LgAt H r lg pl ts pas uv es ls un) {uv' : V} {un' : Option (Nat × Int)} (hu : UnAt H uv' un') : LgAt H r lg pl ts pas uv' es ls un' := ⟨h.rnd, h.log, h.len, h.its, h.pos, hu, h.rl, h.rp, h.lp, h.la, h.ra⟩
theorem LgAt.new_ne (h : LgAt H r lg pl ts pas uv es ls un) {q : Addr} (hq : H q = none) : q ≠ lg ∧ q ≠ pl ∧ q ≠ r := by
  obtain ⟨a, b, ns, e⟩ := h.rnd
  exact ⟨(ne_of_none h.log hq).symm, (ne_of_none h.pos.lst hq).symm, (ne_of_none e hq).symm⟩
theorem LgAt.in_ne (h : LgAt H r lg pl ts pas uv es ls un) {b : Nat} {w : Addr} (e : pas[b]? = some w) : w ≠ lg ∧ w ≠ pl ∧ w ≠ r :=
  ⟨fun z => h.la (by rw [← z]; exact List.mem_of_getElem? e), fun z => h.pos.out (by rw [← z]; exact List.mem_of_getElem? e), fun z => h.ra (by rw [← z]; exact List.mem_of_getElem? e)⟩
end
/-- what the log tells, by the law's lists and by the program's -/
structure Told (nb n : Nat) (es : List En) (ls : List (List Int)) (p : Po) : Prop where
  ok : ∀ e ∈ es, e.ok nb
  run : runE (po0 nb) es = some p
  sim : SimA n ls p.vs
  len : es.length = n
  pok : PoOk nb n p
theorem Told.step {nb n : Nat} {es : List En} {ls ls' : List (List Int)} {p p' : Po} (h : Told nb n es ls p) {e : En} (he : e.ok nb) (hg : p.go e = some p') (hs : SimA (n + 1) ls' p'.vs) : Told nb (n + 1) (es ++ [e]) ls' p' :=
  ⟨fun a ha => (List.mem_append.mp ha).elim (h.ok a) fun z => by rw [List.mem_singleton.mp z]; exact he, by rw [runE_snoc, h.run]; exact hg, hs, by rw [List.length_append, h.len]; rfl, h.pok.go he hg⟩
theorem Told.start (nb : Nat) : Told nb 0 [] (List.replicate nb [0]) (po0 nb) := by
  refine ⟨by simp, rfl, ⟨rfl, fun i l v e1 e2 => ?_⟩, rfl, po0_ok nb⟩
  have h1 := List.eq_of_mem_replicate (List.mem_of_getElem? e1)
  have h2 := List.eq_of_mem_replicate (List.mem_of_getElem? e2)
  rw [h1, h2]
  exact SimL.one (by omega)
def spLog : Sp := fun vs H Q _ => ∃ (r : Addr) (nb m : Nat), vs = [.ref r, .int (nb : Int), .int (m : Int)] ∧ Rnd H r ∧ 1 ≤ nb ∧ nb ≤ 16 ∧ m ≤ 30 ∧
  ∀ (H' : Hp) (t lg pl : Addr) (ts pas : List Addr) (uv : V) (es : List En) (ls : List (List Int)) (p : Po), Fr [r] H H' → H lg = none → H pl = none → H' t = some (.tup [.ref lg, .ref pl, uv]) → LgAt H' r lg pl ts pas uv es ls p.un → Told nb m es ls p → Q (.ref t) H'
theorem mod2 (n : Nat) : ((n : Int) % 2 = ((0 : Nat) : Int)) ∨ ((n : Int) % 2 = ((1 : Nat) : Int)) := by omega
section
variable {P : Program} {w : World} {K : PySem.W.Frag} {mg : Str → Option Value} {base : Heap}
theorem ok_log (T : Gx K mg) : FnOk P w K mg base CX0 2 T.f__law_log T.fd__law_log ["_law_d", "_law_blocks", "_law_length"] spLog := by
  have G__law_below : FnOk P w K mg base CX0 1 T.f__law_below T.fd__law_below ["_law_d", "_law_limit"] spBelow := ok_below T
  refine T.F__law_log.ok sc__law_log (fun vs H Q E h => ?_) (fun cdv A outer s H vs Q E hr h => ?_)
  · obtain ⟨r, nb, m, rfl, _⟩ := h
    rfl
  · obtain ⟨r, nb, m, rfl, hR, hb1, hb2, hm, k⟩ := h
    refine ⟨_, (pss_cons (ps_par3 (i := 4) (j := 5) (l := 6) (by rfl) sc__law_log.nd rfl rfl rfl (by decide) (by decide) (by decide) rfl rfl rfl (pa_cons (pe_lst pa_nil) (pa_cons (pe_lc (own := [("_law_block", 3)]) (g := gName 3) rfl sc__law_log.nd (pi_range1 (by rfl) T.z_range (pa_cons (pv 1) pa_nil)) (blkOk_by (N := ["_law_d", "_law_blocks", "_law_length", "_law_block", "_law_log_here", "_law_possible", "_law_under", "_law_k", "_law_value", "_law_way", "_law_old", "_law_some"]) (sc := defScope s__law_log) (by decide +kernel)) (fun _ _ _ _ _ => pg_name (i := 3) sc__law_log.nd rfl (.inl rfl)) (fun _ _ _ _ _ => pts_nil) (fun _ _ _ _ _ => (pe_lst (pa_cons pe_int pa_nil)))) (pa_cons pe_non pa_nil))) (by rfl))
      (pss_cons (ps_for PassesOwn.never rfl (pi_range1 (by rfl) T.z_range (pa_cons (pv 2) pa_nil)) (pg_name (i := 7) sc__law_log.nd rfl (.inl rfl)) (pss_cons (ps_par3 (i := 3) (j := 8) (l := 9) (by rfl) sc__law_log.nd rfl rfl rfl (by decide) (by decide) (by decide) rfl rfl rfl (pa_cons (pe_call G__law_below (hr.mono (by first | decide | omega)) (by rfl) T.g__law_below T.F__law_below.kp (b__law_below T) .nil pass0 (pa_cons (pv 0) (pa_cons (pv 1) pa_nil))) (pa_cons (pe_call G__law_below (hr.mono (by first | decide | omega)) (by rfl) T.g__law_below T.F__law_below.kp (b__law_below T) .nil pass0 (pa_cons (pv 0) (pa_cons pe_int pa_nil))) (pa_cons (pe_call G__law_below (hr.mono (by first | decide | omega)) (by rfl) T.g__law_below T.F__law_below.kp (b__law_below T) .nil pass0 (pa_cons (pv 0) (pa_cons pe_int pa_nil))) pa_nil))) (by rfl))
      (pss_one (ps_if (pt_cmpR op_notN (pv 6) pe_non (nomark _)) (pss_cons (ps_expr (pe_bm PySem.F.plainAttrs_list PySem.F.slot_list_append PySem.F.type_list_append mt_append (pv 4) (pa_cons (pe_ix ix_list (pe_lst (pa_cons (pe_tup (pa_cons pe_str pa_nil)) (pa_cons (pe_tup (pa_cons pe_str pa_nil)) pa_nil))) (pe_op op_mod (pe_callTy call_int1 (by rfl) T.z_int (by decide +kernel) (pa_cons (pv 9) pa_nil)) pe_int) (fun _ _ => rfl)) pa_nil)))
      (pss_cons (ps_set (i := 10) sc__law_log.nd rfl (.inl rfl) (pe_ix ix_list (pv 5) (pe_ix ix_tup (pv 6) pe_int (fun _ _ => rfl)) (fun _ _ => rfl)))
      (C8.pss_cut (ps_set (i := 11) sc__law_log.nd rfl (.inl rfl) (pe_ifExp (pt_cmpR op_eq (pe_op op_mod (pe_callTy call_int1 (by rfl) T.z_int (by decide +kernel) (pa_cons (pv 9) pa_nil)) pe_int) pe_int (nomark _)) (pe_lst (pa_cons (pe_ix ix_tup (pv 6) pe_int (fun _ _ => rfl)) pa_nil)) (pe_ifExp (pt_cmpR (op_eqD hr.units) (pv 10) (pe_lst (pa_cons (pe_op op_sub pe_int pe_int) pa_nil)) (nomark _)) (pv 10) (pe_op op_cat (pv 10) (pe_lst (pa_cons (pe_ix ix_tup (pv 6) pe_int (fun _ _ => rfl)) pa_nil))))))
      (pss_one (ps_asg (pe_tup (pa_cons (pv 11) (pa_cons pe_non pa_nil))) (pg_tup (by rfl) (pgs_cons (pg_sub (pv 5) (pe_ix ix_tup (pv 6) pe_int (fun _ _ => rfl)) set_list) (pgs_cons (pg_name (i := 6) sc__law_log.nd rfl (.inl rfl)) pgs_nil)))))))) (pss_one (ps_if (pt_cmpR op_lt (pv 9) pe_int (nomark _)) (pss_cons (ps_expr (pe_bm PySem.F.plainAttrs_list PySem.F.slot_list_append PySem.F.type_list_append mt_append (pv 4) (pa_cons (pe_tup (pa_cons pe_str (pa_cons (pv 3) (pa_cons (pv 8) pa_nil)))) pa_nil)))
      (pss_one (ps_set (i := 6) sc__law_log.nd rfl (.inl rfl) (pe_tup (pa_cons (pv 3) (pa_cons (pv 8) pa_nil)))))) (pss_one (ps_if (pt_cmpR op_lt (pv 9) pe_int (nomark _)) (pss_cons (ps_set (i := 11) sc__law_log.nd rfl (.inl rfl) (pe_ix ix_list (pv 5) (pv 3) (fun _ _ => rfl)))
      (C8.pss_cut (ps_set (i := 8) sc__law_log.nd rfl (.inl rfl) (pe_ifExp (pt_cmpR (op_eqD hr.units) (pv 11) (pe_lst (pa_cons (pe_op op_sub pe_int pe_int) pa_nil)) (nomark _)) (pv 8) (pe_ix ix_list (pv 11) (pe_call G__law_below (hr.mono (by first | decide | omega)) (by rfl) T.g__law_below T.F__law_below.kp (b__law_below T) .nil pass0 (pa_cons (pv 0) (pa_cons (pe_callB call_len_seq (by rfl) T.z_len (by decide +kernel) (pa_cons (pv 11) pa_nil)) pa_nil))) (fun _ _ => rfl))))
      (pss_cons (ps_expr (pe_bm PySem.F.plainAttrs_list PySem.F.slot_list_append PySem.F.type_list_append mt_append (pv 4) (pa_cons (pe_tup (pa_cons pe_str (pa_cons (pv 3) (pa_cons (pv 8) pa_nil)))) pa_nil)))
      (pss_one (ps_asg (pe_lst (pa_cons (pv 8) pa_nil)) (pg_sub (pv 5) (pv 3) set_list)))))) (pss_cons (ps_expr (pe_bm PySem.F.plainAttrs_list PySem.F.slot_list_append PySem.F.type_list_append mt_append (pv 4) (pa_cons (pe_ix ix_list (pe_lst (pa_cons (pe_tup (pa_cons pe_str pa_nil)) (pa_cons (pe_tup (pa_cons pe_str (pa_cons (pv 3) pa_nil))) pa_nil))) (pe_op op_sub (pv 9) pe_int) (fun _ _ => rfl)) pa_nil)))
      (pss_one (ps_asg (pe_ifExp (pt_cmpR op_eq (pv 9) pe_int (nomark _)) (pe_ix ix_list (pv 5) (pv 3) (fun _ _ => rfl)) (pe_lst (pa_cons (pe_op op_sub pe_int pe_int) pa_nil))) (pg_sub (pv 5) (pv 3) set_list))))))))))))
      (pss_one (ps_ret (pe_tup (pa_cons (pv 4) (pa_cons (pv 5) (pa_cons (pv 6) pa_nil)))))))), ?_⟩
    refine ⟨sz_le (by simp), fun lg hlg => ?_⟩
    refine ⟨_, rfl, _, rfl, by omega, by omega, fun D hD => ?_⟩
    have hD0 := free_upd hD
    refine lc_range (lo := 0) (n := nb) (fun i H' => Fr [] (upd H lg (.lst [])) H' ∧ ∃ as : List Addr, Lists H' D as (List.replicate i [0]) ∧ ∀ a ∈ as, upd H lg (.lst []) a = none) ⟨Fr.new hD, [], ⟨upd_same, rfl, fun i a xs e => by simp at e, by simp⟩, by simp⟩ ?_ ?_
    · rintro j H1 hj ⟨f1, as, L, na⟩
      refine ⟨rfl, sz_le (by simp), fun q hq => ⟨_, (upd_ne (ne_of_none L.lst hq)).trans L.lst, by rw [List.length_map, L.len, List.length_replicate]; exact sz_lt (by omega), ?_⟩⟩
      have qD : q ≠ D := (ne_of_none L.lst hq).symm
      have f2 : Fr [D] H1 (upd (upd H1 q (.lst [V.int 0])) D (.lst (as.map V.ref ++ [V.ref q]))) := (Fr.new hq).trans (Fr.put (by simp))
      refine ⟨(f1.trans (Fr.new hq)).upd0 hD, as ++ [q], ?_, ?_⟩
      · rw [List.replicate_succ']
        exact L.snoc f2 (by rw [upd_same, List.map_append]; rfl) ((upd_ne qD).trans upd_same) qD
      · intro a ha
        rcases List.mem_append.mp ha with y | y
        · exact na a y
        · rw [List.mem_singleton.mp y]
          exact some_of f1 (by simp) hq
    · rintro H1 ⟨f1, as, L, na⟩
      refine ⟨_, _, _, rfl, ?_⟩
      have hlg1 := f1 _ _ upd_same (by simp)
      have f01 : Fr [] H H1 := (Fr.new hlg).trans f1
      have R1 := hR.keep f01 (by simp)
      obtain ⟨ra, rb, rns, eR⟩ := hR
      have S1 : LgAt H1 r lg D [] as .non [] (List.replicate nb [0]) none := by
        refine ⟨R1, hlg1, rfl, fun i t e e1 => by simp at e1, L, rfl, ne_of_none eR hlg, ?_, hD0.2.symm, fun z => ?_, fun z => ?_⟩
        · exact ne_of_none eR hD0.1
        · have := na lg z
          rw [upd_same] at this
          cases this
        · have := (free_upd (na r z)).1
          rw [eR] at this
          cases this
      have f02 : Fr [r] H H1 := f01.mono (by simp)
      clear R1 f1 L na hlg1 hD f01
      refine ⟨_, rfl, _, rfl, by omega, by omega, for_range (n := m) (fun i σ H' => ∃ (ts pas : List Addr) (uv : V) (es : List En) (ls : List (List Int)) (p : Po) (v3 v7 v8 v9 v10 v11 : Option V), σ = [some (.ref r), some (.int (nb : Int)), some (.int (m : Int)), v3, some (.ref lg), some (.ref D), some uv, v7, v8, v9, v10, v11] ∧ Fr [r] H H' ∧ LgAt H' r lg D ts pas uv es ls p.un ∧ Told nb i es ls p)
        ⟨[], as, .non, [], _, po0 nb, none, none, none, none, none, none, rfl, f02, S1, Told.start nb⟩ ?_ ?_⟩
      · clear S1 f02
        rintro i _ H3 hi ⟨ts, pas, uv, es, ls, p, v3, v7, v8, v9, v10, v11, rfl, f3, S3, tl⟩
        refine ⟨_, rfl, _, rfl, r, nb, rfl, S3.rnd, by omega, by omega, fun b H4 hb f4 R4 => ?_⟩
        have S4 := S3.draw f4 R4
        refine ⟨_, rfl, r, 1000, rfl, S4.rnd, by decide, by decide, fun x H5 hx f5 R5 => ?_⟩
        have S5 := S4.draw f5 R5
        refine ⟨_, rfl, r, 6, rfl, S5.rnd, by decide, by decide, fun y H6 hy f6 R6 => ?_⟩
        have S6 := S5.draw f6 R6
        have f06 : Fr [r] H H6 := ((f3.trans f4).trans f5).trans f6
        refine ⟨_, _, _, rfl, ?_⟩
        clear S3 S4 S5 f3 f4 f5 f6 R4 R5 R6
        have hbl : b < p.vs.length := by rw [tl.pok.len]; exact hb
        have hlsl : b < ls.length := by rw [tl.sim.1]; exact hbl
        have hpl : b < pas.length := by rw [S6.pos.len]; exact hlsl
        have htl : ts.length < 100 := by rw [S6.len, tl.len]; omega
        have hxr : 0 ≤ (x : Int) ∧ (x : Int) ≤ 999 := by omega
        have fin : ∀ (H7 : Hp) (ts' pas' : List Addr) (uv' : V) (es' : List En) (ls' : List (List Int)) (p' : Po) (v3 v7 v8 v9 v10 v11 : Option V), Fr [r] H H7 → LgAt H7 r lg D ts' pas' uv' es' ls' p'.un → Told nb (i + 1) es' ls' p' →
            ∃ (ts pas : List Addr) (uv : V) (es : List En) (ls : List (List Int)) (p : Po) (w3 w7 w8 w9 w10 w11 : Option V), [some (.ref r), some (.int (nb : Int)), some (.int (m : Int)), v3, some (.ref lg), some (.ref D), some uv', v7, v8, v9, v10, v11] = [some (.ref r), some (.int (nb : Int)), some (.int (m : Int)), w3, some (.ref lg), some (.ref D), some uv, w7, w8, w9, w10, w11] ∧ Fr [r] H H7 ∧ LgAt H7 r lg D ts pas uv es ls p.un ∧ Told nb (i + 1) es ls p :=
          fun H7 ts' pas' uv' es' ls' p' w3 w7 w8 w9 w10 w11 f S t => ⟨ts', pas', uv', es', ls', p', w3, w7, w8, w9, w10, w11, rfl, f, S, t⟩
        have gr : ∀ {H7 H8 : Hp}, Fr [r] H H7 → Fr [lg, D] H7 H8 → Fr [r] H H8 := fun f g => f.grow (g.mono fun b hb => by
            rcases List.mem_cons.mp hb with e | hb
            · rw [e]; exact List.mem_cons_of_mem _ List.mem_cons_self
            · rw [List.mem_singleton.mp hb]; exact List.mem_cons_of_mem _ (List.mem_cons_of_mem _ List.mem_cons_self)) (S1 := [r, lg, D]) fun b hb => by
            rcases List.mem_cons.mp hb with e | hb
            · exact .inl (by rw [e]; simp)
            · rcases List.mem_cons.mp hb with e | hb
              · rw [e]; exact .inr hlg
              · rw [List.mem_singleton.mp hb]; exact .inr hD0.1
        refine ⟨_, rfl, rfl, _, rfl, ?_⟩
        rw [S6.un.non]
        cases eu : p.un with
        | some q =>
          obtain ⟨c, z⟩ := q
          obtain ⟨hc, hz⟩ := tl.pok.un c z eu
          have hcl : c < p.vs.length := by rw [tl.pok.len]; exact hc
          have hcp : c < pas.length := by rw [S6.pos.len, tl.sim.1]; exact hcl
          have hU := S6.un
          rw [eu] at hU
          obtain ⟨u, rfl, hu⟩ := hU
          rw [Option.isNone_some]
          refine iteT ?_
          -- the entry
          refine ⟨_, rfl, .inl ⟨rfl, _, SqL.of S6.log⟩, sz_le (by simp), fun t1 h1 => ⟨sz_le (by simp), fun t2 h2 => ⟨sz_le (by simp), fun q hq => ?_⟩⟩⟩
          have g1 : Fr [] H6 (upd H6 t1 (.tup [V.str "done"])) := Fr.new h1
          have g2 := g1.trans (Fr.new (o := .tup [V.str "fail"]) h2)
          have g3 := g2.trans (Fr.new (o := .lst [V.ref t1, V.ref t2]) hq)
          have S7 := S6.keep0 g3
          have f7 := f06.trans (g3.mono (by simp))
          have e1 : (upd (upd (upd H6 t1 (.tup [V.str "done"])) t2 (.tup [V.str "fail"])) q (.lst [V.ref t1, V.ref t2])) t1 = some (.tup [V.str "done"]) := (Fr.new (S := []) hq) _ _ ((Fr.new (S := []) h2) _ _ upd_same (by simp)) (by simp)
          have e2 : (upd (upd (upd H6 t1 (.tup [V.str "done"])) t2 (.tup [V.str "fail"])) q (.lst [V.ref t1, V.ref t2])) t2 = some (.tup [V.str "fail"]) := (Fr.new (S := []) hq) _ _ upd_same (by simp)
          have e3 : (upd (upd (upd H6 t1 (.tup [V.str "done"])) t2 (.tup [V.str "fail"])) q (.lst [V.ref t1, V.ref t2])) q = some (.lst [V.ref t1, V.ref t2]) := upd_same
          have hu7 := g3 _ _ hu (by simp)
          generalize (upd (upd (upd H6 t1 (.tup [V.str "done"])) t2 (.tup [V.str "fail"])) q (.lst [V.ref t1, V.ref t2])) = H7 at S7 f7 e1 e2 e3 hu7
          clear g1 g2 g3 h1 h2 hq
          obtain ⟨e, te, he, hte, hat⟩ : ∃ (e : En) (te : Addr), e = (if (y : Int) % 2 = ((0 : Nat) : Int) then .dn else .fl) ∧ H7 te = some (.tup e.vs) ∧ atI [V.ref t1, V.ref t2] ((y : Int) % 2) = some (.ref te) := by
            rcases mod2 y with h | h
            · exact ⟨.dn, t1, by rw [if_pos h], e1, by rw [h]; exact atI_nat rfl⟩
            · refine ⟨.fl, t2, by rw [if_neg (by rw [h]; decide)], e2, by rw [h]; exact atI_nat rfl⟩
          refine ⟨_, rfl, .inl ⟨_, rfl, _, _, rfl, rfl, (by show (0 : Int) < 2; decide), q, _, _, _, rfl, rfl, SqL.of e3, hat, ?_⟩⟩
          refine ⟨lg, _, _, rfl, rfl, S7.log, by rw [List.length_map]; exact sz_lt (by omega), ?_⟩
          have S8 := S7.snoc hte
          have f8 := gr f7 (Fr.put (H := H7) (a := lg) (o := .lst (ts.map V.ref ++ [.ref te])) (by simp))
          have hu8 := (upd_ne (o := .lst (ts.map V.ref ++ [.ref te])) (fun z => S7.notlg u (List.mem_singleton.mpr z) _ hu7)).trans hu7
          generalize (upd H7 lg (.lst (ts.map V.ref ++ [.ref te]))) = H8 at S8 f8 hu8
          clear S7 f7 e1 e2 e3 hu7 hte hat
          obtain ⟨wa, hwa, hW⟩ := S8.pos.at (by rw [tl.sim.1]; exact hcl : c < ls.length)
          have hwm : (pas.map V.ref)[c]? = some (V.ref wa) := by rw [List.getElem?_map, hwa]; rfl
          refine ⟨_, rfl, _, rfl, u, _, ((0 : Nat) : Int), _, rfl, rfl, SqT.of hu8, atI_nat rfl, D, _, _, _, rfl, rfl, SqL.of S8.pos.lst, atI_nat hwm, ?_⟩
          have hsim := tl.sim.at hcl
          have hsl : ls.getD c [] = [-1] ∨ ls.getD c [] ≠ [-1] := Decidable.em _
          have hll : (ls.getD c []).length ≤ 32 := by
            rcases hsim with ⟨e1, _⟩ | ⟨_, e2, _⟩
            · rw [e1]; decide
            · omega
          refine ⟨fun σ' H9 => ∃ (w9 : Addr) (ys vs' : List Int), σ' = [some (.ref r), some (.int (nb : Int)), some (.int (m : Int)), some (.int (b : Int)), some (.ref lg), some (.ref D), some (.ref u), some (.int (0 + (i : Int))), some (.int (x : Int)), some (.int (y : Int)), some (.ref wa), some (.ref w9)] ∧ LgAt H9 r lg D (ts ++ [te]) pas (.ref u) (es ++ [e]) ls p.un ∧ Fr [r] H H9 ∧ H9 u = some (.tup [.int (c : Int), .int z]) ∧ H9 w9 = some (.lst (ys.map V.int)) ∧ (w9 ≠ lg ∧ w9 ≠ D ∧ w9 ≠ r) ∧ SimL (i + 1) ys vs' ∧ p.go e = some ⟨p.vs.set c vs', none⟩, ?_, ?_⟩
          · refine ⟨_, rfl, .inl ⟨_, rfl, _, _, rfl, rfl, (by show (0 : Int) < 2; decide), rfl, _, rfl, ?_⟩⟩
            rcases mod2 y with h | h
            · rw [if_pos h] at he
              refine iteTb (decide_eq_true (show V.int ((y : Int) % 2) = V.int 0 from by rw [h]; rfl)) ⟨_, rfl, u, _, ((1 : Nat) : Int), _, rfl, rfl, SqT.of hu8, atI_nat rfl, sz_le (by simp), fun q hq => ?_⟩
              refine ⟨q, [z], [z], rfl, S8.keep0 (Fr.new hq), f8.trans (Fr.new hq), (Fr.new (S := []) hq) _ _ hu8 (by simp), upd_same, S8.new_ne hq, SimL.one hz, ?_⟩
              rw [he]
              show (match p.un with | none => none | some (b, v) => some (⟨p.vs.set b [v], none⟩ : Po)) = _
              rw [eu]
            · rw [if_neg (by rw [h]; decide)] at he
              refine iteFb (decide_eq_false (show ¬ V.int ((y : Int) % 2) = V.int 0 from by rw [h]; decide)) ?_
              have hnow : p.go e = some ⟨p.vs.set c (addV z (p.vs.getD c [])), none⟩ := by
                rw [he]
                show some (⟨p.now, none⟩ : Po) = _
                unfold Po.now
                rw [eu]
              have hadd := hsim.add hz
              refine ⟨_, rfl, _, _, rfl, rfl, sz_le (by simp), fun q hq => ?_⟩
              have hu9 := (Fr.new (S := []) (o := .lst [V.int (0 - 1)]) hq) _ _ hu8 (by simp)
              have hW9 := (Fr.new (S := []) (o := .lst [V.int (0 - 1)]) hq) _ _ hW (by simp)
              have S9 := S8.keep0 (Fr.new (o := .lst [V.int (0 - 1)]) hq)
              have f9 : Fr [r] H (upd H8 q (.lst [V.int (0 - 1)])) := f8.trans (Fr.new hq)
              refine ⟨_, _, .lst (SqL.of hW9) (dpAll_ints _), .lst (SqL.of upd_same) (dpAll_ints [(0 - 1 : Int)]), shapedL_ints _, shapedL_ints _, _, rfl, ?_⟩
              rw [eqvL_ints]
              rcases hsl with hs | hs
              · refine iteTb (decide_eq_true (show ls.getD c [] = [0 - 1] from hs)) ⟨_, rfl, ?_⟩
                rw [if_pos hs] at hadd
                exact ⟨wa, _, _, rfl, S9, f9, hu9, hW9, S8.in_ne hwa, hadd, hnow⟩
              · rw [if_neg hs] at hadd
                refine iteFb (decide_eq_false (show ¬ ls.getD c [] = [0 - 1] from hs)) ⟨_, rfl, _, rfl, u, _, ((1 : Nat) : Int), _, rfl, rfl, SqT.of hu9, atI_nat rfl, sz_le (by simp), fun q2 hq2 => ?_⟩
                have f10 := f9.trans (Fr.new (o := .lst [V.int z]) hq2)
                refine ⟨wa, q2, _, _, rfl, rfl, (Fr.new (S := []) hq2) _ _ hW9 (by simp), upd_same, ?_, fun q3 hq3 => ?_⟩
                · rw [List.length_map]
                  show (ls.getD c []).length + 1 ≤ sizeLine
                  exact sz_le (by omega)
                · refine ⟨q3, ls.getD c [] ++ [z], _, rfl, (S9.keep0 (Fr.new hq2)).keep0 (Fr.new hq3), f10.trans (Fr.new hq3), (Fr.new (S := []) hq3) _ _ ((Fr.new (S := []) hq2) _ _ hu9 (by simp)) (by simp), ?_, (S9.keep0 (Fr.new hq2)).new_ne hq3, hadd, hnow⟩
                  rw [upd_same, List.map_append]
                  rfl
          · rintro _ H9 ⟨w9, ys, vs', rfl, S9, f9, hu9, hw9, ⟨n1, n2, n3⟩, hs9, hg⟩
            refine ⟨_, rfl, sz_le (by simp), fun t ht => ?_⟩
            have g := Fr.new (S := []) (o := .tup [.ref w9, .non]) ht
            have S10 := S9.keep0 g
            have hu10 := g _ _ hu9 (by simp)
            have hw10 := g _ _ hw9 (by simp)
            refine ⟨t, _, rfl, SqT.of upd_same, rfl, _, _, rfl, _, rfl, _, rfl, u, _, ((0 : Nat) : Int), _, rfl, rfl, SqT.of hu10, atI_nat rfl, D, _, _, c, rfl, rfl, S10.pos.lst, ix_at c (by rw [List.length_map]; exact hcp), _, _, rfl, rfl, ?_⟩
            rw [refs_set]
            have S11 := (S10.setp (b := c) hw10 n1 n2 n3).setu (uv' := .non) (un' := none) rfl
            have heok : e.ok nb := by
              rw [he]
              split <;> exact trivial
            exact fin _ _ _ _ _ _ ⟨p.vs.set c vs', none⟩ _ _ _ _ _ _ (gr (f9.trans (g.mono (by simp))) (Fr.put (by simp))) S11 (tl.step heok hg (tl.sim.up.set c hs9))
        | none =>
          have huv : uv = .non := by
            have := S6.un
            rw [eu] at this
            exact this
          rw [eu] at S6
          have sp0 : p = ⟨p.vs, none⟩ := by rw [← eu]
          refine iteF ?_
          have gone : ∀ (H8 : Hp) (t : Addr) (e : En) (uv' : V) (p' : Po), LgAt H8 r lg D ts pas uv es ls none → Fr [r] H H8 → H8 t = some (.tup e.vs) → e.ok nb → p.go e = some p' → LgAt (upd H8 lg (.lst (ts.map V.ref ++ [.ref t]))) r lg D (ts ++ [t]) pas uv (es ++ [e]) ls none ∧ Fr [r] H (upd H8 lg (.lst (ts.map V.ref ++ [.ref t]))) := fun H8 t e uv' p' S f ht he hg => ⟨S.snoc ht, gr f (Fr.put (by simp))⟩
          refine ⟨_, rfl, _, _, rfl, rfl, _, rfl, ?_⟩
          by_cases y2 : y < 2
          · refine iteTb (decide_eq_true (by omega)) ⟨_, rfl, .inl ⟨rfl, _, SqL.of S6.log⟩, _, rfl, _, rfl, sz_le (by simp), fun t ht => ?_⟩
            have g := Fr.new (S := []) (o := .tup [.str "begin", .int (b : Int), .int (x : Int)]) ht
            have S7 := S6.keep0 g
            have f7 : Fr [r] H (upd H6 t (.tup [.str "begin", .int (b : Int), .int (x : Int)])) := f06.trans (g.mono (by simp))
            refine ⟨lg, _, _, rfl, rfl, S7.log, by rw [List.length_map]; exact sz_lt (by omega), ?_⟩
            obtain ⟨S8, f8⟩ := gone _ t (.bg b x) .non ⟨p.vs, some (b, x)⟩ S7 f7 upd_same ⟨hb, hxr⟩ (by show (if p.un.isSome then none else _) = _; rw [eu]; rfl)
            refine ⟨_, rfl, _, rfl, sz_le (by simp), fun t2 ht2 => ?_⟩
            have g2 := Fr.new (S := []) (o := .tup [.int (b : Int), .int (x : Int)]) ht2
            have S9 := (S8.keep0 g2).setu (uv' := .ref t2) (un' := some (b, (x : Int))) ⟨t2, rfl, upd_same⟩
            exact fin _ _ _ _ _ _ ⟨p.vs, some (b, x)⟩ _ _ _ _ _ _ (f8.trans (g2.mono (by simp))) S9 (tl.step (e := .bg b x) ⟨hb, hxr⟩ (by show (if p.un.isSome then none else _) = _; rw [eu]; rfl) tl.sim.up)
          · refine iteFb (decide_eq_false (by omega)) ⟨_, rfl, _, _, rfl, rfl, _, rfl, ?_⟩
            have hsim := tl.sim.at hbl
            obtain ⟨wa, hwa, hW⟩ := S6.pos.at hlsl
            have hwm : (pas.map V.ref)[b]? = some (V.ref wa) := by rw [List.getElem?_map, hwa]; rfl
            by_cases y4 : y < 4
            · refine iteTb (decide_eq_true (by omega)) ⟨_, rfl, _, rfl, D, _, _, _, rfl, rfl, SqL.of S6.pos.lst, atI_nat hwm, ?_⟩
              refine ⟨fun σ' H9 => ∃ z : Int, σ' = [some (.ref r), some (.int (nb : Int)), some (.int (m : Int)), some (.int (b : Int)), some (.ref lg), some (.ref D), some uv, some (.int (0 + (i : Int))), some (.int z), some (.int (y : Int)), v10, some (.ref wa)] ∧ LgAt H9 r lg D ts pas uv es ls none ∧ Fr [r] H H9 ∧ (0 ≤ z ∧ z ≤ 999) ∧ z ∈ p.vs.getD b [], ?_, ?_⟩
              · refine ⟨_, rfl, _, _, rfl, rfl, sz_le (by simp), fun q hq => ?_⟩
                have g := Fr.new (S := []) (o := .lst [V.int (0 - 1)]) hq
                have S7 := S6.keep0 g
                have f7 : Fr [r] H (upd H6 q (.lst [V.int (0 - 1)])) := f06.trans (g.mono (by simp))
                have hW7 := g _ _ hW (by simp)
                refine ⟨_, _, .lst (SqL.of hW7) (dpAll_ints _), .lst (SqL.of upd_same) (dpAll_ints [(0 - 1 : Int)]), shapedL_ints _, shapedL_ints _, _, rfl, ?_⟩
                rw [eqvL_ints]
                rcases hsim with ⟨e1, e2⟩ | ⟨n1, n2, n3, n4, n5, n6⟩
                · refine iteTb (decide_eq_true (show ls.getD b [] = [0 - 1] from e1)) ⟨_, rfl, ?_⟩
                  exact ⟨x, rfl, S7, f7, hxr, by rw [e2]; exact mem_allV.mpr hxr⟩
                · have hn : ls.getD b [] ≠ [-1] := fun z => by
                    have := n3 (-1) (by rw [z]; simp)
                    omega
                  have hpos : 0 < (ls.getD b []).length := by
                    cases e : ls.getD b [] with
                    | nil => exact absurd e n1
                    | cons a as => simp
                  refine iteFb (decide_eq_false (show ¬ ls.getD b [] = [0 - 1] from hn)) ⟨_, rfl, _, rfl, _, rfl, wa, _, rfl, .inl (SqL.of hW7), r, (ls.getD b []).length, by rw [List.length_map] <;> rfl, S7.rnd, hpos, by omega, fun j H8 hj f8 R8 => ?_⟩
                  have hW8 := f8 _ _ hW7 (by rw [List.mem_singleton]; exact (S7.in_ne hwa).2.2)
                  have hjm : ((ls.getD b []).map V.int)[j]? = some (V.int ((ls.getD b [])[j]'hj)) := by rw [List.getElem?_map, List.getElem?_eq_getElem hj]; rfl
                  have hmem : (ls.getD b [])[j]'hj ∈ ls.getD b [] := List.getElem_mem hj
                  refine ⟨wa, _, _, _, rfl, rfl, SqL.of hW8, atI_nat hjm, (ls.getD b [])[j]'hj, rfl, S7.draw f8 R8, f7.trans f8, n3 _ hmem, (n4 _).mp hmem⟩
              · rintro _ H9 ⟨z, rfl, S9, f9, hz, hzm⟩
                refine ⟨_, rfl, .inl ⟨rfl, _, SqL.of S9.log⟩, _, rfl, _, rfl, sz_le (by simp), fun t ht => ?_⟩
                have g := Fr.new (S := []) (o := .tup [.str "read", .int (b : Int), .int z]) ht
                have S10 := S9.keep0 g
                have f10 : Fr [r] H (upd H9 t (.tup [.str "read", .int (b : Int), .int z])) := f9.trans (g.mono (by simp))
                refine ⟨lg, _, _, rfl, rfl, S10.log, by rw [List.length_map]; exact sz_lt (by omega), ?_⟩
                have hg : p.go (.rd b z) = some ⟨p.vs.set b [z], none⟩ := by
                  show (if p.un.isSome then none else if z ∈ p.vs.getD b [] then some (⟨p.vs.set b [z], none⟩ : Po) else none) = _
                  rw [eu, if_pos hzm]
                  rfl
                obtain ⟨S11, f11⟩ := gone _ t (.rd b z) .non _ S10 f10 upd_same ⟨hb, hz⟩ hg
                refine ⟨_, rfl, sz_le (by simp), fun q hq => ?_⟩
                have g12 := Fr.new (S := []) (o := .lst [V.int z]) hq
                have S12 := S11.keep0 g12
                refine ⟨_, rfl, _, rfl, D, _, _, b, rfl, rfl, S12.pos.lst, ix_at b (by rw [List.length_map]; exact hpl), ?_⟩
                rw [refs_set]
                obtain ⟨n1, n2, n3⟩ := S11.new_ne hq
                have S13 := S12.setp (b := b) (ys := [z]) upd_same n1 n2 n3
                exact fin _ _ _ _ _ _ ⟨p.vs.set b [z], none⟩ _ _ _ _ _ _ (gr (f11.trans (g12.mono (by simp))) (Fr.put (by simp))) S13 (tl.step (e := .rd b z) ⟨hb, hz⟩ hg (tl.sim.up.set b (SimL.one hz)))
            · refine iteFb (decide_eq_false (by omega)) ⟨_, rfl, .inl ⟨rfl, _, SqL.of S6.log⟩, sz_le (by simp), fun t1 h1 => ⟨_, rfl, sz_le (by simp), fun t2 h2 => ⟨sz_le (by simp), fun q hq => ?_⟩⟩⟩
              have g1 : Fr [] H6 (upd H6 t1 (.tup [V.str "fail"])) := Fr.new h1
              have g2 := g1.trans (Fr.new (o := .tup [V.str "lost", V.int (b : Int)]) h2)
              have g3 := g2.trans (Fr.new (o := .lst [V.ref t1, V.ref t2]) hq)
              have S7 := S6.keep0 g3
              have f7 := f06.trans (g3.mono (by simp))
              have hW7 := g3 _ _ hW (by simp)
              have e1 : (upd (upd (upd H6 t1 (.tup [V.str "fail"])) t2 (.tup [V.str "lost", V.int (b : Int)])) q (.lst [V.ref t1, V.ref t2])) t1 = some (.tup [V.str "fail"]) := (Fr.new (S := []) hq) _ _ ((Fr.new (S := []) h2) _ _ upd_same (by simp)) (by simp)
              have e2 : (upd (upd (upd H6 t1 (.tup [V.str "fail"])) t2 (.tup [V.str "lost", V.int (b : Int)])) q (.lst [V.ref t1, V.ref t2])) t2 = some (.tup [V.str "lost", V.int (b : Int)]) := (Fr.new (S := []) hq) _ _ upd_same (by simp)
              have e3 : (upd (upd (upd H6 t1 (.tup [V.str "fail"])) t2 (.tup [V.str "lost", V.int (b : Int)])) q (.lst [V.ref t1, V.ref t2])) q = some (.lst [V.ref t1, V.ref t2]) := upd_same
              generalize (upd (upd (upd H6 t1 (.tup [V.str "fail"])) t2 (.tup [V.str "lost", V.int (b : Int)])) q (.lst [V.ref t1, V.ref t2])) = H7 at S7 f7 hW7 e1 e2 e3
              clear g1 g2 g3 h1 h2 hq
              by_cases h4 : y = 4
              · have ey : (y : Int) - 4 = ((0 : Nat) : Int) := by omega
                refine ⟨_, rfl, _, _, rfl, rfl, q, _, _, _, rfl, rfl, SqL.of e3, by rw [ey]; exact atI_nat rfl, ?_⟩
                refine ⟨lg, _, _, rfl, rfl, S7.log, by rw [List.length_map]; exact sz_lt (by omega), ?_⟩
                have hg : p.go .fl = some ⟨p.vs, none⟩ := by
                  show some (⟨p.now, none⟩ : Po) = _
                  unfold Po.now
                  rw [eu]
                obtain ⟨S8, f8⟩ := gone _ t1 .fl .non _ S7 f7 e1 trivial hg
                obtain ⟨wa8, hwa8, hW8⟩ := S8.pos.at hlsl
                have hwm8 : (pas.map V.ref)[b]? = some (V.ref wa8) := by rw [List.getElem?_map, hwa8]; rfl
                refine ⟨_, rfl, rfl, _, rfl, iteTb (decide_eq_true (by rw [h4]; rfl)) ⟨_, rfl, _, rfl, D, _, _, _, rfl, rfl, SqL.of S8.pos.lst, atI_nat hwm8, ?_⟩⟩
                refine ⟨_, rfl, _, rfl, D, _, _, b, rfl, rfl, S8.pos.lst, ix_at b (by rw [List.length_map]; exact hpl), ?_⟩
                rw [refs_set]
                obtain ⟨n1, n2, n3⟩ := S8.in_ne hwa8
                have S9 := S8.setp (b := b) hW8 n1 n2 n3
                have els : ls.set b (ls.getD b []) = ls := by
                  rw [List.getD_eq_getElem?_getD, List.getElem?_eq_getElem hlsl]
                  exact List.set_getElem_self hlsl
                rw [els] at S9
                exact fin _ _ _ _ _ _ ⟨p.vs, none⟩ _ _ _ _ _ _ (gr f8 (Fr.put (by simp))) S9 (tl.step (e := .fl) trivial hg tl.sim.up)
              · have ey : (y : Int) - 4 = ((1 : Nat) : Int) := by omega
                refine ⟨_, rfl, _, _, rfl, rfl, q, _, _, _, rfl, rfl, SqL.of e3, by rw [ey]; exact atI_nat rfl, ?_⟩
                refine ⟨lg, _, _, rfl, rfl, S7.log, by rw [List.length_map]; exact sz_lt (by omega), ?_⟩
                have hg : p.go (.ls b) = some ⟨p.vs.set b allV, none⟩ := by
                  show (if p.un.isSome then none else some (⟨p.vs.set b allV, none⟩ : Po)) = _
                  rw [eu]
                  rfl
                obtain ⟨S8, f8⟩ := gone _ t2 (.ls b) .non _ S7 f7 e2 hb hg
                refine ⟨_, rfl, rfl, _, rfl, iteFb (decide_eq_false fun z => h4 (by have := V.int.inj z; omega)) ⟨_, _, rfl, rfl, sz_le (by simp), fun q2 hq2 => ?_⟩⟩
                have g9 := Fr.new (S := []) (o := .lst [V.int (0 - 1)]) hq2
                have S9 := S8.keep0 g9
                refine ⟨_, rfl, _, rfl, D, _, _, b, rfl, rfl, S9.pos.lst, ix_at b (by rw [List.length_map]; exact hpl), ?_⟩
                rw [refs_set]
                obtain ⟨n1, n2, n3⟩ := S8.new_ne hq2
                have S10 := S9.setp (b := b) (ys := [0 - 1]) upd_same n1 n2 n3
                exact fin _ _ _ _ _ _ ⟨p.vs.set b allV, none⟩ _ _ _ _ _ _ (gr (f8.trans (g9.mono (by simp))) (Fr.put (by simp))) S10 (tl.step (e := .ls b) hb hg (tl.sim.up.set b (.inl ⟨rfl, rfl⟩)))
      · rintro _ H3 ⟨ts, pas, uv, es, ls, p, v3, v7, v8, v9, v10, v11, rfl, f3, S3, tl⟩
        refine ⟨_, rfl, _, rfl, _, rfl, sz_le (by simp), fun t ht => ?_⟩
        exact k _ t lg D ts pas uv es ls p (f3.trans (Fr.new ht)) hlg hD0.1 upd_same (S3.keep0 (Fr.new ht)) tl
end
/-! ### a list of entries -/
structure Lq (H : Hp) (nb : Nat) (r lg : Addr) (ts : List Addr) (es : List En) : Prop where
  rnd : Rnd H r
  log : H lg = some (.lst (ts.map V.ref))
  len : ts.length = es.length
  its : ∀ (i : Nat) (t : Addr) (e : En), ts[i]? = some t → es[i]? = some e → H t = some (.tup e.vs)
  ok : ∀ e ∈ es, e.ok nb
  rl : r ≠ lg
section
variable {H H' : Hp} {nb : Nat} {r lg : Addr} {ts : List Addr} {es : List En}
theorem Lq.keep0 (h : Lq H nb r lg ts es) (f : Fr [] H H') : Lq H' nb r lg ts es := ⟨h.rnd.keep f (by simp), f _ _ h.log (by simp), h.len, fun i t e e1 e2 => f _ _ (h.its i t e e1 e2) (by simp), h.ok, h.rl⟩
theorem Lq.draw (h : Lq H nb r lg ts es) (f : Fr [r] H H') (R : Rnd H' r) : Lq H' nb r lg ts es := ⟨R, f _ _ h.log (by simpa using h.rl.symm), h.len, fun i t e e1 e2 => f _ _ (h.its i t e e1 e2) fun z => h.rnd.notup _ z _ (h.its i t e e1 e2), h.ok, h.rl⟩
theorem Lq.items (h : Lq H nb r lg ts es) : ∀ (i : Nat) (x : V) (o : Option En), (ts.map V.ref)[i]? = some x → (es.map some)[i]? = some o → ItAt H nb x o := fun i x o e1 e2 => by
  rw [List.getElem?_map] at e1 e2
  cases et : ts[i]? with
  | none => rw [et] at e1; cases e1
  | some t =>
    cases ee : es[i]? with
    | none => rw [ee] at e2; cases e2
    | some e =>
      rw [et] at e1
      rw [ee] at e2
      cases e1
      cases e2
      exact ⟨t, rfl, h.its i t e et ee, h.ok e (List.mem_of_getElem? ee)⟩
theorem Lq.Log (h : Lq H nb r lg ts es) : Log H nb lg (ts.map V.ref) (es.map some) := ⟨h.log, by rw [List.length_map, List.length_map]; exact h.len, h.items⟩
end
theorem Log.cat {H : Hp} {nb : Nat} {a q : Addr} {xs ys : List V} {is js : List (Option En)} (h : Log H nb a xs is) (hl : ys.length = js.length) (g : ∀ (i : Nat) (x : V) (o : Option En), ys[i]? = some x → js[i]? = some o → ItAt H nb x o) (e : H q = some (.lst (xs ++ ys))) : Log H nb q (xs ++ ys) (is ++ js) := by
  refine ⟨e, by rw [List.length_append, List.length_append, h.len, hl], fun i x o e1 e2 => ?_⟩
  by_cases hj : i < xs.length
  · rw [List.getElem?_append_left hj] at e1
    rw [List.getElem?_append_left (by rw [← h.len]; exact hj)] at e2
    exact h.its i x o e1 e2
  · rw [List.getElem?_append_right (by omega)] at e1
    rw [List.getElem?_append_right (by rw [← h.len]; omega)] at e2
    rw [← h.len] at e2
    exact g _ x o e1 e2
theorem one_item {H : Hp} {nb : Nat} {v : V} {o : Option En} (h : ItAt H nb v o) : ∀ (i : Nat) (x : V) (y : Option En), [v][i]? = some x → [o][i]? = some y → ItAt H nb x y := fun i x y e1 e2 => by
  have hi : i = 0 := by
    have := lt_of_at e1
    simp at this
    omega
  rw [hi] at e1 e2
  cases e1
  cases e2
  exact h
theorem Log.take {H : Hp} {nb : Nat} {a q : Addr} {xs : List V} {is : List (Option En)} (h : Log H nb a xs is) (k : Nat) (e : H q = some (.lst (xs.take k))) : Log H nb q (xs.take k) (is.take k) := by
  refine ⟨e, by rw [List.length_take, List.length_take, h.len], fun i x o e1 e2 => ?_⟩
  have hi := lt_of_at e1
  rw [List.length_take] at hi
  rw [List.getElem?_take_of_lt (by omega)] at e1 e2
  exact h.its i x o e1 e2
theorem runE_take : ∀ {es : List En} {p q : Po} (k : Nat), runE p es = some q → ∃ q', runE p (es.take k) = some q'
  | [], p, q, k, h => ⟨p, by rw [List.take_nil]; rfl⟩
  | a :: es, p, q, 0, h => ⟨p, rfl⟩
  | a :: es, p, q, k + 1, h => by
    have h' : (p.go a).bind (fun q => runE q es) = some q := h
    cases e : p.go a with
    | none => rw [e] at h'; cases h'
    | some u =>
      rw [e] at h'
      obtain ⟨q', hq⟩ := runE_take k h'
      refine ⟨q', ?_⟩
      show (p.go a).bind (fun q => runE q (es.take k)) = some q'
      rw [e]
      exact hq
/-! ### what is told of a block -/
theorem sortI_mem {x : Int} {l : List Int} : x ∈ sortI l ↔ x ∈ l := (List.mergeSort_perm l _).mem_iff
theorem shownV_any {n nb b : Nat} {p : Po} (ok : PoOk nb n p) (hn : n ≤ 60) (hb : b < nb) : (shownV (p.vs.getD b []) = [-1] ∧ p.vs.getD b [] = allV) ∨ (shownV (p.vs.getD b []) ≠ [-1] ∧ p.vs.getD b [] ≠ allV ∧ shownV (p.vs.getD b []) = sortI (p.vs.getD b []) ∧ (p.vs.getD b []).length ≤ n + 1 ∧ p.vs.getD b [] ≠ [] ∧ ∀ v ∈ p.vs.getD b [], 0 ≤ v ∧ v ≤ 999) := by
  have hm := getD_mem (d := []) (xs := p.vs) (i := b) (by rw [ok.len]; exact hb)
  rcases ok.vs _ hm with e | ⟨h1, h2, h3, h4⟩
  · left
    refine ⟨?_, e⟩
    unfold shownV
    rw [e, if_pos (by rw [allV_len]; decide)]
  · right
    have hs : shownV (p.vs.getD b []) = sortI (p.vs.getD b []) := by
      unfold shownV
      rw [if_neg (by omega)]
    refine ⟨fun z => ?_, fun z => ?_, hs, h3, h1, h4⟩
    · rw [hs] at z
      have : (-1 : Int) ∈ sortI (p.vs.getD b []) := by rw [z]; simp
      have := h4 _ (sortI_mem.mp this)
      omega
    · rw [z, allV_len] at h3
      omega
theorem short_now {nb n : Nat} {p : Po} (ok : PoOk nb n p) (hn : n ≤ 60) : ∀ l ∈ p.now, l = allV ∨ l.length < 64 := fun l hl => (ok.now.vs l hl).imp id fun h => by
  have := h.2.2.1
  omega
theorem shown_one {x : Int} : shownV [x] = [x] := by
  have e : shownV [x] = sortI [x] := by
    unfold shownV
    rw [if_neg (by simp)]
  rw [e]
  exact List.perm_singleton.mp (List.mergeSort_perm [x] _)
theorem getD_map {α β : Type} {f : α → β} {xs : List α} {b : Nat} {d : α} {e : β} (h : b < xs.length) : (xs.map f).getD b e = f (xs.getD b d) := by
  rw [List.getD_eq_getElem?_getD, List.getD_eq_getElem?_getD, List.getElem?_map, List.getElem?_eq_getElem h]
  rfl
theorem getD_at {α : Type} {xs : List α} {b : Nat} {d : α} (h : b < xs.length) : xs[b]? = some (xs.getD b d) := by
  rw [List.getD_eq_getElem?_getD, List.getElem?_eq_getElem h]
  rfl
/-! ### equal, by the law's own comparison, of words too -/
def isL : V → Bool
  | .non => true
  | .bl _ => true
  | .int _ => true
  | .str _ => true
  | _ => false
def Eqn (H : Hp) : Nat → V → V → Prop
  | 0, v, e => v = e ∧ isL e = true
  | n + 1, v, e => (v = e ∧ isL e = true) ∨ (∃ (a b : Addr) (xs ys : List V), v = .ref a ∧ e = .ref b ∧ ((H a = some (.tup xs) ∧ H b = some (.tup ys)) ∨ (H a = some (.lst xs) ∧ H b = some (.lst ys))) ∧ xs.length = ys.length ∧ ys.length ≤ 2000 ∧ ∀ (i : Nat) (x y : V), xs[i]? = some x → ys[i]? = some y → Eqn H n x y)
theorem Eqn.keep {H H' : Hp} (f : Fr [] H H') : ∀ {n : Nat} {v e : V}, Eqn H n v e → Eqn H' n v e
  | 0, _, _, h => h
  | n + 1, _, _, .inl h => .inl h
  | n + 1, _, _, .inr ⟨a, b, xs, ys, e1, e2, h, h3, h5, h4⟩ => by
    refine .inr ⟨a, b, xs, ys, e1, e2, ?_, h3, h5, fun i x y q1 q2 => Eqn.keep f (h4 i x y q1 q2)⟩
    rcases h with ⟨h1, h2⟩ | ⟨h1, h2⟩
    · exact .inl ⟨f _ _ h1 (by simp), f _ _ h2 (by simp)⟩
    · exact .inr ⟨f _ _ h1 (by simp), f _ _ h2 (by simp)⟩
theorem Eqn.flat {H : Hp} {v : V} (h : isL v = true) : ∀ n, Eqn H n v v
  | 0 => ⟨rfl, h⟩
  | _ + 1 => .inl ⟨rfl, h⟩
theorem Eqn.up {H : Hp} : ∀ {n : Nat} {v e : V}, Eqn H n v e → Eqn H (n + 1) v e
  | 0, _, _, h => .inl h
  | n + 1, _, _, .inl h => .inl h
  | n + 1, _, _, .inr ⟨a, b, xs, ys, e1, e2, h, h3, h5, h4⟩ => .inr ⟨a, b, xs, ys, e1, e2, h, h3, h5, fun i x y q1 q2 => Eqn.up (h4 i x y q1 q2)⟩
/-- two lists of plain contents -/
theorem Eqn.same {H : Hp} {n : Nat} {xs : List V} (h : ∀ v ∈ xs, Eqn H n v v) : ∀ (i : Nat) (x y : V), xs[i]? = some x → xs[i]? = some y → Eqn H n x y := fun i x y e1 e2 => by
  rw [e1] at e2
  cases e2
  exact h x (List.mem_of_getElem? e1)
def spEq (n : Nat) : Sp := fun vs H Q _ => ∃ v e : V, vs = [v, e] ∧ Eqn H n v e ∧ ∀ H', Fr [] H H' → Q (.bl true) H'
theorem ix_seqK {X : Cx} {K : PySem.W.Frag} (h : X.K = K) : IxR X (rIx K) := by
  subst h
  exact ix_seq
theorem len_bool {a b : Nat} (h : a = b) : (!decide (V.int (a : Int) = V.int (b : Int))) = false := by
  rw [h]
  simp
section
variable {P : Program} {w : World} {K : PySem.W.Frag} {mg : Str → Option Value} {base : Heap}
theorem ok_equal : ∀ (n : Nat) (T : Gx K mg), FnOk P w K mg base CX0 (n + 1) T.f__law_equal T.fd__law_equal ["_law_actual", "_law_expected"] (spEq n)
  | n, T => by
    refine T.F__law_equal.ok sc__law_equal (fun vs H Q E h => ?_) (fun cdv A outer s H vs Q E hr h => ?_)
    · obtain ⟨v, e, rfl, _⟩ := h
      rfl
    · obtain ⟨v, e, rfl, hE, k⟩ := h
      have leaf : v = e → isL e = true → (∃ t, PSs (cxOf CX0 P w K mg base ["_law_actual", "_law_expected", "_law_k"] "_law_equal" (defScope s__law_equal) T.f__law_equal cdv A outer s H E).nox (defBody s__law_equal) t ∧ t { nx := fun _ H' => Q .non H', rt := Q } (start ["_law_actual", "_law_expected", "_law_k"] [v, e]) H) := by
        intro hve hF
        subst hve
        refine ⟨_, (pss_cons (ps_if (pt_cmpR op_isN (pv 1) pe_non (nomark _)) (pss_one (ps_ret (pe_cmpR op_isN (pv 0) pe_non (nomark _)))) pss_nil)
          (pss_cons (ps_if (pt_val (pe_callB call_isi (by rfl) T.z_isinstance (by decide +kernel) (pa_cons (pv 1) (pa_cons (pe_bltn (v := .ty "bool") (by rfl) T.z_bool (by decide +kernel) rfl) pa_nil)))) (pss_one (ps_ret (pe_and (pe_callB call_isi (by rfl) T.z_isinstance (by decide +kernel) (pa_cons (pv 0) (pa_cons (pe_bltn (v := .ty "bool") (by rfl) T.z_bool (by decide +kernel) rfl) pa_nil))) (pe_one (pe_cmpR op_eq (pv 0) (pv 1) (nomark _)))))) pss_nil)
          (pss_cons (ps_if (pt_val (pe_callB call_isi (by rfl) T.z_isinstance (by decide +kernel) (pa_cons (pv 1) (pa_cons (pe_bltn (v := .ty "int") (by rfl) T.z_int (by decide +kernel) rfl) pa_nil)))) (pss_one (ps_ret (pe_and (pe_callB call_isi (by rfl) T.z_isinstance (by decide +kernel) (pa_cons (pv 0) (pa_cons (pe_bltn (v := .ty "int") (by rfl) T.z_int (by decide +kernel) rfl) pa_nil))) (pe_and (pe_not (pe_callB call_isi (by rfl) T.z_isinstance (by decide +kernel) (pa_cons (pv 0) (pa_cons (pe_bltn (v := .ty "bool") (by rfl) T.z_bool (by decide +kernel) rfl) pa_nil)))) (pe_one (pe_cmpR op_eq (pv 0) (pv 1) (nomark _))))))) pss_nil)
          (pss_cons (ps_if (pt_val (pe_callB call_isi (by rfl) T.z_isinstance (by decide +kernel) (pa_cons (pv 1) (pa_cons (pe_bltn (v := .ty "str") (by rfl) T.z_str (by decide +kernel) rfl) pa_nil)))) (pss_one (ps_ret (pe_and (pe_callB call_isi (by rfl) T.z_isinstance (by decide +kernel) (pa_cons (pv 0) (pa_cons (pe_bltn (v := .ty "str") (by rfl) T.z_str (by decide +kernel) rfl) pa_nil))) (pe_one (pe_cmpR op_eq (pv 0) (pv 1) (nomark _)))))) pss_nil)
          pss_never)))), ?_⟩
        have k0 := k H (Fr.refl _ _)
        cases v with
        | non =>
          exact ⟨_, rfl, rfl, _, rfl, iteT ⟨_, rfl, rfl, k0⟩⟩
        | bl b =>
          refine ⟨_, rfl, rfl, _, rfl, iteF ?_⟩
          refine ⟨_, rfl, _, .ty "bool", .type "bool", _, true, rfl, ClsV.ty "bool", .base (.bl b), kit_ty (by decide +kernel), _, rfl, iteT ?_⟩
          refine ⟨_, rfl, _, .ty "bool", .type "bool", _, true, rfl, ClsV.ty "bool", .base (.bl b), kit_ty (by decide +kernel), _, rfl, iteT ?_⟩
          refine ⟨_, rfl, _, rfl, rfl, ?_⟩
          show Q (.bl (decide (V.bl b = V.bl b))) _
          rw [decide_eq_true rfl]
          exact k0
        | int i =>
          refine ⟨_, rfl, rfl, _, rfl, iteF ?_⟩
          refine ⟨_, rfl, _, .ty "bool", .type "int", _, false, rfl, ClsV.ty "bool", .base (.int i), kit_ty (by decide +kernel), _, rfl, iteF ?_⟩
          refine ⟨_, rfl, _, .ty "int", .type "int", _, true, rfl, ClsV.ty "int", .base (.int i), kit_ty (by decide +kernel), _, rfl, iteT ?_⟩
          refine ⟨_, rfl, _, .ty "int", .type "int", _, true, rfl, ClsV.ty "int", .base (.int i), kit_ty (by decide +kernel), _, rfl, iteT ?_⟩
          refine ⟨_, rfl, _, .ty "bool", .type "int", _, false, rfl, ClsV.ty "bool", .base (.int i), kit_ty (by decide +kernel), _, rfl, _, rfl, iteT ?_⟩
          refine ⟨_, rfl, _, rfl, rfl, ?_⟩
          show Q (.bl (decide (V.int i = V.int i))) _
          rw [decide_eq_true rfl]
          exact k0
        | str z =>
          refine ⟨_, rfl, rfl, _, rfl, iteF ?_⟩
          refine ⟨_, rfl, _, .ty "bool", .type "str", _, false, rfl, ClsV.ty "bool", .base (.str z), kit_ty (by decide +kernel), _, rfl, iteF ?_⟩
          refine ⟨_, rfl, _, .ty "int", .type "str", _, false, rfl, ClsV.ty "int", .base (.str z), kit_ty (by decide +kernel), _, rfl, iteF ?_⟩
          refine ⟨_, rfl, _, .ty "str", .type "str", _, true, rfl, ClsV.ty "str", .base (.str z), kit_ty (by decide +kernel), _, rfl, iteT ?_⟩
          refine ⟨_, rfl, _, .ty "str", .type "str", _, true, rfl, ClsV.ty "str", .base (.str z), kit_ty (by decide +kernel), _, rfl, iteT ?_⟩
          refine ⟨_, rfl, _, rfl, rfl, ?_⟩
          show Q (.bl (decide (V.str z = V.str z))) _
          rw [decide_eq_true rfl]
          exact k0
        | byt _ => cases hF
        | flt _ => cases hF
        | ref _ => cases hF
        | ty _ => cases hF
      cases n with
      | zero => exact leaf hE.1 hE.2
      | succ n =>
        rcases hE with ⟨e1, e2⟩ | ⟨a, b, xs, ys, rfl, rfl, hab, hl, h2k, hi⟩
        · exact leaf e1 e2
        · have G__law_equal : FnOk P w K mg base CX0 (n + 1) T.f__law_equal T.fd__law_equal ["_law_actual", "_law_expected"] (spEq n) := ok_equal n T
          refine ⟨_, (pss_cons (ps_if (pt_cmpR op_isN (pv 1) pe_non (nomark _)) (pss_one (ps_ret (pe_cmpR op_isN (pv 0) pe_non (nomark _)))) pss_nil)
      (pss_cons (ps_if (pt_val (pe_callB call_isi (by rfl) T.z_isinstance (by decide +kernel) (pa_cons (pv 1) (pa_cons (pe_bltn (v := .ty "bool") (by rfl) T.z_bool (by decide +kernel) rfl) pa_nil)))) (pss_one (ps_ret (pe_and (pe_callB call_isi (by rfl) T.z_isinstance (by decide +kernel) (pa_cons (pv 0) (pa_cons (pe_bltn (v := .ty "bool") (by rfl) T.z_bool (by decide +kernel) rfl) pa_nil))) (pe_one (pe_cmpR op_eq (pv 0) (pv 1) (nomark _)))))) pss_nil)
      (pss_cons (ps_if (pt_val (pe_callB call_isi (by rfl) T.z_isinstance (by decide +kernel) (pa_cons (pv 1) (pa_cons (pe_bltn (v := .ty "int") (by rfl) T.z_int (by decide +kernel) rfl) pa_nil)))) (pss_one (ps_ret (pe_and (pe_callB call_isi (by rfl) T.z_isinstance (by decide +kernel) (pa_cons (pv 0) (pa_cons (pe_bltn (v := .ty "int") (by rfl) T.z_int (by decide +kernel) rfl) pa_nil))) (pe_and (pe_not (pe_callB call_isi (by rfl) T.z_isinstance (by decide +kernel) (pa_cons (pv 0) (pa_cons (pe_bltn (v := .ty "bool") (by rfl) T.z_bool (by decide +kernel) rfl) pa_nil)))) (pe_one (pe_cmpR op_eq (pv 0) (pv 1) (nomark _))))))) pss_nil)
      (pss_cons (ps_if (pt_val (pe_callB call_isi (by rfl) T.z_isinstance (by decide +kernel) (pa_cons (pv 1) (pa_cons (pe_bltn (v := .ty "str") (by rfl) T.z_str (by decide +kernel) rfl) pa_nil)))) (pss_one (ps_ret (pe_and (pe_callB call_isi (by rfl) T.z_isinstance (by decide +kernel) (pa_cons (pv 0) (pa_cons (pe_bltn (v := .ty "str") (by rfl) T.z_str (by decide +kernel) rfl) pa_nil))) (pe_one (pe_cmpR op_eq (pv 0) (pv 1) (nomark _)))))) pss_nil)
      (pss_cons (ps_if (pt_cmpR op_ne (pe_callB call_isi (by rfl) T.z_isinstance (by decide +kernel) (pa_cons (pv 1) (pa_cons (pe_bltn (v := .ty "tuple") (by rfl) T.z_tuple (by decide +kernel) rfl) pa_nil))) (pe_callB call_isi (by rfl) T.z_isinstance (by decide +kernel) (pa_cons (pv 0) (pa_cons (pe_bltn (v := .ty "tuple") (by rfl) T.z_tuple (by decide +kernel) rfl) pa_nil))) (nomark _)) (pss_one (ps_ret pe_bl)) pss_nil)
      (pss_cons (ps_if (pt_cmpR op_ne (pe_callB call_isi (by rfl) T.z_isinstance (by decide +kernel) (pa_cons (pv 1) (pa_cons (pe_bltn (v := .ty "list") (by rfl) T.z_list (by decide +kernel) rfl) pa_nil))) (pe_callB call_isi (by rfl) T.z_isinstance (by decide +kernel) (pa_cons (pv 0) (pa_cons (pe_bltn (v := .ty "list") (by rfl) T.z_list (by decide +kernel) rfl) pa_nil))) (nomark _)) (pss_one (ps_ret pe_bl)) pss_nil)
      (pss_cons (ps_if (pt_cmpR op_ne (pe_callB call_len_seq (by rfl) T.z_len (by decide +kernel) (pa_cons (pv 0) pa_nil)) (pe_callB call_len_seq (by rfl) T.z_len (by decide +kernel) (pa_cons (pv 1) pa_nil)) (nomark _)) (pss_one (ps_ret pe_bl)) pss_nil)
      (pss_one (ps_ret (pe_callB (cr_all rfl) (by rfl) T.z_all (by decide +kernel) (pa_cons (pe_lc (own := [("_law_k", 2)]) (g := gName 2) rfl sc__law_equal.nd (pi_range1 (by rfl) T.z_range (pa_cons (pe_callB call_len_seq (by rfl) T.z_len (by decide +kernel) (pa_cons (pv 1) pa_nil)) pa_nil)) (blkOk_by (N := ["_law_actual", "_law_expected", "_law_k"]) (sc := defScope s__law_equal) (by decide +kernel)) (fun _ _ _ _ _ => pg_name (i := 2) sc__law_equal.nd rfl (.inl rfl)) (fun _ _ _ _ _ => pts_nil) (fun _ _ _ _ _ => (pe_call G__law_equal (hr.mono (by first | decide | omega)) (by rfl) T.g__law_equal T.F__law_equal.kp (b__law_equal T) .nil pass0 (pa_cons (pe_ix (ix_seqK (K := K) rfl) (pv 0) (pv 2) (fun _ _ => rfl)) (pa_cons (pe_ix (ix_seqK (K := K) rfl) (pv 1) (pv 2) (fun _ _ => rfl)) pa_nil))))) pa_nil))))))))))), ?_⟩
          obtain ⟨ty, ta, tb, t1, t2, t3, t4, bt, bl, t5, t6⟩ : ∃ ty : String, TyX K H (.ref a) (.type ty) ∧ TyX K H (.ref b) (.type ty) ∧ kitB ty "bool" = some false ∧ kitB ty "int" = some false ∧ kitB ty "str" = some false ∧ (SqL K H a xs ∧ SqL K H b ys ∨ SqT K H a xs ∧ SqT K H b ys) ∧ ∃ bt bl : Bool, kitB ty "tuple" = some bt ∧ kitB ty "list" = some bl := by
            rcases hab with ⟨h1, h2⟩ | ⟨h1, h2⟩
            · exact ⟨"tuple", .base (.tup h1), .base (.tup h2), by decide +kernel, by decide +kernel, by decide +kernel, .inr ⟨SqT.of h1, SqT.of h2⟩, true, false, by decide +kernel, by decide +kernel⟩
            · exact ⟨"list", .base (.lst h1), .base (.lst h2), by decide +kernel, by decide +kernel, by decide +kernel, .inl ⟨SqL.of h1, SqL.of h2⟩, false, true, by decide +kernel, by decide +kernel⟩
          refine ⟨_, rfl, rfl, _, rfl, iteF ?_⟩
          refine ⟨_, rfl, _, .ty "bool", .type ty, _, false, rfl, ClsV.ty "bool", tb, kit_ty t1, _, rfl, iteF ?_⟩
          refine ⟨_, rfl, _, .ty "int", .type ty, _, false, rfl, ClsV.ty "int", tb, kit_ty t2, _, rfl, iteF ?_⟩
          refine ⟨_, rfl, _, .ty "str", .type ty, _, false, rfl, ClsV.ty "str", tb, kit_ty t3, _, rfl, iteF ?_⟩
          refine ⟨_, rfl, _, .ty "tuple", .type ty, _, bt, rfl, ClsV.ty "tuple", tb, kit_ty t5, _, rfl, _, .ty "tuple", .type ty, _, bt, rfl, ClsV.ty "tuple", ta, kit_ty t5, rfl, _, rfl, ?_⟩
          rw [decide_eq_true rfl]
          refine iteF ?_
          refine ⟨_, rfl, _, .ty "list", .type ty, _, bl, rfl, ClsV.ty "list", tb, kit_ty t6, _, rfl, _, .ty "list", .type ty, _, bl, rfl, ClsV.ty "list", ta, kit_ty t6, rfl, _, rfl, ?_⟩
          rw [decide_eq_true rfl]
          refine iteF ?_
          have sa : SqL K H a xs ∨ SqT K H a xs := t4.elim (fun z => .inl z.1) (fun z => .inr z.1)
          have sb : SqL K H b ys ∨ SqT K H b ys := t4.elim (fun z => .inl z.2) (fun z => .inr z.2)
          refine ⟨_, rfl, a, xs, rfl, sa, _, rfl, b, ys, rfl, sb, rfl, _, rfl, ?_⟩
          rw [len_bool hl]
          refine iteF ?_
          refine ⟨_, rfl, b, ys, rfl, sb, (ys.length : Int), rfl, by omega, by omega, fun D hD => ?_⟩
          rw [Int.toNat_natCast]
          refine lc_range (lo := 0) (n := ys.length) (fun i H' => Fr [] H H' ∧ H' D = some (.lst ((List.replicate i true).map V.bl))) ⟨Fr.new hD, upd_same⟩ ?_ ?_
          · rintro i H1 hil ⟨f, eD⟩
            have hx : xs[i]? = some (xs[i]'(by omega)) := List.getElem?_eq_getElem (by omega)
            have hy : ys[i]? = some ys[i] := List.getElem?_eq_getElem hil
            have ea : atI xs ((0 : Int) + (i : Int)) = some (xs[i]'(by omega)) := at_of (by omega) hx
            have eb : atI ys ((0 : Int) + (i : Int)) = some ys[i] := at_of (by omega) hy
            refine ⟨rfl, _, rfl, _, rfl, ?_⟩
            have step : ∀ H2, Fr [] H1 H2 → ∃ acc, H2 D = some (.lst acc) ∧ acc.length < sizeLine ∧ Fr [] H (upd H2 D (.lst (acc ++ [.bl true]))) ∧ (upd H2 D (.lst (acc ++ [V.bl true]))) D = some (.lst ((List.replicate (i + 1) true).map V.bl)) := fun H2 f2 => by
              refine ⟨_, f2 _ _ eD (by simp), ?_, ?_, ?_⟩
              · rw [List.length_map, List.length_replicate]
                exact sz_lt (by omega)
              · intro c o ec _
                rw [upd_ne (ne_of_none ec hD)]
                exact (f.trans f2) c o ec (by simp)
              · rw [upd_same, List.replicate_succ', List.map_append]
                rfl
            have fin : spEq n [xs[i]'(by omega), ys[i]] H1 (fun y H4 => ∃ acc, H4 D = some (.lst acc) ∧ acc.length < sizeLine ∧ Fr [] H (upd H4 D (.lst (acc ++ [y]))) ∧ (upd H4 D (.lst (acc ++ [y]))) D = some (.lst ((List.replicate (i + 1) true).map V.bl))) E0 :=
              ⟨_, _, rfl, (hi i _ _ hx hy).keep f, fun H2 f2 => step H2 f2⟩
            rcases t4 with ⟨s1, s2⟩ | ⟨s1, s2⟩
            · exact .inl ⟨a, xs, _, _, rfl, rfl, f.seq (by simp) s1, ea, _, rfl, _, rfl, .inl ⟨b, ys, _, _, rfl, rfl, f.seq (by simp) s2, eb, fin⟩⟩
            · exact .inr (.inl ⟨a, xs, _, _, rfl, rfl, f.tup (by simp) s1, ea, _, rfl, _, rfl, .inr (.inl ⟨b, ys, _, _, rfl, rfl, f.tup (by simp) s2, eb, fin⟩)⟩)
          · rintro H1 ⟨f, eD⟩
            refine ⟨D, List.replicate ys.length true, rfl, SqL.of eD, ?_⟩
            have : (List.replicate ys.length true).all id = true := by simp
            rw [this]
            exact k _ f
end
/-! ### a set of the numbers of a list -/
section
open PySem.Spec PySem.Calls PySem.W PyProof.Rows
/-- a set as it is when it is made -/
abbrev nset (w : World) : Obj := { cls := .type "set", dict := none, data := .set #[] 0 (.fresh 0 0 (!w.params.followText "set-order")) }
section
variable {P : Program} {w : World} {A : Around} {E : Value → Shared → Prop} {z : Shared}
set_option maxHeartbeats 4000000 in
theorem set_of_list {src : Addr} {its : Array Value} (ns : List Int) {Q : Value → Shared → Prop} (cal : A.handled = none) (isl : z.heap.IsList src its) (isi : IntsAre its.toList ns) (few : ns.length + 1 < scanBound)
    (done : ∀ (g : Heap) (tk c : Nat), SetR w g z.heap.objs.size (fun j => decide (j ∈ ns)) c → c ≤ ns.length → (∀ b o, z.heap.get? b = some o → g.get? b = some o) → Q (.ref z.heap.objs.size) { z with heap := g, toks := tk }) :
    wpAny (model P w) A (call (.type "set") [.ref src]) Q E z := by
  have size : its.size = ns.length := by
    have := IntsAre.length isi
    rwa [Array.length_toList] at this
  obtain ⟨mc, mt, mr⟩ := F.called_set.mro
  have made := F.called_set.made
  have subs := F.called_set.sub
  have nty := F.called_set.notType
  have can := F.called_set.canCreate
  have tyc := F.typeCall_set_1 (.ref src)
  refine wpAny_call (codeAny_of_tree ?_)
  show wpAny _ _ (callAny (.type "set") _) _ _ _
  refine wpAny_pure ⟨Code.quiet_builtin _ (by decide +kernel), ?_⟩
  refine codeAny_builtin F.entry_type_call ?_
  rw [Around.under_plain (weight_type_call_type "set" [.ref src] []) rfl]
  repeat (any_goals (first | assumption | wp_step))
  refine codeAny_mono (code_set_led1 (.ref src) (E := E) (Q₁ := fun v y => v = .ref z.heap.objs.size ∧ y = { z with heap := z.heap.push (nset w) }) ⟨rfl, rfl⟩) fun r y hy => ?_
  cases r with
  | error e => exact hy
  | ok fl =>
    cases fl with
    | ret v =>
      obtain ⟨rfl, rfl⟩ := hy
      have at_ : (z.heap.push (nset w)).get? z.heap.objs.size = some (nset w) := Heap.get?_push_size _ rfl
      have isT : Shared.TypeIs { z with heap := z.heap.push (nset w) } (.ref z.heap.objs.size) "set" := ⟨_, at_, rfl⟩
      have look := F.called_set.init.lookup
      have bind := F.called_set.init.bind (.ref z.heap.objs.size)
      repeat (any_goals (first | assumption | wp_step))
      refine codeAny_mono (codeAny_call_builtin (R := wants (fun u y => u = .none ∧ ∃ g tk c, y = { z with heap := g, toks := tk } ∧ SetR w g z.heap.objs.size (fun j => decide (j ∈ ns)) c ∧ c ≤ ns.length ∧ (∀ b o, z.heap.get? b = some o → g.get? b = some o)) E)
        F.called_set.init.plain F.entry_set_init (check_set_init_1 isT ?_)) fun u y2 hu => ?_
      · obtain ⟨o, ho, oc, n, od⟩ := isl
        obtain ⟨c1, c2, c3, c4⟩ := o
        simp only at oc od
        subst oc
        subst od
        have ho2 : (z.heap.push (nset w)).get? src = some { cls := .type "list", dict := c2, data := .seq its n, slots := c4 } := Heap.get?_push_of_some _ ho
        have ls := F.sub_list_set
        have lf := F.sub_list_frozenset
        have ld : (Value.type "list" == Value.type "dict") = false := by decide
        have isl2 : (z.heap.push (nset w)).IsList src its := ⟨_, ho2, rfl, n, rfl⟩
        unfold Builtin.«set.__init__» noKeywords Builtin.Frozenset.updateFrom
        generalize hIt : pyIter = It
        wp_walk
        subst hIt
        refine wpAny_pyIter_list isl2 ?_
        refine wpAny_bind (wpAny_runValue ?_)
        have lt : src < z.heap.objs.size := Heap.lt_size ho
        have cal3 : A.in1.in1.in1.handled = none := by simp [cal]
        have ne1 : src ≠ (z.heap.push (nset w)).objs.size := by
          rw [Heap.size_push]
          exact Nat.ne_of_lt (Nat.lt_succ_of_lt lt)
        have out1 : z.heap.objs.size ∉ [(z.heap.push (nset w)).objs.size, src] := by
          rw [Heap.size_push]
          simp only [List.mem_cons, List.not_mem_nil, or_false, not_or]
          exact ⟨Nat.ne_of_lt (Nat.lt_succ_self _), Nat.ne_of_gt lt⟩
        have item : ∀ (i : Nat) (v : Value), its[i]? = some v → ∃ k t, ns[i]? = some k ∧ v = .int k t := fun i v hv => by
          obtain ⟨lt2, _⟩ := Array.getElem?_eq_some_iff.mp hv
          obtain ⟨t, e⟩ := PyProof.Rows.IntsAre.int_at isi i v (by rw [Array.getElem?_toList]; exact hv)
          have lt3 : i < ns.length := by omega
          refine ⟨ns[i], t, List.getElem?_eq_getElem lt3, ?_⟩
          rw [e, List.getD_eq_getElem?_getD, List.getElem?_eq_getElem lt3]
          rfl
        have pre : ∃ c, c ≤ 0 ∧ SetR w (((z.heap.push (nset w)).push { cls := .type "list_iterator", data := .fields #[.ref src, .int 0 0] })) z.heap.objs.size (fun j => decide (j ∈ ns.take 0)) c := ⟨0, Nat.le_refl 0, setR_new_at (Heap.get?_push_of_some _ at_)⟩
        refine set_update_ints ((Walks.list cal3 _ src ne1 its).toS) z.heap.objs.size out1 ns size few item (its.size - 0) 0 _ (by omega) (Nat.zero_le _) ⟨⟨_, Heap.get?_push_size _ rfl, rfl, rfl⟩, (isl2.push _)⟩ pre ?_
        intro y3 c mv hc R
        obtain ⟨g, gg, dd, tk, oo⟩ := y3
        obtain rfl : gg = z.gens := mv.gens
        obtain rfl : dd = z.drawn := mv.drawn
        obtain rfl : oo = z.os := mv.os
        show wpAny _ _ _ _ _ _
        refine wpAny_pure ?_
        show wpAny _ _ (ret Value.none) _ _ _
        rw [size] at hc
        refine wpAny_pure ⟨rfl, g, tk, c, rfl, R, hc, fun b o e => ?_⟩
        have b0 := Heap.lt_size e
        refine mv.heap b o ?_ (Heap.get?_push_of_some _ (Heap.get?_push_of_some _ e))
        simp only [List.mem_cons, List.not_mem_nil, or_false, not_or]
        refine ⟨Nat.ne_of_lt b0, ?_⟩
        rw [Heap.size_push]
        exact Nat.ne_of_lt (Nat.lt_succ_of_lt b0)
      · cases u with
        | error e => exact hu
        | ok fl2 =>
          cases fl2 with
          | ret r =>
            obtain ⟨rfl, g, tk, c, rfl, R, hc, kp⟩ := hu
            repeat (any_goals (first | assumption | wp_step))
            exact done _ _ _ R hc kp
          | _ => exact hu.elim
    | _ => exact hy.elim
end
def rSetOfI (K : Frag) (w : World) : List V → Hp → VK → Prop := fun xs H Q => ∃ (l : Addr) (ns : List Int), xs = [.ref l] ∧ SqL K H l (ns.map V.int) ∧ ns.length ≤ 60 ∧ ∀ (a : Addr) (c : Nat), c ≤ ns.length → H a = none → Q (.ref a) (upd H a (SetO w a (fun j => decide (j ∈ ns)) c))
theorem cr_setOfI {X : Cx} {K : Frag} (e : X.K = K) {w : World} (ew : X.w = w) (hc : X.calm = true) : CallR X (.type "set") (rSetOfI K w) := by
  subst e
  subst ew
  intro pins s σ H xs us Q I r h
  obtain ⟨l, ns, rfl, hq, few, q⟩ := h
  rw [Vals.ref1 r]
  obtain ⟨its, rel, at_, _⟩ := I.list hq
  refine set_of_list ns (I.ok.hd hc) at_.isList (by simpa using rel.ints) (by unfold scanBound; omega) fun g tk c R hcn kp => ?_
  exact ⟨.ref _, upd H s.heap.objs.size (SetO X.w s.heap.objs.size (fun j => decide (j ∈ ns)) c), I.laid (t' := tk) (fun b u e => kp b u e) (Nat.le_refl _) (setO_new R), rfl, q _ c hcn (I.hok.fresh (Nat.le_refl _))⟩
theorem cr_sortedSetK {X : Cx} {w : World} (ew : X.w = w) (hc : X.calm = true) : CallR X (.builtin "sorted") (rSortedSet w) := by
  subst ew
  exact cr_sortedSet hc
end
/-! ### what is due -/
theorem strict_nodup {ns : List Int} (h : ns.Pairwise (· < ·)) : ns.Nodup := h.imp fun h => by omega
theorem strict_le {ns : List Int} (h : ns.Pairwise (· < ·)) : ns.Pairwise (· ≤ ·) := h.imp fun h => by omega
/-- the law's list, each number once and sorted, is what is told -/
theorem due_eq {n : Nat} {l v ns : List Int} (hn : n ≤ 60) (g : SimL n l v) (h : ns.Pairwise (· < ·)) (m : ∀ k, k ∈ ns ↔ k ∈ l) : ns = shownV v := by
  rcases g with ⟨rfl, rfl⟩ | ⟨g1, g2, g3, g4, g5, g6⟩
  · have e : shownV allV = [-1] := by
      unfold shownV
      rw [if_pos (by rw [allV_len]; decide)]
    rw [e]
    have hp : ns.Perm [-1] := (List.perm_ext_iff_of_nodup (strict_nodup h) (by simp)).mpr m
    exact List.perm_singleton.mp hp
  · have e : shownV v = sortI v := by
      unfold shownV
      rw [if_neg (by omega)]
    rw [e]
    refine sortI_of ((List.perm_ext_iff_of_nodup (strict_nodup h) g5).mpr fun k => ?_) (strict_le h)
    rw [m, g4]
theorem shown_mem {n : Nat} {l v : List Int} (hn : n ≤ 60) (g : SimL n l v) : ∀ k, k ∈ shownV v ↔ k ∈ l := by
  rcases g with ⟨rfl, rfl⟩ | ⟨g1, g2, g3, g4, g5, g6⟩
  · have e : shownV allV = [-1] := by
      unfold shownV
      rw [if_pos (by rw [allV_len]; decide)]
    rw [e]
    exact fun k => Iff.rfl
  · have e : shownV v = sortI v := by
      unfold shownV
      rw [if_neg (by omega)]
    intro k
    rw [e, sortI_mem, g4]
theorem shown_len {n : Nat} {l v : List Int} (hn : n ≤ 60) (g : SimL n l v) : (shownV v).length ≤ n + 1 := by
  rcases g with ⟨rfl, rfl⟩ | ⟨g1, g2, g3, g4, g5, g6⟩
  · have e : shownV allV = [-1] := by
      unfold shownV
      rw [if_pos (by rw [allV_len]; decide)]
    rw [e]
    simp
  · have e : shownV v = sortI v := by
      unfold shownV
      rw [if_neg (by omega)]
    rw [e]
    have : (sortI v).length = v.length := (List.mergeSort_perm v _).length_eq
    omega
/-- two lists of lists of the same numbers -/
theorem Eqn.lists {H : Hp} {n : Nat} {a b : Addr} {as bs : List Addr} {ls : List (List Int)} (h1 : Lists H a as ls) (h2 : Lists H b bs ls) (hl : ls.length ≤ 2000) (hz : ∀ l ∈ ls, l.length ≤ 2000) : Eqn H (n + 2) (.ref a) (.ref b) := by
  refine .inr ⟨a, b, _, _, rfl, rfl, .inr ⟨h1.lst, h2.lst⟩, by rw [List.length_map, List.length_map, h1.len, h2.len], by rw [List.length_map, h2.len]; exact hl, fun i x y e1 e2 => ?_⟩
  rw [List.getElem?_map] at e1 e2
  cases q1 : as[i]? with
  | none => rw [q1] at e1; cases e1
  | some u =>
    cases q2 : bs[i]? with
    | none => rw [q2] at e2; cases e2
    | some v =>
      rw [q1] at e1
      rw [q2] at e2
      cases e1
      cases e2
      have hi : i < ls.length := by rw [← h1.len]; exact lt_of_at q1
      have g1 := h1.its i u _ q1 (List.getElem?_eq_getElem hi)
      have g2 := h2.its i v _ q2 (List.getElem?_eq_getElem hi)
      refine .inr ⟨u, v, _, _, rfl, rfl, .inr ⟨g1, g2⟩, rfl, by rw [List.length_map]; exact hz _ (List.getElem_mem hi), Eqn.same fun x hx => ?_⟩
      obtain ⟨k, _, rfl⟩ := List.mem_map.mp hx
      exact Eqn.flat rfl n
def spLaw (K : PySem.W.Frag) : Sp := fun vs H Q _ => ∃ (a : Addr) (ns : List Int), vs = [.ref a] ∧ SqL K H a (ns.map V.int) ∧ ns.length ≤ 63 ∧ ∀ H', Q (.bl true) H'
theorem at_416 {z : Nat} (h : z < 2) : ∃ m : Nat, atI ([.int 4, .int 16] : List V) (z : Int) = some (.int (m : Int)) ∧ 0 < m ∧ m ≤ 16 := by
  match z, h with
  | 0, _ => exact ⟨4, atI_nat (j := 0) rfl, by decide, by decide⟩
  | 1, _ => exact ⟨16, atI_nat (j := 1) rfl, by decide, by decide⟩
section
variable {P : Program} {w : World} {K : PySem.W.Frag} {mg : Str → Option Value} {base : Heap}
theorem ok_law {f : Addr} {fd : FuncData} (F : Fun K "law" "law" s_law f fd) (T : Gx K mg) : FnOk P w K mg base CX0 12 f fd ["_law_script"] (spLaw K) := by
  have G__law_random : FnOk P w K mg base CX0 1 T.f__law_random T.fd__law_random ["_law_script", "_law_salt"] (spRandom K) := ok_random T
  have G__law_below : FnOk P w K mg base CX0 1 T.f__law_below T.fd__law_below ["_law_d", "_law_limit"] spBelow := ok_below T
  have G__law_log : FnOk P w K mg base CX0 2 T.f__law_log T.fd__law_log ["_law_d", "_law_blocks", "_law_length"] spLog := ok_log T
  have G_possible_values : FnOk P w K mg base CX0 5 T.f_possible_values T.fd_possible_values ["blocks", "log"] spPoss := ok_poss T
  have G_first_error : FnOk P w K mg base CX0 5 T.f_first_error T.fd_first_error ["blocks", "log"] spFirst := ok_first T
  have G__law_equal : FnOk P w K mg base CX0 5 T.f__law_equal T.fd__law_equal ["_law_actual", "_law_expected"] (spEq 4) := ok_equal 4 T
  refine F.ok sc_law (fun vs H Q E h => ?_) (fun cdv A outer s H vs Q E hr h => ?_)
  · obtain ⟨a, ns, rfl, _⟩ := h
    rfl
  · obtain ⟨a, ns, rfl, hS, hlen, k⟩ := h
    refine ⟨_, (pss_cons (ps_set (i := 1) sc_law.nd rfl (.inl rfl) (pe_call G__law_random (hr.mono (by first | decide | omega)) (by rfl) T.g__law_random T.F__law_random.kp (b__law_random T) .nil pass0 (pa_cons (pv 0) (pa_cons pe_int pa_nil))))
      (pss_cons (ps_for PassesOwn.never rfl (pi_range1 (by rfl) T.z_range (pa_cons pe_int pa_nil)) (pg_name (i := 2) sc_law.nd rfl (.inl rfl)) (pss_cons (ps_set (i := 3) sc_law.nd rfl (.inl rfl) (pe_op op_add pe_int (pe_call G__law_below (hr.mono (by first | decide | omega)) (by rfl) T.g__law_below T.F__law_below.kp (b__law_below T) .nil pass0 (pa_cons (pv 1) (pa_cons (pe_ix ix_list (pe_lst (pa_cons pe_int (pa_cons pe_int pa_nil))) (pe_call G__law_below (hr.mono (by first | decide | omega)) (by rfl) T.g__law_below T.F__law_below.kp (b__law_below T) .nil pass0 (pa_cons (pv 1) (pa_cons pe_int pa_nil))) (fun _ _ => rfl)) pa_nil)))))
      (pss_cons (ps_asg (pe_call G__law_log (hr.mono (by first | decide | omega)) (by rfl) T.g__law_log T.F__law_log.kp (b__law_log T) .nil pass0 (pa_cons (pv 1) (pa_cons (pv 3) (pa_cons (pe_call G__law_below (hr.mono (by first | decide | omega)) (by rfl) T.g__law_below T.F__law_below.kp (b__law_below T) .nil pass0 (pa_cons (pv 1) (pa_cons pe_int pa_nil))) pa_nil)))) (pg_tup (by rfl) (pgs_cons (pg_name (i := 4) sc_law.nd rfl (.inl rfl)) (pgs_cons (pg_name (i := 5) sc_law.nd rfl (.inl rfl)) (pgs_cons (pg_name (i := 6) sc_law.nd rfl (.inl rfl)) pgs_nil)))))
      (pss_cons (ps_setLc (i := 7) (own := [("_law_some", 9)]) (g := gName 9) rfl sc_law.nd rfl rfl (sw_true rfl rfl rfl (by decide +kernel)) (pi_list (pv 5)) (blkOk_by (N := ["_law_script", "_law_d", "_law_step", "_law_blocks", "_law_log_here", "_law_possible", "_law_under", "_law_due", "_law_found", "_law_some"]) (sc := defScope s_law) (by decide +kernel)) (fun _ _ _ _ _ => pg_name (i := 9) sc_law.nd rfl (.inl rfl)) (fun _ _ _ _ _ => pts_nil) (fun _ _ _ _ _ => (pe_callB (cr_sortedSetK (w := w) rfl rfl) (by rfl) T.z_sorted (by decide +kernel) (pa_cons (pe_callTy (cr_setOfI (K := K) (w := w) rfl rfl rfl) (by rfl) T.z_set (by decide +kernel) (pa_cons (pv 9) pa_nil)) pa_nil))))
      (C8.pss_cut (ps_if (PW.pt (pw_and (pt_cmpR op_notN (pv 6) pe_non (nomark _)) (pw_and1 (pt_cmpR (op_neD hr.units) (pe_ix ix_list (pv 7) (pe_ix ix_tup (pv 6) pe_int (fun _ _ => rfl)) (fun _ _ => rfl)) (pe_lst (pa_cons (pe_op op_sub pe_int pe_int) pa_nil)) (nomark _))))) (pss_one (ps_asg (pe_callB (cr_sortedSetK (w := w) rfl rfl) (by rfl) T.z_sorted (by decide +kernel) (pa_cons (pe_callTy (cr_setOfI (K := K) (w := w) rfl rfl rfl) (by rfl) T.z_set (by decide +kernel) (pa_cons (pe_op op_cat (pe_ix ix_list (pv 7) (pe_ix ix_tup (pv 6) pe_int (fun _ _ => rfl)) (fun _ _ => rfl)) (pe_lst (pa_cons (pe_ix ix_tup (pv 6) pe_int (fun _ _ => rfl)) pa_nil))) pa_nil)) pa_nil)) (pg_sub (pv 7) (pe_ix ix_tup (pv 6) pe_int (fun _ _ => rfl)) set_list))) pss_nil)
      (pss_cons (ps_set (i := 8) sc_law.nd rfl (.inl rfl) (pe_call G_possible_values (hr.mono (by first | decide | omega)) (by rfl) T.g_possible_values T.F_possible_values.kp (b_possible_values T) .nil pass0 (pa_cons (pv 3) (pa_cons (pv 4) pa_nil))))
      (pss_cons (ps_if (pt_not (pt_val (pe_call G__law_equal (hr.mono (by first | decide | omega)) (by rfl) T.g__law_equal T.F__law_equal.kp (b__law_equal T) .nil pass0 (pa_cons (pe_lst (pa_cons (pe_call G_first_error (hr.mono (by first | decide | omega)) (by rfl) T.g_first_error T.F_first_error.kp (b_first_error T) .nil pass0 (pa_cons (pv 3) (pa_cons (pv 4) pa_nil))) (pa_cons (pv 8) pa_nil))) (pa_cons (pe_lst (pa_cons pe_non (pa_cons (pv 7) pa_nil))) pa_nil))))) (pss_one (ps_ret pe_bl)) pss_nil)
      (pss_cons (ps_expr (pe_bm PySem.F.plainAttrs_list PySem.F.slot_list_append PySem.F.type_list_append mt_append (pe_ix ix_list (pv 8) pe_int (fun _ _ => rfl)) (pa_cons pe_int pa_nil)))
      (pss_one (ps_if (pt_not (pt_val (pe_call G__law_equal (hr.mono (by first | decide | omega)) (by rfl) T.g__law_equal T.F__law_equal.kp (b__law_equal T) .nil pass0 (pa_cons (pe_call G_possible_values (hr.mono (by first | decide | omega)) (by rfl) T.g_possible_values T.F_possible_values.kp (b_possible_values T) .nil pass0 (pa_cons (pv 3) (pa_cons (pv 4) pa_nil))) (pa_cons (pv 7) pa_nil))))) (pss_one (ps_ret pe_bl)) pss_nil))))))))))
      (pss_one (ps_ret (pe_and (pe_cmpR op_isN (pe_call G_first_error (hr.mono (by first | decide | omega)) (by rfl) T.g_first_error T.F_first_error.kp (b_first_error T) .nil pass0 (pa_cons pe_int (pa_cons (pe_lst pa_nil) pa_nil))) pe_non (nomark _)) (pe_one (pe_cmpR (op_eqD hr.units) (pe_call G_possible_values (hr.mono (by first | decide | omega)) (by rfl) T.g_possible_values T.F_possible_values.kp (b_possible_values T) .nil pass0 (pa_cons pe_int (pa_cons (pe_lst pa_nil) pa_nil))) (pe_lst (pa_cons (pe_lst (pa_cons pe_int pa_nil)) (pa_cons (pe_lst (pa_cons pe_int pa_nil)) pa_nil))) (nomark _)))))))), ?_⟩
    refine ⟨_, rfl, a, 75, ns, rfl, hS, hlen, fun r H1 r0 f1 R1 => ?_⟩
    refine ⟨3, rfl, by decide, by decide, for_range (n := 3) (fun i σ H' => ∃ (v2 v3 v4 v5 v6 v7 v8 v9 : Option V), σ = [some (.ref a), some (.ref r), v2, v3, v4, v5, v6, v7, v8, v9] ∧ Rnd H' r) ⟨none, none, none, none, none, none, none, none, rfl, R1⟩ ?_ ?_⟩
    · clear R1 f1 hS r0
      rintro i _ H1 hi ⟨v2, v3, v4, v5, v6, v7, v8, v9, rfl, R1⟩
      refine ⟨_, rfl, sz_le (by simp), fun l4 hl4 => ?_⟩
      have n4 : l4 ≠ r := by
        obtain ⟨x1, x2, x3, ex⟩ := R1
        exact (ne_of_none ex hl4).symm
      have R2 := R1.keep (S := []) (Fr.new (o := .lst [V.int 4, V.int 16]) hl4) (by simp)
      refine ⟨_, rfl, r, 2, rfl, R2, by decide, by decide, fun z0 H3 hz0 f3 R3 => ?_⟩
      obtain ⟨m4, em4, hm4, hm4'⟩ := at_416 hz0
      refine ⟨l4, _, _, _, rfl, rfl, SqL.of (f3 _ _ upd_same (by simpa using n4)), em4, r, m4, rfl, R3, hm4, by omega, fun n0 H4 hn0 f4 R4 => ⟨_, _, rfl, rfl, ?_⟩⟩
      obtain ⟨nb, enb⟩ : ∃ nb : Nat, (nb : Int) = 1 + (n0 : Int) := ⟨1 + n0, by omega⟩
      have hb1 : 1 ≤ nb := by omega
      have hb2 : nb ≤ 16 := by omega
      show gName 3 (V.int (1 + (n0 : Int))) _ _ _
      rw [← enb]
      clear enb hn0 n0 f3 f4 R1 R2 R3 n4 hl4 em4 hm4 hm4' hz0
      refine ⟨_, rfl, _, rfl, _, rfl, r, 30, rfl, R4, by decide, by decide, fun m H5 hm f5 R5 => ?_⟩
      refine ⟨r, nb, m, rfl, R5, hb1, hb2, by omega, fun H6 t lg pl ts pas uv es ls p f6 hlg hpl ht S tl => ?_⟩
      refine ⟨t, _, rfl, SqT.of ht, rfl, _, _, rfl, _, _, rfl, _, _, rfl, rfl, ?_⟩
      clear f5 f6 R4 R5 hlg hpl ht
      have q0 : Lq H6 nb r lg ts es := ⟨S.rnd, S.log, S.len, S.its, tl.ok, S.rl⟩
      have hvl : p.vs.length = nb := tl.pok.len
      have hlsl : ls.length = nb := by rw [tl.sim.1, hvl]
      -- what is due
      refine ⟨_, rfl, pl, rfl, ⟨_, SqL.of S.pos.lst⟩, fun D hD => ?_⟩
      have nDr : D ≠ r := by
        obtain ⟨x1, x2, x3, ex⟩ := S.rnd
        exact (ne_of_none ex hD).symm
      refine lc_list (K := K) (a := pl) (xs := pas.map V.ref) (fun i H' => Fr [] H6 H' ∧ ∃ ws : List Addr, Lists H' D ws ((p.vs.take i).map shownV) ∧ ∀ w ∈ ws, H6 w = none) ⟨Fr.new hD, [], ⟨upd_same, rfl, fun i a xs e => by simp at e, by simp⟩, by simp⟩ (fun i H' _ h => SqL.of (h.1 _ _ S.pos.lst (by simp))) ?_ ?_
      · rintro j x H7 hx ⟨f7, ws, L7, nw⟩
        obtain ⟨b, rfl, hb⟩ : ∃ b, x = V.ref b ∧ pas[j]? = some b := by
          rw [List.getElem?_map] at hx
          cases e : pas[j]? with
          | none => rw [e] at hx; cases hx
          | some b => rw [e] at hx; exact ⟨b, (Option.some.inj hx).symm, rfl⟩
        have hj : j < ls.length := by rw [← S.pos.len]; exact lt_of_at hb
        have hjv : j < p.vs.length := by omega
        have hB := f7 _ _ (S.pos.its j b _ hb (List.getElem?_eq_getElem hj)) (by simp)
        have hsim := tl.sim.2 j _ _ (List.getElem?_eq_getElem hj) (List.getElem?_eq_getElem hjv)
        have hll : ls[j].length ≤ 31 := by
          rcases hsim with ⟨e, _⟩ | ⟨_, e, _⟩
          · rw [e]; decide
          · omega
        refine ⟨rfl, _, rfl, b, _, rfl, SqL.of hB, by omega, fun s1 c1 hc1 hs1 => ?_⟩
        refine ⟨s1, _, c1, rfl, upd_same, by omega, fun ys q1 hst hmem hcl hq1 => ?_⟩
        have hfr : Fr [] H7 (upd (upd H7 s1 (SetO w s1 (fun j_1 => decide (j_1 ∈ ls[j])) c1)) q1 (.lst (ys.map V.int))) := (Fr.new hs1).trans (Fr.new hq1)
        have hys : ys = shownV p.vs[j] := due_eq (by omega) hsim hst fun k => by rw [hmem]; exact decide_eq_true_iff
        have q1D : q1 ≠ D := (ne_of_none ((Fr.new (S := []) hs1) _ _ L7.lst (by simp)) hq1).symm
        refine ⟨_, hfr _ _ L7.lst (by simp), by rw [List.length_map, L7.len, List.length_map, List.length_take]; exact sz_lt (by omega), (f7.trans hfr).upd0 hD, ws ++ [q1], ?_, ?_⟩
        · rw [List.take_succ, List.getElem?_eq_getElem hjv, List.map_append]
          refine L7.snoc ((hfr.mono (by simp)).trans (Fr.put (by simp))) (by rw [upd_same, List.map_append]; rfl) ((upd_ne q1D).trans ?_) q1D
          rw [upd_same, hys]
        · intro u hu
          rcases List.mem_append.mp hu with y | y
          · exact nw u y
          · rw [List.mem_singleton.mp y]
            exact some_of (f7.trans (Fr.new hs1)) (by simp) hq1
      · rintro H7 ⟨f7, das, L7, nw⟩
        rw [List.length_map, S.pos.len, hlsl, List.take_of_length_le (by omega)] at L7
        have S7 := S.keep0 f7
        have q7 := q0.keep0 f7
        have ndr : ∀ a ∈ das, a ≠ r := fun a ha z => by
          obtain ⟨x1, x2, x3, ex⟩ := S.rnd
          have := nw a ha
          rw [z, ex] at this
          cases this
        refine ⟨fun σ' H' => ∃ (v5' v6' v9' : Option V) (das : List Addr), σ' = [some (.ref a), some (.ref r), some (.int (0 + (i : Int))), some (.int (nb : Int)), some (.ref lg), v5', v6', some (.ref D), v8, v9'] ∧ Lq H' nb r lg ts es ∧ Lists H' D das (p.now.map shownV), ?_, ?_⟩
        · refine ⟨_, rfl, rfl, _, rfl, ?_⟩
          have hnon := S7.un.non
          cases eu : p.un with
          | none =>
            rw [eu] at hnon
            rw [hnon]
            have : p.now = p.vs := by unfold Po.now; rw [eu]
            rw [this]
            exact iteF ⟨_, _, _, das, rfl, q7, L7⟩
          | some q =>
            obtain ⟨c, x⟩ := q
            rw [eu] at hnon
            rw [hnon]
            obtain ⟨hc, hx⟩ := tl.pok.un c x eu
            have hU := S7.un
            rw [eu] at hU
            obtain ⟨u, rfl, hu⟩ := hU
            have hcv : c < p.vs.length := by omega
            have hcl : c < (p.vs.map shownV).length := by rw [List.length_map]; exact hcv
            obtain ⟨wc, hwc, hWc⟩ := L7.at hcl
            have hgd : (p.vs.map shownV).getD c [] = shownV (p.vs.getD c []) := getD_map hcv
            rw [hgd] at hWc
            have hwm : (das.map V.ref)[c]? = some (V.ref wc) := by rw [List.getElem?_map, hwc]; rfl
            have hsim := tl.sim.at hcv
            have hnow : p.now = p.vs.set c (addV x (p.vs.getD c [])) := by unfold Po.now; rw [eu]
            refine iteT ⟨_, rfl, _, rfl, u, _, ((0 : Nat) : Int), _, rfl, rfl, SqT.of hu, atI_nat rfl, D, _, _, _, rfl, rfl, SqL.of L7.lst, atI_nat hwm, _, _, rfl, rfl, sz_le (by simp), fun l1 hl1 => ?_⟩
            have g1 := Fr.new (S := []) (o := .lst [V.int (0 - 1)]) hl1
            have hWc1 := g1 _ _ hWc (by simp)
            have L8 := L7.keep0 g1
            have q8 := q7.keep0 g1
            have hu8 := g1 _ _ hu (by simp)
            refine ⟨_, _, .lst (SqL.of hWc1) (dpAll_ints _), .lst (SqL.of upd_same) (dpAll_ints [(0 - 1 : Int)]), shapedL_ints _, shapedL_ints _, _, rfl, ?_⟩
            rw [eqvL_ints]
            have hany := shownV_any tl.pok (by omega) hc
            rcases hany with ⟨e1, e2⟩ | ⟨n1, n2, n3, n4, n5, n6⟩
            · refine iteFb (by rw [decide_eq_true (show shownV (p.vs.getD c []) = [0 - 1] from e1)]; rfl) ⟨_, _, _, das, rfl, q8, ?_⟩
              have : p.now = p.vs := by
                rw [hnow]
                unfold addV
                rw [if_pos (by rw [e2]; exact mem_allV.mpr hx), List.getD_eq_getElem?_getD, List.getElem?_eq_getElem hcv]
                exact List.set_getElem_self hcv
              rw [this]
              exact L8
            · refine iteTb (by rw [decide_eq_false (show ¬ shownV (p.vs.getD c []) = [0 - 1] from n1)]; rfl) ?_
              refine ⟨_, rfl, _, rfl, u, _, ((0 : Nat) : Int), _, rfl, rfl, SqT.of hu8, atI_nat rfl, D, _, _, _, rfl, rfl, SqL.of L8.lst, atI_nat hwm, _, rfl, u, _, ((1 : Nat) : Int), _, rfl, rfl, SqT.of hu8, atI_nat rfl, sz_le (by simp), fun l2 hl2 => ?_⟩
              have g2 := Fr.new (S := []) (o := .lst [V.int x]) hl2
              have hsl : (shownV (p.vs.getD c [])).length ≤ m + 1 := shown_len (by omega) hsim
              refine ⟨wc, l2, _, _, rfl, rfl, g2 _ _ hWc1 (by simp), upd_same, ?_, fun l3 hl3 => ?_⟩
              · rw [List.length_map]
                show (shownV (p.vs.getD c [])).length + 1 ≤ sizeLine
                exact sz_le (by omega)
              have g3 := Fr.new (S := []) (o := .lst ((shownV (p.vs.getD c [])).map V.int ++ [V.int x])) hl3
              have e3 : (shownV (p.vs.getD c [])).map V.int ++ [V.int x] = (shownV (p.vs.getD c []) ++ [x]).map V.int := by rw [List.map_append]; rfl
              refine ⟨l3, shownV (p.vs.getD c []) ++ [x], rfl, SqL.of (by rw [upd_same, e3]), by rw [List.length_append, List.length_singleton]; omega, fun s1 c1 hc1 hs1 => ?_⟩
              rw [List.length_append, List.length_singleton] at hc1
              refine ⟨s1, _, c1, rfl, upd_same, by omega, fun ys q1 hst hmem hcl1 hq1 => ?_⟩
              have G := ((g2.trans g3).trans (Fr.new hs1)).trans (Fr.new (o := .lst (ys.map V.int)) hq1)
              have L9 := L8.keep0 G
              have q9 := q8.keep0 G
              have hu9 := G _ _ hu8 (by simp)
              have hn1 : ls.getD c [] ≠ [-1] := fun z => n1 (by
                have := hsim
                rcases this with ⟨_, e⟩ | ⟨_, _, g3, _⟩
                · exact absurd e n2
                · have := g3 (-1) (by rw [z]; simp)
                  omega)
              have hs2 := hsim.add hx
              rw [if_neg hn1] at hs2
              have hys : ys = shownV (addV x (p.vs.getD c [])) := due_eq (by omega) hs2 hst fun k => by
                rw [hmem, decide_eq_true_iff, List.mem_append, List.mem_append, shown_mem (by omega) hsim]
              have q1D : q1 ≠ D := (ne_of_none (((g2.trans g3).trans (Fr.new (S := []) hs1)) _ _ L8.lst (by simp)) hq1).symm
              refine ⟨_, rfl, _, rfl, u, _, ((0 : Nat) : Int), _, rfl, rfl, SqT.of hu9, atI_nat rfl, D, _, _, c, rfl, rfl, L9.lst, ix_at c (by rw [List.length_map, L9.len]; exact hcl), ?_⟩
              rw [refs_set]
              refine ⟨_, _, _, das.set c q1, rfl, ⟨q9.rnd.keep (Fr.put (S := [D]) (by simp)) (by simpa using nDr.symm), (upd_ne ?_).trans q9.log, q9.len, fun i t e e1 e2 => ?_, q9.ok, q9.rl⟩, ?_⟩
              · intro z
                have := S.log
                rw [z, hD] at this
                cases this
              · have hti := q9.its i t e e1 e2
                refine (upd_ne fun z => ?_).trans hti
                rw [z, L9.lst] at hti
                cases hti
              · rw [hnow, show (p.vs.set c (addV x (p.vs.getD c []))).map shownV = (p.vs.map shownV).set c ys by rw [List.map_set, ← hys]]
                exact L9.set (Fr.put (by simp)) upd_same ((upd_ne q1D).trans upd_same) q1D
        · clear L7 q7 S7 S q0 nw f7 hD nDr ndr
          rintro _ H8 ⟨v5', v6', v9', das, rfl, q8, L8⟩
          have wlk : walkP 0 (po0 nb) (es.map some) = (none, p) := by
            have := walkP_run (i := 0) (r := []) tl.run
            rw [List.append_nil] at this
            exact this
          have hes : es.length ≤ 29 := by rw [tl.len]; omega
          have hsh := short_now tl.pok (by omega)
          have hnl : p.now.length = nb := tl.pok.now.len
          have hzs : ∀ l ∈ p.now.map shownV, l.length ≤ 2000 := fun l hl => by
            obtain ⟨v, hv, rfl⟩ := List.mem_map.mp hl
            unfold shownV
            split
            · simp
            · have : (sortI v).length = v.length := (List.mergeSort_perm v _).length_eq
              omega
          have logW : ∀ {H : Hp}, Lq H nb r lg ts es → Walked H nb (.ref lg) (none, p) := fun q => .inl ⟨lg, _, _, rfl, q.Log, by rw [List.length_map]; omega, wlk.symm⟩
          refine ⟨_, rfl, _, rfl, nb, _, (none, p), rfl, hb1, hb2, logW q8, hsh, ?_⟩
          show ∀ (H' : Hp) (l : Addr) (as : List Addr), _
          rintro H9 fnd fas f9 hfnd hfas ndf L9
          have q9 := q8.keep0 f9
          have L9d := L8.keep0 f9
          refine ⟨_, rfl, _, rfl, nb, _, (none, p), rfl, hb1, hb2, logW q9, fun H10 f10 => ?_⟩
          have q10 := q9.keep0 f10
          refine ⟨_, rfl, sz_le (by simp), fun l1 hl1 => ⟨_, rfl, sz_le (by simp), fun l2 hl2 => ?_⟩⟩
          have g1 := Fr.new (S := []) (o := .lst [V.non, V.ref fnd]) hl1
          have g2 := Fr.new (S := []) (o := .lst [V.non, V.ref D]) hl2
          have G := (f10.trans g1).trans g2
          have Lf := L9.keep0 G
          have Ld := L9d.keep0 G
          have qf := q9.keep0 G
          refine ⟨_, _, rfl, .inr ⟨l1, l2, _, _, rfl, rfl, .inr ⟨g2 _ _ upd_same (by simp), upd_same⟩, rfl, by simp, fun i x y e1 e2 => ?_⟩, fun H11 f11 => ?_⟩
          · match i, e1, e2 with
            | 0, e1, e2 =>
              cases e1
              cases e2
              exact Eqn.flat rfl 3
            | 1, e1, e2 =>
              cases e1
              cases e2
              exact Eqn.lists Lf Ld (by rw [List.length_map, hnl]; omega) hzs
            | i + 2, e1, e2 => simp at e1
          refine ⟨_, rfl, iteF ?_⟩
          have q11 := qf.keep0 f11
          have Lf1 := Lf.keep0 f11
          have Ld1 := Ld.keep0 f11
          have h0 : 0 < (p.now.map shownV).length := by rw [List.length_map, hnl]; omega
          obtain ⟨w0, hw0, hW0⟩ := Lf1.at h0
          have hwm0 : (fas.map V.ref)[0]? = some (V.ref w0) := by rw [List.getElem?_map, hw0]; rfl
          have hw0n : H8 w0 = none := hfas w0 (List.mem_of_getElem? hw0)
          refine ⟨_, rfl, fnd, _, ((0 : Nat) : Int), _, rfl, rfl, SqL.of Lf1.lst, atI_nat hwm0, .inl ⟨rfl, _, SqL.of hW0⟩, w0, _, _, rfl, rfl, hW0, ?_, ?_⟩
          · rw [List.length_map]
            have hz0 : ((p.now.map shownV).getD 0 []).length ≤ 2000 := hzs _ (getD_mem h0)
            show ((p.now.map shownV).getD 0 []).length < sizeLine
            exact sz_lt (by omega)
          have g3 : Fr [w0] H11 (upd H11 w0 (.lst (((p.now.map shownV).getD 0 []).map V.int ++ [V.int 0]))) := Fr.put (by simp)
          have live : ∀ {b : Addr} {o : HO}, H8 b = some o → b ≠ w0 := fun e z => by
            rw [z, hw0n] at e
            cases e
          have nt : ∀ b ∈ [w0], ∀ xs, H11 b ≠ some (.tup xs) := fun b hb xs => by rw [List.mem_singleton.mp hb, hW0]; simp
          have q12 : Lq (upd H11 w0 (.lst (((p.now.map shownV).getD 0 []).map V.int ++ [V.int 0]))) nb r lg ts es := by
            have rw0 : r ≠ w0 := by
              obtain ⟨x1, x2, x3, ex⟩ := q8.rnd
              exact live ex
            exact ⟨q11.rnd.keep g3 (by simpa using rw0), g3 _ _ q11.log (by simpa using live q8.log), q11.len, fun i t e e1 e2 => g3 _ _ (q11.its i t e e1 e2) fun z => nt _ z _ (q11.its i t e e1 e2), q11.ok, q11.rl⟩
          have Ld2 : Lists (upd H11 w0 (.lst (((p.now.map shownV).getD 0 []).map V.int ++ [V.int 0]))) D das (p.now.map shownV) := Ld1.keep g3 (by simpa using live L8.lst) fun a ha => by
            rw [List.mem_singleton]
            obtain ⟨o, eo⟩ := L8.there a ha
            exact live eo
          generalize (upd H11 w0 (.lst (((p.now.map shownV).getD 0 []).map V.int ++ [V.int 0]))) = H12 at q12 Ld2
          refine ⟨_, rfl, _, rfl, nb, _, (none, p), rfl, hb1, hb2, logW q12, hsh, ?_⟩
          show ∀ (H' : Hp) (l : Addr) (as : List Addr), _
          rintro H13 fn2 fs2 f13 _ _ _ L13
          refine ⟨_, rfl, _, _, rfl, ((Eqn.lists (n := 2) L13 (Ld2.keep0 f13) (by rw [List.length_map, hnl]; omega) hzs)), fun H14 f14 => ⟨_, rfl, iteF ?_⟩⟩
          exact ⟨_, _, _, _, _, _, _, _, rfl, ((q12.keep0 f13).keep0 f14).rnd⟩
    · clear R1 f1 hS r0
      rintro _ H1 ⟨v2, v3, v4, v5, v6, v7, v8, v9, rfl, R1⟩
      refine ⟨sz_le (by simp), fun l1 hl1 => ?_⟩
      have W0 : ∀ (H : Hp) (nb : Nat) (l : Addr), H l = some (.lst []) → Walked H nb (.ref l) (none, po0 nb) := fun H nb l e => .inl ⟨l, [], [], rfl, ⟨e, rfl, fun i x o e => by simp at e⟩, by simp, rfl⟩
      refine ⟨3, _, (none, po0 3), rfl, by decide, by decide, W0 _ _ _ upd_same, fun H2 f2 => ⟨rfl, _, rfl, ?_⟩⟩
      refine iteT ⟨sz_le (by simp), fun l2 hl2 => ?_⟩
      refine ⟨2, _, (none, po0 2), rfl, by decide, by decide, W0 _ _ _ upd_same, fun l hl => .inr (by
        have : l = [0] := List.eq_of_mem_replicate (n := 2) hl
        rw [this]
        decide), ?_⟩
      show ∀ (H' : Hp) (l : Addr) (as : List Addr), _
      rintro H3 fn fs f3 _ _ _ L3
      refine ⟨sz_le (by simp), fun u1 k1 => ⟨sz_le (by simp), fun u2 k2 => ⟨sz_le (by simp), fun u3 k3 => ?_⟩⟩⟩
      have G1 := Fr.new (S := []) (o := .lst [V.int 0]) k1
      have G2 := Fr.new (S := []) (o := .lst [V.int 0]) k2
      have G3 := Fr.new (S := []) (o := .lst [V.ref u1, V.ref u2]) k3
      have L4 := L3.keep0 ((G1.trans G2).trans G3)
      have e0 : (po0 2).now.map shownV = [[0], [0]] := by
        show [shownV [0], shownV [0]] = _
        rw [shown_one]
      rw [e0] at L4
      have d1 : DpAll K _ (fs.map V.ref) (iD [[0], [0]]) := dpAll_iD (zss := [[0], [0]]) L4.len fun j w ys a b => L4.its j w ys a b
      have d2 : DpAll K (upd (upd (upd H3 u1 (.lst [V.int 0])) u2 (.lst [V.int 0])) u3 (.lst [V.ref u1, V.ref u2])) ([u1, u2].map V.ref) (iD [[0], [0]]) := dpAll_iD (zss := [[0], [0]]) rfl fun j w ys a b => by
        match j, a, b with
        | 0, a, b =>
          cases a
          cases b
          exact G3 _ _ (G2 _ _ upd_same (by simp)) (by simp)
        | 1, a, b =>
          cases a
          cases b
          exact G3 _ _ upd_same (by simp)
        | j + 2, a, b => simp at a
      refine ⟨_, _, .lst (SqL.of L4.lst) d1, .lst (SqL.of upd_same) d2, shapedL_iD _, shapedL_iD _, ?_⟩
      rw [eqvL_iD, decide_eq_true rfl]
      exact k _
end
section
open PySem PySem.W PySem.Calls PyProof.Rows
def hxn0 : List PySem.Str := ["__name__", "PairError", "InvalidSize", "MOST_BLOCKS", "MOST_VALUE", "is_number", "is_number_from", "check_blocks", "ENTRY_FORMS", "ANY_VALUE", "Possibilities", "first_error"]
def hxn1 : List PySem.Str := ["possible_values", "_walk", "_has_form", "_law_random", "_law_below", "_law_log", "_law_equal"]
def hnames : List PySem.Str := hxn0 ++ hxn1
def hxd0 : List Hx.Df := [⟨.glo "is_number", "is_number", "is_number", s_is_number, [], []⟩,
  ⟨.glo "is_number_from", "is_number_from", "is_number_from", s_is_number_from, [], []⟩,
  ⟨.glo "check_blocks", "check_blocks", "check_blocks", s_check_blocks, [.int (16)], []⟩,
  ⟨.meth "Possibilities" "__init__", "__init__", "Possibilities.__init__", s_Possibilities___init__, [], []⟩,
  ⟨.meth "Possibilities" "follow", "follow", "Possibilities.follow", s_Possibilities_follow, [], []⟩,
  ⟨.meth "Possibilities" "values_now", "values_now", "Possibilities.values_now", s_Possibilities_values_now, [], []⟩,
  ⟨.glo "first_error", "first_error", "first_error", s_first_error, [], []⟩,
  ⟨.glo "possible_values", "possible_values", "possible_values", s_possible_values, [], []⟩,
  ⟨.glo "_walk", "_walk", "_walk", s__walk, [], []⟩,
  ⟨.glo "_has_form", "_has_form", "_has_form", s__has_form, [], []⟩,
  ⟨.glo "_law_random", "_law_random", "_law_random", s__law_random, [], []⟩,
  ⟨.glo "_law_below", "_law_below", "_law_below", s__law_below, [], []⟩,
  ⟨.glo "_law_log", "_law_log", "_law_log", s__law_log, [], []⟩,
  ⟨.glo "_law_equal", "_law_equal", "_law_equal", s__law_equal, [], []⟩,
  ⟨.glo "law", "law", "law", s_law, [], []⟩]
def hdefs : List Hx.Df := hxd0
def hxf0 (K : Frag) : List Bool := [(He.Fa.glo "Possibilities").ok K,
  (He.Fa.cls "Possibilities").ok K,
  (He.Fa.noat "Possibilities" "_values").ok K,
  (He.Fa.noat "Possibilities" "_under_way").ok K,
  (He.Fa.glo "is_number").ok K,
  (He.Fa.glo "is_number_from").ok K,
  (He.Fa.glo "check_blocks").ok K,
  (He.Fa.mkr "Possibilities").ok K,
  (He.Fa.meth "Possibilities" "follow").ok K,
  (He.Fa.meth "Possibilities" "values_now").ok K,
  (He.Fa.glo "first_error").ok K,
  (He.Fa.glo "possible_values").ok K,
  (He.Fa.glo "_walk").ok K,
  (He.Fa.glo "_has_form").ok K,
  (He.Fa.glo "_law_random").ok K,
  (He.Fa.glo "_law_below").ok K,
  (He.Fa.glo "_law_log").ok K,
  (He.Fa.glo "_law_equal").ok K,
  (He.Fa.free "isinstance").ok K,
  (He.Fa.free "int").ok K,
  (He.Fa.free "bool").ok K,
  (He.Fa.free "str").ok K,
  (He.Fa.free "list").ok K,
  (He.Fa.free "tuple").ok K,
  (He.Fa.free "len").ok K,
  (He.Fa.free "abs").ok K,
  (He.Fa.free "range").ok K,
  (He.Fa.free "enumerate").ok K,
  (He.Fa.free "sorted").ok K,
  (He.Fa.free "set").ok K,
  (He.Fa.free "all").ok K,
  (He.Fa.int "MOST_BLOCKS" (16)).ok K,
  (He.Fa.int "MOST_VALUE" (999)).ok K,
  (He.Fa.int "ANY_VALUE" (-1)).ok K,
  Hx.isTup K (Hx.itAd K (He.ga K "ENTRY_FORMS") 0) [.str "read", .int 3],
  Hx.isTup K (Hx.itAd K (He.ga K "ENTRY_FORMS") 1) [.str "begin", .int 3],
  Hx.isTup K (Hx.itAd K (He.ga K "ENTRY_FORMS") 2) [.str "done", .int 1],
  Hx.isTup K (Hx.itAd K (He.ga K "ENTRY_FORMS") 3) [.str "fail", .int 1],
  Hx.isTup K (Hx.itAd K (He.ga K "ENTRY_FORMS") 4) [.str "lost", .int 2],
  Hx.isTup K (He.ga K "ENTRY_FORMS") [.ref (Hx.itAd K (He.ga K "ENTRY_FORMS") 0), .ref (Hx.itAd K (He.ga K "ENTRY_FORMS") 1), .ref (Hx.itAd K (He.ga K "ENTRY_FORMS") 2), .ref (Hx.itAd K (He.ga K "ENTRY_FORMS") 3), .ref (Hx.itAd K (He.ga K "ENTRY_FORMS") 4)]]
def hxf1 (K : Frag) : List Bool := [(He.Fa.glo "ENTRY_FORMS").ok K,
  (He.Fa.glo "law").ok K]
def hfacts (K : Frag) : List (List Bool) := [hxf0 K, hxf1 K]
abbrev hR : OpenRow := OpenLaw.row PySem.Challenge.rw_keepbefore_k75_logs_that_can_be
def hex (K : Frag) : Bool := (hfacts K).all fun l => l.all id
abbrev hk : Hook := Hx.hook 6 hdefs hex []
theorem hrun (w : World) : HandSHeadRun.RunEq hR (view hR.prog [22]) hk (Hx.ob 6 hdefs hex []) 40000 hnames w := by
  intro os
  kernel_rfl
end
section
open PySem PySem.Spec PyProof.Rows L2
theorem all_ok {P : Program} {w : World} {K : PySem.W.Frag} {h : Heap} {mg : Str → Option Value} {fa : Addr} (X : K.In h) (G : h.Ns mainGlobals mg) (hfa : mg ("law" : Str) = some (.ref fa)) (c : Hx.Says hdefs (fun K => (hfacts K).all fun l => l.all id) [] h K) :
    ∃ fd : FuncData, (∀ (s : Shared) (v : Value), BindsTo s fd ⟨[v], []⟩ [("_law_script", v)]) ∧ ∀ base : Heap, K.In base → base.Ns mainGlobals mg → FnOk P w K mg base CX0 12 fa fd ["_law_script"] (spLaw K) := by
  obtain ⟨fd_is_number, F_is_number⟩ := c.def_ 0
  obtain ⟨fd_is_number_from, F_is_number_from⟩ := c.def_ 1
  obtain ⟨fd_check_blocks, F_check_blocks⟩ := c.def_ 2
  obtain ⟨fd_Possibilities___init__, F_Possibilities___init__⟩ := c.def_ 3
  obtain ⟨fd_Possibilities_follow, F_Possibilities_follow⟩ := c.def_ 4
  obtain ⟨fd_Possibilities_values_now, F_Possibilities_values_now⟩ := c.def_ 5
  obtain ⟨fd_first_error, F_first_error⟩ := c.def_ 6
  obtain ⟨fd_possible_values, F_possible_values⟩ := c.def_ 7
  obtain ⟨fd__walk, F__walk⟩ := c.def_ 8
  obtain ⟨fd__has_form, F__has_form⟩ := c.def_ 9
  obtain ⟨fd__law_random, F__law_random⟩ := c.def_ 10
  obtain ⟨fd__law_below, F__law_below⟩ := c.def_ 11
  obtain ⟨fd__law_log, F__law_log⟩ := c.def_ 12
  obtain ⟨fd__law_equal, F__law_equal⟩ := c.def_ 13
  obtain ⟨t_MOST_BLOCKS, c_MOST_BLOCKS⟩ := He.int_ok X G (c.fact 0 31)
  obtain ⟨t_MOST_VALUE, c_MOST_VALUE⟩ := He.int_ok X G (c.fact 0 32)
  obtain ⟨t_ANY_VALUE, c_ANY_VALUE⟩ := He.int_ok X G (c.fact 0 33)
  obtain ⟨fd, F⟩ := c.def_ 14
  have e := hfa.symm.trans (He.glo_ok X G (c.fact 1 1))
  cases e
  have T : Gx K mg := {
    C_Possibilities := (He.ga K "Possibilities"), gC_Possibilities := He.glo_ok X G (c.fact 0 0), cl_Possibilities := He.cls_ok (c.fact 0 1),
    n_Possibilities__values := He.noat_ok (c.fact 0 2),
    n_Possibilities__under_way := He.noat_ok (c.fact 0 3),
    f_is_number := Hx.At.ad K (.glo "is_number"), fd_is_number := fd_is_number, F_is_number := Hx.plain F_is_number,
    g_is_number := He.glo_ok X G (c.fact 0 4),
    f_is_number_from := Hx.At.ad K (.glo "is_number_from"), fd_is_number_from := fd_is_number_from, F_is_number_from := Hx.plain F_is_number_from,
    g_is_number_from := He.glo_ok X G (c.fact 0 5),
    f_check_blocks := Hx.At.ad K (.glo "check_blocks"), fd_check_blocks := fd_check_blocks, F_check_blocks := F_check_blocks,
    g_check_blocks := He.glo_ok X G (c.fact 0 6),
    f_Possibilities___init__ := Hx.At.ad K (.meth "Possibilities" "__init__"), fd_Possibilities___init__ := fd_Possibilities___init__, F_Possibilities___init__ := Hx.plain F_Possibilities___init__,
    M_Possibilities___init__ := He.mkr_ok (c.fact 0 7),
    f_Possibilities_follow := Hx.At.ad K (.meth "Possibilities" "follow"), fd_Possibilities_follow := fd_Possibilities_follow, F_Possibilities_follow := Hx.plain F_Possibilities_follow,
    m_Possibilities_follow := He.meth_ok (c.fact 0 8),
    f_Possibilities_values_now := Hx.At.ad K (.meth "Possibilities" "values_now"), fd_Possibilities_values_now := fd_Possibilities_values_now, F_Possibilities_values_now := Hx.plain F_Possibilities_values_now,
    m_Possibilities_values_now := He.meth_ok (c.fact 0 9),
    f_first_error := Hx.At.ad K (.glo "first_error"), fd_first_error := fd_first_error, F_first_error := Hx.plain F_first_error,
    g_first_error := He.glo_ok X G (c.fact 0 10),
    f_possible_values := Hx.At.ad K (.glo "possible_values"), fd_possible_values := fd_possible_values, F_possible_values := Hx.plain F_possible_values,
    g_possible_values := He.glo_ok X G (c.fact 0 11),
    f__walk := Hx.At.ad K (.glo "_walk"), fd__walk := fd__walk, F__walk := Hx.plain F__walk,
    g__walk := He.glo_ok X G (c.fact 0 12),
    f__has_form := Hx.At.ad K (.glo "_has_form"), fd__has_form := fd__has_form, F__has_form := Hx.plain F__has_form,
    g__has_form := He.glo_ok X G (c.fact 0 13),
    f__law_random := Hx.At.ad K (.glo "_law_random"), fd__law_random := fd__law_random, F__law_random := Hx.plain F__law_random,
    g__law_random := He.glo_ok X G (c.fact 0 14),
    f__law_below := Hx.At.ad K (.glo "_law_below"), fd__law_below := fd__law_below, F__law_below := Hx.plain F__law_below,
    g__law_below := He.glo_ok X G (c.fact 0 15),
    f__law_log := Hx.At.ad K (.glo "_law_log"), fd__law_log := fd__law_log, F__law_log := Hx.plain F__law_log,
    g__law_log := He.glo_ok X G (c.fact 0 16),
    f__law_equal := Hx.At.ad K (.glo "_law_equal"), fd__law_equal := fd__law_equal, F__law_equal := Hx.plain F__law_equal,
    g__law_equal := He.glo_ok X G (c.fact 0 17),
    z_isinstance := He.free_ok X G (c.fact 0 18),
    z_int := He.free_ok X G (c.fact 0 19),
    z_bool := He.free_ok X G (c.fact 0 20),
    z_str := He.free_ok X G (c.fact 0 21),
    z_list := He.free_ok X G (c.fact 0 22),
    z_tuple := He.free_ok X G (c.fact 0 23),
    z_len := He.free_ok X G (c.fact 0 24),
    z_abs := He.free_ok X G (c.fact 0 25),
    z_range := He.free_ok X G (c.fact 0 26),
    z_enumerate := He.free_ok X G (c.fact 0 27),
    z_sorted := He.free_ok X G (c.fact 0 28),
    z_set := He.free_ok X G (c.fact 0 29),
    z_all := He.free_ok X G (c.fact 0 30),
    t_MOST_BLOCKS := t_MOST_BLOCKS, c_MOST_BLOCKS := c_MOST_BLOCKS,
    t_MOST_VALUE := t_MOST_VALUE, c_MOST_VALUE := c_MOST_VALUE,
    t_ANY_VALUE := t_ANY_VALUE, c_ANY_VALUE := c_ANY_VALUE,
    A_ENTRY_FORMS_0 := (Hx.itAd K (He.ga K "ENTRY_FORMS") 0), k_ENTRY_FORMS_0 := Hx.isTup_ok (c.fact 0 34),
    A_ENTRY_FORMS_1 := (Hx.itAd K (He.ga K "ENTRY_FORMS") 1), k_ENTRY_FORMS_1 := Hx.isTup_ok (c.fact 0 35),
    A_ENTRY_FORMS_2 := (Hx.itAd K (He.ga K "ENTRY_FORMS") 2), k_ENTRY_FORMS_2 := Hx.isTup_ok (c.fact 0 36),
    A_ENTRY_FORMS_3 := (Hx.itAd K (He.ga K "ENTRY_FORMS") 3), k_ENTRY_FORMS_3 := Hx.isTup_ok (c.fact 0 37),
    A_ENTRY_FORMS_4 := (Hx.itAd K (He.ga K "ENTRY_FORMS") 4), k_ENTRY_FORMS_4 := Hx.isTup_ok (c.fact 0 38),
    A_ENTRY_FORMS := (He.ga K "ENTRY_FORMS"), k_ENTRY_FORMS := Hx.isTup_ok (c.fact 0 39),
    g_ENTRY_FORMS := He.glo_ok X G (c.fact 1 0) }
  have b := FunD.bindsA (ps := ["_law_script"]) F fun _ _ _ _ _ _ us hl => match us, hl with | [_], _ => rfl
  exact ⟨fd, fun s v => b s [v] rfl, fun base _ _ => ok_law (Hx.plain F) T⟩
end
end Kb
open PySem PySem.W PySem.Calls PyProof.Rows in
set_option maxRecDepth 100000 in
set_option maxHeartbeats 0 in
theorem PySem.Challenge.cw_keepbefore_k75_logs_that_can_be_holds : PySem.Challenge.rw_keepbefore_k75_logs_that_can_be.Holds := by
  w_on; o_law
  refine HandSHeadRun.head_any (r := OpenLaw.row PySem.Challenge.rw_keepbefore_k75_logs_that_can_be) (q := view (OpenLaw.row PySem.Challenge.rw_keepbefore_k75_logs_that_can_be).prog [22]) (H := Kb.hk) (ob := Hx.ob 6 Kb.hdefs Kb.hex []) (M := 40000) (loose := Kb.hnames) (d := HandSHeadRun.topDef (OpenLaw.row PySem.Challenge.rw_keepbefore_k75_logs_that_can_be).prog 22) (kwd := []) Hx.ob_eq
    (by kernel_rfl) (fun s => by kernel_rfl) Kb.hrun (by kernel_rfl) (by kernel_rfl) (by kernel_rfl) (by rfl) (by first | assumption | decide +kernel) (by decide +kernel) ⟨rfl, rfl, rfl, rfl, rfl, by decide +kernel⟩ ?hw ?hc
  case hw => w_witness2
  case hc =>
    refine L2.walk_ofE (l := PySem.Challenge.rw_keepbefore_k75_logs_that_can_be) (n := 63) (k := 12) (x := "_law_script") (CX := L2.CX0) rfl (by decide) (by kernel_rfl) ⟨rfl, by decide, by decide⟩ ?F (fun _ _ _ _ z => z)
    intro w mg fa h Y G hmg0
    obtain ⟨K, KX, c⟩ := Y
    have hmg : mg ("law" : PySem.Str) = some (.ref fa) := by
      have e : (HandSHeadRun.topDef (OpenLaw.row PySem.Challenge.rw_keepbefore_k75_logs_that_can_be).prog 22).name = ("law" : PySem.Str) := by kernel_rfl
      rw [← e]
      exact hmg0
    obtain ⟨fd, hb, hF⟩ := Kb.all_ok (P := (PySem.Challenge.rw_keepbefore_k75_logs_that_can_be).prog) (w := w) KX G hmg c
    exact ⟨K, fd, Kb.spLaw K, KX, hb, fun H a ns hl _ hS => ⟨a, ns, rfl, hS, hl, fun _ => rfl⟩, hF⟩
