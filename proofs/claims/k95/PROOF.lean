import PyProof.Rows.All
import Wide.All
import OpenK.AllK
import Wide.FinOn
import HandS.ForMost
import HandS.Defaults
import HandS.Property
import HandS.IsInst
import HandS.Conv
import HandS.Codes
import HandS.MakeKwOnly
import HandS.GenYield
import HandS.TupAny
import HandS.Zip
import HandS.Walk
import HandS.Wide
import KE.DatumOrd
import HandS.Style
import HandS.TupSets
import HandS.DictComp
import HandS.Dict
import HandS.Iter
import HandS.More
import HandS.Small
import HandS.Star
import HandS.ClsMeth
import KE.KStateDown
import HandS.Head0
import HandS.Head1
import HandS.Head2
import HandS.HeadEnd
import HandS.HeadHook1
import HandS.HeadHook2
import HandS.HeadHook3
import HandS.HeadHook4
import HandS.HeadWalk
import PySem.Challenge.RW_keepbefore_k95_whole_more_slots_hit_more
set_option Elab.async false
set_option linter.all false
set_option maxRecDepth 100000
set_option maxHeartbeats 4000000
/-! ### what is looked at behind the top: the defs, the classes, the names -/
namespace Hx
open PySem PySem.Spec PyProof.Rows L2
/-- where a def stands: a name of the top, a method, a property's getter, a class method -/
inductive At where
  | glo (x : Str)
  | meth (C m : Str)
  | prop (C m : Str)
  | clsm (C m : Str)
section
variable {K : PySem.W.Frag} {p C : Addr} {t : String} {m : Str}
def recAd (K : PySem.W.Frag) (p : Addr) (t : String) : Addr := match PySem.W.recIn K p t with
  | some (.ref f :: _) => f
  | _ => 0
def isRec (K : PySem.W.Frag) (p : Addr) (t : String) : Bool := match PySem.W.recIn K p t with
  | some (.ref _ :: _) => true
  | _ => false
theorem isRec_ok (h : isRec K p t = true) : ∃ rest, PySem.W.recIn K p t = some (.ref (recAd K p t) :: rest) := by
  unfold isRec at h
  split at h
  · rename_i f r e
    refine ⟨r, ?_⟩
    unfold recAd
    rw [e]
  · cases h
def clAd (K : PySem.W.Frag) (C : Addr) (m : Str) : Addr := match PySem.W.findCls K (.ref C) (.type "type") m with
  | some (.get _ (.ref p) _ _) => p
  | _ => 0
def isCl (K : PySem.W.Frag) (C : Addr) (m : Str) : Bool := match PySem.W.findCls K (.ref C) (.type "type") m with
  | some (.get (.builtin b) (.ref _) .none (.ref D)) => decide (b = "classmethod.__get__") && decide (D = C)
  | _ => false
theorem isCl_ok (h : isCl K C m = true) : PySem.W.findCls K (.ref C) (.type "type") m = some (.get (.builtin "classmethod.__get__") (.ref (clAd K C m)) .none (.ref C)) := by
  unfold isCl at h
  split at h
  · rename_i b p D e
    obtain ⟨h1, h2⟩ := Bool.and_eq_true_iff.mp h
    have e1 := of_decide_eq_true h1
    have e2 := of_decide_eq_true h2
    subst e1 e2
    unfold clAd
    rw [e]
  · cases h
def At.ad (K : PySem.W.Frag) : At → Addr
  | .glo x => He.ga K x
  | .meth C m => He.ma K (He.ga K C) m
  | .prop C m => recAd K (He.ma K (He.ga K C) m) "property"
  | .clsm C m => recAd K (clAd K (He.ga K C) m) "classmethod"
/-! ### defs -/
abbrev Seen : Type := Option (FuncBody × Scope × Arguments × Str × Str × Addr × Addr × List (Str × Addr))
def seen (K : PySem.W.Frag) (a : Addr) : Seen := match K.lookup a with
  | some o => (match o.data with
    | .func d => some (d.body, d.scope, d.params, d.name, d.qualname, d.globals, d.builtins, d.closure)
    | _ => none)
  | none => none
structure Df where
  at_ : At
  name : Str
  qual : Str
  st : Stmt
  dfl : List V
  kwd : List (Str × V)
def Df.want (d : Df) : Seen := some (.stmts (defBody d.st), defScope d.st, defArgs d.st, d.name, d.qual, mainGlobals, builtinsNs, [])
def Df.sound (K : PySem.W.Frag) (d : Df) : Bool := PySem.W.keepIn K (.ref (d.at_.ad K)) && (match K.lookup (d.at_.ad K) with
  | some o => (match o.data with
    | .func u => PySem.W.codeIn K u.code d.qual && (He.dflB K u.defaults d.dfl && He.kwdB K u.kwdefaults d.kwd)
    | _ => false)
  | none => false)
theorem Df.funD {d : Df} (e : seen K (d.at_.ad K) = d.want) (c : d.sound K = true) : ∃ fd, FunD K d.name d.qual (defArgs d.st) (defBody d.st) (defScope d.st) d.dfl d.kwd (d.at_.ad K) fd := by
  obtain ⟨kp, c2⟩ := Bool.and_eq_true_iff.mp c
  unfold seen at e
  cases q : K.lookup (d.at_.ad K) with
  | none =>
    rw [q] at e
    cases e
  | some o =>
    obtain ⟨oc, od, dt, osl⟩ := o
    rw [q] at c2 e
    cases dt with
    | func u =>
      obtain ⟨n1, n2, n3, n4, n5, n6, n7, n8, n9, n10, n11, n12, n13, n14, n15⟩ := u
      have e2 : (some (n4, n5, n3, n1, n2, n6, n15, n7) : Seen) = some (.stmts (defBody d.st), defScope d.st, defArgs d.st, d.name, d.qual, mainGlobals, builtinsNs, []) := e
      simp only [Option.some.injEq, Prod.mk.injEq] at e2
      obtain ⟨h4, h5, h3, h1, h2, h6, h8, h7⟩ := e2
      subst h1 h2 h3 h4 h5 h6 h7 h8
      have c3 : (PySem.W.codeIn K n13 d.qual && (He.dflB K n8 d.dfl && He.kwdB K n9 d.kwd)) = true := c2
      obtain ⟨k1, k2⟩ := Bool.and_eq_true_iff.mp c3
      obtain ⟨k3, k4⟩ := Bool.and_eq_true_iff.mp k2
      exact ⟨_, ⟨oc, od, n8, n9, n10, n11, n12, n13, n14, osl, rfl, q, k1, He.dflB_ok k3, He.kwdB_ok k4⟩, kp⟩
    | _ => cases e
theorem plain {x qual : Str} {st : Stmt} {f : Addr} {fd : FuncData} (F : FunD K x qual (defArgs st) (defBody st) (defScope st) [] [] f fd) : Fun K x qual st f fd := by
  obtain ⟨oc, od, dV, kV, doc, pm, an, cdv, ct, osl, e, lk, hcd, hd, hk⟩ := F.ex
  rcases hd with ⟨_, rfl⟩ | ⟨h, _⟩
  · exact ⟨⟨oc, od, kV, doc, pm, an, cdv, ct, osl, e, lk, hcd⟩, F.kp⟩
  · exact absurd rfl h
/-! ### written tuples -/
def itAd (K : PySem.W.Frag) (a : Addr) (i : Nat) : Addr := match K.lookup a with
  | some o => (match o.data with
    | .seq its _ => (match its.toList[i]? with
      | some (.ref b) => b
      | _ => 0)
    | _ => 0)
  | none => 0
def isTup (K : PySem.W.Frag) (a : Addr) (vs : List V) : Bool := match K.lookup a with
  | some ⟨.type c, _, .seq its _, _⟩ => (c == "tuple" && its.size.ble 1000) && He.relAll vs its.toList
  | _ => false
theorem isTup_ok {a : Addr} {vs : List V} (h : isTup K a vs = true) (H : Hp) : SqT K H a vs := by
  unfold isTup at h
  split at h
  · rename_i c od its n sl q
    obtain ⟨h1, h2⟩ := Bool.and_eq_true_iff.mp h
    obtain ⟨h3, h4⟩ := Bool.and_eq_true_iff.mp h1
    have e := eq_of_beq h3
    subst e
    exact .inr ⟨_, its, n, q, rfl, rfl, Nat.le_trans (Nat.le_of_ble_eq_true h4) (by decide), He.relAll_ok h2⟩
  · cases h
/-! ### code objects -/
def cdAd (K : PySem.W.Frag) (a : Addr) : Addr := match K.lookup a with
  | some o => (match o.data with
    | .func u => (match u.code with
      | .ref c => c
      | _ => 0)
    | _ => 0)
  | none => 0
/-! ### the part of the heap that is looked at: what the names reach, but not into code objects -/
def isCode (o : Obj) : Bool := match o.cls with
  | .type n => n == "code"
  | _ => false
def more (g : Addr → Option Obj) (as : List Addr) : List Addr := as.flatMap fun a => match g a with
  | some o => bif isCode o then [] else He.refsD o
  | none => []
/-- what is new of these, each once -/
def fresh : List Addr → List Addr → List Addr → List Addr
  | _, [], acc => acc.reverse
  | old, a :: r, acc => bif old.elem a then fresh old r acc else bif acc.elem a then fresh old r acc else fresh old r (a :: acc)
/-- old: what was found; as: what was found last -/
def reach (g : Addr → Option Obj) : Nat → List Addr → List Addr → List Addr
  | 0, old, _ => old
  | n + 1, old, as => match fresh old (more g as) [] with
    | [] => old
    | a :: r => reach g n (old ++ a :: r) (a :: r)
/-! ### the Hook -/
abbrev Al : Type := Bool × List Seen
def looks (n : Nat) (dfs : List Df) (ex : PySem.W.Frag → Bool) (tf : List At) (g : Addr → Option Obj) (K : PySem.W.Frag) : Al :=
  ((ex K && dfs.all (Df.sound K)) && tf.all fun a => PySem.W.codeHdIn K (cdAd K (a.ad K)) (He.tabOf K (cdAd K (a.ad K))) && (match g (He.tabOf K (cdAd K (a.ad K))) with
    | some o => He.emptyTab o
    | none => false), dfs.map fun d => seen K (d.at_.ad K))
structure Says (dfs : List Df) (ex : PySem.W.Frag → Bool) (tf : List At) (h : Heap) (K : PySem.W.Frag) : Prop where
  ex : ex K = true
  defs : ∀ d ∈ dfs, ∃ fd, FunD K d.name d.qual (defArgs d.st) (defBody d.st) (defScope d.st) d.dfl d.kwd (d.at_.ad K) fd
  head : ∀ a ∈ tf, PySem.W.codeHdIn K (cdAd K (a.ad K)) (He.tabOf K (cdAd K (a.ad K))) = true
  out : ∀ a ∈ tf, K.lookup (He.tabOf K (cdAd K (a.ad K))) = none
  tab : ∀ a ∈ tf, h.get? (He.tabOf K (cdAd K (a.ad K))) = some { cls := .none, data := .fields #[] }
def hook (n : Nat) (dfs : List Df) (ex : PySem.W.Frag → Bool) (tf : List At) : PySem.W.Hook where
  α := Al
  obs := fun s => looks n dfs ex tf s.heap.get? (He.frT s.heap.get? (reach s.heap.get? n [mainGlobals, cStatics] [mainGlobals]))
  val := fun _ => (true, dfs.map Df.want)
  says := fun _ h => ∃ K : PySem.W.Frag, K.In h ∧ Says dfs ex tf h K
  of := fun _ s e => ⟨_, He.frT_in, by
    obtain ⟨K, hK⟩ : ∃ K, K = He.frT s.heap.get? (reach s.heap.get? n [mainGlobals, cStatics] [mainGlobals]) := ⟨_, rfl⟩
    have hn : ∀ {a o}, s.heap.get? a = some o → He.emptyTab o = true → K.lookup a = none := fun a b => by
      rw [hK]
      exact He.frT_none a b
    rw [← hK] at e ⊢
    obtain ⟨e1, e2⟩ := Prod.mk.inj e
    obtain ⟨h1, h2⟩ := Bool.and_eq_true_iff.mp e1
    obtain ⟨h3, h4⟩ := Bool.and_eq_true_iff.mp h1
    have key : ∀ a ∈ tf, PySem.W.codeHdIn K (cdAd K (a.ad K)) (He.tabOf K (cdAd K (a.ad K))) = true ∧ ∃ o, s.heap.get? (He.tabOf K (cdAd K (a.ad K))) = some o ∧ He.emptyTab o = true := fun a ha => by
      obtain ⟨h5, h6⟩ := Bool.and_eq_true_iff.mp (List.all_eq_true.mp h2 a ha)
      refine ⟨h5, ?_⟩
      split at h6
      · rename_i o q
        exact ⟨o, q, h6⟩
      · cases h6
    refine ⟨h3, fun d hd => ?_, fun a ha => (key a ha).1, fun a ha => ?_, fun a ha => ?_⟩
    · obtain ⟨i, hi, ei⟩ := List.getElem_of_mem hd
      have e3 : (dfs.map fun d => seen K (d.at_.ad K))[i]? = (dfs.map Df.want)[i]? := by rw [e2]
      rw [List.getElem?_map, List.getElem?_map, List.getElem?_eq_getElem hi, ei] at e3
      exact Df.funD (Option.some.inj e3) (List.all_eq_true.mp h4 d hd)
    · obtain ⟨_, o, q, z⟩ := key a ha
      exact hn q z
    · obtain ⟨_, o, q, z⟩ := key a ha
      rw [q, He.emptyTab_eq z]⟩
  keeps := fun _ _ _ ⟨K, hK, c⟩ k => ⟨K, PySem.W.Frag.In.keeps hK k, ⟨c.ex, c.defs, c.head, c.out, fun a ha => k _ _ (c.tab a ha)⟩⟩
def ob (n : Nat) (dfs : List Df) (ex : PySem.W.Frag → Bool) (tf : List At) (s : PySem.W.SharedT) : Al := looks n dfs ex tf (HandSHeadRun.getT s) (He.frT (HandSHeadRun.getT s) (reach (HandSHeadRun.getT s) n [mainGlobals, cStatics] [mainGlobals]))
theorem ob_eq {n : Nat} {dfs : List Df} {ex : PySem.W.Frag → Bool} {tf : List At} (s : PySem.W.SharedT) : ob n dfs ex tf s = (hook n dfs ex tf).obs s.abs := by
  have e : HandSHeadRun.getT s = s.abs.heap.get? := funext (HandSHeadRun.getT_eq s)
  unfold ob
  rw [e]
  rfl
theorem Says.fact {dfs : List Df} {exs : PySem.W.Frag → List (List Bool)} {tf : List At} {h : Heap} (c : Says dfs (fun K => (exs K).all fun l => l.all id) tf h K) (i j : Nat) {l : List Bool} {b : Bool} (hl : (exs K)[i]? = some l := by rfl) (hb : l[j]? = some b := by rfl) : b = true :=
  List.all_eq_true.mp (List.all_eq_true.mp c.ex l (List.mem_of_getElem? hl)) b (List.mem_of_getElem? hb)
theorem Says.def_ {dfs : List Df} {ex : PySem.W.Frag → Bool} {tf : List At} {h : Heap} (c : Says dfs ex tf h K) (i : Nat) {d : Df} (hd : dfs[i]? = some d := by rfl) : ∃ fd, FunD K d.name d.qual (defArgs d.st) (defBody d.st) (defScope d.st) d.dfl d.kwd (d.at_.ad K) fd := c.defs d (List.mem_of_getElem? hd)
end
end Hx
namespace Kb
open PySem L2
def top (i : Nat) : Stmt := PySem.Challenge.pw_keepbefore_k95_whole_more_slots_hit_more.main.body.getD i (.Pass ⟨0, 0, 0, 0⟩)
abbrev s_is_number : Stmt := top 16
theorem sc_is_number : FnScope ["thing"] ["thing"] (defScope s_is_number) := ⟨rfl, rfl, rfl, by decide +kernel, rfl, by decide +kernel, by decide +kernel⟩
abbrev s_is_number_from : Stmt := top 17
theorem sc_is_number_from : FnScope ["thing", "least", "most"] ["thing", "least", "most"] (defScope s_is_number_from) := ⟨rfl, rfl, rfl, by decide +kernel, rfl, by decide +kernel, by decide +kernel⟩
abbrev s_check_blocks : Stmt := top 18
theorem sc_check_blocks : FnScope ["blocks", "most"] ["blocks", "most"] (defScope s_check_blocks) := ⟨rfl, rfl, rfl, by decide +kernel, rfl, by decide +kernel, by decide +kernel⟩
abbrev s_check_slots : Stmt := top 19
theorem sc_check_slots : FnScope ["slots", "most"] ["slots", "most"] (defScope s_check_slots) := ⟨rfl, rfl, rfl, by decide +kernel, rfl, by decide +kernel, by decide +kernel⟩
abbrev s_Disk___init__ : Stmt := inClass (top 22) 0
theorem sc_Disk___init__ : FnScope ["self", "cells", "content"] ["self", "cells", "content"] (defScope s_Disk___init__) := ⟨rfl, rfl, rfl, by decide +kernel, rfl, by decide +kernel, by decide +kernel⟩
abbrev s_Disk_read : Stmt := inClass (top 22) 2
theorem sc_Disk_read : FnScope ["self", "cell"] ["self", "cell"] (defScope s_Disk_read) := ⟨rfl, rfl, rfl, by decide +kernel, rfl, by decide +kernel, by decide +kernel⟩
abbrev s_Disk_write : Stmt := inClass (top 22) 3
theorem sc_Disk_write : FnScope ["self", "cell", "content"] ["self", "cell", "content"] (defScope s_Disk_write) := ⟨rfl, rfl, rfl, by decide +kernel, rfl, by decide +kernel, by decide +kernel⟩
abbrev s_Disk_counts : Stmt := inClass (top 22) 9
theorem sc_Disk_counts : FnScope ["self"] ["self"] (defScope s_Disk_counts) := ⟨rfl, rfl, rfl, by decide +kernel, rfl, by decide +kernel, by decide +kernel⟩
abbrev s_Disk__check_cell : Stmt := inClass (top 22) 10
theorem sc_Disk__check_cell : FnScope ["self", "cell"] ["self", "cell"] (defScope s_Disk__check_cell) := ⟨rfl, rfl, rfl, by decide +kernel, rfl, by decide +kernel, by decide +kernel⟩
abbrev s_KnownSlot___init__ : Stmt := inClass (top 32) 0
theorem sc_KnownSlot___init__ : FnScope ["self", "record", "request"] ["self", "record", "request"] (defScope s_KnownSlot___init__) := ⟨rfl, rfl, rfl, by decide +kernel, rfl, by decide +kernel, by decide +kernel⟩
abbrev s_Memory___init__ : Stmt := inClass (top 33) 0
theorem sc_Memory___init__ : FnScope ["self", "slots"] ["self", "slots"] (defScope s_Memory___init__) := ⟨rfl, rfl, rfl, by decide +kernel, rfl, by decide +kernel, by decide +kernel⟩
abbrev s_Memory_records : Stmt := inClass (top 33) 1
theorem sc_Memory_records : FnScope ["self", "slot"] ["self"] (defScope s_Memory_records) := ⟨rfl, rfl, rfl, by decide +kernel, rfl, by decide +kernel, by decide +kernel⟩
abbrev s_Memory_slot_of : Stmt := inClass (top 33) 2
theorem sc_Memory_slot_of : FnScope ["self", "block", "slot", "known"] ["self", "block"] (defScope s_Memory_slot_of) := ⟨rfl, rfl, rfl, by decide +kernel, rfl, by decide +kernel, by decide +kernel⟩
abbrev s_Memory_record_in : Stmt := inClass (top 33) 3
theorem sc_Memory_record_in : FnScope ["self", "slot"] ["self", "slot"] (defScope s_Memory_record_in) := ⟨rfl, rfl, rfl, by decide +kernel, rfl, by decide +kernel, by decide +kernel⟩
abbrev s_Memory_use : Stmt := inClass (top 33) 4
theorem sc_Memory_use : FnScope ["self", "slot", "request", "known"] ["self", "slot", "request"] (defScope s_Memory_use) := ⟨rfl, rfl, rfl, by decide +kernel, rfl, by decide +kernel, by decide +kernel⟩
abbrev s_Memory_learn : Stmt := inClass (top 33) 5
theorem sc_Memory_learn : FnScope ["self", "slot", "record", "request", "known"] ["self", "slot", "record", "request"] (defScope s_Memory_learn) := ⟨rfl, rfl, rfl, by decide +kernel, rfl, by decide +kernel, by decide +kernel⟩
abbrev s_Memory_forget : Stmt := inClass (top 33) 7
theorem sc_Memory_forget : FnScope ["self", "slot"] ["self", "slot"] (defScope s_Memory_forget) := ⟨rfl, rfl, rfl, by decide +kernel, rfl, by decide +kernel, by decide +kernel⟩
abbrev s_Memory_slot_to_take : Stmt := inClass (top 33) 10
theorem sc_Memory_slot_to_take : FnScope ["self", "choice", "slot", "ranks", "known"] ["self", "choice"] (defScope s_Memory_slot_to_take) := ⟨rfl, rfl, rfl, by decide +kernel, rfl, by decide +kernel, by decide +kernel⟩
abbrev s__rank : Stmt := top 34
theorem sc__rank : FnScope ["known", "choice"] ["known", "choice"] (defScope s__rank) := ⟨rfl, rfl, rfl, by decide +kernel, rfl, by decide +kernel, by decide +kernel⟩
abbrev s_Rules___init__ : Stmt := inClass (top 43) 0
theorem sc_Rules___init__ : FnScope ["self", "writing", "reading", "choice", "bound", "words", "part", "allowed"] ["self", "writing", "reading", "choice", "bound"] (defScope s_Rules___init__) := ⟨rfl, rfl, rfl, by decide +kernel, rfl, by decide +kernel, by decide +kernel⟩
abbrev s_Rules_reading : Stmt := inClass (top 43) 3
theorem sc_Rules_reading : FnScope ["self"] ["self"] (defScope s_Rules_reading) := ⟨rfl, rfl, rfl, by decide +kernel, rfl, by decide +kernel, by decide +kernel⟩
abbrev s_Rules_choice : Stmt := inClass (top 43) 4
theorem sc_Rules_choice : FnScope ["self"] ["self"] (defScope s_Rules_choice) := ⟨rfl, rfl, rfl, by decide +kernel, rfl, by decide +kernel, by decide +kernel⟩
abbrev s_Recipes___init__ : Stmt := inClass (top 44) 0
theorem sc_Recipes___init__ : FnScope ["self", "through", "back", "around", "clean", "allowed", "part", "recipe", "place"] ["self", "through", "back", "around", "clean"] (defScope s_Recipes___init__) := ⟨rfl, rfl, rfl, by decide +kernel, rfl, by decide +kernel, by decide +kernel⟩
abbrev s_Recipes_safe : Stmt := inClass (top 44) 2
theorem sc_Recipes_safe : FnScope ["cls"] ["cls"] (defScope s_Recipes_safe) := ⟨rfl, rfl, rfl, by decide +kernel, rfl, by decide +kernel, by decide +kernel⟩
abbrev s_Recipes_through : Stmt := inClass (top 44) 3
theorem sc_Recipes_through : FnScope ["self"] ["self"] (defScope s_Recipes_through) := ⟨rfl, rfl, rfl, by decide +kernel, rfl, by decide +kernel, by decide +kernel⟩
abbrev s_Recipes_back : Stmt := inClass (top 44) 4
theorem sc_Recipes_back : FnScope ["self"] ["self"] (defScope s_Recipes_back) := ⟨rfl, rfl, rfl, by decide +kernel, rfl, by decide +kernel, by decide +kernel⟩
abbrev s_Recipes_around : Stmt := inClass (top 44) 5
theorem sc_Recipes_around : FnScope ["self"] ["self"] (defScope s_Recipes_around) := ⟨rfl, rfl, rfl, by decide +kernel, rfl, by decide +kernel, by decide +kernel⟩
abbrev s_Recipes_clean : Stmt := inClass (top 44) 6
theorem sc_Recipes_clean : FnScope ["self"] ["self"] (defScope s_Recipes_clean) := ⟨rfl, rfl, rfl, by decide +kernel, rfl, by decide +kernel, by decide +kernel⟩
abbrev s_Rules_writing : Stmt := inClass (top 43) 2
theorem sc_Rules_writing : FnScope ["self"] ["self"] (defScope s_Rules_writing) := ⟨rfl, rfl, rfl, by decide +kernel, rfl, by decide +kernel, by decide +kernel⟩
abbrev s_Rules_bound : Stmt := inClass (top 43) 5
theorem sc_Rules_bound : FnScope ["self"] ["self"] (defScope s_Rules_bound) := ⟨rfl, rfl, rfl, by decide +kernel, rfl, by decide +kernel, by decide +kernel⟩
abbrev s_Disk_sync : Stmt := inClass (top 22) 4
theorem sc_Disk_sync : FnScope ["self"] ["self"] (defScope s_Disk_sync) := ⟨rfl, rfl, rfl, by decide +kernel, rfl, by decide +kernel, by decide +kernel⟩
abbrev s__invalid_place : Stmt := top 45
theorem sc__invalid_place : FnScope ["recipe", "allowed", "place", "word"] ["recipe", "allowed"] (defScope s__invalid_place) := ⟨rfl, rfl, rfl, by decide +kernel, rfl, by decide +kernel, by decide +kernel⟩
abbrev s_Pair___init__ : Stmt := inClass (top 48) 0
theorem sc_Pair___init__ : FnScope ["self", "blocks", "slots", "rules", "recipes"] ["self", "blocks", "slots", "rules", "recipes"] (defScope s_Pair___init__) := ⟨rfl, rfl, rfl, by decide +kernel, rfl, by decide +kernel, by decide +kernel⟩
abbrev s_Pair_read : Stmt := inClass (top 48) 1
theorem sc_Pair_read : FnScope ["self", "block", "own", "value", "slot"] ["self", "block"] (defScope s_Pair_read) := ⟨rfl, rfl, rfl, by decide +kernel, rfl, by decide +kernel, by decide +kernel⟩
abbrev s_Pair_known : Stmt := inClass (top 48) 15
theorem sc_Pair_known : FnScope ["self"] ["self"] (defScope s_Pair_known) := ⟨rfl, rfl, rfl, by decide +kernel, rfl, by decide +kernel, by decide +kernel⟩
abbrev s_Pair_hits : Stmt := inClass (top 48) 17
theorem sc_Pair_hits : FnScope ["self"] ["self"] (defScope s_Pair_hits) := ⟨rfl, rfl, rfl, by decide +kernel, rfl, by decide +kernel, by decide +kernel⟩
abbrev s_Pair_counts : Stmt := inClass (top 48) 20
theorem sc_Pair_counts : FnScope ["self", "fast_counts", "living", "dead", "count"] ["self"] (defScope s_Pair_counts) := ⟨rfl, rfl, rfl, by decide +kernel, rfl, by decide +kernel, by decide +kernel⟩
abbrev s_Pair__check_on : Stmt := inClass (top 48) 24
theorem sc_Pair__check_on : FnScope ["self"] ["self"] (defScope s_Pair__check_on) := ⟨rfl, rfl, rfl, by decide +kernel, rfl, by decide +kernel, by decide +kernel⟩
abbrev s_Pair__check_block : Stmt := inClass (top 48) 25
theorem sc_Pair__check_block : FnScope ["self", "block"] ["self", "block"] (defScope s_Pair__check_block) := ⟨rfl, rfl, rfl, by decide +kernel, rfl, by decide +kernel, by decide +kernel⟩
abbrev s_Pair__begin_request : Stmt := inClass (top 48) 26
theorem sc_Pair__begin_request : FnScope ["self", "block", "own"] ["self", "block"] (defScope s_Pair__begin_request) := ⟨rfl, rfl, rfl, by decide +kernel, rfl, by decide +kernel, by decide +kernel⟩
abbrev s_Pair__take_slot : Stmt := inClass (top 48) 27
theorem sc_Pair__take_slot : FnScope ["self", "slot"] ["self"] (defScope s_Pair__take_slot) := ⟨rfl, rfl, rfl, by decide +kernel, rfl, by decide +kernel, by decide +kernel⟩
abbrev s_Pair__begin_step : Stmt := inClass (top 48) 33
theorem sc_Pair__begin_step : FnScope ["self", "is_done"] ["self"] (defScope s_Pair__begin_step) := ⟨rfl, rfl, rfl, by decide +kernel, rfl, by decide +kernel, by decide +kernel⟩
abbrev s_Pair__write_fast : Stmt := inClass (top 48) 36
theorem sc_Pair__write_fast : FnScope ["self", "slot", "content"] ["self", "slot", "content"] (defScope s_Pair__write_fast) := ⟨rfl, rfl, rfl, by decide +kernel, rfl, by decide +kernel, by decide +kernel⟩
abbrev s_Pair__write_record : Stmt := inClass (top 48) 37
theorem sc_Pair__write_record : FnScope ["self", "slot", "record"] ["self", "slot", "record"] (defScope s_Pair__write_record) := ⟨rfl, rfl, rfl, by decide +kernel, rfl, by decide +kernel, by decide +kernel⟩
abbrev s_Pair__put_in_fast : Stmt := inClass (top 48) 40
theorem sc_Pair__put_in_fast : FnScope ["self", "slots"] ["self", "slots"] (defScope s_Pair__put_in_fast) := ⟨rfl, rfl, rfl, by decide +kernel, rfl, by decide +kernel, by decide +kernel⟩
abbrev s__law_random : Stmt := top 50
theorem sc__law_random : FnScope ["_law_script", "_law_salt", "_law_seed", "_law_cell"] ["_law_script", "_law_salt"] (defScope s__law_random) := ⟨rfl, rfl, rfl, by decide +kernel, rfl, by decide +kernel, by decide +kernel⟩
abbrev s__law_below : Stmt := top 51
theorem sc__law_below : FnScope ["_law_d", "_law_limit", "_law_result"] ["_law_d", "_law_limit"] (defScope s__law_below) := ⟨rfl, rfl, rfl, by decide +kernel, rfl, by decide +kernel, by decide +kernel⟩
abbrev s_law : Stmt := top 52
theorem sc_law : FnScope ["_law_script", "_law_d", "_law_few", "_law_k", "_law_requests", "_law_hits", "_law_kept", "_law_slots", "_law_pair", "_law_request", "_law_last", "_law_row", "_law_slot", "_law_block"] ["_law_script"] (defScope s_law) := ⟨rfl, rfl, rfl, by decide +kernel, rfl, by decide +kernel, by decide +kernel⟩
/-- a written tuple -/
def TupK (K : PySem.W.Frag) (a : Addr) (xs : List V) : Prop := ∀ H : Hp, SqT K H a xs
theorem TupK.of {K : PySem.W.Frag} {a : Addr} {xs : List V} {od : Option Addr} {its : Array Value} {n : Nat} {sl : Array (Option Value)} (h : K.lookup a = some ⟨.type "tuple", od, .seq its n, sl⟩) (hz : its.size ≤ sizeLine) (r : Vals xs its.toList) : TupK K a xs :=
  fun _ => .inr ⟨_, its, n, h, rfl, rfl, hz, r⟩
structure Gx (K : PySem.W.Frag) (mg : Str → Option Value) where
  C_Disk : Addr
  cl_Disk : Cls K C_Disk
  gC_Disk : mg "Disk" = some (.ref C_Disk)
  n_Disk__contents : NoAttr K C_Disk "_contents"
  n_Disk__lasting : NoAttr K C_Disk "_lasting"
  n_Disk__pending : NoAttr K C_Disk "_pending"
  n_Disk__reads : NoAttr K C_Disk "_reads"
  n_Disk__writes : NoAttr K C_Disk "_writes"
  n_Disk__syncs : NoAttr K C_Disk "_syncs"
  C_KnownSlot : Addr
  cl_KnownSlot : Cls K C_KnownSlot
  gC_KnownSlot : mg "KnownSlot" = some (.ref C_KnownSlot)
  n_KnownSlot_record : NoAttr K C_KnownSlot "record"
  n_KnownSlot_came : NoAttr K C_KnownSlot "came"
  n_KnownSlot_used : NoAttr K C_KnownSlot "used"
  n_KnownSlot_uses : NoAttr K C_KnownSlot "uses"
  C_Memory : Addr
  cl_Memory : Cls K C_Memory
  gC_Memory : mg "Memory" = some (.ref C_Memory)
  n_Memory__slots : NoAttr K C_Memory "_slots"
  n_Memory__known : NoAttr K C_Memory "_known"
  C_Rules : Addr
  cl_Rules : Cls K C_Rules
  gC_Rules : mg "Rules" = some (.ref C_Rules)
  n_Rules__writing : NoAttr K C_Rules "_writing"
  n_Rules__reading : NoAttr K C_Rules "_reading"
  n_Rules__choice : NoAttr K C_Rules "_choice"
  n_Rules__bound : NoAttr K C_Rules "_bound"
  C_Recipes : Addr
  cl_Recipes : Cls K C_Recipes
  gC_Recipes : mg "Recipes" = some (.ref C_Recipes)
  n_Recipes__through : NoAttr K C_Recipes "_through"
  n_Recipes__back : NoAttr K C_Recipes "_back"
  n_Recipes__around : NoAttr K C_Recipes "_around"
  n_Recipes__clean : NoAttr K C_Recipes "_clean"
  C_Pair : Addr
  cl_Pair : Cls K C_Pair
  gC_Pair : mg "Pair" = some (.ref C_Pair)
  n_Pair__blocks : NoAttr K C_Pair "_blocks"
  n_Pair__rules : NoAttr K C_Pair "_rules"
  n_Pair__recipes : NoAttr K C_Pair "_recipes"
  n_Pair__slow : NoAttr K C_Pair "_slow"
  n_Pair__fast : NoAttr K C_Pair "_fast"
  n_Pair__memory : NoAttr K C_Pair "_memory"
  n_Pair__counts_of_dead : NoAttr K C_Pair "_counts_of_dead"
  n_Pair__requests : NoAttr K C_Pair "_requests"
  n_Pair__hits : NoAttr K C_Pair "_hits"
  n_Pair__next_turn : NoAttr K C_Pair "_next_turn"
  n_Pair__steps_left : NoAttr K C_Pair "_steps_left"
  n_Pair__is_on : NoAttr K C_Pair "_is_on"
  n_Pair__is_done : NoAttr K C_Pair "_is_done"
  f_is_number : Addr
  fd_is_number : FuncData
  F_is_number : Fun K "is_number" "is_number" s_is_number f_is_number fd_is_number
  g_is_number : mg "is_number" = some (.ref f_is_number)
  f_is_number_from : Addr
  fd_is_number_from : FuncData
  F_is_number_from : Fun K "is_number_from" "is_number_from" s_is_number_from f_is_number_from fd_is_number_from
  g_is_number_from : mg "is_number_from" = some (.ref f_is_number_from)
  f_check_blocks : Addr
  fd_check_blocks : FuncData
  F_check_blocks : FunD K "check_blocks" "check_blocks" (defArgs s_check_blocks) (defBody s_check_blocks) (defScope s_check_blocks) [.int 16] [] f_check_blocks fd_check_blocks
  g_check_blocks : mg "check_blocks" = some (.ref f_check_blocks)
  f_check_slots : Addr
  fd_check_slots : FuncData
  F_check_slots : FunD K "check_slots" "check_slots" (defArgs s_check_slots) (defBody s_check_slots) (defScope s_check_slots) [.int 8] [] f_check_slots fd_check_slots
  g_check_slots : mg "check_slots" = some (.ref f_check_slots)
  f_Disk___init__ : Addr
  fd_Disk___init__ : FuncData
  F_Disk___init__ : FunD K "__init__" "Disk.__init__" (defArgs s_Disk___init__) (defBody s_Disk___init__) (defScope s_Disk___init__) [] [("content", .int 0)] f_Disk___init__ fd_Disk___init__
  M_Disk___init__ : Mk K C_Disk f_Disk___init__
  f_Disk_read : Addr
  fd_Disk_read : FuncData
  F_Disk_read : Fun K "read" "Disk.read" s_Disk_read f_Disk_read fd_Disk_read
  m_Disk_read : Meth K C_Disk "read" f_Disk_read
  f_Disk_write : Addr
  fd_Disk_write : FuncData
  F_Disk_write : Fun K "write" "Disk.write" s_Disk_write f_Disk_write fd_Disk_write
  m_Disk_write : Meth K C_Disk "write" f_Disk_write
  f_Disk_counts : Addr
  fd_Disk_counts : FuncData
  F_Disk_counts : Fun K "counts" "Disk.counts" s_Disk_counts f_Disk_counts fd_Disk_counts
  p_Disk_counts : Addr
  P_Disk_counts : PropOf K C_Disk "counts" p_Disk_counts f_Disk_counts
  f_Disk__check_cell : Addr
  fd_Disk__check_cell : FuncData
  F_Disk__check_cell : Fun K "_check_cell" "Disk._check_cell" s_Disk__check_cell f_Disk__check_cell fd_Disk__check_cell
  m_Disk__check_cell : Meth K C_Disk "_check_cell" f_Disk__check_cell
  f_KnownSlot___init__ : Addr
  fd_KnownSlot___init__ : FuncData
  F_KnownSlot___init__ : Fun K "__init__" "KnownSlot.__init__" s_KnownSlot___init__ f_KnownSlot___init__ fd_KnownSlot___init__
  M_KnownSlot___init__ : Mk K C_KnownSlot f_KnownSlot___init__
  f_Memory___init__ : Addr
  fd_Memory___init__ : FuncData
  F_Memory___init__ : Fun K "__init__" "Memory.__init__" s_Memory___init__ f_Memory___init__ fd_Memory___init__
  M_Memory___init__ : Mk K C_Memory f_Memory___init__
  f_Memory_records : Addr
  fd_Memory_records : FuncData
  F_Memory_records : Fun K "records" "Memory.records" s_Memory_records f_Memory_records fd_Memory_records
  m_Memory_records : Meth K C_Memory "records" f_Memory_records
  f_Memory_slot_of : Addr
  fd_Memory_slot_of : FuncData
  F_Memory_slot_of : Fun K "slot_of" "Memory.slot_of" s_Memory_slot_of f_Memory_slot_of fd_Memory_slot_of
  m_Memory_slot_of : Meth K C_Memory "slot_of" f_Memory_slot_of
  f_Memory_record_in : Addr
  fd_Memory_record_in : FuncData
  F_Memory_record_in : Fun K "record_in" "Memory.record_in" s_Memory_record_in f_Memory_record_in fd_Memory_record_in
  m_Memory_record_in : Meth K C_Memory "record_in" f_Memory_record_in
  f_Memory_use : Addr
  fd_Memory_use : FuncData
  F_Memory_use : Fun K "use" "Memory.use" s_Memory_use f_Memory_use fd_Memory_use
  m_Memory_use : Meth K C_Memory "use" f_Memory_use
  f_Memory_learn : Addr
  fd_Memory_learn : FuncData
  F_Memory_learn : Fun K "learn" "Memory.learn" s_Memory_learn f_Memory_learn fd_Memory_learn
  m_Memory_learn : Meth K C_Memory "learn" f_Memory_learn
  f_Memory_forget : Addr
  fd_Memory_forget : FuncData
  F_Memory_forget : Fun K "forget" "Memory.forget" s_Memory_forget f_Memory_forget fd_Memory_forget
  m_Memory_forget : Meth K C_Memory "forget" f_Memory_forget
  f_Memory_slot_to_take : Addr
  fd_Memory_slot_to_take : FuncData
  F_Memory_slot_to_take : Fun K "slot_to_take" "Memory.slot_to_take" s_Memory_slot_to_take f_Memory_slot_to_take fd_Memory_slot_to_take
  m_Memory_slot_to_take : Meth K C_Memory "slot_to_take" f_Memory_slot_to_take
  f__rank : Addr
  fd__rank : FuncData
  F__rank : Fun K "_rank" "_rank" s__rank f__rank fd__rank
  g__rank : mg "_rank" = some (.ref f__rank)
  f_Rules___init__ : Addr
  fd_Rules___init__ : FuncData
  F_Rules___init__ : Fun K "__init__" "Rules.__init__" s_Rules___init__ f_Rules___init__ fd_Rules___init__
  M_Rules___init__ : Mk K C_Rules f_Rules___init__
  f_Rules_reading : Addr
  fd_Rules_reading : FuncData
  F_Rules_reading : Fun K "reading" "Rules.reading" s_Rules_reading f_Rules_reading fd_Rules_reading
  p_Rules_reading : Addr
  P_Rules_reading : PropOf K C_Rules "reading" p_Rules_reading f_Rules_reading
  f_Rules_choice : Addr
  fd_Rules_choice : FuncData
  F_Rules_choice : Fun K "choice" "Rules.choice" s_Rules_choice f_Rules_choice fd_Rules_choice
  p_Rules_choice : Addr
  P_Rules_choice : PropOf K C_Rules "choice" p_Rules_choice f_Rules_choice
  f_Recipes___init__ : Addr
  fd_Recipes___init__ : FuncData
  F_Recipes___init__ : Fun K "__init__" "Recipes.__init__" s_Recipes___init__ f_Recipes___init__ fd_Recipes___init__
  M_Recipes___init__ : Mk K C_Recipes f_Recipes___init__
  f_Recipes_safe : Addr
  fd_Recipes_safe : FuncData
  F_Recipes_safe : Fun K "safe" "Recipes.safe" s_Recipes_safe f_Recipes_safe fd_Recipes_safe
  p_Recipes_safe : Addr
  Y_Recipes_safe : ClX.CMet K C_Recipes (.type "type") "safe" p_Recipes_safe f_Recipes_safe
  R_Recipes_safe : ClX.CRead K C_Recipes (.type "type")
  f_Recipes_through : Addr
  fd_Recipes_through : FuncData
  F_Recipes_through : Fun K "through" "Recipes.through" s_Recipes_through f_Recipes_through fd_Recipes_through
  p_Recipes_through : Addr
  P_Recipes_through : PropOf K C_Recipes "through" p_Recipes_through f_Recipes_through
  f_Recipes_back : Addr
  fd_Recipes_back : FuncData
  F_Recipes_back : Fun K "back" "Recipes.back" s_Recipes_back f_Recipes_back fd_Recipes_back
  p_Recipes_back : Addr
  P_Recipes_back : PropOf K C_Recipes "back" p_Recipes_back f_Recipes_back
  f_Recipes_around : Addr
  fd_Recipes_around : FuncData
  F_Recipes_around : Fun K "around" "Recipes.around" s_Recipes_around f_Recipes_around fd_Recipes_around
  p_Recipes_around : Addr
  P_Recipes_around : PropOf K C_Recipes "around" p_Recipes_around f_Recipes_around
  f_Recipes_clean : Addr
  fd_Recipes_clean : FuncData
  F_Recipes_clean : Fun K "clean" "Recipes.clean" s_Recipes_clean f_Recipes_clean fd_Recipes_clean
  p_Recipes_clean : Addr
  P_Recipes_clean : PropOf K C_Recipes "clean" p_Recipes_clean f_Recipes_clean
  f_Rules_writing : Addr
  fd_Rules_writing : FuncData
  F_Rules_writing : Fun K "writing" "Rules.writing" s_Rules_writing f_Rules_writing fd_Rules_writing
  p_Rules_writing : Addr
  P_Rules_writing : PropOf K C_Rules "writing" p_Rules_writing f_Rules_writing
  f_Rules_bound : Addr
  fd_Rules_bound : FuncData
  F_Rules_bound : Fun K "bound" "Rules.bound" s_Rules_bound f_Rules_bound fd_Rules_bound
  p_Rules_bound : Addr
  P_Rules_bound : PropOf K C_Rules "bound" p_Rules_bound f_Rules_bound
  f_Disk_sync : Addr
  fd_Disk_sync : FuncData
  F_Disk_sync : Fun K "sync" "Disk.sync" s_Disk_sync f_Disk_sync fd_Disk_sync
  m_Disk_sync : Meth K C_Disk "sync" f_Disk_sync
  f__invalid_place : Addr
  fd__invalid_place : FuncData
  F__invalid_place : Fun K "_invalid_place" "_invalid_place" s__invalid_place f__invalid_place fd__invalid_place
  g__invalid_place : mg "_invalid_place" = some (.ref f__invalid_place)
  f_Pair___init__ : Addr
  fd_Pair___init__ : FuncData
  F_Pair___init__ : FunD K "__init__" "Pair.__init__" (defArgs s_Pair___init__) (defBody s_Pair___init__) (defScope s_Pair___init__) [] [("recipes", .non)] f_Pair___init__ fd_Pair___init__
  M_Pair___init__ : Mk K C_Pair f_Pair___init__
  f_Pair_read : Addr
  fd_Pair_read : FuncData
  F_Pair_read : Fun K "read" "Pair.read" s_Pair_read f_Pair_read fd_Pair_read
  m_Pair_read : Meth K C_Pair "read" f_Pair_read
  f_Pair_known : Addr
  fd_Pair_known : FuncData
  F_Pair_known : Fun K "known" "Pair.known" s_Pair_known f_Pair_known fd_Pair_known
  p_Pair_known : Addr
  P_Pair_known : PropOf K C_Pair "known" p_Pair_known f_Pair_known
  f_Pair_hits : Addr
  fd_Pair_hits : FuncData
  F_Pair_hits : Fun K "hits" "Pair.hits" s_Pair_hits f_Pair_hits fd_Pair_hits
  p_Pair_hits : Addr
  P_Pair_hits : PropOf K C_Pair "hits" p_Pair_hits f_Pair_hits
  f_Pair_counts : Addr
  fd_Pair_counts : FuncData
  F_Pair_counts : Fun K "counts" "Pair.counts" s_Pair_counts f_Pair_counts fd_Pair_counts
  p_Pair_counts : Addr
  P_Pair_counts : PropOf K C_Pair "counts" p_Pair_counts f_Pair_counts
  f_Pair__check_on : Addr
  fd_Pair__check_on : FuncData
  F_Pair__check_on : Fun K "_check_on" "Pair._check_on" s_Pair__check_on f_Pair__check_on fd_Pair__check_on
  m_Pair__check_on : Meth K C_Pair "_check_on" f_Pair__check_on
  f_Pair__check_block : Addr
  fd_Pair__check_block : FuncData
  F_Pair__check_block : Fun K "_check_block" "Pair._check_block" s_Pair__check_block f_Pair__check_block fd_Pair__check_block
  m_Pair__check_block : Meth K C_Pair "_check_block" f_Pair__check_block
  f_Pair__begin_request : Addr
  fd_Pair__begin_request : FuncData
  F_Pair__begin_request : Fun K "_begin_request" "Pair._begin_request" s_Pair__begin_request f_Pair__begin_request fd_Pair__begin_request
  m_Pair__begin_request : Meth K C_Pair "_begin_request" f_Pair__begin_request
  f_Pair__take_slot : Addr
  fd_Pair__take_slot : FuncData
  F_Pair__take_slot : Fun K "_take_slot" "Pair._take_slot" s_Pair__take_slot f_Pair__take_slot fd_Pair__take_slot
  m_Pair__take_slot : Meth K C_Pair "_take_slot" f_Pair__take_slot
  f_Pair__begin_step : Addr
  fd_Pair__begin_step : FuncData
  F_Pair__begin_step : Fun K "_begin_step" "Pair._begin_step" s_Pair__begin_step f_Pair__begin_step fd_Pair__begin_step
  m_Pair__begin_step : Meth K C_Pair "_begin_step" f_Pair__begin_step
  f_Pair__write_fast : Addr
  fd_Pair__write_fast : FuncData
  F_Pair__write_fast : Fun K "_write_fast" "Pair._write_fast" s_Pair__write_fast f_Pair__write_fast fd_Pair__write_fast
  m_Pair__write_fast : Meth K C_Pair "_write_fast" f_Pair__write_fast
  f_Pair__write_record : Addr
  fd_Pair__write_record : FuncData
  F_Pair__write_record : Fun K "_write_record" "Pair._write_record" s_Pair__write_record f_Pair__write_record fd_Pair__write_record
  m_Pair__write_record : Meth K C_Pair "_write_record" f_Pair__write_record
  f_Pair__put_in_fast : Addr
  fd_Pair__put_in_fast : FuncData
  F_Pair__put_in_fast : Fun K "_put_in_fast" "Pair._put_in_fast" s_Pair__put_in_fast f_Pair__put_in_fast fd_Pair__put_in_fast
  m_Pair__put_in_fast : Meth K C_Pair "_put_in_fast" f_Pair__put_in_fast
  f__law_random : Addr
  fd__law_random : FuncData
  F__law_random : Fun K "_law_random" "_law_random" s__law_random f__law_random fd__law_random
  g__law_random : mg "_law_random" = some (.ref f__law_random)
  f__law_below : Addr
  fd__law_below : FuncData
  F__law_below : Fun K "_law_below" "_law_below" s__law_below f__law_below fd__law_below
  g__law_below : mg "_law_below" = some (.ref f__law_below)
  z_isinstance : mg "isinstance" = none
  z_int : mg "int" = none
  z_bool : mg "bool" = none
  z_str : mg "str" = none
  z_list : mg "list" = none
  z_tuple : mg "tuple" = none
  z_len : mg "len" = none
  z_abs : mg "abs" = none
  z_range : mg "range" = none
  z_enumerate : mg "enumerate" = none
  z_max : mg "max" = none
  z_min : mg "min" = none
  z_sorted : mg "sorted" = none
  z_zip : mg "zip" = none
  z_sum : mg "sum" = none
  z_all : mg "all" = none
  t_MOST_BLOCKS : Tok
  c_MOST_BLOCKS : mg "MOST_BLOCKS" = some (.int (16) t_MOST_BLOCKS)
  t_MOST_SLOTS : Tok
  c_MOST_SLOTS : mg "MOST_SLOTS" = some (.int (8) t_MOST_SLOTS)
  t_MOST_VALUE : Tok
  c_MOST_VALUE : mg "MOST_VALUE" = some (.int (999) t_MOST_VALUE)
  t_MOST_CELLS : Tok
  c_MOST_CELLS : mg "MOST_CELLS" = some (.int (64) t_MOST_CELLS)
  t_BLOCK : Tok
  c_BLOCK : mg "BLOCK" = some (.int (0) t_BLOCK)
  t_VALUE : Tok
  c_VALUE : mg "VALUE" = some (.int (1) t_VALUE)
  t_TURN : Tok
  c_TURN : mg "TURN" = some (.int (2) t_TURN)
  t_IS_DIRTY : Tok
  c_IS_DIRTY : mg "IS_DIRTY" = some (.int (3) t_IS_DIRTY)
  t_MOST_USES : Tok
  c_MOST_USES : mg "MOST_USES" = some (.int (9) t_MOST_USES)
  t_BOUND_PART : Tok
  c_BOUND_PART : mg "BOUND_PART" = some (.int (3) t_BOUND_PART)
  t_MOST_BOUND : Tok
  c_MOST_BOUND : mg "MOST_BOUND" = some (.int (8) t_MOST_BOUND)
  t_MOST_STEPS : Tok
  c_MOST_STEPS : mg "MOST_STEPS" = some (.int (8) t_MOST_STEPS)
  A_RULE_WORDS_0 : Addr
  k_RULE_WORDS_0 : TupK K A_RULE_WORDS_0 [.str "through", .str "back", .str "around"]
  A_RULE_WORDS_1 : Addr
  k_RULE_WORDS_1 : TupK K A_RULE_WORDS_1 [.str "keep", .str "pass"]
  A_RULE_WORDS_2 : Addr
  k_RULE_WORDS_2 : TupK K A_RULE_WORDS_2 [.str "used", .str "came", .str "rare"]
  A_RULE_WORDS : Addr
  g_RULE_WORDS : mg "RULE_WORDS" = some (.ref A_RULE_WORDS)
  k_RULE_WORDS : TupK K A_RULE_WORDS [.ref A_RULE_WORDS_0, .ref A_RULE_WORDS_1, .ref A_RULE_WORDS_2]
  A_WRITE_STEPS : Addr
  g_WRITE_STEPS : mg "WRITE_STEPS" = some (.ref A_WRITE_STEPS)
  k_WRITE_STEPS : TupK K A_WRITE_STEPS [.str "slow", .str "sync slow", .str "fast", .str "sync fast", .str "free", .str "done"]
  A_CLEAN_STEPS : Addr
  g_CLEAN_STEPS : mg "CLEAN_STEPS" = some (.ref A_CLEAN_STEPS)
  k_CLEAN_STEPS : TupK K A_CLEAN_STEPS [.str "slow", .str "sync slow", .str "mark", .str "sync fast"]
  A_SYNC_STEPS : Addr
  g_SYNC_STEPS : mg "SYNC_STEPS" = some (.ref A_SYNC_STEPS)
  k_SYNC_STEPS : TupK K A_SYNC_STEPS [.str "sync slow", .str "sync fast"]
  A_NO_COUNTS : Addr
  g_NO_COUNTS : mg "NO_COUNTS" = some (.ref A_NO_COUNTS)
  k_NO_COUNTS : TupK K A_NO_COUNTS [.int 0, .int 0, .int 0]
section
variable {K : PySem.W.Frag} {mg : Str → Option Value}
theorem b_is_number (T : Gx K mg) : Binds K T.fd_is_number ["thing"] [] := T.F_is_number.binds (ps := ["thing"]) fun _ _ _ _ _ _ us hl => match us, hl with | [_], _ => rfl
theorem b_is_number_from (T : Gx K mg) : Binds K T.fd_is_number_from ["thing", "least", "most"] [] := T.F_is_number_from.binds (ps := ["thing", "least", "most"]) fun _ _ _ _ _ _ us hl => match us, hl with | [_, _, _], _ => rfl
theorem b_Disk_read (T : Gx K mg) : Binds K T.fd_Disk_read ["self", "cell"] [] := T.F_Disk_read.binds (ps := ["self", "cell"]) fun _ _ _ _ _ _ us hl => match us, hl with | [_, _], _ => rfl
theorem b_Disk_write (T : Gx K mg) : Binds K T.fd_Disk_write ["self", "cell", "content"] [] := T.F_Disk_write.binds (ps := ["self", "cell", "content"]) fun _ _ _ _ _ _ us hl => match us, hl with | [_, _, _], _ => rfl
theorem b_Disk_counts (T : Gx K mg) : Binds K T.fd_Disk_counts ["self"] [] := T.F_Disk_counts.binds (ps := ["self"]) fun _ _ _ _ _ _ us hl => match us, hl with | [_], _ => rfl
theorem b_Disk__check_cell (T : Gx K mg) : Binds K T.fd_Disk__check_cell ["self", "cell"] [] := T.F_Disk__check_cell.binds (ps := ["self", "cell"]) fun _ _ _ _ _ _ us hl => match us, hl with | [_, _], _ => rfl
theorem b_KnownSlot___init__ (T : Gx K mg) : Binds K T.fd_KnownSlot___init__ ["self", "record", "request"] [] := T.F_KnownSlot___init__.binds (ps := ["self", "record", "request"]) fun _ _ _ _ _ _ us hl => match us, hl with | [_, _, _], _ => rfl
theorem b_Memory___init__ (T : Gx K mg) : Binds K T.fd_Memory___init__ ["self", "slots"] [] := T.F_Memory___init__.binds (ps := ["self", "slots"]) fun _ _ _ _ _ _ us hl => match us, hl with | [_, _], _ => rfl
theorem b_Memory_records (T : Gx K mg) : Binds K T.fd_Memory_records ["self"] [] := T.F_Memory_records.binds (ps := ["self"]) fun _ _ _ _ _ _ us hl => match us, hl with | [_], _ => rfl
theorem b_Memory_slot_of (T : Gx K mg) : Binds K T.fd_Memory_slot_of ["self", "block"] [] := T.F_Memory_slot_of.binds (ps := ["self", "block"]) fun _ _ _ _ _ _ us hl => match us, hl with | [_, _], _ => rfl
theorem b_Memory_record_in (T : Gx K mg) : Binds K T.fd_Memory_record_in ["self", "slot"] [] := T.F_Memory_record_in.binds (ps := ["self", "slot"]) fun _ _ _ _ _ _ us hl => match us, hl with | [_, _], _ => rfl
theorem b_Memory_use (T : Gx K mg) : Binds K T.fd_Memory_use ["self", "slot", "request"] [] := T.F_Memory_use.binds (ps := ["self", "slot", "request"]) fun _ _ _ _ _ _ us hl => match us, hl with | [_, _, _], _ => rfl
theorem b_Memory_learn (T : Gx K mg) : Binds K T.fd_Memory_learn ["self", "slot", "record", "request"] [] := T.F_Memory_learn.binds (ps := ["self", "slot", "record", "request"]) fun _ _ _ _ _ _ us hl => match us, hl with | [_, _, _, _], _ => rfl
theorem b_Memory_forget (T : Gx K mg) : Binds K T.fd_Memory_forget ["self", "slot"] [] := T.F_Memory_forget.binds (ps := ["self", "slot"]) fun _ _ _ _ _ _ us hl => match us, hl with | [_, _], _ => rfl
theorem b_Memory_slot_to_take (T : Gx K mg) : Binds K T.fd_Memory_slot_to_take ["self", "choice"] [] := T.F_Memory_slot_to_take.binds (ps := ["self", "choice"]) fun _ _ _ _ _ _ us hl => match us, hl with | [_, _], _ => rfl
theorem b__rank (T : Gx K mg) : Binds K T.fd__rank ["known", "choice"] [] := T.F__rank.binds (ps := ["known", "choice"]) fun _ _ _ _ _ _ us hl => match us, hl with | [_, _], _ => rfl
theorem b_Rules___init__ (T : Gx K mg) : Binds K T.fd_Rules___init__ ["self", "writing", "reading", "choice", "bound"] [] := T.F_Rules___init__.binds (ps := ["self", "writing", "reading", "choice", "bound"]) fun _ _ _ _ _ _ us hl => match us, hl with | [_, _, _, _, _], _ => rfl
theorem b_Rules_reading (T : Gx K mg) : Binds K T.fd_Rules_reading ["self"] [] := T.F_Rules_reading.binds (ps := ["self"]) fun _ _ _ _ _ _ us hl => match us, hl with | [_], _ => rfl
theorem b_Rules_choice (T : Gx K mg) : Binds K T.fd_Rules_choice ["self"] [] := T.F_Rules_choice.binds (ps := ["self"]) fun _ _ _ _ _ _ us hl => match us, hl with | [_], _ => rfl
theorem b_Recipes___init__ (T : Gx K mg) : Binds K T.fd_Recipes___init__ ["self", "through", "back", "around", "clean"] [] := T.F_Recipes___init__.binds (ps := ["self", "through", "back", "around", "clean"]) fun _ _ _ _ _ _ us hl => match us, hl with | [_, _, _, _, _], _ => rfl
theorem b_Recipes_safe (T : Gx K mg) : Binds K T.fd_Recipes_safe ["cls"] [] := T.F_Recipes_safe.binds (ps := ["cls"]) fun _ _ _ _ _ _ us hl => match us, hl with | [_], _ => rfl
theorem b_Recipes_through (T : Gx K mg) : Binds K T.fd_Recipes_through ["self"] [] := T.F_Recipes_through.binds (ps := ["self"]) fun _ _ _ _ _ _ us hl => match us, hl with | [_], _ => rfl
theorem b_Recipes_back (T : Gx K mg) : Binds K T.fd_Recipes_back ["self"] [] := T.F_Recipes_back.binds (ps := ["self"]) fun _ _ _ _ _ _ us hl => match us, hl with | [_], _ => rfl
theorem b_Recipes_around (T : Gx K mg) : Binds K T.fd_Recipes_around ["self"] [] := T.F_Recipes_around.binds (ps := ["self"]) fun _ _ _ _ _ _ us hl => match us, hl with | [_], _ => rfl
theorem b_Recipes_clean (T : Gx K mg) : Binds K T.fd_Recipes_clean ["self"] [] := T.F_Recipes_clean.binds (ps := ["self"]) fun _ _ _ _ _ _ us hl => match us, hl with | [_], _ => rfl
theorem b_Rules_writing (T : Gx K mg) : Binds K T.fd_Rules_writing ["self"] [] := T.F_Rules_writing.binds (ps := ["self"]) fun _ _ _ _ _ _ us hl => match us, hl with | [_], _ => rfl
theorem b_Rules_bound (T : Gx K mg) : Binds K T.fd_Rules_bound ["self"] [] := T.F_Rules_bound.binds (ps := ["self"]) fun _ _ _ _ _ _ us hl => match us, hl with | [_], _ => rfl
theorem b_Disk_sync (T : Gx K mg) : Binds K T.fd_Disk_sync ["self"] [] := T.F_Disk_sync.binds (ps := ["self"]) fun _ _ _ _ _ _ us hl => match us, hl with | [_], _ => rfl
theorem b__invalid_place (T : Gx K mg) : Binds K T.fd__invalid_place ["recipe", "allowed"] [] := T.F__invalid_place.binds (ps := ["recipe", "allowed"]) fun _ _ _ _ _ _ us hl => match us, hl with | [_, _], _ => rfl
theorem b_Pair_read (T : Gx K mg) : Binds K T.fd_Pair_read ["self", "block"] [] := T.F_Pair_read.binds (ps := ["self", "block"]) fun _ _ _ _ _ _ us hl => match us, hl with | [_, _], _ => rfl
theorem b_Pair_known (T : Gx K mg) : Binds K T.fd_Pair_known ["self"] [] := T.F_Pair_known.binds (ps := ["self"]) fun _ _ _ _ _ _ us hl => match us, hl with | [_], _ => rfl
theorem b_Pair_hits (T : Gx K mg) : Binds K T.fd_Pair_hits ["self"] [] := T.F_Pair_hits.binds (ps := ["self"]) fun _ _ _ _ _ _ us hl => match us, hl with | [_], _ => rfl
theorem b_Pair_counts (T : Gx K mg) : Binds K T.fd_Pair_counts ["self"] [] := T.F_Pair_counts.binds (ps := ["self"]) fun _ _ _ _ _ _ us hl => match us, hl with | [_], _ => rfl
theorem b_Pair__check_on (T : Gx K mg) : Binds K T.fd_Pair__check_on ["self"] [] := T.F_Pair__check_on.binds (ps := ["self"]) fun _ _ _ _ _ _ us hl => match us, hl with | [_], _ => rfl
theorem b_Pair__check_block (T : Gx K mg) : Binds K T.fd_Pair__check_block ["self", "block"] [] := T.F_Pair__check_block.binds (ps := ["self", "block"]) fun _ _ _ _ _ _ us hl => match us, hl with | [_, _], _ => rfl
theorem b_Pair__begin_request (T : Gx K mg) : Binds K T.fd_Pair__begin_request ["self", "block"] [] := T.F_Pair__begin_request.binds (ps := ["self", "block"]) fun _ _ _ _ _ _ us hl => match us, hl with | [_, _], _ => rfl
theorem b_Pair__take_slot (T : Gx K mg) : Binds K T.fd_Pair__take_slot ["self"] [] := T.F_Pair__take_slot.binds (ps := ["self"]) fun _ _ _ _ _ _ us hl => match us, hl with | [_], _ => rfl
theorem b_Pair__begin_step (T : Gx K mg) : Binds K T.fd_Pair__begin_step ["self"] [] := T.F_Pair__begin_step.binds (ps := ["self"]) fun _ _ _ _ _ _ us hl => match us, hl with | [_], _ => rfl
theorem b_Pair__write_fast (T : Gx K mg) : Binds K T.fd_Pair__write_fast ["self", "slot", "content"] [] := T.F_Pair__write_fast.binds (ps := ["self", "slot", "content"]) fun _ _ _ _ _ _ us hl => match us, hl with | [_, _, _], _ => rfl
theorem b_Pair__write_record (T : Gx K mg) : Binds K T.fd_Pair__write_record ["self", "slot", "record"] [] := T.F_Pair__write_record.binds (ps := ["self", "slot", "record"]) fun _ _ _ _ _ _ us hl => match us, hl with | [_, _, _], _ => rfl
theorem b_Pair__put_in_fast (T : Gx K mg) : Binds K T.fd_Pair__put_in_fast ["self", "slots"] [] := T.F_Pair__put_in_fast.binds (ps := ["self", "slots"]) fun _ _ _ _ _ _ us hl => match us, hl with | [_, _], _ => rfl
theorem b__law_random (T : Gx K mg) : Binds K T.fd__law_random ["_law_script", "_law_salt"] [] := T.F__law_random.binds (ps := ["_law_script", "_law_salt"]) fun _ _ _ _ _ _ us hl => match us, hl with | [_, _], _ => rfl
theorem b__law_below (T : Gx K mg) : Binds K T.fd__law_below ["_law_d", "_law_limit"] [] := T.F__law_below.binds (ps := ["_law_d", "_law_limit"]) fun _ _ _ _ _ _ us hl => match us, hl with | [_, _], _ => rfl
end
/-! ### heaps and frames -/
/-- outside S all that was tracked is as it was -/
def Fr (S : List Addr) (H H' : Hp) : Prop := ∀ b o, H b = some o → b ∉ S → H' b = some o
theorem Fr.refl (S : List Addr) (H : Hp) : Fr S H H := fun _ _ h _ => h
theorem Fr.trans {S : List Addr} {H H1 H2 : Hp} (a : Fr S H H1) (b : Fr S H1 H2) : Fr S H H2 := fun c o h n => b c o (a c o h n) n
theorem Fr.mono {S T : List Addr} {H H' : Hp} (a : Fr S H H') (h : ∀ b ∈ S, b ∈ T) : Fr T H H' := fun b o e n => a b o e (fun z => n (h b z))
theorem Fr.put {S : List Addr} {H : Hp} {a : Addr} {o : HO} (h : a ∈ S) : Fr S H (upd H a o) := fun b u e n => by
  rw [upd_ne (fun z => n (by rw [z]; exact h))]
  exact e
theorem Fr.new {S : List Addr} {H : Hp} {p : Addr} {o : HO} (h : H p = none) : Fr S H (upd H p o) := fun b u e _ => by
  rw [upd_ne (ne_of_none e h)]
  exact e
theorem Fr.nil_of {S : List Addr} {H H' : Hp} (a : Fr [] H H') : Fr S H H' := a.mono (fun _ h => by cases h)
theorem Fr.at_ {S : List Addr} {H H' : Hp} {b : Addr} {o : HO} (f : Fr S H H') (e : H b = some o) (n : b ∉ S) : H' b = some o := f b o e n
theorem fresh_out {H : Hp} {b : Addr} {o : HO} {p : Addr} (e : H b = some o) (n : H p = none) : b ≠ p := ne_of_none e n
/-- S and T share nothing -/
def Sep (S T : List Addr) : Prop := ∀ b ∈ S, b ∉ T
theorem Sep.symm {S T : List Addr} (h : Sep S T) : Sep T S := fun b hb hs => h b hs hb
/-- what owns S' came of S or is new, and so is apart from what stood in H -/
theorem Sep.grow {H : Hp} {S S' T : List Addr} (h : Sep S T) (g : ∀ b ∈ S', b ∈ S ∨ H b = none) (t : ∀ b ∈ T, ∃ o, H b = some o) : Sep S' T := fun b hb ht => by
  rcases g b hb with z | z
  · exact h b z ht
  · obtain ⟨o, e⟩ := t b ht
    rw [z] at e
    cases e
theorem vlen {α β : Type} {xs : List α} {f : α → β} : (xs.map f).length = xs.length := List.length_map f
theorem sz_le {n : Nat} (h : n ≤ 100000) : n ≤ sizeLine := Nat.le_trans h (by decide)
theorem sz_lt {n : Nat} (h : n < 100000) : n < sizeLine := Nat.lt_of_lt_of_le h (by decide)
theorem ix_at {n : Nat} (j : Nat) (h : j < n) : ixN n (j : Int) = some j := by
  unfold ixN
  rw [if_pos (Int.natCast_nonneg j), if_pos (by omega)]
  rfl
theorem free_upd {H : Hp} {a p : Addr} {o : HO} (h : upd H a o p = none) : H p = none ∧ p ≠ a := by
  by_cases e : p = a
  · rw [e, upd_same] at h
    cases h
  · rw [upd_ne e] at h
    exact ⟨h, e⟩
theorem int_at {ns : List Int} {i : Nat} {x : V} (h : (ns.map V.int)[i]? = some x) : ∃ u, x = V.int u ∧ ns[i]? = some u := by
  rw [List.getElem?_map] at h
  cases e : ns[i]? with
  | none =>
    rw [e] at h
    cases h
  | some u =>
    rw [e] at h
    exact ⟨u, (Option.some.inj h).symm, rfl⟩
theorem lt_of_at {α : Type} {xs : List α} {i : Nat} {x : α} (h : xs[i]? = some x) : i < xs.length := (List.getElem?_eq_some_iff.mp h).1
theorem Fr.seq {K : PySem.W.Frag} {S : List Addr} {H H' : Hp} {a : Addr} {xs : List V} (f : Fr S H H') (n : a ∉ S) (h : SqL K H a xs) : SqL K H' a xs := by
  rcases h with (h | ⟨o, h⟩) | h
  · exact .inl (.inl (f _ _ h n))
  · exact .inl (.inr ⟨o, f _ _ h n⟩)
  · exact .inr h
theorem Fr.tup {K : PySem.W.Frag} {S : List Addr} {H H' : Hp} {a : Addr} {xs : List V} (f : Fr S H H') (n : a ∉ S) (h : SqT K H a xs) : SqT K H' a xs := by
  rcases h with (h | ⟨o, h⟩) | h
  · exact .inl (.inl (f _ _ h n))
  · exact .inl (.inr ⟨o, f _ _ h n⟩)
  · exact .inr h
theorem some_of {H H' : Hp} {S : List Addr} (f : Fr S H H') (hs : ∀ b ∈ S, ∃ o, H' b = some o) {p : Addr} (h : H' p = none) : H p = none := by
  cases e : H p with
  | none => rfl
  | some o =>
    by_cases hp : p ∈ S
    · obtain ⟨o', e'⟩ := hs p hp
      rw [e'] at h
      cases h
    · rw [f p o e hp] at h
      cases h
theorem pe_never {X : Cx} {e : Expr} : PE X e (fun _ _ _ => False) := ⟨fun _ _ _ _ _ _ h => h.elim⟩
theorem iteFb {A B : Prop} {b : Bool} (e : b = false) (h : B) : if b = true then A else B := by
  rw [if_neg (by rw [e]; simp)]
  exact h
theorem iteTb {A B : Prop} {b : Bool} (e : b = true) (h : A) : if b = true then A else B := by
  rw [if_pos e]
  exact h
/-! ### the law's random list -/
def Rnd (H : Hp) (r : Addr) : Prop := ∃ (a b : Int) (ns : List Int), H r = some (.lst (V.int a :: V.int b :: ns.map V.int))
def spBelow : Sp := fun vs H Q _ => ∃ (r : Addr) (lim : Nat), vs = [.ref r, .int (lim : Int)] ∧ Rnd H r ∧ 0 < lim ∧ lim < 1180591620717411303424 ∧ ∀ (z : Nat) (H' : Hp), z < lim → Fr [r] H H' → Rnd H' r → Q (.int (z : Int)) H'
theorem Rnd.put {H : Hp} {r : Addr} (a b : Int) (ns : List Int) : Rnd (upd H r (.lst (V.int a :: V.int b :: ns.map V.int))) r := ⟨a, b, ns, upd_same⟩
theorem Rnd.notup {H : Hp} {r : Addr} (h : Rnd H r) : ∀ b ∈ [r], ∀ xs, H b ≠ some (.tup xs) := by
  obtain ⟨a, b, ns, e⟩ := h
  intro b hb xs
  rw [List.mem_singleton.mp hb, e]
  simp
theorem Rnd.keep {H H' : Hp} {r : Addr} {S : List Addr} (h : Rnd H r) (f : Fr S H H') (n : r ∉ S) : Rnd H' r := by
  obtain ⟨a, b, ns, e⟩ := h
  exact ⟨a, b, ns, f _ _ e n⟩
section
variable {P : Program} {w : World} {K : PySem.W.Frag} {mg : Str → Option Value} {base : Heap}
theorem ok_below (T : Gx K mg) : FnOk P w K mg base CX0 1 T.f__law_below T.fd__law_below ["_law_d", "_law_limit"] spBelow := by
  refine T.F__law_below.ok sc__law_below (fun vs H Q E h => ?_) (fun cdv A outer s H vs Q E hr h => ?_)
  · obtain ⟨r, lim, rfl, _⟩ := h
    rfl
  · obtain ⟨r, lin, rfl, hR, h0', h1', k'⟩ := h
    obtain ⟨lim, hlim⟩ : ∃ lim : Int, lim = (lin : Int) := ⟨_, rfl⟩
    have h0 : 0 < lim := by omega
    have h1 : lim < 1180591620717411303424 := by omega
    have k : ∀ (z : Int) (H' : Hp), 0 ≤ z → z < lim → Fr [r] H H' → Rnd H' r → Q (.int z) H' := fun z H' a b f g => by
      obtain ⟨n, rfl⟩ := Int.eq_ofNat_of_zero_le a
      exact k' n H' (by omega) f g
    rw [← hlim]
    refine ⟨_, C8.pss_cut (ps_if (PW.pt (pw_and (pt_cmpR op_eq (pe_ix ix_list (pv 0) pe_int (fun _ _ => rfl)) pe_int (nomark _))
          (pw_and1 (pt_cmpR op_gt (pe_callB call_len_seq (by rfl) T.z_len PySem.boot_len (pa_cons (pv 0) pa_nil)) pe_int (nomark _)))))
        (pss_one (ps_asg (pe_bm PySem.F.plainAttrs_list PySem.F.slot_list_pop PySem.F.type_list_pop mt_popAt (pv 0) (pa_cons pe_int pa_nil)) (pg_sub (pv 0) pe_int set_list))) pss_nil)
      (pss_cons (ps_if (pt_cmpR op_gt (pe_ix ix_list (pv 0) pe_int (fun _ _ => rfl)) pe_int (nomark _))
        (pss_cons (ps_set (i := 2) sc__law_below.nd rfl (.inl rfl) (pe_op op_mod (pe_callTy call_int1 (by rfl) T.z_int (by decide +kernel) (pa_cons (pe_ix ix_list (pv 0) pe_int (fun _ _ => rfl)) pa_nil)) (pv 1)))
        (pss_cons (ps_asg (pe_op op_fdivW (pe_ix ix_list (pv 0) pe_int (fun _ _ => rfl)) (pv 1)) (pg_sub (pv 0) pe_int set_list))
        (pss_one (ps_ret (pv 2))))) pss_nil)
      (pss_cons (ps_asg (pe_op op_mod (pe_callTy call_int1 (by rfl) T.z_int (by decide +kernel) (pa_cons (pe_op op_add (pe_op op_mul (pe_ix ix_list (pv 0) pe_int (fun _ _ => rfl)) pe_int) pe_int) pa_nil)) pe_int) (pg_sub (pv 0) pe_int set_list))
      (pss_one (ps_ret (pe_op op_mod (pe_callTy call_int1 (by rfl) T.z_int (by decide +kernel) (pa_cons (pe_op op_fdiv (pe_ix ix_list (pv 0) pe_int (fun _ _ => rfl)) pe_int) pa_nil)) (pv 1)))))), ?_⟩
    refine ⟨fun σ H1 => σ = [some (.ref r), some (.int lim), none] ∧ Rnd H1 r ∧ Fr [r] H H1, ?_, ?_⟩
    · obtain ⟨a, b, ns, e⟩ := hR
      have hR0 : Rnd H r := ⟨a, b, ns, e⟩
      refine ⟨_, rfl, r, _, 1, .int b, rfl, rfl, SqL.of e, atI_nat (j := 1) rfl, rfl, _, rfl, ite2 (fun hb => ?_) (fun hb => ?_)⟩
      · refine ⟨_, rfl, r, _, rfl, .inl (SqL.of e), _, _, rfl, rfl, _, rfl, ite2 (fun hl => ?_) (fun hl => ?_)⟩
        · have hl' : (2 : Int) < ((V.int a :: V.int b :: ns.map V.int).length : Int) := of_decide_eq_true hl
          cases ns with
          | nil => exact absurd hl' (by simp)
          | cons c rest =>
            refine ⟨_, rfl, .inl ⟨rfl, _, SqL.of e⟩, r, _, 2, 2, .int c, rfl, rfl, e, by decide, by decide, ?_, rfl, ?_⟩
            · show seqIndex? 2 _ = some 2
              unfold seqIndex?
              rw [List.length_cons, List.length_cons, List.map_cons, List.length_cons]
              simp
              omega
            · refine ⟨_, rfl, r, _, 1, 1, rfl, rfl, upd_same, ?_, rfl, ?_, ?_⟩
              · exact ix_at 1 (by simp [List.length_eraseIdx])
              · rw [upd_upd]
                exact Rnd.put a c rest
              · rw [upd_upd]
                exact Fr.put (List.mem_singleton.mpr rfl)
        · exact ⟨rfl, hR0, Fr.refl _ _⟩
      · exact ⟨rfl, hR0, Fr.refl _ _⟩
    · rintro σ' H1 ⟨rfl, ⟨a, b, ns, e⟩, fr⟩
      refine ⟨_, rfl, r, _, 1, .int b, rfl, rfl, SqL.of e, atI_nat (j := 1) rfl, _, _, rfl, rfl, _, rfl, ite2 (fun hb => ?_) (fun hb => ?_)⟩
      · refine ⟨_, rfl, r, _, 1, .int b, rfl, rfl, SqL.of e, atI_nat (j := 1) rfl, .inl ⟨_, rfl, ?_⟩⟩
        refine ⟨_, rfl, _, _, rfl, rfl, h0, ?_⟩
        refine ⟨_, rfl, r, _, 1, .int b, rfl, rfl, SqL.of e, atI_nat (j := 1) rfl, _, rfl, _, _, rfl, rfl, wide_div (b := 70) h0 (by omega) (by decide) (by decide), ?_⟩
        refine ⟨_, rfl, r, _, 1, 1, rfl, rfl, e, ix_at 1 (by simp), ?_⟩
        refine ⟨_, rfl, k _ _ (Int.emod_nonneg _ (by omega)) (Int.emod_lt_of_pos _ h0) (fr.trans (Fr.put (List.mem_singleton.mpr rfl))) (Rnd.put a _ ns)⟩
      · refine ⟨_, rfl, r, _, 0, .int a, rfl, rfl, SqL.of e, atI_nat (j := 0) rfl, _, _, rfl, rfl, .inr (by decide), _, _, rfl, rfl, .inl ⟨_, rfl, _, _, rfl, rfl, (by show (0 : Int) < 2147483647; decide), ?_⟩⟩
        refine ⟨_, rfl, r, _, 0, 0, rfl, rfl, e, ix_at 0 (by simp), ?_⟩
        refine ⟨_, rfl, r, _, 0, _, rfl, rfl, SqL.of upd_same, atI_nat (j := 0) rfl, _, _, rfl, rfl, ⟨by decide, by decide⟩, .inl ⟨_, rfl, _, rfl, _, _, rfl, rfl, h0, ?_⟩⟩
        exact k _ _ (Int.emod_nonneg _ (by omega)) (Int.emod_lt_of_pos _ h0) (fr.trans (Fr.put (List.mem_singleton.mpr rfl))) (Rnd.put _ b ns)
end
def spRandom (K : PySem.W.Frag) : Sp := fun vs H Q _ => ∃ (a : Addr) (salt : Int) (ns : List Int), vs = [.ref a, .int salt] ∧ SqL K H a (ns.map V.int) ∧ ns.length ≤ 63 ∧ ∀ (r : Addr) (H' : Hp), H r = none → Fr [] H H' → Rnd H' r → Q (.ref r) H'
section
variable {P : Program} {w : World} {K : PySem.W.Frag} {mg : Str → Option Value} {base : Heap}
theorem ok_random (T : Gx K mg) : FnOk P w K mg base CX0 1 T.f__law_random T.fd__law_random ["_law_script", "_law_salt"] (spRandom K) := by
  refine T.F__law_random.ok sc__law_random (fun vs H Q E h => ?_) (fun cdv A outer s H vs Q E hr h => ?_)
  · obtain ⟨a, salt, ns, rfl, _⟩ := h
    rfl
  · obtain ⟨a, salt, ns, rfl, hS, hlen, k⟩ := h
    refine ⟨_, pss_cons (ps_set (i := 2) sc__law_random.nd rfl (.inl rfl) (pv 1))
      (pss_cons (ps_for PassesOwn.never rfl (pi_list (pv 0)) (pg_name (i := 3) sc__law_random.nd rfl (.inl rfl))
        (pss_one (ps_set (i := 2) sc__law_random.nd rfl (.inl rfl) (pe_op op_mod (pe_callTy call_int1 (by rfl) T.z_int (by decide +kernel) (pa_cons (pe_op op_add (pe_op op_mul (pv 2) pe_int) (pe_callB call_abs (by rfl) T.z_abs (by decide +kernel) (pa_cons (pv 3) pa_nil))) pa_nil)) pe_int))))
      (pss_one (ps_ret (pe_op op_cat (pe_lst (pa_cons (pv 2) (pa_cons pe_int pa_nil))) (pe_lc (own := [("_law_cell", 3)]) (g := gName 3) rfl sc__law_random.nd (pi_list (pv 0)) (blkOk_by (N := ["_law_script", "_law_salt", "_law_seed", "_law_cell"]) (sc := defScope s__law_random) (by decide +kernel)) (fun _ _ _ _ _ => pg_name (i := 3) sc__law_random.nd rfl (.inl rfl)) (fun _ _ _ _ _ => pts_one (pt_cmpR op_ge (pv 3) (pe_op op_pow pe_int pe_int) (nomark _))) (fun _ _ _ _ _ => pv 3)))))), ?_⟩
    refine ⟨_, rfl, _, rfl, a, rfl, ⟨_, hS⟩, for_list (K := K) (a := a) (xs := ns.map V.int) (fun i σ H' => H' = H ∧ ∃ (z : Int) (v : Option V), σ = [some (.ref a), some (.int salt), some (.int z), v]) ⟨rfl, salt, none, rfl⟩ (fun i σ H' _ e => by rw [e.1]; exact hS) ?_ ?_⟩
    · rintro i x σ H' hi ⟨rfl, z, v, rfl⟩
      obtain ⟨u, rfl, _⟩ := int_at hi
      exact ⟨_, rfl, _, _, rfl, rfl, .inr (by decide), _, rfl, _, rfl, _, _, rfl, rfl, .inl ⟨_, rfl, _, _, rfl, rfl, (by show (0 : Int) < 2147483647; decide), rfl, _, _, rfl⟩⟩
    · rintro σ H' ⟨rfl, z, v, rfl⟩
      refine ⟨_, rfl, sz_le (by simp), fun l hl => ?_⟩
      have sl : Fr [] H' (upd H' l (.lst [V.int z, V.int 0])) := Fr.new hl
      have hS1 : SqL K (upd H' l (.lst [V.int z, V.int 0])) a (ns.map V.int) := sl.seq (by simp) hS
      refine ⟨_, rfl, a, rfl, ⟨_, hS1⟩, fun D hD => ?_⟩
      have hDl := free_upd hD
      refine lc_list (K := K) (a := a) (xs := ns.map V.int) (fun i H2 => ∃ ms : List Int, ms.length ≤ i ∧ H2 = upd (upd H' l (.lst [V.int z, V.int 0])) D (.lst (ms.map V.int))) ⟨[], Nat.le_refl _, rfl⟩ ?_ ?_ ?_
      · rintro i H2 _ ⟨ms, _, rfl⟩
        exact (Fr.new (S := []) hD).seq (by simp) hS1
      · rintro i x H2 hi ⟨ms, hm, rfl⟩
        obtain ⟨u, rfl, _⟩ := int_at hi
        have li := lt_of_at hi
        rw [List.length_map] at li
        refine ⟨rfl, _, rfl, _, _, rfl, rfl, ⟨by decide, by decide, by decide⟩, _, _, rfl, rfl, _, rfl, ite2 (fun _ => ?_) (fun _ => ?_)⟩
        · refine ⟨_, rfl, _, upd_same, ?_, ms ++ [u], ?_, ?_⟩
          · rw [List.length_map]
            exact sz_lt (by omega)
          · rw [List.length_append, List.length_singleton]
            omega
          · rw [upd_upd, List.map_append]
            rfl
        · exact ⟨ms, by omega, rfl⟩
      · rintro H2 ⟨ms, hm, rfl⟩
        rw [List.length_map] at hm
        refine ⟨l, D, [V.int z, V.int 0], _, rfl, rfl, ?_, upd_same, ?_, fun p hp => ?_⟩
        · rw [upd_ne hDl.2.symm]
          exact upd_same
        · rw [List.length_map]
          exact sz_le (by simp; omega)
        · obtain ⟨hp1, _⟩ := free_upd hp
          obtain ⟨hp2, _⟩ := free_upd hp1
          exact k p _ hp2 ((sl.trans (Fr.new hD)).trans (Fr.new hp)) ⟨z, 0, ms, upd_same⟩
end
/-! ### what counts as a number -/
def spNum (K : PySem.W.Frag) : Sp := fun vs H Q _ => ∃ (v : V) (t : Value) (b1 b2 : Bool), vs = [v] ∧ TyX K H v t ∧ PySem.W.kitOne K t (.type "int") = some b1 ∧ PySem.W.kitOne K t (.type "bool") = some b2 ∧ Q (.bl (b1 && !b2)) H
def spNumFrom (K : PySem.W.Frag) : Sp := fun vs H Q _ => ∃ (v : V) (lo hi : Int), vs = [v, .int lo, .int hi] ∧
  ((∃ i : Int, v = .int i ∧ Q (.bl (decide (lo ≤ i) && decide (i ≤ hi))) H) ∨ ∃ (t : Value) (b1 b2 : Bool), TyX K H v t ∧ PySem.W.kitOne K t (.type "int") = some b1 ∧ PySem.W.kitOne K t (.type "bool") = some b2 ∧ (b1 && !b2) = false ∧ Q (.bl false) H)
section
variable {P : Program} {w : World} {K : PySem.W.Frag} {mg : Str → Option Value} {base : Heap}
theorem ok_num (T : Gx K mg) : FnOk P w K mg base CX0 1 T.f_is_number T.fd_is_number ["thing"] (spNum K) := by
  refine T.F_is_number.ok sc_is_number (fun vs H Q E h => ?_) (fun cdv A outer s H vs Q E hr h => ?_)
  · obtain ⟨v, t, b1, b2, rfl, _⟩ := h
    rfl
  · obtain ⟨v, t, b1, b2, rfl, ty, e1, e2, k⟩ := h
    refine ⟨_, pss_one (ps_ret (pe_and (pe_callB call_isi (by rfl) T.z_isinstance (by decide +kernel) (pa_cons (pv 0) (pa_cons (pe_bltn (v := .ty "int") (by rfl) T.z_int (by decide +kernel) rfl) pa_nil)))
      (pe_one (pe_not (pe_callB call_isi (by rfl) T.z_isinstance (by decide +kernel) (pa_cons (pv 0) (pa_cons (pe_bltn (v := .ty "bool") (by rfl) T.z_bool (by decide +kernel) rfl) pa_nil))))))), ?_⟩
    refine ⟨v, rfl, v, .ty "int", t, _, b1, rfl, ClsV.ty "int", ty, e1, b1, rfl, ?_⟩
    cases b1 with
    | false => exact iteF k
    | true => exact iteT ⟨v, rfl, v, .ty "bool", t, _, b2, rfl, ClsV.ty "bool", ty, e2, b2, rfl, k⟩
theorem ok_numFrom (T : Gx K mg) : FnOk P w K mg base CX0 2 T.f_is_number_from T.fd_is_number_from ["thing", "least", "most"] (spNumFrom K) := by
  have G1 : FnOk P w K mg base CX0 1 T.f_is_number T.fd_is_number ["thing"] (spNum K) := ok_num T
  refine T.F_is_number_from.ok sc_is_number_from (fun vs H Q E h => ?_) (fun cdv A outer s H vs Q E hr h => ?_)
  · obtain ⟨v, lo, hi, rfl, _⟩ := h
    rfl
  · obtain ⟨v, lo, hi, rfl, h⟩ := h
    refine ⟨_, pss_one (ps_ret (pe_and (pe_call G1 hr (by rfl) T.g_is_number T.F_is_number.kp (b_is_number T) .nil pass0 (pa_cons (pv 0) pa_nil)) (pe_one (pe_chain op_le op_le (pv 1) (pv 0) (pv 2))))), ?_⟩
    rcases h with ⟨i, rfl, k⟩ | ⟨t, b1, b2, ty, e1, e2, e3, k⟩
    · refine ⟨_, rfl, .int i, .type "int", true, false, rfl, .base (.int i), kit_ty (by decide +kernel), kit_ty (by decide +kernel), true, rfl, iteT ?_⟩
      refine ⟨_, rfl, _, rfl, _, _, rfl, rfl, _, rfl, ?_⟩
      by_cases hl : lo ≤ i
      · rw [decide_eq_true hl] at k ⊢
        exact iteT ⟨_, rfl, _, _, rfl, rfl, k⟩
      · rw [decide_eq_false hl] at k ⊢
        exact iteF k
    · refine ⟨_, rfl, v, t, b1, b2, rfl, ty, e1, e2, _, rfl, ?_⟩
      rw [e3]
      exact iteF k
end
/-! ### a disk's attributes -/
def dF (a b c d e f : V) : List (Str × V) := [("_contents", a), ("_lasting", b), ("_pending", c), ("_reads", d), ("_writes", e), ("_syncs", f)]
theorem nf01 : ¬ (("_contents" : Str) = "_lasting") := by decide +kernel
theorem bf01 : (("_contents" : Str) == "_lasting") = false := by decide +kernel
theorem nf02 : ¬ (("_contents" : Str) = "_pending") := by decide +kernel
theorem bf02 : (("_contents" : Str) == "_pending") = false := by decide +kernel
theorem nf03 : ¬ (("_contents" : Str) = "_reads") := by decide +kernel
theorem bf03 : (("_contents" : Str) == "_reads") = false := by decide +kernel
theorem nf04 : ¬ (("_contents" : Str) = "_writes") := by decide +kernel
theorem bf04 : (("_contents" : Str) == "_writes") = false := by decide +kernel
theorem nf05 : ¬ (("_contents" : Str) = "_syncs") := by decide +kernel
theorem bf05 : (("_contents" : Str) == "_syncs") = false := by decide +kernel
theorem nf10 : ¬ (("_lasting" : Str) = "_contents") := by decide +kernel
theorem bf10 : (("_lasting" : Str) == "_contents") = false := by decide +kernel
theorem nf12 : ¬ (("_lasting" : Str) = "_pending") := by decide +kernel
theorem bf12 : (("_lasting" : Str) == "_pending") = false := by decide +kernel
theorem nf13 : ¬ (("_lasting" : Str) = "_reads") := by decide +kernel
theorem bf13 : (("_lasting" : Str) == "_reads") = false := by decide +kernel
theorem nf14 : ¬ (("_lasting" : Str) = "_writes") := by decide +kernel
theorem bf14 : (("_lasting" : Str) == "_writes") = false := by decide +kernel
theorem nf15 : ¬ (("_lasting" : Str) = "_syncs") := by decide +kernel
theorem bf15 : (("_lasting" : Str) == "_syncs") = false := by decide +kernel
theorem nf20 : ¬ (("_pending" : Str) = "_contents") := by decide +kernel
theorem bf20 : (("_pending" : Str) == "_contents") = false := by decide +kernel
theorem nf21 : ¬ (("_pending" : Str) = "_lasting") := by decide +kernel
theorem bf21 : (("_pending" : Str) == "_lasting") = false := by decide +kernel
theorem nf23 : ¬ (("_pending" : Str) = "_reads") := by decide +kernel
theorem bf23 : (("_pending" : Str) == "_reads") = false := by decide +kernel
theorem nf24 : ¬ (("_pending" : Str) = "_writes") := by decide +kernel
theorem bf24 : (("_pending" : Str) == "_writes") = false := by decide +kernel
theorem nf25 : ¬ (("_pending" : Str) = "_syncs") := by decide +kernel
theorem bf25 : (("_pending" : Str) == "_syncs") = false := by decide +kernel
theorem nf30 : ¬ (("_reads" : Str) = "_contents") := by decide +kernel
theorem bf30 : (("_reads" : Str) == "_contents") = false := by decide +kernel
theorem nf31 : ¬ (("_reads" : Str) = "_lasting") := by decide +kernel
theorem bf31 : (("_reads" : Str) == "_lasting") = false := by decide +kernel
theorem nf32 : ¬ (("_reads" : Str) = "_pending") := by decide +kernel
theorem bf32 : (("_reads" : Str) == "_pending") = false := by decide +kernel
theorem nf34 : ¬ (("_reads" : Str) = "_writes") := by decide +kernel
theorem bf34 : (("_reads" : Str) == "_writes") = false := by decide +kernel
theorem nf35 : ¬ (("_reads" : Str) = "_syncs") := by decide +kernel
theorem bf35 : (("_reads" : Str) == "_syncs") = false := by decide +kernel
theorem nf40 : ¬ (("_writes" : Str) = "_contents") := by decide +kernel
theorem bf40 : (("_writes" : Str) == "_contents") = false := by decide +kernel
theorem nf41 : ¬ (("_writes" : Str) = "_lasting") := by decide +kernel
theorem bf41 : (("_writes" : Str) == "_lasting") = false := by decide +kernel
theorem nf42 : ¬ (("_writes" : Str) = "_pending") := by decide +kernel
theorem bf42 : (("_writes" : Str) == "_pending") = false := by decide +kernel
theorem nf43 : ¬ (("_writes" : Str) = "_reads") := by decide +kernel
theorem bf43 : (("_writes" : Str) == "_reads") = false := by decide +kernel
theorem nf45 : ¬ (("_writes" : Str) = "_syncs") := by decide +kernel
theorem bf45 : (("_writes" : Str) == "_syncs") = false := by decide +kernel
theorem nf50 : ¬ (("_syncs" : Str) = "_contents") := by decide +kernel
theorem bf50 : (("_syncs" : Str) == "_contents") = false := by decide +kernel
theorem nf51 : ¬ (("_syncs" : Str) = "_lasting") := by decide +kernel
theorem bf51 : (("_syncs" : Str) == "_lasting") = false := by decide +kernel
theorem nf52 : ¬ (("_syncs" : Str) = "_pending") := by decide +kernel
theorem bf52 : (("_syncs" : Str) == "_pending") = false := by decide +kernel
theorem nf53 : ¬ (("_syncs" : Str) = "_reads") := by decide +kernel
theorem bf53 : (("_syncs" : Str) == "_reads") = false := by decide +kernel
theorem nf54 : ¬ (("_syncs" : Str) = "_writes") := by decide +kernel
theorem bf54 : (("_syncs" : Str) == "_writes") = false := by decide +kernel
theorem bf00 : (("_contents" : Str) == "_contents") = true := by decide +kernel
theorem bf11 : (("_lasting" : Str) == "_lasting") = true := by decide +kernel
theorem bf22 : (("_pending" : Str) == "_pending") = true := by decide +kernel
theorem bf33 : (("_reads" : Str) == "_reads") = true := by decide +kernel
theorem bf44 : (("_writes" : Str) == "_writes") = true := by decide +kernel
theorem bf55 : (("_syncs" : Str) == "_syncs") = true := by decide +kernel
theorem dF_get0 {a b c d e f : V} : (dF a b c d e f).lookup ("_contents" : Str) = some a := by
  unfold dF
  simp only [List.lookup, bf00]
theorem dF_put0 {a b c d e f z : V} : putF "_contents" z (dF a b c d e f) = dF z b c d e f := by
  unfold dF
  simp only [putF, if_true, eq_self_iff_true]
theorem dF_get1 {a b c d e f : V} : (dF a b c d e f).lookup ("_lasting" : Str) = some b := by
  unfold dF
  simp only [List.lookup, bf10, bf11]
theorem dF_put1 {a b c d e f z : V} : putF "_lasting" z (dF a b c d e f) = dF a z c d e f := by
  unfold dF
  simp only [putF, if_neg nf01, if_true, eq_self_iff_true]
theorem dF_get2 {a b c d e f : V} : (dF a b c d e f).lookup ("_pending" : Str) = some c := by
  unfold dF
  simp only [List.lookup, bf20, bf21, bf22]
theorem dF_put2 {a b c d e f z : V} : putF "_pending" z (dF a b c d e f) = dF a b z d e f := by
  unfold dF
  simp only [putF, if_neg nf02, if_neg nf12, if_true, eq_self_iff_true]
theorem dF_get3 {a b c d e f : V} : (dF a b c d e f).lookup ("_reads" : Str) = some d := by
  unfold dF
  simp only [List.lookup, bf30, bf31, bf32, bf33]
theorem dF_put3 {a b c d e f z : V} : putF "_reads" z (dF a b c d e f) = dF a b c z e f := by
  unfold dF
  simp only [putF, if_neg nf03, if_neg nf13, if_neg nf23, if_true, eq_self_iff_true]
theorem dF_get4 {a b c d e f : V} : (dF a b c d e f).lookup ("_writes" : Str) = some e := by
  unfold dF
  simp only [List.lookup, bf40, bf41, bf42, bf43, bf44]
theorem dF_put4 {a b c d e f z : V} : putF "_writes" z (dF a b c d e f) = dF a b c d z f := by
  unfold dF
  simp only [putF, if_neg nf04, if_neg nf14, if_neg nf24, if_neg nf34, if_true, eq_self_iff_true]
theorem dF_get5 {a b c d e f : V} : (dF a b c d e f).lookup ("_syncs" : Str) = some f := by
  unfold dF
  simp only [List.lookup, bf50, bf51, bf52, bf53, bf54, bf55]
theorem dF_put5 {a b c d e f z : V} : putF "_syncs" z (dF a b c d e f) = dF a b c d e z := by
  unfold dF
  simp only [putF, if_neg nf05, if_neg nf15, if_neg nf25, if_neg nf35, if_neg nf45, if_true, eq_self_iff_true]
theorem dF_made {a b c d e f : V} : putF "_syncs" f (putF "_writes" e (putF "_reads" d (putF "_pending" c (putF "_lasting" b (putF "_contents" a []))))) = dF a b c d e f := by
  unfold dF
  simp only [putF, if_neg nf01, if_neg nf02, if_neg nf03, if_neg nf04, if_neg nf05, if_neg nf12, if_neg nf13, if_neg nf14, if_neg nf15, if_neg nf23, if_neg nf24, if_neg nf25, if_neg nf34, if_neg nf35, if_neg nf45]
theorem dF_no_write {a b c d e f : V} : (dF a b c d e f).lookup ("write" : Str) = none := by
  unfold dF
  simp only [List.lookup, (show (("write" : Str) == "_contents") = false by decide +kernel), (show (("write" : Str) == "_lasting") = false by decide +kernel), (show (("write" : Str) == "_pending") = false by decide +kernel), (show (("write" : Str) == "_reads") = false by decide +kernel), (show (("write" : Str) == "_writes") = false by decide +kernel), (show (("write" : Str) == "_syncs") = false by decide +kernel)]
theorem dF_no_sync {a b c d e f : V} : (dF a b c d e f).lookup ("sync" : Str) = none := by
  unfold dF
  simp only [List.lookup, (show (("sync" : Str) == "_contents") = false by decide +kernel), (show (("sync" : Str) == "_lasting") = false by decide +kernel), (show (("sync" : Str) == "_pending") = false by decide +kernel), (show (("sync" : Str) == "_reads") = false by decide +kernel), (show (("sync" : Str) == "_writes") = false by decide +kernel), (show (("sync" : Str) == "_syncs") = false by decide +kernel)]
theorem dF_no_fail {a b c d e f : V} : (dF a b c d e f).lookup ("fail" : Str) = none := by
  unfold dF
  simp only [List.lookup, (show (("fail" : Str) == "_contents") = false by decide +kernel), (show (("fail" : Str) == "_lasting") = false by decide +kernel), (show (("fail" : Str) == "_pending") = false by decide +kernel), (show (("fail" : Str) == "_reads") = false by decide +kernel), (show (("fail" : Str) == "_writes") = false by decide +kernel), (show (("fail" : Str) == "_syncs") = false by decide +kernel)]
theorem dF_no__check_cell {a b c d e f : V} : (dF a b c d e f).lookup ("_check_cell" : Str) = none := by
  unfold dF
  simp only [List.lookup, (show (("_check_cell" : Str) == "_contents") = false by decide +kernel), (show (("_check_cell" : Str) == "_lasting") = false by decide +kernel), (show (("_check_cell" : Str) == "_pending") = false by decide +kernel), (show (("_check_cell" : Str) == "_reads") = false by decide +kernel), (show (("_check_cell" : Str) == "_writes") = false by decide +kernel), (show (("_check_cell" : Str) == "_syncs") = false by decide +kernel)]
theorem dF_no_read {a b c d e f : V} : (dF a b c d e f).lookup ("read" : Str) = none := by
  unfold dF
  simp only [List.lookup, (show (("read" : Str) == "_contents") = false by decide +kernel), (show (("read" : Str) == "_lasting") = false by decide +kernel), (show (("read" : Str) == "_pending") = false by decide +kernel), (show (("read" : Str) == "_reads") = false by decide +kernel), (show (("read" : Str) == "_writes") = false by decide +kernel), (show (("read" : Str) == "_syncs") = false by decide +kernel)]
theorem dF_len {a b c d e f : V} : (dF a b c d e f).length < 1000 := by
  unfold dF
  simp
theorem putF_len (f : Str) (v : V) : ∀ fs : List (Str × V), (putF f v fs).length ≤ fs.length + 1
  | [] => Nat.le_refl _
  | (g, x) :: r => by
    show (if g = f then (g, v) :: r else (g, x) :: putF f v r).length ≤ r.length + 1 + 1
    split
    · simp
    · have := putF_len f v r
      simp only [List.length_cons]
      omega
/-! ### disks -/
structure Dk where
  p : Addr
  dx : Addr
  c : Addr
  l : Addr
  d : Addr
def Dk.own (D : Dk) : List Addr := [D.p, D.c, D.l, D.d]
def Pend (H : Hp) (ts : List Addr) (ps : List (Nat × V)) : Prop := ts.length = ps.length ∧ ∀ (i : Nat) (t : Addr) (q : Nat × V), ts[i]? = some t → ps[i]? = some q → H t = some (.tup [.int (q.1 : Int), q.2])
structure DiskAt (C : Addr) (H : Hp) (D : Dk) (cs ls : List V) (ps : List (Nat × V)) (r w s : Int) : Prop where
  ins : H D.p = some (.ins C D.dx (dF (.ref D.c) (.ref D.l) (.ref D.d) (.int r) (.int w) (.int s)))
  cs_ : H D.c = some (.lst cs)
  ls_ : H D.l = some (.lst ls)
  pend : ∃ ts : List Addr, H D.d = some (.lst (ts.map V.ref)) ∧ Pend H ts ps
  cl : D.c ≠ D.l
  cd : D.c ≠ D.d
  ld : D.l ≠ D.d
  len : cs.length = ls.length
  small : cs.length ≤ 64
  ok : ∀ q ∈ ps, q.1 < ls.length
theorem Pend.keep {H H' : Hp} {ts : List Addr} {ps : List (Nat × V)} {S : List Addr} (h : Pend H ts ps) (f : Fr S H H') (n : ∀ b ∈ S, ∀ xs, H b ≠ some (.tup xs)) : Pend H' ts ps :=
  ⟨h.1, fun i t q e1 e2 => f _ _ (h.2 i t q e1 e2) (fun z => n t z _ (h.2 i t q e1 e2))⟩
theorem Pend.snoc {H : Hp} {ts : List Addr} {ps : List (Nat × V)} {t : Addr} {i : Nat} {v : V} (h : Pend H ts ps) (e : H t = some (.tup [.int (i : Int), v])) : Pend H (ts ++ [t]) (ps ++ [(i, v)]) := by
  refine ⟨by rw [List.length_append, List.length_append, h.1]; rfl, fun j u q e1 e2 => ?_⟩
  by_cases hj : j < ts.length
  · rw [List.getElem?_append_left hj] at e1
    rw [List.getElem?_append_left (by rw [← h.1]; exact hj)] at e2
    exact h.2 j u q e1 e2
  · rw [List.getElem?_append_right (by omega)] at e1
    rw [List.getElem?_append_right (by rw [← h.1]; omega)] at e2
    rw [← h.1] at e2
    have hz : j - ts.length = 0 := by
      have := lt_of_at e1
      simp at this
      omega
    rw [hz] at e1 e2
    cases e1
    cases e2
    exact e
section
variable {C : Addr} {H H' : Hp} {D : Dk} {cs ls : List V} {ps : List (Nat × V)} {r w s : Int}
theorem DiskAt.there (h : DiskAt C H D cs ls ps r w s) : ∀ b ∈ D.own, ∃ o, H b = some o := by
  obtain ⟨ts, e, _⟩ := h.pend
  intro b hb
  simp only [Dk.own, List.mem_cons, List.not_mem_nil, or_false] at hb
  rcases hb with rfl | rfl | rfl | rfl
  · exact ⟨_, h.ins⟩
  · exact ⟨_, h.cs_⟩
  · exact ⟨_, h.ls_⟩
  · exact ⟨_, e⟩
theorem DiskAt.notup (h : DiskAt C H D cs ls ps r w s) : ∀ b ∈ D.own, ∀ xs, H b ≠ some (.tup xs) := by
  obtain ⟨ts, e, _⟩ := h.pend
  intro b hb xs
  simp only [Dk.own, List.mem_cons, List.not_mem_nil, or_false] at hb
  rcases hb with rfl | rfl | rfl | rfl
  · rw [h.ins]; simp
  · rw [h.cs_]; simp
  · rw [h.ls_]; simp
  · rw [e]; simp
theorem DiskAt.pc (h : DiskAt C H D cs ls ps r w s) : D.p ≠ D.c := ne_of h.ins h.cs_ (by simp)
theorem DiskAt.pl (h : DiskAt C H D cs ls ps r w s) : D.p ≠ D.l := ne_of h.ins h.ls_ (by simp)
theorem DiskAt.pd (h : DiskAt C H D cs ls ps r w s) : D.p ≠ D.d := by
  obtain ⟨ts, e, _⟩ := h.pend
  exact ne_of h.ins e (by simp)
/-- a disk stays where only what it does not own changes (and no tuple does) -/
theorem DiskAt.keep {S : List Addr} (h : DiskAt C H D cs ls ps r w s) (f : Fr S H H') (n : ∀ b ∈ D.own, b ∉ S) (m : ∀ b ∈ S, ∀ xs, H b ≠ some (.tup xs)) : DiskAt C H' D cs ls ps r w s := by
  obtain ⟨ts, e, pn⟩ := h.pend
  have hp : D.p ∉ S := n _ (by simp [Dk.own])
  have hc : D.c ∉ S := n _ (by simp [Dk.own])
  have hl : D.l ∉ S := n _ (by simp [Dk.own])
  have hd : D.d ∉ S := n _ (by simp [Dk.own])
  exact ⟨f _ _ h.ins hp, f _ _ h.cs_ hc, f _ _ h.ls_ hl, ⟨ts, f _ _ e hd, pn.keep f m⟩, h.cl, h.cd, h.ld, h.len, h.small, h.ok⟩
end
/-! ### the promises -/
def spCheck (C : Addr) : Sp := fun vs H Q _ => ∃ (D : Dk) (cs ls : List V) (ps : List (Nat × V)) (r w s i : Int), vs = [.ref D.p, .int i] ∧ DiskAt C H D cs ls ps r w s ∧ 0 ≤ i ∧ i < cs.length ∧ Q .non H
def spInit (C : Addr) : Sp := fun vs H Q _ => ∃ (p dx : Addr) (n : Nat) (v : V), vs = [.ref p, .int (n : Int), v] ∧ 1 ≤ n ∧ n ≤ 64 ∧ H p = some (.ins C dx []) ∧
  ∀ (D : Dk) (H' : Hp), D.p = p → Fr [p] H H' → DiskAt C H' D (List.replicate n v) (List.replicate n v) [] 0 0 0 → H D.c = none → H D.l = none → H D.d = none → Q .non H'
def spWrite (C : Addr) : Sp := fun vs H Q _ => ∃ (D : Dk) (cs ls : List V) (ps : List (Nat × V)) (r w s : Int) (i : Nat) (v : V), vs = [.ref D.p, .int (i : Int), v] ∧ DiskAt C H D cs ls ps r w s ∧ i < cs.length ∧ ps.length ≤ 1000 ∧
  ∀ H' : Hp, Fr D.own H H' → DiskAt C H' D (cs.set i v) ls (ps ++ [(i, v)]) r (w + 1) s → Q .non H'
def spSync (C : Addr) : Sp := fun vs H Q _ => ∃ (D : Dk) (cs ls : List V) (ps : List (Nat × V)) (r w s : Int), vs = [.ref D.p] ∧ DiskAt C H D cs ls ps r w s ∧
  ∀ (D' : Dk) (H' : Hp), D'.p = D.p → (∀ b ∈ D'.own, b ∈ D.own ∨ H b = none) → Fr D.own H H' → DiskAt C H' D' cs cs [] r w (s + 1) → Q .non H'
section
variable {P : Program} {w : World} {K : PySem.W.Frag} {mg : Str → Option Value} {base : Heap}
theorem ok_check (T : Gx K mg) : FnOk P w K mg base CX0 3 T.f_Disk__check_cell T.fd_Disk__check_cell ["self", "cell"] (spCheck T.C_Disk) := by
  have GN : FnOk P w K mg base CX0 2 T.f_is_number_from T.fd_is_number_from ["thing", "least", "most"] (spNumFrom K) := ok_numFrom T
  refine T.F_Disk__check_cell.ok sc_Disk__check_cell (fun vs H Q E h => ?_) (fun cdv A outer s H vs Q E hr h => ?_)
  · obtain ⟨D, cs, ls, ps, r, w', s', i, rfl, _⟩ := h
    rfl
  · obtain ⟨D, cs, ls, ps, r, w', s', i, rfl, hD, h0, h1, k⟩ := h
    refine ⟨_, pss_one (ps_if (pt_not (pt_val (pe_call GN hr (by rfl) T.g_is_number_from T.F_is_number_from.kp (b_is_number_from T) .nil pass0
      (pa_cons (pv 1) (pa_cons pe_int (pa_cons (pe_op op_sub (pe_callB call_len_seq (by rfl) T.z_len PySem.boot_len (pa_cons (pe_fld (pv 0) rfl) pa_nil)) pe_int) pa_nil)))))) (pss_one ps_never) pss_nil), ?_⟩
    refine ⟨_, rfl, _, rfl, D.p, T.C_Disk, _, _, _, rfl, hD.ins, T.cl_Disk, T.n_Disk__contents, dF_get0, D.c, cs, rfl, .inl (SqL.of hD.cs_), _, _, rfl, rfl, ?_⟩
    refine ⟨.int i, 0, _, rfl, .inl ⟨i, rfl, _, rfl, ?_⟩⟩
    have e : (decide ((0 : Int) ≤ i) && decide (i ≤ (cs.length : Int) - 1)) = true := by
      rw [Bool.and_eq_true, decide_eq_true_eq, decide_eq_true_eq]
      omega
    rw [e]
    exact iteF k
theorem ok_init (T : Gx K mg) : FnOk P w K mg base CX0 3 T.f_Disk___init__ T.fd_Disk___init__ ["self", "cells", "content"] (spInit T.C_Disk) := by
  have GN : FnOk P w K mg base CX0 2 T.f_is_number_from T.fd_is_number_from ["thing", "least", "most"] (spNumFrom K) := ok_numFrom T
  refine T.F_Disk___init__.ok sc_Disk___init__ (fun vs H Q E h => ?_) (fun cdv A outer s H vs Q E hr h => ?_)
  · obtain ⟨p, dx, n, v, rfl, _⟩ := h
    rfl
  · obtain ⟨p, dx, n, v, rfl, h1, h64, hp, k⟩ := h
    refine ⟨_, PSs.nox (pss_cons (ps_if (pt_not (pt_val (pe_call GN hr (by rfl) T.g_is_number_from T.F_is_number_from.kp (b_is_number_from T) .nil pass0
        (pa_cons (pv 1) (pa_cons pe_int (pa_cons (pe_glob (v := .int 64) (by rfl) T.c_MOST_CELLS ⟨_, rfl⟩) pa_nil)))))) (pss_one ps_never) pss_nil)
      (pss_cons (ps_fld (pv 0) (pe_op op_rep (pe_lst (pa_cons (pv 2) pa_nil)) (pv 1)) rfl)
      (pss_cons (ps_fld (pv 0) (pe_op op_rep (pe_lst (pa_cons (pv 2) pa_nil)) (pv 1)) rfl)
      (pss_cons (ps_fld (pv 0) (pe_lst pa_nil) rfl)
      (pss_cons (ps_fld (pv 0) pe_int rfl) (pss_cons (ps_fld (pv 0) pe_int rfl) (pss_one (ps_fld (pv 0) pe_int rfl)))))))), ?_⟩
    refine ⟨_, rfl, .int (n : Int), 1, 64, rfl, .inl ⟨n, rfl, _, rfl, ?_⟩⟩
    have e : (decide ((1 : Int) ≤ (n : Int)) && decide ((n : Int) ≤ 64)) = true := by
      rw [Bool.and_eq_true, decide_eq_true_eq, decide_eq_true_eq]
      omega
    rw [e]
    refine iteF ?_
    have fl : (List.replicate (n : Int).toNat [v]).flatten = List.replicate n v := by
      rw [Int.toNat_natCast]
      simp
    -- self._contents = [content] * cells
    refine ⟨_, rfl, sz_le (by simp), fun q1 hq1 => ⟨_, rfl, q1, n, [v], rfl, rfl, upd_same, by omega, by omega, sz_le (by simp; omega), fun c hc => ?_⟩⟩
    rw [fl]
    have hcq := free_upd hc
    have pq1 : p ≠ q1 := ne_of_none hp hq1
    have pc : p ≠ c := ne_of_none hp hcq.1
    refine ⟨_, rfl, p, T.C_Disk, dx, [], rfl, (by rw [upd_ne pc, upd_ne pq1]; exact hp), T.cl_Disk, T.n_Disk__contents, by simp, ?_⟩
    -- self._lasting = [content] * cells
    refine ⟨_, rfl, sz_le (by simp), fun q2 hq2 => ⟨_, rfl, q2, n, [v], rfl, rfl, upd_same, by omega, by omega, sz_le (by simp; omega), fun l hl => ?_⟩⟩
    rw [fl]
    have hq2' := free_upd hq2
    have hq2'' := free_upd hq2'.1
    have hlq := free_upd hl
    have hlq2 := free_upd hlq.1
    have hlq3 := free_upd hlq2.1
    have pq2 : p ≠ q2 := hq2'.2.symm
    have pl : p ≠ l := hlq2.2.symm
    refine ⟨_, rfl, p, T.C_Disk, dx, _, rfl, (by rw [upd_ne pl, upd_ne pq2]; exact upd_same), T.cl_Disk, T.n_Disk__lasting, Nat.lt_of_le_of_lt (putF_len _ _ _) (by simp), ?_⟩
    -- self._pending = []
    refine ⟨sz_le (by simp), fun d hd => ?_⟩
    have hd1 := free_upd hd
    have hd2 := free_upd hd1.1
    have hd3 := free_upd hd2.1
    have hd4 := free_upd hd3.1
    have hd5 := free_upd hd4.1
    have hd6 := free_upd hd5.1
    refine ⟨_, rfl, p, T.C_Disk, dx, _, rfl, (by rw [upd_ne hd1.2.symm]; exact upd_same), T.cl_Disk, T.n_Disk__pending, Nat.lt_of_le_of_lt (putF_len _ _ _) (Nat.lt_of_le_of_lt (Nat.succ_le_succ (putF_len _ _ _)) (by simp)), ?_⟩
    refine ⟨_, rfl, p, T.C_Disk, dx, _, rfl, upd_same, T.cl_Disk, T.n_Disk__reads, Nat.lt_of_le_of_lt (putF_len _ _ _) (Nat.lt_of_le_of_lt (Nat.succ_le_succ (Nat.le_trans (putF_len _ _ _) (Nat.succ_le_succ (putF_len _ _ _)))) (by simp)), ?_⟩
    refine ⟨_, rfl, p, T.C_Disk, dx, _, rfl, upd_same, T.cl_Disk, T.n_Disk__writes, Nat.lt_of_le_of_lt (putF_len _ _ _) (Nat.lt_of_le_of_lt (Nat.succ_le_succ (Nat.le_trans (putF_len _ _ _) (Nat.succ_le_succ (Nat.le_trans (putF_len _ _ _) (Nat.succ_le_succ (putF_len _ _ _)))))) (by simp)), ?_⟩
    refine ⟨_, rfl, p, T.C_Disk, dx, _, rfl, upd_same, T.cl_Disk, T.n_Disk__syncs, Nat.lt_of_le_of_lt (putF_len _ _ _) (Nat.lt_of_le_of_lt (Nat.succ_le_succ (Nat.le_trans (putF_len _ _ _) (Nat.succ_le_succ (Nat.le_trans (putF_len _ _ _) (Nat.succ_le_succ (Nat.le_trans (putF_len _ _ _) (Nat.succ_le_succ (putF_len _ _ _)))))))) (by simp)), ?_⟩
    rw [dF_made, upd_upd, upd_upd, upd_upd]
    refine k ⟨p, dx, c, l, d⟩ _ rfl ?_ ⟨upd_same, ?_, ?_, ⟨[], ?_, rfl, fun i t q e _ => by simp at e⟩, hlq3.2.symm, hd5.2.symm, hd2.2.symm, rfl, by simp; omega, fun q hq => by cases hq⟩ hcq.1 (free_upd hlq3.1).1 hd6.1
    · exact (((((((Fr.new hq1).trans (Fr.new hc)).trans (Fr.put (by simp))).trans (Fr.new hq2)).trans (Fr.new hl)).trans (Fr.put (by simp))).trans (Fr.new hd)).trans (Fr.put (by simp))
    · show (upd _ p _) c = _
      rw [upd_ne pc.symm, upd_ne hd5.2.symm, upd_ne pc.symm, upd_ne hlq3.2.symm, upd_ne hq2''.2.symm, upd_ne pc.symm]
      exact upd_same
    · show (upd _ p _) l = _
      rw [upd_ne pl.symm, upd_ne hd2.2.symm, upd_ne pl.symm]
      exact upd_same
    · show (upd _ p _) d = _
      rw [upd_ne hd1.2]
      exact upd_same
end
section
variable {P : Program} {w : World} {K : PySem.W.Frag} {mg : Str → Option Value} {base : Heap}
theorem ok_write (T : Gx K mg) : FnOk P w K mg base CX0 4 T.f_Disk_write T.fd_Disk_write ["self", "cell", "content"] (spWrite T.C_Disk) := by
  have GC : FnOk P w K mg base CX0 3 T.f_Disk__check_cell T.fd_Disk__check_cell ["self", "cell"] (spCheck T.C_Disk) := ok_check T
  refine T.F_Disk_write.ok sc_Disk_write (fun vs H Q E h => ?_) (fun cdv A outer s H vs Q E hr h => ?_)
  · obtain ⟨D, cs, ls, ps, r, w', s', i, v, rfl, _⟩ := h
    rfl
  · obtain ⟨D, cs, ls, ps, r, w', s', i, v, rfl, hD, hi, hp, k⟩ := h
    obtain ⟨ts, e, pn⟩ := hD.pend
    have pl := hD.pl
    have pc := hD.pc
    have pd := hD.pd
    refine ⟨_, pss_cons (ps_expr (pe_meth (pv 0) T.cl_Disk T.m_Disk__check_cell GC hr (b_Disk__check_cell T) .nil pass0 (pa_cons (pv 1) pa_nil)))
      (pss_cons (ps_fldaug (pv 0) pe_int in_add)
      (pss_cons (ps_asg (pv 2) (pg_sub (pe_fld (pv 0) rfl) (pv 1) set_list))
      (pss_one (ps_expr (pe_bm PySem.F.plainAttrs_list PySem.F.slot_list_append PySem.F.type_list_append mt_append (pe_fld (pv 0) rfl) (pa_cons (pe_tup (pa_cons (pv 1) (pa_cons (pv 2) pa_nil))) pa_nil)))))), ?_⟩
    refine ⟨_, rfl, D.p, D.dx, _, rfl, hD.ins, dF_no__check_cell, _, rfl, D, cs, ls, ps, r, w', s', i, rfl, hD, by omega, by omega, ?_⟩
    refine ⟨_, rfl, D.p, T.C_Disk, D.dx, _, _, rfl, hD.ins, T.cl_Disk, T.n_Disk__writes, dF_get4, _, _, rfl, rfl, D.dx, _, hD.ins, dF_len, ?_⟩
    rw [dF_put4]
    refine ⟨_, rfl, _, rfl, D.p, T.C_Disk, D.dx, _, _, rfl, upd_same, T.cl_Disk, T.n_Disk__contents, dF_get0, _, rfl, D.c, cs, (i : Int), i, rfl, rfl, (by rw [upd_ne pc.symm]; exact hD.cs_), ix_at i hi, ?_⟩
    refine ⟨_, rfl, D.p, T.C_Disk, D.dx, _, _, rfl, Eq.trans (upd_ne pc) upd_same, T.cl_Disk, T.n_Disk__pending, dF_get2, .inl ⟨rfl, _, SqL.of (xs := ts.map V.ref) ?_⟩, ?_⟩
    · rw [upd_ne hD.cd.symm, upd_ne pd.symm]
      exact e
    · refine ⟨_, rfl, _, rfl, sz_le (by simp), fun t ht => ?_⟩
      have t1 := free_upd ht
      have t2 := free_upd t1.1
      have dt : D.d ≠ t := ne_of_none e t2.1
      have pt : D.p ≠ t := t2.2.symm
      have ct : D.c ≠ t := t1.2.symm
      have lt : D.l ≠ t := ne_of_none hD.ls_ t2.1
      refine ⟨D.d, ts.map V.ref, .ref t, rfl, rfl, ?_, ?_, ?_⟩
      · rw [upd_ne dt, upd_ne hD.cd.symm, upd_ne pd.symm]
        exact e
      · rw [List.length_map, pn.1]
        exact sz_lt (by omega)
      · have f : Fr D.own H (upd (upd (upd (upd H D.p (.ins T.C_Disk D.dx (dF (.ref D.c) (.ref D.l) (.ref D.d) (.int r) (.int (w' + 1)) (.int s')))) D.c (.lst (cs.set i v))) t (.tup [.int (i : Int), v])) D.d (.lst (ts.map V.ref ++ [.ref t]))) :=
          (((Fr.put (by simp [Dk.own])).trans (Fr.put (by simp [Dk.own]))).trans (Fr.new ht)).trans (Fr.put (by simp [Dk.own]))
        refine k _ f ⟨?_, ?_, ?_, ⟨ts ++ [t], ?_, (pn.keep f hD.notup).snoc ?_⟩, hD.cl, hD.cd, hD.ld, by rw [List.length_set]; exact hD.len, by rw [List.length_set]; exact hD.small, fun q hq => ?_⟩
        · rw [upd_ne pd, upd_ne pt, upd_ne pc]
          exact upd_same
        · rw [upd_ne hD.cd, upd_ne ct]
          exact upd_same
        · rw [upd_ne hD.ld, upd_ne lt, upd_ne hD.cl.symm, upd_ne pl.symm]
          exact hD.ls_
        · rw [List.map_append]
          exact upd_same
        · rw [upd_ne dt.symm]
          exact upd_same
        · rcases List.mem_append.mp hq with z | z
          · exact hD.ok q z
          · rw [List.mem_singleton.mp z, ← hD.len]
            exact hi
end
def spRead (C : Addr) : Sp := fun vs H Q _ => ∃ (D : Dk) (cs ls : List V) (ps : List (Nat × V)) (r w s : Int) (i : Nat) (v : V), vs = [.ref D.p, .int (i : Int)] ∧ DiskAt C H D cs ls ps r w s ∧ cs[i]? = some v ∧
  ∀ H' : Hp, Fr D.own H H' → DiskAt C H' D cs ls ps (r + 1) w s → Q v H'
section
variable {P : Program} {w : World} {K : PySem.W.Frag} {mg : Str → Option Value} {base : Heap}
theorem ok_read (T : Gx K mg) : FnOk P w K mg base CX0 4 T.f_Disk_read T.fd_Disk_read ["self", "cell"] (spRead T.C_Disk) := by
  have G_Disk__check_cell : FnOk P w K mg base CX0 3 T.f_Disk__check_cell T.fd_Disk__check_cell ["self", "cell"] (spCheck T.C_Disk) := ok_check T
  refine T.F_Disk_read.ok sc_Disk_read (fun vs H Q E h => ?_) (fun cdv A outer s H vs Q E hr h => ?_)
  · obtain ⟨D, cs, ls, ps, r, w', s', i, v, rfl, _⟩ := h
    rfl
  · obtain ⟨D, cs, ls, ps, r, w', s', i, v, rfl, hD, hi, k⟩ := h
    obtain ⟨ts, e, pn⟩ := hD.pend
    have pl := hD.pl
    have pc := hD.pc
    have pd := hD.pd
    have hlt := lt_of_at hi
    refine ⟨_, (pss_cons (ps_expr (pe_meth (pv 0) T.cl_Disk T.m_Disk__check_cell G_Disk__check_cell (hr.mono (by first | decide | omega)) (b_Disk__check_cell T) .nil pass0 (pa_cons (pv 1) pa_nil)))
      (pss_cons (ps_fldaug (pv 0) pe_int in_add)
      (pss_one (ps_ret (pe_ix ix_list (pe_fld (pv 0) rfl) (pv 1) (fun _ _ => rfl)))))), ?_⟩
    refine ⟨_, rfl, D.p, D.dx, _, rfl, hD.ins, dF_no__check_cell, _, rfl, D, cs, ls, ps, r, w', s', i, rfl, hD, by omega, by omega, ?_⟩
    refine ⟨_, rfl, D.p, T.C_Disk, D.dx, _, _, rfl, hD.ins, T.cl_Disk, T.n_Disk__reads, dF_get3, _, _, rfl, rfl, D.dx, _, hD.ins, dF_len, ?_⟩
    rw [dF_put3]
    have f : Fr D.own H (upd H D.p (.ins T.C_Disk D.dx (dF (.ref D.c) (.ref D.l) (.ref D.d) (.int (r + 1)) (.int w') (.int s')))) := Fr.put (by simp [Dk.own])
    have hD' : DiskAt T.C_Disk (upd H D.p (.ins T.C_Disk D.dx (dF (.ref D.c) (.ref D.l) (.ref D.d) (.int (r + 1)) (.int w') (.int s')))) D cs ls ps (r + 1) w' s' :=
      ⟨upd_same, (upd_ne pc.symm).trans hD.cs_, (upd_ne pl.symm).trans hD.ls_, ⟨ts, (upd_ne pd.symm).trans e, pn.keep f hD.notup⟩, hD.cl, hD.cd, hD.ld, hD.len, hD.small, hD.ok⟩
    exact ⟨_, rfl, D.p, T.C_Disk, D.dx, _, _, rfl, hD'.ins, T.cl_Disk, T.n_Disk__contents, dF_get0, _, rfl, D.c, cs, (i : Int), v, rfl, rfl, SqL.of hD'.cs_, atI_nat hi, k _ f hD'⟩
end
def spCounts (C : Addr) : Sp := fun vs H Q _ => ∃ (D : Dk) (cs ls : List V) (ps : List (Nat × V)) (r w s : Int), vs = [.ref D.p] ∧ DiskAt C H D cs ls ps r w s ∧ ∀ t, H t = none → Q (.ref t) (upd H t (.tup [.int r, .int w, .int s]))
section
variable {P : Program} {w : World} {K : PySem.W.Frag} {mg : Str → Option Value} {base : Heap}
theorem ok_counts (T : Gx K mg) : FnOk P w K mg base CX0 1 T.f_Disk_counts T.fd_Disk_counts ["self"] (spCounts T.C_Disk) := by
  refine T.F_Disk_counts.ok sc_Disk_counts (fun vs H Q E h => ?_) (fun cdv A outer s H vs Q E hr h => ?_)
  · obtain ⟨D, cs, ls, ps, r, w', s', rfl, _⟩ := h
    rfl
  · obtain ⟨D, cs, ls, ps, r, w', s', rfl, hD, k⟩ := h
    refine ⟨_, (pss_one (ps_ret (pe_tup (pa_cons (pe_fld (pv 0) rfl) (pa_cons (pe_fld (pv 0) rfl) (pa_cons (pe_fld (pv 0) rfl) pa_nil)))))), ?_⟩
    exact ⟨_, rfl, D.p, T.C_Disk, _, _, _, rfl, hD.ins, T.cl_Disk, T.n_Disk__reads, dF_get3, _, rfl, D.p, T.C_Disk, _, _, _, rfl, hD.ins, T.cl_Disk, T.n_Disk__writes, dF_get4, _, rfl, D.p, T.C_Disk, _, _, _, rfl, hD.ins, T.cl_Disk, T.n_Disk__syncs, dF_get5, sz_le (by simp), k⟩
end
/-! ### what is new stands apart -/
theorem made_fr {H H' : Hp} {p dx C : Addr} (hp : H p = none) (hdx : H dx = none) (f : Fr [p] (upd (upd H dx (.own p)) p (.ins C dx [])) H') : Fr [] H H' := fun b o e _ => by
  have n1 : b ≠ p := ne_of_none e hp
  have n2 : b ≠ dx := ne_of_none e hdx
  exact f b o (by rw [upd_ne n1, upd_ne n2]; exact e) (by simpa using n1)
/-! ### attributes -/
def mF (a b : V) : List (Str × V) := [("_slots", a), ("_known", b)]
theorem mnf0_1 : ¬ (("_slots" : Str) = "_known") := by decide +kernel
theorem mbf0_1 : (("_slots" : Str) == "_known") = false := by decide +kernel
theorem mnf1_0 : ¬ (("_known" : Str) = "_slots") := by decide +kernel
theorem mbf1_0 : (("_known" : Str) == "_slots") = false := by decide +kernel
theorem mbf0_0 : (("_slots" : Str) == "_slots") = true := by decide +kernel
theorem mbf1_1 : (("_known" : Str) == "_known") = true := by decide +kernel
theorem mF_get0 {a b : V} : (mF a b).lookup ("_slots" : Str) = some a := by
  unfold mF
  simp only [List.lookup, mbf0_0]
theorem mF_put0 {a b z : V} : putF "_slots" z (mF a b) = mF z b := by
  unfold mF
  simp only [putF, if_true, eq_self_iff_true]
theorem mF_get1 {a b : V} : (mF a b).lookup ("_known" : Str) = some b := by
  unfold mF
  simp only [List.lookup, mbf1_0, mbf1_1]
theorem mF_put1 {a b z : V} : putF "_known" z (mF a b) = mF a z := by
  unfold mF
  simp only [putF, if_neg mnf0_1, if_true, eq_self_iff_true]
theorem mF_made {a b : V} : (putF "_known" b (putF "_slots" a [])) = mF a b := by
  unfold mF
  simp only [putF, if_neg mnf0_1]
theorem mF_no_records {a b : V} : (mF a b).lookup ("records" : Str) = none := by
  unfold mF
  simp only [List.lookup, (show (("records" : Str) == "_slots") = false by decide +kernel), (show (("records" : Str) == "_known") = false by decide +kernel)]
theorem mF_no_slot_of {a b : V} : (mF a b).lookup ("slot_of" : Str) = none := by
  unfold mF
  simp only [List.lookup, (show (("slot_of" : Str) == "_slots") = false by decide +kernel), (show (("slot_of" : Str) == "_known") = false by decide +kernel)]
theorem mF_no_record_in {a b : V} : (mF a b).lookup ("record_in" : Str) = none := by
  unfold mF
  simp only [List.lookup, (show (("record_in" : Str) == "_slots") = false by decide +kernel), (show (("record_in" : Str) == "_known") = false by decide +kernel)]
theorem mF_no_use {a b : V} : (mF a b).lookup ("use" : Str) = none := by
  unfold mF
  simp only [List.lookup, (show (("use" : Str) == "_slots") = false by decide +kernel), (show (("use" : Str) == "_known") = false by decide +kernel)]
theorem mF_no_learn {a b : V} : (mF a b).lookup ("learn" : Str) = none := by
  unfold mF
  simp only [List.lookup, (show (("learn" : Str) == "_slots") = false by decide +kernel), (show (("learn" : Str) == "_known") = false by decide +kernel)]
theorem mF_no_learn_clean {a b : V} : (mF a b).lookup ("learn_clean" : Str) = none := by
  unfold mF
  simp only [List.lookup, (show (("learn_clean" : Str) == "_slots") = false by decide +kernel), (show (("learn_clean" : Str) == "_known") = false by decide +kernel)]
theorem mF_no_forget {a b : V} : (mF a b).lookup ("forget" : Str) = none := by
  unfold mF
  simp only [List.lookup, (show (("forget" : Str) == "_slots") = false by decide +kernel), (show (("forget" : Str) == "_known") = false by decide +kernel)]
theorem mF_no_dirty_slots {a b : V} : (mF a b).lookup ("dirty_slots" : Str) = none := by
  unfold mF
  simp only [List.lookup, (show (("dirty_slots" : Str) == "_slots") = false by decide +kernel), (show (("dirty_slots" : Str) == "_known") = false by decide +kernel)]
theorem mF_no_slot_to_take {a b : V} : (mF a b).lookup ("slot_to_take" : Str) = none := by
  unfold mF
  simp only [List.lookup, (show (("slot_to_take" : Str) == "_slots") = false by decide +kernel), (show (("slot_to_take" : Str) == "_known") = false by decide +kernel)]
def kF (a b c d : V) : List (Str × V) := [("record", a), ("came", b), ("used", c), ("uses", d)]
theorem knf0_1 : ¬ (("record" : Str) = "came") := by decide +kernel
theorem kbf0_1 : (("record" : Str) == "came") = false := by decide +kernel
theorem knf0_2 : ¬ (("record" : Str) = "used") := by decide +kernel
theorem kbf0_2 : (("record" : Str) == "used") = false := by decide +kernel
theorem knf0_3 : ¬ (("record" : Str) = "uses") := by decide +kernel
theorem kbf0_3 : (("record" : Str) == "uses") = false := by decide +kernel
theorem knf1_0 : ¬ (("came" : Str) = "record") := by decide +kernel
theorem kbf1_0 : (("came" : Str) == "record") = false := by decide +kernel
theorem knf1_2 : ¬ (("came" : Str) = "used") := by decide +kernel
theorem kbf1_2 : (("came" : Str) == "used") = false := by decide +kernel
theorem knf1_3 : ¬ (("came" : Str) = "uses") := by decide +kernel
theorem kbf1_3 : (("came" : Str) == "uses") = false := by decide +kernel
theorem knf2_0 : ¬ (("used" : Str) = "record") := by decide +kernel
theorem kbf2_0 : (("used" : Str) == "record") = false := by decide +kernel
theorem knf2_1 : ¬ (("used" : Str) = "came") := by decide +kernel
theorem kbf2_1 : (("used" : Str) == "came") = false := by decide +kernel
theorem knf2_3 : ¬ (("used" : Str) = "uses") := by decide +kernel
theorem kbf2_3 : (("used" : Str) == "uses") = false := by decide +kernel
theorem knf3_0 : ¬ (("uses" : Str) = "record") := by decide +kernel
theorem kbf3_0 : (("uses" : Str) == "record") = false := by decide +kernel
theorem knf3_1 : ¬ (("uses" : Str) = "came") := by decide +kernel
theorem kbf3_1 : (("uses" : Str) == "came") = false := by decide +kernel
theorem knf3_2 : ¬ (("uses" : Str) = "used") := by decide +kernel
theorem kbf3_2 : (("uses" : Str) == "used") = false := by decide +kernel
theorem kbf0_0 : (("record" : Str) == "record") = true := by decide +kernel
theorem kbf1_1 : (("came" : Str) == "came") = true := by decide +kernel
theorem kbf2_2 : (("used" : Str) == "used") = true := by decide +kernel
theorem kbf3_3 : (("uses" : Str) == "uses") = true := by decide +kernel
theorem kF_get0 {a b c d : V} : (kF a b c d).lookup ("record" : Str) = some a := by
  unfold kF
  simp only [List.lookup, kbf0_0]
theorem kF_put0 {a b c d z : V} : putF "record" z (kF a b c d) = kF z b c d := by
  unfold kF
  simp only [putF, if_true, eq_self_iff_true]
theorem kF_get1 {a b c d : V} : (kF a b c d).lookup ("came" : Str) = some b := by
  unfold kF
  simp only [List.lookup, kbf1_0, kbf1_1]
theorem kF_put1 {a b c d z : V} : putF "came" z (kF a b c d) = kF a z c d := by
  unfold kF
  simp only [putF, if_neg knf0_1, if_true, eq_self_iff_true]
theorem kF_get2 {a b c d : V} : (kF a b c d).lookup ("used" : Str) = some c := by
  unfold kF
  simp only [List.lookup, kbf2_0, kbf2_1, kbf2_2]
theorem kF_put2 {a b c d z : V} : putF "used" z (kF a b c d) = kF a b z d := by
  unfold kF
  simp only [putF, if_neg knf0_2, if_neg knf1_2, if_true, eq_self_iff_true]
theorem kF_get3 {a b c d : V} : (kF a b c d).lookup ("uses" : Str) = some d := by
  unfold kF
  simp only [List.lookup, kbf3_0, kbf3_1, kbf3_2, kbf3_3]
theorem kF_put3 {a b c d z : V} : putF "uses" z (kF a b c d) = kF a b c z := by
  unfold kF
  simp only [putF, if_neg knf0_3, if_neg knf1_3, if_neg knf2_3, if_true, eq_self_iff_true]
theorem kF_made {a b c d : V} : (putF "uses" d (putF "used" c (putF "came" b (putF "record" a [])))) = kF a b c d := by
  unfold kF
  simp only [putF, if_neg knf0_1, if_neg knf0_2, if_neg knf0_3, if_neg knf1_2, if_neg knf1_3, if_neg knf2_3]
theorem dU {k : Nat} {A : Around} (r : Room k A) : A.units + 1 < cLine := by
  have := r.un
  omega
/-! ### records, known slots, the memory -/
structure Rc where
  blk : Nat
  val : Nat
  turn : Nat
  dirty : Bool
def Rc.vs (r : Rc) : List V := [.int (r.blk : Int), .int (r.val : Int), .int (r.turn : Int), .bl r.dirty]
/-- a known slot: where its object and its record lie, and what they say -/
structure Kn where
  slot : Nat
  rc : Rc
  came : Int
  used : Int
  uses : Int
structure Kp extends Kn where
  ka : Addr
  kx : Addr
  kt : Addr
def Kp.kv (q : Kp) : Key × V := (Sum.inl (q.slot : Int), V.ref q.ka)
def Kp.ob (C : Addr) (q : Kp) : HO := .ins C q.kx (kF (.ref q.kt) (.int q.came) (.int q.used) (.int q.uses))
structure Mm where
  m : Addr
  x : Addr
  d : Addr
def Mm.own (M : Mm) (ks : List Kp) : List Addr := M.m :: M.d :: ks.map Kp.ka
structure MemAt (CM CK : Addr) (H : Hp) (M : Mm) (n : Nat) (ks : List Kp) : Prop where
  ins : H M.m = some (.ins CM M.x (mF (.int (n : Int)) (.ref M.d)))
  dct : H M.d = some (.dK (ks.map Kp.kv))
  one : ∀ q ∈ ks, H q.ka = some (q.ob CK)
  rcd : ∀ q ∈ ks, H q.kt = some (.tup q.rc.vs)
  dis : (ks.map Kp.ka).Nodup
  sl : (ks.map (fun q => q.slot)).Nodup
  lt : ∀ q ∈ ks, q.slot < n
  few : n ≤ 8
theorem mem_len {n : Nat} {l : List Nat} (h : l.Nodup) (b : ∀ x ∈ l, x < n) : l.length ≤ n := by
  induction n generalizing l with
  | zero =>
    cases l with
    | nil => exact Nat.le_refl _
    | cons a r => exact absurd (b a List.mem_cons_self) (by omega)
  | succ n ih =>
    have h1 := ih (l := l.erase n) (h.erase n) (fun x hx => by
      have h2 := (List.Nodup.mem_erase_iff h).mp hx
      have := b x h2.2
      have := h2.1
      omega)
    by_cases hn : n ∈ l
    · have := List.length_erase_of_mem hn
      have : 0 < l.length := List.length_pos_of_mem hn
      omega
    · rw [List.erase_of_not_mem hn] at h1
      omega
section
variable {CM CK : Addr} {H H' : Hp} {M : Mm} {n : Nat} {ks : List Kp}
theorem MemAt.there (h : MemAt CM CK H M n ks) : ∀ b ∈ M.own ks, ∃ o, H b = some o := by
  intro b hb
  simp only [Mm.own, List.mem_cons, List.mem_map] at hb
  rcases hb with rfl | rfl | ⟨q, hq, rfl⟩
  · exact ⟨_, h.ins⟩
  · exact ⟨_, h.dct⟩
  · exact ⟨_, h.one q hq⟩
theorem MemAt.notup (h : MemAt CM CK H M n ks) : ∀ b ∈ M.own ks, ∀ xs, H b ≠ some (.tup xs) := by
  intro b hb xs
  simp only [Mm.own, List.mem_cons, List.mem_map] at hb
  rcases hb with rfl | rfl | ⟨q, hq, rfl⟩
  · rw [h.ins]; simp
  · rw [h.dct]; simp
  · rw [h.one q hq]; simp [Kp.ob]
theorem MemAt.len (h : MemAt CM CK H M n ks) : ks.length ≤ 8 := by
  have := mem_len h.sl (fun x hx => by
    obtain ⟨q, hq, rfl⟩ := List.mem_map.mp hx
    exact h.lt q hq)
  rw [List.length_map] at this
  exact Nat.le_trans this h.few
theorem MemAt.md (h : MemAt CM CK H M n ks) : M.m ≠ M.d := ne_of h.ins h.dct (by simp)
theorem kF_mF {a b c d e f : V} : kF a b c d ≠ mF e f := by
  intro z
  unfold kF mF at z
  simp at z
theorem MemAt.qm (h : MemAt CM CK H M n ks) {q : Kp} (hq : q ∈ ks) : q.ka ≠ M.m := ne_of (h.one q hq) h.ins (by
  unfold Kp.ob
  intro z
  injection z with _ _ z
  exact kF_mF z)
theorem MemAt.qd (h : MemAt CM CK H M n ks) {q : Kp} (hq : q ∈ ks) : q.ka ≠ M.d := ne_of (h.one q hq) h.dct (by simp [Kp.ob])
/-- it stays where only what it does not own changes (and no tuple does) -/
theorem MemAt.keep {S : List Addr} (h : MemAt CM CK H M n ks) (f : Fr S H H') (a : ∀ b ∈ M.own ks, b ∉ S) (m : ∀ b ∈ S, ∀ xs, H b ≠ some (.tup xs)) : MemAt CM CK H' M n ks :=
  ⟨f _ _ h.ins (a _ (by simp [Mm.own])), f _ _ h.dct (a _ (by simp [Mm.own])), fun q hq => f _ _ (h.one q hq) (a _ (by simp only [Mm.own, List.mem_cons, List.mem_map]; exact .inr (.inr ⟨q, hq, rfl⟩))),
    fun q hq => f _ _ (h.rcd q hq) (fun z => m _ z _ (h.rcd q hq)), h.dis, h.sl, h.lt, h.few⟩
theorem MemAt.keep0 (h : MemAt CM CK H M n ks) (f : Fr [] H H') : MemAt CM CK H' M n ks := h.keep f (fun _ _ => by simp) (fun _ hb => by cases hb)
end
/-- what the dict says of a slot -/
def atSlot (ks : List Kp) (s : Nat) : Option Kp := ks.find? fun q => decide (q.slot = s)
theorem valV_kv (ks : List Kp) (s : Nat) : valV (ks.map Kp.kv) (Sum.inl (s : Int)) = (atSlot ks s).map fun q => V.ref q.ka := by
  unfold valV atSlot
  induction ks with
  | nil => rfl
  | cons q ks ih =>
    rw [List.map_cons, List.find?_cons, List.find?_cons]
    by_cases e : q.slot = s
    · have e1 : decide (q.slot = s) = true := decide_eq_true e
      have e2 : decide ((Kp.kv q).1 = Sum.inl (s : Int)) = true := decide_eq_true (by rw [← e]; rfl)
      rw [e1, e2]
      rfl
    · have e1 : decide (q.slot = s) = false := decide_eq_false e
      have e2 : decide ((Kp.kv q).1 = Sum.inl (s : Int)) = false := decide_eq_false (by
        intro z
        have : (q.slot : Int) = (s : Int) := Sum.inl.inj z
        omega)
      rw [e1, e2]
      exact ih
theorem atSlot_mem {ks : List Kp} {s : Nat} {q : Kp} (h : atSlot ks s = some q) : q ∈ ks ∧ q.slot = s :=
  ⟨List.mem_of_find?_eq_some h, of_decide_eq_true (List.find?_some (p := fun (q : Kp) => decide (q.slot = s)) h)⟩
theorem atSlot_none {ks : List Kp} {s : Nat} (h : atSlot ks s = none) : ∀ q ∈ ks, q.slot ≠ s := fun q hq e => by
  have := List.find?_eq_none.mp h q hq
  simp [e] at this
theorem atSlot_of {ks : List Kp} (nd : (ks.map (fun q => q.slot)).Nodup) {q : Kp} (hq : q ∈ ks) : atSlot ks q.slot = some q := by
  cases h : atSlot ks q.slot with
  | none => exact absurd rfl (atSlot_none h q hq)
  | some p =>
    obtain ⟨hp, e⟩ := atSlot_mem h
    have : p = q := by
      induction ks with
      | nil => cases hq
      | cons a r ih =>
        rw [List.map_cons, List.nodup_cons] at nd
        rcases List.mem_cons.mp hp with e1 | e1
        · rcases List.mem_cons.mp hq with e2 | e2
          · rw [e1, e2]
          · exact absurd (List.mem_map.mpr ⟨q, e2, by rw [← e, e1]⟩) nd.1
        · rcases List.mem_cons.mp hq with e2 | e2
          · exact absurd (List.mem_map.mpr ⟨p, e1, by rw [e, e2]⟩) nd.1
          · refine ih nd.2 e2 ?_ e1
            cases h' : atSlot r q.slot with
            | none => exact absurd e (atSlot_none h' p e1)
            | some p' =>
              unfold atSlot at h h'
              rw [List.find?_cons] at h
              have : decide (a.slot = q.slot) = false := decide_eq_false (fun z => nd.1 (List.mem_map.mpr ⟨q, e2, z.symm⟩))
              rw [this] at h
              simp only [] at h
              rw [h] at h'
              exact h'.symm
    rw [this]
def slV : Option Nat → V
  | some s => .int (s : Int)
  | none => .non
/-- the slot in which a block is known -/
def slotOf (ks : List Kp) (b : Nat) : Option Nat := (ks.find? fun q => decide (q.rc.blk = b)).map (fun q => q.slot)
theorem slotOf_at {ks : List Kp} {b i : Nat} (hi : i < ks.length) (nb : ∀ q ∈ ks.take i, q.rc.blk ≠ b) (e : ks[i].rc.blk = b) : slotOf ks b = some ks[i].slot := by
  unfold slotOf
  have : ks.find? (fun q => decide (q.rc.blk = b)) = some ks[i] := by
    rw [List.find?_eq_some_iff_getElem]
    refine ⟨decide_eq_true e, i, hi, rfl, fun j hj => ?_⟩
    have : ks[j] ∈ ks.take i := by
      rw [List.mem_take_iff_getElem]
      exact ⟨j, by omega, rfl⟩
    simpa using nb _ this
  rw [this]
  rfl
theorem slotOf_no {ks : List Kp} {b : Nat} (nb : ∀ q ∈ ks, q.rc.blk ≠ b) : slotOf ks b = none := by
  unfold slotOf
  rw [List.find?_eq_none.mpr (fun q hq => by simpa using nb q hq)]
  rfl
/-- unlocked again -/
theorem Fr.unlock {H H' : Hp} {d : Addr} {od : Obj} {u : HO} (e : H d = some u) (f : Fr [] (upd H d (.frz od u)) H') : H' d = some (.frz od u) ∧ Fr [] H (upd H' d u) := by
  refine ⟨f _ _ upd_same (by simp), fun b o hb _ => ?_⟩
  by_cases z : b = d
  · rw [z] at hb ⊢
    rw [e] at hb
    cases hb
    exact upd_same
  · rw [upd_ne z]
    exact f _ _ ((upd_ne z).trans hb) (by simp)
theorem iteB {A B : Prop} {b : Bool} (h1 : b = true → A) (h2 : b = false → B) : if b = true then A else B := by
  cases b with
  | true => exact iteT (h1 rfl)
  | false => exact iteF (h2 rfl)
def spKInit (C : Addr) : Sp := fun vs H Q _ => ∃ (p dx t : Addr) (r : Int), vs = [.ref p, .ref t, .int r] ∧ H p = some (.ins C dx []) ∧ ∀ H' : Hp, H' = upd H p (.ins C dx (kF (.ref t) (.int r) (.int r) (.int 1))) → Q .non H'
def spMInit (CM CK : Addr) : Sp := fun vs H Q _ => ∃ (p dx : Addr) (n : Nat), vs = [.ref p, .int (n : Int)] ∧ n ≤ 8 ∧ H p = some (.ins CM dx []) ∧ ∀ (d : Addr) (H' : Hp), H d = none → Fr [p] H H' → MemAt CM CK H' ⟨p, dx, d⟩ n [] → Q .non H'
def spSlotOf (CM CK : Addr) : Sp := fun vs H Q _ => ∃ (M : Mm) (n b : Nat) (ks : List Kp), vs = [.ref M.m, .int (b : Int)] ∧ MemAt CM CK H M n ks ∧ ∀ H' : Hp, Fr [] H H' → Q (slV (slotOf ks b)) H'
section
variable {P : Program} {w : World} {K : PySem.W.Frag} {mg : Str → Option Value} {base : Heap}
theorem ok_kInit (T : Gx K mg) : FnOk P w K mg base CX0 1 T.f_KnownSlot___init__ T.fd_KnownSlot___init__ ["self", "record", "request"] (spKInit T.C_KnownSlot) := by
  refine T.F_KnownSlot___init__.ok sc_KnownSlot___init__ (fun vs H Q E h => ?_) (fun cdv A outer s H vs Q E hr h => ?_)
  · obtain ⟨p, dx, t, r, rfl, _⟩ := h
    rfl
  · obtain ⟨p, dx, t, r, rfl, hp, k⟩ := h
    refine ⟨_, (pss_cons (ps_fld (pv 0) (pv 1) rfl)
      (pss_cons (ps_fld (pv 0) (pv 2) rfl)
      (pss_cons (ps_fld (pv 0) (pv 2) rfl)
      (pss_one (ps_fld (pv 0) pe_int rfl))))), ?_⟩
    refine ⟨_, rfl, _, rfl, p, T.C_KnownSlot, dx, _, rfl, hp, T.cl_KnownSlot, T.n_KnownSlot_record, by simp, ?_⟩
    refine ⟨_, rfl, _, rfl, p, T.C_KnownSlot, dx, _, rfl, upd_same, T.cl_KnownSlot, T.n_KnownSlot_came, Nat.lt_of_le_of_lt (putF_len _ _ _) (by simp), ?_⟩
    refine ⟨_, rfl, _, rfl, p, T.C_KnownSlot, dx, _, rfl, upd_same, T.cl_KnownSlot, T.n_KnownSlot_used, Nat.lt_of_le_of_lt (putF_len _ _ _) (Nat.lt_of_le_of_lt (Nat.succ_le_succ (putF_len _ _ _)) (by simp)), ?_⟩
    refine ⟨_, rfl, p, T.C_KnownSlot, dx, _, rfl, upd_same, T.cl_KnownSlot, T.n_KnownSlot_uses, Nat.lt_of_le_of_lt (putF_len _ _ _) (Nat.lt_of_le_of_lt (Nat.succ_le_succ (Nat.le_trans (putF_len _ _ _) (Nat.succ_le_succ (putF_len _ _ _)))) (by simp)), ?_⟩
    rw [kF_made, upd_upd, upd_upd, upd_upd]
    exact k _ rfl
theorem ok_mInit (T : Gx K mg) : FnOk P w K mg base CX0 1 T.f_Memory___init__ T.fd_Memory___init__ ["self", "slots"] (spMInit T.C_Memory T.C_KnownSlot) := by
  refine T.F_Memory___init__.ok sc_Memory___init__ (fun vs H Q E h => ?_) (fun cdv A outer s H vs Q E hr h => ?_)
  · obtain ⟨p, dx, n, rfl, _⟩ := h
    rfl
  · obtain ⟨p, dx, n, rfl, hn, hp, k⟩ := h
    refine ⟨_, (pss_cons (ps_fld (pv 0) (pv 1) rfl)
      (pss_one (ps_fld (pv 0) pe_dnewK rfl))), ?_⟩
    refine ⟨_, rfl, _, rfl, p, T.C_Memory, dx, _, rfl, hp, T.cl_Memory, T.n_Memory__slots, by simp, ?_⟩
    intro d hd
    have hd1 := free_upd hd
    refine ⟨_, rfl, p, T.C_Memory, dx, _, rfl, (upd_ne hd1.2.symm).trans upd_same, T.cl_Memory, T.n_Memory__known, Nat.lt_of_le_of_lt (putF_len _ _ _) (by simp), ?_⟩
    rw [mF_made]
    refine k d _ hd1.1 (((Fr.put (by simp)).trans (Fr.new hd)).trans (Fr.put (by simp))) ⟨upd_same, ?_, fun q hq => (by cases hq), fun q hq => (by cases hq), .nil, .nil, fun q hq => (by cases hq), hn⟩
    exact (upd_ne hd1.2).trans upd_same
theorem ok_slotOf (T : Gx K mg) : FnOk P w K mg base CX0 1 T.f_Memory_slot_of T.fd_Memory_slot_of ["self", "block"] (spSlotOf T.C_Memory T.C_KnownSlot) := by
  refine T.F_Memory_slot_of.ok sc_Memory_slot_of (fun vs H Q E h => ?_) (fun cdv A outer s H vs Q E hr h => ?_)
  · obtain ⟨M, n, b, ks, rfl, _⟩ := h
    rfl
  · obtain ⟨M, n, b, ks, rfl, hM, k⟩ := h
    refine ⟨_, (pss_cons (ps_lock (ps_for PassesOwn.never rfl (pi_items (pe_fld (pv 0) rfl)) (pg_tup (by rfl) (pgs_cons (pg_name (i := 2) sc_Memory_slot_of.nd rfl (.inl rfl)) (pgs_cons (pg_name (i := 3) sc_Memory_slot_of.nd rfl (.inl rfl)) pgs_nil))) (pss_one (ps_if (pt_cmpR op_eq (pe_ix ix_tup (pe_fld (pv 3) rfl) (pe_glob (v := .int (0)) (by rfl) T.c_BLOCK ⟨_, rfl⟩) (fun _ _ => rfl)) (pv 1) (nomark _)) (pss_one (ps_ret (pv 2))) pss_nil))))
      (pss_one (ps_ret pe_non))), ?_⟩
    refine ⟨M.d, _, hM.dct, trivial, fun od => ?_⟩
    have hM1 : ∀ a o, H a = some o → a ≠ M.d → (upd H M.d (.frz od (.dK (ks.map Kp.kv)))) a = some o := fun a o e z => (upd_ne z).trans e
    refine ⟨_, rfl, M.m, T.C_Memory, M.x, _, _, rfl, hM1 _ _ hM.ins hM.md, T.cl_Memory, T.n_Memory__known, mF_get1, M.d, od, _, rfl, upd_same, ?_⟩
    refine for_it (walk_items (d := M.d) (o := od) (kvs := ks.map Kp.kv)) (fun i σ H' => Fr [] (upd H M.d (.frz od (.dK (ks.map Kp.kv)))) H' ∧ (∀ q ∈ ks.take i, q.rc.blk ≠ b) ∧ ∃ v2 v3 : Option V, σ = [some (.ref M.m), some (.int (b : Int)), v2, v3]) ⟨Fr.refl _ _, by simp, none, none, rfl⟩ (fun i σ H' _ g => g.1 _ _ upd_same (by simp)) ?_ ?_
    · rintro i x σ H1 H2 hi ⟨f1, nb, v2, v3, rfl⟩ ⟨U, x1, y1, rfl, hU, rfl, e1, e2⟩
      have hi' : i < ks.length := by simpa using hi
      simp only [List.getElem?_map, List.getElem?_eq_getElem hi', Option.map_some, Option.some.injEq] at e1 e2
      cases e1
      cases e2
      have hq : ks[i] ∈ ks := List.getElem_mem hi'
      have f2 : Fr [] (upd H M.d (.frz od (.dK (ks.map Kp.kv)))) (upd H1 U (.tup [kV (Kp.kv ks[i]).1, (Kp.kv ks[i]).2])) := f1.trans (Fr.new hU)
      refine ⟨U, _, rfl, SqT.of upd_same, rfl, _, _, rfl, _, _, rfl, rfl, ?_⟩
      have h1 := f2 _ _ (hM1 _ _ (hM.one _ hq) (hM.qd hq)) (by simp)
      have h2 := f2 _ _ (hM1 _ _ (hM.rcd _ hq) (ne_of (hM.rcd _ hq) hM.dct (by simp))) (by simp)
      refine ⟨_, rfl, _, T.C_KnownSlot, _, _, _, rfl, h1, T.cl_KnownSlot, T.n_KnownSlot_record, kF_get0, _, _, (0 : Int), _, rfl, rfl, SqT.of h2, rfl, _, rfl, ?_⟩
      refine ⟨rfl, _, rfl, iteB (fun e => ?_) fun e => ?_⟩
      · have e' : ks[i].rc.blk = b := by
          have := of_decide_eq_true e
          injection this with this
          omega
        obtain ⟨g1, g2⟩ := Fr.unlock hM.dct f2
        refine ⟨_, rfl, g1, ?_⟩
        have := k _ g2
        rw [slotOf_at hi' nb e'] at this
        exact this
      · refine ⟨f2, fun q hq => ?_, _, _, rfl⟩
        rw [List.take_succ, List.getElem?_eq_getElem hi'] at hq
        rcases List.mem_append.mp hq with z | z
        · exact nb q z
        · have z' : q = ks[i] := by simpa using z
          rw [z']
          have := of_decide_eq_false e
          exact fun z2 => this (congrArg (fun (u : Nat) => V.int (u : Int)) z2)
    · rintro σ H1 ⟨f1, nb, v2, v3, rfl⟩
      obtain ⟨g1, g2⟩ := Fr.unlock hM.dct f1
      refine ⟨g1, ?_⟩
      have := k _ g2
      rw [slotOf_no (by simpa using nb)] at this
      exact this
end
/-! ### what changes a memory -/
def putN (kn : List Kn) (q : Kn) : List Kn := if (kn.any fun p => decide (p.slot = q.slot)) = true then kn.map (fun p => if p.slot = q.slot then q else p) else kn ++ [q]
def forgetN (s : Nat) (kn : List Kn) : List Kn := kn.filter fun p => decide (p.slot ≠ s)
def useN (s : Nat) (r : Int) (kn : List Kn) : List Kn := kn.map fun p => if p.slot = s then { p with used := r, uses := if 9 < p.uses + 1 then 9 else p.uses + 1 } else p
def atN (kn : List Kn) (s : Nat) : Option Kn := kn.find? fun p => decide (p.slot = s)
def recN (s : Nat) (rc : Rc) (kn : List Kn) : List Kn := kn.map fun p => if p.slot = s then { p with rc := rc } else p
def learnN (s : Nat) (rc : Rc) (r : Int) (kn : List Kn) : List Kn := match atN kn s with
  | some p => if p.rc.blk = rc.blk then recN s rc kn else putN kn ⟨s, rc, r, r, 1⟩
  | none => putN kn ⟨s, rc, r, r, 1⟩
abbrev kns (ks : List Kp) : List Kn := ks.map Kp.toKn
theorem atN_kns (ks : List Kp) (s : Nat) : atN (kns ks) s = (atSlot ks s).map Kp.toKn := by
  unfold atN kns atSlot
  rw [List.find?_map]
  rfl
def setP (ks : List Kp) (q' : Kp) : List Kp := ks.map fun p => if p.slot = q'.slot then q' else p
theorem setP_kns (ks : List Kp) (q' : Kp) : kns (setP ks q') = (kns ks).map fun p => if p.slot = q'.slot then q'.toKn else p := by
  unfold kns setP
  rw [List.map_map, List.map_map]
  refine List.map_congr_left fun p _ => ?_
  show Kp.toKn (if p.slot = q'.slot then q' else p) = if p.slot = q'.slot then q'.toKn else p.toKn
  split <;> rfl
theorem setP_slots (ks : List Kp) (q' : Kp) : (setP ks q').map (fun q => q.slot) = ks.map (fun q => q.slot) := by
  unfold setP
  rw [List.map_map]
  refine List.map_congr_left fun p _ => ?_
  show (if p.slot = q'.slot then q' else p).slot = p.slot
  split
  · rename_i h
    exact h.symm
  · rfl
theorem setP_mem {ks : List Kp} {q' p : Kp} (h : p ∈ setP ks q') : p = q' ∨ (p ∈ ks ∧ p.slot ≠ q'.slot) := by
  obtain ⟨a, ha, e⟩ := List.mem_map.mp h
  by_cases z : a.slot = q'.slot
  · rw [if_pos z] at e
    exact .inl e.symm
  · rw [if_neg z] at e
    exact .inr ⟨e ▸ ha, e ▸ z⟩
theorem slot_inj {ks : List Kp} (nd : (ks.map (fun q => q.slot)).Nodup) {p q : Kp} (hp : p ∈ ks) (hq : q ∈ ks) (e : p.slot = q.slot) : p = q := by
  have h1 := atSlot_of nd hp
  have h2 := atSlot_of nd hq
  rw [e, h2] at h1
  cases h1
  rfl
theorem ka_inj {ks : List Kp} (nd : (ks.map Kp.ka).Nodup) : ∀ {p q : Kp}, p ∈ ks → q ∈ ks → p.ka = q.ka → p = q := by
  induction ks with
  | nil => intro p q hp; cases hp
  | cons a r ih =>
    intro p q hp hq e
    rw [List.map_cons, List.nodup_cons] at nd
    rcases List.mem_cons.mp hp with e1 | e1
    · rcases List.mem_cons.mp hq with e2 | e2
      · rw [e1, e2]
      · exact absurd (List.mem_map.mpr ⟨q, e2, by rw [← e, e1]⟩) nd.1
    · rcases List.mem_cons.mp hq with e2 | e2
      · exact absurd (List.mem_map.mpr ⟨p, e1, by rw [e, e2]⟩) nd.1
      · exact ih nd.2 e1 e2 e
section
variable {CM CK : Addr} {H H' : Hp} {M : Mm} {n : Nat} {ks : List Kp}
theorem MemAt.setq (h : MemAt CM CK H M n ks) {q q' : Kp} (hq : q ∈ ks) (es : q'.slot = q.slot) (ea : q'.ka = q.ka ∨ H q'.ka = none) (f : Fr [q.ka, M.d] H H') (e1 : H' M.d = some (.dK ((setP ks q').map Kp.kv)))
    (e2 : H' q'.ka = some (q'.ob CK)) (e3 : H' q'.kt = some (.tup q'.rc.vs)) : MemAt CM CK H' M n (setP ks q') := by
  have nt : ∀ b ∈ [q.ka, M.d], ∀ xs, H b ≠ some (.tup xs) := by
    intro b hb xs
    simp only [List.mem_cons, List.not_mem_nil, or_false] at hb
    rcases hb with rfl | rfl
    · rw [h.one q hq]; simp [Kp.ob]
    · rw [h.dct]; simp
  have ne : ∀ p ∈ ks, p.slot ≠ q'.slot → p.ka ≠ q.ka := fun p hp z e => z (by rw [ka_inj h.dis hp hq e, es])
  refine ⟨f _ _ h.ins ?_, e1, fun p hp => ?_, fun p hp => ?_, ?_, ?_, fun p hp => ?_, h.few⟩
  · simp only [List.mem_cons, List.not_mem_nil, or_false, not_or]
    exact ⟨(h.qm hq).symm, h.md⟩
  · rcases setP_mem hp with rfl | ⟨hp, z⟩
    · exact e2
    · refine f _ _ (h.one p hp) ?_
      simp only [List.mem_cons, List.not_mem_nil, or_false, not_or]
      exact ⟨ne p hp z, h.qd hp⟩
  · rcases setP_mem hp with rfl | ⟨hp, z⟩
    · exact e3
    · exact f _ _ (h.rcd p hp) (fun y => nt _ y _ (h.rcd p hp))
  · unfold setP List.Nodup
    rw [List.map_map, List.pairwise_map]
    have h1 : ks.Pairwise (fun a b => a.ka ≠ b.ka) := List.pairwise_map.mp h.dis
    have h2 : ks.Pairwise (fun a b => a.slot ≠ b.slot) := List.pairwise_map.mp h.sl
    refine List.Pairwise.imp_of_mem ?_ (h1.and h2)
    intro a b ha hb ⟨z1, z2⟩
    have fr : ∀ p ∈ ks, p.slot ≠ q'.slot → p.ka ≠ q'.ka := fun p hp z => by
      rcases ea with e | e
      · rw [e]; exact ne p hp z
      · exact ne_of_none (h.one p hp) e
    show (if a.slot = q'.slot then q' else a).ka ≠ (if b.slot = q'.slot then q' else b).ka
    by_cases za : a.slot = q'.slot
    · rw [if_pos za, if_neg (fun zb => z2 (za.trans zb.symm))]
      exact (fr b hb (fun zb => z2 (za.trans zb.symm))).symm
    · rw [if_neg za]
      by_cases zb : b.slot = q'.slot
      · rw [if_pos zb]
        exact fr a ha za
      · rw [if_neg zb]
        exact z1
  · rw [setP_slots]
    exact h.sl
  · rcases setP_mem hp with rfl | ⟨hp, z⟩
    · rw [es]
      exact h.lt q hq
    · exact h.lt p hp
theorem MemAt.app (h : MemAt CM CK H M n ks) {q' : Kp} (hs : ∀ q ∈ ks, q.slot ≠ q'.slot) (hn : q'.slot < n) (ea : H q'.ka = none) (f : Fr [M.d] H H') (e1 : H' M.d = some (.dK ((ks ++ [q']).map Kp.kv)))
    (e2 : H' q'.ka = some (q'.ob CK)) (e3 : H' q'.kt = some (.tup q'.rc.vs)) : MemAt CM CK H' M n (ks ++ [q']) := by
  refine ⟨f _ _ h.ins (by simpa using h.md), e1, fun p hp => ?_, fun p hp => ?_, ?_, ?_, fun p hp => ?_, h.few⟩
  · rcases List.mem_append.mp hp with z | z
    · exact f _ _ (h.one p z) (by simpa using h.qd z)
    · rw [List.mem_singleton.mp z]
      exact e2
  · rcases List.mem_append.mp hp with z | z
    · refine f _ _ (h.rcd p z) ?_
      rw [List.mem_singleton]
      exact ne_of (h.rcd p z) h.dct (by simp)
    · rw [List.mem_singleton.mp z]
      exact e3
  · rw [List.map_append, List.nodup_append]
    refine ⟨h.dis, by simp, fun a ha b hb => ?_⟩
    obtain ⟨p, hp, rfl⟩ := List.mem_map.mp ha
    have hb' : b = q'.ka := by simpa using hb
    rw [hb']
    exact ne_of_none (h.one p hp) ea
  · rw [List.map_append, List.nodup_append]
    refine ⟨h.sl, by simp, fun a ha b hb => ?_⟩
    obtain ⟨p, hp, rfl⟩ := List.mem_map.mp ha
    have hb' : b = q'.slot := by simpa using hb
    rw [hb']
    exact hs p hp
  · rcases List.mem_append.mp hp with z | z
    · exact h.lt p z
    · rw [List.mem_singleton.mp z]
      exact hn
theorem MemAt.filt (h : MemAt CM CK H M n ks) {g : Kp → Bool} (f : Fr [M.d] H H') (e1 : H' M.d = some (.dK ((ks.filter g).map Kp.kv))) : MemAt CM CK H' M n (ks.filter g) := by
  have sub : ∀ p ∈ ks.filter g, p ∈ ks := fun p hp => (List.mem_filter.mp hp).1
  refine ⟨f _ _ h.ins (by simpa using h.md), e1, fun p hp => f _ _ (h.one p (sub p hp)) (by simpa using h.qd (sub p hp)), fun p hp => f _ _ (h.rcd p (sub p hp)) ?_, ?_, ?_, fun p hp => h.lt p (sub p hp), h.few⟩
  · rw [List.mem_singleton]
    exact ne_of (h.rcd p (sub p hp)) h.dct (by simp)
  · exact h.dis.sublist (List.Sublist.map _ List.filter_sublist)
  · exact h.sl.sublist (List.Sublist.map _ List.filter_sublist)
end
theorem setP_kv (ks : List Kp) {q q' : Kp} (nd : (ks.map (fun q => q.slot)).Nodup) (hq : q ∈ ks) (es : q'.slot = q.slot) (ea : q'.ka = q.ka) : (setP ks q').map Kp.kv = ks.map Kp.kv := by
  unfold setP
  rw [List.map_map]
  refine List.map_congr_left fun p hp => ?_
  show Kp.kv (if p.slot = q'.slot then q' else p) = Kp.kv p
  by_cases z : p.slot = q'.slot
  · rw [if_pos z, slot_inj nd hp hq (z.trans es)]
    unfold Kp.kv
    rw [es, ea]
  · rw [if_neg z]
theorem any_kv (ks : List Kp) (s : Nat) : ((ks.map Kp.kv).any fun kv => decide (kv.1 = Sum.inl (s : Int))) = ks.any fun q => decide (q.slot = s) := by
  rw [List.any_map]
  refine congrArg (fun f => ks.any f) (funext fun q => ?_)
  refine decide_eq_decide.mpr ⟨fun z => ?_, fun z => ?_⟩
  · have : (q.slot : Int) = (s : Int) := Sum.inl.inj z
    omega
  · rw [← z]
    rfl
theorem putK_kv (ks : List Kp) (q' : Kp) : putK (ks.map Kp.kv) (Sum.inl (q'.slot : Int)) (.ref q'.ka) = (if (ks.any fun p => decide (p.slot = q'.slot)) = true then setP ks q' else ks ++ [q']).map Kp.kv := by
  unfold putK
  rw [any_kv]
  by_cases z : (ks.any fun p => decide (p.slot = q'.slot)) = true
  · rw [if_pos z, if_pos z]
    unfold setP
    rw [List.map_map, List.map_map]
    refine List.map_congr_left fun p _ => ?_
    show (if (Kp.kv p).1 = Sum.inl (q'.slot : Int) then ((Kp.kv p).1, V.ref q'.ka) else Kp.kv p) = Kp.kv (if p.slot = q'.slot then q' else p)
    by_cases e : p.slot = q'.slot
    · rw [if_pos e, if_pos (by rw [← e]; rfl)]
      show ((Sum.inl (p.slot : Int) : Key), V.ref q'.ka) = (Sum.inl (q'.slot : Int), V.ref q'.ka)
      rw [e]
    · rw [if_neg e, if_neg]
      intro z
      have : (p.slot : Int) = (q'.slot : Int) := Sum.inl.inj z
      omega
  · rw [if_neg z, if_neg z, List.map_append]
    rfl
theorem dropK_kv (ks : List Kp) (s : Nat) : dropK (ks.map Kp.kv) (Sum.inl (s : Int)) = (ks.filter fun p => decide (p.slot ≠ s)).map Kp.kv := by
  unfold dropK
  rw [List.filter_map]
  refine congrArg (List.map Kp.kv) (congrArg (fun f => ks.filter f) (funext fun p => ?_))
  show decide ((Kp.kv p).1 ≠ Sum.inl (s : Int)) = decide (p.slot ≠ s)
  refine decide_eq_decide.mpr ⟨fun z e => z (by rw [← e]; rfl), fun z e => z ?_⟩
  have : (p.slot : Int) = (s : Int) := Sum.inl.inj e
  omega
/-! ### the defs that change a memory -/
def Chg (CM CK : Addr) (H : Hp) (M : Mm) (n : Nat) (ks : List Kp) (kn' : List Kn) (Q : VK) : Prop :=
  ∀ (H' : Hp) (ks' : List Kp), Fr (M.own ks) H H' → MemAt CM CK H' M n ks' → kns ks' = kn' → (∀ b ∈ M.own ks', b ∈ M.own ks ∨ H b = none) → Q .non H'
def spUse (CM CK : Addr) : Sp := fun vs H Q _ => ∃ (M : Mm) (n s : Nat) (r : Int) (ks : List Kp), vs = [.ref M.m, .int (s : Int), .int r] ∧ MemAt CM CK H M n ks ∧ (atN (kns ks) s).isSome = true ∧ Chg CM CK H M n ks (useN s r (kns ks)) Q
def spForgetM (CM CK : Addr) : Sp := fun vs H Q _ => ∃ (M : Mm) (n s : Nat) (ks : List Kp), vs = [.ref M.m, .int (s : Int)] ∧ MemAt CM CK H M n ks ∧ Chg CM CK H M n ks (forgetN s (kns ks)) Q
def spLearn (CM CK : Addr) : Sp := fun vs H Q _ => ∃ (M : Mm) (n s : Nat) (t : Addr) (rc : Rc) (r : Int) (ks : List Kp), vs = [.ref M.m, .int (s : Int), .ref t, .int r] ∧ MemAt CM CK H M n ks ∧ s < n ∧ H t = some (.tup rc.vs) ∧ Chg CM CK H M n ks (learnN s rc r (kns ks)) Q
def spRecIn (CM CK : Addr) : Sp := fun vs H Q _ => ∃ (M : Mm) (n s : Nat) (ks : List Kp) (q : Kp), vs = [.ref M.m, .int (s : Int)] ∧ MemAt CM CK H M n ks ∧ atSlot ks s = some q ∧ Q (.ref q.kt) H
theorem own_sub {M : Mm} {ks ks' : List Kp} {H : Hp} (h : ∀ p ∈ ks', p.ka ∈ ks.map Kp.ka ∨ H p.ka = none) : ∀ b ∈ M.own ks', b ∈ M.own ks ∨ H b = none := by
  intro b hb
  unfold Mm.own at hb ⊢
  rcases List.mem_cons.mp hb with rfl | hb
  · exact .inl List.mem_cons_self
  · rcases List.mem_cons.mp hb with rfl | hb
    · exact .inl (List.mem_cons_of_mem _ List.mem_cons_self)
    · obtain ⟨p, hp, rfl⟩ := List.mem_map.mp hb
      rcases h p hp with z | z
      · exact .inl (List.mem_cons_of_mem _ (List.mem_cons_of_mem _ z))
      · exact .inr z
theorem own_d {M : Mm} {ks : List Kp} : M.d ∈ M.own ks := by simp [Mm.own]
theorem own_q {M : Mm} {ks : List Kp} {q : Kp} (h : q ∈ ks) : q.ka ∈ M.own ks := List.mem_cons_of_mem _ (List.mem_cons_of_mem _ (List.mem_map_of_mem h))
theorem setP_own {M : Mm} {ks : List Kp} {H : Hp} {q q' : Kp} (hq : q ∈ ks) (ea : q'.ka = q.ka ∨ H q'.ka = none) : ∀ b ∈ M.own (setP ks q'), b ∈ M.own ks ∨ H b = none :=
  own_sub fun p hp => by
    rcases setP_mem hp with rfl | ⟨z, _⟩
    · rcases ea with e | e
      · exact .inl (by rw [e]; exact List.mem_map_of_mem hq)
      · exact .inr e
    · exact .inl (List.mem_map_of_mem z)
theorem useN_set {ks : List Kp} {q : Kp} (nd : (ks.map (fun q => q.slot)).Nodup) (hq : q ∈ ks) (r : Int) :
    kns (setP ks { q with used := r, uses := if 9 < q.uses + 1 then 9 else q.uses + 1 }) = useN q.slot r (kns ks) := by
  unfold kns setP useN
  rw [List.map_map, List.map_map]
  refine List.map_congr_left fun p hp => ?_
  show Kp.toKn (if p.slot = q.slot then _ else p) = if p.slot = q.slot then _ else p.toKn
  by_cases z : p.slot = q.slot
  · rw [if_pos z, if_pos z, slot_inj nd hp hq z]
  · rw [if_neg z, if_neg z]
theorem recN_set {ks : List Kp} {q : Kp} (nd : (ks.map (fun q => q.slot)).Nodup) (hq : q ∈ ks) (rc : Rc) (t : Addr) : kns (setP ks { q with rc := rc, kt := t }) = recN q.slot rc (kns ks) := by
  unfold kns setP recN
  rw [List.map_map, List.map_map]
  refine List.map_congr_left fun p hp => ?_
  show Kp.toKn (if p.slot = q.slot then _ else p) = if p.slot = q.slot then _ else p.toKn
  by_cases z : p.slot = q.slot
  · rw [if_pos z, if_pos z, slot_inj nd hp hq z]
  · rw [if_neg z, if_neg z]
theorem filt_kns (ks : List Kp) (s : Nat) : kns (ks.filter fun p => decide (p.slot ≠ s)) = forgetN s (kns ks) := by
  unfold kns forgetN
  rw [List.filter_map]
  rfl
theorem forgetN_no {kn : List Kn} {s : Nat} (h : atN kn s = none) : forgetN s kn = kn := by
  unfold forgetN
  rw [List.filter_eq_self]
  intro p hp
  have := List.find?_eq_none.mp h p hp
  simpa using this
section
variable {P : Program} {w : World} {K : PySem.W.Frag} {mg : Str → Option Value} {base : Heap}
theorem ok_use (T : Gx K mg) : FnOk P w K mg base CX0 1 T.f_Memory_use T.fd_Memory_use ["self", "slot", "request"] (spUse T.C_Memory T.C_KnownSlot) := by
  refine T.F_Memory_use.ok sc_Memory_use (fun vs H Q E h => ?_) (fun cdv A outer s H vs Q E hr h => ?_)
  · obtain ⟨M, n, s, r, ks, rfl, _⟩ := h
    rfl
  · obtain ⟨M, n, s, r, ks, rfl, hM, hs, k⟩ := h
    rw [atN_kns, Option.isSome_map] at hs
    obtain ⟨q, eq⟩ := Option.isSome_iff_exists.mp hs
    obtain ⟨hq, es⟩ := atSlot_mem eq
    have hv : valV (ks.map Kp.kv) (Sum.inl (s : Int)) = some (.ref q.ka) := by rw [valV_kv, eq]; rfl
    have g := DGet.k (k := Sum.inl (s : Int)) hM.dct
    rw [hv] at g
    have hqo := hM.one q hq
    refine ⟨_, (pss_cons (ps_set (i := 3) sc_Memory_use.nd rfl (.inl rfl) (pe_dget (dU hr) (pe_fld (pv 0) rfl) (pv 1) (fun _ _ => rfl)))
      (pss_cons (ps_fld (pv 3) (pv 2) rfl)
      (pss_one (ps_fld (pv 3) (pe_callB (call_min2 rfl) (by rfl) T.z_min (by decide +kernel) (pa_cons (pe_op op_add (pe_fld (pv 3) rfl) pe_int) (pa_cons (pe_glob (v := .int (9)) (by rfl) T.c_MOST_USES ⟨_, rfl⟩) pa_nil))) rfl)))), ?_⟩
    refine ⟨_, rfl, M.m, T.C_Memory, M.x, _, _, rfl, hM.ins, T.cl_Memory, T.n_Memory__known, mF_get1, _, rfl, M.d, _, rfl, g, ?_⟩
    refine ⟨_, rfl, _, rfl, q.ka, T.C_KnownSlot, q.kx, _, rfl, hqo, T.cl_KnownSlot, T.n_KnownSlot_used, by simp [kF], ?_⟩
    rw [kF_put2]
    refine ⟨_, rfl, q.ka, T.C_KnownSlot, q.kx, _, _, rfl, upd_same, T.cl_KnownSlot, T.n_KnownSlot_uses, kF_get3, _, _, rfl, rfl, _, _, rfl, ?_⟩
    refine ⟨_, rfl, q.ka, T.C_KnownSlot, q.kx, _, rfl, upd_same, T.cl_KnownSlot, T.n_KnownSlot_uses, by simp [kF], ?_⟩
    rw [kF_put3, upd_upd]
    have f : Fr [q.ka] H (upd H q.ka (.ins T.C_KnownSlot q.kx (kF (.ref q.kt) (.int q.came) (.int r) (.int (if 9 < q.uses + 1 then 9 else q.uses + 1))))) := Fr.put (by simp)
    subst es
    refine k _ (setP ks { q with used := r, uses := if 9 < q.uses + 1 then 9 else q.uses + 1 }) (f.mono (fun b hb => by rw [List.mem_singleton.mp hb]; exact own_q hq)) (hM.setq hq rfl (.inl rfl) (f.mono (by simp)) ?_ upd_same ?_) (useN_set hM.sl hq r) (setP_own hq (.inl rfl))
    · rw [setP_kv ks (q' := { q with used := r, uses := if 9 < q.uses + 1 then 9 else q.uses + 1 }) hM.sl hq rfl rfl]
      exact f _ _ hM.dct (by simpa using (hM.qd hq).symm)
    · exact f _ _ (hM.rcd q hq) (by rw [List.mem_singleton]; exact ne_of (hM.rcd q hq) hqo (by simp [Kp.ob]))
theorem ok_forgetM (T : Gx K mg) : FnOk P w K mg base CX0 1 T.f_Memory_forget T.fd_Memory_forget ["self", "slot"] (spForgetM T.C_Memory T.C_KnownSlot) := by
  refine T.F_Memory_forget.ok sc_Memory_forget (fun vs H Q E h => ?_) (fun cdv A outer s H vs Q E hr h => ?_)
  · obtain ⟨M, n, s, ks, rfl, _⟩ := h
    rfl
  · obtain ⟨M, n, s, ks, rfl, hM, k⟩ := h
    refine ⟨_, (pss_one (ps_if (pt_cmp (pc_din (dU hr) (pv 1) (pe_fld (pv 0) rfl)) (by rfl)) (pss_one (ps_ddel (pe_fld (pv 0) rfl) (pv 1))) pss_nil)), ?_⟩
    refine ⟨_, rfl, _, rfl, M.m, T.C_Memory, M.x, _, _, rfl, hM.ins, T.cl_Memory, T.n_Memory__known, mF_get1, M.d, _, rfl, DGet.k (k := Sum.inl (s : Int)) hM.dct, _, rfl, ?_⟩
    refine iteB (fun e => ?_) fun e => ?_
    · refine ⟨_, rfl, M.m, T.C_Memory, M.x, _, _, rfl, hM.ins, T.cl_Memory, T.n_Memory__known, mF_get1, _, rfl, M.d, _, Sum.inl (s : Int), rfl, hM.dct, rfl, e, ?_⟩
      rw [dropK_kv]
      have f : Fr [M.d] H (upd H M.d (.dK ((ks.filter fun p => decide (p.slot ≠ s)).map Kp.kv))) := Fr.put (by simp)
      exact k _ _ (f.mono (fun b hb => by rw [List.mem_singleton.mp hb]; exact own_d)) (hM.filt f upd_same) (filt_kns ks s) (own_sub fun p hp => .inl (List.mem_map_of_mem (List.mem_filter.mp hp).1))
    · refine k H ks (Fr.refl _ _) hM ?_ (fun b hb => .inl hb)
      rw [forgetN_no]
      rw [atN_kns]
      rw [valV_kv] at e
      cases h : atSlot ks s with
      | none => rfl
      | some q => rw [h] at e; cases e
theorem ok_recIn (T : Gx K mg) : FnOk P w K mg base CX0 1 T.f_Memory_record_in T.fd_Memory_record_in ["self", "slot"] (spRecIn T.C_Memory T.C_KnownSlot) := by
  refine T.F_Memory_record_in.ok sc_Memory_record_in (fun vs H Q E h => ?_) (fun cdv A outer s H vs Q E hr h => ?_)
  · obtain ⟨M, n, s, ks, q, rfl, _⟩ := h
    rfl
  · obtain ⟨M, n, s, ks, q, rfl, hM, eq, k⟩ := h
    obtain ⟨hq, es⟩ := atSlot_mem eq
    have hv : valV (ks.map Kp.kv) (Sum.inl (s : Int)) = some (.ref q.ka) := by rw [valV_kv, eq]; rfl
    have g := DGet.k (k := Sum.inl (s : Int)) hM.dct
    rw [hv] at g
    refine ⟨_, (pss_one (ps_ret (pe_fld (pe_dget (dU hr) (pe_fld (pv 0) rfl) (pv 1) (fun _ _ => rfl)) rfl))), ?_⟩
    exact ⟨_, rfl, M.m, T.C_Memory, M.x, _, _, rfl, hM.ins, T.cl_Memory, T.n_Memory__known, mF_get1, _, rfl, M.d, _, rfl, g, q.ka, T.C_KnownSlot, q.kx, _, _, rfl, hM.one q hq, T.cl_KnownSlot, T.n_KnownSlot_record, kF_get0, k⟩
end
theorem putN_kns (ks : List Kp) (q' : Kp) : kns (if (ks.any fun p => decide (p.slot = q'.slot)) = true then setP ks q' else ks ++ [q']) = putN (kns ks) q'.toKn := by
  unfold putN
  have e : ((kns ks).any fun p => decide (p.slot = q'.toKn.slot)) = (ks.any fun p => decide (p.slot = q'.slot)) := by
    unfold kns
    rw [List.any_map]
    rfl
  rw [e]
  by_cases z : (ks.any fun p => decide (p.slot = q'.slot)) = true
  · rw [if_pos z, if_pos z, setP_kns]
  · rw [if_neg z, if_neg z]
    unfold kns
    rw [List.map_append]
    rfl
section
variable {P : Program} {w : World} {K : PySem.W.Frag} {mg : Str → Option Value} {base : Heap}
theorem ok_learn (T : Gx K mg) : FnOk P w K mg base CX0 3 T.f_Memory_learn T.fd_Memory_learn ["self", "slot", "record", "request"] (spLearn T.C_Memory T.C_KnownSlot) := by
  have G_KnownSlot___init__ : FnOk P w K mg base CX0 1 T.f_KnownSlot___init__ T.fd_KnownSlot___init__ ["self", "record", "request"] (spKInit T.C_KnownSlot) := ok_kInit T
  refine T.F_Memory_learn.ok sc_Memory_learn (fun vs H Q E h => ?_) (fun cdv A outer s H vs Q E hr h => ?_)
  · obtain ⟨M, n, s, t, rc, r, ks, rfl, _⟩ := h
    rfl
  · obtain ⟨M, n, s, t, rc, r, ks, rfl, hM, hn, ht, k⟩ := h
    refine ⟨_, (pss_cons (ps_set (i := 4) sc_Memory_learn.nd rfl (.inl rfl) (pe_dget1 (dU hr) (pe_fld (pv 0) rfl) (pv 1) ⟨rfl, rfl, rfl, rfl⟩))
      (pss_one (ps_if (PW.pt (pw_and (pt_cmpR op_notN (pv 4) pe_non (nomark _)) (pw_and1 (pt_cmpR op_eq (pe_ix ix_tup (pe_fld (pv 4) rfl) (pe_glob (v := .int (0)) (by rfl) T.c_BLOCK ⟨_, rfl⟩) (fun _ _ => rfl)) (pe_ix ix_tup (pv 2) (pe_glob (v := .int (0)) (by rfl) T.c_BLOCK ⟨_, rfl⟩) (fun _ _ => rfl)) (nomark _))))) (pss_one (ps_fld (pv 4) (pv 2) rfl)) (pss_one (ps_asg (pe_make T.M_KnownSlot___init__ G_KnownSlot___init__ (hr.mono (by first | decide | omega)) (by rfl) T.gC_KnownSlot (b_KnownSlot___init__ T) .nil pass0 (pa_cons (pv 2) (pa_cons (pv 3) pa_nil))) (pg_sub (pe_fld (pv 0) rfl) (pv 1) (set_dict (dU hr)))))))), ?_⟩
    refine ⟨_, rfl, M.m, T.C_Memory, M.x, _, _, rfl, hM.ins, T.cl_Memory, T.n_Memory__known, mF_get1, M.d, rfl, .inl ⟨_, .inl hM.dct⟩, _, rfl, _, DGet.k (k := Sum.inl (s : Int)) hM.dct, ?_⟩
    rw [valV_kv]
    -- a new object for the slot
    have fresh : ∀ (Q' : VK), (∀ (H' : Hp) (ks' : List Kp), Fr (M.own ks) H H' → MemAt T.C_Memory T.C_KnownSlot H' M n ks' → kns ks' = putN (kns ks) ⟨s, rc, r, r, 1⟩ → (∀ b ∈ M.own ks', b ∈ M.own ks ∨ H b = none) → Q' .non H') →
        ∀ (p px : Addr) (H1 : Hp), H p = none → Fr [] H H1 → H1 p = some (.ins T.C_KnownSlot px (kF (.ref t) (.int r) (.int r) (.int 1))) →
        Q' .non (upd H1 M.d (.dK (putK (ks.map Kp.kv) (Sum.inl (s : Int)) (.ref p)))) := by
      intro Q' k' p px H1 hp f1 e1
      have pd : p ≠ M.d := (ne_of_none hM.dct hp).symm
      have f2 : Fr [M.d] H (upd H1 M.d (.dK (putK (ks.map Kp.kv) (Sum.inl (s : Int)) (.ref p)))) := (f1.mono (by simp)).trans (Fr.put (by simp))
      have td : t ∉ [M.d] := by
        rw [List.mem_singleton]
        exact ne_of ht hM.dct (by simp)
      have ek := putK_kv ks ⟨⟨s, rc, r, r, 1⟩, p, px, t⟩
      have en := putN_kns ks ⟨⟨s, rc, r, r, 1⟩, p, px, t⟩
      by_cases z : (ks.any fun q => decide (q.slot = s)) = true
      · rw [if_pos z] at ek en
        obtain ⟨q, hq, es⟩ := List.any_eq_true.mp z
        refine k' _ _ (f2.mono (fun b hb => by rw [List.mem_singleton.mp hb]; exact own_d)) (hM.setq hq (of_decide_eq_true es).symm (.inr hp) (f2.mono (by simp)) ?_ ?_ (f2 _ _ ht td)) en (setP_own hq (.inr hp))
        · rw [← ek]
          exact upd_same
        · exact (upd_ne pd).trans e1
      · rw [if_neg z] at ek en
        refine k' _ _ (f2.mono (fun b hb => by rw [List.mem_singleton.mp hb]; exact own_d)) (hM.app (fun q hq e => z (List.any_eq_true.mpr ⟨q, hq, decide_eq_true e⟩)) hn hp f2 ?_ ?_ (f2 _ _ ht td)) en (own_sub fun q hq => ?_)
        · rw [← ek]
          exact upd_same
        · exact (upd_ne pd).trans e1
        · rcases List.mem_append.mp hq with y | y
          · exact .inl (List.mem_map_of_mem y)
          · rw [List.mem_singleton.mp y]
            exact .inr hp
    cases eq : atSlot ks s with
    | none =>
      refine ⟨_, rfl, rfl, _, rfl, iteF (iteF ?_)⟩
      have e0 : learnN s rc r (kns ks) = putN (kns ks) ⟨s, rc, r, r, 1⟩ := by
        unfold learnN
        rw [atN_kns, eq]
        rfl
      rw [e0] at k
      refine ⟨_, rfl, _, rfl, ?_⟩
      intro p px hp hpx npx
      refine ⟨p, px, t, r, rfl, upd_same, fun H2 e2 => ⟨rfl, ?_⟩⟩
      rw [upd_upd] at e2
      have f2 : Fr [] H H2 := by
        rw [e2]
        exact (Fr.new hpx).trans (Fr.new (by rw [upd_ne npx.symm]; exact hp))
      refine ⟨_, rfl, M.m, T.C_Memory, M.x, _, _, rfl, f2 _ _ hM.ins (by simp), T.cl_Memory, T.n_Memory__known, mF_get1, _, rfl, M.d, _, rfl, DPut.k (k := Sum.inl (s : Int)) (f2 _ _ hM.dct (by simp)) (sz_lt (by rw [List.length_map]; have := hM.len; omega)), ?_⟩
      exact fresh Q k p px H2 hp f2 (by rw [e2]; exact upd_same)
    | some q =>
      obtain ⟨hq, es⟩ := atSlot_mem eq
      have hqo := hM.one q hq
      refine ⟨_, rfl, rfl, _, rfl, iteT ?_⟩
      refine ⟨_, rfl, q.ka, T.C_KnownSlot, q.kx, _, _, rfl, hqo, T.cl_KnownSlot, T.n_KnownSlot_record, kF_get0, _, _, (0 : Int), _, rfl, rfl, SqT.of (hM.rcd q hq), rfl, _, rfl, _, _, (0 : Int), _, rfl, rfl, SqT.of ht, rfl, rfl, _, rfl, ?_⟩
      subst es
      refine iteB (fun e => ?_) fun e => ?_
      · have eb : q.rc.blk = rc.blk := by
          have := of_decide_eq_true e
          injection this with this
          omega
        have e0 : learnN q.slot rc r (kns ks) = recN q.slot rc (kns ks) := by
          unfold learnN
          rw [atN_kns, eq]
          exact if_pos eb
        rw [e0] at k
        refine ⟨_, rfl, _, rfl, q.ka, T.C_KnownSlot, q.kx, _, rfl, hqo, T.cl_KnownSlot, T.n_KnownSlot_record, by simp [kF], ?_⟩
        rw [kF_put0]
        have f : Fr [q.ka] H (upd H q.ka (.ins T.C_KnownSlot q.kx (kF (.ref t) (.int q.came) (.int q.used) (.int q.uses)))) := Fr.put (by simp)
        refine k _ (setP ks { q with rc := rc, kt := t }) (f.mono (fun b hb => by rw [List.mem_singleton.mp hb]; exact own_q hq)) (hM.setq hq rfl (.inl rfl) (f.mono (by simp)) ?_ upd_same ?_) (recN_set hM.sl hq rc t) (setP_own hq (.inl rfl))
        · rw [setP_kv ks (q' := { q with rc := rc, kt := t }) hM.sl hq rfl rfl]
          exact f _ _ hM.dct (by simpa using (hM.qd hq).symm)
        · exact f _ _ ht (by rw [List.mem_singleton]; exact ne_of ht hqo (by simp [Kp.ob]))
      have e0 : learnN q.slot rc r (kns ks) = putN (kns ks) ⟨q.slot, rc, r, r, 1⟩ := by
        unfold learnN
        rw [atN_kns, eq]
        refine if_neg (fun z => of_decide_eq_false e ?_)
        rw [show q.rc.blk = rc.blk from z]
      rw [e0] at k
      refine ⟨_, rfl, _, rfl, ?_⟩
      intro p px hp hpx npx
      refine ⟨p, px, t, r, rfl, upd_same, fun H2 e2 => ⟨rfl, ?_⟩⟩
      rw [upd_upd] at e2
      have f2 : Fr [] H H2 := by
        rw [e2]
        exact (Fr.new hpx).trans (Fr.new (by rw [upd_ne npx.symm]; exact hp))
      refine ⟨_, rfl, M.m, T.C_Memory, M.x, _, _, rfl, f2 _ _ hM.ins (by simp), T.cl_Memory, T.n_Memory__known, mF_get1, _, rfl, M.d, _, rfl, DPut.k (k := Sum.inl (q.slot : Int)) (f2 _ _ hM.dct (by simp)) (sz_lt (by rw [List.length_map]; have := hM.len; omega)), ?_⟩
      exact fresh Q k p px H2 hp f2 (by rw [e2]; exact upd_same)
end
/-! ### the least of pairs of a tuple of numbers and a number -/
section
open PySem PySem.Spec PyProof.Rows PySem.W
def rMinR (K : Frag) : List V → Hp → VK → Prop := fun xs H Q => ∃ (a : Addr) (ts : List Addr) (p : Tup Int × Int) (ps : List (Tup Int × Int)), xs = [.ref a] ∧ SqL K H a (ts.map V.ref) ∧ ts.length = ps.length + 1 ∧
  (∀ (i : Nat) (t : Addr) (q : Tup Int × Int), ts[i]? = some t → (p :: ps)[i]? = some q → ∃ r : Addr, SqT K H t [.ref r, .int q.2] ∧ SqT K H r (q.1.items.map V.int)) ∧
  ∀ (t r : Addr), SqT K H t [.ref r, .int (minOf p ps).2] → Q (.ref t) H
theorem dp_ints {K : Frag} {H : Hp} : ∀ is : List Int, DpAll K H (is.map V.int) (is.map Datum.toD)
  | [] => .nil
  | i :: is => .cons (.int i) (dp_ints is)
theorem dp_ranks {K : Frag} {H : Hp} : ∀ {ts : List Addr} {qs : List (Tup Int × Int)}, ts.length = qs.length → (∀ (i : Nat) (t : Addr) (q : Tup Int × Int), ts[i]? = some t → qs[i]? = some q → ∃ r : Addr, SqT K H t [.ref r, .int q.2] ∧ SqT K H r (q.1.items.map V.int)) → DpAll K H (ts.map V.ref) (qs.map Datum.toD)
  | [], [], _, _ => .nil
  | [], _ :: _, h, _ => by cases h
  | _ :: _, [], h, _ => by cases h
  | t :: ts, q :: qs, h, f => by
    obtain ⟨r, h1, h2⟩ := f 0 t q rfl rfl
    exact .cons (.tup h1 (.cons (.tup h2 (dp_ints _)) (.cons (.int _) .nil))) (dp_ranks (by simpa using h) fun i t q e1 e2 => f (i + 1) t q e1 e2)
theorem reads_snd {h : Heap} {t : Addr} {o : Obj} {vs : List Value} {n : Nat} {x : V} {b d : Int} {c : PyData} {as : List Addr} (ho : h.get? t = some o) (hd : o.data = .seq vs.toArray n) (hv : Vals [x, .int b] vs) (r : Reads h (.ref t) (.tuple [c, .int d]) as) : b = d := by
  cases r with
  | tuple ho2 _ hd2 ra =>
    rw [ho] at ho2
    cases ho2
    rw [hd] at hd2
    injection hd2 with e1 _
    subst e1
    match vs, hv with
    | [u, w], .cons ru (.cons rw' .nil) =>
      obtain ⟨tw, rfl⟩ := rw'
      simp only [] at ra
      cases ra with
      | cons r1 r2 =>
        cases r2 with
        | cons r2 r3 =>
          cases r2
          rfl
theorem vals_at {xs : List V} {us : List Value} (h : Vals xs us) : ∀ (i : Nat) (u : Value), us[i]? = some u → ∃ x, xs[i]? = some x ∧ RelV x u := by
  induction h with
  | nil => intro i u e; simp at e
  | cons r _ ih =>
    intro i u e
    cases i with
    | zero => cases e; exact ⟨_, rfl, r⟩
    | succ i => exact ih i u e
theorem cr_minR {X : Cx} (hc : X.calm = true) (hu : X.A.units + 65 < cLine) : CallR X (.builtin "min") (rMinR X.K) := by
  intro pins s σ H xs us Q I r h
  obtain ⟨a, ts, p, ps, rfl, ha, hl, ht, q⟩ := h
  obtain ⟨its, rv, pl, _⟩ := I.list ha
  rw [Vals.ref1 r]
  have hd : DpAll X.K H (ts.map V.ref) ((p :: ps).map Datum.toD) := dp_ranks (by rw [List.length_cons]; exact hl) ht
  have hold : HoldAll s.heap its.toArray.toList (p :: ps) := Dp.readsAll I _ _ _ hd (by simpa using rv)
  refine min_list_datum (I.ok.hd hc) pl.isList hold (by show X.A.units + 1 + 2 < cLine; omega) fun i v h' tk hi hv hk => ?_
  obtain ⟨x, ex, rx⟩ := vals_at rv i v (by simpa using hi)
  rw [List.getElem?_map] at ex
  cases et : ts[i]? with
  | none => rw [et] at ex; cases ex
  | some t =>
    rw [et] at ex
    cases ex
    cases rx
    have hil : i < (p :: ps).length := by
      have := lt_of_at et
      rw [List.length_cons]
      omega
    have eq := List.getElem?_eq_getElem hil
    obtain ⟨rr, h1, h2⟩ := ht i t _ et eq
    obtain ⟨ws, rw2, ⟨o, ho, _, n, hdat⟩, _⟩ := I.tuple h1
    obtain ⟨as, rd⟩ := hv
    have u2 := reads_snd (hk _ _ ho) hdat rw2 rd
    refine ⟨.ref t, H, I.kept hk, rfl, q t rr ?_⟩
    rw [← u2]
    exact h1
end
theorem roomU {k : Nat} {A : Around} (r : Room k A) : A.units + 65 < cLine := by
  have := r.un
  omega
theorem pe_fldK {X : Cx} {K : PySem.W.Frag} {e : Expr} {ta : TE} {f : Str} {pos : Pos} (h : X.K = K) (he : PE X e ta) (hb : attributeBase e f X.env (eval e X.env) = eval e X.env) : PE X (.Attribute e f pos) (tFld K ta f) := by
  subst h
  exact pe_fld he hb
theorem ix_listK {X : Cx} {K : PySem.W.Frag} (h : X.K = K) : IxR X (rIxL K) := by
  subst h
  exact ix_list
theorem ix_tupK {X : Cx} {K : PySem.W.Frag} (h : X.K = K) : IxR X (rIxT K) := by
  subst h
  exact ix_tup
theorem Fr.upd0 {H H1 : Hp} {D : Addr} {o : HO} (f : Fr [] H H1) (h : H D = none) : Fr [] H (upd H1 D o) := fun b u e n => by
  have hb : b ≠ D := fun z => by rw [z, h] at e; cases e
  rw [upd_ne hb]
  exact f b u e n
section
variable {J : It} {n : Nat} {G : Hp → Prop} {Y : Nat → Hp → V → Hp → Prop}
/-- a dict comprehension over a walk: Pv by the turn and the heap (the new dict at D within) -/
theorem dc_it (w : Walk J n G Y) {g : TG} {tt : TT} {tk tv : TE} {vs : List Nat} {σ : L2.St} {H1 : Hp} {D : Addr} {Qd : Hp → Prop} (Pv : Nat → Hp → Prop) (h0 : Pv 0 (upd H1 D (.dK []))) (hG : ∀ i H, i ≤ n → Pv i H → G H)
    (hs : ∀ i x H H', i < n → Pv i H → Y i H x H' → g x (wipe σ vs) H' fun σ2 H2 => wipe σ2 vs = wipe σ vs ∧ tt σ2 H2 fun b H3 =>
      if b = true then tk σ2 H3 fun y H4 => tv σ2 H4 fun z H5 => ∃ kvs k, y = kV k ∧ H5 D = some (.dK kvs) ∧ kvs.length < sizeLine ∧ Pv (i + 1) (upd H5 D (.dK (putK kvs k z))) else Pv (i + 1) H3) (hd : ∀ H, Pv n H → Qd H) :
    ∃ W : Nat → Nat → Hp → Prop, (∃ m, W 0 m (upd H1 D (.dK []))) ∧ ∀ i m H, W i m H →
      (J.stop i H ∧ Qd H) ∨ (J.go i H ∧ ∃ Nx : Hp → Prop, (∀ H', Nx H' → ∃ m', m' < m ∧ W (i + 1) m' H') ∧ ∀ x H', J.yld i H x H' → g x (wipe σ vs) H' fun σ2 H2 => wipe σ2 vs = wipe σ vs ∧ tt σ2 H2 fun b H3 =>
        if b = true then tk σ2 H3 fun y H4 => tv σ2 H4 fun z H5 => ∃ kvs k, y = kV k ∧ H5 D = some (.dK kvs) ∧ kvs.length < sizeLine ∧ Nx (upd H5 D (.dK (putK kvs k z))) else Nx H3) := by
  refine ⟨fun i m H => m = n - i ∧ i ≤ n ∧ Pv i H, ⟨n, by simp, Nat.zero_le _, h0⟩, ?_⟩
  rintro i m H ⟨rfl, hi, p⟩
  have q := hG i H hi p
  by_cases hlt : i < n
  · refine .inr ⟨w.goes i H hlt q, Pv (i + 1), fun H' p' => ⟨n - (i + 1), by omega, rfl, hlt, p'⟩, fun x H' y => hs i x H H' hlt p (w.yields i H x H' hlt q y)⟩
  · have e : i = n := by omega
    subst e
    exact .inl ⟨w.stops H q, hd H p⟩
end
/-! ### records, as a dict in the order of slots -/
def sortK (ks : List Kp) : List Kp := ks.mergeSort fun a b => decide (a.slot ≤ b.slot)
def sortN (kn : List Kn) : List Kn := kn.mergeSort fun a b => decide (a.slot ≤ b.slot)
theorem sortK_kns (ks : List Kp) : kns (sortK ks) = sortN (kns ks) := List.map_mergeSort fun _ _ _ _ => rfl
theorem sortK_perm (ks : List Kp) : (sortK ks).Perm ks := List.mergeSort_perm _ _
theorem sortK_mem {ks : List Kp} {q : Kp} : q ∈ sortK ks ↔ q ∈ ks := List.mem_mergeSort
theorem sortK_sorted (ks : List Kp) : (sortK ks).Pairwise fun a b => a.slot ≤ b.slot :=
  (List.pairwise_mergeSort (le := fun (a b : Kp) => decide (a.slot ≤ b.slot)) (fun a b c h1 h2 => decide_eq_true (Nat.le_trans (of_decide_eq_true h1) (of_decide_eq_true h2))) (fun a b => by
    rcases Nat.le_total a.slot b.slot with h | h
    · simp [h]
    · simp [h]) ks).imp fun h => of_decide_eq_true h
theorem sortK_slots {ks : List Kp} {ys : List Int} (hp : ys.Perm (ks.map fun q => (q.slot : Int))) (hs : ys.Pairwise (· ≤ ·)) : ys = (sortK ks).map fun q => (q.slot : Int) :=
  List.Perm.eq_of_pairwise (le := fun (a b : Int) => a ≤ b) (fun a b _ _ h1 h2 => Int.le_antisymm h1 h2) hs (List.pairwise_map.mpr ((sortK_sorted ks).imp fun h => Int.ofNat_le.mpr h)) (hp.trans ((sortK_perm ks).symm.map _))
def Kp.kr (q : Kp) : Key × V := (Sum.inl (q.slot : Int), V.ref q.kt)
def spRecords (CM CK : Addr) : Sp := fun vs H Q _ => ∃ (M : Mm) (n : Nat) (ks : List Kp), vs = [.ref M.m] ∧ MemAt CM CK H M n ks ∧ ∀ (D : Addr) (H' : Hp), H D = none → Fr [] H H' → H' D = some (.dK ((sortK ks).map Kp.kr)) → Q (.ref D) H'
theorem putK_kr {qs : List Kp} {q : Kp} (h : ∀ p ∈ qs, p.slot ≠ q.slot) : putK (qs.map Kp.kr) (Sum.inl (q.slot : Int)) (.ref q.kt) = (qs ++ [q]).map Kp.kr := by
  unfold putK
  rw [if_neg, List.map_append]
  · rfl
  · rw [List.any_map]
    intro z
    obtain ⟨p, hp, e⟩ := List.any_eq_true.mp z
    have : (p.slot : Int) = (q.slot : Int) := Sum.inl.inj (of_decide_eq_true e)
    exact h p hp (by omega)
section
variable {P : Program} {w : World} {K : PySem.W.Frag} {mg : Str → Option Value} {base : Heap}
theorem ok_records (T : Gx K mg) : FnOk P w K mg base CX0 1 T.f_Memory_records T.fd_Memory_records ["self"] (spRecords T.C_Memory T.C_KnownSlot) := by
  refine T.F_Memory_records.ok sc_Memory_records (fun vs H Q E h => ?_) (fun cdv A outer s H vs Q E hr h => ?_)
  · obtain ⟨M, n, ks, rfl, _⟩ := h
    rfl
  · obtain ⟨M, n, ks, rfl, hM, k⟩ := h
    refine ⟨_, (pss_one (ps_ret (pe_dc (own := [("slot", 1)]) (g := gName 1) rfl sc_Memory_records.nd (pi_list (pe_callB (call_sortedDI rfl) (by rfl) T.z_sorted (by decide +kernel) (pa_cons (pe_fld (pv 0) rfl) pa_nil))) (blkOk_by (N := ["self", "slot"]) (sc := defScope s_Memory_records) (by decide +kernel)) (fun _ _ _ _ _ => pg_name (i := 1) sc_Memory_records.nd rfl (.inl rfl)) (fun _ _ _ _ _ => pts_nil) (fun _ _ _ _ _ => (pv 1)) (fun _ _ _ _ _ => (pe_fldK (K := K) rfl (pe_dget (dU hr) (pe_fldK (K := K) rfl (pv 0) rfl) (pv 1) (fun _ _ => rfl)) rfl))))), ?_⟩
    refine ⟨_, rfl, M.m, T.C_Memory, M.x, _, _, rfl, hM.ins, T.cl_Memory, T.n_Memory__known, mF_get1, M.d, _, ks.map (fun q => (q.slot : Int)), rfl, .inl hM.dct, (by rw [List.map_map, List.map_map]; rfl), (by rw [List.length_map]; have := hM.len; omega), fun ys p hp hs hpn => ?_⟩
    have ey := sortK_slots hp hs
    subst ey
    refine ⟨p, rfl, ⟨_, SqL.of upd_same⟩, fun D hD => ?_⟩
    have hD1 := free_upd hD
    refine dc_it (walk_list (K := K) (a := p) (xs := ((sortK ks).map fun q => (q.slot : Int)).map V.int)) (fun i H' => Fr [] (upd H p (.lst (((sortK ks).map fun q => (q.slot : Int)).map V.int))) H' ∧ H' D = some (.dK (((sortK ks).take i).map Kp.kr))) ⟨Fr.new hD, upd_same⟩ (fun i H' _ g => SqL.of (g.1 _ _ upd_same (by simp))) ?_ ?_
    · rintro i x H1 H2 hi ⟨f1, e1⟩ ⟨rfl, ex⟩
      have hi' : i < (sortK ks).length := by simpa using hi
      have hx : x = .int ((sortK ks)[i].slot : Int) := by
        rw [List.getElem?_map, List.getElem?_map, List.getElem?_eq_getElem hi'] at ex
        cases ex
        rfl
      subst hx
      have hq : (sortK ks)[i] ∈ ks := sortK_mem.mp (List.getElem_mem hi')
      have f2 : Fr [] H H2 := (Fr.new hpn).trans f1
      have hv : valV (ks.map Kp.kv) (Sum.inl ((sortK ks)[i].slot : Int)) = some (.ref (sortK ks)[i].ka) := by rw [valV_kv, atSlot_of hM.sl hq]; rfl
      have g := DGet.k (k := Sum.inl ((sortK ks)[i].slot : Int)) (f2 _ _ hM.dct (by simp))
      rw [hv] at g
      refine ⟨rfl, ?_⟩
      unfold tYes
      refine iteT ?_
      refine ⟨_, rfl, _, rfl, M.m, T.C_Memory, M.x, _, _, rfl, f2 _ _ hM.ins (by simp), T.cl_Memory, T.n_Memory__known, mF_get1, _, rfl, M.d, _, rfl, g, _, T.C_KnownSlot, _, _, _, rfl, f2 _ _ (hM.one _ hq) (by simp), T.cl_KnownSlot, T.n_KnownSlot_record, kF_get0, _, Sum.inl ((sortK ks)[i].slot : Int), rfl, e1, sz_lt (by rw [List.length_map, List.length_take]; have := hM.len; rw [← (sortK_perm ks).length_eq] at this; omega), ?_, ?_⟩
      · refine f1.upd0 ?_
        exact hD
      · rw [putK_kr (q := (sortK ks)[i])]
        · rw [List.take_succ, List.getElem?_eq_getElem hi']
          exact upd_same
        · intro a ha e
          obtain ⟨j, hj, ej⟩ := List.mem_take_iff_getElem.mp ha
          have hj' : j < (sortK ks).length := by omega
          have nd : (sortK ks).Pairwise fun a b => a.slot ≠ b.slot := List.pairwise_map.mp (((sortK_perm ks).map (fun (q : Kp) => q.slot)).nodup_iff.mpr hM.sl)
          have := List.pairwise_iff_getElem.mp nd j i hj' hi' (by omega)
          rw [ej] at this
          exact this e
    · rintro H1 ⟨f1, e1⟩
      rw [List.length_map, List.length_map, List.take_length] at e1
      exact k D H1 hD1.1 ((Fr.new hpn).trans f1) e1
end
/-! ### the slot that is taken -/
def rankN (ch : Str) (q : Kn) : PySem.W.Tup Int := if V.str ch = V.str "used" then ⟨[q.used]⟩ else if V.str ch = V.str "came" then ⟨[q.came]⟩ else ⟨[q.uses, q.used]⟩
def ranksN (ch : Str) (kn : List Kn) : List (PySem.W.Tup Int × Int) := (kn.filter fun q => !q.rc.dirty).map fun q => (rankN ch q, (q.slot : Int))
def takeN (n : Nat) (ch : Str) (kn : List Kn) : V := match (List.range n).find? (fun s => !(atN kn s).isSome) with
  | some s => .int (s : Int)
  | none => match ranksN ch kn with
    | [] => .non
    | p :: ps => .int (PySem.W.minOf p ps).2
def spRank (C : Addr) : Sp := fun vs H Q _ => ∃ (q : Kp) (ch : Str), vs = [.ref q.ka, .str ch] ∧ H q.ka = some (q.ob C) ∧ ∀ t, H t = none → Q (.ref t) (upd H t (.tup ((rankN ch q.toKn).items.map V.int)))
def spTake (CM CK : Addr) : Sp := fun vs H Q _ => ∃ (M : Mm) (n : Nat) (ch : Str) (ks : List Kp), vs = [.ref M.m, .str ch] ∧ MemAt CM CK H M n ks ∧ ∀ H' : Hp, Fr [] H H' → Q (takeN n ch (kns ks)) H'
/-- tuples of a rank and a slot -/
def Rks (H : Hp) (ts : List Addr) (qs : List (PySem.W.Tup Int × Int)) : Prop := ts.length = qs.length ∧ ∀ (i : Nat) (t : Addr) (q : PySem.W.Tup Int × Int), ts[i]? = some t → qs[i]? = some q → ∃ r : Addr, H t = some (.tup [.ref r, .int q.2]) ∧ H r = some (.tup (q.1.items.map V.int))
theorem Rks.keep {S : List Addr} {H H' : Hp} {ts : List Addr} {qs : List (PySem.W.Tup Int × Int)} (h : Rks H ts qs) (f : Fr S H H') (m : ∀ b ∈ S, ∀ xs, H b ≠ some (.tup xs)) : Rks H' ts qs :=
  ⟨h.1, fun i t q e1 e2 => by
    obtain ⟨r, a, b⟩ := h.2 i t q e1 e2
    exact ⟨r, f _ _ a (fun z => m _ z _ a), f _ _ b (fun z => m _ z _ b)⟩⟩
theorem Rks.snoc {H : Hp} {ts : List Addr} {qs : List (PySem.W.Tup Int × Int)} {t r : Addr} {q : PySem.W.Tup Int × Int} (h : Rks H ts qs) (a : H t = some (.tup [.ref r, .int q.2])) (b : H r = some (.tup (q.1.items.map V.int))) : Rks H (ts ++ [t]) (qs ++ [q]) := by
  refine ⟨by rw [List.length_append, List.length_append, h.1]; rfl, fun j u p e1 e2 => ?_⟩
  by_cases hj : j < ts.length
  · rw [List.getElem?_append_left hj] at e1
    rw [List.getElem?_append_left (by rw [← h.1]; exact hj)] at e2
    exact h.2 j u p e1 e2
  · rw [List.getElem?_append_right (by omega)] at e1
    rw [List.getElem?_append_right (by rw [← h.1]; omega)] at e2
    rw [← h.1] at e2
    have hz : j - ts.length = 0 := by
      have := lt_of_at e1
      simp at this
      omega
    rw [hz] at e1 e2
    cases e1
    cases e2
    exact ⟨r, a, b⟩
theorem ranks_succ (ch : Str) (ks : List Kp) (i : Nat) (hi : i < ks.length) : ranksN ch (kns (ks.take (i + 1))) = ranksN ch (kns (ks.take i)) ++ (if ks[i].rc.dirty = true then [] else [(rankN ch ks[i].toKn, (ks[i].slot : Int))]) := by
  rw [List.take_succ, List.getElem?_eq_getElem hi]
  unfold ranksN kns
  rw [List.map_append, List.filter_append, List.map_append]
  refine congrArg _ ?_
  show ((List.filter (fun q => !q.rc.dirty) [ks[i].toKn]).map _) = _
  by_cases e : ks[i].rc.dirty = true
  · rw [if_pos e, List.filter_cons_of_neg (by rw [e]; simp)]
    rfl
  · rw [if_neg e, List.filter_cons_of_pos (by simp [e])]
    rfl
section
variable {P : Program} {w : World} {K : PySem.W.Frag} {mg : Str → Option Value} {base : Heap}
theorem ok_rank (T : Gx K mg) : FnOk P w K mg base CX0 1 T.f__rank T.fd__rank ["known", "choice"] (spRank T.C_KnownSlot) := by
  refine T.F__rank.ok sc__rank (fun vs H Q E h => ?_) (fun cdv A outer s H vs Q E hr h => ?_)
  · obtain ⟨q, ch, rfl, _⟩ := h
    rfl
  · obtain ⟨q, ch, rfl, hq, k⟩ := h
    unfold rankN at k
    refine ⟨_, (pss_cons (ps_if (pt_cmpR op_eq (pv 1) pe_str (nomark _)) (pss_one (ps_ret (pe_tup (pa_cons (pe_fld (pv 0) rfl) pa_nil)))) pss_nil)
      (pss_cons (ps_if (pt_cmpR op_eq (pv 1) pe_str (nomark _)) (pss_one (ps_ret (pe_tup (pa_cons (pe_fld (pv 0) rfl) pa_nil)))) pss_nil)
      (pss_one (ps_ret (pe_tup (pa_cons (pe_fld (pv 0) rfl) (pa_cons (pe_fld (pv 0) rfl) pa_nil))))))), ?_⟩
    refine ⟨_, rfl, rfl, _, rfl, iteB (fun e => ?_) fun e => ?_⟩
    · rw [if_pos (of_decide_eq_true e)] at k
      exact ⟨_, rfl, _, T.C_KnownSlot, _, _, _, rfl, hq, T.cl_KnownSlot, T.n_KnownSlot_used, kF_get2, sz_le (by simp), k⟩
    · rw [if_neg (of_decide_eq_false e)] at k
      refine ⟨_, rfl, rfl, _, rfl, iteB (fun e => ?_) fun e => ?_⟩
      · rw [if_pos (of_decide_eq_true e)] at k
        exact ⟨_, rfl, _, T.C_KnownSlot, _, _, _, rfl, hq, T.cl_KnownSlot, T.n_KnownSlot_came, kF_get1, sz_le (by simp), k⟩
      · rw [if_neg (of_decide_eq_false e)] at k
        exact ⟨_, rfl, _, T.C_KnownSlot, _, _, _, rfl, hq, T.cl_KnownSlot, T.n_KnownSlot_uses, kF_get3, _, rfl, _, T.C_KnownSlot, _, _, _, rfl, hq, T.cl_KnownSlot, T.n_KnownSlot_used, kF_get2, sz_le (by simp), k⟩
theorem ok_take (T : Gx K mg) : FnOk P w K mg base CX0 2 T.f_Memory_slot_to_take T.fd_Memory_slot_to_take ["self", "choice"] (spTake T.C_Memory T.C_KnownSlot) := by
  have G__rank : FnOk P w K mg base CX0 1 T.f__rank T.fd__rank ["known", "choice"] (spRank T.C_KnownSlot) := ok_rank T
  refine T.F_Memory_slot_to_take.ok sc_Memory_slot_to_take (fun vs H Q E h => ?_) (fun cdv A outer s H vs Q E hr h => ?_)
  · obtain ⟨M, n, ch, ks, rfl, _⟩ := h
    rfl
  · obtain ⟨M, n, ch, ks, rfl, hM, k⟩ := h
    refine ⟨_, (pss_cons (ps_for PassesOwn.never rfl (pi_range1 (by rfl) T.z_range (pa_cons (pe_fld (pv 0) rfl) pa_nil)) (pg_name (i := 2) sc_Memory_slot_to_take.nd rfl (.inl rfl)) (pss_one (ps_if (pt_cmp (pc_dnotin (dU hr) (pv 2) (pe_fld (pv 0) rfl)) (by rfl)) (pss_one (ps_ret (pv 2))) pss_nil)))
      (pss_cons (ps_lock (ps_setLc (i := 3) (own := [("slot", 2), ("known", 4)]) (g := gTup K 2 (gCons (gName 2) (gCons (gName 4) gNil))) rfl sc_Memory_slot_to_take.nd rfl rfl (sw_true rfl rfl rfl (by decide +kernel)) (pi_items (pe_fld (pv 0) rfl)) (blkOk_by (N := ["self", "choice", "slot", "ranks", "known"]) (sc := defScope s_Memory_slot_to_take) (by decide +kernel)) (fun _ _ _ _ _ => pg_tup (by rfl) (pgs_cons (pg_name (i := 2) sc_Memory_slot_to_take.nd rfl (.inl rfl)) (pgs_cons (pg_name (i := 4) sc_Memory_slot_to_take.nd rfl (.inl rfl)) pgs_nil))) (fun _ _ _ _ _ => (pts_one (pt_not (pt_val (pe_ix (ix_tupK (K := K) rfl) (pe_fldK (K := K) rfl (pv 4) rfl) (pe_glob (v := .int (3)) (by rfl) T.c_IS_DIRTY ⟨_, rfl⟩) (fun _ _ => rfl)))))) (fun _ _ _ _ _ => (pe_tup (pa_cons (pe_call G__rank (hr.mono (by first | decide | omega)) (by rfl) T.g__rank T.F__rank.kp (b__rank T) .nil pass0 (pa_cons (pv 4) (pa_cons (pv 1) pa_nil))) (pa_cons (pv 2) pa_nil))))))
      (pss_cons (ps_if (pt_not (pt_truth (pv 3) (fun _ => rfl))) (pss_one (ps_ret pe_non)) pss_nil)
      (pss_one (ps_ret (pe_ix ix_tup (pe_callB (cr_minR rfl (roomU hr)) (by rfl) T.z_min (by decide +kernel) (pa_cons (pv 3) pa_nil)) pe_int (fun _ _ => rfl))))))), ?_⟩
    refine ⟨_, rfl, M.m, T.C_Memory, M.x, _, _, rfl, hM.ins, T.cl_Memory, T.n_Memory__slots, mF_get0, n, rfl, by have := hM.few; omega, by have := hM.few; omega, ?_⟩
    refine for_range (lo := 0) (n := n) (fun i σ H' => Fr [] H H' ∧ (∀ j, j < i → (atN (kns ks) j).isSome = true) ∧ ∃ v2 : Option V, σ = [some (.ref M.m), some (.str ch), v2, none, none]) ⟨Fr.refl _ _, fun j hj => absurd hj (by omega), none, rfl⟩ ?_ ?_
    · rintro i σ H1 hi ⟨f1, all, v2, rfl⟩
      have hM1 := hM.keep0 f1
      rw [Int.zero_add]
      refine ⟨_, rfl, _, rfl, M.m, T.C_Memory, M.x, _, _, rfl, hM1.ins, T.cl_Memory, T.n_Memory__known, mF_get1, M.d, _, rfl, DGet.k (k := Sum.inl (i : Int)) hM1.dct, _, rfl, ?_⟩
      rw [valV_kv]
      have ea : (Option.map (fun q => V.ref q.ka) (atSlot ks i)).isSome = (atN (kns ks) i).isSome := by
        rw [atN_kns, Option.isSome_map, Option.isSome_map]
      rw [ea]
      refine iteB (fun e => ?_) fun e => ?_
      · refine ⟨_, rfl, ?_⟩
        have := k H1 f1
        unfold takeN at this
        have ef : (List.range n).find? (fun s => !(atN (kns ks) s).isSome) = some i := by
          rw [List.find?_range_eq_some]
          exact ⟨e, List.mem_range.mpr hi, fun j hj => by rw [all j hj]; rfl⟩
        rw [ef] at this
        exact this
      · refine ⟨f1, fun j hj => ?_, _, rfl⟩
        by_cases z : j < i
        · exact all j z
        · have : j = i := by omega
          subst this
          simpa using e
    · rintro σ H1 ⟨f1, all, v2, rfl⟩
      have hM1 := hM.keep0 f1
      have ef : (List.range n).find? (fun s => !(atN (kns ks) s).isSome) = none := by
        rw [List.find?_eq_none]
        intro j hj
        rw [all j (List.mem_range.mp hj)]
        simp
      have k1 : ∀ H' : Hp, Fr [] H H' → Q (match ranksN ch (kns ks) with
          | [] => .non
          | p :: ps => .int (PySem.W.minOf p ps).2) H' := fun H' f => by
        have := k H' f
        unfold takeN at this
        rw [ef] at this
        exact this
      refine ⟨M.d, _, hM1.dct, trivial, fun od => ?_⟩
      have hL : ∀ a o, H1 a = some o → a ≠ M.d → (upd H1 M.d (.frz od (.dK (ks.map Kp.kv)))) a = some o := fun a o e z => (upd_ne z).trans e
      refine ⟨_, rfl, M.m, T.C_Memory, M.x, _, _, rfl, hL _ _ hM1.ins hM1.md, T.cl_Memory, T.n_Memory__known, mF_get1, M.d, od, _, rfl, upd_same, fun D hD => ?_⟩
      have hD1 := free_upd hD
      refine lc_it (walk_items (d := M.d) (o := od) (kvs := ks.map Kp.kv)) (fun i H' => Fr [] (upd H1 M.d (.frz od (.dK (ks.map Kp.kv)))) H' ∧ ∃ ts : List Addr, H' D = some (.lst (ts.map V.ref)) ∧ Rks H' ts (ranksN ch (kns (ks.take i)))) ⟨Fr.new hD, [], upd_same, rfl, fun i t q e => by simp at e⟩ (fun i H' _ g => g.1 _ _ upd_same (by simp)) ?_ ?_
      · rintro i x H2 H3 hi ⟨f2, ts, e1, rk⟩ ⟨U, x1, y1, rfl, hU, rfl, e2, e3⟩
        have hi' : i < ks.length := by simpa using hi
        simp only [List.getElem?_map, List.getElem?_eq_getElem hi', Option.map_some, Option.some.injEq] at e2 e3
        subst e2 e3
        have hq : ks[i] ∈ ks := List.getElem_mem hi'
        have UD : U ≠ D := (ne_of_none e1 hU).symm
        have f3 : Fr [] (upd H1 M.d (.frz od (.dK (ks.map Kp.kv)))) (upd H2 U (.tup [kV (Kp.kv ks[i]).1, (Kp.kv ks[i]).2])) := f2.trans (Fr.new hU)
        have h1 := f3 _ _ (hL _ _ (hM1.one _ hq) (hM1.qd hq)) (by simp)
        have h2 := f3 _ _ (hL _ _ (hM1.rcd _ hq) (ne_of (hM1.rcd _ hq) hM1.dct (by simp))) (by simp)
        refine ⟨U, _, rfl, SqT.of upd_same, rfl, _, _, rfl, _, _, rfl, rfl, ?_⟩
        refine ⟨rfl, ?_⟩
        refine ⟨_, rfl, _, T.C_KnownSlot, _, _, _, rfl, h1, T.cl_KnownSlot, T.n_KnownSlot_record, kF_get0, _, _, (3 : Int), _, rfl, rfl, SqT.of h2, rfl, _, rfl, ?_⟩
        refine iteB (fun e => ?_) fun e => ?_
        · have nd : ¬ ks[i].rc.dirty = true := by
            intro z
            have e' : (!ks[i].rc.dirty) = true := e
            rw [z] at e'
            cases e'
          refine ⟨_, rfl, _, rfl, ks[i], ch, rfl, h1, fun r hr' => ⟨_, rfl, sz_le (by simp), fun t ht => ⟨ts.map V.ref, ?_, ?_, ?_, ts ++ [t], ?_, ?_⟩⟩⟩
          all_goals
            have hr1 := free_upd hr'
            have ht1 := free_upd ht
            have ht2 := free_upd ht1.1
            have n1 := ne_of_none e1 hU
            have n2 := ne_of_none e1 hr1.1
            have n3 := ne_of_none e1 ht2.1
            have g0 : Fr [] H2 (upd (upd (upd H2 U (.tup [kV (Kp.kv ks[i]).1, (Kp.kv ks[i]).2])) r (.tup ((rankN ch ks[i].toKn).items.map V.int))) t (.tup [.ref r, kV (Kp.kv ks[i]).1])) := ((Fr.new hU).trans (Fr.new hr')).trans (Fr.new ht)
          · exact g0 _ _ e1 (by simp)
          · rw [List.length_map, rk.1]
            refine sz_lt ?_
            unfold ranksN
            have q1 := List.length_filter_le (fun (q : Kn) => !q.rc.dirty) (kns (ks.take i))
            have q2 := List.length_take_le i ks
            have := hM.len
            simp only [List.length_map] at q1 ⊢
            omega
          · exact (f2.trans g0).upd0 hD
          · rw [List.map_append]
            exact upd_same
          · rw [ranks_succ ch ks i hi', if_neg nd]
            have g1 : Rks (upd (upd (upd H2 U (.tup [kV (Kp.kv ks[i]).1, (Kp.kv ks[i]).2])) r (.tup ((rankN ch ks[i].toKn).items.map V.int))) t (.tup [.ref r, kV (Kp.kv ks[i]).1])) (ts ++ [t]) (ranksN ch (kns (ks.take i)) ++ [(rankN ch ks[i].toKn, (ks[i].slot : Int))]) :=
              (rk.keep g0 (by simp)).snoc (r := r) upd_same ((upd_ne ht1.2.symm).trans upd_same)
            refine g1.keep (S := [D]) (Fr.put (by simp)) fun b hb xs => ?_
            rw [List.mem_singleton.mp hb, g0 _ _ e1 (by simp)]
            simp
        · have nd : ks[i].rc.dirty = true := by
            have e' : (!ks[i].rc.dirty) = false := e
            simpa using e'
          refine ⟨f3, ts, (upd_ne UD.symm).trans e1, ?_⟩
          rw [ranks_succ ch ks i hi', if_pos nd, List.append_nil]
          exact rk.keep (S := []) (Fr.new hU) (by simp)
      · rintro H2 ⟨f2, ts, e1, rk⟩
        obtain ⟨g1, g2⟩ := Fr.unlock hM1.dct f2
        refine ⟨g1, ?_⟩
        have DM : D ≠ M.d := hD1.2
        have e1' : (upd H2 M.d (.dK (ks.map Kp.kv))) D = some (.lst (ts.map V.ref)) := (upd_ne DM).trans e1
        have rk' : Rks (upd H2 M.d (.dK (ks.map Kp.kv))) ts (ranksN ch (kns ks)) := by
          have : ks.take (ks.map Kp.kv).length = ks := by rw [List.length_map, List.take_length]
          rw [this] at rk
          exact rk.keep (S := [M.d]) (Fr.put (by simp)) fun b hb xs => by
            rw [List.mem_singleton.mp hb, f2 _ _ upd_same (by simp)]
            simp
        have k2 := k1 _ (f1.trans g2)
        refine ⟨_, rfl, _, .inl ⟨_, SqL.of e1', rfl⟩, ?_⟩
        cases er : ranksN ch (kns ks) with
        | nil =>
          rw [er] at k2 rk'
          have : ts = [] := List.length_eq_zero_iff.mp rk'.1
          subst this
          exact iteT k2
        | cons p ps =>
          rw [er] at k2 rk'
          have l := rk'.1
          have : ts ≠ [] := by
            intro z
            rw [z] at l
            simp at l
          have z0 : (!!(ts.map V.ref).isEmpty) = false := by
            cases ts with
            | nil => exact absurd rfl this
            | cons a b => rfl
          rw [z0]
          refine iteF ?_
          refine ⟨_, rfl, D, ts, p, ps, rfl, SqL.of e1', by simpa using l, fun i t q a b => ?_, fun t r a => ⟨_, _, (1 : Int), _, rfl, rfl, a, rfl, k2⟩⟩
          obtain ⟨r, h1, h2⟩ := rk'.2 i t q a b
          exact ⟨r, SqT.of h1, SqT.of h2⟩
end
/-! ### attributes of pairs -/
def pF (a b c d e f g h i j k l m : V) : List (Str × V) := [("_blocks", a), ("_rules", b), ("_recipes", c), ("_slow", d), ("_fast", e), ("_memory", f), ("_counts_of_dead", g), ("_requests", h), ("_hits", i), ("_next_turn", j), ("_steps_left", k), ("_is_on", l), ("_is_done", m)]
theorem pnf0_1 : ¬ (("_blocks" : Str) = "_rules") := by decide +kernel
theorem pbf0_1 : (("_blocks" : Str) == "_rules") = false := by decide +kernel
theorem pnf0_2 : ¬ (("_blocks" : Str) = "_recipes") := by decide +kernel
theorem pbf0_2 : (("_blocks" : Str) == "_recipes") = false := by decide +kernel
theorem pnf0_3 : ¬ (("_blocks" : Str) = "_slow") := by decide +kernel
theorem pbf0_3 : (("_blocks" : Str) == "_slow") = false := by decide +kernel
theorem pnf0_4 : ¬ (("_blocks" : Str) = "_fast") := by decide +kernel
theorem pbf0_4 : (("_blocks" : Str) == "_fast") = false := by decide +kernel
theorem pnf0_5 : ¬ (("_blocks" : Str) = "_memory") := by decide +kernel
theorem pbf0_5 : (("_blocks" : Str) == "_memory") = false := by decide +kernel
theorem pnf0_6 : ¬ (("_blocks" : Str) = "_counts_of_dead") := by decide +kernel
theorem pbf0_6 : (("_blocks" : Str) == "_counts_of_dead") = false := by decide +kernel
theorem pnf0_7 : ¬ (("_blocks" : Str) = "_requests") := by decide +kernel
theorem pbf0_7 : (("_blocks" : Str) == "_requests") = false := by decide +kernel
theorem pnf0_8 : ¬ (("_blocks" : Str) = "_hits") := by decide +kernel
theorem pbf0_8 : (("_blocks" : Str) == "_hits") = false := by decide +kernel
theorem pnf0_9 : ¬ (("_blocks" : Str) = "_next_turn") := by decide +kernel
theorem pbf0_9 : (("_blocks" : Str) == "_next_turn") = false := by decide +kernel
theorem pnf0_10 : ¬ (("_blocks" : Str) = "_steps_left") := by decide +kernel
theorem pbf0_10 : (("_blocks" : Str) == "_steps_left") = false := by decide +kernel
theorem pnf0_11 : ¬ (("_blocks" : Str) = "_is_on") := by decide +kernel
theorem pbf0_11 : (("_blocks" : Str) == "_is_on") = false := by decide +kernel
theorem pnf0_12 : ¬ (("_blocks" : Str) = "_is_done") := by decide +kernel
theorem pbf0_12 : (("_blocks" : Str) == "_is_done") = false := by decide +kernel
theorem pnf1_0 : ¬ (("_rules" : Str) = "_blocks") := by decide +kernel
theorem pbf1_0 : (("_rules" : Str) == "_blocks") = false := by decide +kernel
theorem pnf1_2 : ¬ (("_rules" : Str) = "_recipes") := by decide +kernel
theorem pbf1_2 : (("_rules" : Str) == "_recipes") = false := by decide +kernel
theorem pnf1_3 : ¬ (("_rules" : Str) = "_slow") := by decide +kernel
theorem pbf1_3 : (("_rules" : Str) == "_slow") = false := by decide +kernel
theorem pnf1_4 : ¬ (("_rules" : Str) = "_fast") := by decide +kernel
theorem pbf1_4 : (("_rules" : Str) == "_fast") = false := by decide +kernel
theorem pnf1_5 : ¬ (("_rules" : Str) = "_memory") := by decide +kernel
theorem pbf1_5 : (("_rules" : Str) == "_memory") = false := by decide +kernel
theorem pnf1_6 : ¬ (("_rules" : Str) = "_counts_of_dead") := by decide +kernel
theorem pbf1_6 : (("_rules" : Str) == "_counts_of_dead") = false := by decide +kernel
theorem pnf1_7 : ¬ (("_rules" : Str) = "_requests") := by decide +kernel
theorem pbf1_7 : (("_rules" : Str) == "_requests") = false := by decide +kernel
theorem pnf1_8 : ¬ (("_rules" : Str) = "_hits") := by decide +kernel
theorem pbf1_8 : (("_rules" : Str) == "_hits") = false := by decide +kernel
theorem pnf1_9 : ¬ (("_rules" : Str) = "_next_turn") := by decide +kernel
theorem pbf1_9 : (("_rules" : Str) == "_next_turn") = false := by decide +kernel
theorem pnf1_10 : ¬ (("_rules" : Str) = "_steps_left") := by decide +kernel
theorem pbf1_10 : (("_rules" : Str) == "_steps_left") = false := by decide +kernel
theorem pnf1_11 : ¬ (("_rules" : Str) = "_is_on") := by decide +kernel
theorem pbf1_11 : (("_rules" : Str) == "_is_on") = false := by decide +kernel
theorem pnf1_12 : ¬ (("_rules" : Str) = "_is_done") := by decide +kernel
theorem pbf1_12 : (("_rules" : Str) == "_is_done") = false := by decide +kernel
theorem pnf2_0 : ¬ (("_recipes" : Str) = "_blocks") := by decide +kernel
theorem pbf2_0 : (("_recipes" : Str) == "_blocks") = false := by decide +kernel
theorem pnf2_1 : ¬ (("_recipes" : Str) = "_rules") := by decide +kernel
theorem pbf2_1 : (("_recipes" : Str) == "_rules") = false := by decide +kernel
theorem pnf2_3 : ¬ (("_recipes" : Str) = "_slow") := by decide +kernel
theorem pbf2_3 : (("_recipes" : Str) == "_slow") = false := by decide +kernel
theorem pnf2_4 : ¬ (("_recipes" : Str) = "_fast") := by decide +kernel
theorem pbf2_4 : (("_recipes" : Str) == "_fast") = false := by decide +kernel
theorem pnf2_5 : ¬ (("_recipes" : Str) = "_memory") := by decide +kernel
theorem pbf2_5 : (("_recipes" : Str) == "_memory") = false := by decide +kernel
theorem pnf2_6 : ¬ (("_recipes" : Str) = "_counts_of_dead") := by decide +kernel
theorem pbf2_6 : (("_recipes" : Str) == "_counts_of_dead") = false := by decide +kernel
theorem pnf2_7 : ¬ (("_recipes" : Str) = "_requests") := by decide +kernel
theorem pbf2_7 : (("_recipes" : Str) == "_requests") = false := by decide +kernel
theorem pnf2_8 : ¬ (("_recipes" : Str) = "_hits") := by decide +kernel
theorem pbf2_8 : (("_recipes" : Str) == "_hits") = false := by decide +kernel
theorem pnf2_9 : ¬ (("_recipes" : Str) = "_next_turn") := by decide +kernel
theorem pbf2_9 : (("_recipes" : Str) == "_next_turn") = false := by decide +kernel
theorem pnf2_10 : ¬ (("_recipes" : Str) = "_steps_left") := by decide +kernel
theorem pbf2_10 : (("_recipes" : Str) == "_steps_left") = false := by decide +kernel
theorem pnf2_11 : ¬ (("_recipes" : Str) = "_is_on") := by decide +kernel
theorem pbf2_11 : (("_recipes" : Str) == "_is_on") = false := by decide +kernel
theorem pnf2_12 : ¬ (("_recipes" : Str) = "_is_done") := by decide +kernel
theorem pbf2_12 : (("_recipes" : Str) == "_is_done") = false := by decide +kernel
theorem pnf3_0 : ¬ (("_slow" : Str) = "_blocks") := by decide +kernel
theorem pbf3_0 : (("_slow" : Str) == "_blocks") = false := by decide +kernel
theorem pnf3_1 : ¬ (("_slow" : Str) = "_rules") := by decide +kernel
theorem pbf3_1 : (("_slow" : Str) == "_rules") = false := by decide +kernel
theorem pnf3_2 : ¬ (("_slow" : Str) = "_recipes") := by decide +kernel
theorem pbf3_2 : (("_slow" : Str) == "_recipes") = false := by decide +kernel
theorem pnf3_4 : ¬ (("_slow" : Str) = "_fast") := by decide +kernel
theorem pbf3_4 : (("_slow" : Str) == "_fast") = false := by decide +kernel
theorem pnf3_5 : ¬ (("_slow" : Str) = "_memory") := by decide +kernel
theorem pbf3_5 : (("_slow" : Str) == "_memory") = false := by decide +kernel
theorem pnf3_6 : ¬ (("_slow" : Str) = "_counts_of_dead") := by decide +kernel
theorem pbf3_6 : (("_slow" : Str) == "_counts_of_dead") = false := by decide +kernel
theorem pnf3_7 : ¬ (("_slow" : Str) = "_requests") := by decide +kernel
theorem pbf3_7 : (("_slow" : Str) == "_requests") = false := by decide +kernel
theorem pnf3_8 : ¬ (("_slow" : Str) = "_hits") := by decide +kernel
theorem pbf3_8 : (("_slow" : Str) == "_hits") = false := by decide +kernel
theorem pnf3_9 : ¬ (("_slow" : Str) = "_next_turn") := by decide +kernel
theorem pbf3_9 : (("_slow" : Str) == "_next_turn") = false := by decide +kernel
theorem pnf3_10 : ¬ (("_slow" : Str) = "_steps_left") := by decide +kernel
theorem pbf3_10 : (("_slow" : Str) == "_steps_left") = false := by decide +kernel
theorem pnf3_11 : ¬ (("_slow" : Str) = "_is_on") := by decide +kernel
theorem pbf3_11 : (("_slow" : Str) == "_is_on") = false := by decide +kernel
theorem pnf3_12 : ¬ (("_slow" : Str) = "_is_done") := by decide +kernel
theorem pbf3_12 : (("_slow" : Str) == "_is_done") = false := by decide +kernel
theorem pnf4_0 : ¬ (("_fast" : Str) = "_blocks") := by decide +kernel
theorem pbf4_0 : (("_fast" : Str) == "_blocks") = false := by decide +kernel
theorem pnf4_1 : ¬ (("_fast" : Str) = "_rules") := by decide +kernel
theorem pbf4_1 : (("_fast" : Str) == "_rules") = false := by decide +kernel
theorem pnf4_2 : ¬ (("_fast" : Str) = "_recipes") := by decide +kernel
theorem pbf4_2 : (("_fast" : Str) == "_recipes") = false := by decide +kernel
theorem pnf4_3 : ¬ (("_fast" : Str) = "_slow") := by decide +kernel
theorem pbf4_3 : (("_fast" : Str) == "_slow") = false := by decide +kernel
theorem pnf4_5 : ¬ (("_fast" : Str) = "_memory") := by decide +kernel
theorem pbf4_5 : (("_fast" : Str) == "_memory") = false := by decide +kernel
theorem pnf4_6 : ¬ (("_fast" : Str) = "_counts_of_dead") := by decide +kernel
theorem pbf4_6 : (("_fast" : Str) == "_counts_of_dead") = false := by decide +kernel
theorem pnf4_7 : ¬ (("_fast" : Str) = "_requests") := by decide +kernel
theorem pbf4_7 : (("_fast" : Str) == "_requests") = false := by decide +kernel
theorem pnf4_8 : ¬ (("_fast" : Str) = "_hits") := by decide +kernel
theorem pbf4_8 : (("_fast" : Str) == "_hits") = false := by decide +kernel
theorem pnf4_9 : ¬ (("_fast" : Str) = "_next_turn") := by decide +kernel
theorem pbf4_9 : (("_fast" : Str) == "_next_turn") = false := by decide +kernel
theorem pnf4_10 : ¬ (("_fast" : Str) = "_steps_left") := by decide +kernel
theorem pbf4_10 : (("_fast" : Str) == "_steps_left") = false := by decide +kernel
theorem pnf4_11 : ¬ (("_fast" : Str) = "_is_on") := by decide +kernel
theorem pbf4_11 : (("_fast" : Str) == "_is_on") = false := by decide +kernel
theorem pnf4_12 : ¬ (("_fast" : Str) = "_is_done") := by decide +kernel
theorem pbf4_12 : (("_fast" : Str) == "_is_done") = false := by decide +kernel
theorem pnf5_0 : ¬ (("_memory" : Str) = "_blocks") := by decide +kernel
theorem pbf5_0 : (("_memory" : Str) == "_blocks") = false := by decide +kernel
theorem pnf5_1 : ¬ (("_memory" : Str) = "_rules") := by decide +kernel
theorem pbf5_1 : (("_memory" : Str) == "_rules") = false := by decide +kernel
theorem pnf5_2 : ¬ (("_memory" : Str) = "_recipes") := by decide +kernel
theorem pbf5_2 : (("_memory" : Str) == "_recipes") = false := by decide +kernel
theorem pnf5_3 : ¬ (("_memory" : Str) = "_slow") := by decide +kernel
theorem pbf5_3 : (("_memory" : Str) == "_slow") = false := by decide +kernel
theorem pnf5_4 : ¬ (("_memory" : Str) = "_fast") := by decide +kernel
theorem pbf5_4 : (("_memory" : Str) == "_fast") = false := by decide +kernel
theorem pnf5_6 : ¬ (("_memory" : Str) = "_counts_of_dead") := by decide +kernel
theorem pbf5_6 : (("_memory" : Str) == "_counts_of_dead") = false := by decide +kernel
theorem pnf5_7 : ¬ (("_memory" : Str) = "_requests") := by decide +kernel
theorem pbf5_7 : (("_memory" : Str) == "_requests") = false := by decide +kernel
theorem pnf5_8 : ¬ (("_memory" : Str) = "_hits") := by decide +kernel
theorem pbf5_8 : (("_memory" : Str) == "_hits") = false := by decide +kernel
theorem pnf5_9 : ¬ (("_memory" : Str) = "_next_turn") := by decide +kernel
theorem pbf5_9 : (("_memory" : Str) == "_next_turn") = false := by decide +kernel
theorem pnf5_10 : ¬ (("_memory" : Str) = "_steps_left") := by decide +kernel
theorem pbf5_10 : (("_memory" : Str) == "_steps_left") = false := by decide +kernel
theorem pnf5_11 : ¬ (("_memory" : Str) = "_is_on") := by decide +kernel
theorem pbf5_11 : (("_memory" : Str) == "_is_on") = false := by decide +kernel
theorem pnf5_12 : ¬ (("_memory" : Str) = "_is_done") := by decide +kernel
theorem pbf5_12 : (("_memory" : Str) == "_is_done") = false := by decide +kernel
theorem pnf6_0 : ¬ (("_counts_of_dead" : Str) = "_blocks") := by decide +kernel
theorem pbf6_0 : (("_counts_of_dead" : Str) == "_blocks") = false := by decide +kernel
theorem pnf6_1 : ¬ (("_counts_of_dead" : Str) = "_rules") := by decide +kernel
theorem pbf6_1 : (("_counts_of_dead" : Str) == "_rules") = false := by decide +kernel
theorem pnf6_2 : ¬ (("_counts_of_dead" : Str) = "_recipes") := by decide +kernel
theorem pbf6_2 : (("_counts_of_dead" : Str) == "_recipes") = false := by decide +kernel
theorem pnf6_3 : ¬ (("_counts_of_dead" : Str) = "_slow") := by decide +kernel
theorem pbf6_3 : (("_counts_of_dead" : Str) == "_slow") = false := by decide +kernel
theorem pnf6_4 : ¬ (("_counts_of_dead" : Str) = "_fast") := by decide +kernel
theorem pbf6_4 : (("_counts_of_dead" : Str) == "_fast") = false := by decide +kernel
theorem pnf6_5 : ¬ (("_counts_of_dead" : Str) = "_memory") := by decide +kernel
theorem pbf6_5 : (("_counts_of_dead" : Str) == "_memory") = false := by decide +kernel
theorem pnf6_7 : ¬ (("_counts_of_dead" : Str) = "_requests") := by decide +kernel
theorem pbf6_7 : (("_counts_of_dead" : Str) == "_requests") = false := by decide +kernel
theorem pnf6_8 : ¬ (("_counts_of_dead" : Str) = "_hits") := by decide +kernel
theorem pbf6_8 : (("_counts_of_dead" : Str) == "_hits") = false := by decide +kernel
theorem pnf6_9 : ¬ (("_counts_of_dead" : Str) = "_next_turn") := by decide +kernel
theorem pbf6_9 : (("_counts_of_dead" : Str) == "_next_turn") = false := by decide +kernel
theorem pnf6_10 : ¬ (("_counts_of_dead" : Str) = "_steps_left") := by decide +kernel
theorem pbf6_10 : (("_counts_of_dead" : Str) == "_steps_left") = false := by decide +kernel
theorem pnf6_11 : ¬ (("_counts_of_dead" : Str) = "_is_on") := by decide +kernel
theorem pbf6_11 : (("_counts_of_dead" : Str) == "_is_on") = false := by decide +kernel
theorem pnf6_12 : ¬ (("_counts_of_dead" : Str) = "_is_done") := by decide +kernel
theorem pbf6_12 : (("_counts_of_dead" : Str) == "_is_done") = false := by decide +kernel
theorem pnf7_0 : ¬ (("_requests" : Str) = "_blocks") := by decide +kernel
theorem pbf7_0 : (("_requests" : Str) == "_blocks") = false := by decide +kernel
theorem pnf7_1 : ¬ (("_requests" : Str) = "_rules") := by decide +kernel
theorem pbf7_1 : (("_requests" : Str) == "_rules") = false := by decide +kernel
theorem pnf7_2 : ¬ (("_requests" : Str) = "_recipes") := by decide +kernel
theorem pbf7_2 : (("_requests" : Str) == "_recipes") = false := by decide +kernel
theorem pnf7_3 : ¬ (("_requests" : Str) = "_slow") := by decide +kernel
theorem pbf7_3 : (("_requests" : Str) == "_slow") = false := by decide +kernel
theorem pnf7_4 : ¬ (("_requests" : Str) = "_fast") := by decide +kernel
theorem pbf7_4 : (("_requests" : Str) == "_fast") = false := by decide +kernel
theorem pnf7_5 : ¬ (("_requests" : Str) = "_memory") := by decide +kernel
theorem pbf7_5 : (("_requests" : Str) == "_memory") = false := by decide +kernel
theorem pnf7_6 : ¬ (("_requests" : Str) = "_counts_of_dead") := by decide +kernel
theorem pbf7_6 : (("_requests" : Str) == "_counts_of_dead") = false := by decide +kernel
theorem pnf7_8 : ¬ (("_requests" : Str) = "_hits") := by decide +kernel
theorem pbf7_8 : (("_requests" : Str) == "_hits") = false := by decide +kernel
theorem pnf7_9 : ¬ (("_requests" : Str) = "_next_turn") := by decide +kernel
theorem pbf7_9 : (("_requests" : Str) == "_next_turn") = false := by decide +kernel
theorem pnf7_10 : ¬ (("_requests" : Str) = "_steps_left") := by decide +kernel
theorem pbf7_10 : (("_requests" : Str) == "_steps_left") = false := by decide +kernel
theorem pnf7_11 : ¬ (("_requests" : Str) = "_is_on") := by decide +kernel
theorem pbf7_11 : (("_requests" : Str) == "_is_on") = false := by decide +kernel
theorem pnf7_12 : ¬ (("_requests" : Str) = "_is_done") := by decide +kernel
theorem pbf7_12 : (("_requests" : Str) == "_is_done") = false := by decide +kernel
theorem pnf8_0 : ¬ (("_hits" : Str) = "_blocks") := by decide +kernel
theorem pbf8_0 : (("_hits" : Str) == "_blocks") = false := by decide +kernel
theorem pnf8_1 : ¬ (("_hits" : Str) = "_rules") := by decide +kernel
theorem pbf8_1 : (("_hits" : Str) == "_rules") = false := by decide +kernel
theorem pnf8_2 : ¬ (("_hits" : Str) = "_recipes") := by decide +kernel
theorem pbf8_2 : (("_hits" : Str) == "_recipes") = false := by decide +kernel
theorem pnf8_3 : ¬ (("_hits" : Str) = "_slow") := by decide +kernel
theorem pbf8_3 : (("_hits" : Str) == "_slow") = false := by decide +kernel
theorem pnf8_4 : ¬ (("_hits" : Str) = "_fast") := by decide +kernel
theorem pbf8_4 : (("_hits" : Str) == "_fast") = false := by decide +kernel
theorem pnf8_5 : ¬ (("_hits" : Str) = "_memory") := by decide +kernel
theorem pbf8_5 : (("_hits" : Str) == "_memory") = false := by decide +kernel
theorem pnf8_6 : ¬ (("_hits" : Str) = "_counts_of_dead") := by decide +kernel
theorem pbf8_6 : (("_hits" : Str) == "_counts_of_dead") = false := by decide +kernel
theorem pnf8_7 : ¬ (("_hits" : Str) = "_requests") := by decide +kernel
theorem pbf8_7 : (("_hits" : Str) == "_requests") = false := by decide +kernel
theorem pnf8_9 : ¬ (("_hits" : Str) = "_next_turn") := by decide +kernel
theorem pbf8_9 : (("_hits" : Str) == "_next_turn") = false := by decide +kernel
theorem pnf8_10 : ¬ (("_hits" : Str) = "_steps_left") := by decide +kernel
theorem pbf8_10 : (("_hits" : Str) == "_steps_left") = false := by decide +kernel
theorem pnf8_11 : ¬ (("_hits" : Str) = "_is_on") := by decide +kernel
theorem pbf8_11 : (("_hits" : Str) == "_is_on") = false := by decide +kernel
theorem pnf8_12 : ¬ (("_hits" : Str) = "_is_done") := by decide +kernel
theorem pbf8_12 : (("_hits" : Str) == "_is_done") = false := by decide +kernel
theorem pnf9_0 : ¬ (("_next_turn" : Str) = "_blocks") := by decide +kernel
theorem pbf9_0 : (("_next_turn" : Str) == "_blocks") = false := by decide +kernel
theorem pnf9_1 : ¬ (("_next_turn" : Str) = "_rules") := by decide +kernel
theorem pbf9_1 : (("_next_turn" : Str) == "_rules") = false := by decide +kernel
theorem pnf9_2 : ¬ (("_next_turn" : Str) = "_recipes") := by decide +kernel
theorem pbf9_2 : (("_next_turn" : Str) == "_recipes") = false := by decide +kernel
theorem pnf9_3 : ¬ (("_next_turn" : Str) = "_slow") := by decide +kernel
theorem pbf9_3 : (("_next_turn" : Str) == "_slow") = false := by decide +kernel
theorem pnf9_4 : ¬ (("_next_turn" : Str) = "_fast") := by decide +kernel
theorem pbf9_4 : (("_next_turn" : Str) == "_fast") = false := by decide +kernel
theorem pnf9_5 : ¬ (("_next_turn" : Str) = "_memory") := by decide +kernel
theorem pbf9_5 : (("_next_turn" : Str) == "_memory") = false := by decide +kernel
theorem pnf9_6 : ¬ (("_next_turn" : Str) = "_counts_of_dead") := by decide +kernel
theorem pbf9_6 : (("_next_turn" : Str) == "_counts_of_dead") = false := by decide +kernel
theorem pnf9_7 : ¬ (("_next_turn" : Str) = "_requests") := by decide +kernel
theorem pbf9_7 : (("_next_turn" : Str) == "_requests") = false := by decide +kernel
theorem pnf9_8 : ¬ (("_next_turn" : Str) = "_hits") := by decide +kernel
theorem pbf9_8 : (("_next_turn" : Str) == "_hits") = false := by decide +kernel
theorem pnf9_10 : ¬ (("_next_turn" : Str) = "_steps_left") := by decide +kernel
theorem pbf9_10 : (("_next_turn" : Str) == "_steps_left") = false := by decide +kernel
theorem pnf9_11 : ¬ (("_next_turn" : Str) = "_is_on") := by decide +kernel
theorem pbf9_11 : (("_next_turn" : Str) == "_is_on") = false := by decide +kernel
theorem pnf9_12 : ¬ (("_next_turn" : Str) = "_is_done") := by decide +kernel
theorem pbf9_12 : (("_next_turn" : Str) == "_is_done") = false := by decide +kernel
theorem pnf10_0 : ¬ (("_steps_left" : Str) = "_blocks") := by decide +kernel
theorem pbf10_0 : (("_steps_left" : Str) == "_blocks") = false := by decide +kernel
theorem pnf10_1 : ¬ (("_steps_left" : Str) = "_rules") := by decide +kernel
theorem pbf10_1 : (("_steps_left" : Str) == "_rules") = false := by decide +kernel
theorem pnf10_2 : ¬ (("_steps_left" : Str) = "_recipes") := by decide +kernel
theorem pbf10_2 : (("_steps_left" : Str) == "_recipes") = false := by decide +kernel
theorem pnf10_3 : ¬ (("_steps_left" : Str) = "_slow") := by decide +kernel
theorem pbf10_3 : (("_steps_left" : Str) == "_slow") = false := by decide +kernel
theorem pnf10_4 : ¬ (("_steps_left" : Str) = "_fast") := by decide +kernel
theorem pbf10_4 : (("_steps_left" : Str) == "_fast") = false := by decide +kernel
theorem pnf10_5 : ¬ (("_steps_left" : Str) = "_memory") := by decide +kernel
theorem pbf10_5 : (("_steps_left" : Str) == "_memory") = false := by decide +kernel
theorem pnf10_6 : ¬ (("_steps_left" : Str) = "_counts_of_dead") := by decide +kernel
theorem pbf10_6 : (("_steps_left" : Str) == "_counts_of_dead") = false := by decide +kernel
theorem pnf10_7 : ¬ (("_steps_left" : Str) = "_requests") := by decide +kernel
theorem pbf10_7 : (("_steps_left" : Str) == "_requests") = false := by decide +kernel
theorem pnf10_8 : ¬ (("_steps_left" : Str) = "_hits") := by decide +kernel
theorem pbf10_8 : (("_steps_left" : Str) == "_hits") = false := by decide +kernel
theorem pnf10_9 : ¬ (("_steps_left" : Str) = "_next_turn") := by decide +kernel
theorem pbf10_9 : (("_steps_left" : Str) == "_next_turn") = false := by decide +kernel
theorem pnf10_11 : ¬ (("_steps_left" : Str) = "_is_on") := by decide +kernel
theorem pbf10_11 : (("_steps_left" : Str) == "_is_on") = false := by decide +kernel
theorem pnf10_12 : ¬ (("_steps_left" : Str) = "_is_done") := by decide +kernel
theorem pbf10_12 : (("_steps_left" : Str) == "_is_done") = false := by decide +kernel
theorem pnf11_0 : ¬ (("_is_on" : Str) = "_blocks") := by decide +kernel
theorem pbf11_0 : (("_is_on" : Str) == "_blocks") = false := by decide +kernel
theorem pnf11_1 : ¬ (("_is_on" : Str) = "_rules") := by decide +kernel
theorem pbf11_1 : (("_is_on" : Str) == "_rules") = false := by decide +kernel
theorem pnf11_2 : ¬ (("_is_on" : Str) = "_recipes") := by decide +kernel
theorem pbf11_2 : (("_is_on" : Str) == "_recipes") = false := by decide +kernel
theorem pnf11_3 : ¬ (("_is_on" : Str) = "_slow") := by decide +kernel
theorem pbf11_3 : (("_is_on" : Str) == "_slow") = false := by decide +kernel
theorem pnf11_4 : ¬ (("_is_on" : Str) = "_fast") := by decide +kernel
theorem pbf11_4 : (("_is_on" : Str) == "_fast") = false := by decide +kernel
theorem pnf11_5 : ¬ (("_is_on" : Str) = "_memory") := by decide +kernel
theorem pbf11_5 : (("_is_on" : Str) == "_memory") = false := by decide +kernel
theorem pnf11_6 : ¬ (("_is_on" : Str) = "_counts_of_dead") := by decide +kernel
theorem pbf11_6 : (("_is_on" : Str) == "_counts_of_dead") = false := by decide +kernel
theorem pnf11_7 : ¬ (("_is_on" : Str) = "_requests") := by decide +kernel
theorem pbf11_7 : (("_is_on" : Str) == "_requests") = false := by decide +kernel
theorem pnf11_8 : ¬ (("_is_on" : Str) = "_hits") := by decide +kernel
theorem pbf11_8 : (("_is_on" : Str) == "_hits") = false := by decide +kernel
theorem pnf11_9 : ¬ (("_is_on" : Str) = "_next_turn") := by decide +kernel
theorem pbf11_9 : (("_is_on" : Str) == "_next_turn") = false := by decide +kernel
theorem pnf11_10 : ¬ (("_is_on" : Str) = "_steps_left") := by decide +kernel
theorem pbf11_10 : (("_is_on" : Str) == "_steps_left") = false := by decide +kernel
theorem pnf11_12 : ¬ (("_is_on" : Str) = "_is_done") := by decide +kernel
theorem pbf11_12 : (("_is_on" : Str) == "_is_done") = false := by decide +kernel
theorem pnf12_0 : ¬ (("_is_done" : Str) = "_blocks") := by decide +kernel
theorem pbf12_0 : (("_is_done" : Str) == "_blocks") = false := by decide +kernel
theorem pnf12_1 : ¬ (("_is_done" : Str) = "_rules") := by decide +kernel
theorem pbf12_1 : (("_is_done" : Str) == "_rules") = false := by decide +kernel
theorem pnf12_2 : ¬ (("_is_done" : Str) = "_recipes") := by decide +kernel
theorem pbf12_2 : (("_is_done" : Str) == "_recipes") = false := by decide +kernel
theorem pnf12_3 : ¬ (("_is_done" : Str) = "_slow") := by decide +kernel
theorem pbf12_3 : (("_is_done" : Str) == "_slow") = false := by decide +kernel
theorem pnf12_4 : ¬ (("_is_done" : Str) = "_fast") := by decide +kernel
theorem pbf12_4 : (("_is_done" : Str) == "_fast") = false := by decide +kernel
theorem pnf12_5 : ¬ (("_is_done" : Str) = "_memory") := by decide +kernel
theorem pbf12_5 : (("_is_done" : Str) == "_memory") = false := by decide +kernel
theorem pnf12_6 : ¬ (("_is_done" : Str) = "_counts_of_dead") := by decide +kernel
theorem pbf12_6 : (("_is_done" : Str) == "_counts_of_dead") = false := by decide +kernel
theorem pnf12_7 : ¬ (("_is_done" : Str) = "_requests") := by decide +kernel
theorem pbf12_7 : (("_is_done" : Str) == "_requests") = false := by decide +kernel
theorem pnf12_8 : ¬ (("_is_done" : Str) = "_hits") := by decide +kernel
theorem pbf12_8 : (("_is_done" : Str) == "_hits") = false := by decide +kernel
theorem pnf12_9 : ¬ (("_is_done" : Str) = "_next_turn") := by decide +kernel
theorem pbf12_9 : (("_is_done" : Str) == "_next_turn") = false := by decide +kernel
theorem pnf12_10 : ¬ (("_is_done" : Str) = "_steps_left") := by decide +kernel
theorem pbf12_10 : (("_is_done" : Str) == "_steps_left") = false := by decide +kernel
theorem pnf12_11 : ¬ (("_is_done" : Str) = "_is_on") := by decide +kernel
theorem pbf12_11 : (("_is_done" : Str) == "_is_on") = false := by decide +kernel
theorem pbf0_0 : (("_blocks" : Str) == "_blocks") = true := by decide +kernel
theorem pbf1_1 : (("_rules" : Str) == "_rules") = true := by decide +kernel
theorem pbf2_2 : (("_recipes" : Str) == "_recipes") = true := by decide +kernel
theorem pbf3_3 : (("_slow" : Str) == "_slow") = true := by decide +kernel
theorem pbf4_4 : (("_fast" : Str) == "_fast") = true := by decide +kernel
theorem pbf5_5 : (("_memory" : Str) == "_memory") = true := by decide +kernel
theorem pbf6_6 : (("_counts_of_dead" : Str) == "_counts_of_dead") = true := by decide +kernel
theorem pbf7_7 : (("_requests" : Str) == "_requests") = true := by decide +kernel
theorem pbf8_8 : (("_hits" : Str) == "_hits") = true := by decide +kernel
theorem pbf9_9 : (("_next_turn" : Str) == "_next_turn") = true := by decide +kernel
theorem pbf10_10 : (("_steps_left" : Str) == "_steps_left") = true := by decide +kernel
theorem pbf11_11 : (("_is_on" : Str) == "_is_on") = true := by decide +kernel
theorem pbf12_12 : (("_is_done" : Str) == "_is_done") = true := by decide +kernel
theorem pF_get0 {a b c d e f g h i j k l m : V} : (pF a b c d e f g h i j k l m).lookup ("_blocks" : Str) = some a := by
  unfold pF
  simp only [List.lookup, pbf0_0]
theorem pF_put0 {a b c d e f g h i j k l m z : V} : putF "_blocks" z (pF a b c d e f g h i j k l m) = pF z b c d e f g h i j k l m := by
  unfold pF
  simp only [putF, if_true, eq_self_iff_true]
theorem pF_get1 {a b c d e f g h i j k l m : V} : (pF a b c d e f g h i j k l m).lookup ("_rules" : Str) = some b := by
  unfold pF
  simp only [List.lookup, pbf1_0, pbf1_1]
theorem pF_put1 {a b c d e f g h i j k l m z : V} : putF "_rules" z (pF a b c d e f g h i j k l m) = pF a z c d e f g h i j k l m := by
  unfold pF
  simp only [putF, if_neg pnf0_1, if_true, eq_self_iff_true]
theorem pF_get2 {a b c d e f g h i j k l m : V} : (pF a b c d e f g h i j k l m).lookup ("_recipes" : Str) = some c := by
  unfold pF
  simp only [List.lookup, pbf2_0, pbf2_1, pbf2_2]
theorem pF_put2 {a b c d e f g h i j k l m z : V} : putF "_recipes" z (pF a b c d e f g h i j k l m) = pF a b z d e f g h i j k l m := by
  unfold pF
  simp only [putF, if_neg pnf0_2, if_neg pnf1_2, if_true, eq_self_iff_true]
theorem pF_get3 {a b c d e f g h i j k l m : V} : (pF a b c d e f g h i j k l m).lookup ("_slow" : Str) = some d := by
  unfold pF
  simp only [List.lookup, pbf3_0, pbf3_1, pbf3_2, pbf3_3]
theorem pF_put3 {a b c d e f g h i j k l m z : V} : putF "_slow" z (pF a b c d e f g h i j k l m) = pF a b c z e f g h i j k l m := by
  unfold pF
  simp only [putF, if_neg pnf0_3, if_neg pnf1_3, if_neg pnf2_3, if_true, eq_self_iff_true]
theorem pF_get4 {a b c d e f g h i j k l m : V} : (pF a b c d e f g h i j k l m).lookup ("_fast" : Str) = some e := by
  unfold pF
  simp only [List.lookup, pbf4_0, pbf4_1, pbf4_2, pbf4_3, pbf4_4]
theorem pF_put4 {a b c d e f g h i j k l m z : V} : putF "_fast" z (pF a b c d e f g h i j k l m) = pF a b c d z f g h i j k l m := by
  unfold pF
  simp only [putF, if_neg pnf0_4, if_neg pnf1_4, if_neg pnf2_4, if_neg pnf3_4, if_true, eq_self_iff_true]
theorem pF_get5 {a b c d e f g h i j k l m : V} : (pF a b c d e f g h i j k l m).lookup ("_memory" : Str) = some f := by
  unfold pF
  simp only [List.lookup, pbf5_0, pbf5_1, pbf5_2, pbf5_3, pbf5_4, pbf5_5]
theorem pF_put5 {a b c d e f g h i j k l m z : V} : putF "_memory" z (pF a b c d e f g h i j k l m) = pF a b c d e z g h i j k l m := by
  unfold pF
  simp only [putF, if_neg pnf0_5, if_neg pnf1_5, if_neg pnf2_5, if_neg pnf3_5, if_neg pnf4_5, if_true, eq_self_iff_true]
theorem pF_get6 {a b c d e f g h i j k l m : V} : (pF a b c d e f g h i j k l m).lookup ("_counts_of_dead" : Str) = some g := by
  unfold pF
  simp only [List.lookup, pbf6_0, pbf6_1, pbf6_2, pbf6_3, pbf6_4, pbf6_5, pbf6_6]
theorem pF_put6 {a b c d e f g h i j k l m z : V} : putF "_counts_of_dead" z (pF a b c d e f g h i j k l m) = pF a b c d e f z h i j k l m := by
  unfold pF
  simp only [putF, if_neg pnf0_6, if_neg pnf1_6, if_neg pnf2_6, if_neg pnf3_6, if_neg pnf4_6, if_neg pnf5_6, if_true, eq_self_iff_true]
theorem pF_get7 {a b c d e f g h i j k l m : V} : (pF a b c d e f g h i j k l m).lookup ("_requests" : Str) = some h := by
  unfold pF
  simp only [List.lookup, pbf7_0, pbf7_1, pbf7_2, pbf7_3, pbf7_4, pbf7_5, pbf7_6, pbf7_7]
theorem pF_put7 {a b c d e f g h i j k l m z : V} : putF "_requests" z (pF a b c d e f g h i j k l m) = pF a b c d e f g z i j k l m := by
  unfold pF
  simp only [putF, if_neg pnf0_7, if_neg pnf1_7, if_neg pnf2_7, if_neg pnf3_7, if_neg pnf4_7, if_neg pnf5_7, if_neg pnf6_7, if_true, eq_self_iff_true]
theorem pF_get8 {a b c d e f g h i j k l m : V} : (pF a b c d e f g h i j k l m).lookup ("_hits" : Str) = some i := by
  unfold pF
  simp only [List.lookup, pbf8_0, pbf8_1, pbf8_2, pbf8_3, pbf8_4, pbf8_5, pbf8_6, pbf8_7, pbf8_8]
theorem pF_put8 {a b c d e f g h i j k l m z : V} : putF "_hits" z (pF a b c d e f g h i j k l m) = pF a b c d e f g h z j k l m := by
  unfold pF
  simp only [putF, if_neg pnf0_8, if_neg pnf1_8, if_neg pnf2_8, if_neg pnf3_8, if_neg pnf4_8, if_neg pnf5_8, if_neg pnf6_8, if_neg pnf7_8, if_true, eq_self_iff_true]
theorem pF_get9 {a b c d e f g h i j k l m : V} : (pF a b c d e f g h i j k l m).lookup ("_next_turn" : Str) = some j := by
  unfold pF
  simp only [List.lookup, pbf9_0, pbf9_1, pbf9_2, pbf9_3, pbf9_4, pbf9_5, pbf9_6, pbf9_7, pbf9_8, pbf9_9]
theorem pF_put9 {a b c d e f g h i j k l m z : V} : putF "_next_turn" z (pF a b c d e f g h i j k l m) = pF a b c d e f g h i z k l m := by
  unfold pF
  simp only [putF, if_neg pnf0_9, if_neg pnf1_9, if_neg pnf2_9, if_neg pnf3_9, if_neg pnf4_9, if_neg pnf5_9, if_neg pnf6_9, if_neg pnf7_9, if_neg pnf8_9, if_true, eq_self_iff_true]
theorem pF_get10 {a b c d e f g h i j k l m : V} : (pF a b c d e f g h i j k l m).lookup ("_steps_left" : Str) = some k := by
  unfold pF
  simp only [List.lookup, pbf10_0, pbf10_1, pbf10_2, pbf10_3, pbf10_4, pbf10_5, pbf10_6, pbf10_7, pbf10_8, pbf10_9, pbf10_10]
theorem pF_put10 {a b c d e f g h i j k l m z : V} : putF "_steps_left" z (pF a b c d e f g h i j k l m) = pF a b c d e f g h i j z l m := by
  unfold pF
  simp only [putF, if_neg pnf0_10, if_neg pnf1_10, if_neg pnf2_10, if_neg pnf3_10, if_neg pnf4_10, if_neg pnf5_10, if_neg pnf6_10, if_neg pnf7_10, if_neg pnf8_10, if_neg pnf9_10, if_true, eq_self_iff_true]
theorem pF_get11 {a b c d e f g h i j k l m : V} : (pF a b c d e f g h i j k l m).lookup ("_is_on" : Str) = some l := by
  unfold pF
  simp only [List.lookup, pbf11_0, pbf11_1, pbf11_2, pbf11_3, pbf11_4, pbf11_5, pbf11_6, pbf11_7, pbf11_8, pbf11_9, pbf11_10, pbf11_11]
theorem pF_put11 {a b c d e f g h i j k l m z : V} : putF "_is_on" z (pF a b c d e f g h i j k l m) = pF a b c d e f g h i j k z m := by
  unfold pF
  simp only [putF, if_neg pnf0_11, if_neg pnf1_11, if_neg pnf2_11, if_neg pnf3_11, if_neg pnf4_11, if_neg pnf5_11, if_neg pnf6_11, if_neg pnf7_11, if_neg pnf8_11, if_neg pnf9_11, if_neg pnf10_11, if_true, eq_self_iff_true]
theorem pF_get12 {a b c d e f g h i j k l m : V} : (pF a b c d e f g h i j k l m).lookup ("_is_done" : Str) = some m := by
  unfold pF
  simp only [List.lookup, pbf12_0, pbf12_1, pbf12_2, pbf12_3, pbf12_4, pbf12_5, pbf12_6, pbf12_7, pbf12_8, pbf12_9, pbf12_10, pbf12_11, pbf12_12]
theorem pF_put12 {a b c d e f g h i j k l m z : V} : putF "_is_done" z (pF a b c d e f g h i j k l m) = pF a b c d e f g h i j k l z := by
  unfold pF
  simp only [putF, if_neg pnf0_12, if_neg pnf1_12, if_neg pnf2_12, if_neg pnf3_12, if_neg pnf4_12, if_neg pnf5_12, if_neg pnf6_12, if_neg pnf7_12, if_neg pnf8_12, if_neg pnf9_12, if_neg pnf10_12, if_neg pnf11_12, if_true, eq_self_iff_true]
theorem pF_made {a b c d e f g h i j k l m : V} : (putF "_is_done" m (putF "_is_on" l (putF "_steps_left" k (putF "_next_turn" j (putF "_hits" i (putF "_requests" h (putF "_counts_of_dead" g (putF "_memory" f (putF "_fast" e (putF "_slow" d (putF "_recipes" c (putF "_rules" b (putF "_blocks" a []))))))))))))) = pF a b c d e f g h i j k l m := by
  unfold pF
  simp only [putF, if_neg pnf0_1, if_neg pnf0_2, if_neg pnf0_3, if_neg pnf0_4, if_neg pnf0_5, if_neg pnf0_6, if_neg pnf0_7, if_neg pnf0_8, if_neg pnf0_9, if_neg pnf0_10, if_neg pnf0_11, if_neg pnf0_12, if_neg pnf1_2, if_neg pnf1_3, if_neg pnf1_4, if_neg pnf1_5, if_neg pnf1_6, if_neg pnf1_7, if_neg pnf1_8, if_neg pnf1_9, if_neg pnf1_10, if_neg pnf1_11, if_neg pnf1_12, if_neg pnf2_3, if_neg pnf2_4, if_neg pnf2_5, if_neg pnf2_6, if_neg pnf2_7, if_neg pnf2_8, if_neg pnf2_9, if_neg pnf2_10, if_neg pnf2_11, if_neg pnf2_12, if_neg pnf3_4, if_neg pnf3_5, if_neg pnf3_6, if_neg pnf3_7, if_neg pnf3_8, if_neg pnf3_9, if_neg pnf3_10, if_neg pnf3_11, if_neg pnf3_12, if_neg pnf4_5, if_neg pnf4_6, if_neg pnf4_7, if_neg pnf4_8, if_neg pnf4_9, if_neg pnf4_10, if_neg pnf4_11, if_neg pnf4_12, if_neg pnf5_6, if_neg pnf5_7, if_neg pnf5_8, if_neg pnf5_9, if_neg pnf5_10, if_neg pnf5_11, if_neg pnf5_12, if_neg pnf6_7, if_neg pnf6_8, if_neg pnf6_9, if_neg pnf6_10, if_neg pnf6_11, if_neg pnf6_12, if_neg pnf7_8, if_neg pnf7_9, if_neg pnf7_10, if_neg pnf7_11, if_neg pnf7_12, if_neg pnf8_9, if_neg pnf8_10, if_neg pnf8_11, if_neg pnf8_12, if_neg pnf9_10, if_neg pnf9_11, if_neg pnf9_12, if_neg pnf10_11, if_neg pnf10_12, if_neg pnf11_12]
theorem pF_no_read {a b c d e f g h i j k l m : V} : (pF a b c d e f g h i j k l m).lookup ("read" : Str) = none := by
  unfold pF
  simp only [List.lookup, (show (("read" : Str) == "_blocks") = false by decide +kernel), (show (("read" : Str) == "_rules") = false by decide +kernel), (show (("read" : Str) == "_recipes") = false by decide +kernel), (show (("read" : Str) == "_slow") = false by decide +kernel), (show (("read" : Str) == "_fast") = false by decide +kernel), (show (("read" : Str) == "_memory") = false by decide +kernel), (show (("read" : Str) == "_counts_of_dead") = false by decide +kernel), (show (("read" : Str) == "_requests") = false by decide +kernel), (show (("read" : Str) == "_hits") = false by decide +kernel), (show (("read" : Str) == "_next_turn") = false by decide +kernel), (show (("read" : Str) == "_steps_left") = false by decide +kernel), (show (("read" : Str) == "_is_on") = false by decide +kernel), (show (("read" : Str) == "_is_done") = false by decide +kernel)]
theorem pF_no_write {a b c d e f g h i j k l m : V} : (pF a b c d e f g h i j k l m).lookup ("write" : Str) = none := by
  unfold pF
  simp only [List.lookup, (show (("write" : Str) == "_blocks") = false by decide +kernel), (show (("write" : Str) == "_rules") = false by decide +kernel), (show (("write" : Str) == "_recipes") = false by decide +kernel), (show (("write" : Str) == "_slow") = false by decide +kernel), (show (("write" : Str) == "_fast") = false by decide +kernel), (show (("write" : Str) == "_memory") = false by decide +kernel), (show (("write" : Str) == "_counts_of_dead") = false by decide +kernel), (show (("write" : Str) == "_requests") = false by decide +kernel), (show (("write" : Str) == "_hits") = false by decide +kernel), (show (("write" : Str) == "_next_turn") = false by decide +kernel), (show (("write" : Str) == "_steps_left") = false by decide +kernel), (show (("write" : Str) == "_is_on") = false by decide +kernel), (show (("write" : Str) == "_is_done") = false by decide +kernel)]
theorem pF_no_clean_up {a b c d e f g h i j k l m : V} : (pF a b c d e f g h i j k l m).lookup ("clean_up" : Str) = none := by
  unfold pF
  simp only [List.lookup, (show (("clean_up" : Str) == "_blocks") = false by decide +kernel), (show (("clean_up" : Str) == "_rules") = false by decide +kernel), (show (("clean_up" : Str) == "_recipes") = false by decide +kernel), (show (("clean_up" : Str) == "_slow") = false by decide +kernel), (show (("clean_up" : Str) == "_fast") = false by decide +kernel), (show (("clean_up" : Str) == "_memory") = false by decide +kernel), (show (("clean_up" : Str) == "_counts_of_dead") = false by decide +kernel), (show (("clean_up" : Str) == "_requests") = false by decide +kernel), (show (("clean_up" : Str) == "_hits") = false by decide +kernel), (show (("clean_up" : Str) == "_next_turn") = false by decide +kernel), (show (("clean_up" : Str) == "_steps_left") = false by decide +kernel), (show (("clean_up" : Str) == "_is_on") = false by decide +kernel), (show (("clean_up" : Str) == "_is_done") = false by decide +kernel)]
theorem pF_no_settle {a b c d e f g h i j k l m : V} : (pF a b c d e f g h i j k l m).lookup ("settle" : Str) = none := by
  unfold pF
  simp only [List.lookup, (show (("settle" : Str) == "_blocks") = false by decide +kernel), (show (("settle" : Str) == "_rules") = false by decide +kernel), (show (("settle" : Str) == "_recipes") = false by decide +kernel), (show (("settle" : Str) == "_slow") = false by decide +kernel), (show (("settle" : Str) == "_fast") = false by decide +kernel), (show (("settle" : Str) == "_memory") = false by decide +kernel), (show (("settle" : Str) == "_counts_of_dead") = false by decide +kernel), (show (("settle" : Str) == "_requests") = false by decide +kernel), (show (("settle" : Str) == "_hits") = false by decide +kernel), (show (("settle" : Str) == "_next_turn") = false by decide +kernel), (show (("settle" : Str) == "_steps_left") = false by decide +kernel), (show (("settle" : Str) == "_is_on") = false by decide +kernel), (show (("settle" : Str) == "_is_done") = false by decide +kernel)]
theorem pF_no_forget {a b c d e f g h i j k l m : V} : (pF a b c d e f g h i j k l m).lookup ("forget" : Str) = none := by
  unfold pF
  simp only [List.lookup, (show (("forget" : Str) == "_blocks") = false by decide +kernel), (show (("forget" : Str) == "_rules") = false by decide +kernel), (show (("forget" : Str) == "_recipes") = false by decide +kernel), (show (("forget" : Str) == "_slow") = false by decide +kernel), (show (("forget" : Str) == "_fast") = false by decide +kernel), (show (("forget" : Str) == "_memory") = false by decide +kernel), (show (("forget" : Str) == "_counts_of_dead") = false by decide +kernel), (show (("forget" : Str) == "_requests") = false by decide +kernel), (show (("forget" : Str) == "_hits") = false by decide +kernel), (show (("forget" : Str) == "_next_turn") = false by decide +kernel), (show (("forget" : Str) == "_steps_left") = false by decide +kernel), (show (("forget" : Str) == "_is_on") = false by decide +kernel), (show (("forget" : Str) == "_is_done") = false by decide +kernel)]
theorem pF_no_set_rules {a b c d e f g h i j k l m : V} : (pF a b c d e f g h i j k l m).lookup ("set_rules" : Str) = none := by
  unfold pF
  simp only [List.lookup, (show (("set_rules" : Str) == "_blocks") = false by decide +kernel), (show (("set_rules" : Str) == "_rules") = false by decide +kernel), (show (("set_rules" : Str) == "_recipes") = false by decide +kernel), (show (("set_rules" : Str) == "_slow") = false by decide +kernel), (show (("set_rules" : Str) == "_fast") = false by decide +kernel), (show (("set_rules" : Str) == "_memory") = false by decide +kernel), (show (("set_rules" : Str) == "_counts_of_dead") = false by decide +kernel), (show (("set_rules" : Str) == "_requests") = false by decide +kernel), (show (("set_rules" : Str) == "_hits") = false by decide +kernel), (show (("set_rules" : Str) == "_next_turn") = false by decide +kernel), (show (("set_rules" : Str) == "_steps_left") = false by decide +kernel), (show (("set_rules" : Str) == "_is_on") = false by decide +kernel), (show (("set_rules" : Str) == "_is_done") = false by decide +kernel)]
theorem pF_no_fail_at {a b c d e f g h i j k l m : V} : (pF a b c d e f g h i j k l m).lookup ("fail_at" : Str) = none := by
  unfold pF
  simp only [List.lookup, (show (("fail_at" : Str) == "_blocks") = false by decide +kernel), (show (("fail_at" : Str) == "_rules") = false by decide +kernel), (show (("fail_at" : Str) == "_recipes") = false by decide +kernel), (show (("fail_at" : Str) == "_slow") = false by decide +kernel), (show (("fail_at" : Str) == "_fast") = false by decide +kernel), (show (("fail_at" : Str) == "_memory") = false by decide +kernel), (show (("fail_at" : Str) == "_counts_of_dead") = false by decide +kernel), (show (("fail_at" : Str) == "_requests") = false by decide +kernel), (show (("fail_at" : Str) == "_hits") = false by decide +kernel), (show (("fail_at" : Str) == "_next_turn") = false by decide +kernel), (show (("fail_at" : Str) == "_steps_left") = false by decide +kernel), (show (("fail_at" : Str) == "_is_on") = false by decide +kernel), (show (("fail_at" : Str) == "_is_done") = false by decide +kernel)]
theorem pF_no_cut {a b c d e f g h i j k l m : V} : (pF a b c d e f g h i j k l m).lookup ("cut" : Str) = none := by
  unfold pF
  simp only [List.lookup, (show (("cut" : Str) == "_blocks") = false by decide +kernel), (show (("cut" : Str) == "_rules") = false by decide +kernel), (show (("cut" : Str) == "_recipes") = false by decide +kernel), (show (("cut" : Str) == "_slow") = false by decide +kernel), (show (("cut" : Str) == "_fast") = false by decide +kernel), (show (("cut" : Str) == "_memory") = false by decide +kernel), (show (("cut" : Str) == "_counts_of_dead") = false by decide +kernel), (show (("cut" : Str) == "_requests") = false by decide +kernel), (show (("cut" : Str) == "_hits") = false by decide +kernel), (show (("cut" : Str) == "_next_turn") = false by decide +kernel), (show (("cut" : Str) == "_steps_left") = false by decide +kernel), (show (("cut" : Str) == "_is_on") = false by decide +kernel), (show (("cut" : Str) == "_is_done") = false by decide +kernel)]
theorem pF_no_restart {a b c d e f g h i j k l m : V} : (pF a b c d e f g h i j k l m).lookup ("restart" : Str) = none := by
  unfold pF
  simp only [List.lookup, (show (("restart" : Str) == "_blocks") = false by decide +kernel), (show (("restart" : Str) == "_rules") = false by decide +kernel), (show (("restart" : Str) == "_recipes") = false by decide +kernel), (show (("restart" : Str) == "_slow") = false by decide +kernel), (show (("restart" : Str) == "_fast") = false by decide +kernel), (show (("restart" : Str) == "_memory") = false by decide +kernel), (show (("restart" : Str) == "_counts_of_dead") = false by decide +kernel), (show (("restart" : Str) == "_requests") = false by decide +kernel), (show (("restart" : Str) == "_hits") = false by decide +kernel), (show (("restart" : Str) == "_next_turn") = false by decide +kernel), (show (("restart" : Str) == "_steps_left") = false by decide +kernel), (show (("restart" : Str) == "_is_on") = false by decide +kernel), (show (("restart" : Str) == "_is_done") = false by decide +kernel)]
theorem pF_no_lose_fast {a b c d e f g h i j k l m : V} : (pF a b c d e f g h i j k l m).lookup ("lose_fast" : Str) = none := by
  unfold pF
  simp only [List.lookup, (show (("lose_fast" : Str) == "_blocks") = false by decide +kernel), (show (("lose_fast" : Str) == "_rules") = false by decide +kernel), (show (("lose_fast" : Str) == "_recipes") = false by decide +kernel), (show (("lose_fast" : Str) == "_slow") = false by decide +kernel), (show (("lose_fast" : Str) == "_fast") = false by decide +kernel), (show (("lose_fast" : Str) == "_memory") = false by decide +kernel), (show (("lose_fast" : Str) == "_counts_of_dead") = false by decide +kernel), (show (("lose_fast" : Str) == "_requests") = false by decide +kernel), (show (("lose_fast" : Str) == "_hits") = false by decide +kernel), (show (("lose_fast" : Str) == "_next_turn") = false by decide +kernel), (show (("lose_fast" : Str) == "_steps_left") = false by decide +kernel), (show (("lose_fast" : Str) == "_is_on") = false by decide +kernel), (show (("lose_fast" : Str) == "_is_done") = false by decide +kernel)]
theorem pF_no_give_fast {a b c d e f g h i j k l m : V} : (pF a b c d e f g h i j k l m).lookup ("give_fast" : Str) = none := by
  unfold pF
  simp only [List.lookup, (show (("give_fast" : Str) == "_blocks") = false by decide +kernel), (show (("give_fast" : Str) == "_rules") = false by decide +kernel), (show (("give_fast" : Str) == "_recipes") = false by decide +kernel), (show (("give_fast" : Str) == "_slow") = false by decide +kernel), (show (("give_fast" : Str) == "_fast") = false by decide +kernel), (show (("give_fast" : Str) == "_memory") = false by decide +kernel), (show (("give_fast" : Str) == "_counts_of_dead") = false by decide +kernel), (show (("give_fast" : Str) == "_requests") = false by decide +kernel), (show (("give_fast" : Str) == "_hits") = false by decide +kernel), (show (("give_fast" : Str) == "_next_turn") = false by decide +kernel), (show (("give_fast" : Str) == "_steps_left") = false by decide +kernel), (show (("give_fast" : Str) == "_is_on") = false by decide +kernel), (show (("give_fast" : Str) == "_is_done") = false by decide +kernel)]
theorem pF_no_lose_slow {a b c d e f g h i j k l m : V} : (pF a b c d e f g h i j k l m).lookup ("lose_slow" : Str) = none := by
  unfold pF
  simp only [List.lookup, (show (("lose_slow" : Str) == "_blocks") = false by decide +kernel), (show (("lose_slow" : Str) == "_rules") = false by decide +kernel), (show (("lose_slow" : Str) == "_recipes") = false by decide +kernel), (show (("lose_slow" : Str) == "_slow") = false by decide +kernel), (show (("lose_slow" : Str) == "_fast") = false by decide +kernel), (show (("lose_slow" : Str) == "_memory") = false by decide +kernel), (show (("lose_slow" : Str) == "_counts_of_dead") = false by decide +kernel), (show (("lose_slow" : Str) == "_requests") = false by decide +kernel), (show (("lose_slow" : Str) == "_hits") = false by decide +kernel), (show (("lose_slow" : Str) == "_next_turn") = false by decide +kernel), (show (("lose_slow" : Str) == "_steps_left") = false by decide +kernel), (show (("lose_slow" : Str) == "_is_on") = false by decide +kernel), (show (("lose_slow" : Str) == "_is_done") = false by decide +kernel)]
theorem pF_no__check_on {a b c d e f g h i j k l m : V} : (pF a b c d e f g h i j k l m).lookup ("_check_on" : Str) = none := by
  unfold pF
  simp only [List.lookup, (show (("_check_on" : Str) == "_blocks") = false by decide +kernel), (show (("_check_on" : Str) == "_rules") = false by decide +kernel), (show (("_check_on" : Str) == "_recipes") = false by decide +kernel), (show (("_check_on" : Str) == "_slow") = false by decide +kernel), (show (("_check_on" : Str) == "_fast") = false by decide +kernel), (show (("_check_on" : Str) == "_memory") = false by decide +kernel), (show (("_check_on" : Str) == "_counts_of_dead") = false by decide +kernel), (show (("_check_on" : Str) == "_requests") = false by decide +kernel), (show (("_check_on" : Str) == "_hits") = false by decide +kernel), (show (("_check_on" : Str) == "_next_turn") = false by decide +kernel), (show (("_check_on" : Str) == "_steps_left") = false by decide +kernel), (show (("_check_on" : Str) == "_is_on") = false by decide +kernel), (show (("_check_on" : Str) == "_is_done") = false by decide +kernel)]
theorem pF_no__check_block {a b c d e f g h i j k l m : V} : (pF a b c d e f g h i j k l m).lookup ("_check_block" : Str) = none := by
  unfold pF
  simp only [List.lookup, (show (("_check_block" : Str) == "_blocks") = false by decide +kernel), (show (("_check_block" : Str) == "_rules") = false by decide +kernel), (show (("_check_block" : Str) == "_recipes") = false by decide +kernel), (show (("_check_block" : Str) == "_slow") = false by decide +kernel), (show (("_check_block" : Str) == "_fast") = false by decide +kernel), (show (("_check_block" : Str) == "_memory") = false by decide +kernel), (show (("_check_block" : Str) == "_counts_of_dead") = false by decide +kernel), (show (("_check_block" : Str) == "_requests") = false by decide +kernel), (show (("_check_block" : Str) == "_hits") = false by decide +kernel), (show (("_check_block" : Str) == "_next_turn") = false by decide +kernel), (show (("_check_block" : Str) == "_steps_left") = false by decide +kernel), (show (("_check_block" : Str) == "_is_on") = false by decide +kernel), (show (("_check_block" : Str) == "_is_done") = false by decide +kernel)]
theorem pF_no__begin_request {a b c d e f g h i j k l m : V} : (pF a b c d e f g h i j k l m).lookup ("_begin_request" : Str) = none := by
  unfold pF
  simp only [List.lookup, (show (("_begin_request" : Str) == "_blocks") = false by decide +kernel), (show (("_begin_request" : Str) == "_rules") = false by decide +kernel), (show (("_begin_request" : Str) == "_recipes") = false by decide +kernel), (show (("_begin_request" : Str) == "_slow") = false by decide +kernel), (show (("_begin_request" : Str) == "_fast") = false by decide +kernel), (show (("_begin_request" : Str) == "_memory") = false by decide +kernel), (show (("_begin_request" : Str) == "_counts_of_dead") = false by decide +kernel), (show (("_begin_request" : Str) == "_requests") = false by decide +kernel), (show (("_begin_request" : Str) == "_hits") = false by decide +kernel), (show (("_begin_request" : Str) == "_next_turn") = false by decide +kernel), (show (("_begin_request" : Str) == "_steps_left") = false by decide +kernel), (show (("_begin_request" : Str) == "_is_on") = false by decide +kernel), (show (("_begin_request" : Str) == "_is_done") = false by decide +kernel)]
theorem pF_no__take_slot {a b c d e f g h i j k l m : V} : (pF a b c d e f g h i j k l m).lookup ("_take_slot" : Str) = none := by
  unfold pF
  simp only [List.lookup, (show (("_take_slot" : Str) == "_blocks") = false by decide +kernel), (show (("_take_slot" : Str) == "_rules") = false by decide +kernel), (show (("_take_slot" : Str) == "_recipes") = false by decide +kernel), (show (("_take_slot" : Str) == "_slow") = false by decide +kernel), (show (("_take_slot" : Str) == "_fast") = false by decide +kernel), (show (("_take_slot" : Str) == "_memory") = false by decide +kernel), (show (("_take_slot" : Str) == "_counts_of_dead") = false by decide +kernel), (show (("_take_slot" : Str) == "_requests") = false by decide +kernel), (show (("_take_slot" : Str) == "_hits") = false by decide +kernel), (show (("_take_slot" : Str) == "_next_turn") = false by decide +kernel), (show (("_take_slot" : Str) == "_steps_left") = false by decide +kernel), (show (("_take_slot" : Str) == "_is_on") = false by decide +kernel), (show (("_take_slot" : Str) == "_is_done") = false by decide +kernel)]
theorem pF_no__choose_slots {a b c d e f g h i j k l m : V} : (pF a b c d e f g h i j k l m).lookup ("_choose_slots" : Str) = none := by
  unfold pF
  simp only [List.lookup, (show (("_choose_slots" : Str) == "_blocks") = false by decide +kernel), (show (("_choose_slots" : Str) == "_rules") = false by decide +kernel), (show (("_choose_slots" : Str) == "_recipes") = false by decide +kernel), (show (("_choose_slots" : Str) == "_slow") = false by decide +kernel), (show (("_choose_slots" : Str) == "_fast") = false by decide +kernel), (show (("_choose_slots" : Str) == "_memory") = false by decide +kernel), (show (("_choose_slots" : Str) == "_counts_of_dead") = false by decide +kernel), (show (("_choose_slots" : Str) == "_requests") = false by decide +kernel), (show (("_choose_slots" : Str) == "_hits") = false by decide +kernel), (show (("_choose_slots" : Str) == "_next_turn") = false by decide +kernel), (show (("_choose_slots" : Str) == "_steps_left") = false by decide +kernel), (show (("_choose_slots" : Str) == "_is_on") = false by decide +kernel), (show (("_choose_slots" : Str) == "_is_done") = false by decide +kernel)]
theorem pF_no__recipe_for_writing {a b c d e f g h i j k l m : V} : (pF a b c d e f g h i j k l m).lookup ("_recipe_for_writing" : Str) = none := by
  unfold pF
  simp only [List.lookup, (show (("_recipe_for_writing" : Str) == "_blocks") = false by decide +kernel), (show (("_recipe_for_writing" : Str) == "_rules") = false by decide +kernel), (show (("_recipe_for_writing" : Str) == "_recipes") = false by decide +kernel), (show (("_recipe_for_writing" : Str) == "_slow") = false by decide +kernel), (show (("_recipe_for_writing" : Str) == "_fast") = false by decide +kernel), (show (("_recipe_for_writing" : Str) == "_memory") = false by decide +kernel), (show (("_recipe_for_writing" : Str) == "_counts_of_dead") = false by decide +kernel), (show (("_recipe_for_writing" : Str) == "_requests") = false by decide +kernel), (show (("_recipe_for_writing" : Str) == "_hits") = false by decide +kernel), (show (("_recipe_for_writing" : Str) == "_next_turn") = false by decide +kernel), (show (("_recipe_for_writing" : Str) == "_steps_left") = false by decide +kernel), (show (("_recipe_for_writing" : Str) == "_is_on") = false by decide +kernel), (show (("_recipe_for_writing" : Str) == "_is_done") = false by decide +kernel)]
theorem pF_no__carry_out {a b c d e f g h i j k l m : V} : (pF a b c d e f g h i j k l m).lookup ("_carry_out" : Str) = none := by
  unfold pF
  simp only [List.lookup, (show (("_carry_out" : Str) == "_blocks") = false by decide +kernel), (show (("_carry_out" : Str) == "_rules") = false by decide +kernel), (show (("_carry_out" : Str) == "_recipes") = false by decide +kernel), (show (("_carry_out" : Str) == "_slow") = false by decide +kernel), (show (("_carry_out" : Str) == "_fast") = false by decide +kernel), (show (("_carry_out" : Str) == "_memory") = false by decide +kernel), (show (("_carry_out" : Str) == "_counts_of_dead") = false by decide +kernel), (show (("_carry_out" : Str) == "_requests") = false by decide +kernel), (show (("_carry_out" : Str) == "_hits") = false by decide +kernel), (show (("_carry_out" : Str) == "_next_turn") = false by decide +kernel), (show (("_carry_out" : Str) == "_steps_left") = false by decide +kernel), (show (("_carry_out" : Str) == "_is_on") = false by decide +kernel), (show (("_carry_out" : Str) == "_is_done") = false by decide +kernel)]
theorem pF_no__clean_least_turns {a b c d e f g h i j k l m : V} : (pF a b c d e f g h i j k l m).lookup ("_clean_least_turns" : Str) = none := by
  unfold pF
  simp only [List.lookup, (show (("_clean_least_turns" : Str) == "_blocks") = false by decide +kernel), (show (("_clean_least_turns" : Str) == "_rules") = false by decide +kernel), (show (("_clean_least_turns" : Str) == "_recipes") = false by decide +kernel), (show (("_clean_least_turns" : Str) == "_slow") = false by decide +kernel), (show (("_clean_least_turns" : Str) == "_fast") = false by decide +kernel), (show (("_clean_least_turns" : Str) == "_memory") = false by decide +kernel), (show (("_clean_least_turns" : Str) == "_counts_of_dead") = false by decide +kernel), (show (("_clean_least_turns" : Str) == "_requests") = false by decide +kernel), (show (("_clean_least_turns" : Str) == "_hits") = false by decide +kernel), (show (("_clean_least_turns" : Str) == "_next_turn") = false by decide +kernel), (show (("_clean_least_turns" : Str) == "_steps_left") = false by decide +kernel), (show (("_clean_least_turns" : Str) == "_is_on") = false by decide +kernel), (show (("_clean_least_turns" : Str) == "_is_done") = false by decide +kernel)]
theorem pF_no__clean_slot {a b c d e f g h i j k l m : V} : (pF a b c d e f g h i j k l m).lookup ("_clean_slot" : Str) = none := by
  unfold pF
  simp only [List.lookup, (show (("_clean_slot" : Str) == "_blocks") = false by decide +kernel), (show (("_clean_slot" : Str) == "_rules") = false by decide +kernel), (show (("_clean_slot" : Str) == "_recipes") = false by decide +kernel), (show (("_clean_slot" : Str) == "_slow") = false by decide +kernel), (show (("_clean_slot" : Str) == "_fast") = false by decide +kernel), (show (("_clean_slot" : Str) == "_memory") = false by decide +kernel), (show (("_clean_slot" : Str) == "_counts_of_dead") = false by decide +kernel), (show (("_clean_slot" : Str) == "_requests") = false by decide +kernel), (show (("_clean_slot" : Str) == "_hits") = false by decide +kernel), (show (("_clean_slot" : Str) == "_next_turn") = false by decide +kernel), (show (("_clean_slot" : Str) == "_steps_left") = false by decide +kernel), (show (("_clean_slot" : Str) == "_is_on") = false by decide +kernel), (show (("_clean_slot" : Str) == "_is_done") = false by decide +kernel)]
theorem pF_no__begin_step {a b c d e f g h i j k l m : V} : (pF a b c d e f g h i j k l m).lookup ("_begin_step" : Str) = none := by
  unfold pF
  simp only [List.lookup, (show (("_begin_step" : Str) == "_blocks") = false by decide +kernel), (show (("_begin_step" : Str) == "_rules") = false by decide +kernel), (show (("_begin_step" : Str) == "_recipes") = false by decide +kernel), (show (("_begin_step" : Str) == "_slow") = false by decide +kernel), (show (("_begin_step" : Str) == "_fast") = false by decide +kernel), (show (("_begin_step" : Str) == "_memory") = false by decide +kernel), (show (("_begin_step" : Str) == "_counts_of_dead") = false by decide +kernel), (show (("_begin_step" : Str) == "_requests") = false by decide +kernel), (show (("_begin_step" : Str) == "_hits") = false by decide +kernel), (show (("_begin_step" : Str) == "_next_turn") = false by decide +kernel), (show (("_begin_step" : Str) == "_steps_left") = false by decide +kernel), (show (("_begin_step" : Str) == "_is_on") = false by decide +kernel), (show (("_begin_step" : Str) == "_is_done") = false by decide +kernel)]
theorem pF_no__write_slow {a b c d e f g h i j k l m : V} : (pF a b c d e f g h i j k l m).lookup ("_write_slow" : Str) = none := by
  unfold pF
  simp only [List.lookup, (show (("_write_slow" : Str) == "_blocks") = false by decide +kernel), (show (("_write_slow" : Str) == "_rules") = false by decide +kernel), (show (("_write_slow" : Str) == "_recipes") = false by decide +kernel), (show (("_write_slow" : Str) == "_slow") = false by decide +kernel), (show (("_write_slow" : Str) == "_fast") = false by decide +kernel), (show (("_write_slow" : Str) == "_memory") = false by decide +kernel), (show (("_write_slow" : Str) == "_counts_of_dead") = false by decide +kernel), (show (("_write_slow" : Str) == "_requests") = false by decide +kernel), (show (("_write_slow" : Str) == "_hits") = false by decide +kernel), (show (("_write_slow" : Str) == "_next_turn") = false by decide +kernel), (show (("_write_slow" : Str) == "_steps_left") = false by decide +kernel), (show (("_write_slow" : Str) == "_is_on") = false by decide +kernel), (show (("_write_slow" : Str) == "_is_done") = false by decide +kernel)]
theorem pF_no__sync_slow {a b c d e f g h i j k l m : V} : (pF a b c d e f g h i j k l m).lookup ("_sync_slow" : Str) = none := by
  unfold pF
  simp only [List.lookup, (show (("_sync_slow" : Str) == "_blocks") = false by decide +kernel), (show (("_sync_slow" : Str) == "_rules") = false by decide +kernel), (show (("_sync_slow" : Str) == "_recipes") = false by decide +kernel), (show (("_sync_slow" : Str) == "_slow") = false by decide +kernel), (show (("_sync_slow" : Str) == "_fast") = false by decide +kernel), (show (("_sync_slow" : Str) == "_memory") = false by decide +kernel), (show (("_sync_slow" : Str) == "_counts_of_dead") = false by decide +kernel), (show (("_sync_slow" : Str) == "_requests") = false by decide +kernel), (show (("_sync_slow" : Str) == "_hits") = false by decide +kernel), (show (("_sync_slow" : Str) == "_next_turn") = false by decide +kernel), (show (("_sync_slow" : Str) == "_steps_left") = false by decide +kernel), (show (("_sync_slow" : Str) == "_is_on") = false by decide +kernel), (show (("_sync_slow" : Str) == "_is_done") = false by decide +kernel)]
theorem pF_no__write_fast {a b c d e f g h i j k l m : V} : (pF a b c d e f g h i j k l m).lookup ("_write_fast" : Str) = none := by
  unfold pF
  simp only [List.lookup, (show (("_write_fast" : Str) == "_blocks") = false by decide +kernel), (show (("_write_fast" : Str) == "_rules") = false by decide +kernel), (show (("_write_fast" : Str) == "_recipes") = false by decide +kernel), (show (("_write_fast" : Str) == "_slow") = false by decide +kernel), (show (("_write_fast" : Str) == "_fast") = false by decide +kernel), (show (("_write_fast" : Str) == "_memory") = false by decide +kernel), (show (("_write_fast" : Str) == "_counts_of_dead") = false by decide +kernel), (show (("_write_fast" : Str) == "_requests") = false by decide +kernel), (show (("_write_fast" : Str) == "_hits") = false by decide +kernel), (show (("_write_fast" : Str) == "_next_turn") = false by decide +kernel), (show (("_write_fast" : Str) == "_steps_left") = false by decide +kernel), (show (("_write_fast" : Str) == "_is_on") = false by decide +kernel), (show (("_write_fast" : Str) == "_is_done") = false by decide +kernel)]
theorem pF_no__write_record {a b c d e f g h i j k l m : V} : (pF a b c d e f g h i j k l m).lookup ("_write_record" : Str) = none := by
  unfold pF
  simp only [List.lookup, (show (("_write_record" : Str) == "_blocks") = false by decide +kernel), (show (("_write_record" : Str) == "_rules") = false by decide +kernel), (show (("_write_record" : Str) == "_recipes") = false by decide +kernel), (show (("_write_record" : Str) == "_slow") = false by decide +kernel), (show (("_write_record" : Str) == "_fast") = false by decide +kernel), (show (("_write_record" : Str) == "_memory") = false by decide +kernel), (show (("_write_record" : Str) == "_counts_of_dead") = false by decide +kernel), (show (("_write_record" : Str) == "_requests") = false by decide +kernel), (show (("_write_record" : Str) == "_hits") = false by decide +kernel), (show (("_write_record" : Str) == "_next_turn") = false by decide +kernel), (show (("_write_record" : Str) == "_steps_left") = false by decide +kernel), (show (("_write_record" : Str) == "_is_on") = false by decide +kernel), (show (("_write_record" : Str) == "_is_done") = false by decide +kernel)]
theorem pF_no__sync_fast {a b c d e f g h i j k l m : V} : (pF a b c d e f g h i j k l m).lookup ("_sync_fast" : Str) = none := by
  unfold pF
  simp only [List.lookup, (show (("_sync_fast" : Str) == "_blocks") = false by decide +kernel), (show (("_sync_fast" : Str) == "_rules") = false by decide +kernel), (show (("_sync_fast" : Str) == "_recipes") = false by decide +kernel), (show (("_sync_fast" : Str) == "_slow") = false by decide +kernel), (show (("_sync_fast" : Str) == "_fast") = false by decide +kernel), (show (("_sync_fast" : Str) == "_memory") = false by decide +kernel), (show (("_sync_fast" : Str) == "_counts_of_dead") = false by decide +kernel), (show (("_sync_fast" : Str) == "_requests") = false by decide +kernel), (show (("_sync_fast" : Str) == "_hits") = false by decide +kernel), (show (("_sync_fast" : Str) == "_next_turn") = false by decide +kernel), (show (("_sync_fast" : Str) == "_steps_left") = false by decide +kernel), (show (("_sync_fast" : Str) == "_is_on") = false by decide +kernel), (show (("_sync_fast" : Str) == "_is_done") = false by decide +kernel)]
theorem pF_no__turn_off {a b c d e f g h i j k l m : V} : (pF a b c d e f g h i j k l m).lookup ("_turn_off" : Str) = none := by
  unfold pF
  simp only [List.lookup, (show (("_turn_off" : Str) == "_blocks") = false by decide +kernel), (show (("_turn_off" : Str) == "_rules") = false by decide +kernel), (show (("_turn_off" : Str) == "_recipes") = false by decide +kernel), (show (("_turn_off" : Str) == "_slow") = false by decide +kernel), (show (("_turn_off" : Str) == "_fast") = false by decide +kernel), (show (("_turn_off" : Str) == "_memory") = false by decide +kernel), (show (("_turn_off" : Str) == "_counts_of_dead") = false by decide +kernel), (show (("_turn_off" : Str) == "_requests") = false by decide +kernel), (show (("_turn_off" : Str) == "_hits") = false by decide +kernel), (show (("_turn_off" : Str) == "_next_turn") = false by decide +kernel), (show (("_turn_off" : Str) == "_steps_left") = false by decide +kernel), (show (("_turn_off" : Str) == "_is_on") = false by decide +kernel), (show (("_turn_off" : Str) == "_is_done") = false by decide +kernel)]
theorem pF_no__put_in_fast {a b c d e f g h i j k l m : V} : (pF a b c d e f g h i j k l m).lookup ("_put_in_fast" : Str) = none := by
  unfold pF
  simp only [List.lookup, (show (("_put_in_fast" : Str) == "_blocks") = false by decide +kernel), (show (("_put_in_fast" : Str) == "_rules") = false by decide +kernel), (show (("_put_in_fast" : Str) == "_recipes") = false by decide +kernel), (show (("_put_in_fast" : Str) == "_slow") = false by decide +kernel), (show (("_put_in_fast" : Str) == "_fast") = false by decide +kernel), (show (("_put_in_fast" : Str) == "_memory") = false by decide +kernel), (show (("_put_in_fast" : Str) == "_counts_of_dead") = false by decide +kernel), (show (("_put_in_fast" : Str) == "_requests") = false by decide +kernel), (show (("_put_in_fast" : Str) == "_hits") = false by decide +kernel), (show (("_put_in_fast" : Str) == "_next_turn") = false by decide +kernel), (show (("_put_in_fast" : Str) == "_steps_left") = false by decide +kernel), (show (("_put_in_fast" : Str) == "_is_on") = false by decide +kernel), (show (("_put_in_fast" : Str) == "_is_done") = false by decide +kernel)]
theorem pF_no__count_dead {a b c d e f g h i j k l m : V} : (pF a b c d e f g h i j k l m).lookup ("_count_dead" : Str) = none := by
  unfold pF
  simp only [List.lookup, (show (("_count_dead" : Str) == "_blocks") = false by decide +kernel), (show (("_count_dead" : Str) == "_rules") = false by decide +kernel), (show (("_count_dead" : Str) == "_recipes") = false by decide +kernel), (show (("_count_dead" : Str) == "_slow") = false by decide +kernel), (show (("_count_dead" : Str) == "_fast") = false by decide +kernel), (show (("_count_dead" : Str) == "_memory") = false by decide +kernel), (show (("_count_dead" : Str) == "_counts_of_dead") = false by decide +kernel), (show (("_count_dead" : Str) == "_requests") = false by decide +kernel), (show (("_count_dead" : Str) == "_hits") = false by decide +kernel), (show (("_count_dead" : Str) == "_next_turn") = false by decide +kernel), (show (("_count_dead" : Str) == "_steps_left") = false by decide +kernel), (show (("_count_dead" : Str) == "_is_on") = false by decide +kernel), (show (("_count_dead" : Str) == "_is_done") = false by decide +kernel)]
theorem pF_no__find_records {a b c d e f g h i j k l m : V} : (pF a b c d e f g h i j k l m).lookup ("_find_records" : Str) = none := by
  unfold pF
  simp only [List.lookup, (show (("_find_records" : Str) == "_blocks") = false by decide +kernel), (show (("_find_records" : Str) == "_rules") = false by decide +kernel), (show (("_find_records" : Str) == "_recipes") = false by decide +kernel), (show (("_find_records" : Str) == "_slow") = false by decide +kernel), (show (("_find_records" : Str) == "_fast") = false by decide +kernel), (show (("_find_records" : Str) == "_memory") = false by decide +kernel), (show (("_find_records" : Str) == "_counts_of_dead") = false by decide +kernel), (show (("_find_records" : Str) == "_requests") = false by decide +kernel), (show (("_find_records" : Str) == "_hits") = false by decide +kernel), (show (("_find_records" : Str) == "_next_turn") = false by decide +kernel), (show (("_find_records" : Str) == "_steps_left") = false by decide +kernel), (show (("_find_records" : Str) == "_is_on") = false by decide +kernel), (show (("_find_records" : Str) == "_is_done") = false by decide +kernel)]
/-! ### attributes -/
def rF (a b c d : V) : List (Str × V) := [("_writing", a), ("_reading", b), ("_choice", c), ("_bound", d)]
theorem rnf0_1 : ¬ (("_writing" : Str) = "_reading") := by decide +kernel
theorem rbf0_1 : (("_writing" : Str) == "_reading") = false := by decide +kernel
theorem rnf0_2 : ¬ (("_writing" : Str) = "_choice") := by decide +kernel
theorem rbf0_2 : (("_writing" : Str) == "_choice") = false := by decide +kernel
theorem rnf0_3 : ¬ (("_writing" : Str) = "_bound") := by decide +kernel
theorem rbf0_3 : (("_writing" : Str) == "_bound") = false := by decide +kernel
theorem rnf1_0 : ¬ (("_reading" : Str) = "_writing") := by decide +kernel
theorem rbf1_0 : (("_reading" : Str) == "_writing") = false := by decide +kernel
theorem rnf1_2 : ¬ (("_reading" : Str) = "_choice") := by decide +kernel
theorem rbf1_2 : (("_reading" : Str) == "_choice") = false := by decide +kernel
theorem rnf1_3 : ¬ (("_reading" : Str) = "_bound") := by decide +kernel
theorem rbf1_3 : (("_reading" : Str) == "_bound") = false := by decide +kernel
theorem rnf2_0 : ¬ (("_choice" : Str) = "_writing") := by decide +kernel
theorem rbf2_0 : (("_choice" : Str) == "_writing") = false := by decide +kernel
theorem rnf2_1 : ¬ (("_choice" : Str) = "_reading") := by decide +kernel
theorem rbf2_1 : (("_choice" : Str) == "_reading") = false := by decide +kernel
theorem rnf2_3 : ¬ (("_choice" : Str) = "_bound") := by decide +kernel
theorem rbf2_3 : (("_choice" : Str) == "_bound") = false := by decide +kernel
theorem rnf3_0 : ¬ (("_bound" : Str) = "_writing") := by decide +kernel
theorem rbf3_0 : (("_bound" : Str) == "_writing") = false := by decide +kernel
theorem rnf3_1 : ¬ (("_bound" : Str) = "_reading") := by decide +kernel
theorem rbf3_1 : (("_bound" : Str) == "_reading") = false := by decide +kernel
theorem rnf3_2 : ¬ (("_bound" : Str) = "_choice") := by decide +kernel
theorem rbf3_2 : (("_bound" : Str) == "_choice") = false := by decide +kernel
theorem rbf0_0 : (("_writing" : Str) == "_writing") = true := by decide +kernel
theorem rbf1_1 : (("_reading" : Str) == "_reading") = true := by decide +kernel
theorem rbf2_2 : (("_choice" : Str) == "_choice") = true := by decide +kernel
theorem rbf3_3 : (("_bound" : Str) == "_bound") = true := by decide +kernel
theorem rF_get0 {a b c d : V} : (rF a b c d).lookup ("_writing" : Str) = some a := by
  unfold rF
  simp only [List.lookup, rbf0_0]
theorem rF_put0 {a b c d z : V} : putF "_writing" z (rF a b c d) = rF z b c d := by
  unfold rF
  simp only [putF, if_true, eq_self_iff_true]
theorem rF_get1 {a b c d : V} : (rF a b c d).lookup ("_reading" : Str) = some b := by
  unfold rF
  simp only [List.lookup, rbf1_0, rbf1_1]
theorem rF_put1 {a b c d z : V} : putF "_reading" z (rF a b c d) = rF a z c d := by
  unfold rF
  simp only [putF, if_neg rnf0_1, if_true, eq_self_iff_true]
theorem rF_get2 {a b c d : V} : (rF a b c d).lookup ("_choice" : Str) = some c := by
  unfold rF
  simp only [List.lookup, rbf2_0, rbf2_1, rbf2_2]
theorem rF_put2 {a b c d z : V} : putF "_choice" z (rF a b c d) = rF a b z d := by
  unfold rF
  simp only [putF, if_neg rnf0_2, if_neg rnf1_2, if_true, eq_self_iff_true]
theorem rF_get3 {a b c d : V} : (rF a b c d).lookup ("_bound" : Str) = some d := by
  unfold rF
  simp only [List.lookup, rbf3_0, rbf3_1, rbf3_2, rbf3_3]
theorem rF_put3 {a b c d z : V} : putF "_bound" z (rF a b c d) = rF a b c z := by
  unfold rF
  simp only [putF, if_neg rnf0_3, if_neg rnf1_3, if_neg rnf2_3, if_true, eq_self_iff_true]
theorem rF_made {a b c d : V} : (putF "_bound" d (putF "_choice" c (putF "_reading" b (putF "_writing" a [])))) = rF a b c d := by
  unfold rF
  simp only [putF, if_neg rnf0_1, if_neg rnf0_2, if_neg rnf0_3, if_neg rnf1_2, if_neg rnf1_3, if_neg rnf2_3]
def qF (a b c d : V) : List (Str × V) := [("_through", a), ("_back", b), ("_around", c), ("_clean", d)]
theorem qnf0_1 : ¬ (("_through" : Str) = "_back") := by decide +kernel
theorem qbf0_1 : (("_through" : Str) == "_back") = false := by decide +kernel
theorem qnf0_2 : ¬ (("_through" : Str) = "_around") := by decide +kernel
theorem qbf0_2 : (("_through" : Str) == "_around") = false := by decide +kernel
theorem qnf0_3 : ¬ (("_through" : Str) = "_clean") := by decide +kernel
theorem qbf0_3 : (("_through" : Str) == "_clean") = false := by decide +kernel
theorem qnf1_0 : ¬ (("_back" : Str) = "_through") := by decide +kernel
theorem qbf1_0 : (("_back" : Str) == "_through") = false := by decide +kernel
theorem qnf1_2 : ¬ (("_back" : Str) = "_around") := by decide +kernel
theorem qbf1_2 : (("_back" : Str) == "_around") = false := by decide +kernel
theorem qnf1_3 : ¬ (("_back" : Str) = "_clean") := by decide +kernel
theorem qbf1_3 : (("_back" : Str) == "_clean") = false := by decide +kernel
theorem qnf2_0 : ¬ (("_around" : Str) = "_through") := by decide +kernel
theorem qbf2_0 : (("_around" : Str) == "_through") = false := by decide +kernel
theorem qnf2_1 : ¬ (("_around" : Str) = "_back") := by decide +kernel
theorem qbf2_1 : (("_around" : Str) == "_back") = false := by decide +kernel
theorem qnf2_3 : ¬ (("_around" : Str) = "_clean") := by decide +kernel
theorem qbf2_3 : (("_around" : Str) == "_clean") = false := by decide +kernel
theorem qnf3_0 : ¬ (("_clean" : Str) = "_through") := by decide +kernel
theorem qbf3_0 : (("_clean" : Str) == "_through") = false := by decide +kernel
theorem qnf3_1 : ¬ (("_clean" : Str) = "_back") := by decide +kernel
theorem qbf3_1 : (("_clean" : Str) == "_back") = false := by decide +kernel
theorem qnf3_2 : ¬ (("_clean" : Str) = "_around") := by decide +kernel
theorem qbf3_2 : (("_clean" : Str) == "_around") = false := by decide +kernel
theorem qbf0_0 : (("_through" : Str) == "_through") = true := by decide +kernel
theorem qbf1_1 : (("_back" : Str) == "_back") = true := by decide +kernel
theorem qbf2_2 : (("_around" : Str) == "_around") = true := by decide +kernel
theorem qbf3_3 : (("_clean" : Str) == "_clean") = true := by decide +kernel
theorem qF_get0 {a b c d : V} : (qF a b c d).lookup ("_through" : Str) = some a := by
  unfold qF
  simp only [List.lookup, qbf0_0]
theorem qF_put0 {a b c d z : V} : putF "_through" z (qF a b c d) = qF z b c d := by
  unfold qF
  simp only [putF, if_true, eq_self_iff_true]
theorem qF_get1 {a b c d : V} : (qF a b c d).lookup ("_back" : Str) = some b := by
  unfold qF
  simp only [List.lookup, qbf1_0, qbf1_1]
theorem qF_put1 {a b c d z : V} : putF "_back" z (qF a b c d) = qF a z c d := by
  unfold qF
  simp only [putF, if_neg qnf0_1, if_true, eq_self_iff_true]
theorem qF_get2 {a b c d : V} : (qF a b c d).lookup ("_around" : Str) = some c := by
  unfold qF
  simp only [List.lookup, qbf2_0, qbf2_1, qbf2_2]
theorem qF_put2 {a b c d z : V} : putF "_around" z (qF a b c d) = qF a b z d := by
  unfold qF
  simp only [putF, if_neg qnf0_2, if_neg qnf1_2, if_true, eq_self_iff_true]
theorem qF_get3 {a b c d : V} : (qF a b c d).lookup ("_clean" : Str) = some d := by
  unfold qF
  simp only [List.lookup, qbf3_0, qbf3_1, qbf3_2, qbf3_3]
theorem qF_put3 {a b c d z : V} : putF "_clean" z (qF a b c d) = qF a b c z := by
  unfold qF
  simp only [putF, if_neg qnf0_3, if_neg qnf1_3, if_neg qnf2_3, if_true, eq_self_iff_true]
theorem qF_made {a b c d : V} : (putF "_clean" d (putF "_around" c (putF "_back" b (putF "_through" a [])))) = qF a b c d := by
  unfold qF
  simp only [putF, if_neg qnf0_1, if_neg qnf0_2, if_neg qnf0_3, if_neg qnf1_2, if_neg qnf1_3, if_neg qnf2_3]
/-! ### enumerate over a tuple -/
section
open PyProof.Rows
variable {prog : Program} {w : World}
theorem et_next {A : Around} {E : Value → Shared → Prop} {s : Shared} {c t : Addr} {i : Nat} {us : Array Value} {u : Value} {Q : Value → Shared → Prop} (hc : IsTupIter s.heap c t i) (ht : IsTup s.heap t us) (hu : us[i]? = some u)
    (q : ∀ g, IsTupIter g c t (i + 1) → Heap.SameBut c s.heap g → Q u { s with heap := g }) : wpAny (model prog w) A (Builtin.SmallTypes.nextOf (.ref c)) Q E s := by
  unfold Builtin.SmallTypes.nextOf
  exact wpAny_bind (special_tup_item hc ht hu fun g a b => wpAny_pure (q g a b))
theorem et_draws {A : Around} (hh : A.handled = none) (c t : Addr) (hne : t ≠ c) (us : Array Value) : Draws prog w A c [c, t] us.size (fun i v => us[i]? = some v) (fun i h => IsTupIter h c t i ∧ IsTup h t us) where
  live := fun _ _ z => z.1.elim fun o q => ⟨o, q.1⟩
  frame := fun _ _ _ z hk => by
    obtain ⟨⟨o, q1, q2⟩, o', r1, r2⟩ := z
    exact ⟨⟨o, hk c (by simp) o q1, q2⟩, o', hk t (by simp) o' r1, r2⟩
  item := fun i s Q E hi z q => by
    refine et_next z.1 z.2 (u := us[i]) (by simp [hi]) fun g a b => ?_
    obtain ⟨o', r1, r2⟩ := z.2
    exact q _ g s.toks (by simp [hi]) ⟨a, o', (b.2 t hne).trans r1, r2⟩ b
  done := fun s Q E z q => by
    unfold Builtin.SmallTypes.nextOf
    refine wpAny_bind (special_tup_end hh z.1 z.2 (by simp) fun e g x b => ?_)
    obtain ⟨a, o, vs, rfl, h1, h2, _⟩ := x
    exact q g a b ⟨o, h1, h2⟩
theorem et_new (t : Addr) (us : Array Value) (n : Nat) (dct : Option Addr) (sl : Array (Option Value)) :
    Meets (Builtin.«enumerate.__new__» ⟨[.type "enumerate", .ref t], []⟩) (fun _ R s => s.heap.get? t = some { cls := .type "tuple", dict := dct, data := .seq us n, slots := sl } ∧
      R (.ok (.ret (.ref (s.heap.push { cls := .type "tuple_iterator", data := .fields #[.ref t, .int 0 0] }).objs.size)))
        { s with heap := (s.heap.push { cls := .type "tuple_iterator", data := .fields #[.ref t, .int 0 0] }).push { cls := .type "enumerate", data := .fields #[.none, .bool false, .ref s.heap.objs.size, rawInt 0, .none, .none] } }) :=
  .of_wp fun prog w A R s h => by
    obtain ⟨hp, gs, dr, tk, os⟩ := s
    obtain ⟨hl, h⟩ := h
    have sub := sub_enumerate
    have tup : Heap.IsTuple (Shared.heap ⟨hp, gs, dr, tk, os⟩) t us := ⟨_, hl, rfl, n, rfl⟩
    wp_walk using AutoSeq1.wpAny_loadPart' hl
    refine wpAny_stack_any fun st => wpAny_pure ?_
    split
    · rename_i k _ _ _ _ _
      cases (k == Value.type "enumerate") <;> (wp_walk using AutoSeq1.wpAny_loadPart' hl, wpAny_pyIter_tuple tup; exact ⟨_, rfl, h⟩)
    · wp_walk using AutoSeq1.wpAny_loadPart' hl, wpAny_pyIter_tuple tup
      exact ⟨_, rfl, h⟩
theorem et_call {A : Around} {E : Value → Shared → Prop} {s : Shared} {t : Addr} {us : Array Value} {Q : Value → Shared → Prop} (ht : IsTup s.heap t us)
    (q : ∀ g, IsEnum g (s.heap.objs.size + 1) s.heap.objs.size 0 .none → IsTupIter g s.heap.objs.size t 0 → (∀ b o, s.heap.get? b = some o → g.get? b = some o) → Q (.ref (s.heap.objs.size + 1)) { s with heap := g }) :
    wpAny (model prog w) A (call (.type "enumerate") [.ref t]) Q E s := by
  obtain ⟨⟨cl, dct, dt, sl⟩, hl, ec, n, ed⟩ := ht
  have ec' : cl = .type "tuple" := ec
  have ed' : dt = .seq us n := ed
  subst ec' ed'
  refine callType_new F.called_enumerate (by decide) (F.typeCall_enumerate_1 _) (F.newCall_enumerate_1 _) (fun o => F.args_object_init_2 o _) F.entry_enumerate_new (et_new t us n dct sl) ⟨hl, ?_⟩
  have z1 : (s.heap.push { cls := .type "tuple_iterator", data := .fields #[.ref t, .int 0 0] }).objs.size = s.heap.objs.size + 1 := Heap.size_push ..
  show _ ∧ _
  rw [z1]
  have e1 : IsEnum ((s.heap.push { cls := .type "tuple_iterator", data := .fields #[.ref t, .int 0 0] }).push { cls := .type "enumerate", data := .fields #[.none, .bool false, .ref s.heap.objs.size, rawInt 0, .none, .none] }) (s.heap.objs.size + 1) s.heap.objs.size 0 .none := by
    have z2 := Heap.get?_push_size (s.heap.push { cls := .type "tuple_iterator", data := .fields #[.ref t, .int 0 0] }) (o := { cls := .type "enumerate", data := .fields #[.none, .bool false, .ref s.heap.objs.size, rawInt 0, .none, .none] }) rfl
    rw [z1] at z2
    exact z2
  exact ⟨⟨_, e1, rfl⟩, q _ e1 ⟨_, Heap.get?_push_of_some _ (Heap.get?_push_size _ rfl), rfl, rfl⟩ fun b o x => Heap.get?_push_of_some _ (Heap.get?_push_of_some _ x)⟩
end
/-- the tuple at a as it stands at each turn, each item in a new pair -/
def Iet (K : PySem.W.Frag) (a : Addr) : It :=
  ⟨fun i H => ∃ (xs : List V) (x : V), SqT K H a xs ∧ xs[i]? = some x, fun i H v G => ∃ T x, v = .ref T ∧ H T = none ∧ G = upd H T (.tup [.int (i : Nat), x]) ∧ ∀ xs, SqT K H a xs → xs[i]? = some x, fun i H => ∃ xs : List V, SqT K H a xs ∧ xs.length ≤ i⟩
section
open PyProof.Rows
theorem turn_et {P : Program} {w : World} {K : PySem.W.Frag} {elts : List Expr} {kk : Nat} {tpos : Pos} (a e c : Addr) :
    Turn P w K (.Tuple elts kk tpos) (Iet K a) [e, c] e (fun i h => (∃ old, IsEnum h e c ((i : Nat) : Int) old) ∧ IsTupIter h c a i ∧ e ≠ c ∧ a ≠ c ∧ a ≠ e) where
  mem := by simp
  obj := fun i h z b hb => by
    obtain ⟨⟨old, he⟩, ⟨o, ho, _, hd⟩, _⟩ := z
    rcases (by simpa using hb : b = e ∨ b = c) with q | q
    · rw [q]; exact ⟨_, he, fun v r => nomatch r⟩
    · rw [q]; exact ⟨o, ho, fun v r => by rw [hd] at r; cases r⟩
  keep := fun i h g z k => by
    obtain ⟨⟨old, he⟩, ⟨o, ho, r⟩, n⟩ := z
    exact ⟨⟨old, k e (by simp) _ he⟩, ⟨o, k c (by simp) _ ho, r⟩, n⟩
  item := by
    intro X hP hw hK hc i pins s σ H E I hf z hg
    subst hP hw hK
    obtain ⟨⟨old, he⟩, hit, n1, n2, n3⟩ := z
    obtain ⟨xs, x, hq, hx⟩ := hg
    obtain ⟨its, rv, p, hz⟩ := I.tuple hq
    obtain ⟨u, hu, ru⟩ := rv.get hx
    have le : e < s.heap.objs.size := Heap.lt_size he
    have lc : c < s.heap.objs.size := hit.elim fun _ r => Heap.lt_size r.1
    have hlt : i < its.toArray.size := by
      have := lt_of_at hu
      simpa using this
    refine wpAny_pyNext_enum_itemD (et_draws (A := X.A.in1) (I.ok.hd hc) c a n2 its.toArray) he ⟨hit, p⟩ hlt n1 (fun y => (by simpa using y : e = c ∨ e = a).elim n1 (Ne.symm n3)) fun u' g tk hu' ho hit' hT _ hk => ?_
    have eu : u' = u := by
      have h1 : its.toArray[i]? = some u' := hu'
      rw [List.getElem?_toArray, hu] at h1
      exact (Option.some.inj h1).symm
    subst eu
    refine ⟨_, rfl, wpAny_letOwnedTupleGo_enum (s := { s with heap := g, toks := tk + 1 }) ho fun g2 he2 sb => ?_⟩
    have hT2 : g2.get? s.heap.objs.size = some { cls := .type "tuple", data := .seq #[.int i tk, u'] } := (sb.2 _ (Nat.ne_of_gt le)).trans hT
    have new : ObjOk X.prog X.w (upd H s.heap.objs.size (.tup [.int (i : Nat), x])) g2 s.heap.objs.size (.tup [.int (i : Nat), x]) :=
      ⟨by show 2 ≤ sizeLine; decide, [.int i tk, u'], .cons ⟨_, rfl⟩ (.cons ru .nil), ⟨_, hT2, rfl, _, rfl⟩⟩
    have J : Inv X pins σ (upd H s.heap.objs.size (.tup [.int (i : Nat), x])) { s with heap := g2, toks := tk + 1 } :=
      I.turnedNew (ch := [e, c]) (fun b ob hb q => (sb.2 b (fun y => hb (by simp [y]))).trans (hk b ob (fun y => hb (by simp [y])) (fun y => hb (by simp [y])) q)) hf (Nat.le_refl _) new
    refine ⟨.ref s.heap.objs.size, _, J, rfl, ⟨_, x, rfl, I.hok.fresh (Nat.le_refl _), rfl, fun ys hy => by rw [I.tuple_inj hy hq]; exact hx⟩, ⟨⟨u', ?_⟩, ?_, n1, n2, n3⟩, fun b hb => ?_⟩
    · rw [show ((i + 1 : Nat) : Int) = (i : Int) + 1 by omega]
      exact he2
    · obtain ⟨⟨o, q1, q2⟩, _⟩ := hit'
      exact ⟨o, (sb.2 c (Ne.symm n1)).trans q1, q2⟩
    · have lb : b < s.heap.objs.size := by
        rcases (by simpa using hb : b = e ∨ b = c) with q | q
        · rw [q]; exact le
        · rw [q]; exact lc
      rw [upd_ne (Nat.ne_of_lt lb)]
      exact (hf b hb).1
  done := by
    intro X hP hw hK hc i pins s σ H E I hf z hg
    subst hP hw hK
    obtain ⟨⟨old, he⟩, hit, n1, n2, n3⟩ := z
    obtain ⟨xs, hq, hx⟩ := hg
    obtain ⟨its, rv, p, hz⟩ := I.tuple hq
    obtain ⟨f0, f1, f2, f3, f4, f5⟩ := hf c (by simp)
    have hl := rv.length
    refine wpAny_pyNext_enum_endD (P := fun i v => its.toArray[i]? = some v) (n := i) (fp := [c, a]) (St := fun j h => IsTupIter h c a j ∧ IsTup h a its.toArray ∧ j = i) ?_ he ⟨hit, p, rfl⟩ fun g eb => ⟨rfl, I.turned (t' := s.toks) (fun b o hb q => eb b o hb q) f0 f1 f3 f4 f5⟩
    have D := et_draws (prog := X.prog) (w := X.w) (A := X.A.in1) (I.ok.hd hc) c a n2 its.toArray
    refine ⟨fun j h y => D.live j h ⟨y.1, y.2.1⟩, fun j h h' y k => ⟨(D.frame j h h' ⟨y.1, y.2.1⟩ k).1, (D.frame j h h' ⟨y.1, y.2.1⟩ k).2, y.2.2⟩, fun j s' Q' E' hj y q => ?_, fun s' Q' E' y q => ?_⟩
    · exact absurd hj (by have := y.2.2; omega)
    · unfold Builtin.SmallTypes.nextOf
      refine wpAny_bind (special_tup_end (I.ok.hd hc) y.1 y.2.1 (by simp; omega) fun v g x b => ?_)
      obtain ⟨b', o, vs, rfl, h1, h2, _⟩ := x
      exact q g b' b ⟨o, h1, h2⟩
  self := fun A i s Q E z h => let ⟨⟨_, he⟩, _⟩ := z; wpAny_pyIter_enum he h
def iEnumT (K : PySem.W.Frag) (ta : TA) : TI := fun σ H R => ta σ H fun vs H1 => ∃ a xs, vs = [.ref a] ∧ SqT K H1 a xs ∧ R (Iet K a) H1
theorem pi_enumT {X : Cx} {e : Expr} {ta : TA} {p pos tpos : Pos} {elts : List Expr} {kk : Nat} (hg : Gl X "enumerate") (hm : X.mg "enumerate" = none) (ha : PA X [e] ta) (hs : starEach [e] X.env = [(false, eval e X.env)] := by rfl) :
    PI X (.Tuple elts kk tpos) (.Call (.Name "enumerate" p) [e] [] pos) (iEnumT X.K ta) := by
  refine ⟨fun pins s σ H R I h => Call_ (ld_blt I hg hm boot_enumerate (PyProof.Rows.callWith_type1 (thn (ha.run pos pins s σ H _ I h) fun us s1 ⟨vs, H1, I1, r1, a, xs, ex, hq, q⟩ => ?_) hs rfl))⟩
  subst ex
  cases r1 with
  | cons r rr =>
    cases rr
    cases r
    obtain ⟨its, rv, p', hz⟩ := I1.tuple hq
    have la : a < s1.heap.objs.size := p'.elim fun _ z => Heap.lt_size z.1
    refine et_call p' fun g he hit hk => wpAny_pyIter_enum he ?_
    have I2 : Inv X pins σ H1 { s1 with heap := g } := I1.kept (t' := s1.toks) hk
    refine ⟨s1.heap.objs.size + 1, [s1.heap.objs.size + 1, s1.heap.objs.size], _, _, H1, rfl, I2, turn_et a (s1.heap.objs.size + 1) s1.heap.objs.size, ⟨⟨.none, he⟩, hit, Nat.succ_ne_self _, Nat.ne_of_lt la, Nat.ne_of_lt (Nat.lt_succ_of_lt la)⟩, fun b hb => ?_, q⟩
    have le : s1.heap.objs.size ≤ b := by
      rcases (by simpa using hb : b = s1.heap.objs.size + 1 ∨ b = s1.heap.objs.size) with z | z
      · exact Nat.le_trans (Nat.le_succ _) (Nat.le_of_eq z.symm)
      · exact Nat.le_of_eq z.symm
    exact I1.fpOk le (I1.hok.fresh le)
end
/-- a for over enumerate(t), t a tuple that the body leaves as it is -/
theorem for_enumT {K : PySem.W.Frag} {a : Addr} {xs : List V} {g : TG} {tb : TS} {D : Ends} {σ : L2.St} {H : Hp} (Pv : Nat → L2.St → Hp → Prop) (h0 : Pv 0 σ H) (hl : ∀ i σ H, i ≤ xs.length → Pv i σ H → SqT K H a xs)
    (hs : ∀ i x σ H T, xs[i]? = some x → Pv i σ H → H T = none → g (.ref T) σ (upd H T (.tup [.int (i : Nat), x])) fun σ2 H2 => tb { D with nx := Pv (i + 1), ct := Pv (i + 1), bk := D.nx } σ2 H2) (hd : ∀ σ H, Pv xs.length σ H → D.nx σ H) :
    ∃ W : Nat → Nat → L2.St → Hp → Prop, (∃ m, W 0 m σ H) ∧ ∀ i m σ H, W i m σ H →
      ((Iet K a).stop i H ∧ D.nx σ H) ∨ ((Iet K a).go i H ∧ ∃ N : L2.St → Hp → Prop, (∀ σ' H', N σ' H' → ∃ m', m' < m ∧ W (i + 1) m' σ' H') ∧ ∀ x H', (Iet K a).yld i H x H' → g x σ H' fun σ2 H2 => tb { D with nx := N, ct := N, bk := D.nx } σ2 H2) := by
  refine ⟨fun i m σ H => m = xs.length - i ∧ i ≤ xs.length ∧ Pv i σ H, ⟨xs.length, by simp, Nat.zero_le _, h0⟩, ?_⟩
  rintro i m σ H ⟨rfl, hi, p⟩
  have q := hl i σ H hi p
  by_cases hlt : i < xs.length
  · refine .inr ⟨⟨xs, xs[i], q, by simp [hlt]⟩, Pv (i + 1), fun σ' G p' => ⟨xs.length - (i + 1), by omega, rfl, hlt, p'⟩, fun x G y => ?_⟩
    obtain ⟨T, v, rfl, hT, rfl, hv⟩ := y
    exact hs i v σ H T (hv xs q) p hT
  · have e : i = xs.length := by omega
    subst e
    exact .inl ⟨⟨xs, q, Nat.le_refl _⟩, hd σ H p⟩
/-! ### rules -/
def W0 : List V := [.str "through", .str "back", .str "around"]
def W1 : List V := [.str "keep", .str "pass"]
def W2 : List V := [.str "used", .str "came", .str "rare"]
/-- a word of such a part -/
def WordOf (W : List V) (v : V) : Prop := ∃ z : Str, v = .str z ∧ inV (.str z) W = true
theorem WordOf.flat {W : List V} {v : V} (h : WordOf W v) : flatV v = true := by
  obtain ⟨z, rfl, _⟩ := h
  rfl
theorem WordOf.in_ {W : List V} {v : V} (h : WordOf W v) : inV v W = true := by
  obtain ⟨z, rfl, e⟩ := h
  exact e
def spRInit (C : Addr) : Sp := fun vs H Q _ => ∃ (p dx : Addr) (a b c : V) (n : Int), vs = [.ref p, a, b, c, .int n] ∧ H p = some (.ins C dx []) ∧ WordOf W0 a ∧ WordOf W1 b ∧ WordOf W2 c ∧ 0 ≤ n ∧ n ≤ 8 ∧
  ∀ H' : Hp, Fr [p] H H' → H' p = some (.ins C dx (rF a b c (.int n))) → Q .non H'
/-- an attribute read -/
def spGet (C : Addr) (f : Str) : Sp := fun vs H Q _ => ∃ (a dx : Addr) (fs : List (Str × V)) (v : V), vs = [.ref a] ∧ H a = some (.ins C dx fs) ∧ fs.lookup f = some v ∧ Q v H
section
variable {P : Program} {w : World} {K : PySem.W.Frag} {mg : Str → Option Value} {base : Heap}
theorem ok_rInit (T : Gx K mg) : FnOk P w K mg base CX0 3 T.f_Rules___init__ T.fd_Rules___init__ ["self", "writing", "reading", "choice", "bound"] (spRInit T.C_Rules) := by
  have G_is_number_from : FnOk P w K mg base CX0 2 T.f_is_number_from T.fd_is_number_from ["thing", "least", "most"] (spNumFrom K) := ok_numFrom T
  refine T.F_Rules___init__.ok sc_Rules___init__ (fun vs H Q E h => ?_) (fun cdv A outer s H vs Q E hr h => ?_)
  · obtain ⟨p, dx, a, b, c, n, rfl, _⟩ := h
    rfl
  · obtain ⟨p, dx, a, b, c, n, rfl, hp, ha, hb, hc, h0, h8, k⟩ := h
    refine ⟨_, (pss_cons (ps_set (i := 5) sc_Rules___init__.nd rfl (.inl rfl) (pe_tup (pa_cons (pv 1) (pa_cons (pv 2) (pa_cons (pv 3) pa_nil)))))
      (pss_cons (ps_for PassesOwn.never rfl (pi_enumT (by rfl) T.z_enumerate (pa_cons (pe_glob (v := .ref T.A_RULE_WORDS) (by rfl) T.g_RULE_WORDS rfl) pa_nil)) (pg_tup (by rfl) (pgs_cons (pg_name (i := 6) sc_Rules___init__.nd rfl (.inl rfl)) (pgs_cons (pg_name (i := 7) sc_Rules___init__.nd rfl (.inl rfl)) pgs_nil))) (pss_one (ps_if (pt_cmpR op_notIn_seq (pe_ix ix_tup (pv 5) (pv 6) (fun _ _ => rfl)) (pv 7) (by rfl)) (pss_one ps_never) pss_nil)))
      (pss_cons (ps_if (pt_not (pt_val (pe_call G_is_number_from (hr.mono (by first | decide | omega)) (by rfl) T.g_is_number_from T.F_is_number_from.kp (b_is_number_from T) .nil pass0 (pa_cons (pv 4) (pa_cons pe_int (pa_cons (pe_glob (v := .int (8)) (by rfl) T.c_MOST_BOUND ⟨_, rfl⟩) pa_nil)))))) (pss_one ps_never) pss_nil)
      (pss_cons (ps_fld (pv 0) (pv 1) rfl)
      (pss_cons (ps_fld (pv 0) (pv 2) rfl)
      (pss_cons (ps_fld (pv 0) (pv 3) rfl)
      (pss_one (ps_fld (pv 0) (pv 4) rfl)))))))), ?_⟩
    refine ⟨_, rfl, _, rfl, _, rfl, sz_le (by simp), fun t ht => ?_⟩
    have pt : p ≠ t := ne_of_none hp ht
    refine ⟨T.A_RULE_WORDS, _, rfl, T.k_RULE_WORDS _, for_enumT (K := K) (a := T.A_RULE_WORDS) (xs := [.ref T.A_RULE_WORDS_0, .ref T.A_RULE_WORDS_1, .ref T.A_RULE_WORDS_2]) (fun i σ H' => Fr [] H H' ∧ H' t = some (.tup [a, b, c]) ∧ ∃ v6 v7 : Option V, σ = [some (.ref p), some a, some b, some c, some (.int n), some (.ref t), v6, v7])
      ⟨Fr.new ht, upd_same, none, none, rfl⟩ (fun _ _ H' _ _ => T.k_RULE_WORDS H') ?_ ?_⟩
    · rintro i x σ H1 U hx ⟨f1, e1, v6, v7, rfl⟩ hU
      have e2 : (upd H1 U (.tup [.int (i : Nat), x])) t = some (.tup [a, b, c]) := (upd_ne (ne_of_none e1 hU)).trans e1
      have f2 : Fr [] H (upd H1 U (.tup [.int (i : Nat), x])) := f1.trans (Fr.new hU)
      refine ⟨U, _, rfl, SqT.of upd_same, rfl, _, _, rfl, _, _, rfl, rfl, ?_⟩
      obtain ⟨v, W, B, hv, hxB, hW, hvW⟩ : ∃ (v : V) (W : List V) (B : Addr), ([a, b, c] : List V)[i]? = some v ∧ x = .ref B ∧ (∀ H', SqT K H' B W ∧ W.all flatV = true) ∧ (flatV v = true ∧ inV v W = true) := by
        match i, hx with
        | 0, hx => cases hx; exact ⟨a, _, _, rfl, rfl, fun H' => ⟨T.k_RULE_WORDS_0 H', rfl⟩, ha.flat, ha.in_⟩
        | 1, hx => cases hx; exact ⟨b, _, _, rfl, rfl, fun H' => ⟨T.k_RULE_WORDS_1 H', rfl⟩, hb.flat, hb.in_⟩
        | 2, hx => cases hx; exact ⟨c, _, _, rfl, rfl, fun H' => ⟨T.k_RULE_WORDS_2 H', rfl⟩, hc.flat, hc.in_⟩
        | i + 3, hx => simp at hx
      subst hxB
      refine ⟨_, rfl, _, rfl, t, _, (i : Int), v, rfl, rfl, SqT.of e2, atI_nat hv, _, rfl, B, W, rfl, .inr (hW _).1, hvW.1, (hW H).2, _, rfl, ?_⟩
      rw [hvW.2]
      exact iteF ⟨f2, e2, _, _, rfl⟩
    · rintro σ H1 ⟨f1, e1, v6, v7, rfl⟩
      refine ⟨_, rfl, .int n, 0, 8, rfl, .inl ⟨n, rfl, _, rfl, ?_⟩⟩
      have e : (decide ((0 : Int) ≤ n) && decide (n ≤ 8)) = true := by
        rw [Bool.and_eq_true, decide_eq_true_eq, decide_eq_true_eq]
        omega
      rw [e]
      refine iteF ?_
      have hp1 := f1 _ _ hp (by simp)
      refine ⟨_, rfl, _, rfl, p, T.C_Rules, dx, [], rfl, hp1, T.cl_Rules, T.n_Rules__writing, by simp, ?_⟩
      refine ⟨_, rfl, _, rfl, p, T.C_Rules, dx, _, rfl, upd_same, T.cl_Rules, T.n_Rules__reading, Nat.lt_of_le_of_lt (putF_len _ _ _) (by simp), ?_⟩
      refine ⟨_, rfl, _, rfl, p, T.C_Rules, dx, _, rfl, upd_same, T.cl_Rules, T.n_Rules__choice, Nat.lt_of_le_of_lt (putF_len _ _ _) (Nat.lt_of_le_of_lt (Nat.succ_le_succ (putF_len _ _ _)) (by simp)), ?_⟩
      refine ⟨_, rfl, _, rfl, p, T.C_Rules, dx, _, rfl, upd_same, T.cl_Rules, T.n_Rules__bound, Nat.lt_of_le_of_lt (putF_len _ _ _) (Nat.lt_of_le_of_lt (Nat.succ_le_succ (Nat.le_trans (putF_len _ _ _) (Nat.succ_le_succ (putF_len _ _ _)))) (by simp)), ?_⟩
      rw [rF_made, upd_upd, upd_upd, upd_upd]
      exact k _ (fun b o e nb => by rw [upd_ne (by simpa using nb)]; exact f1 b o e (by simp)) upd_same
theorem ok_reading (T : Gx K mg) : FnOk P w K mg base CX0 1 T.f_Rules_reading T.fd_Rules_reading ["self"] (spGet T.C_Rules "_reading") := by
  refine T.F_Rules_reading.ok sc_Rules_reading (fun vs H Q E h => ?_) (fun cdv A outer s H vs Q E hr h => ?_)
  · obtain ⟨a, dx, fs, v, rfl, _⟩ := h
    rfl
  · obtain ⟨a, dx, fs, v, rfl, ha, hv, k⟩ := h
    refine ⟨_, (pss_one (ps_ret (pe_fld (pv 0) rfl))), ?_⟩
    exact ⟨_, rfl, a, T.C_Rules, _, _, _, rfl, ha, T.cl_Rules, T.n_Rules__reading, hv, k⟩
theorem ok_choice (T : Gx K mg) : FnOk P w K mg base CX0 1 T.f_Rules_choice T.fd_Rules_choice ["self"] (spGet T.C_Rules "_choice") := by
  refine T.F_Rules_choice.ok sc_Rules_choice (fun vs H Q E h => ?_) (fun cdv A outer s H vs Q E hr h => ?_)
  · obtain ⟨a, dx, fs, v, rfl, _⟩ := h
    rfl
  · obtain ⟨a, dx, fs, v, rfl, ha, hv, k⟩ := h
    refine ⟨_, (pss_one (ps_ret (pe_fld (pv 0) rfl))), ?_⟩
    exact ⟨_, rfl, a, T.C_Rules, _, _, _, rfl, ha, T.cl_Rules, T.n_Rules__choice, hv, k⟩
end
/-! ### tuples and lists of words, as data -/
def sV (zs : List Str) : List V := zs.map V.str
def sD (zs : List Str) : List PyData := zs.map PyData.str
theorem sV_len (zs : List Str) : (sV zs).length = zs.length := List.length_map _
theorem sV_flat (zs : List Str) : (sV zs).all flatV = true := by
  unfold sV
  rw [List.all_map]
  induction zs with
  | nil => rfl
  | cons z r ih =>
    rw [List.all_cons, ih]
    rfl
theorem inV_str (z : Str) (zs : List Str) : inV (.str z) (sV zs) = decide (z ∈ zs) := by
  unfold inV sV
  rw [List.any_map]
  induction zs with
  | nil => rfl
  | cons y r ih =>
    rw [List.any_cons, ih]
    show ((y == z) || decide (z ∈ r)) = decide (z ∈ y :: r)
    by_cases h : y = z
    · subst h
      simp
    · have h' : ¬ z = y := fun e => h e.symm
      have hb : (y == z) = false := beq_eq_false_iff_ne.mpr h
      rw [hb]
      simp [h']
theorem sV_at {zs : List Str} {i : Nat} {x : V} (h : (sV zs)[i]? = some x) : ∃ z, x = .str z ∧ zs[i]? = some z := by
  unfold sV at h
  rw [List.getElem?_map] at h
  cases e : zs[i]? with
  | none => rw [e] at h; cases h
  | some u =>
    rw [e] at h
    exact ⟨u, (Option.some.inj h).symm, rfl⟩
theorem dpAll_str {K : PySem.W.Frag} {H : Hp} : ∀ zs : List Str, DpAll K H (sV zs) (sD zs)
  | [] => .nil
  | z :: r => .cons (.str z) (dpAll_str r)
/-- words that a text can hold -/
def GoodW (zs : List Str) : Prop := ∀ z ∈ zs, PyData.strOk z = true
theorem lay_str : ∀ {zs : List Str}, GoodW zs → PyData.canLayAll0 (sD zs) = true
  | [], _ => rfl
  | z :: r, h => by
    show (PyData.canLay0 (.str z) && PyData.canLayAll0 (sD r)) = true
    rw [lay_str (fun y hy => h y (List.mem_cons_of_mem _ hy))]
    have := h z List.mem_cons_self
    simpa [PyData.canLay0] using this
theorem dep_str : ∀ zs : List Str, PyData.depthAll (sD zs) ≤ 1
  | [] => by simp [sD, PyData.depthAll]
  | z :: r => by
    have h := dep_str r
    show PyData.depthAll (PyData.str z :: sD r) ≤ 1
    simp only [PyData.depthAll]
    have hx : PyData.depth (.str z) ≤ 1 := by simp [PyData.depth]
    omega
theorem shaped_str {zs : List Str} (h : GoodW zs) : SeqAt.shaped (.tuple (sD zs)) = true := by
  unfold SeqAt.shaped
  rw [Bool.and_eq_true, decide_eq_true_eq]
  refine ⟨lay_str h, ?_⟩
  have := dep_str zs
  simp only [PyData.depth]
  omega
theorem shapedL_str {zs : List Str} (h : GoodW zs) : SeqAt.shaped (.list (sD zs)) = true := by
  unfold SeqAt.shaped
  rw [Bool.and_eq_true, decide_eq_true_eq]
  refine ⟨lay_str h, ?_⟩
  have := dep_str zs
  simp only [PyData.depth]
  omega
theorem eqvAll_str : ∀ a b : List Str, PyData.eqvAll (sD a) (sD b) = decide (a = b)
  | [], [] => by simp [sD, PyData.eqvAll]
  | [], _ :: _ => by simp [sD, PyData.eqvAll]
  | _ :: _, [] => by simp [sD, PyData.eqvAll]
  | x :: a, y :: b => by
    have ih := eqvAll_str a b
    show PyData.eqvAll (PyData.str x :: sD a) (PyData.str y :: sD b) = _
    simp only [PyData.eqvAll, ih, PyData.eqv]
    by_cases h1 : x = y
    · subst h1
      by_cases h2 : a = b <;> simp [h2]
    · have hb : (x == y) = false := beq_eq_false_iff_ne.mpr h1
      simp [h1, hb]
theorem eqv_str (a b : List Str) : PyData.eqv (.tuple (sD a)) (.tuple (sD b)) = decide (a = b) := by
  simp only [PyData.eqv]
  exact eqvAll_str a b
/-- a list of tuples of words -/
def tD (zss : List (List Str)) : List PyData := zss.map fun z => PyData.tuple (sD z)
theorem eqvAll_tD : ∀ a b : List (List Str), PyData.eqvAll (tD a) (tD b) = decide (a = b)
  | [], [] => by simp [tD, PyData.eqvAll]
  | [], _ :: _ => by simp [tD, PyData.eqvAll]
  | _ :: _, [] => by simp [tD, PyData.eqvAll]
  | x :: a, y :: b => by
    have ih := eqvAll_tD a b
    show PyData.eqvAll (PyData.tuple (sD x) :: tD a) (PyData.tuple (sD y) :: tD b) = _
    simp only [PyData.eqvAll, ih, eqv_str]
    by_cases h1 : x = y
    · subst h1
      by_cases h2 : a = b <;> simp [h2]
    · simp [h1]
theorem eqvL_tD (a b : List (List Str)) : PyData.eqv (.list (tD a)) (.list (tD b)) = decide (a = b) := by
  simp only [PyData.eqv]
  exact eqvAll_tD a b
theorem lay_tD : ∀ {zss : List (List Str)}, (∀ z ∈ zss, GoodW z) → PyData.canLayAll0 (tD zss) = true
  | [], _ => rfl
  | z :: r, h => by
    show (PyData.canLayAll0 (sD z) && PyData.canLayAll0 (tD r)) = true
    rw [lay_tD (fun y hy => h y (List.mem_cons_of_mem _ hy)), lay_str (h z List.mem_cons_self)]
    rfl
theorem dep_tD : ∀ zss : List (List Str), PyData.depthAll (tD zss) ≤ 2
  | [] => by simp [tD, PyData.depthAll]
  | z :: r => by
    have h := dep_tD r
    show PyData.depthAll (PyData.tuple (sD z) :: tD r) ≤ 2
    simp only [PyData.depthAll, PyData.depth]
    have := dep_str z
    omega
theorem shaped_tD {zss : List (List Str)} (h : ∀ z ∈ zss, GoodW z) : SeqAt.shaped (.list (tD zss)) = true := by
  unfold SeqAt.shaped
  rw [Bool.and_eq_true, decide_eq_true_eq]
  refine ⟨lay_tD h, ?_⟩
  have := dep_tD zss
  simp only [PyData.depth]
  omega
/-! ### recipes -/
def WS : List Str := ["slow", "sync slow", "fast", "sync fast", "free", "done"]
def KS : List Str := ["slow", "sync slow", "mark", "sync fast"]
def SS : List Str := ["sync slow", "sync fast"]
structure OkR (A zs : List Str) : Prop where
  len : zs.length ≤ 8
  mem : ∀ z ∈ zs, z ∈ A
  one : ∀ (i : Nat) (z : Str), zs[i]? = some z → z ∉ SS → z ∉ zs.take i
  dn : ("done" : Str) ∈ A → ("done" : Str) ∈ zs
def spPlace (K : PySem.W.Frag) : Sp := fun vs H Q _ => ∃ (t al : Addr) (A zs : List Str), vs = [.ref t, .ref al] ∧ H t = some (.tup (sV zs)) ∧ TupK K al (sV A) ∧ OkR A zs ∧ ∀ H', Fr [] H H' → Q .non H'
def spQInit (C : Addr) : Sp := fun vs H Q _ => ∃ (p dx a b c d : Addr) (za zb zc zd : List Str), vs = [.ref p, .ref a, .ref b, .ref c, .ref d] ∧ H p = some (.ins C dx []) ∧ H a = some (.tup (sV za)) ∧ H b = some (.tup (sV zb)) ∧ H c = some (.tup (sV zc)) ∧ H d = some (.tup (sV zd)) ∧
  OkR WS za ∧ OkR WS zb ∧ OkR WS zc ∧ OkR KS zd ∧ ∀ H' : Hp, Fr [p] H H' → H' p = some (.ins C dx (qF (.ref a) (.ref b) (.ref c) (.ref d))) → Q .non H'
/-- recipes stand at p -/
def RecAt (C : Addr) (H : Hp) (p : Addr) (z : List (List Str)) : Prop := ∃ (dx a b c d : Addr) (za zb zc zd : List Str), z = [za, zb, zc, zd] ∧ H p = some (.ins C dx (qF (.ref a) (.ref b) (.ref c) (.ref d))) ∧ H a = some (.tup (sV za)) ∧ H b = some (.tup (sV zb)) ∧ H c = some (.tup (sV zc)) ∧ H d = some (.tup (sV zd)) ∧ GoodW za ∧ GoodW zb ∧ GoodW zc ∧ GoodW zd
def spQEq (K : PySem.W.Frag) (C : Addr) : Sp := fun vs H Q _ => ∃ (p : Addr) (z : List (List Str)) (y : V), vs = [.ref p, y] ∧ RecAt C H p z ∧ ((∃ (q : Addr) (z' : List (List Str)), y = .ref q ∧ RecAt C H q z' ∧ Q (.bl (decide (z = z'))) H) ∨ ∃ tb : Value, TyX K H y tb ∧ PySem.W.kitOne K tb (.ref C) = some false ∧ Q (.bl false) H)
theorem cut_take {xs : List V} {i : Nat} (h : i ≤ xs.length) : cutV xs none (some (i : Int)) = xs.take i := by
  unfold cutV
  rw [HT.sIx_none, HT.sIx_nat, Nat.min_eq_left h]
  simp
section
variable {P : Program} {w : World} {K : PySem.W.Frag} {mg : Str → Option Value} {base : Heap}
theorem ok_place (T : Gx K mg) : FnOk P w K mg base CX0 1 T.f__invalid_place T.fd__invalid_place ["recipe", "allowed"] (spPlace K) := by
  refine T.F__invalid_place.ok sc__invalid_place (fun vs H Q E h => ?_) (fun cdv A outer s H vs Q E hr h => ?_)
  · obtain ⟨t, al, A, zs, rfl, _⟩ := h
    rfl
  · obtain ⟨t, al, AL, zs, rfl, ht, hal, ok, k⟩ := h
    refine ⟨_, (pss_cons (ps_if (pt_not (pt_val (pe_callB call_isi (by rfl) T.z_isinstance (by decide +kernel) (pa_cons (pv 0) (pa_cons (pe_bltn (v := .ty "tuple") (by rfl) T.z_tuple (by decide +kernel) rfl) pa_nil))))) (pss_one (ps_ret pe_int)) pss_nil)
      (pss_cons (ps_for PassesOwn.never rfl (pi_enumT (by rfl) T.z_enumerate (pa_cons (pv 0) pa_nil)) (pg_tup (by rfl) (pgs_cons (pg_name (i := 2) sc__invalid_place.nd rfl (.inl rfl)) (pgs_cons (pg_name (i := 3) sc__invalid_place.nd rfl (.inl rfl)) pgs_nil))) (pss_cons (ps_if (PW.pt (pw_or (pt_cmpR op_eq (pv 2) (pe_glob (v := .int (8)) (by rfl) T.c_MOST_STEPS ⟨_, rfl⟩) (nomark _)) (pw_or1 (pt_cmpR op_notIn_seq (pv 3) (pv 1) (by rfl))))) (pss_one (ps_ret (pv 2))) pss_nil)
      (pss_one (ps_if (PW.pt (pw_and (pt_cmpR op_notIn_seq (pv 3) (pe_glob (v := .ref T.A_SYNC_STEPS) (by rfl) T.g_SYNC_STEPS rfl) (by rfl)) (pw_and1 (pt_cmpR op_in_seq (pv 3) (pe_slice sl_tup (pv 0) po_none (po_some (pv 2))) (by rfl))))) (pss_one (ps_ret (pv 2))) pss_nil))))
      (pss_cons (ps_if (PW.pt (pw_and (pt_cmpR op_in_seq pe_str (pv 1) (by rfl)) (pw_and1 (pt_cmpR op_notIn_seq pe_str (pv 0) (by rfl))))) (pss_one (ps_ret (pe_callB call_len_seq (by rfl) T.z_len (by decide +kernel) (pa_cons (pv 0) pa_nil)))) pss_nil)
      (pss_one (ps_ret pe_non))))), ?_⟩
    refine ⟨_, rfl, _, .ty "tuple", .type "tuple", _, true, rfl, ClsV.ty "tuple", .base (.tup ht), kit_ty (by decide +kernel), _, rfl, iteF ?_⟩
    refine ⟨_, rfl, t, _, rfl, SqT.of ht, for_enumT (K := K) (a := t) (xs := sV zs) (fun i σ H' => Fr [] H H' ∧ ∃ v2 v3 : Option V, σ = [some (.ref t), some (.ref al), v2, v3]) ⟨Fr.refl _ _, none, none, rfl⟩ (fun i σ H' _ h => SqT.of (h.1 _ _ ht (by simp))) ?_ ?_⟩
    · rintro i x σ H1 U hx ⟨f1, v2, v3, rfl⟩ hU
      obtain ⟨z, rfl, hz⟩ := sV_at hx
      have hi := lt_of_at hz
      have zm := List.mem_of_getElem? hz
      have f2 : Fr [] H (upd H1 U (.tup [.int (i : Nat), .str z])) := f1.trans (Fr.new hU)
      refine ⟨U, _, rfl, SqT.of upd_same, rfl, _, _, rfl, _, _, rfl, rfl, ?_⟩
      refine ⟨_, rfl, rfl, _, rfl, ?_⟩
      have n8 : decide (V.int (i : Int) = V.int 8) = false := decide_eq_false (fun e => by
        have := V.int.inj e
        have := ok.len
        omega)
      rw [n8]
      refine iteF ⟨_, rfl, _, rfl, al, sV AL, rfl, .inr (hal _), rfl, sV_flat _, _, rfl, ?_⟩
      rw [inV_str, decide_eq_true (ok.mem z zm)]
      refine iteF ?_
      refine ⟨_, rfl, T.A_SYNC_STEPS, sV SS, rfl, .inr (T.k_SYNC_STEPS _), rfl, rfl, _, rfl, ?_⟩
      rw [inV_str]
      by_cases hs : z ∈ SS
      · rw [decide_eq_true hs]
        exact iteF (iteF ⟨f2, _, _, rfl⟩)
      · rw [decide_eq_false hs]
        refine iteT ?_
        refine ⟨_, rfl, _, rfl, _, rfl, (i : Int), rfl, t, sV zs, rfl, SqT.of (f2 _ _ ht (by simp)), ?_, fun g hg => ?_⟩
        · rintro ⟨_, e⟩
          rw [HT.sIx_nat, sV_len, Nat.min_eq_left (Nat.le_of_lt hi)] at e
          omega
        · have ec : cutV (sV zs) none (some (i : Int)) = sV (zs.take i) := by
            rw [cut_take (by rw [sV_len]; exact Nat.le_of_lt hi)]
            exact List.map_take.symm
          rw [ec]
          refine ⟨g, _, rfl, .inr (SqT.of upd_same), rfl, sV_flat _, _, rfl, ?_⟩
          rw [inV_str, decide_eq_false (ok.one i z hz hs)]
          exact iteF ⟨f2.trans (Fr.new hg), _, _, rfl⟩
    · rintro σ H1 ⟨f1, v2, v3, rfl⟩
      refine ⟨_, rfl, al, sV AL, rfl, .inr (hal _), rfl, sV_flat _, _, rfl, ?_⟩
      rw [inV_str]
      by_cases hd : ("done" : Str) ∈ AL
      · rw [decide_eq_true hd]
        refine iteT ⟨_, rfl, t, sV zs, rfl, .inr (SqT.of (f1 _ _ ht (by simp))), rfl, sV_flat _, _, rfl, ?_⟩
        rw [inV_str, decide_eq_true (ok.dn hd)]
        exact iteF (k _ f1)
      · rw [decide_eq_false hd]
        exact iteF (iteF (k _ f1))
theorem ok_qInit (T : Gx K mg) : FnOk P w K mg base CX0 2 T.f_Recipes___init__ T.fd_Recipes___init__ ["self", "through", "back", "around", "clean"] (spQInit T.C_Recipes) := by
  have G__invalid_place : FnOk P w K mg base CX0 1 T.f__invalid_place T.fd__invalid_place ["recipe", "allowed"] (spPlace K) := ok_place T
  refine T.F_Recipes___init__.ok sc_Recipes___init__ (fun vs H Q E h => ?_) (fun cdv A outer s H vs Q E hr h => ?_)
  · obtain ⟨p, dx, a, b, c, d, za, zb, zc, zd, rfl, _⟩ := h
    rfl
  · obtain ⟨p, dx, a, b, c, d, za, zb, zc, zd, rfl, hp, ha, hb, hc, hd, oa, ob, oc, od, k⟩ := h
    refine ⟨_, (pss_cons (ps_set (i := 5) sc_Recipes___init__.nd rfl (.inl rfl) (pe_tup (pa_cons (pe_glob (v := .ref T.A_WRITE_STEPS) (by rfl) T.g_WRITE_STEPS rfl) (pa_cons (pe_glob (v := .ref T.A_WRITE_STEPS) (by rfl) T.g_WRITE_STEPS rfl) (pa_cons (pe_glob (v := .ref T.A_WRITE_STEPS) (by rfl) T.g_WRITE_STEPS rfl) (pa_cons (pe_glob (v := .ref T.A_CLEAN_STEPS) (by rfl) T.g_CLEAN_STEPS rfl) pa_nil))))))
      (pss_cons (ps_for PassesOwn.never rfl (pi_enumT (by rfl) T.z_enumerate (pa_cons (pe_tup (pa_cons (pv 1) (pa_cons (pv 2) (pa_cons (pv 3) (pa_cons (pv 4) pa_nil))))) pa_nil)) (pg_tup (by rfl) (pgs_cons (pg_name (i := 6) sc_Recipes___init__.nd rfl (.inl rfl)) (pgs_cons (pg_name (i := 7) sc_Recipes___init__.nd rfl (.inl rfl)) pgs_nil))) (pss_cons (ps_set (i := 8) sc_Recipes___init__.nd rfl (.inl rfl) (pe_call G__invalid_place (hr.mono (by first | decide | omega)) (by rfl) T.g__invalid_place T.F__invalid_place.kp (b__invalid_place T) .nil pass0 (pa_cons (pv 7) (pa_cons (pe_ix ix_tup (pv 5) (pv 6) (fun _ _ => rfl)) pa_nil))))
      (pss_one (ps_if (pt_cmpR op_notN (pv 8) pe_non (nomark _)) (pss_one ps_never) pss_nil))))
      (pss_cons (ps_fld (pv 0) (pv 1) rfl)
      (pss_cons (ps_fld (pv 0) (pv 2) rfl)
      (pss_cons (ps_fld (pv 0) (pv 3) rfl)
      (pss_one (ps_fld (pv 0) (pv 4) rfl))))))), ?_⟩
    refine ⟨sz_le (by simp), fun t ht => ?_⟩
    refine ⟨_, rfl, _, rfl, _, rfl, _, rfl, sz_le (by simp), fun u hu => ?_⟩
    have et : (upd (upd H t (.tup [.ref T.A_WRITE_STEPS, .ref T.A_WRITE_STEPS, .ref T.A_WRITE_STEPS, .ref T.A_CLEAN_STEPS])) u (.tup [.ref a, .ref b, .ref c, .ref d])) t = some (.tup [.ref T.A_WRITE_STEPS, .ref T.A_WRITE_STEPS, .ref T.A_WRITE_STEPS, .ref T.A_CLEAN_STEPS]) := (upd_ne (free_upd hu).2.symm).trans upd_same
    refine ⟨u, _, rfl, SqT.of upd_same, for_enumT (K := K) (a := u) (xs := [.ref a, .ref b, .ref c, .ref d]) (fun i σ H' => Fr [] H H' ∧ H' t = some (.tup [.ref T.A_WRITE_STEPS, .ref T.A_WRITE_STEPS, .ref T.A_WRITE_STEPS, .ref T.A_CLEAN_STEPS]) ∧ H' u = some (.tup [.ref a, .ref b, .ref c, .ref d]) ∧
        ∃ v6 v7 v8 : Option V, σ = [some (.ref p), some (.ref a), some (.ref b), some (.ref c), some (.ref d), some (.ref t), v6, v7, v8])
      ⟨(Fr.new ht).trans (Fr.new hu), et, upd_same, none, none, none, rfl⟩ (fun i σ H' _ h => SqT.of h.2.2.1) ?_ ?_⟩
    · rintro i x σ H1 U hx ⟨f1, e1, e2, v6, v7, v8, rfl⟩ hU
      refine ⟨U, _, rfl, SqT.of upd_same, rfl, _, _, rfl, _, _, rfl, rfl, ?_⟩
      obtain ⟨x', al, AL, zs, rfl, hal, hK, hx', ok⟩ : ∃ (x' al : Addr) (AL zs : List Str), x = .ref x' ∧ ([.ref T.A_WRITE_STEPS, .ref T.A_WRITE_STEPS, .ref T.A_WRITE_STEPS, .ref T.A_CLEAN_STEPS] : List V)[i]? = some (.ref al) ∧ TupK K al (sV AL) ∧ H x' = some (.tup (sV zs)) ∧ OkR AL zs := by
        match i, hx with
        | 0, hx => cases hx; exact ⟨a, _, WS, za, rfl, rfl, T.k_WRITE_STEPS, ha, oa⟩
        | 1, hx => cases hx; exact ⟨b, _, WS, zb, rfl, rfl, T.k_WRITE_STEPS, hb, ob⟩
        | 2, hx => cases hx; exact ⟨c, _, WS, zc, rfl, rfl, T.k_WRITE_STEPS, hc, oc⟩
        | 3, hx => cases hx; exact ⟨d, _, KS, zd, rfl, rfl, T.k_CLEAN_STEPS, hd, od⟩
        | i + 4, hx => simp at hx
      have f2 : Fr [] H1 (upd H1 U (.tup [.int (i : Nat), .ref x'])) := Fr.new hU
      refine ⟨_, rfl, _, rfl, _, rfl, t, _, (i : Int), _, rfl, rfl, SqT.of (f2 _ _ e1 (by simp)), atI_nat hal, x', al, AL, zs, rfl, f2 _ _ (f1 _ _ hx' (by simp)) (by simp), hK, ok, fun H2 f3 => ?_⟩
      refine ⟨_, rfl, rfl, _, rfl, iteF ⟨(f1.trans f2).trans f3, f3 _ _ (f2 _ _ e1 (by simp)) (by simp), f3 _ _ (f2 _ _ e2 (by simp)) (by simp), _, _, _, rfl⟩⟩
    · rintro σ H1 ⟨f1, e1, e2, v6, v7, v8, rfl⟩
      have hp1 := f1 _ _ hp (by simp)
      refine ⟨_, rfl, _, rfl, p, T.C_Recipes, dx, [], rfl, hp1, T.cl_Recipes, T.n_Recipes__through, by simp, ?_⟩
      refine ⟨_, rfl, _, rfl, p, T.C_Recipes, dx, _, rfl, upd_same, T.cl_Recipes, T.n_Recipes__back, Nat.lt_of_le_of_lt (putF_len _ _ _) (by simp), ?_⟩
      refine ⟨_, rfl, _, rfl, p, T.C_Recipes, dx, _, rfl, upd_same, T.cl_Recipes, T.n_Recipes__around, Nat.lt_of_le_of_lt (putF_len _ _ _) (Nat.lt_of_le_of_lt (Nat.succ_le_succ (putF_len _ _ _)) (by simp)), ?_⟩
      refine ⟨_, rfl, _, rfl, p, T.C_Recipes, dx, _, rfl, upd_same, T.cl_Recipes, T.n_Recipes__clean, Nat.lt_of_le_of_lt (putF_len _ _ _) (Nat.lt_of_le_of_lt (Nat.succ_le_succ (Nat.le_trans (putF_len _ _ _) (Nat.succ_le_succ (putF_len _ _ _)))) (by simp)), ?_⟩
      rw [qF_made, upd_upd, upd_upd, upd_upd]
      exact k _ (fun b o e nb => by rw [upd_ne (by simpa using nb)]; exact f1 b o e (by simp)) upd_same
end
/-! ### a classmethod without arguments, a class called by a parameter that holds it -/
def tMakeL (i : Nat) (C : Addr) (sp : Sp) (E : XK) (t : TA) : TE := fun σ H Q => σ[i]? = some (some (.ref C)) ∧ tMake C sp [] E t σ H Q
section
variable {X : Cx} {CX : CXT} {k i : Nat} {C f p g : Addr} {mc : Value} {fd : FuncData} {ps : List Str} {sp : Sp} {E : XK} {x m : Str} {o e : Expr} {es : List Expr} {np pos apos : Pos} {ta : TE} {t : TA} {pl : Sem Bool}
theorem pe_makeL (M : Mk X.K C f) (F : FnOk X.prog X.w X.K X.mg X.base CX k f fd ps sp) (hr : Room (k + 1) X.A) (hN : X.N[i]? = some x) (hv : Vis X.env.scope x) (hb : Binds X.K fd ps []) (hx : Passes CX X E) (ha : PA X (e :: es) t)
    (hdb : (x == ("__debug__" : Str)) = false := by decide) (hcd : (x == ("__classdict__" : Str)) = false := by decide)
    (he : starEach (e :: es) X.env = (false, eval e X.env) :: starEach es X.env := by rfl) (hpl : (backTo pos (starEach es X.env)).any (·.1) = false := by rfl) : PE X (.Call (.Name x np) (e :: es) [] pos) (tMakeL i C sp E t) := by
  refine ⟨fun pins s σ H Q I h => ?_⟩
  obtain ⟨hs, ht⟩ := h
  refine wpAny_Call_Name_kw (thn ((pe_var (pos := np) hN hv hdb hcd).run pins s σ H (fun v H1 => v = .ref C ∧ H1 = H) I ⟨.ref C, hs, rfl, rfl⟩) fun u s1 ⟨v, H1, I1, r1, q1⟩ => ?_)
  obtain ⟨rfl, rfl⟩ := q1
  cases r1
  refine PySem.W.callWith_K (h₀ := X.base) I.ok.mod.kin M.kp (thn (ha.run pos pins s1 σ _ _ I1 ht) fun us s2 ⟨vs, H2, I2, r, q⟩ => ⟨I2.kIn, ?_⟩) he hpl
  exact run_make M F hr hb .nil hx I2 r q
theorem pe_cmeth0 (he : PE X o ta) (r : ClX.CRead X.K C mc) (c : ClX.CMet X.K C mc m p g) (F : FnR X.prog X.w X.K X.mg X.base CX k g sp) (hr : Room k X.A) (hx : Passes CX X E)
    (ht : eval (.Call (.Attribute o m apos) [] [] pos) X.env = (do
      let ov ← eval o X.env
      standAt apos.atName
      let (f, first) ← holding [ov] (getMethod ov m pl)
      callWith pos f first (backTo pos (starEach [] X.env)) (backToKw pos (keywordEach [] X.env))) := by rfl) :
    PE X (.Call (.Attribute o m apos) [] [] pos) (ClX.tCMeth C sp E ta tNil) := by
  refine ⟨fun pins s σ H Q I h => ?_⟩
  refine PySem.W.methodCall_KW (pl := pl) (thn (he.run pins s σ H _ I h) fun u s1 ⟨y, H1, I1, rx, ex, q⟩ => ?_) ht
  subst ex
  obtain rfl : u = Value.ref C := rx
  refine ClX.getmethcm_ok I1 r c fun s2 I2 => ?_
  exact PySem.W.callWith_M0 (first := []) ⟨ClX.pin_at I2, I2.kIn⟩ c.fi (ClX.run_cm F hr hx I2 .nil q)
end
/-! ### what recipes tell of themselves, and the safe ones -/
def SAFE : List (List Str) := [["slow", "sync slow", "fast", "sync fast", "done"], ["fast", "sync fast", "done", "free", "sync fast"], ["slow", "sync slow", "free", "sync fast", "done"], ["slow", "sync slow", "mark", "sync fast"]]
/-- a recipe, as a law can check it -/
def PV (A z : List Str) : Prop := z.length ≤ 8 ∧ (∀ w ∈ z, w ∈ A) ∧ (z.filter (fun w => decide (w ∉ SS))).Nodup ∧ (("done" : Str) ∈ A → ("done" : Str) ∈ z)
instance (A z : List Str) : Decidable (PV A z) := by
  unfold PV
  infer_instance
theorem PV.ok {A z : List Str} (h : PV A z) : OkR A z := by
  obtain ⟨h1, h2, h3, h4⟩ := h
  refine ⟨h1, h2, fun i w hi hw hm => ?_, h4⟩
  have e : z = z.take i ++ w :: z.drop (i + 1) := by
    have hlt := (List.getElem?_eq_some_iff.mp hi)
    obtain ⟨hl, he⟩ := hlt
    rw [← he, List.getElem_cons_drop hl, List.take_append_drop]
  rw [e, List.filter_append, List.nodup_append] at h3
  have hd := h3.2.2
  refine hd w ?_ w ?_ rfl
  · rw [List.mem_filter]
    exact ⟨hm, decide_eq_true hw⟩
  · rw [List.filter_cons]
    rw [if_pos (decide_eq_true hw)]
    exact List.mem_cons_self
theorem PV.perm {A z y : List Str} (h : PV A z) (p : y.Perm z) : PV A y := by
  obtain ⟨h1, h2, h3, h4⟩ := h
  exact ⟨by rw [p.length_eq]; exact h1, fun w hw => h2 w (p.mem_iff.mp hw), (p.filter _).nodup_iff.mpr h3, fun hA => p.mem_iff.mpr (h4 hA)⟩
/-- the words that a recipe may have -/
def AS (p : Nat) : List Str := if p < 3 then WS else KS
theorem pv_safe : ∀ p < 4, PV (AS p) (SAFE.getD p []) := by decide +kernel
theorem good_WS : ∀ z ∈ WS, PyData.strOk z = true := by decide +kernel
theorem good_KS : ∀ z ∈ KS, PyData.strOk z = true := by decide +kernel
theorem PV.good {p : Nat} {z : List Str} (h : PV (AS p) z) : GoodW z := fun w hw => by
  have := h.2.1 w hw
  unfold AS at this
  split at this
  · exact good_WS w this
  · exact good_KS w this
theorem RecAt.keep {C : Addr} {H H' : Hp} {S : List Addr} {p : Addr} {z : List (List Str)} (h : RecAt C H p z) (f : Fr S H H') (n : ∀ b ∈ S, H b = none ∨ ∃ xs, H b = some (.lst xs)) : RecAt C H' p z := by
  obtain ⟨dx, a, b, c, d, za, zb, zc, zd, rfl, hp, ha, hb, hc, hd, g⟩ := h
  have k : ∀ (x : Addr) (o : HO), H x = some o → (∀ xs, o ≠ .lst xs) → H' x = some o := fun x o e no => f x o e fun hx => by
    rcases n x hx with q | ⟨xs, q⟩
    · rw [q] at e; cases e
    · rw [q] at e; cases e; exact no xs rfl
  exact ⟨dx, a, b, c, d, za, zb, zc, zd, rfl, k _ _ hp (fun _ => by simp), k _ _ ha (fun _ => by simp), k _ _ hb (fun _ => by simp), k _ _ hc (fun _ => by simp), k _ _ hd (fun _ => by simp), g⟩
/-- made of four recipes -/
theorem mk_rec {C : Addr} {H : Hp} {Q : VK} {E : XK} {p dx a b c d : Addr} {za zb zc zd : List Str} (hp : H p = none) (hdx : H dx = none) (hpd : dx ≠ p) (ha : H a = some (.tup (sV za))) (hb : H b = some (.tup (sV zb))) (hc : H c = some (.tup (sV zc))) (hd : H d = some (.tup (sV zd)))
    (oa : PV (AS 0) za) (ob : PV (AS 1) zb) (oc : PV (AS 2) zc) (od : PV (AS 3) zd) (k : ∀ H', Fr [] H H' → RecAt C H' p [za, zb, zc, zd] → Q .non H') :
    spQInit C (.ref p :: ([.ref a, .ref b, .ref c, .ref d] ++ [])) (upd (upd H dx (.own p)) p (.ins C dx [])) Q E := by
  have f5 : Fr [] H (upd (upd H dx (.own p)) p (.ins C dx [])) := (Fr.new hdx).trans (Fr.new (by rw [upd_ne hpd.symm]; exact hp))
  refine ⟨p, dx, a, b, c, d, _, _, _, _, rfl, upd_same, f5 _ _ ha (by simp), f5 _ _ hb (by simp), f5 _ _ hc (by simp), f5 _ _ hd (by simp), oa.ok, ob.ok, oc.ok, od.ok, fun H6 f6 e6 => ?_⟩
  have f7 : Fr [] H H6 := made_fr hp hdx f6
  exact k H6 f7 ⟨dx, a, b, c, d, _, _, _, _, rfl, e6, f7 _ _ ha (by simp), f7 _ _ hb (by simp), f7 _ _ hc (by simp), f7 _ _ hd (by simp), oa.good, ob.good, oc.good, od.good⟩
def spSafeM (C : Addr) : Sp := fun vs H Q _ => vs = [.ref C] ∧ ∀ (p : Addr) (H' : Hp), H p = none → Fr [] H H' → RecAt C H' p SAFE → Q (.ref p) H'
section
variable {P : Program} {w : World} {K : PySem.W.Frag} {mg : Str → Option Value} {base : Heap}
theorem ok_qthrough (T : Gx K mg) : FnOk P w K mg base CX0 1 T.f_Recipes_through T.fd_Recipes_through ["self"] (spGet T.C_Recipes "_through") := by
  refine T.F_Recipes_through.ok sc_Recipes_through (fun vs H Q E h => ?_) (fun cdv A outer s H vs Q E hr h => ?_)
  · obtain ⟨a, dx, fs, v, rfl, _⟩ := h
    rfl
  · obtain ⟨a, dx, fs, v, rfl, ha, hv, k⟩ := h
    refine ⟨_, (pss_one (ps_ret (pe_fld (pv 0) rfl))), ?_⟩
    exact ⟨_, rfl, a, T.C_Recipes, _, _, _, rfl, ha, T.cl_Recipes, T.n_Recipes__through, hv, k⟩
theorem ok_qback (T : Gx K mg) : FnOk P w K mg base CX0 1 T.f_Recipes_back T.fd_Recipes_back ["self"] (spGet T.C_Recipes "_back") := by
  refine T.F_Recipes_back.ok sc_Recipes_back (fun vs H Q E h => ?_) (fun cdv A outer s H vs Q E hr h => ?_)
  · obtain ⟨a, dx, fs, v, rfl, _⟩ := h
    rfl
  · obtain ⟨a, dx, fs, v, rfl, ha, hv, k⟩ := h
    refine ⟨_, (pss_one (ps_ret (pe_fld (pv 0) rfl))), ?_⟩
    exact ⟨_, rfl, a, T.C_Recipes, _, _, _, rfl, ha, T.cl_Recipes, T.n_Recipes__back, hv, k⟩
theorem ok_qaround (T : Gx K mg) : FnOk P w K mg base CX0 1 T.f_Recipes_around T.fd_Recipes_around ["self"] (spGet T.C_Recipes "_around") := by
  refine T.F_Recipes_around.ok sc_Recipes_around (fun vs H Q E h => ?_) (fun cdv A outer s H vs Q E hr h => ?_)
  · obtain ⟨a, dx, fs, v, rfl, _⟩ := h
    rfl
  · obtain ⟨a, dx, fs, v, rfl, ha, hv, k⟩ := h
    refine ⟨_, (pss_one (ps_ret (pe_fld (pv 0) rfl))), ?_⟩
    exact ⟨_, rfl, a, T.C_Recipes, _, _, _, rfl, ha, T.cl_Recipes, T.n_Recipes__around, hv, k⟩
theorem ok_qclean (T : Gx K mg) : FnOk P w K mg base CX0 1 T.f_Recipes_clean T.fd_Recipes_clean ["self"] (spGet T.C_Recipes "_clean") := by
  refine T.F_Recipes_clean.ok sc_Recipes_clean (fun vs H Q E h => ?_) (fun cdv A outer s H vs Q E hr h => ?_)
  · obtain ⟨a, dx, fs, v, rfl, _⟩ := h
    rfl
  · obtain ⟨a, dx, fs, v, rfl, ha, hv, k⟩ := h
    refine ⟨_, (pss_one (ps_ret (pe_fld (pv 0) rfl))), ?_⟩
    exact ⟨_, rfl, a, T.C_Recipes, _, _, _, rfl, ha, T.cl_Recipes, T.n_Recipes__clean, hv, k⟩
theorem ok_safeM (T : Gx K mg) : FnOk P w K mg base CX0 4 T.f_Recipes_safe T.fd_Recipes_safe ["cls"] (spSafeM T.C_Recipes) := by
  have G_Recipes___init__ : FnOk P w K mg base CX0 2 T.f_Recipes___init__ T.fd_Recipes___init__ ["self", "through", "back", "around", "clean"] (spQInit T.C_Recipes) := ok_qInit T
  refine T.F_Recipes_safe.ok sc_Recipes_safe (fun vs H Q E h => ?_) (fun cdv A outer s H vs Q E hr h => ?_)
  · obtain ⟨rfl, _⟩ := h
    rfl
  · obtain ⟨rfl, k⟩ := h
    refine ⟨_, (pss_one (ps_ret (pe_makeL (i := 0) T.M_Recipes___init__ G_Recipes___init__ (hr.mono (by first | decide | omega)) (by rfl) (by first | exact Or.inl rfl | exact Or.inr (Or.inl rfl) | exact Or.inr (Or.inr rfl)) (b_Recipes___init__ T) pass0 (pa_cons (pe_tup (pa_cons pe_str (pa_cons pe_str (pa_cons pe_str (pa_cons pe_str (pa_cons pe_str pa_nil)))))) (pa_cons (pe_tup (pa_cons pe_str (pa_cons pe_str (pa_cons pe_str (pa_cons pe_str (pa_cons pe_str pa_nil)))))) (pa_cons (pe_tup (pa_cons pe_str (pa_cons pe_str (pa_cons pe_str (pa_cons pe_str (pa_cons pe_str pa_nil)))))) (pa_cons (pe_tup (pa_cons pe_str (pa_cons pe_str (pa_cons pe_str (pa_cons pe_str pa_nil))))) pa_nil))))))), ?_⟩
    refine ⟨rfl, ?_⟩
    refine ⟨sz_le (by simp), fun a ha => ?_⟩
    refine ⟨sz_le (by simp), fun b hb => ?_⟩
    refine ⟨sz_le (by simp), fun c hc => ?_⟩
    refine ⟨sz_le (by simp), fun d hd => ?_⟩
    refine fun p dx hp hdx hpd => ?_
    obtain ⟨hb1, ba⟩ := free_upd hb
    obtain ⟨hc1, cb⟩ := free_upd hc
    obtain ⟨hc2, ca⟩ := free_upd hc1
    obtain ⟨hd1, dc⟩ := free_upd hd
    obtain ⟨hd2, db⟩ := free_upd hd1
    obtain ⟨hd3, da⟩ := free_upd hd2
    have hp4 : H p = none := (free_upd (free_upd (free_upd (free_upd hp).1).1).1).1
    have f0 := (((Fr.new (S := []) (o := .tup (sV (SAFE.getD 0 []))) ha).trans (Fr.new (o := .tup (sV (SAFE.getD 1 []))) hb)).trans (Fr.new (o := .tup (sV (SAFE.getD 2 []))) hc)).trans (Fr.new (o := .tup (sV (SAFE.getD 3 []))) hd)
    refine mk_rec (za := SAFE.getD 0 []) (zb := SAFE.getD 1 []) (zc := SAFE.getD 2 []) (zd := SAFE.getD 3 []) hp hdx hpd ?_ ?_ ?_ ?_ (pv_safe 0 (by decide)) (pv_safe 1 (by decide)) (pv_safe 2 (by decide)) (pv_safe 3 (by decide)) fun H' f R => ⟨rfl, k p H' hp4 (f0.trans f) R⟩
    · rw [upd_ne da.symm, upd_ne ca.symm, upd_ne ba.symm, upd_same]
      rfl
    · rw [upd_ne db.symm, upd_ne cb.symm, upd_same]
      rfl
    · rw [upd_ne dc.symm, upd_same]
      rfl
    · rw [upd_same]
      rfl
end
/-! ### disks of values -/
structure DS (α : Type) where
  cs : List α
  ls : List α
  ps : List (Nat × α)
  r : Nat
  w : Nat
  s : Nat
def All2 {α : Type} (R : V → α → Prop) (vs : List V) (as : List α) : Prop := vs.length = as.length ∧ ∀ (i : Nat) (v : V) (a : α), vs[i]? = some v → as[i]? = some a → R v a
theorem All2.imp {α : Type} {R S : V → α → Prop} {vs : List V} {as : List α} (h : All2 R vs as) (f : ∀ v a, R v a → S v a) : All2 S vs as := ⟨h.1, fun i v a e1 e2 => f v a (h.2 i v a e1 e2)⟩
theorem All2.set {α : Type} {R : V → α → Prop} {vs : List V} {as : List α} (h : All2 R vs as) (j : Nat) {v : V} {a : α} (r : R v a) : All2 R (vs.set j v) (as.set j a) := by
  refine ⟨by rw [List.length_set, List.length_set]; exact h.1, fun i x y e1 e2 => ?_⟩
  rw [List.getElem?_set] at e1 e2
  by_cases z : j = i
  · rw [if_pos z] at e1 e2
    split at e1
    · split at e2
      · cases e1
        cases e2
        exact r
      · cases e2
    · cases e1
  · rw [if_neg z] at e1 e2
    exact h.2 i x y e1 e2
theorem All2.snoc {α : Type} {R : V → α → Prop} {vs : List V} {as : List α} (h : All2 R vs as) {v : V} {a : α} (r : R v a) : All2 R (vs ++ [v]) (as ++ [a]) := by
  refine ⟨by rw [List.length_append, List.length_append, h.1]; rfl, fun j u p e1 e2 => ?_⟩
  by_cases hj : j < vs.length
  · rw [List.getElem?_append_left hj] at e1
    rw [List.getElem?_append_left (by rw [← h.1]; exact hj)] at e2
    exact h.2 j u p e1 e2
  · rw [List.getElem?_append_right (by omega)] at e1
    rw [List.getElem?_append_right (by rw [← h.1]; omega)] at e2
    rw [← h.1] at e2
    have hz : j - vs.length = 0 := by
      have := lt_of_at e1
      simp at this
      omega
    rw [hz] at e1 e2
    cases e1
    cases e2
    exact r
theorem All2.at {α : Type} {R : V → α → Prop} {vs : List V} {as : List α} (h : All2 R vs as) {i : Nat} {a : α} (e : as[i]? = some a) : ∃ v, vs[i]? = some v ∧ R v a := by
  have l := lt_of_at e
  rw [← h.1] at l
  exact ⟨vs[i], List.getElem?_eq_getElem l, h.2 i _ a (List.getElem?_eq_getElem l) e⟩
theorem All2.rep {α : Type} {R : V → α → Prop} {v : V} {a : α} (n : Nat) (r : R v a) : All2 R (List.replicate n v) (List.replicate n a) := by
  refine ⟨by simp, fun i x y e1 e2 => ?_⟩
  rw [List.getElem?_replicate] at e1 e2
  split at e1
  · rename_i z
    rw [if_pos z] at e2
    cases e1
    cases e2
    exact r
  · cases e1
def SV : Hp → V → Nat → Prop := fun _ v n => v = .int (n : Int)
def RV : Hp → V → Option Rc → Prop := fun H v o => match o with
  | none => v = .non
  | some rc => ∃ t : Addr, v = .ref t ∧ H t = some (.tup rc.vs)
/-- what is said of values stays where no tuple changes -/
def Stays {α : Type} (R : Hp → V → α → Prop) : Prop := ∀ (S : List Addr) (H H' : Hp) (v : V) (a : α), R H v a → Fr S H H' → (∀ b ∈ S, ∀ xs, H b ≠ some (.tup xs)) → R H' v a
theorem stSV : Stays SV := fun _ _ _ _ _ h _ _ => h
theorem stRV : Stays RV := fun S H H' v a h f m => by
  cases a with
  | none => exact h
  | some rc =>
    obtain ⟨t, e, ht⟩ := h
    exact ⟨t, e, f _ _ ht (fun z => m _ z _ ht)⟩
def DiskR {α : Type} (C : Addr) (R : Hp → V → α → Prop) (H : Hp) (D : Dk) (d : DS α) : Prop := ∃ (cs ls : List V) (ps : List (Nat × V)), DiskAt C H D cs ls ps d.r d.w d.s ∧ All2 (R H) cs d.cs ∧ All2 (R H) ls d.ls ∧ All2 (R H) (ps.map Prod.snd) (d.ps.map Prod.snd) ∧ ps.map Prod.fst = d.ps.map Prod.fst ∧ d.ps.length ≤ d.w
section
variable {α : Type} {C : Addr} {R : Hp → V → α → Prop} {H H' : Hp} {D : Dk} {d : DS α}
theorem DiskR.notup (h : DiskR C R H D d) : ∀ b ∈ D.own, ∀ xs, H b ≠ some (.tup xs) := by
  obtain ⟨cs, ls, ps, h, _⟩ := h
  exact h.notup
theorem DiskR.there (h : DiskR C R H D d) : ∀ b ∈ D.own, ∃ o, H b = some o := by
  obtain ⟨cs, ls, ps, h, _⟩ := h
  exact h.there
theorem DiskR.keep (hR : Stays R) {S : List Addr} (h : DiskR C R H D d) (f : Fr S H H') (n : ∀ b ∈ D.own, b ∉ S) (m : ∀ b ∈ S, ∀ xs, H b ≠ some (.tup xs)) : DiskR C R H' D d := by
  obtain ⟨cs, ls, ps, h, a1, a2, a3, a4, a5⟩ := h
  have q : ∀ v a, R H v a → R H' v a := fun v a r => hR S H H' v a r f m
  exact ⟨cs, ls, ps, h.keep f n m, a1.imp q, a2.imp q, a3.imp q, a4, a5⟩
end
/-! ### a pair -/
theorem RecAt.fr {C : Addr} {H H' : Hp} {S : List Addr} {p : Addr} {z : List (List Str)} (h : RecAt C H p z) (f : Fr S H H') (n : p ∉ S) (m : ∀ b ∈ S, ∀ xs, H b ≠ some (.tup xs)) : RecAt C H' p z := by
  obtain ⟨dx, a, b, c, d, za, zb, zc, zd, e, e1, e2, e3, e4, e5, g⟩ := h
  exact ⟨dx, a, b, c, d, za, zb, zc, zd, e, f _ _ e1 n, f _ _ e2 (fun y => m _ y _ e2), f _ _ e3 (fun y => m _ y _ e3), f _ _ e4 (fun y => m _ y _ e4), f _ _ e5 (fun y => m _ y _ e5), g⟩
theorem RecAt.ex {C : Addr} {H : Hp} {p : Addr} {z : List (List Str)} (h : RecAt C H p z) : ∃ o, H p = some o := by
  obtain ⟨dx, a, b, c, d, za, zb, zc, zd, e, e1, _⟩ := h
  exact ⟨_, e1⟩
structure Cl where
  cP : Addr
  cD : Addr
  cM : Addr
  cK : Addr
  cR : Addr
  cQ : Addr
structure Pp where
  p : Addr
  px : Addr
  ru : Addr
  rx : Addr
  re : Addr
  S : Dk
  F : Dk
  M : Mm
  cd : Addr
def Pp.own (P : Pp) (ks : List Kp) : List Addr := P.p :: (P.S.own ++ (P.F.own ++ P.M.own ks))
structure PS where
  nb : Nat
  ns : Nat
  wr : Str
  rd : Str
  ch : Str
  bd : Int
  sl : DS Nat
  fa : DS (Option Rc)
  dc : List Int
  reqs : Nat
  hits : Nat
  turn : Nat
  done : Bool
  kn : List Kn
  rcs : List (List Str)
def PS.fs (s : PS) (P : Pp) : List (Str × V) := pF (.int (s.nb : Int)) (.ref P.ru) (.ref P.re) (.ref P.S.p) (.ref P.F.p) (.ref P.M.m) (.ref P.cd) (.int (s.reqs : Int)) (.int (s.hits : Int)) (.int (s.turn : Int)) .non (.bl true) (.bl s.done)
structure PairAt (c : Cl) (H : Hp) (P : Pp) (ks : List Kp) (s : PS) : Prop where
  ins : H P.p = some (.ins c.cP P.px (s.fs P))
  rul : H P.ru = some (.ins c.cR P.rx (rF (.str s.wr) (.str s.rd) (.str s.ch) (.int s.bd)))
  ded : H P.cd = some (.tup (s.dc.map V.int))
  slo : DiskR c.cD SV H P.S s.sl
  fas : DiskR c.cD RV H P.F s.fa
  mem : MemAt c.cM c.cK H P.M s.ns ks
  kno : kns ks = s.kn
  sSF : Sep P.S.own P.F.own
  sSM : Sep P.S.own (P.M.own ks)
  sFM : Sep P.F.own (P.M.own ks)
  pS : P.p ∉ P.S.own
  pF_ : P.p ∉ P.F.own
  pM : P.p ∉ P.M.own ks
  rO : P.ru ∉ P.own ks
  rcp : RecAt c.cQ H P.re s.rcs
  qO : P.re ∉ P.own ks
section
variable {c : Cl} {H H' : Hp} {P : Pp} {ks : List Kp} {s : PS}
theorem own_p {P : Pp} {ks : List Kp} : P.p ∈ P.own ks := List.mem_cons_self
theorem own_S {P : Pp} {ks : List Kp} {b : Addr} (h : b ∈ P.S.own) : b ∈ P.own ks := List.mem_cons_of_mem _ (List.mem_append_left _ h)
theorem own_F {P : Pp} {ks : List Kp} {b : Addr} (h : b ∈ P.F.own) : b ∈ P.own ks := List.mem_cons_of_mem _ (List.mem_append_right _ (List.mem_append_left _ h))
theorem own_M {P : Pp} {ks : List Kp} {b : Addr} (h : b ∈ P.M.own ks) : b ∈ P.own ks := List.mem_cons_of_mem _ (List.mem_append_right _ (List.mem_append_right _ h))
theorem own_cases {P : Pp} {ks : List Kp} {b : Addr} (h : b ∈ P.own ks) : b = P.p ∨ b ∈ P.S.own ∨ b ∈ P.F.own ∨ b ∈ P.M.own ks := by
  rcases List.mem_cons.mp h with e | h
  · exact .inl e
  · rcases List.mem_append.mp h with e | h
    · exact .inr (.inl e)
    · rcases List.mem_append.mp h with e | h
      · exact .inr (.inr (.inl e))
      · exact .inr (.inr (.inr h))
theorem PairAt.there (h : PairAt c H P ks s) : ∀ b ∈ P.own ks, ∃ o, H b = some o := by
  intro b hb
  rcases own_cases hb with rfl | hb | hb | hb
  · exact ⟨_, h.ins⟩
  · exact h.slo.there b hb
  · exact h.fas.there b hb
  · exact h.mem.there b hb
theorem PairAt.notup (h : PairAt c H P ks s) : ∀ b ∈ P.own ks, ∀ xs, H b ≠ some (.tup xs) := by
  intro b hb
  rcases own_cases hb with rfl | hb | hb | hb
  · rw [h.ins]; simp
  · exact h.slo.notup b hb
  · exact h.fas.notup b hb
  · exact h.mem.notup b hb
theorem PairAt.keep {S : List Addr} (h : PairAt c H P ks s) (f : Fr S H H') (n : ∀ b ∈ P.own ks, b ∉ S) (r : P.ru ∉ S) (q : P.re ∉ S) (m : ∀ b ∈ S, ∀ xs, H b ≠ some (.tup xs)) : PairAt c H' P ks s :=
  ⟨f _ _ h.ins (n _ own_p), f _ _ h.rul r, f _ _ h.ded (fun z => m _ z _ h.ded), h.slo.keep stSV f (fun b hb => n b (own_S hb)) m, h.fas.keep stRV f (fun b hb => n b (own_F hb)) m, h.mem.keep f (fun b hb => n b (own_M hb)) m, h.kno, h.sSF, h.sSM, h.sFM, h.pS, h.pF_, h.pM, h.rO, h.rcp.fr f q m, h.qO⟩
theorem PairAt.keep0 (h : PairAt c H P ks s) (f : Fr [] H H') : PairAt c H' P ks s := h.keep f (by simp) (by simp) (by simp) (by simp)
/-- only the pair's own object changes -/
theorem PairAt.setP (h : PairAt c H P ks s) (f : Fr [P.p] H H') {s' : PS} (e : H' P.p = some (.ins c.cP P.px (s'.fs P))) (e1 : s'.wr = s.wr := by rfl) (e2 : s'.rd = s.rd := by rfl) (e3 : s'.ch = s.ch := by rfl) (e4 : s'.bd = s.bd := by rfl) (e5 : s'.dc = s.dc := by rfl)
    (e6 : s'.sl = s.sl := by rfl) (e7 : s'.fa = s.fa := by rfl) (e8 : s'.ns = s.ns := by rfl) (e9 : s'.kn = s.kn := by rfl) (e10 : s'.rcs = s.rcs := by rfl) : PairAt c H' P ks s' := by
  have m : ∀ b ∈ [P.p], ∀ xs, H b ≠ some (.tup xs) := fun b hb xs => by
    rw [List.mem_singleton.mp hb, h.ins]
    simp
  have n1 : ∀ T : List Addr, P.p ∉ T → ∀ b ∈ T, b ∉ [P.p] := fun T z b hb y => z (by rw [← List.mem_singleton.mp y]; exact hb)
  refine ⟨e, ?_, ?_, ?_, ?_, ?_, h.kno.trans e9.symm, h.sSF, h.sSM, h.sFM, h.pS, h.pF_, h.pM, h.rO, ?_, h.qO⟩
  · rw [e1, e2, e3, e4]
    exact f _ _ h.rul (by
      rw [List.mem_singleton]
      intro z
      exact h.rO (by rw [z]; exact own_p))
  · rw [e5]
    exact f _ _ h.ded (fun z => m _ z _ h.ded)
  · rw [e6]
    exact h.slo.keep stSV f (n1 _ h.pS) m
  · rw [e7]
    exact h.fas.keep stRV f (n1 _ h.pF_) m
  · rw [e8]
    exact h.mem.keep f (n1 _ h.pM) m
  · rw [e10]
    exact h.rcp.fr f (by
      rw [List.mem_singleton]
      intro z
      exact h.qO (by rw [z]; exact own_p)) m
/-- only the memory changes -/
theorem PairAt.setM (h : PairAt c H P ks s) {ks' : List Kp} (f : Fr (P.M.own ks) H H') (e : MemAt c.cM c.cK H' P.M s.ns ks') (g : ∀ b ∈ P.M.own ks', b ∈ P.M.own ks ∨ H b = none) : PairAt c H' P ks' { s with kn := kns ks' } := by
  have m := h.mem.notup
  have out : ∀ b o, H b = some o → b ∉ P.M.own ks → b ∉ P.M.own ks' := fun b o eb nb z => by
    rcases g b z with y | y
    · exact nb y
    · rw [eb] at y
      cases y
  have rM : P.ru ∉ P.M.own ks := fun z => h.rO (own_M z)
  have qM : P.re ∉ P.M.own ks := fun z => h.qO (own_M z)
  refine ⟨f _ _ h.ins h.pM, f _ _ h.rul rM, f _ _ h.ded (fun z => m _ z _ h.ded), h.slo.keep stSV f (fun b hb => h.sSM b hb) m, h.fas.keep stRV f (fun b hb => h.sFM b hb) m, e, rfl, h.sSF, ?_, ?_, h.pS, h.pF_, out _ _ h.ins h.pM, ?_, h.rcp.fr f qM m, ?_⟩
  · intro b hb
    obtain ⟨o, eo⟩ := h.slo.there b hb
    exact out b o eo (h.sSM b hb)
  · intro b hb
    obtain ⟨o, eo⟩ := h.fas.there b hb
    exact out b o eo (h.sFM b hb)
  · intro z
    rcases own_cases z with y | y | y | y
    · exact h.rO (by rw [y]; exact own_p)
    · exact h.rO (own_S y)
    · exact h.rO (own_F y)
    · exact out _ _ h.rul rM y
  · intro z
    obtain ⟨o, eo⟩ := h.rcp.ex
    rcases own_cases z with y | y | y | y
    · exact h.qO (by rw [y]; exact own_p)
    · exact h.qO (own_S y)
    · exact h.qO (own_F y)
    · exact out _ _ eo qM y
/-- only the fast disk changes -/
theorem PairAt.setF (h : PairAt c H P ks s) {d : DS (Option Rc)} (f : Fr P.F.own H H') (e : DiskR c.cD RV H' P.F d) : PairAt c H' P ks { s with fa := d } := by
  have m := h.fas.notup
  exact ⟨f _ _ h.ins h.pF_, f _ _ h.rul (fun z => h.rO (own_F z)), f _ _ h.ded (fun z => m _ z _ h.ded), h.slo.keep stSV f (fun b hb => h.sSF b hb) m, e, h.mem.keep f (fun b hb => h.sFM.symm b hb) m, h.kno, h.sSF, h.sSM, h.sFM, h.pS, h.pF_, h.pM, h.rO, h.rcp.fr f (fun z => h.qO (own_F z)) m, h.qO⟩
/-- only the slow disk changes -/
theorem PairAt.setS (h : PairAt c H P ks s) {d : DS Nat} (f : Fr P.S.own H H') (e : DiskR c.cD SV H' P.S d) : PairAt c H' P ks { s with sl := d } := by
  have m := h.slo.notup
  exact ⟨f _ _ h.ins h.pS, f _ _ h.rul (fun z => h.rO (own_S z)), f _ _ h.ded (fun z => m _ z _ h.ded), e, h.fas.keep stRV f (fun b hb => h.sSF.symm b hb) m, h.mem.keep f (fun b hb => h.sSM.symm b hb) m, h.kno, h.sSF, h.sSM, h.sFM, h.pS, h.pF_, h.pM, h.rO, h.rcp.fr f (fun z => h.qO (own_S z)) m, h.qO⟩
end
/-! ### parts of a request -/
abbrev clT {K : PySem.W.Frag} {mg : Str → Option Value} (T : Gx K mg) : Cl := ⟨T.C_Pair, T.C_Disk, T.C_Memory, T.C_KnownSlot, T.C_Rules, T.C_Recipes⟩
def ChgP (c : Cl) (H : Hp) (P : Pp) (ks : List Kp) (s' : PS) (Q : VK) (v : V) : Prop :=
  ∀ (H' : Hp) (P' : Pp) (ks' : List Kp), P'.p = P.p → P'.ru = P.ru → Fr (P.own ks) H H' → PairAt c H' P' ks' s' → (∀ b ∈ P'.own ks', b ∈ P.own ks ∨ H b = none) → Q v H'
def DS.rd {α : Type} (d : DS α) : DS α := { d with r := d.r + 1 }
def DS.wri {α : Type} (d : DS α) (i : Nat) (a : α) : DS α := { d with cs := d.cs.set i a, ps := d.ps ++ [(i, a)], w := d.w + 1 }
def slotN (kn : List Kn) (b : Nat) : Option Nat := (kn.find? fun q => decide (q.rc.blk = b)).map fun q => q.slot
theorem slotN_kns (ks : List Kp) (b : Nat) : slotN (kns ks) b = slotOf ks b := by
  unfold slotN slotOf kns
  rw [List.find?_map, Option.map_map]
  rfl
def beginS (b : Nat) (s : PS) : PS := match slotN s.kn b with
  | some i => { s with reqs := s.reqs + 1, hits := s.hits + 1, kn := useN i s.reqs s.kn }
  | none => { s with reqs := s.reqs + 1 }
def spOn (c : Cl) : Sp := fun vs H Q _ => ∃ (P : Pp) (ks : List Kp) (s : PS), vs = [.ref P.p] ∧ PairAt c H P ks s ∧ Q .non H
def spBlk (c : Cl) : Sp := fun vs H Q _ => ∃ (P : Pp) (ks : List Kp) (s : PS) (b : Nat), vs = [.ref P.p, .int (b : Int)] ∧ PairAt c H P ks s ∧ b < s.nb ∧ Q .non H
def spBegin (c : Cl) : Sp := fun vs H Q _ => ∃ (P : Pp) (ks : List Kp) (s : PS) (b : Nat), vs = [.ref P.p, .int (b : Int)] ∧ PairAt c H P ks s ∧ ChgP c H P ks (beginS b s) Q (slV (slotN s.kn b))
def spTakeS (c : Cl) : Sp := fun vs H Q _ => ∃ (P : Pp) (ks : List Kp) (s : PS) (i : Nat), vs = [.ref P.p] ∧ PairAt c H P ks s ∧ takeN s.ns s.ch s.kn = .int (i : Int) ∧ ChgP c H P ks { s with kn := forgetN i s.kn } Q (.int (i : Int))
def spWriteF (c : Cl) : Sp := fun vs H Q _ => ∃ (P : Pp) (ks : List Kp) (s : PS) (i : Nat) (v : V) (o : Option Rc), vs = [.ref P.p, .int (i : Int), v] ∧ PairAt c H P ks s ∧ RV H v o ∧ i < s.fa.cs.length ∧ s.fa.w ≤ 900 ∧ ChgP c H P ks { s with fa := s.fa.wri i o } Q .non
def spWriteR (c : Cl) : Sp := fun vs H Q _ => ∃ (P : Pp) (ks : List Kp) (s : PS) (i : Nat) (t : Addr) (rc : Rc), vs = [.ref P.p, .int (i : Int), .ref t] ∧ PairAt c H P ks s ∧ H t = some (.tup rc.vs) ∧ i < s.fa.cs.length ∧ i < s.ns ∧ s.fa.w ≤ 900 ∧
  ChgP c H P ks { s with fa := s.fa.wri i (some rc), kn := learnN i rc ((s.reqs : Int) - 1) s.kn } Q .non
theorem DiskR.wri {α : Type} {C : Addr} {R : Hp → V → α → Prop} (hR : Stays R) {H : Hp} {D : Dk} {d : DS α} {cs ls : List V} {ps : List (Nat × V)} {i : Nat} {v : V} {a : α} (h : DiskAt C H D cs ls ps d.r d.w d.s) (a1 : All2 (R H) cs d.cs) (a2 : All2 (R H) ls d.ls) (a3 : All2 (R H) (ps.map Prod.snd) (d.ps.map Prod.snd))
    (a4 : ps.map Prod.fst = d.ps.map Prod.fst) (a5 : d.ps.length ≤ d.w) (r : R H v a) {H' : Hp} (f : Fr D.own H H') (h' : DiskAt C H' D (cs.set i v) ls (ps ++ [(i, v)]) d.r (d.w + 1) d.s) : DiskR C R H' D (d.wri i a) := by
  have q : ∀ v a, R H v a → R H' v a := fun v a r => hR _ H H' v a r f h.notup
  refine ⟨_, _, _, h', (a1.set i r).imp q, a2.imp q, ?_, ?_, ?_⟩
  · show All2 (R H') ((ps ++ [(i, v)]).map Prod.snd) ((d.ps ++ [(i, a)]).map Prod.snd)
    rw [List.map_append, List.map_append]
    exact (a3.snoc r).imp q
  · show (ps ++ [(i, v)]).map Prod.fst = (d.ps ++ [(i, a)]).map Prod.fst
    rw [List.map_append, List.map_append, a4]
    rfl
  · show (d.ps ++ [(i, a)]).length ≤ d.w + 1
    rw [List.length_append]
    exact Nat.succ_le_succ a5
theorem own_setM {P : Pp} {ks ks' : List Kp} {H : Hp} (g : ∀ b ∈ P.M.own ks', b ∈ P.M.own ks ∨ H b = none) : ∀ b ∈ P.own ks', b ∈ P.own ks ∨ H b = none := by
  intro b hb
  rcases own_cases hb with rfl | hb | hb | hb
  · exact .inl own_p
  · exact .inl (own_S hb)
  · exact .inl (own_F hb)
  · rcases g b hb with z | z
    · exact .inl (own_M z)
    · exact .inr z
section
variable {P : Program} {w : World} {K : PySem.W.Frag} {mg : Str → Option Value} {base : Heap}
theorem ok_on (T : Gx K mg) : FnOk P w K mg base CX0 1 T.f_Pair__check_on T.fd_Pair__check_on ["self"] (spOn (clT T)) := by
  refine T.F_Pair__check_on.ok sc_Pair__check_on (fun vs H Q E h => ?_) (fun cdv A outer s H vs Q E hr h => ?_)
  · obtain ⟨P, ks, s, rfl, _⟩ := h
    rfl
  · obtain ⟨P, ks, s, rfl, hP, k⟩ := h
    refine ⟨_, (pss_one (ps_if (pt_not (pt_val (pe_fld (pv 0) rfl))) (pss_one ps_never) pss_nil)), ?_⟩
    refine ⟨_, rfl, P.p, T.C_Pair, P.px, _, _, rfl, hP.ins, T.cl_Pair, T.n_Pair__is_on, pF_get11, _, rfl, ?_⟩
    exact iteF k
theorem ok_blk (T : Gx K mg) : FnOk P w K mg base CX0 3 T.f_Pair__check_block T.fd_Pair__check_block ["self", "block"] (spBlk (clT T)) := by
  have G_is_number_from : FnOk P w K mg base CX0 2 T.f_is_number_from T.fd_is_number_from ["thing", "least", "most"] (spNumFrom K) := ok_numFrom T
  refine T.F_Pair__check_block.ok sc_Pair__check_block (fun vs H Q E h => ?_) (fun cdv A outer s H vs Q E hr h => ?_)
  · obtain ⟨P, ks, s, b, rfl, _⟩ := h
    rfl
  · obtain ⟨P, ks, s, b, rfl, hP, hb, k⟩ := h
    refine ⟨_, (pss_one (ps_if (pt_not (pt_val (pe_call G_is_number_from (hr.mono (by first | decide | omega)) (by rfl) T.g_is_number_from T.F_is_number_from.kp (b_is_number_from T) .nil pass0 (pa_cons (pv 1) (pa_cons pe_int (pa_cons (pe_op op_sub (pe_fld (pv 0) rfl) pe_int) pa_nil)))))) (pss_one ps_never) pss_nil)), ?_⟩
    refine ⟨_, rfl, _, rfl, P.p, T.C_Pair, P.px, _, _, rfl, hP.ins, T.cl_Pair, T.n_Pair__blocks, pF_get0, _, _, rfl, rfl, ?_⟩
    refine ⟨.int b, 0, _, rfl, .inl ⟨b, rfl, _, rfl, ?_⟩⟩
    have e : (decide ((0 : Int) ≤ (b : Int)) && decide ((b : Int) ≤ (s.nb : Int) - 1)) = true := by
      rw [Bool.and_eq_true, decide_eq_true_eq, decide_eq_true_eq]
      omega
    rw [e]
    exact iteF k
end
section
variable {P : Program} {w : World} {K : PySem.W.Frag} {mg : Str → Option Value} {base : Heap}
theorem ok_step (T : Gx K mg) : FnOk P w K mg base CX0 1 T.f_Pair__begin_step T.fd_Pair__begin_step ["self"] (spOn (clT T)) := by
  refine T.F_Pair__begin_step.ok sc_Pair__begin_step (fun vs H Q E h => ?_) (fun cdv A outer s H vs Q E hr h => ?_)
  · obtain ⟨P, ks, s, rfl, _⟩ := h
    rfl
  · obtain ⟨P, ks, s, rfl, hP, k⟩ := h
    refine ⟨_, (pss_cons (ps_if (pt_cmpR op_eq (pe_fld (pv 0) rfl) pe_int (nomark _)) pss_never pss_nil)
      (pss_one (ps_if (pt_cmpR op_notN (pe_fld (pv 0) rfl) pe_non (nomark _)) (pss_one (ps_fldaug (pv 0) pe_int in_sub)) pss_nil))), ?_⟩
    refine ⟨_, rfl, P.p, T.C_Pair, P.px, _, _, rfl, hP.ins, T.cl_Pair, T.n_Pair__steps_left, pF_get10, rfl, _, rfl, iteF ?_⟩
    refine ⟨_, rfl, P.p, T.C_Pair, P.px, _, _, rfl, hP.ins, T.cl_Pair, T.n_Pair__steps_left, pF_get10, rfl, _, rfl, iteF k⟩
theorem ok_begin (T : Gx K mg) : FnOk P w K mg base CX0 2 T.f_Pair__begin_request T.fd_Pair__begin_request ["self", "block"] (spBegin (clT T)) := by
  have G_Memory_slot_of : FnOk P w K mg base CX0 1 T.f_Memory_slot_of T.fd_Memory_slot_of ["self", "block"] (spSlotOf T.C_Memory T.C_KnownSlot) := ok_slotOf T
  have G_Memory_use : FnOk P w K mg base CX0 1 T.f_Memory_use T.fd_Memory_use ["self", "slot", "request"] (spUse T.C_Memory T.C_KnownSlot) := ok_use T
  refine T.F_Pair__begin_request.ok sc_Pair__begin_request (fun vs H Q E h => ?_) (fun cdv A outer s H vs Q E hr h => ?_)
  · obtain ⟨P, ks, s, b, rfl, _⟩ := h
    rfl
  · obtain ⟨P, ks, s, b, rfl, hP, k⟩ := h
    refine ⟨_, (pss_cons (ps_set (i := 2) sc_Pair__begin_request.nd rfl (.inl rfl) (pe_meth (pe_fld (pv 0) rfl) T.cl_Memory T.m_Memory_slot_of G_Memory_slot_of (hr.mono (by first | decide | omega)) (b_Memory_slot_of T) .nil pass0 (pa_cons (pv 1) pa_nil)))
      (pss_cons (ps_if (pt_cmpR op_notN (pv 2) pe_non (nomark _)) (pss_cons (ps_fldaug (pv 0) pe_int in_add)
      (pss_one (ps_expr (pe_meth (pe_fld (pv 0) rfl) T.cl_Memory T.m_Memory_use G_Memory_use (hr.mono (by first | decide | omega)) (b_Memory_use T) .nil pass0 (pa_cons (pv 2) (pa_cons (pe_fld (pv 0) rfl) pa_nil)))))) pss_nil)
      (pss_cons (ps_fldaug (pv 0) pe_int in_add)
      (pss_one (ps_ret (pv 2)))))), ?_⟩
    refine ⟨_, rfl, P.p, T.C_Pair, P.px, _, _, rfl, hP.ins, T.cl_Pair, T.n_Pair__memory, pF_get5, P.M.m, P.M.x, _, rfl, hP.mem.ins, mF_no_slot_of, _, rfl, P.M, s.ns, b, ks, rfl, hP.mem, fun H1 f1 => ?_⟩
    have hP1 := hP.keep0 f1
    refine ⟨_, rfl, rfl, _, rfl, ?_⟩
    rw [← slotN_kns, hP.kno]
    unfold beginS at k
    cases es : slotN s.kn b with
    | none =>
      rw [es] at k
      refine iteF ?_
      refine ⟨_, rfl, P.p, T.C_Pair, P.px, _, _, rfl, hP1.ins, T.cl_Pair, T.n_Pair__requests, pF_get7, _, _, rfl, rfl, P.px, _, hP1.ins, by simp [PS.fs, pF], ?_⟩
      unfold PS.fs
      rw [pF_put7]
      refine ⟨_, rfl, ?_⟩
      refine k _ P ks rfl rfl ((f1.mono (by simp)).trans (Fr.put own_p)) (hP1.setP (Fr.put (by simp)) upd_same) (fun b hb => .inl hb)
    | some i =>
      rw [es] at k
      refine iteT ?_
      refine ⟨_, rfl, P.p, T.C_Pair, P.px, _, _, rfl, hP1.ins, T.cl_Pair, T.n_Pair__hits, pF_get8, _, _, rfl, rfl, P.px, _, hP1.ins, by simp [PS.fs, pF], ?_⟩
      unfold PS.fs
      rw [pF_put8]
      have hP2 : PairAt (clT T) _ P ks { s with hits := s.hits + 1 } := hP1.setP (H' := upd H1 P.p (.ins T.C_Pair P.px (PS.fs { s with hits := s.hits + 1 } P))) (Fr.put (by simp)) upd_same
      have hi : (atN (kns ks) i).isSome = true := by
        unfold slotN at es
        cases ef : s.kn.find? (fun q => decide (q.rc.blk = b)) with
        | none => rw [ef] at es; cases es
        | some q =>
          rw [ef] at es
          cases es
          unfold atN
          rw [hP.kno, List.find?_isSome]
          exact ⟨q, List.mem_of_find?_eq_some ef, by simp⟩
      refine ⟨_, rfl, P.p, T.C_Pair, P.px, _, _, rfl, hP2.ins, T.cl_Pair, T.n_Pair__memory, pF_get5, P.M.m, P.M.x, _, rfl, hP2.mem.ins, mF_no_use, _, rfl, _, rfl, P.p, T.C_Pair, P.px, _, _, rfl, hP2.ins, T.cl_Pair, T.n_Pair__requests, pF_get7, P.M, s.ns, i, s.reqs, ks, rfl, hP2.mem, hi, fun H3 ks' f3 m3 e3 g3 => ?_⟩
      have hP3 := hP2.setM f3 m3 g3
      refine ⟨_, rfl, P.p, T.C_Pair, P.px, _, _, rfl, hP3.ins, T.cl_Pair, T.n_Pair__requests, pF_get7, _, _, rfl, rfl, P.px, _, hP3.ins, by simp [PS.fs, pF], ?_⟩
      unfold PS.fs
      rw [pF_put7]
      refine ⟨_, rfl, ?_⟩
      have f12 : Fr (P.own ks) H _ := ((f1.mono (by simp)).trans (Fr.put (o := .ins T.C_Pair P.px (PS.fs { s with hits := s.hits + 1 } P)) own_p)).trans (f3.mono fun b hb => own_M hb)
      refine k _ P ks' rfl rfl (f12.trans (Fr.put own_p)) (hP3.setP (Fr.put (by simp)) upd_same (e9 := ?_)) (own_setM fun b hb => ?_)
      · show useN i s.reqs s.kn = kns ks'
        rw [e3, hP.kno]
      · rcases g3 b hb with z | z
        · exact .inl z
        · have z1 := (free_upd z).1
          refine .inr ?_
          cases e : H b with
          | none => rfl
          | some o =>
            rw [f1 _ _ e (by simp)] at z1
            cases z1
end
/-! ### one change behind another -/
theorem Fr.nah {S : List Addr} {H H1 : Hp} {b : Addr} (f : Fr S H H1) (h : H1 b = none) : b ∈ S ∨ H b = none := by
  by_cases z : b ∈ S
  · exact .inl z
  · right
    cases e : H b with
    | none => rfl
    | some o =>
      rw [f b o e z] at h
      cases h
def Gw (S : List Addr) (H : Hp) (S' : List Addr) : Prop := ∀ b ∈ S', b ∈ S ∨ H b = none
theorem Fr.grow {S S1 : List Addr} {H H1 H2 : Hp} (f1 : Fr S H H1) (f2 : Fr S1 H1 H2) (g : Gw S H S1) : Fr S H H2 := fun b o e n => f2 b o (f1 b o e n) fun z => (g b z).elim n fun y => by
  rw [e] at y
  cases y
theorem Gw.trans {S S1 S2 : List Addr} {H H1 : Hp} (f : Fr S H H1) (g1 : Gw S H S1) (g2 : Gw S1 H1 S2) : Gw S H S2 := fun b hb => (g2 b hb).elim (g1 b) f.nah
theorem Gw.refl (S : List Addr) (H : Hp) : Gw S H S := fun _ h => .inl h
section
variable {P : Program} {w : World} {K : PySem.W.Frag} {mg : Str → Option Value} {base : Heap}
theorem ok_writeF (T : Gx K mg) : FnOk P w K mg base CX0 5 T.f_Pair__write_fast T.fd_Pair__write_fast ["self", "slot", "content"] (spWriteF (clT T)) := by
  have G_Pair__begin_step : FnOk P w K mg base CX0 1 T.f_Pair__begin_step T.fd_Pair__begin_step ["self"] (spOn (clT T)) := ok_step T
  have G_Disk_write : FnOk P w K mg base CX0 4 T.f_Disk_write T.fd_Disk_write ["self", "cell", "content"] (spWrite T.C_Disk) := ok_write T
  refine T.F_Pair__write_fast.ok sc_Pair__write_fast (fun vs H Q E h => ?_) (fun cdv A outer s H vs Q E hr h => ?_)
  · obtain ⟨P, ks, s, i, v, o, rfl, _⟩ := h
    rfl
  · obtain ⟨P, ks, s, i, v, o, rfl, hP, hv, hi, hw, k⟩ := h
    refine ⟨_, (pss_cons (ps_expr (pe_meth0 (pv 0) T.cl_Pair T.m_Pair__begin_step G_Pair__begin_step (hr.mono (by first | decide | omega)) (b_Pair__begin_step T) .nil pass0))
      (pss_one (ps_expr (pe_meth (pe_fld (pv 0) rfl) T.cl_Disk T.m_Disk_write G_Disk_write (hr.mono (by first | decide | omega)) (b_Disk_write T) .nil pass0 (pa_cons (pv 1) (pa_cons (pv 2) pa_nil)))))), ?_⟩
    refine ⟨_, rfl, P.p, P.px, _, rfl, hP.ins, pF_no__begin_step, P, ks, s, rfl, hP, ?_⟩
    obtain ⟨cs, ls, ps, hD, a1, a2, a3, a4, a5⟩ := hP.fas
    refine ⟨_, rfl, P.p, T.C_Pair, P.px, _, _, rfl, hP.ins, T.cl_Pair, T.n_Pair__fast, pF_get4, P.F.p, P.F.dx, _, rfl, hD.ins, dF_no_write, _, rfl, _, rfl, P.F, cs, ls, ps, s.fa.r, s.fa.w, s.fa.s, i, v, rfl, hD, (by rw [a1.1]; exact hi), ?_, fun H1 f1 h1 => ?_⟩
    · have := congrArg List.length a4
      simp only [List.length_map] at this
      omega
    · have h2 : DiskR T.C_Disk RV H1 P.F (s.fa.wri i o) := DiskR.wri stRV hD a1 a2 a3 a4 a5 hv f1 h1
      exact k H1 P ks rfl rfl (f1.mono fun b hb => own_F hb) (hP.setF f1 h2) (fun b hb => .inl hb)
theorem ok_writeR (T : Gx K mg) : FnOk P w K mg base CX0 6 T.f_Pair__write_record T.fd_Pair__write_record ["self", "slot", "record"] (spWriteR (clT T)) := by
  have G_Pair__write_fast : FnOk P w K mg base CX0 5 T.f_Pair__write_fast T.fd_Pair__write_fast ["self", "slot", "content"] (spWriteF (clT T)) := ok_writeF T
  have G_Memory_learn : FnOk P w K mg base CX0 3 T.f_Memory_learn T.fd_Memory_learn ["self", "slot", "record", "request"] (spLearn T.C_Memory T.C_KnownSlot) := ok_learn T
  refine T.F_Pair__write_record.ok sc_Pair__write_record (fun vs H Q E h => ?_) (fun cdv A outer s H vs Q E hr h => ?_)
  · obtain ⟨P, ks, s, i, t, rc, rfl, _⟩ := h
    rfl
  · obtain ⟨P, ks, s, i, t, rc, rfl, hP, ht, hi, hn, hw, k⟩ := h
    refine ⟨_, (pss_cons (ps_expr (pe_meth (pv 0) T.cl_Pair T.m_Pair__write_fast G_Pair__write_fast (hr.mono (by first | decide | omega)) (b_Pair__write_fast T) .nil pass0 (pa_cons (pv 1) (pa_cons (pv 2) pa_nil))))
      (pss_one (ps_expr (pe_meth (pe_fld (pv 0) rfl) T.cl_Memory T.m_Memory_learn G_Memory_learn (hr.mono (by first | decide | omega)) (b_Memory_learn T) .nil pass0 (pa_cons (pv 1) (pa_cons (pv 2) (pa_cons (pe_op op_sub (pe_fld (pv 0) rfl) pe_int) pa_nil))))))), ?_⟩
    refine ⟨_, rfl, P.p, P.px, _, rfl, hP.ins, pF_no__write_fast, _, rfl, _, rfl, P, ks, s, i, .ref t, some rc, rfl, hP, ⟨t, rfl, ht⟩, hi, hw, fun H1 P1 ks1 e1 r1 f1 hP1 g1 => ?_⟩
    rw [← e1]
    have ht1 := f1 _ _ ht (fun z => hP.notup _ z _ ht)
    refine ⟨_, rfl, P1.p, T.C_Pair, P1.px, _, _, rfl, hP1.ins, T.cl_Pair, T.n_Pair__memory, pF_get5, P1.M.m, P1.M.x, _, rfl, hP1.mem.ins, mF_no_learn, _, rfl, _, rfl, _, rfl, P1.p, T.C_Pair, P1.px, _, _, rfl, hP1.ins, T.cl_Pair, T.n_Pair__requests, pF_get7, _, _, rfl, rfl, P1.M, s.ns, i, t, rc, _, ks1, rfl, hP1.mem, hn, ht1, fun H2 ks2 f2 m2 e2 g2 => ?_⟩
    have hP2 := hP1.setM f2 m2 g2
    rw [e2, hP1.kno] at hP2
    have f12 : Fr (P.own ks) H H2 := f1.grow (f2.mono fun b hb => own_M hb) g1
    exact k H2 P1 ks2 e1 r1 f12 hP2 (Gw.trans f1 g1 (own_setM g2))
theorem ok_takeS (T : Gx K mg) : FnOk P w K mg base CX0 3 T.f_Pair__take_slot T.fd_Pair__take_slot ["self"] (spTakeS (clT T)) := by
  have G_Memory_slot_to_take : FnOk P w K mg base CX0 2 T.f_Memory_slot_to_take T.fd_Memory_slot_to_take ["self", "choice"] (spTake T.C_Memory T.C_KnownSlot) := ok_take T
  have G_Memory_forget : FnOk P w K mg base CX0 1 T.f_Memory_forget T.fd_Memory_forget ["self", "slot"] (spForgetM T.C_Memory T.C_KnownSlot) := ok_forgetM T
  have G_Rules_choice : FnOk P w K mg base CX0 1 T.f_Rules_choice T.fd_Rules_choice ["self"] (spGet T.C_Rules "_choice") := ok_choice T
  refine T.F_Pair__take_slot.ok sc_Pair__take_slot (fun vs H Q E h => ?_) (fun cdv A outer s H vs Q E hr h => ?_)
  · obtain ⟨P, ks, s, i, rfl, _⟩ := h
    rfl
  · obtain ⟨P, ks, s, i, rfl, hP, hi, k⟩ := h
    refine ⟨_, (pss_cons (ps_set (i := 1) sc_Pair__take_slot.nd rfl (.inl rfl) (pe_meth (pe_fld (pv 0) rfl) T.cl_Memory T.m_Memory_slot_to_take G_Memory_slot_to_take (hr.mono (by first | decide | omega)) (b_Memory_slot_to_take T) .nil pass0 (pa_cons (pe_prop (pe_fld (pv 0) rfl) T.cl_Rules T.P_Rules_choice G_Rules_choice (hr.mono (by first | decide | omega)) (b_Rules_choice T) .nil pass0 rfl) pa_nil)))
      (pss_cons (ps_if (pt_cmpR op_isN (pv 1) pe_non (nomark _)) pss_never pss_nil)
      (pss_cons (ps_expr (pe_meth (pe_fld (pv 0) rfl) T.cl_Memory T.m_Memory_forget G_Memory_forget (hr.mono (by first | decide | omega)) (b_Memory_forget T) .nil pass0 (pa_cons (pv 1) pa_nil)))
      (pss_one (ps_ret (pv 1)))))), ?_⟩
    refine ⟨_, rfl, P.p, T.C_Pair, P.px, _, _, rfl, hP.ins, T.cl_Pair, T.n_Pair__memory, pF_get5, P.M.m, P.M.x, _, rfl, hP.mem.ins, mF_no_slot_to_take, _, rfl, P.p, T.C_Pair, P.px, _, _, rfl, hP.ins, T.cl_Pair, T.n_Pair__rules, pF_get1, P.ru, P.rx, _, rfl, hP.rul, P.ru, P.rx, _, _, rfl, hP.rul, rF_get2, P.M, s.ns, s.ch, ks, rfl, hP.mem, fun H1 f1 => ?_⟩
    have hP1 := hP.keep0 f1
    rw [hP.kno, hi]
    refine ⟨_, rfl, rfl, _, rfl, iteF ?_⟩
    refine ⟨_, rfl, P.p, T.C_Pair, P.px, _, _, rfl, hP1.ins, T.cl_Pair, T.n_Pair__memory, pF_get5, P.M.m, P.M.x, _, rfl, hP1.mem.ins, mF_no_forget, _, rfl, P.M, s.ns, i, ks, rfl, hP1.mem, fun H2 ks2 f2 m2 e2 g2 => ?_⟩
    have hP2 := hP1.setM f2 m2 g2
    rw [e2, hP.kno] at hP2
    refine ⟨_, rfl, ?_⟩
    exact k H2 P ks2 rfl rfl ((f1.mono (by simp)).trans (f2.mono fun b hb => own_M hb)) hP2 (own_setM fun b hb => (g2 b hb).imp id fun z => some_of f1 (by simp) z)
end
/-! ### reading -/
def takeI (s : PS) : Nat := match takeN s.ns s.ch s.kn with
  | .int i => i.toNat
  | _ => 0
def keepS (b v : Nat) (s : PS) : PS := { s with fa := s.fa.wri (takeI s) (some ⟨b, v, 0, false⟩), kn := learnN (takeI s) ⟨b, v, 0, false⟩ ((s.reqs : Int) - 1) (forgetN (takeI s) s.kn) }
def slowV (b : Nat) (s : PS) : Nat := s.sl.cs.getD b 0
def readS (b : Nat) (s : PS) : PS := match slotN s.kn b with
  | some _ => { beginS b s with fa := s.fa.rd }
  | none => if V.str s.rd = V.str "keep" then keepS b (slowV b s) { beginS b s with sl := s.sl.rd } else { beginS b s with sl := s.sl.rd }
def readV (b : Nat) (s : PS) : Nat := match s.kn.find? (fun q => decide (q.rc.blk = b)) with
  | some q => q.rc.val
  | none => slowV b s
structure RdOk (s : PS) (b : Nat) : Prop where
  hb : b < s.nb
  lS : s.sl.cs.length = s.nb
  lF : s.fa.cs.length = s.ns
  inv : ∀ q ∈ s.kn, s.fa.cs[q.slot]? = some (some q.rc)
  tk : ∃ i : Nat, i < s.ns ∧ takeN s.ns s.ch s.kn = .int (i : Int)
  fw : s.fa.w ≤ 900
def spReadP (c : Cl) : Sp := fun vs H Q _ => ∃ (P : Pp) (ks : List Kp) (s : PS) (b : Nat), vs = [.ref P.p, .int (b : Int)] ∧ PairAt c H P ks s ∧ RdOk s b ∧ ChgP c H P ks (readS b s) Q (.int (readV b s : Int))
section
variable {P : Program} {w : World} {K : PySem.W.Frag} {mg : Str → Option Value} {base : Heap}
theorem ok_readP (T : Gx K mg) : FnOk P w K mg base CX0 7 T.f_Pair_read T.fd_Pair_read ["self", "block"] (spReadP (clT T)) := by
  have G_Pair__check_on : FnOk P w K mg base CX0 1 T.f_Pair__check_on T.fd_Pair__check_on ["self"] (spOn (clT T)) := ok_on T
  have G_Pair__check_block : FnOk P w K mg base CX0 3 T.f_Pair__check_block T.fd_Pair__check_block ["self", "block"] (spBlk (clT T)) := ok_blk T
  have G_Pair__begin_request : FnOk P w K mg base CX0 2 T.f_Pair__begin_request T.fd_Pair__begin_request ["self", "block"] (spBegin (clT T)) := ok_begin T
  have G_Disk_read : FnOk P w K mg base CX0 4 T.f_Disk_read T.fd_Disk_read ["self", "cell"] (spRead T.C_Disk) := ok_read T
  have G_Rules_reading : FnOk P w K mg base CX0 1 T.f_Rules_reading T.fd_Rules_reading ["self"] (spGet T.C_Rules "_reading") := ok_reading T
  have G_Pair__take_slot : FnOk P w K mg base CX0 3 T.f_Pair__take_slot T.fd_Pair__take_slot ["self"] (spTakeS (clT T)) := ok_takeS T
  have G_Pair__write_record : FnOk P w K mg base CX0 6 T.f_Pair__write_record T.fd_Pair__write_record ["self", "slot", "record"] (spWriteR (clT T)) := ok_writeR T
  refine T.F_Pair_read.ok sc_Pair_read (fun vs H Q E h => ?_) (fun cdv A outer s H vs Q E hr h => ?_)
  · obtain ⟨P, ks, s, b, rfl, _⟩ := h
    rfl
  · obtain ⟨P, ks, s, b, rfl, hP, ok, k⟩ := h
    refine ⟨_, (pss_cons (ps_expr (pe_meth0 (pv 0) T.cl_Pair T.m_Pair__check_on G_Pair__check_on (hr.mono (by first | decide | omega)) (b_Pair__check_on T) .nil pass0))
      (pss_cons (ps_expr (pe_meth (pv 0) T.cl_Pair T.m_Pair__check_block G_Pair__check_block (hr.mono (by first | decide | omega)) (b_Pair__check_block T) .nil pass0 (pa_cons (pv 1) pa_nil)))
      (pss_cons (ps_set (i := 2) sc_Pair_read.nd rfl (.inl rfl) (pe_meth (pv 0) T.cl_Pair T.m_Pair__begin_request G_Pair__begin_request (hr.mono (by first | decide | omega)) (b_Pair__begin_request T) .nil pass0 (pa_cons (pv 1) pa_nil)))
      (pss_cons (ps_if (pt_cmpR op_notN (pv 2) pe_non (nomark _)) (pss_one (ps_ret (pe_ix ix_tup (pe_meth (pe_fld (pv 0) rfl) T.cl_Disk T.m_Disk_read G_Disk_read (hr.mono (by first | decide | omega)) (b_Disk_read T) .nil pass0 (pa_cons (pv 2) pa_nil)) (pe_glob (v := .int (1)) (by rfl) T.c_VALUE ⟨_, rfl⟩) (fun _ _ => rfl)))) pss_nil)
      (pss_cons (ps_set (i := 3) sc_Pair_read.nd rfl (.inl rfl) (pe_meth (pe_fld (pv 0) rfl) T.cl_Disk T.m_Disk_read G_Disk_read (hr.mono (by first | decide | omega)) (b_Disk_read T) .nil pass0 (pa_cons (pv 1) pa_nil)))
      (pss_cons (ps_if (PW.pt (pw_and (pt_cmpR op_eq (pe_prop (pe_fld (pv 0) rfl) T.cl_Rules T.P_Rules_reading G_Rules_reading (hr.mono (by first | decide | omega)) (b_Rules_reading T) .nil pass0 rfl) pe_str (nomark _)) (pw_and1 (pt_cmpR op_notN (pe_fld (pv 0) rfl) pe_non (nomark _))))) (pss_cons (ps_set (i := 4) sc_Pair_read.nd rfl (.inl rfl) (pe_meth0 (pv 0) T.cl_Pair T.m_Pair__take_slot G_Pair__take_slot (hr.mono (by first | decide | omega)) (b_Pair__take_slot T) .nil pass0))
      (pss_one (ps_expr (pe_meth (pv 0) T.cl_Pair T.m_Pair__write_record G_Pair__write_record (hr.mono (by first | decide | omega)) (b_Pair__write_record T) .nil pass0 (pa_cons (pv 4) (pa_cons (pe_tup (pa_cons (pv 1) (pa_cons (pv 3) (pa_cons pe_int (pa_cons pe_bl pa_nil))))) pa_nil)))))) pss_nil)
      (pss_one (ps_ret (pv 3))))))))), ?_⟩
    refine ⟨_, rfl, P.p, P.px, _, rfl, hP.ins, pF_no__check_on, P, ks, s, rfl, hP, ?_⟩
    refine ⟨_, rfl, P.p, P.px, _, rfl, hP.ins, pF_no__check_block, _, rfl, P, ks, s, b, rfl, hP, ok.hb, ?_⟩
    refine ⟨_, rfl, P.p, P.px, _, rfl, hP.ins, pF_no__begin_request, _, rfl, P, ks, s, b, rfl, hP, fun H1 P1 ks1 e1 r1 f1 hP1 g1 => ?_⟩
    rw [← e1]
    refine ⟨_, rfl, rfl, _, rfl, ?_⟩
    unfold readS at k
    unfold readV at k
    cases ef : s.kn.find? (fun q => decide (q.rc.blk = b)) with
    | some q =>
      have es : slotN s.kn b = some q.slot := by unfold slotN; rw [ef]; rfl
      rw [ef, es] at k
      rw [es]
      refine iteT ?_
      have hq := ok.inv q (List.mem_of_find?_eq_some ef)
      have eb : beginS b s = { s with reqs := s.reqs + 1, hits := s.hits + 1, kn := useN q.slot s.reqs s.kn } := by unfold beginS; rw [es]
      have hF : DiskR T.C_Disk RV H1 P1.F s.fa := by
        have := hP1.fas
        rw [eb] at this
        exact this
      obtain ⟨cs, ls, ps, hD, a1, a2, a3, a4, a5⟩ := hF
      obtain ⟨v, hv, t, rfl, ht⟩ := a1.at hq
      refine ⟨_, rfl, P1.p, T.C_Pair, P1.px, _, _, rfl, hP1.ins, T.cl_Pair, T.n_Pair__fast, pF_get4, P1.F.p, P1.F.dx, _, rfl, hD.ins, dF_no_read, _, rfl, P1.F, cs, ls, ps, s.fa.r, s.fa.w, s.fa.s, q.slot, _, rfl, hD, hv, fun H2 f2 h2 => ?_⟩
      have ht2 := f2 _ _ ht (fun z => hD.notup _ z _ ht)
      refine ⟨_, _, (1 : Int), _, rfl, rfl, SqT.of ht2, rfl, ?_⟩
      have qq : ∀ v a, RV H1 v a → RV H2 v a := fun v a r => stRV _ H1 H2 v a r f2 hD.notup
      have hF2 : DiskR T.C_Disk RV H2 P1.F s.fa.rd := ⟨cs, ls, ps, h2, a1.imp qq, a2.imp qq, a3.imp qq, a4, a5⟩
      have hP2 := hP1.setF f2 hF2
      exact k H2 P1 ks1 e1 r1 (f1.grow (f2.mono fun b hb => own_F hb) g1) hP2 g1
    | none =>
      have es : slotN s.kn b = none := by unfold slotN; rw [ef]; rfl
      rw [ef, es] at k
      rw [es]
      refine iteF ?_
      have eb : beginS b s = { s with reqs := s.reqs + 1 } := by unfold beginS; rw [es]
      rw [eb] at hP1 k
      obtain ⟨cs, ls, ps, hD, a1, a2, a3, a4, a5⟩ := hP1.slo
      have hlt : b < s.sl.cs.length := by rw [ok.lS]; exact ok.hb
      obtain ⟨v, hv, rfl⟩ := a1.at (List.getElem?_eq_getElem hlt)
      have ev : s.sl.cs[b] = slowV b s := by
        unfold slowV
        rw [List.getD_eq_getElem?_getD, List.getElem?_eq_getElem hlt]
        rfl
      rw [ev] at hv
      refine ⟨_, rfl, P1.p, T.C_Pair, P1.px, _, _, rfl, hP1.ins, T.cl_Pair, T.n_Pair__slow, pF_get3, P1.S.p, P1.S.dx, _, rfl, hD.ins, dF_no_read, _, rfl, P1.S, cs, ls, ps, s.sl.r, s.sl.w, s.sl.s, b, _, rfl, hD, hv, fun H2 f2 h2 => ?_⟩
      have qq : ∀ v a, SV H1 v a → SV H2 v a := fun v a r => r
      have hS2 : DiskR T.C_Disk SV H2 P1.S s.sl.rd := ⟨cs, ls, ps, h2, a1.imp qq, a2.imp qq, a3.imp qq, a4, a5⟩
      have hP2 := hP1.setS f2 hS2
      have f12 : Fr (P.own ks) H H2 := f1.grow (f2.mono fun b hb => own_S hb) g1
      refine ⟨_, rfl, P1.p, T.C_Pair, P1.px, _, _, rfl, hP2.ins, T.cl_Pair, T.n_Pair__rules, pF_get1, P1.ru, P1.rx, _, rfl, hP2.rul, P1.ru, P1.rx, _, _, rfl, hP2.rul, rF_get1, rfl, _, rfl, ?_⟩
      obtain ⟨i, hin, hti⟩ := ok.tk
      have eI : takeI s = i := by
        unfold takeI
        rw [hti]
        exact Int.toNat_natCast i
      refine iteB (fun ek => ?_) fun ek => ?_
      · have ek' := of_decide_eq_true ek
        rw [if_pos ek'] at k
        refine ⟨_, rfl, P1.p, T.C_Pair, P1.px, _, _, rfl, hP2.ins, T.cl_Pair, T.n_Pair__fast, pF_get4, rfl, _, rfl, iteT ?_⟩
        refine ⟨_, rfl, P1.p, P1.px, _, rfl, hP2.ins, pF_no__take_slot, P1, ks1, _, i, rfl, hP2, hti, fun H3 P3 ks3 e3 r3 f3 hP3 g3 => ?_⟩
        rw [← e3]
        refine ⟨_, rfl, P3.p, P3.px, _, rfl, hP3.ins, pF_no__write_record, _, rfl, _, rfl, _, rfl, sz_le (by simp), fun t ht => ?_⟩
        have hP3' := hP3.keep0 (Fr.new (S := []) (o := .tup [.int (b : Int), .int (slowV b s : Int), .int 0, .bl false]) ht)
        refine ⟨P3, ks3, _, i, t, ⟨b, slowV b s, 0, false⟩, rfl, hP3', upd_same, ?_, hin, ok.fw, fun H4 P4 ks4 e4 r4 f4 hP4 g4 => ?_⟩
        · show i < s.fa.cs.length
          rw [ok.lF]
          exact hin
        · have f13 : Fr (P.own ks) H H3 := f12.grow f3 g1
          have g13 : Gw (P.own ks) H (P3.own ks3) := Gw.trans f12 g1 g3
          have f13' := f13.trans (Fr.new (o := .tup [.int (b : Int), .int (slowV b s : Int), .int 0, .bl false]) ht)
          have hQ : PairAt (clT T) H4 P4 ks4 (keepS b (slowV b s) { s with reqs := s.reqs + 1, sl := s.sl.rd }) := by
            unfold keepS
            have eI' : takeI { s with reqs := s.reqs + 1, sl := s.sl.rd } = i := eI
            rw [eI']
            exact hP4
          refine ⟨_, rfl, ?_⟩
          exact k H4 P4 ks4 (e4.trans (e3.trans e1)) (r4.trans (r3.trans r1)) (f13'.grow f4 g13) hQ (Gw.trans f13' g13 g4)
      · have ek' := of_decide_eq_false ek
        rw [if_neg ek'] at k
        refine iteF ?_
        exact ⟨_, rfl, k H2 P1 ks1 e1 r1 f12 hP2 g1⟩
end
/-! ### a new pair -/
def spChk : Sp := fun vs H Q _ => ∃ n m : Int, vs = [.int n, .int m] ∧ 1 ≤ n ∧ n ≤ m ∧ Q .non H
def spPutF (c : Cl) : Sp := fun vs H Q _ => ∃ (p px : Addr) (n : Nat) (fs : List (Str × V)), vs = [.ref p, .int (n : Int)] ∧ 1 ≤ n ∧ n ≤ 8 ∧ H p = some (.ins c.cP px fs) ∧ fs.length ≤ 20 ∧
  ∀ (H' : Hp) (F : Dk) (M : Mm), Fr [p] H H' → (∀ b ∈ F.own, H b = none) → (∀ b ∈ M.own [], H b = none) → Sep F.own (M.own []) → DiskAt c.cD H' F (List.replicate n .non) (List.replicate n .non) [] 0 0 0 → MemAt c.cM c.cK H' M n [] →
    H' p = some (.ins c.cP px (putF "_memory" (.ref M.m) (putF "_fast" (.ref F.p) fs))) → Q .non H'
theorem dk_new {H : Hp} {D : Dk} {p dx : Addr} {C : Addr} (hp : H p = none) (hdx : H dx = none) (e : D.p = p) (c0 : (upd (upd H dx (.own p)) p (.ins C dx [])) D.c = none) (l0 : (upd (upd H dx (.own p)) p (.ins C dx [])) D.l = none) (d0 : (upd (upd H dx (.own p)) p (.ins C dx [])) D.d = none) : ∀ b ∈ D.own, H b = none := fun b hb => by
  simp only [Dk.own, List.mem_cons, List.not_mem_nil, or_false] at hb
  rcases hb with rfl | rfl | rfl | rfl
  · rw [e]; exact hp
  · exact (free_upd (free_upd c0).1).1
  · exact (free_upd (free_upd l0).1).1
  · exact (free_upd (free_upd d0).1).1
section
variable {P : Program} {w : World} {K : PySem.W.Frag} {mg : Str → Option Value} {base : Heap}
theorem ok_chkB (T : Gx K mg) : FnOk P w K mg base CX0 3 T.f_check_blocks T.fd_check_blocks ["blocks", "most"] spChk := by
  have G_is_number_from : FnOk P w K mg base CX0 2 T.f_is_number_from T.fd_is_number_from ["thing", "least", "most"] (spNumFrom K) := ok_numFrom T
  refine T.F_check_blocks.ok sc_check_blocks (fun vs H Q E h => ?_) (fun cdv A outer s H vs Q E hr h => ?_)
  · obtain ⟨n, m, rfl, _⟩ := h
    rfl
  · obtain ⟨n, m, rfl, h1, h2, k⟩ := h
    refine ⟨_, (pss_one (ps_if (pt_not (pt_val (pe_call G_is_number_from (hr.mono (by first | decide | omega)) (by rfl) T.g_is_number_from T.F_is_number_from.kp (b_is_number_from T) .nil pass0 (pa_cons (pv 0) (pa_cons pe_int (pa_cons (pv 1) pa_nil)))))) (pss_one ps_never) pss_nil)), ?_⟩
    refine ⟨_, rfl, _, rfl, .int n, 1, m, rfl, .inl ⟨n, rfl, _, rfl, ?_⟩⟩
    have e : (decide ((1 : Int) ≤ n) && decide (n ≤ m)) = true := by
      rw [Bool.and_eq_true, decide_eq_true_eq, decide_eq_true_eq]
      omega
    rw [e]
    exact iteF k
theorem ok_chkS (T : Gx K mg) : FnOk P w K mg base CX0 3 T.f_check_slots T.fd_check_slots ["slots", "most"] spChk := by
  have G_is_number_from : FnOk P w K mg base CX0 2 T.f_is_number_from T.fd_is_number_from ["thing", "least", "most"] (spNumFrom K) := ok_numFrom T
  refine T.F_check_slots.ok sc_check_slots (fun vs H Q E h => ?_) (fun cdv A outer s H vs Q E hr h => ?_)
  · obtain ⟨n, m, rfl, _⟩ := h
    rfl
  · obtain ⟨n, m, rfl, h1, h2, k⟩ := h
    refine ⟨_, (pss_one (ps_if (pt_not (pt_val (pe_call G_is_number_from (hr.mono (by first | decide | omega)) (by rfl) T.g_is_number_from T.F_is_number_from.kp (b_is_number_from T) .nil pass0 (pa_cons (pv 0) (pa_cons pe_int (pa_cons (pv 1) pa_nil)))))) (pss_one ps_never) pss_nil)), ?_⟩
    refine ⟨_, rfl, _, rfl, .int n, 1, m, rfl, .inl ⟨n, rfl, _, rfl, ?_⟩⟩
    have e : (decide ((1 : Int) ≤ n) && decide (n ≤ m)) = true := by
      rw [Bool.and_eq_true, decide_eq_true_eq, decide_eq_true_eq]
      omega
    rw [e]
    exact iteF k
theorem ok_putInF (T : Gx K mg) : FnOk P w K mg base CX0 5 T.f_Pair__put_in_fast T.fd_Pair__put_in_fast ["self", "slots"] (spPutF (clT T)) := by
  have G_Disk___init__ : FnOk P w K mg base CX0 3 T.f_Disk___init__ T.fd_Disk___init__ ["self", "cells", "content"] (spInit T.C_Disk) := ok_init T
  have G_Memory___init__ : FnOk P w K mg base CX0 1 T.f_Memory___init__ T.fd_Memory___init__ ["self", "slots"] (spMInit T.C_Memory T.C_KnownSlot) := ok_mInit T
  obtain ⟨_, kb_Disk⟩ := T.F_Disk___init__.kbinds0 (ps := ["self", "cells", "content"]) 2 ["content"] [] (fun vs mz zs => vs ++ zs) (by simp) (by simp) (fun a _ b => a.append b)
    (fun D doc pm an cdv ct us mv ws hu hm hw => match us, hu, mv, hm, ws, hw with | [_, _], _, [], _, [_], _ => rfl)
  refine T.F_Pair__put_in_fast.ok sc_Pair__put_in_fast (fun vs H Q E h => ?_) (fun cdv A outer s H vs Q E hr h => ?_)
  · obtain ⟨p, px, n, fs, rfl, _⟩ := h
    rfl
  · obtain ⟨p, px, n, fs, rfl, h1, h8, hp, hl, k⟩ := h
    refine ⟨_, (pss_cons (ps_fld (pv 0) (pe_makeK T.M_Disk___init__ G_Disk___init__ (hr.mono (by first | decide | omega)) (by rfl) T.gC_Disk kb_Disk pass0 (pa_cons (pv 1) pa_nil) (pk_cons pe_non pk_nil)) rfl)
      (pss_one (ps_fld (pv 0) (pe_make T.M_Memory___init__ G_Memory___init__ (hr.mono (by first | decide | omega)) (by rfl) T.gC_Memory (b_Memory___init__ T) .nil pass0 (pa_cons (pv 1) pa_nil)) rfl))), ?_⟩
    refine ⟨_, rfl, rfl, rfl, fun q qx hq hqx hne => ⟨q, qx, n, .non, rfl, h1, by omega, upd_same, fun F H1 eF f1 hF c0 l0 d0 => ⟨rfl, ?_⟩⟩⟩
    have g1 : Fr [] H H1 := made_fr hq hqx f1
    have nF : ∀ b ∈ F.own, H b = none := dk_new hq hqx eF c0 l0 d0
    have hp1 := g1 _ _ hp (by simp)
    refine ⟨_, rfl, p, T.C_Pair, px, fs, rfl, hp1, T.cl_Pair, T.n_Pair__fast, by omega, ?_⟩
    have pF' : p ∉ F.own := fun z => by rw [nF p z] at hp; cases hp
    have hF2 : DiskAt T.C_Disk (upd H1 p (.ins T.C_Pair px (putF "_fast" (.ref q) fs))) F (List.replicate n .non) (List.replicate n .non) [] 0 0 0 := hF.keep (S := [p]) (Fr.put (by simp)) (fun b hb z => pF' (by rw [← List.mem_singleton.mp z]; exact hb)) (fun b hb xs => by rw [List.mem_singleton.mp hb, hp1]; simp)
    refine ⟨_, rfl, fun m mx hm hmx hnm => ⟨m, mx, n, rfl, by omega, upd_same, fun d H2 hd f2 hM => ⟨rfl, ?_⟩⟩⟩
    have g2 : Fr [] (upd H1 p (.ins T.C_Pair px (putF "_fast" (.ref q) fs))) H2 := made_fr hm hmx f2
    have hp2 := g2 _ _ upd_same (by simp)
    refine ⟨_, rfl, p, T.C_Pair, px, _, rfl, hp2, T.cl_Pair, T.n_Pair__memory, Nat.lt_of_le_of_lt (putF_len _ _ _) (by omega), ?_⟩
    rw [← eF] at hp2 ⊢
    have nM : ∀ b ∈ ({ m := m, x := mx, d := d } : Mm).own [], (upd H1 p (.ins T.C_Pair px (putF "_fast" (.ref q) fs))) b = none := fun b hb => by
      simp only [Mm.own, List.map_nil, List.mem_cons, List.not_mem_nil, or_false] at hb
      rcases hb with rfl | rfl
      · exact hm
      · exact (free_upd (free_upd hd).1).1
    have nM0 : ∀ b ∈ ({ m := m, x := mx, d := d } : Mm).own [], H b = none := fun b hb => some_of g1 (by simp) (free_upd (nM b hb)).1
    have hF3 := hF2.keep g2 (by simp) (by simp)
    have pM : p ∉ ({ m := m, x := mx, d := d } : Mm).own [] := fun z => by rw [nM0 p z] at hp; cases hp
    have S3 : Fr [p] H2 (upd H2 p (.ins T.C_Pair px (putF "_memory" (.ref m) (putF "_fast" (.ref F.p) fs)))) := Fr.put (by simp)
    have nt : ∀ b ∈ [p], ∀ xs, H2 b ≠ some (.tup xs) := fun b hb xs => by rw [List.mem_singleton.mp hb, hp2]; simp
    refine k _ F ⟨m, mx, d⟩ (((g1.mono (by simp)).trans (Fr.put (by simp))).trans ((g2.mono (by simp)).trans S3)) nF nM0 (fun b hb z => ?_) (hF3.keep S3 (fun b hb z => pF' (by rw [← List.mem_singleton.mp z]; exact hb)) nt) (hM.keep S3 (fun b hb z => pM (by rw [← List.mem_singleton.mp z]; exact hb)) nt) upd_same
    obtain ⟨o, eo⟩ := hF2.there b hb
    rw [nM b z] at eo
    cases eo
end
def initS (nb ns : Nat) (wr rd ch : Str) (bd : Int) : PS := ⟨nb, ns, wr, rd, ch, bd, ⟨List.replicate nb 0, List.replicate nb 0, [], 0, 0, 0⟩, ⟨List.replicate ns none, List.replicate ns none, [], 0, 0, 0⟩, [0, 0, 0, 0, 0, 0], 0, 0, 1, false, [], SAFE⟩
def spPInit (c : Cl) : Sp := fun vs H Q _ => ∃ (p px ru rx : Addr) (nb ns : Nat) (wr rd ch : Str) (bd : Int), vs = [.ref p, .int (nb : Int), .int (ns : Int), .ref ru, .non] ∧ 1 ≤ nb ∧ nb ≤ 16 ∧ 1 ≤ ns ∧ ns ≤ 8 ∧ H p = some (.ins c.cP px []) ∧ H ru = some (.ins c.cR rx (rF (.str wr) (.str rd) (.str ch) (.int bd))) ∧ p ≠ ru ∧
  ∀ (H' : Hp) (P : Pp), P.p = p → P.ru = ru → Fr [p] H H' → PairAt c H' P [] (initS nb ns wr rd ch bd) → Gw [p] H (P.own []) → Q .non H'
theorem pl {f : Str} {v : V} {fs : List (Str × V)} {n : Nat} (h : fs.length ≤ n) : (putF f v fs).length ≤ n + 1 := Nat.le_trans (putF_len f v fs) (Nat.succ_le_succ h)
theorem pF4_no {a b c d : V} : (putF "_slow" d (putF "_recipes" c (putF "_rules" b (putF "_blocks" a [])))).lookup ("_put_in_fast" : Str) = none := by
  simp only [putF, if_neg pnf0_1, if_neg pnf0_2, if_neg pnf0_3, if_neg pnf1_2, if_neg pnf1_3, if_neg pnf2_3, List.lookup, (show (("_put_in_fast" : Str) == "_blocks") = false by decide +kernel), (show (("_put_in_fast" : Str) == "_rules") = false by decide +kernel), (show (("_put_in_fast" : Str) == "_recipes") = false by decide +kernel), (show (("_put_in_fast" : Str) == "_slow") = false by decide +kernel)]
section
variable {P : Program} {w : World} {K : PySem.W.Frag} {mg : Str → Option Value} {base : Heap}
theorem ok_pInit (T : Gx K mg) : FnOk P w K mg base CX0 6 T.f_Pair___init__ T.fd_Pair___init__ ["self", "blocks", "slots", "rules", "recipes"] (spPInit (clT T)) := by
  have G_check_slots : FnOk P w K mg base CX0 3 T.f_check_slots T.fd_check_slots ["slots", "most"] spChk := ok_chkS T
  have G_check_blocks : FnOk P w K mg base CX0 3 T.f_check_blocks T.fd_check_blocks ["blocks", "most"] spChk := ok_chkB T
  have G_Disk___init__ : FnOk P w K mg base CX0 3 T.f_Disk___init__ T.fd_Disk___init__ ["self", "cells", "content"] (spInit T.C_Disk) := ok_init T
  have G_Recipes_safe : FnOk P w K mg base CX0 4 T.f_Recipes_safe T.fd_Recipes_safe ["cls"] (spSafeM T.C_Recipes) := ok_safeM T
  have G_Pair__put_in_fast : FnOk P w K mg base CX0 5 T.f_Pair__put_in_fast T.fd_Pair__put_in_fast ["self", "slots"] (spPutF (clT T)) := ok_putInF T
  obtain ⟨dsB, rdB, bB⟩ := T.F_check_blocks.binds1 (ps := ["blocks", "most"]) 1 0 (by simp) rfl (fun U kV doc pm an cdv ct us its hu hi => match us, hu, its, hi with
    | [_], _, [_], _ => ⟨_, rfl, rfl⟩)
  obtain ⟨dsS, rdS, bS⟩ := T.F_check_slots.binds1 (ps := ["slots", "most"]) 1 0 (by simp) rfl (fun U kV doc pm an cdv ct us its hu hi => match us, hu, its, hi with
    | [_], _, [_], _ => ⟨_, rfl, rfl⟩)
  obtain ⟨ds, rd, bI⟩ := T.F_Disk___init__.binds0 (ps := ["self", "cells", "content"]) 2 (by simp) rfl (fun D doc pm an cdv ct us ks hu hk => match us, hu, ks, hk with
    | [_, _], _, [_], _ => ⟨_, _, _, _, _, _, rfl, rfl, rfl⟩)
  refine T.F_Pair___init__.ok sc_Pair___init__ (fun vs H Q E h => ?_) (fun cdv A outer s H vs Q E hr h => ?_)
  · obtain ⟨p, px, ru, rx, nb, ns, wr, rw_, ch, bd, rfl, _⟩ := h
    rfl
  · obtain ⟨p, px, ru, rx, nb, ns, wr, rw_, ch, bd, rfl, hb1, hb2, hs1, hs2, hp, hru, pru, k⟩ := h
    refine ⟨_, (pss_cons (ps_expr (pe_call G_check_blocks (hr.mono (by first | decide | omega)) (by rfl) T.g_check_blocks T.F_check_blocks.kp bB rdB pass0 (pa_cons (pv 1) pa_nil)))
      (pss_cons (ps_expr (pe_call G_check_slots (hr.mono (by first | decide | omega)) (by rfl) T.g_check_slots T.F_check_slots.kp bS rdS pass0 (pa_cons (pv 2) pa_nil)))
      (pss_cons (ps_if (pt_cmpR op_isN (pv 4) pe_non (nomark _)) (pss_one (ps_set (i := 4) sc_Pair___init__.nd rfl (.inl rfl) (pe_cmeth0 (pe_glob (v := .ref T.C_Recipes) (by rfl) T.gC_Recipes rfl) T.R_Recipes_safe T.Y_Recipes_safe (G_Recipes_safe.raw (b_Recipes_safe T) .nil) (hr.mono (by first | decide | omega)) pass0))) pss_nil)
      (pss_cons (ps_fld (pv 0) (pv 1) rfl)
      (pss_cons (ps_fld (pv 0) (pv 3) rfl)
      (pss_cons (ps_fld (pv 0) (pv 4) rfl)
      (pss_cons (ps_fld (pv 0) (pe_make T.M_Disk___init__ G_Disk___init__ (hr.mono (by first | decide | omega)) (by rfl) T.gC_Disk bI rd pass0 (pa_cons (pv 1) pa_nil)) rfl)
      (pss_cons (ps_expr (pe_meth (pv 0) T.cl_Pair T.m_Pair__put_in_fast G_Pair__put_in_fast (hr.mono (by first | decide | omega)) (b_Pair__put_in_fast T) .nil pass0 (pa_cons (pv 2) pa_nil)))
      (pss_cons (ps_fld (pv 0) (pe_tup (StX.pa_star (pe_glob (v := .ref T.A_NO_COUNTS) (by rfl) T.g_NO_COUNTS rfl) (StX.pa_star (pe_glob (v := .ref T.A_NO_COUNTS) (by rfl) T.g_NO_COUNTS rfl) pa_nil))) rfl)
      (pss_cons (ps_fld (pv 0) pe_int rfl)
      (pss_cons (ps_fld (pv 0) pe_int rfl)
      (pss_cons (ps_fld (pv 0) pe_int rfl)
      (pss_cons (ps_fld (pv 0) pe_non rfl)
      (pss_cons (ps_fld (pv 0) pe_bl rfl)
      (pss_one (ps_fld (pv 0) pe_bl rfl)))))))))))))))), ?_⟩
    refine ⟨_, rfl, (nb : Int), 16, rfl, by omega, by omega, ?_⟩
    refine ⟨_, rfl, (ns : Int), 8, rfl, by omega, by omega, ?_⟩
    refine ⟨_, rfl, rfl, _, rfl, iteT ?_⟩
    refine ⟨rfl, rfl, fun re H1 hre f1 hR => ?_⟩
    have hp1 := f1 _ _ hp (by simp)
    refine ⟨_, rfl, _, rfl, p, T.C_Pair, px, [], rfl, hp1, T.cl_Pair, T.n_Pair__blocks, by simp, ?_⟩
    refine ⟨_, rfl, _, rfl, p, T.C_Pair, px, _, rfl, upd_same, T.cl_Pair, T.n_Pair__rules, Nat.lt_of_le_of_lt (putF_len _ _ _) (by simp), ?_⟩
    refine ⟨_, rfl, _, rfl, p, T.C_Pair, px, _, rfl, upd_same, T.cl_Pair, T.n_Pair__recipes, Nat.lt_of_le_of_lt (putF_len _ _ _) (Nat.lt_of_le_of_lt (Nat.succ_le_succ (putF_len _ _ _)) (by simp)), ?_⟩
    rw [upd_upd, upd_upd]
    refine ⟨_, rfl, fun q qx hq hqx hne => ⟨q, qx, nb, .int 0, rfl, hb1, by omega, upd_same, fun D H3 eD f3 hD c0 l0 d0 => ⟨rfl, ?_⟩⟩⟩
    have g3 := made_fr hq hqx f3
    have hp3 := g3 _ _ upd_same (by simp)
    have nD := dk_new hq hqx eD c0 l0 d0
    have f13' : Fr [p] H1 H3 := (Fr.put (by simp)).trans (g3.mono (by simp))
    have f13 : Fr [p] H H3 := ((f1.mono (by simp)).trans (Fr.put (by simp))).trans (g3.mono (by simp))
    refine ⟨_, rfl, p, T.C_Pair, px, _, rfl, hp3, T.cl_Pair, T.n_Pair__slow, Nat.lt_of_le_of_lt (pl (pl (pl (Nat.le_refl 0)))) (by decide), ?_⟩
    refine ⟨_, rfl, p, px, _, rfl, upd_same, pF4_no, _, rfl, p, px, ns, _, rfl, hs1, hs2, upd_same, Nat.le_trans (pl (pl (pl (pl (Nat.le_refl 0))))) (by decide), fun H4 F M f4 nF nM sFM hF hM hp4 => ?_⟩
    refine ⟨T.A_NO_COUNTS, _, rfl, .inl (T.k_NO_COUNTS _), T.A_NO_COUNTS, _, rfl, .inl (T.k_NO_COUNTS _), sz_le (by simp), fun cd hcd => ?_⟩
    have hp5 := (upd_ne (o := HO.tup [.int 0, .int 0, .int 0, .int 0, .int 0, .int 0]) (ne_of_none hp4 hcd)).trans hp4
    refine ⟨_, rfl, p, T.C_Pair, px, _, rfl, hp5, T.cl_Pair, T.n_Pair__counts_of_dead, Nat.lt_of_le_of_lt (pl (pl (pl (pl (pl (pl (Nat.le_refl 0))))))) (by decide), ?_⟩
    refine ⟨_, rfl, p, T.C_Pair, px, _, rfl, upd_same, T.cl_Pair, T.n_Pair__requests, Nat.lt_of_le_of_lt (pl (pl (pl (pl (pl (pl (pl (Nat.le_refl 0)))))))) (by decide), ?_⟩
    refine ⟨_, rfl, p, T.C_Pair, px, _, rfl, upd_same, T.cl_Pair, T.n_Pair__hits, Nat.lt_of_le_of_lt (pl (pl (pl (pl (pl (pl (pl (pl (Nat.le_refl 0))))))))) (by decide), ?_⟩
    refine ⟨_, rfl, p, T.C_Pair, px, _, rfl, upd_same, T.cl_Pair, T.n_Pair__next_turn, Nat.lt_of_le_of_lt (pl (pl (pl (pl (pl (pl (pl (pl (pl (Nat.le_refl 0)))))))))) (by decide), ?_⟩
    refine ⟨_, rfl, p, T.C_Pair, px, _, rfl, upd_same, T.cl_Pair, T.n_Pair__steps_left, Nat.lt_of_le_of_lt (pl (pl (pl (pl (pl (pl (pl (pl (pl (pl (Nat.le_refl 0))))))))))) (by decide), ?_⟩
    refine ⟨_, rfl, p, T.C_Pair, px, _, rfl, upd_same, T.cl_Pair, T.n_Pair__is_on, Nat.lt_of_le_of_lt (pl (pl (pl (pl (pl (pl (pl (pl (pl (pl (pl (Nat.le_refl 0)))))))))))) (by decide), ?_⟩
    refine ⟨_, rfl, p, T.C_Pair, px, _, rfl, upd_same, T.cl_Pair, T.n_Pair__is_done, Nat.lt_of_le_of_lt (pl (pl (pl (pl (pl (pl (pl (pl (pl (pl (pl (pl (Nat.le_refl 0))))))))))))) (by decide), ?_⟩
    rw [pF_made, upd_upd, upd_upd, upd_upd, upd_upd, upd_upd, upd_upd]
    rw [← eD]
    have nt3 : ∀ b ∈ [p], ∀ xs, H3 b ≠ some (.tup xs) := fun b hb xs => by rw [List.mem_singleton.mp hb, hp3]; simp
    have nD0 : ∀ b ∈ D.own, H b = none ∧ b ≠ p := fun b hb => by
      have z := free_upd (nD b hb)
      exact ⟨some_of f1 (by simp) z.1, z.2⟩
    have sing : ∀ S : List Addr, p ∉ S → ∀ b ∈ S, b ∉ [p] := fun S z b hb y => z (by rw [← List.mem_singleton.mp y]; exact hb)
    have pD : p ∉ D.own := fun z => (nD0 p z).2 rfl
    have nF0 : ∀ b ∈ F.own, H b = none ∧ b ≠ p := fun b hb => by
      have z := free_upd (nF b hb)
      exact ⟨(f13.nah z.1).resolve_left (by simpa using z.2), z.2⟩
    have nM0 : ∀ b ∈ M.own [], H b = none ∧ b ≠ p := fun b hb => by
      have z := free_upd (nM b hb)
      exact ⟨(f13.nah z.1).resolve_left (by simpa using z.2), z.2⟩
    have pF' : p ∉ F.own := fun z => (nF0 p z).2 rfl
    have pM : p ∉ M.own [] := fun z => (nM0 p z).2 rfl
    -- the slow disk until now
    have hD4 := (hD.keep (S := [p]) (H' := upd H3 p _) (Fr.put (o := .ins T.C_Pair px (putF "_slow" (.ref q) (putF "_recipes" (.ref re) (putF "_rules" (.ref ru) (putF "_blocks" (.int (nb : Int)) []))))) (by simp)) (sing _ pD) nt3).keep f4 (sing _ pD) (fun b hb xs => by rw [List.mem_singleton.mp hb, upd_same]; simp)
    have fin : ∀ {o : HO}, Fr [p] H4 (upd (upd H4 cd (.tup [.int 0, .int 0, .int 0, .int 0, .int 0, .int 0])) p o) := fun {o} => (Fr.new hcd).trans (Fr.put (by simp))
    have nt4 : ∀ b ∈ [p], ∀ xs, H4 b ≠ some (.tup xs) := fun b hb xs => by rw [List.mem_singleton.mp hb, hp4]; simp
    have pcd : cd ≠ p := (ne_of_none hp4 hcd).symm
    have f14 : Fr [p] H1 H4 := (f13'.trans (Fr.put (by simp))).trans f4
    have nt1 : ∀ b ∈ [p], ∀ xs, H1 b ≠ some (.tup xs) := fun b hb xs => by rw [List.mem_singleton.mp hb, hp1]; simp
    have nre : re ∉ [p] := by
      rw [List.mem_singleton]
      intro z
      rw [z, hp] at hre
      cases hre
    have f04 : Fr [p] H H4 := (f13.trans (Fr.put (by simp))).trans f4
    have sDF : Sep D.own F.own := fun b hb z => by
      obtain ⟨o, eo⟩ := hD.there b hb
      have y := (free_upd (nF b z)).1
      rw [eo] at y
      cases y
    have sDM : Sep D.own (M.own []) := fun b hb z => by
      obtain ⟨o, eo⟩ := hD.there b hb
      have y := (free_upd (nM b z)).1
      rw [eo] at y
      cases y
    have gw : Gw [p] H (Pp.own ⟨p, px, ru, rx, re, D, F, M, cd⟩ []) := fun b hb => by
      rcases own_cases hb with rfl | hb | hb | hb
      · exact .inl (by simp)
      · exact .inr (nD0 b hb).1
      · exact .inr (nF0 b hb).1
      · exact .inr (nM0 b hb).1
    refine k _ ⟨p, px, ru, rx, re, D, F, M, cd⟩ rfl rfl (f04.trans fin) ⟨upd_same, ?_, (upd_ne pcd).trans upd_same, ?_, ?_, hM.keep fin (sing _ pM) nt4, rfl, sDF, sDM, sFM, pD, pF', pM, ?_, ?_, ?_⟩ gw
    · exact (f04.trans fin) _ _ hru (by simpa using pru.symm)
    · exact ⟨_, _, [], hD4.keep fin (sing _ pD) nt4, All2.rep nb rfl, All2.rep nb rfl, ⟨rfl, fun i v a e => by simp at e⟩, rfl, Nat.le_refl _⟩
    · exact ⟨_, _, [], hF.keep fin (sing _ pF') nt4, All2.rep ns rfl, All2.rep ns rfl, ⟨rfl, fun i v a e => by simp at e⟩, rfl, Nat.le_refl _⟩
    · intro z
      rcases gw _ z with y | y
      · exact pru (List.mem_singleton.mp y).symm
      · rw [hru] at y
        cases y
    · exact ((hR.fr f14 nre nt1).fr fin nre nt4)
    · intro z
      obtain ⟨o, eo⟩ := hR.ex
      rcases own_cases z with y | y | y | y
      · exact nre (by rw [show re = p from y]; exact List.mem_singleton.mpr rfl)
      · have w := nD re y
        rw [upd_ne (fun e => nre (by rw [e]; exact List.mem_singleton.mpr rfl)), eo] at w
        cases w
      · have w := (free_upd (nF re y)).1
        rw [f13' _ _ eo nre] at w
        cases w
      · have w := (free_upd (nM re y)).1
        rw [f13' _ _ eo nre] at w
        cases w
end
/-! ### zip of two tuples in a comprehension -/
open RZ
theorem lc_zipT {K : PySem.W.Frag} {a b : Addr} {xs ys : List V} {g : TG} {tt : TT} {te : TE} {vs : List Nat} {σ : L2.St} {H1 : Hp} {D : Addr} {Qd : Hp → Prop} (hln : xs.length = ys.length) (Pv : Nat → Hp → Prop) (h0 : Pv 0 (upd H1 D (.lst []))) (hl : ∀ i H, i ≤ xs.length → Pv i H → SqT K H a xs ∧ SqT K H b ys)
    (hs : ∀ i x y T H, xs[i]? = some x → ys[i]? = some y → Pv i H → H T = none → g (.ref T) (wipe σ vs) (upd H T (.tup [x, y])) fun σ2 H2 => wipe σ2 vs = wipe σ vs ∧ tt σ2 H2 fun b H3 =>
      if b = true then te σ2 H3 fun y H4 => ∃ acc, H4 D = some (.lst acc) ∧ acc.length < sizeLine ∧ Pv (i + 1) (upd H4 D (.lst (acc ++ [y]))) else Pv (i + 1) H3) (hd : ∀ H, Pv xs.length H → Qd H) :
    ∃ W : Nat → Nat → Hp → Prop, (∃ m, W 0 m (upd H1 D (.lst []))) ∧ ∀ i m H, W i m H →
      ((ItzT K a b).stop i H ∧ Qd H) ∨ ((ItzT K a b).go i H ∧ ∃ Nx : Hp → Prop, (∀ H', Nx H' → ∃ m', m' < m ∧ W (i + 1) m' H') ∧ ∀ x H', (ItzT K a b).yld i H x H' → g x (wipe σ vs) H' fun σ2 H2 => wipe σ2 vs = wipe σ vs ∧ tt σ2 H2 fun b H3 =>
        if b = true then te σ2 H3 fun y H4 => ∃ acc, H4 D = some (.lst acc) ∧ acc.length < sizeLine ∧ Nx (upd H4 D (.lst (acc ++ [y]))) else Nx H3) := by
  refine ⟨fun i m H => m = xs.length - i ∧ i ≤ xs.length ∧ Pv i H, ⟨xs.length, by simp, Nat.zero_le _, h0⟩, ?_⟩
  rintro i m H ⟨rfl, hi, p⟩
  obtain ⟨qx, qy⟩ := hl i H hi p
  by_cases hlt : i < xs.length
  · have hx : xs[i]? = some xs[i] := List.getElem?_eq_getElem hlt
    have hlt2 : i < ys.length := by omega
    have hy : ys[i]? = some ys[i] := List.getElem?_eq_getElem hlt2
    refine .inr ⟨⟨xs, ys, _, _, qx, qy, hx, hy⟩, Pv (i + 1), fun H' p' => ⟨xs.length - (i + 1), by omega, rfl, hlt, p'⟩, fun v H' y => ?_⟩
    obtain ⟨T, x', y', rfl, hT, rfl, f1, f2⟩ := y
    exact hs i x' y' T H (f1 xs qx) (f2 ys qy) p hT
  · have e : i = xs.length := by omega
    subst e
    exact .inl ⟨⟨xs, ys, qx, qy, Or.inl (Nat.le_refl _)⟩, hd H p⟩
/-! ### what a pair shows -/
def spHits (c : Cl) : Sp := fun vs H Q _ => ∃ (P : Pp) (ks : List Kp) (s : PS), vs = [.ref P.p] ∧ PairAt c H P ks s ∧ Q (.int (s.hits : Int)) H
def spKnown (c : Cl) : Sp := fun vs H Q _ => ∃ (P : Pp) (ks : List Kp) (s : PS), vs = [.ref P.p] ∧ PairAt c H P ks s ∧ ∀ (D : Addr) (H' : Hp), H D = none → Fr [] H H' → H' D = some (.dK ((sortK ks).map Kp.kr)) → Q (.ref D) H'
def cntS (s : PS) : List Int := List.zipWith (· + ·) s.dc [(s.sl.r : Int), s.sl.w, s.sl.s, s.fa.r, s.fa.w, s.fa.s]
def spPCounts (c : Cl) : Sp := fun vs H Q _ => ∃ (P : Pp) (ks : List Kp) (s : PS), vs = [.ref P.p] ∧ PairAt c H P ks s ∧ s.dc.length = 6 ∧ ∀ (t : Addr) (H' : Hp), H t = none → Fr [] H H' → H' t = some (.tup ((cntS s).map V.int)) → Q (.ref t) H'
section
variable {P : Program} {w : World} {K : PySem.W.Frag} {mg : Str → Option Value} {base : Heap}
theorem ok_hits (T : Gx K mg) : FnOk P w K mg base CX0 1 T.f_Pair_hits T.fd_Pair_hits ["self"] (spHits (clT T)) := by
  refine T.F_Pair_hits.ok sc_Pair_hits (fun vs H Q E h => ?_) (fun cdv A outer s H vs Q E hr h => ?_)
  · obtain ⟨P, ks, s, rfl, _⟩ := h
    rfl
  · obtain ⟨P, ks, s, rfl, hP, k⟩ := h
    refine ⟨_, (pss_one (ps_ret (pe_fld (pv 0) rfl))), ?_⟩
    exact ⟨_, rfl, P.p, T.C_Pair, P.px, _, _, rfl, hP.ins, T.cl_Pair, T.n_Pair__hits, pF_get8, k⟩
theorem ok_known (T : Gx K mg) : FnOk P w K mg base CX0 2 T.f_Pair_known T.fd_Pair_known ["self"] (spKnown (clT T)) := by
  have G_Pair__check_on : FnOk P w K mg base CX0 1 T.f_Pair__check_on T.fd_Pair__check_on ["self"] (spOn (clT T)) := ok_on T
  have G_Memory_records : FnOk P w K mg base CX0 1 T.f_Memory_records T.fd_Memory_records ["self"] (spRecords T.C_Memory T.C_KnownSlot) := ok_records T
  refine T.F_Pair_known.ok sc_Pair_known (fun vs H Q E h => ?_) (fun cdv A outer s H vs Q E hr h => ?_)
  · obtain ⟨P, ks, s, rfl, _⟩ := h
    rfl
  · obtain ⟨P, ks, s, rfl, hP, k⟩ := h
    refine ⟨_, (pss_cons (ps_expr (pe_meth0 (pv 0) T.cl_Pair T.m_Pair__check_on G_Pair__check_on (hr.mono (by first | decide | omega)) (b_Pair__check_on T) .nil pass0))
      (pss_one (ps_ret (pe_meth0 (pe_fld (pv 0) rfl) T.cl_Memory T.m_Memory_records G_Memory_records (hr.mono (by first | decide | omega)) (b_Memory_records T) .nil pass0)))), ?_⟩
    refine ⟨_, rfl, P.p, P.px, _, rfl, hP.ins, pF_no__check_on, P, ks, s, rfl, hP, ?_⟩
    exact ⟨_, rfl, P.p, T.C_Pair, P.px, _, _, rfl, hP.ins, T.cl_Pair, T.n_Pair__memory, pF_get5, P.M.m, P.M.x, _, rfl, hP.mem.ins, mF_no_records, P.M, s.ns, ks, rfl, hP.mem, fun D H' hD f e => k D H' hD f e⟩
theorem ok_pCounts (T : Gx K mg) : FnOk P w K mg base CX0 3 T.f_Pair_counts T.fd_Pair_counts ["self"] (spPCounts (clT T)) := by
  have G_Disk_counts : FnOk P w K mg base CX0 1 T.f_Disk_counts T.fd_Disk_counts ["self"] (spCounts T.C_Disk) := ok_counts T
  refine T.F_Pair_counts.ok sc_Pair_counts (fun vs H Q E h => ?_) (fun cdv A outer s H vs Q E hr h => ?_)
  · obtain ⟨P, ks, s, rfl, _⟩ := h
    rfl
  · obtain ⟨P, ks, s, rfl, hP, hl, k⟩ := h
    obtain ⟨csF, lsF, psF, hF, _⟩ := hP.fas
    refine ⟨_, (pss_cons (ps_set (i := 1) sc_Pair_counts.nd rfl (.inl rfl) (pe_ifExp (pt_cmpR op_isN (pe_fld (pv 0) rfl) pe_non (nomark _)) (pe_glob (v := .ref T.A_NO_COUNTS) (by rfl) T.g_NO_COUNTS rfl) (pe_prop (pe_fld (pv 0) rfl) T.cl_Disk T.P_Disk_counts G_Disk_counts (hr.mono (by first | decide | omega)) (b_Disk_counts T) .nil pass0 rfl)))
      (pss_cons (ps_set (i := 2) sc_Pair_counts.nd rfl (.inl rfl) (pe_tup (StX.pa_star (pe_prop (pe_fld (pv 0) rfl) T.cl_Disk T.P_Disk_counts G_Disk_counts (hr.mono (by first | decide | omega)) (b_Disk_counts T) .nil pass0 rfl) (StX.pa_star (pv 1) pa_nil))))
      (pss_one (ps_ret (pe_callTy call_tuple_of (by rfl) T.z_tuple (by decide +kernel) (pa_cons (pe_lc (own := [("dead", 3), ("count", 4)]) (g := gTup K 2 (gCons (gName 3) (gCons (gName 4) gNil))) rfl sc_Pair_counts.nd (pi_zipA (by rfl) T.z_zip (pa_cons (pe_fld (pv 0) rfl) (pa_cons (pv 2) pa_nil))) (blkOk_by (N := ["self", "fast_counts", "living", "dead", "count"]) (sc := defScope s_Pair_counts) (by decide +kernel)) (fun _ _ _ _ _ => pg_tup (by rfl) (pgs_cons (pg_name (i := 3) sc_Pair_counts.nd rfl (.inl rfl)) (pgs_cons (pg_name (i := 4) sc_Pair_counts.nd rfl (.inl rfl)) pgs_nil))) (fun _ _ _ _ _ => pts_nil) (fun _ _ _ _ _ => (pe_op op_add (pv 3) (pv 4)))) pa_nil)))))), ?_⟩
    refine ⟨_, rfl, P.p, T.C_Pair, P.px, _, _, rfl, hP.ins, T.cl_Pair, T.n_Pair__fast, pF_get4, rfl, _, rfl, iteF ?_⟩
    refine ⟨_, rfl, P.p, T.C_Pair, P.px, _, _, rfl, hP.ins, T.cl_Pair, T.n_Pair__fast, pF_get4, P.F.p, P.F.dx, _, rfl, hF.ins, P.F, _, _, _, _, _, _, rfl, hF, fun t1 ht1 => ?_⟩
    have hP1 := hP.keep0 (Fr.new (S := []) (o := .tup [.int (s.fa.r : Int), .int (s.fa.w : Int), .int (s.fa.s : Int)]) ht1)
    obtain ⟨csS, lsS, psS, hS, _⟩ := hP1.slo
    refine ⟨_, rfl, P.p, T.C_Pair, P.px, _, _, rfl, hP1.ins, T.cl_Pair, T.n_Pair__slow, pF_get3, P.S.p, P.S.dx, _, rfl, hS.ins, P.S, _, _, _, _, _, _, rfl, hS, fun t2 ht2 => ?_⟩
    refine ⟨t2, _, rfl, .inl (SqT.of upd_same), _, rfl, t1, _, rfl, .inl (SqT.of ((upd_ne (free_upd ht2).2.symm).trans upd_same)), sz_le (by simp), fun t3 ht3 => ?_⟩
    have a1 : Fr [] H (upd H t1 (.tup [.int (s.fa.r : Int), .int (s.fa.w : Int), .int (s.fa.s : Int)])) := Fr.new ht1
    have a2 := a1.trans (Fr.new (o := .tup [.int (s.sl.r : Int), .int (s.sl.w : Int), .int (s.sl.s : Int)]) ht2)
    have a3 := a2.trans (Fr.new (o := .tup ([.int (s.sl.r : Int), .int (s.sl.w : Int), .int (s.sl.s : Int)] ++ ([.int (s.fa.r : Int), .int (s.fa.w : Int), .int (s.fa.s : Int)] ++ []))) ht3)
    have hP3 := hP.keep0 a3
    have e3 : (upd (upd (upd H t1 (.tup [.int (s.fa.r : Int), .int (s.fa.w : Int), .int (s.fa.s : Int)])) t2 (.tup [.int (s.sl.r : Int), .int (s.sl.w : Int), .int (s.sl.s : Int)])) t3 (.tup ([.int (s.sl.r : Int), .int (s.sl.w : Int), .int (s.sl.s : Int)] ++ ([.int (s.fa.r : Int), .int (s.fa.w : Int), .int (s.fa.s : Int)] ++ [])))) t3 = some (.tup (([(s.sl.r : Int), s.sl.w, s.sl.s, s.fa.r, s.fa.w, s.fa.s] : List Int).map V.int)) := upd_same
    generalize (upd (upd (upd H t1 (.tup [.int (s.fa.r : Int), .int (s.fa.w : Int), .int (s.fa.s : Int)])) t2 (.tup [.int (s.sl.r : Int), .int (s.sl.w : Int), .int (s.sl.s : Int)])) t3 (.tup ([.int (s.sl.r : Int), .int (s.sl.w : Int), .int (s.sl.s : Int)] ++ ([.int (s.fa.r : Int), .int (s.fa.w : Int), .int (s.fa.s : Int)] ++ [])))) = H3 at a3 hP3 e3 ⊢
    have n3 : H t1 = none ∧ True := ⟨ht1, trivial⟩
    refine ⟨_, rfl, P.p, T.C_Pair, P.px, _, _, rfl, hP3.ins, T.cl_Pair, T.n_Pair__counts_of_dead, pF_get6, _, rfl, P.cd, t3, _, _, rfl, .inr ⟨SqT.of hP3.ded, SqT.of e3, fun D hD => ?_⟩⟩
    refine lc_zipT (K := K) (a := P.cd) (b := t3) (xs := s.dc.map V.int) (ys := ([(s.sl.r : Int), s.sl.w, s.sl.s, s.fa.r, s.fa.w, s.fa.s] : List Int).map V.int) (by rw [List.length_map, hl]; rfl) (fun i H' => Fr [] H3 H' ∧ H' D = some (.lst ((List.zipWith (· + ·) (s.dc.take i) (([(s.sl.r : Int), s.sl.w, s.sl.s, s.fa.r, s.fa.w, s.fa.s] : List Int).take i)).map V.int))) ⟨Fr.new hD, upd_same⟩ (fun i H' _ h => ⟨SqT.of (h.1 _ _ hP3.ded (by simp)), SqT.of (h.1 _ _ e3 (by simp))⟩) ?_ ?_
    · rintro i x y U H1 hx hy ⟨f1, e1⟩ hU
      obtain ⟨u, rfl, hu⟩ := int_at hx
      obtain ⟨v, rfl, hv⟩ := int_at hy
      have hi := lt_of_at hu
      refine ⟨U, _, rfl, SqT.of upd_same, rfl, _, _, rfl, _, _, rfl, rfl, rfl, ?_⟩
      unfold tYes
      refine iteT ?_
      have eD := (upd_ne (o := .tup [.int u, .int v]) (ne_of_none e1 hU)).trans e1
      refine ⟨_, rfl, _, rfl, _, _, rfl, rfl, _, eD, ?_, ?_, ?_⟩
      · rw [List.length_map, List.length_zipWith]
        exact sz_lt (by simp; omega)
      · exact (f1.trans (Fr.new hU)).upd0 hD
      · rw [upd_same, List.take_succ, List.take_succ, hu, hv]
        have l1 : (s.dc.take i).length = (([(s.sl.r : Int), s.sl.w, s.sl.s, s.fa.r, s.fa.w, s.fa.s] : List Int).take i).length := by
          rw [List.length_take, List.length_take, hl]
          rfl
        rw [List.zipWith_append l1, List.map_append]
        rfl
    · rintro H1 ⟨f1, e1⟩
      refine ⟨D, _, rfl, .inl ⟨SqL.of e1, fun t ht => ?_⟩⟩
      have e6 : List.zipWith (· + ·) (s.dc.take (s.dc.map V.int).length) (([(s.sl.r : Int), s.sl.w, s.sl.s, s.fa.r, s.fa.w, s.fa.s] : List Int).take (s.dc.map V.int).length) = cntS s := by
        rw [List.length_map, List.take_length, hl]
        rfl
      rw [e6]
      refine k t _ ((a3.trans (Fr.nil_of f1)).nah ht |>.resolve_left (by simp)) ((a3.trans f1).trans (Fr.new ht)) upd_same
end
/-! ### the blocks that were read last -/
def mru (b : Nat) (i : Nat) (L : List (Nat × Int)) : List (Nat × Int) := (b, (i : Int)) :: L.filter fun p => decide (p.1 ≠ b)
structure LO (L : List (Nat × Int)) (i : Nat) : Prop where
  des : L.Pairwise fun p q => q.2 < p.2
  nod : (L.map Prod.fst).Nodup
  low : ∀ p ∈ L, p.2 < (i : Int)
theorem LO.step {L : List (Nat × Int)} {i : Nat} (h : LO L i) (b : Nat) : LO (mru b i L) (i + 1) := by
  have sub : ∀ p ∈ L.filter (fun p => decide (p.1 ≠ b)), p ∈ L ∧ p.1 ≠ b := fun p hp => ⟨(List.mem_filter.mp hp).1, of_decide_eq_true (List.mem_filter.mp hp).2⟩
  refine ⟨List.pairwise_cons.mpr ⟨fun p hp => h.low p (sub p hp).1, h.des.sublist List.filter_sublist⟩, ?_, fun p hp => ?_⟩
  · show (b :: (L.filter fun p => decide (p.1 ≠ b)).map Prod.fst).Nodup
    rw [List.nodup_cons]
    refine ⟨fun z => ?_, h.nod.sublist (List.Sublist.map _ List.filter_sublist)⟩
    obtain ⟨p, hp, e⟩ := List.mem_map.mp z
    exact (sub p hp).2 e
  · rcases List.mem_cons.mp hp with e | hp
    · rw [e]
      show (i : Int) < ((i + 1 : Nat) : Int)
      omega
    · have := h.low p (sub p hp).1
      omega
theorem filt_no {L : List (Nat × Int)} {b : Nat} (h : b ∉ L.map Prod.fst) : (L.filter fun p => decide (p.1 ≠ b)) = L := by
  rw [List.filter_eq_self]
  intro p hp
  exact decide_eq_true fun e => h (List.mem_map.mpr ⟨p, hp, e⟩)
theorem filt_take {b : Nat} : ∀ (m : Nat) (L : List (Nat × Int)), b ∉ (L.take m).map Prod.fst → (L.filter fun p => decide (p.1 ≠ b)).take m = L.take m
  | 0, _, _ => rfl
  | m + 1, [], _ => rfl
  | m + 1, p :: L, h => by
    rw [List.take_succ_cons, List.map_cons, List.mem_cons, not_or] at h
    have e : p.1 ≠ b := fun z => h.1 z.symm
    rw [List.filter_cons_of_pos (by simp [e]), List.take_succ_cons, List.take_succ_cons, filt_take m L h.2]
theorem filt_hit {b : Nat} : ∀ (m : Nat) (L : List (Nat × Int)), (L.map Prod.fst).Nodup → b ∈ (L.take (m + 1)).map Prod.fst → (L.filter fun p => decide (p.1 ≠ b)).take m = (L.take (m + 1)).filter fun p => decide (p.1 ≠ b)
  | m, [], _, h => by simp at h
  | m, p :: L, nd, h => by
    rw [List.map_cons, List.nodup_cons] at nd
    rw [List.take_succ_cons] at h ⊢
    by_cases e : p.1 = b
    · have hn : b ∉ L.map Prod.fst := by rw [← e]; exact nd.1
      rw [List.filter_cons_of_neg (by simp [e]), List.filter_cons_of_neg (by simp [e]), filt_no hn, filt_no]
      intro z
      obtain ⟨q, hq, eq⟩ := List.mem_map.mp z
      exact hn (List.mem_map.mpr ⟨q, List.mem_of_mem_take hq, eq⟩)
    · rw [List.map_cons, List.mem_cons] at h
      have h' := h.resolve_left (fun z => e z.symm)
      rw [List.filter_cons_of_pos (by simp [e]), List.filter_cons_of_pos (by simp [e])]
      cases m with
      | zero => simp at h'
      | succ m => rw [List.take_succ_cons, filt_hit m L nd.2 h']
structure LI (s : PS) (L : List (Nat × Int)) (i h m : Nat) : Prop where
  nb : s.nb = 16
  n1 : 1 ≤ s.ns
  n8 : s.ns ≤ 8
  rd : s.rd = "keep"
  ch : s.ch = "used"
  lS : s.sl.cs.length = 16
  lF : s.fa.cs.length = s.ns
  inv : ∀ q ∈ s.kn, s.fa.cs[q.slot]? = some (some q.rc)
  cln : ∀ q ∈ s.kn, q.rc.dirty = false
  slt : ∀ q ∈ s.kn, q.slot < s.ns
  snd : (s.kn.map fun q => q.slot).Nodup
  prm : (s.kn.map fun q => (q.rc.blk, q.used)).Perm (L.take s.ns)
  req : s.reqs = i
  hit : s.hits = h
  sr : s.sl.r = m
  fw : s.fa.w = m
  dc : s.dc = [0, 0, 0, 0, 0, 0]
theorem kn_rest {kn : List Kn} (nd : (kn.map fun q => q.slot).Nodup) {q : Kn} (hq : q ∈ kn) : kn.Perm (q :: forgetN q.slot kn) := by
  induction kn with
  | nil => cases hq
  | cons a r ih =>
    rw [List.map_cons, List.nodup_cons] at nd
    unfold forgetN at ih ⊢
    rcases List.mem_cons.mp hq with e | hq'
    · subst e
      rw [List.filter_cons_of_neg (by simp)]
      rw [List.filter_eq_self.mpr]
      intro p hp
      exact decide_eq_true fun e => nd.1 (List.mem_map.mpr ⟨p, hp, e⟩)
    · have na : a.slot ≠ q.slot := fun e => nd.1 (List.mem_map.mpr ⟨q, hq', e.symm⟩)
      rw [List.filter_cons_of_pos (by simp [na])]
      exact ((ih nd.2 hq').cons a).trans (List.Perm.swap _ _ _)
theorem min_mem (p : PySem.W.Tup Int × Int) (ps : List (PySem.W.Tup Int × Int)) : PySem.W.minOf p ps ∈ p :: ps := by
  induction ps generalizing p with
  | nil => exact List.mem_cons_self
  | cons r ps ih =>
    show PySem.W.minOf (if PySem.W.DatumOrd.lt r p = true then r else p) ps ∈ p :: r :: ps
    rcases List.mem_cons.mp (ih (if PySem.W.DatumOrd.lt r p = true then r else p)) with e | e
    · rw [e]
      split
      · exact List.mem_cons_of_mem _ List.mem_cons_self
      · exact List.mem_cons_self
    · exact List.mem_cons_of_mem _ (List.mem_cons_of_mem _ e)
/-- the rank is one number -/
def One (p : PySem.W.Tup Int × Int) (u : Int) : Prop := p.1 = ⟨[u]⟩
theorem lt_one {p q : PySem.W.Tup Int × Int} {u v : Int} (hp : One p u) (hq : One q v) (h : PySem.W.DatumOrd.lt p q = true) : u ≤ v := by
  have h' : (if p.1 = q.1 then PySem.W.DatumOrd.lt p.2 q.2 else PySem.W.DatumOrd.lt p.1 q.1) = true := h
  by_cases e : p.1 = q.1
  · rw [hp, hq] at e
    injection e with e
    injection e with e _
    omega
  · rw [if_neg e, hp, hq] at h'
    have h2 : (if u = v then false else decide (u < v)) = true := h'
    by_cases z : u = v
    · omega
    · rw [if_neg z] at h2
      exact Int.le_of_lt (of_decide_eq_true h2)
theorem nlt_one {p q : PySem.W.Tup Int × Int} {u v : Int} (hp : One p u) (hq : One q v) (h : ¬ PySem.W.DatumOrd.lt p q = true) : v ≤ u := by
  have h' : ¬ (if p.1 = q.1 then PySem.W.DatumOrd.lt p.2 q.2 else PySem.W.DatumOrd.lt p.1 q.1) = true := h
  by_cases e : p.1 = q.1
  · rw [hp, hq] at e
    injection e with e
    injection e with e _
    omega
  · rw [if_neg e, hp, hq] at h'
    have h2 : ¬ (if u = v then false else decide (u < v)) = true := h'
    by_cases z : u = v
    · omega
    · rw [if_neg z] at h2
      exact Int.not_lt.mp fun y => h2 (decide_eq_true y)
def hd1 (p : PySem.W.Tup Int × Int) : Int := p.1.items.headD 0
theorem One.hd {p : PySem.W.Tup Int × Int} {u : Int} (h : One p u) : hd1 p = u := by
  unfold hd1
  rw [h]
  rfl
theorem min_least (p : PySem.W.Tup Int × Int) (ps : List (PySem.W.Tup Int × Int)) (h : ∀ q ∈ p :: ps, One q (hd1 q)) : ∀ q ∈ p :: ps, hd1 (PySem.W.minOf p ps) ≤ hd1 q := by
  induction ps generalizing p with
  | nil =>
    intro q hq
    rw [List.mem_singleton.mp hq]
    exact Int.le_refl _
  | cons r ps ih =>
    intro q hq
    have hp := h p List.mem_cons_self
    have hr := h r (List.mem_cons_of_mem _ List.mem_cons_self)
    show hd1 (PySem.W.minOf (if PySem.W.DatumOrd.lt r p = true then r else p) ps) ≤ hd1 q
    by_cases z : PySem.W.DatumOrd.lt r p = true
    · rw [if_pos z]
      have ih' := ih r (fun q hq => h q (List.mem_cons_of_mem _ hq))
      rcases List.mem_cons.mp hq with e | hq
      · rw [e]
        exact Int.le_trans (ih' r List.mem_cons_self) (lt_one hr hp z)
      · exact ih' q hq
    · rw [if_neg z]
      have ih' := ih p (fun q hq => (List.mem_cons.mp hq).elim (fun e => h q (by rw [e]; exact List.mem_cons_self)) fun hq => h q (List.mem_cons_of_mem _ (List.mem_cons_of_mem _ hq)))
      rcases List.mem_cons.mp hq with e | hq
      · rw [e]
        exact ih' p List.mem_cons_self
      · rcases List.mem_cons.mp hq with e | hq
        · rw [e]
          exact Int.le_trans (ih' p List.mem_cons_self) (nlt_one hr hp z)
        · exact ih' q (List.mem_cons_of_mem _ hq)
/-- which slot is taken where none is free and no record is dirty: the least used -/
theorem take_full {s : PS} {L : List (Nat × Int)} {i h m : Nat} (I : LI s L i h m) (all : ∀ j, j < s.ns → (atN s.kn j).isSome = true) : ∃ q ∈ s.kn, takeN s.ns s.ch s.kn = .int (q.slot : Int) ∧ ∀ p ∈ s.kn, q.used ≤ p.used := by
  have ef : (List.range s.ns).find? (fun j => !(atN s.kn j).isSome) = none := by
    rw [List.find?_eq_none]
    intro j hj
    rw [all j (List.mem_range.mp hj)]
    simp
  have er : ranksN s.ch s.kn = s.kn.map fun q => ((⟨[q.used]⟩ : PySem.W.Tup Int), (q.slot : Int)) := by
    unfold ranksN
    rw [List.filter_eq_self.mpr (fun q hq => by rw [I.cln q hq]; rfl)]
    refine List.map_congr_left fun q _ => ?_
    unfold rankN
    rw [I.ch, if_pos rfl]
  unfold takeN
  rw [ef, er]
  cases ek : s.kn with
  | nil =>
    have := all 0 I.n1
    rw [ek] at this
    cases this
  | cons a r =>
    have hm := min_mem ((⟨[a.used]⟩ : PySem.W.Tup Int), (a.slot : Int)) (r.map fun q => ((⟨[q.used]⟩ : PySem.W.Tup Int), (q.slot : Int)))
    have hl := min_least ((⟨[a.used]⟩ : PySem.W.Tup Int), (a.slot : Int)) (r.map fun q => ((⟨[q.used]⟩ : PySem.W.Tup Int), (q.slot : Int))) (fun q hq => by
      rw [← List.map_cons (f := fun (q : Kn) => ((⟨[q.used]⟩ : PySem.W.Tup Int), (q.slot : Int)))] at hq
      obtain ⟨x, _, rfl⟩ := List.mem_map.mp hq
      rfl)
    rw [← List.map_cons (f := fun (q : Kn) => ((⟨[q.used]⟩ : PySem.W.Tup Int), (q.slot : Int)))] at hm hl
    obtain ⟨q, hq, eq⟩ := List.mem_map.mp hm
    refine ⟨q, hq, ?_, fun p hp => ?_⟩
    · exact congrArg (fun (x : PySem.W.Tup Int × Int) => V.int x.2) eq.symm
    · have := hl _ (List.mem_map_of_mem (f := fun (q : Kn) => ((⟨[q.used]⟩ : PySem.W.Tup Int), (q.slot : Int))) hp)
      rw [← eq] at this
      exact this

theorem forgetN_mem {s : Nat} {kn : List Kn} {q : Kn} : q ∈ forgetN s kn ↔ q ∈ kn ∧ q.slot ≠ s := by
  unfold forgetN
  rw [List.mem_filter]
  exact ⟨fun h => ⟨h.1, of_decide_eq_true h.2⟩, fun h => ⟨h.1, decide_eq_true h.2⟩⟩
/-- what is learnt where the slot was forgotten stands at the end -/
theorem learn_forgot (i : Nat) (rc : Rc) (r : Int) (kn : List Kn) : learnN i rc r (forgetN i kn) = forgetN i kn ++ [⟨i, rc, r, r, 1⟩] := by
  have e : atN (forgetN i kn) i = none := by
    unfold atN
    rw [List.find?_eq_none]
    intro q hq
    simpa using (forgetN_mem.mp hq).2
  unfold learnN
  rw [e]
  show putN (forgetN i kn) ⟨i, rc, r, r, 1⟩ = _
  unfold putN
  rw [if_neg]
  intro z
  obtain ⟨q, hq, eq⟩ := List.any_eq_true.mp z
  exact (forgetN_mem.mp hq).2 (of_decide_eq_true eq)
/-- the slot for a block that is not known: what is left is what was read last, but one if all were taken -/
theorem take_one {s : PS} {L : List (Nat × Int)} {i h m : Nat} (I : LI s L i h m) (O : LO L i) : ∃ j, j < s.ns ∧ takeN s.ns s.ch s.kn = .int (j : Int) ∧ ((forgetN j s.kn).map fun q => (q.rc.blk, q.used)).Perm (L.take (s.ns - 1)) := by
  have hlen : s.kn.length = min s.ns L.length := by
    have := I.prm.length_eq
    rw [List.length_map, List.length_take] at this
    exact this
  cases ef : (List.range s.ns).find? (fun j => !(atN s.kn j).isSome) with
  | some j =>
    obtain ⟨ej, hj, _⟩ := List.find?_range_eq_some.mp ef
    have hj' := List.mem_range.mp hj
    have no : forgetN j s.kn = s.kn := forgetN_no (by
      cases e : atN s.kn j with
      | none => rfl
      | some q => rw [e] at ej; cases ej)
    have lt : s.kn.length < s.ns := by
      have nd : (j :: s.kn.map fun q => q.slot).Nodup := List.nodup_cons.mpr ⟨fun z => by
        obtain ⟨q, hq, e⟩ := List.mem_map.mp z
        rw [← no] at hq
        exact (forgetN_mem.mp hq).2 e, I.snd⟩
      have := mem_len nd (fun x hx => by
        rcases List.mem_cons.mp hx with e | hx
        · rw [e]; exact hj'
        · obtain ⟨q, hq, e⟩ := List.mem_map.mp hx
          rw [← e]
          exact I.slt q hq)
      rw [List.length_cons, List.length_map] at this
      exact this
    refine ⟨j, hj', ?_, ?_⟩
    · unfold takeN
      rw [ef]
    · rw [no]
      have e1 : L.take (s.ns - 1) = L := List.take_of_length_le (by omega)
      have e2 : L.take s.ns = L := List.take_of_length_le (by omega)
      rw [e1, ← e2]
      exact I.prm
  | none =>
    have all : ∀ j, j < s.ns → (atN s.kn j).isSome = true := fun j hj => by
      have := List.find?_eq_none.mp ef j (List.mem_range.mpr hj)
      cases e : atN s.kn j with
      | none => exact absurd e (by simpa using this)
      | some _ => rfl
    obtain ⟨q, hq, et, hmin⟩ := take_full I all
    refine ⟨q.slot, I.slt q hq, et, ?_⟩
    -- the memory is full
    have full : s.ns ≤ s.kn.length := by
      have : (List.range s.ns).length ≤ (s.kn.map fun q => q.slot).length := List.Nodup.length_le_of_subset List.nodup_range (fun j hj => by
        have := all j (List.mem_range.mp hj)
        obtain ⟨p, ep⟩ := Option.isSome_iff_exists.mp this
        have e1 := List.mem_of_find?_eq_some ep
        have e2 : p.slot = j := of_decide_eq_true (List.find?_some (p := fun (p : Kn) => decide (p.slot = j)) ep)
        exact List.mem_map.mpr ⟨p, e1, e2⟩)
      simpa using this
    have hL : s.ns ≤ L.length := by omega
    -- the last of those kept
    have ez : L.take s.ns = L.take (s.ns - 1) ++ [L[s.ns - 1]'(by have := I.n1; omega)] := by
      have e := List.take_succ (l := L) (i := s.ns - 1)
      rw [List.getElem?_eq_getElem (by have := I.n1; omega)] at e
      have e3 : s.ns - 1 + 1 = s.ns := by have := I.n1; omega
      rw [e3] at e
      exact e
    have hz : (q.rc.blk, q.used) = L[s.ns - 1]'(by have := I.n1; omega) := by
      have m1 : (q.rc.blk, q.used) ∈ L.take s.ns := I.prm.mem_iff.mp (List.mem_map_of_mem (f := fun (q : Kn) => (q.rc.blk, q.used)) hq)
      rw [ez] at m1
      rcases List.mem_append.mp m1 with y | y
      · exfalso
        have m0 : L[s.ns - 1]'(by have := I.n1; omega) ∈ L.take (s.ns - 1) ++ [L[s.ns - 1]'(by have := I.n1; omega)] := List.mem_append_right _ (List.mem_singleton.mpr rfl)
        rw [← ez] at m0
        have m2 : L[s.ns - 1]'(by have := I.n1; omega) ∈ s.kn.map fun q => (q.rc.blk, q.used) := I.prm.mem_iff.mpr m0
        obtain ⟨p, hp, ep⟩ := List.mem_map.mp m2
        have h1 := hmin p hp
        have ds := O.des.sublist (List.take_sublist s.ns L)
        rw [ez, List.pairwise_append] at ds
        have h2 := ds.2.2 _ y _ (List.mem_singleton.mpr rfl)
        rw [← ep] at h2
        have h3 : p.used < q.used := h2
        omega
      · exact List.mem_singleton.mp y
    have p1 := (kn_rest I.snd hq).map fun q => (q.rc.blk, q.used)
    have p2 : ((q.rc.blk, q.used) :: (forgetN q.slot s.kn).map fun q => (q.rc.blk, q.used)).Perm (L.take (s.ns - 1) ++ [L[s.ns - 1]'(by have := I.n1; omega)]) := by
      rw [← ez]
      exact p1.symm.trans I.prm
    rw [hz] at p2
    exact (p2.trans (List.perm_append_comm)).cons_inv
theorem useN_mem {s : Nat} {r : Int} {kn : List Kn} {q : Kn} (h : q ∈ useN s r kn) : ∃ p ∈ kn, q.slot = p.slot ∧ q.rc = p.rc := by
  obtain ⟨p, hp, e⟩ := List.mem_map.mp h
  refine ⟨p, hp, ?_⟩
  rw [← e]
  split
  · exact ⟨rfl, rfl⟩
  · exact ⟨rfl, rfl⟩
theorem useN_slots (s : Nat) (r : Int) (kn : List Kn) : (useN s r kn).map (fun q => q.slot) = kn.map (fun q => q.slot) := by
  unfold useN
  rw [List.map_map]
  refine List.map_congr_left fun p _ => ?_
  show (if p.slot = s then _ else p).slot = p.slot
  split <;> rfl
theorem mru_take (b i : Nat) (L : List (Nat × Int)) {n : Nat} (h : 1 ≤ n) : (mru b i L).take n = (b, (i : Int)) :: (L.filter fun p => decide (p.1 ≠ b)).take (n - 1) := by
  have e : n = n - 1 + 1 := by omega
  unfold mru
  rw [e, List.take_succ_cons]
  rfl
theorem LI.ok {s : PS} {L : List (Nat × Int)} {i h m b : Nat} (I : LI s L i h m) (O : LO L i) (hb : b < 16) (hm : m ≤ 900) : RdOk s b := by
  obtain ⟨j, hj, ht, _⟩ := take_one I O
  exact ⟨by rw [I.nb]; exact hb, by rw [I.lS, I.nb], I.lF, I.inv, ⟨j, hj, ht⟩, by rw [I.fw]; exact hm⟩
theorem LI.isHit {s : PS} {L : List (Nat × Int)} {i h m b : Nat} (I : LI s L i h m) (O : LO L i) (hb : b ∈ (L.take s.ns).map Prod.fst) : LI (readS b s) (mru b i L) (i + 1) (h + 1) m := by
  obtain ⟨x, hx, ex⟩ := List.mem_map.mp hb
  obtain ⟨q1, hq1, e1⟩ := List.mem_map.mp (I.prm.mem_iff.mpr hx)
  have e1' : q1.rc.blk = b := by rw [← ex, ← e1]
  obtain ⟨q, ef⟩ : ∃ q, s.kn.find? (fun q => decide (q.rc.blk = b)) = some q := Option.isSome_iff_exists.mp (by
    rw [List.find?_isSome]
    exact ⟨q1, hq1, decide_eq_true e1'⟩)
  have hq := List.mem_of_find?_eq_some ef
  have eb : q.rc.blk = b := of_decide_eq_true (List.find?_some (p := fun (q : Kn) => decide (q.rc.blk = b)) ef)
  have es : slotN s.kn b = some q.slot := by unfold slotN; rw [ef]; rfl
  have e0 : readS b s = { s with reqs := s.reqs + 1, hits := s.hits + 1, kn := useN q.slot s.reqs s.kn, fa := s.fa.rd } := by
    unfold readS beginS
    rw [es]
  rw [e0]
  refine ⟨I.nb, I.n1, I.n8, I.rd, I.ch, I.lS, I.lF, fun p hp => ?_, fun p hp => ?_, fun p hp => ?_, ?_, ?_, by show s.reqs + 1 = i + 1; rw [I.req], by show s.hits + 1 = h + 1; rw [I.hit], I.sr, I.fw, I.dc⟩
  · obtain ⟨a, ha, z1, z2⟩ := useN_mem hp
    rw [z1, z2]
    exact I.inv a ha
  · obtain ⟨a, ha, z1, z2⟩ := useN_mem hp
    rw [z2]
    exact I.cln a ha
  · obtain ⟨a, ha, z1, z2⟩ := useN_mem hp
    rw [z1]
    exact I.slt a ha
  · show ((useN q.slot s.reqs s.kn).map fun q => q.slot).Nodup
    rw [useN_slots]
    exact I.snd
  · show ((useN q.slot s.reqs s.kn).map fun q => (q.rc.blk, q.used)).Perm ((mru b i L).take s.ns)
    have kr := kn_rest I.snd hq
    have p1 : (useN q.slot s.reqs s.kn).Perm (useN q.slot s.reqs (q :: forgetN q.slot s.kn)) := kr.map _
    have p2 : (useN q.slot s.reqs (q :: forgetN q.slot s.kn)).map (fun q => (q.rc.blk, q.used)) = (b, (s.reqs : Int)) :: (forgetN q.slot s.kn).map fun q => (q.rc.blk, q.used) := by
      unfold useN
      rw [List.map_cons, if_pos rfl, List.map_cons]
      have et : (List.map (fun (p : Kn) => if p.slot = q.slot then { p with used := (s.reqs : Int), uses := if 9 < p.uses + 1 then 9 else p.uses + 1 } else p) (forgetN q.slot s.kn)) = forgetN q.slot s.kn := by
        have : ∀ p ∈ forgetN q.slot s.kn, (if p.slot = q.slot then { p with used := (s.reqs : Int), uses := if 9 < p.uses + 1 then 9 else p.uses + 1 } else p) = p := fun p hp => if_neg (forgetN_mem.mp hp).2
        rw [List.map_congr_left this, List.map_id']
      rw [et, ← eb]
    have p3 := p1.map (fun q => (q.rc.blk, q.used))
    rw [p2] at p3
    rw [mru_take b i L I.n1, ← I.req]
    refine p3.trans (List.Perm.cons _ ?_)
    have nz : s.ns - 1 + 1 = s.ns := by have := I.n1; omega
    rw [filt_hit (s.ns - 1) L O.nod (by rw [nz]; exact hb), nz]
    have k1 : ((q.rc.blk, q.used) :: (forgetN q.slot s.kn).map fun q => (q.rc.blk, q.used)).Perm (L.take s.ns) := (kr.map (fun (q : Kn) => (q.rc.blk, q.used))).symm.trans I.prm
    have nd : (((q.rc.blk, q.used) :: (forgetN q.slot s.kn).map fun q => (q.rc.blk, q.used)).map Prod.fst).Nodup := (k1.map Prod.fst).nodup_iff.mpr (O.nod.sublist (List.Sublist.map _ (List.take_sublist _ _)))
    rw [List.map_cons, List.nodup_cons] at nd
    have k2 := k1.filter fun p => decide (p.1 ≠ b)
    rw [List.filter_cons_of_neg (by simp [eb]), filt_no (by rw [← eb]; exact nd.1)] at k2
    exact k2
theorem LI.isMiss {s : PS} {L : List (Nat × Int)} {i h m b : Nat} (I : LI s L i h m) (O : LO L i) (hb : b ∉ (L.take s.ns).map Prod.fst) : LI (readS b s) (mru b i L) (i + 1) h (m + 1) := by
  obtain ⟨j, hj, ht, hp⟩ := take_one I O
  have ef : s.kn.find? (fun q => decide (q.rc.blk = b)) = none := by
    rw [List.find?_eq_none]
    intro q hq e
    exact hb (List.mem_map.mpr ⟨_, I.prm.mem_iff.mp (List.mem_map_of_mem (f := fun (q : Kn) => (q.rc.blk, q.used)) hq), of_decide_eq_true e⟩)
  have es : slotN s.kn b = none := by unfold slotN; rw [ef]; rfl
  have eI : takeI { s with reqs := s.reqs + 1, sl := s.sl.rd } = j := by
    unfold takeI
    rw [ht]
    exact Int.toNat_natCast j
  have er : (((s.reqs + 1 : Nat) : Int) - 1) = (i : Int) := by rw [I.req]; omega
  have e0 : readS b s = { s with reqs := s.reqs + 1, sl := s.sl.rd, fa := s.fa.wri j (some ⟨b, slowV b s, 0, false⟩), kn := forgetN j s.kn ++ [⟨j, ⟨b, slowV b s, 0, false⟩, i, i, 1⟩] } := by
    unfold readS beginS
    rw [es]
    simp only []
    rw [if_pos (by rw [I.rd])]
    unfold keepS
    rw [eI, er, learn_forgot]
  rw [e0]
  have lt : j < s.fa.cs.length := by rw [I.lF]; exact hj
  refine ⟨I.nb, I.n1, I.n8, I.rd, I.ch, I.lS, ?_, fun p hp => ?_, fun p hp => ?_, fun p hp => ?_, ?_, ?_, by show s.reqs + 1 = i + 1; rw [I.req], I.hit, by show s.sl.r + 1 = m + 1; rw [I.sr], by show s.fa.w + 1 = m + 1; rw [I.fw], I.dc⟩
  · show (s.fa.cs.set j _).length = s.ns
    rw [List.length_set]
    exact I.lF
  · show (s.fa.cs.set j _)[p.slot]? = _
    rcases List.mem_append.mp hp with z | z
    · obtain ⟨z1, z2⟩ := forgetN_mem.mp z
      rw [List.getElem?_set_ne (fun y => z2 y.symm)]
      exact I.inv p z1
    · rw [List.mem_singleton.mp z]
      exact List.getElem?_set_self lt
  · rcases List.mem_append.mp hp with z | z
    · exact I.cln p (forgetN_mem.mp z).1
    · rw [List.mem_singleton.mp z]
  · rcases List.mem_append.mp hp with z | z
    · exact I.slt p (forgetN_mem.mp z).1
    · rw [List.mem_singleton.mp z]
      exact hj
  · show ((forgetN j s.kn ++ [(⟨j, ⟨b, slowV b s, 0, false⟩, i, i, 1⟩ : Kn)]).map fun (q : Kn) => q.slot).Nodup
    rw [List.map_append, List.nodup_append]
    refine ⟨I.snd.sublist (List.Sublist.map _ List.filter_sublist), by simp, fun x hx y hy => ?_⟩
    obtain ⟨p, hp, rfl⟩ := List.mem_map.mp hx
    have : y = j := by simpa using hy
    rw [this]
    exact (forgetN_mem.mp hp).2
  · show ((forgetN j s.kn ++ [(⟨j, ⟨b, slowV b s, 0, false⟩, i, i, 1⟩ : Kn)]).map fun (q : Kn) => (q.rc.blk, q.used)).Perm ((mru b i L).take s.ns)
    rw [mru_take b i L I.n1, filt_take (s.ns - 1) L (fun z => hb ?_), List.map_append]
    · exact (List.perm_append_comm).trans (List.Perm.cons _ hp)
    · obtain ⟨x, hx, e⟩ := List.mem_map.mp z
      exact List.mem_map.mpr ⟨x, (List.take_sublist_take_left (by omega)).subset hx, e⟩
theorem LI.init (n : Nat) (wr : Str) (bd : Int) (h1 : 1 ≤ n) (h8 : n ≤ 8) : LI (initS 16 n wr "keep" "used" bd) [] 0 0 0 :=
  ⟨rfl, h1, h8, rfl, rfl, by simp [initS], by simp [initS], fun q hq => (by cases hq), fun q hq => (by cases hq), fun q hq => (by cases hq), .nil, by simp [initS], rfl, rfl, rfl, rfl, rfl⟩
theorem LO.init : LO [] 0 := ⟨.nil, .nil, fun p hp => (by cases hp)⟩
/-! ### what the law knows -/
theorem cr_sortedK {X : Cx} {K : PySem.W.Frag} (h : X.K = K) : CallR X (.builtin "sorted") (rSorted K) := by
  subst h
  exact cr_sorted
theorem sl_listK {X : Cx} {K : PySem.W.Frag} (h : X.K = K) : SlR X (rSlL K) := by
  subst h
  exact sl_list
theorem op_notInK {X : Cx} {K : PySem.W.Frag} (h : X.K = K) : OpR X (compareOp .NotIn) (rIn K true) := by
  subst h
  exact op_notIn_seq
theorem beginS_ns (b : Nat) (s : PS) : (beginS b s).ns = s.ns := by
  unfold beginS
  cases slotN s.kn b <;> rfl
theorem readS_ns (b : Nat) (s : PS) : (readS b s).ns = s.ns := by
  unfold readS
  cases slotN s.kn b with
  | some i => exact beginS_ns b s
  | none =>
    simp only []
    split
    · exact beginS_ns b s
    · exact beginS_ns b s
theorem PairAt.re_ne {c : Cl} {H : Hp} {P : Pp} {ks : List Kp} {s : PS} (h : PairAt c H P ks s) {b : Addr} {xs : List V} (e : H b = some (.lst xs)) : P.re ∉ [b] := by
  obtain ⟨dx, a1, a2, a3, a4, z1, z2, z3, z4, _, e1, _⟩ := h.rcp
  rw [List.mem_singleton]
  exact ne_of e1 e (by simp)
def stp (n : Nat) (t : List (Nat × Int) × Nat × Nat) (b : Nat) : List (Nat × Int) × Nat × Nat := (mru b t.2.1 t.1, t.2.1 + 1, t.2.2 + if b ∈ (t.1.take n).map Prod.fst then 1 else 0)
def runL (n : Nat) (xs : List Nat) : List (Nat × Int) × Nat × Nat := xs.foldl (stp n) ([], 0, 0)
theorem runL_snoc (n : Nat) (xs : List Nat) (b : Nat) : runL n (xs ++ [b]) = stp n (runL n xs) b := by
  unfold runL
  rw [List.foldl_append]
  rfl
theorem runL_same (n m : Nat) (xs : List Nat) : (runL n xs).1 = (runL m xs).1 ∧ (runL n xs).2.1 = (runL m xs).2.1 := by
  have : ∀ (t u : List (Nat × Int) × Nat × Nat), t.1 = u.1 ∧ t.2.1 = u.2.1 → (xs.foldl (stp n) t).1 = (xs.foldl (stp m) u).1 ∧ (xs.foldl (stp n) t).2.1 = (xs.foldl (stp m) u).2.1 := by
    induction xs with
    | nil => intro t u h; exact h
    | cons b xs ih =>
      intro t u h
      refine ih _ _ ⟨?_, ?_⟩
      · show mru b t.2.1 t.1 = mru b u.2.1 u.1
        rw [h.1, h.2]
      · show t.2.1 + 1 = u.2.1 + 1
        rw [h.2]
  exact this _ _ ⟨rfl, rfl⟩
theorem runL_mono (n : Nat) (xs : List Nat) : (runL n xs).2.2 ≤ (runL (n + 1) xs).2.2 := by
  have : ∀ (t u : List (Nat × Int) × Nat × Nat), t.1 = u.1 ∧ t.2.1 = u.2.1 ∧ t.2.2 ≤ u.2.2 → (xs.foldl (stp n) t).2.2 ≤ (xs.foldl (stp (n + 1)) u).2.2 := by
    induction xs with
    | nil => intro t u h; exact h.2.2
    | cons b xs ih =>
      intro t u h
      refine ih _ _ ⟨?_, ?_, ?_⟩
      · show mru b t.2.1 t.1 = mru b u.2.1 u.1
        rw [h.1, h.2.1]
      · show t.2.1 + 1 = u.2.1 + 1
        rw [h.2.1]
      · show t.2.2 + (if b ∈ (t.1.take n).map Prod.fst then 1 else 0) ≤ u.2.2 + if b ∈ (u.1.take (n + 1)).map Prod.fst then 1 else 0
        have h2 := h.2.2
        by_cases z : b ∈ (t.1.take n).map Prod.fst
        · have : b ∈ (u.1.take (n + 1)).map Prod.fst := by
            rw [← h.1]
            obtain ⟨x, hx, e⟩ := List.mem_map.mp z
            exact List.mem_map.mpr ⟨x, (List.take_sublist_take_left (by omega)).subset hx, e⟩
          rw [if_pos z, if_pos this]
          omega
        · rw [if_neg z]
          omega
  exact this _ _ ⟨rfl, rfl, Nat.le_refl _⟩
def Req (H : Hp) (R : Addr) (xs : List Nat) : Prop := ∃ ts : List Addr, H R = some (.lst (ts.map V.ref)) ∧ ts.length = xs.length ∧ ∀ (i : Nat) (t : Addr) (x : Nat), ts[i]? = some t → xs[i]? = some x → H t = some (.tup [.str "read", .int (x : Int)])
theorem Req.keep {S : List Addr} {H H' : Hp} {R : Addr} {xs : List Nat} (h : Req H R xs) (f : Fr S H H') (n : R ∉ S) (m : ∀ b ∈ S, ∀ xs, H b ≠ some (.tup xs)) : Req H' R xs := by
  obtain ⟨ts, e, l, g⟩ := h
  exact ⟨ts, f _ _ e n, l, fun i t x a b => f _ _ (g i t x a b) (fun z => m _ z _ (g i t x a b))⟩
structure LW (H : Hp) (r R hh kk : Addr) (xs : List Nat) (hs : List Int) (ws : List Addr) (rows : List (List Int)) : Prop where
  rnd : Rnd H r
  req : Req H R xs
  hl : H hh = some (.lst (hs.map V.int))
  kl : H kk = some (.lst (ws.map V.ref))
  wl : ws.length = rows.length
  row : ∀ (j : Nat) (w : Addr) (ys : List Int), ws[j]? = some w → rows[j]? = some ys → H w = some (.lst (ys.map V.int))
  rR : r ≠ R
  rh : r ≠ hh
  rk : r ≠ kk
  Rh : R ≠ hh
  Rk : R ≠ kk
  hk : hh ≠ kk
  out : ∀ w ∈ ws, w ≠ r ∧ w ≠ R ∧ w ≠ hh ∧ w ≠ kk
section
variable {H H' : Hp} {r R hh kk : Addr} {xs : List Nat} {hs : List Int} {ws : List Addr} {rows : List (List Int)}
theorem LW.row_at (h : LW H r R hh kk xs hs ws rows) {w : Addr} (hw : w ∈ ws) : ∃ ys : List Int, H w = some (.lst (ys.map V.int)) := by
  obtain ⟨j, hj, e⟩ := List.mem_iff_getElem.mp hw
  have hj' : j < rows.length := by rw [← h.wl]; exact hj
  exact ⟨rows[j], h.row j w _ (by rw [← e]; exact List.getElem?_eq_getElem hj) (List.getElem?_eq_getElem hj')⟩
theorem LW.keep {S : List Addr} (h : LW H r R hh kk xs hs ws rows) (f : Fr S H H') (n : ∀ b ∈ r :: R :: hh :: kk :: ws, b ∉ S) (m : ∀ b ∈ S, ∀ xs, H b ≠ some (.tup xs)) : LW H' r R hh kk xs hs ws rows :=
  ⟨h.rnd.keep f (n _ (by simp)), h.req.keep f (n _ (by simp)) m, f _ _ h.hl (n _ (by simp)), f _ _ h.kl (n _ (by simp)), h.wl, fun j w ys a b => f _ _ (h.row j w ys a b) (n _ (by simp [List.mem_of_getElem? a])), h.rR, h.rh, h.rk, h.Rh, h.Rk, h.hk, h.out⟩
theorem LW.keep0 (h : LW H r R hh kk xs hs ws rows) (f : Fr [] H H') : LW H' r R hh kk xs hs ws rows := h.keep f (by simp) (by simp)
theorem LW.there (h : LW H r R hh kk xs hs ws rows) : ∀ b ∈ r :: R :: hh :: kk :: ws, ∃ o, H b = some o := by
  obtain ⟨a, b', ns, er⟩ := h.rnd
  obtain ⟨ts, eR, _⟩ := h.req
  intro b hb
  simp only [List.mem_cons] at hb
  rcases hb with rfl | rfl | rfl | rfl | hb
  · exact ⟨_, er⟩
  · exact ⟨_, eR⟩
  · exact ⟨_, h.hl⟩
  · exact ⟨_, h.kl⟩
  · obtain ⟨ys, e⟩ := h.row_at hb
    exact ⟨_, e⟩
theorem LW.draw (h : LW H r R hh kk xs hs ws rows) (f : Fr [r] H H') (R' : Rnd H' r) : LW H' r R hh kk xs hs ws rows := by
  have m := h.rnd.notup
  have q : ∀ b, b ≠ r → b ∉ [r] := fun b e z => e (List.mem_singleton.mp z)
  exact ⟨R', h.req.keep f (q _ h.rR.symm) m, f _ _ h.hl (q _ h.rh.symm), f _ _ h.kl (q _ h.rk.symm), h.wl, fun j w ys a b => f _ _ (h.row j w ys a b) (q _ (h.out w (List.mem_of_getElem? a)).1), h.rR, h.rh, h.rk, h.Rh, h.Rk, h.hk, h.out⟩
/-- one more number of hits -/
theorem LW.hit (h : LW H r R hh kk xs hs ws rows) (x : Int) : LW (upd H hh (.lst ((hs ++ [x]).map V.int))) r R hh kk xs (hs ++ [x]) ws rows := by
  have f : Fr [hh] H (upd H hh (.lst ((hs ++ [x]).map V.int))) := Fr.put (by simp)
  have m : ∀ b ∈ [hh], ∀ xs, H b ≠ some (.tup xs) := fun b hb xs => by rw [List.mem_singleton.mp hb, h.hl]; simp
  have q : ∀ b, b ≠ hh → b ∉ [hh] := fun b e z => e (List.mem_singleton.mp z)
  exact ⟨h.rnd.keep f (q _ h.rh), h.req.keep f (q _ h.Rh) m, upd_same, f _ _ h.kl (q _ h.hk.symm), h.wl, fun j w ys a b => f _ _ (h.row j w ys a b) (q _ (h.out w (List.mem_of_getElem? a)).2.2.1), h.rR, h.rh, h.rk, h.Rh, h.Rk, h.hk, h.out⟩
/-- one more row -/
theorem LW.kept (h : LW H r R hh kk xs hs ws rows) {w : Addr} {ys : List Int} (e : H w = some (.lst (ys.map V.int))) (o : w ≠ r ∧ w ≠ R ∧ w ≠ hh ∧ w ≠ kk) : LW (upd H kk (.lst ((ws ++ [w]).map V.ref))) r R hh kk xs hs (ws ++ [w]) (rows ++ [ys]) := by
  have f : Fr [kk] H (upd H kk (.lst ((ws ++ [w]).map V.ref))) := Fr.put (by simp)
  have m : ∀ b ∈ [kk], ∀ xs, H b ≠ some (.tup xs) := fun b hb xs => by rw [List.mem_singleton.mp hb, h.kl]; simp
  have q : ∀ b, b ≠ kk → b ∉ [kk] := fun b e z => e (List.mem_singleton.mp z)
  refine ⟨h.rnd.keep f (q _ h.rk), h.req.keep f (q _ h.Rk) m, f _ _ h.hl (q _ h.hk), upd_same, by rw [List.length_append, List.length_append, h.wl]; rfl, fun j u zs a b => ?_, h.rR, h.rh, h.rk, h.Rh, h.Rk, h.hk, fun u hu => ?_⟩
  · by_cases hj : j < ws.length
    · rw [List.getElem?_append_left hj] at a
      rw [List.getElem?_append_left (by rw [← h.wl]; exact hj)] at b
      exact f _ _ (h.row j u zs a b) (q _ (h.out u (List.mem_of_getElem? a)).2.2.2)
    · rw [List.getElem?_append_right (by omega)] at a
      rw [List.getElem?_append_right (by rw [← h.wl]; omega)] at b
      rw [← h.wl] at b
      have hz : j - ws.length = 0 := by
        have := lt_of_at a
        simp at this
        omega
      rw [hz] at a b
      cases a
      cases b
      exact f _ _ e (q _ o.2.2.2)
  · rcases List.mem_append.mp hu with z | z
    · exact h.out u z
    · rw [List.mem_singleton.mp z]
      exact o
end
theorem valV_kr {qs : List Kp} {q : Kp} (nd : (qs.map fun q => q.slot).Nodup) (hq : q ∈ qs) : valV (qs.map Kp.kr) (Sum.inl (q.slot : Int)) = some (.ref q.kt) := by
  induction qs with
  | nil => cases hq
  | cons a r ih =>
    rw [List.map_cons, List.nodup_cons] at nd
    rw [List.map_cons]
    rcases List.mem_cons.mp hq with e | hq'
    · rw [e]
      exact valV_pos rfl
    · refine (valV_neg ?_).trans (ih nd.2 hq')
      intro z
      have : (a.slot : Int) = (q.slot : Int) := Sum.inl.inj z
      exact nd.1 (List.mem_map.mpr ⟨q, hq', by omega⟩)
/-! ### for k in a dict that the expression itself makes -/
section
open PySem PySem.Spec PyProof.Rows PySem.W
def iKeysN (td : TE) : TI := fun σ H R => td σ H fun x H1 => ∃ d kvs, x = .ref d ∧ H1 d = some (.dK kvs) ∧ ∀ o, R (Itk d o kvs) (upd H1 d (.frz o (.dK kvs)))
theorem pi_keysN {X : Cx} {tg e : Expr} {td : TE} (he : PE X e td) : PI X tg e (iKeysN td) := by
  refine ⟨fun pins s σ H R I h => ?_⟩
  refine thn (he.run pins s σ H _ I h) fun u s1 ⟨x, H1, I1, rx, d, kvs, ex, hd, q⟩ => ?_
  subst ex
  obtain rfl : u = Value.ref d := rx
  obtain ⟨od, I2⟩ := I1.lock hd trivial
  obtain ⟨hs, hgd, hx, es, ep, vs, hdt, hsz, kv, hm⟩ := I2.frzK upd_same
  refine iter_keys hs hgd hx hdt (pi_one (tk := s1.toks) I2 _ (turn_keys _ hdt) ⟨_, Heap.get?_push_size _ rfl, rfl, ?_⟩ (q od))
  rw [hsz] <;> rfl
end
/-! ### lists of numbers as data -/
theorem dpAll_ints {K : PySem.W.Frag} {H : Hp} : ∀ zs : List Int, DpAll K H (zs.map V.int) (zs.map PyData.int)
  | [] => .nil
  | z :: r => .cons (.int z) (dpAll_ints r)
theorem lay_ints : ∀ zs : List Int, PyData.canLayAll0 (zs.map PyData.int) = true ∧ PyData.depthAll (zs.map PyData.int) ≤ 1
  | [] => ⟨rfl, Nat.zero_le _⟩
  | z :: r => by
    obtain ⟨h1, h2⟩ := lay_ints r
    refine ⟨?_, ?_⟩
    · show (PyData.canLay0 (.int z) && PyData.canLayAll0 (r.map PyData.int)) = true
      rw [h1]
      rfl
    · show PyData.depthAll (PyData.int z :: r.map PyData.int) ≤ 1
      simp only [PyData.depthAll, PyData.depth]
      omega
theorem shapedL_ints (zs : List Int) : SeqAt.shaped (.list (zs.map PyData.int)) = true := by
  obtain ⟨h1, h2⟩ := lay_ints zs
  unfold SeqAt.shaped
  rw [Bool.and_eq_true, decide_eq_true_eq]
  refine ⟨by simp only [PyData.canLay0, h1], ?_⟩
  simp only [PyData.depth]
  omega
theorem eqvL_ints (a b : List Int) : PyData.eqv (.list (a.map PyData.int)) (.list (b.map PyData.int)) = decide (a = b) := PySem.W.Datum.eqv (α := List Int) a b
def iD (zss : List (List Int)) : List PyData := zss.map fun z => PyData.list (z.map PyData.int)
theorem eqvL_iD (a b : List (List Int)) : PyData.eqv (.list (iD a)) (.list (iD b)) = decide (a = b) := PySem.W.Datum.eqv (α := List (List Int)) a b
theorem lay_iD : ∀ zss : List (List Int), PyData.canLayAll0 (iD zss) = true ∧ PyData.depthAll (iD zss) ≤ 2
  | [] => ⟨rfl, Nat.zero_le _⟩
  | z :: r => by
    obtain ⟨h1, h2⟩ := lay_iD r
    obtain ⟨h3, h4⟩ := lay_ints z
    refine ⟨?_, ?_⟩
    · show (PyData.canLay0 (.list (z.map PyData.int)) && PyData.canLayAll0 (iD r)) = true
      rw [h1, Bool.and_true]
      simp only [PyData.canLay0, h3]
    · show PyData.depthAll (PyData.list (z.map PyData.int) :: iD r) ≤ 2
      simp only [PyData.depthAll, PyData.depth]
      omega
theorem shapedL_iD (zss : List (List Int)) : SeqAt.shaped (.list (iD zss)) = true := by
  obtain ⟨h1, h2⟩ := lay_iD zss
  unfold SeqAt.shaped
  rw [Bool.and_eq_true, decide_eq_true_eq]
  refine ⟨by simp only [PyData.canLay0, h1], ?_⟩
  simp only [PyData.depth]
  omega
theorem dpAll_iD {K : PySem.W.Frag} {H : Hp} : ∀ {ws : List Addr} {zss : List (List Int)}, ws.length = zss.length → (∀ (j : Nat) (w : Addr) (ys : List Int), ws[j]? = some w → zss[j]? = some ys → H w = some (.lst (ys.map V.int))) → DpAll K H (ws.map V.ref) (iD zss)
  | [], [], _, _ => .nil
  | [], _ :: _, h, _ => by cases h
  | _ :: _, [], h, _ => by cases h
  | w :: ws, z :: zss, h, f => .cons (.lst (SqL.of (f 0 w z rfl rfl)) (dpAll_ints z)) (dpAll_iD (by simpa using h) fun j w ys a b => f (j + 1) w ys a b)
theorem inV_int (b : Int) : ∀ (xs : List Int), inV (.int b) (xs.map V.int) = decide (b ∈ xs)
  | [] => rfl
  | x :: r => by
    have ih := inV_int b r
    show (eqV (.int x) (.int b) || inV (.int b) (r.map V.int)) = decide (b ∈ x :: r)
    rw [ih]
    by_cases h : b = x
    · subst h
      simp [eqV]
    · have h' : ¬ x = b := fun e => h e.symm
      simp [eqV, h, h']
theorem flat_ints (ys : List Int) : (ys.map V.int).all flatV = true := by
  induction ys with
  | nil => rfl
  | cons y ys ih =>
    rw [List.map_cons, List.all_cons, ih]
    rfl
/-! ### the blocks, the one read last ahead -/
def addL (l : List Nat) (b : Nat) : List Nat := if b ∈ l then l else l ++ [b]
theorem addL_cons {b : Nat} (ys : List Nat) : ∀ l : List Nat, ys.foldl addL (b :: l) = b :: (ys.filter fun y => decide (y ≠ b)).foldl addL l := by
  induction ys with
  | nil => intro l; rfl
  | cons y ys ih =>
    intro l
    by_cases e : y = b
    · rw [List.foldl_cons, List.filter_cons_of_neg (by simp [e])]
      have : addL (b :: l) y = b :: l := by
        unfold addL
        rw [if_pos (by rw [e]; exact List.mem_cons_self)]
      rw [this, ih]
    · rw [List.foldl_cons, List.filter_cons_of_pos (by simp [e]), List.foldl_cons]
      have : addL (b :: l) y = b :: addL l y := by
        unfold addL
        by_cases z : y ∈ l
        · rw [if_pos z, if_pos (List.mem_cons_of_mem _ z)]
        · rw [if_neg z, if_neg (by rw [List.mem_cons, not_or]; exact ⟨e, z⟩)]
          rfl
      rw [this, ih]
theorem addL_filter {b : Nat} (ys : List Nat) : ∀ l : List Nat, (ys.foldl addL l).filter (fun y => decide (y ≠ b)) = (ys.filter fun y => decide (y ≠ b)).foldl addL (l.filter fun y => decide (y ≠ b)) := by
  induction ys with
  | nil => intro l; rfl
  | cons y ys ih =>
    intro l
    by_cases e : y = b
    · rw [List.foldl_cons, List.filter_cons_of_neg (by simp [e]), ih]
      congr 1
      unfold addL
      split
      · rfl
      · rw [List.filter_append, List.filter_cons_of_neg (by simp [e]), List.filter_nil, List.append_nil]
    · rw [List.foldl_cons, List.filter_cons_of_pos (by simp [e]), List.foldl_cons, ih]
      congr 1
      unfold addL
      by_cases z : y ∈ l
      · rw [if_pos z, if_pos (List.mem_filter.mpr ⟨z, by simp [e]⟩)]
      · rw [if_neg z, if_neg (fun w => z (List.mem_filter.mp w).1), List.filter_append, List.filter_cons_of_pos (by simp [e]), List.filter_nil]
theorem last_runL (n : Nat) (xs : List Nat) : xs.reverse.foldl addL [] = (runL n xs).1.map Prod.fst := by
  have H : ∀ (ys : List Nat), ys.foldl addL [] = (runL n ys.reverse).1.map Prod.fst := by
    intro ys
    induction ys with
    | nil => rfl
    | cons b ys ih =>
      rw [List.reverse_cons, runL_snoc, List.foldl_cons]
      have e1 : addL [] b = [b] := rfl
      rw [e1, addL_cons]
      show _ = b :: ((runL n ys.reverse).1.filter fun p => decide (p.1 ≠ b)).map Prod.fst
      have e2 := addL_filter (b := b) ys []
      rw [List.filter_nil] at e2
      rw [← e2, ih, List.filter_map]
      rfl
  have := H xs.reverse
  rw [List.reverse_reverse] at this
  exact this
theorem cut_to {xs : List V} {i : Nat} (h : i ≤ xs.length) : cutV xs none (some (i : Int)) = xs.take i := by
  unfold cutV
  rw [HT.sIx_none, HT.sIx_nat, Nat.min_eq_left h]
  simp
def sortI (ys : List Int) : List Int := ys.mergeSort fun a b => decide (a ≤ b)
theorem sortI_sorted (ys : List Int) : (sortI ys).Pairwise (· ≤ ·) :=
  (List.pairwise_mergeSort (le := fun (a b : Int) => decide (a ≤ b)) (fun a b c h1 h2 => decide_eq_true (Int.le_trans (of_decide_eq_true h1) (of_decide_eq_true h2))) (fun a b => by
    rcases Int.le_total a b with h | h
    · simp [h]
    · simp [h]) ys).imp fun h => of_decide_eq_true h
theorem sorted_eq {as bs : List Int} (h : as.Perm bs) (ha : as.Pairwise (· ≤ ·)) (hb : bs.Pairwise (· ≤ ·)) : as = bs :=
  List.Perm.eq_of_pairwise (le := fun (a b : Int) => a ≤ b) (fun a b _ _ h1 h2 => Int.le_antisymm h1 h2) ha hb h
theorem sortI_of {as ys : List Int} (h : as.Perm ys) (ha : as.Pairwise (· ≤ ·)) : as = sortI ys := sorted_eq (h.trans (List.mergeSort_perm _ _).symm) ha (sortI_sorted ys)
theorem sortI_perm {as bs : List Int} (h : as.Perm bs) : sortI as = sortI bs := sorted_eq (((List.mergeSort_perm _ _).trans h).trans (List.mergeSort_perm _ _).symm) (sortI_sorted as) (sortI_sorted bs)
theorem runL_le {a b : Nat} (h : a ≤ b) (xs : List Nat) : (runL a xs).2.2 ≤ (runL b xs).2.2 := by
  induction h with
  | refl => exact Nat.le_refl _
  | step _ ih => exact Nat.le_trans ih (runL_mono _ xs)
theorem addL_len (ys : List Nat) : ∀ l : List Nat, (ys.foldl addL l).length ≤ l.length + ys.length := by
  induction ys with
  | nil => intro l; exact Nat.le_refl _
  | cons y ys ih =>
    intro l
    rw [List.foldl_cons, List.length_cons]
    have h := ih (addL l y)
    have : (addL l y).length ≤ l.length + 1 := by
      unfold addL
      split
      · omega
      · rw [List.length_append]
        exact Nat.le_refl _
    omega
def cI (l : List Nat) : List Int := l.map fun (b : Nat) => (b : Int)
theorem mem_cI {b : Nat} {l : List Nat} : (b : Int) ∈ cI l ↔ b ∈ l := by
  unfold cI
  rw [List.mem_map]
  constructor
  · rintro ⟨y, hy, e⟩
    have : y = b := by omega
    rw [← this]
    exact hy
  · intro h
    exact ⟨b, h, rfl⟩
theorem cut_any {xs : List V} {i : Nat} : cutV xs none (some (i : Int)) = xs.take i := by
  by_cases h : i ≤ xs.length
  · exact cut_to h
  · unfold cutV
    rw [HT.sIx_none, HT.sIx_nat, Nat.min_eq_right (by omega), List.take_of_length_le (show xs.length ≤ i by omega)]
    simp
/-! ### the law -/
def spLaw (K : PySem.W.Frag) : Sp := fun vs H Q _ => ∃ (a : Addr) (ns : List Int), vs = [.ref a] ∧ SqL K H a (ns.map V.int) ∧ ns.length ≤ 63 ∧ ∀ H', Q (.bl true) H'
theorem rnd_out {r p : Addr} {H : Hp} (h : Rnd H r) (n : H p = none) : p ≠ r := fun e => by
  obtain ⟨a, b, ns, e2⟩ := h
  rw [e, e2] at n
  cases n
theorem rnd_put {r D : Addr} {H : Hp} {o : HO} (h : Rnd H r) (n : D ≠ r) : Rnd (upd H D o) r := h.keep (S := [D]) (Fr.put (List.mem_singleton.mpr rfl)) (by simpa using n.symm)
/-- the rows that are kept, as they should be -/
def rowsOf (xs : List Nat) (i : Nat) (rows : List (List Int)) : Prop := rows.length = i ∧ ∀ (j : Nat) (ys : List Int), rows[j]? = some ys → ys.Perm (((runL 1 xs).1.take (j + 1)).map fun p => (p.1 : Int))
def hitsOf (xs : List Nat) (i : Nat) : List Int := (List.range i).map fun j => ((runL (j + 1) xs).2.2 : Int)
theorem hits_sorted (xs : List Nat) (i : Nat) : (hitsOf xs i).Pairwise (· ≤ ·) := by
  unfold hitsOf
  rw [List.pairwise_map]
  refine List.pairwise_lt_range.imp fun {a b} h => ?_
  have := runL_le (show a + 1 ≤ b + 1 by omega) xs
  omega
section
variable {P : Program} {w : World} {K : PySem.W.Frag} {mg : Str → Option Value} {base : Heap}
theorem ok_law {f : Addr} {fd : FuncData} (F : L2.Fun K "law" "law" s_law f fd) (T : Gx K mg) : FnOk P w K mg base CX0 16 f fd ["_law_script"] (spLaw K) := by
  have G__law_random : FnOk P w K mg base CX0 1 T.f__law_random T.fd__law_random ["_law_script", "_law_salt"] (spRandom K) := ok_random T
  have G__law_below : FnOk P w K mg base CX0 1 T.f__law_below T.fd__law_below ["_law_d", "_law_limit"] spBelow := ok_below T
  have G_Rules___init__ : FnOk P w K mg base CX0 3 T.f_Rules___init__ T.fd_Rules___init__ ["self", "writing", "reading", "choice", "bound"] (spRInit T.C_Rules) := ok_rInit T
  have G_Pair___init__ : FnOk P w K mg base CX0 6 T.f_Pair___init__ T.fd_Pair___init__ ["self", "blocks", "slots", "rules", "recipes"] (spPInit (clT T)) := ok_pInit T
  have G_Pair_read : FnOk P w K mg base CX0 7 T.f_Pair_read T.fd_Pair_read ["self", "block"] (spReadP (clT T)) := ok_readP T
  have G_Pair_hits : FnOk P w K mg base CX0 1 T.f_Pair_hits T.fd_Pair_hits ["self"] (spHits (clT T)) := ok_hits T
  have G_Pair_known : FnOk P w K mg base CX0 2 T.f_Pair_known T.fd_Pair_known ["self"] (spKnown (clT T)) := ok_known T
  have G_Pair_counts : FnOk P w K mg base CX0 3 T.f_Pair_counts T.fd_Pair_counts ["self"] (spPCounts (clT T)) := ok_pCounts T
  obtain ⟨dsP, rdP, bP⟩ := T.F_Pair___init__.binds0 (ps := ["self", "blocks", "slots", "rules", "recipes"]) 4 (by simp) rfl (fun D doc pm an cdv ct us ks hu hk => match us, hu, ks, hk with
    | [_, _, _, _], _, [_], _ => ⟨_, _, _, _, _, _, rfl, rfl, rfl⟩)
  refine F.ok sc_law (fun vs H Q E h => ?_) (fun cdv A outer s H vs Q E hr h => ?_)
  · obtain ⟨a, ns, rfl, _⟩ := h
    rfl
  · obtain ⟨a, ns, rfl, hS, hlen, k⟩ := h
    refine ⟨_, (pss_cons (ps_set (i := 1) sc_law.nd rfl (.inr rfl) (pe_call G__law_random (hr.mono (by first | decide | omega)) (by rfl) T.g__law_random T.F__law_random.kp (b__law_random T) .nil pass0 (pa_cons (pv 0) (pa_cons pe_int pa_nil))))
      (pss_cons (ps_set (i := 2) sc_law.nd rfl (.inr rfl) (pe_op op_add pe_int (pe_call G__law_below (hr.mono (by first | decide | omega)) (by rfl) T.g__law_below T.F__law_below.kp (b__law_below T) .nil pass0 (pa_cons (pv 1) (pa_cons pe_int pa_nil)))))
      (C8.pss_cut (ps_setLc (i := 4) (own := [("_law_k", 3)]) (g := gName 3) rfl sc_law.nd rfl rfl (sw_true rfl rfl rfl (by decide +kernel)) (pi_range1 (by rfl) T.z_range (pa_cons (pe_call G__law_below (hr.mono (by first | decide | omega)) (by rfl) T.g__law_below T.F__law_below.kp (b__law_below T) .nil pass0 (pa_cons (pv 1) (pa_cons pe_int pa_nil))) pa_nil)) (blkOk_by (N := ["_law_script", "_law_d", "_law_few", "_law_k", "_law_requests", "_law_hits", "_law_kept", "_law_slots", "_law_pair", "_law_request", "_law_last", "_law_row", "_law_slot", "_law_block"]) (sc := defScope s_law) (by decide +kernel)) (fun _ _ _ _ _ => pg_name (i := 3) sc_law.nd rfl (.inl rfl)) (fun _ _ _ _ _ => pts_nil) (fun _ _ _ _ _ => (pe_tup (pa_cons pe_str (pa_cons (pe_call G__law_below (hr.mono (by first | decide | omega)) (by rfl) T.g__law_below T.F__law_below.kp (b__law_below T) .nil pass0 (pa_cons (pv 1) (pa_cons (pv 2) pa_nil))) pa_nil)))))
      (pss_cons (ps_asg (pe_tup (pa_cons (pe_lst pa_nil) (pa_cons (pe_lst pa_nil) pa_nil))) (pg_tup (by rfl) (pgs_cons (pg_name (i := 5) sc_law.nd rfl (.inl rfl)) (pgs_cons (pg_name (i := 6) sc_law.nd rfl (.inr rfl)) pgs_nil))))
      (C8.pss_cut (ps_for PassesOwn.never rfl (pi_range2 (by rfl) T.z_range (pa_cons pe_int (pa_cons pe_int pa_nil))) (pg_name (i := 7) sc_law.nd rfl (.inl rfl)) (C8.pss_cut (ps_set (i := 8) sc_law.nd rfl (.inr rfl) (pe_make T.M_Pair___init__ G_Pair___init__ (hr.mono (by first | decide | omega)) (by rfl) T.gC_Pair bP rdP pass0 (pa_cons pe_int (pa_cons (pv 7) (pa_cons (pe_make T.M_Rules___init__ G_Rules___init__ (hr.mono (by first | decide | omega)) (by rfl) T.gC_Rules (b_Rules___init__ T) .nil pass0 (pa_cons (pe_ix ix_list (pe_lst (pa_cons pe_str (pa_cons pe_str (pa_cons pe_str pa_nil)))) (pe_call G__law_below (hr.mono (by first | decide | omega)) (by rfl) T.g__law_below T.F__law_below.kp (b__law_below T) .nil pass0 (pa_cons (pv 1) (pa_cons pe_int pa_nil))) (fun _ _ => rfl)) (pa_cons pe_str (pa_cons pe_str (pa_cons pe_int pa_nil))))) pa_nil)))))
      (C8.pss_cut (ps_for PassesOwn.never rfl (pi_list (pv 4)) (pg_name (i := 9) sc_law.nd rfl (.inl rfl)) (pss_one (ps_expr (pe_meth (pv 8) T.cl_Pair T.m_Pair_read G_Pair_read (hr.mono (by first | decide | omega)) (b_Pair_read T) .nil pass0 (pa_cons (pe_ix ix_tup (pv 9) pe_int (fun _ _ => rfl)) pa_nil)))))
      (C8.pss_cut (ps_expr (pe_bm PySem.F.plainAttrs_list PySem.F.slot_list_append PySem.F.type_list_append mt_append (pv 5) (pa_cons (pe_prop (pv 8) T.cl_Pair T.P_Pair_hits G_Pair_hits (hr.mono (by first | decide | omega)) (b_Pair_hits T) .nil pass0 rfl) pa_nil)))
      (C8.pss_cut (ps_expr (pe_bm PySem.F.plainAttrs_list PySem.F.slot_list_append PySem.F.type_list_append mt_append (pv 6) (pa_cons (pe_lc (own := [("_law_slot", 12)]) (g := gName 12) rfl sc_law.nd (pi_keysN (pe_prop (pv 8) T.cl_Pair T.P_Pair_known G_Pair_known (hr.mono (by first | decide | omega)) (b_Pair_known T) .nil pass0 rfl)) (blkOk_by (N := ["_law_script", "_law_d", "_law_few", "_law_k", "_law_requests", "_law_hits", "_law_kept", "_law_slots", "_law_pair", "_law_request", "_law_last", "_law_row", "_law_slot", "_law_block"]) (sc := defScope s_law) (by decide +kernel)) (fun _ _ _ _ _ => pg_name (i := 12) sc_law.nd rfl (.inl rfl)) (fun _ _ _ _ _ => pts_nil) (fun _ _ _ _ _ => (pe_ix (ix_tupK (K := K) rfl) (pe_dget (dU hr) (pe_prop (pv 8) T.cl_Pair T.P_Pair_known G_Pair_known (hr.mono (by first | decide | omega)) (b_Pair_known T) .nil pass0 rfl) (pv 12) (fun _ _ => rfl)) pe_int (fun _ _ => rfl)))) pa_nil)))
      (pss_one (ps_if (PW.pt (pw_or (pt_cmpR op_ne (pe_op op_add (pe_prop (pv 8) T.cl_Pair T.P_Pair_hits G_Pair_hits (hr.mono (by first | decide | omega)) (b_Pair_hits T) .nil pass0 rfl) (pe_ix ix_tup (pe_prop (pv 8) T.cl_Pair T.P_Pair_counts G_Pair_counts (hr.mono (by first | decide | omega)) (b_Pair_counts T) .nil pass0 rfl) pe_int (fun _ _ => rfl))) (pe_callB call_len_seq (by rfl) T.z_len (by decide +kernel) (pa_cons (pv 4) pa_nil)) (nomark _)) (pw_or1 (pt_cmpR op_ne (pe_ix ix_tup (pe_prop (pv 8) T.cl_Pair T.P_Pair_counts G_Pair_counts (hr.mono (by first | decide | omega)) (b_Pair_counts T) .nil pass0 rfl) pe_int (fun _ _ => rfl)) (pe_ix ix_tup (pe_prop (pv 8) T.cl_Pair T.P_Pair_counts G_Pair_counts (hr.mono (by first | decide | omega)) (b_Pair_counts T) .nil pass0 rfl) pe_int (fun _ _ => rfl)) (nomark _))))) (pss_one (ps_ret pe_bl)) pss_nil)))))))
      (C8.pss_cut (ps_if (pt_cmpR (op_neD hr.units) (pv 5) (pe_callB cr_sorted (by rfl) T.z_sorted (by decide +kernel) (pa_cons (pv 5) pa_nil)) (nomark _)) (pss_one (ps_ret pe_bl)) pss_nil)
      (C8.pss_cut (ps_for PassesOwn.never rfl (pi_range1 (by rfl) T.z_range (pa_cons pe_int pa_nil)) (pg_name (i := 3) sc_law.nd rfl (.inr rfl)) (pss_one (ps_if (pt_cmpR (op_neD hr.units) (pe_lc (own := [("_law_block", 13)]) (g := gName 13) rfl sc_law.nd (pi_list (pe_ix (ix_listK (K := K) rfl) (pv 6) (pv 3) (fun _ _ => rfl))) (blkOk_by (N := ["_law_script", "_law_d", "_law_few", "_law_k", "_law_requests", "_law_hits", "_law_kept", "_law_slots", "_law_pair", "_law_request", "_law_last", "_law_row", "_law_slot", "_law_block"]) (sc := defScope s_law) (by decide +kernel)) (fun _ _ _ _ _ => pg_name (i := 13) sc_law.nd rfl (.inl rfl)) (fun _ _ _ _ _ => (pts_one (pt_cmpR (op_notInK (K := K) rfl) (pv 13) (pe_ix (ix_listK (K := K) rfl) (pv 6) (pe_op op_add (pv 3) pe_int) (fun _ _ => rfl)) (by rfl)))) (fun _ _ _ _ _ => (pv 13))) (pe_lst pa_nil) (nomark _)) (pss_one (ps_ret pe_bl)) pss_nil)))
      (pss_cons (ps_set (i := 10) sc_law.nd rfl (.inr rfl) (pe_lst pa_nil))
      (C8.pss_cut (ps_for PassesOwn.never rfl (pi_list (pe_revL (pv 4))) (pg_name (i := 9) sc_law.nd rfl (.inl rfl)) (pss_one (ps_set (i := 10) sc_law.nd rfl (.inr rfl) (pe_op op_cat (pv 10) (pe_op op_rep (pe_lst (pa_cons (pe_ix ix_tup (pv 9) pe_int (fun _ _ => rfl)) pa_nil)) (pe_callTy call_int1 (by rfl) T.z_int (by decide +kernel) (pa_cons (pe_cmpR op_notIn_seq (pe_ix ix_tup (pv 9) pe_int (fun _ _ => rfl)) (pv 10) (by rfl)) pa_nil)))))))
      (pss_one (ps_ret (pe_cmpR (op_eqD hr.units) (pe_lc (own := [("_law_row", 11)]) (g := gName 11) rfl sc_law.nd (pi_list (pv 6)) (blkOk_by (N := ["_law_script", "_law_d", "_law_few", "_law_k", "_law_requests", "_law_hits", "_law_kept", "_law_slots", "_law_pair", "_law_request", "_law_last", "_law_row", "_law_slot", "_law_block"]) (sc := defScope s_law) (by decide +kernel)) (fun _ _ _ _ _ => pg_name (i := 11) sc_law.nd rfl (.inl rfl)) (fun _ _ _ _ _ => pts_nil) (fun _ _ _ _ _ => (pe_callB (cr_sortedK (K := K) rfl) (by rfl) T.z_sorted (by decide +kernel) (pa_cons (pv 11) pa_nil)))) (pe_lc (own := [("_law_slots", 7)]) (g := gName 7) rfl sc_law.nd (pi_range2 (by rfl) T.z_range (pa_cons pe_int (pa_cons pe_int pa_nil))) (blkOk_by (N := ["_law_script", "_law_d", "_law_few", "_law_k", "_law_requests", "_law_hits", "_law_kept", "_law_slots", "_law_pair", "_law_request", "_law_last", "_law_row", "_law_slot", "_law_block"]) (sc := defScope s_law) (by decide +kernel)) (fun _ _ _ _ _ => pg_name (i := 7) sc_law.nd rfl (.inl rfl)) (fun _ _ _ _ _ => pts_nil) (fun _ _ _ _ _ => (pe_callB (cr_sortedK (K := K) rfl) (by rfl) T.z_sorted (by decide +kernel) (pa_cons (pe_slice (sl_listK (K := K) rfl) (pv 10) po_none (po_some (pv 7))) pa_nil)))) (nomark _))))))))))))), ?_⟩
    refine ⟨_, rfl, a, 95, ns, rfl, hS, hlen, fun r H1 r0 f1 R1 => ?_⟩
    refine ⟨_, rfl, r, 9, rfl, R1, by decide, by decide, fun x H2 hx f2 R2 => ?_⟩
    refine ⟨_, _, rfl, rfl, ?_⟩
    -- the requests
    refine ⟨fun σ' H' => ∃ (R : Addr) (xs : List Nat), σ' = [some (.ref a), some (.ref r), some (.int (1 + (x : Int))), none, some (.ref R), none, none, none, none, none, none, none, none, none] ∧ Rnd H' r ∧ Req H' R xs ∧ xs.length ≤ 40 ∧ (∀ b ∈ xs, b < 16) ∧ r ≠ R, ?_, ?_⟩
    · refine ⟨_, rfl, r, 41, rfl, R2, by decide, by decide, fun m H3 hm f3 R3 => ?_⟩
      refine ⟨m, by simp, by omega, by omega, fun D hD => ?_⟩
      have hDr := rnd_out R3 hD
      refine lc_range (lo := 0) (n := m) (fun j H' => Rnd H' r ∧ ∃ xs : List Nat, Req H' D xs ∧ xs.length = j ∧ ∀ z ∈ xs, z < 16) ⟨R3.keep (S := []) (Fr.new hD) (by simp), [], ⟨[], upd_same, rfl, fun i t x e => by simp at e⟩, rfl, fun z hz => by cases hz⟩ ?_ ?_
      · rintro j H5 hj ⟨R5, xs, ⟨ts, e5, l5, g5⟩, lx, gx⟩
        refine ⟨rfl, ?_⟩
        unfold tYes
        refine iteT ?_
        refine ⟨_, rfl, _, rfl, r, 1 + x, by rw [show ((1 + x : Nat) : Int) = 1 + (x : Int) by omega]; rfl, R5, by omega, by omega, fun z H6 hz f6 R6 => ?_⟩
        refine ⟨sz_le (by simp), fun t ht => ?_⟩
        have e6 := f6 _ _ e5 (by simpa using hDr)
        have tD : D ≠ t := ne_of_none e6 ht
        have R7 := R6.keep (S := []) (Fr.new (o := .tup [.str "read", .int (z : Int)]) ht) (by simp)
        refine ⟨_, (upd_ne tD).trans e6, by rw [List.length_map, l5, lx]; exact sz_lt (by omega), rnd_put R7 hDr, xs ++ [z], ⟨ts ++ [t], ?_, by rw [List.length_append, List.length_append, l5]; rfl, fun i u y e1 e2 => ?_⟩, by rw [List.length_append, lx]; rfl, fun y hy => ?_⟩
        · rw [upd_same, List.map_append]
          rfl
        · have keep : ∀ b q, H5 b = some (.tup q) → (upd (upd H6 t (.tup [.str "read", .int (z : Int)])) D (.lst (ts.map V.ref ++ [.ref t]))) b = some (.tup q) := fun b q eb => by
            have nb : b ∉ [r] := fun w => R5.notup _ w _ eb
            have e7 := f6 _ _ eb nb
            rw [upd_ne (ne_of e7 e6 (by simp)), upd_ne (ne_of_none e7 ht)]
            exact e7
          by_cases hi : i < ts.length
          · rw [List.getElem?_append_left hi] at e1
            rw [List.getElem?_append_left (by rw [← l5]; exact hi)] at e2
            exact keep _ _ (g5 i u y e1 e2)
          · rw [List.getElem?_append_right (by omega)] at e1
            rw [List.getElem?_append_right (by rw [← l5]; omega)] at e2
            rw [← l5] at e2
            have hz0 : i - ts.length = 0 := by
              have := lt_of_at e1
              simp at this
              omega
            rw [hz0] at e1 e2
            cases e1
            cases e2
            rw [upd_ne tD.symm]
            exact upd_same
        · rcases List.mem_append.mp hy with w | w
          · exact gx y w
          · rw [List.mem_singleton.mp w]
            omega
      · rintro H5 ⟨R5, xs, hq, lx, gx⟩
        refine ⟨D, xs, rfl, R5, hq, by omega, gx, hDr.symm⟩
    rintro σ1 H3 ⟨R, xs, rfl, R3, hReq, hl40, h16, hrR⟩
    clear R1 R2 f1 f2 hS r0
    -- the two lists
    refine ⟨sz_le (by simp), fun hh hhh => ⟨sz_le (by simp), fun kk hkk => ⟨sz_le (by simp), fun t ht => ?_⟩⟩⟩
    refine ⟨t, _, rfl, SqT.of upd_same, rfl, _, _, rfl, _, _, rfl, rfl, ?_⟩
    have W0 : LW (upd (upd (upd H3 hh (.lst [])) kk (.lst [])) t (.tup [.ref hh, .ref kk])) r R hh kk xs [] [] [] := by
      have hk1 := free_upd hkk
      have ht1 := free_upd ht
      have ht2 := free_upd ht1.1
      have F : Fr [] H3 (upd (upd (upd H3 hh (.lst [])) kk (.lst [])) t (.tup [.ref hh, .ref kk])) := ((Fr.new hhh).trans (Fr.new hkk)).trans (Fr.new ht)
      obtain ⟨ts, eR, _⟩ := id hReq
      have rh := rnd_out R3 hhh
      have rk := rnd_out R3 hk1.1
      exact ⟨R3.keep F (by simp), hReq.keep F (by simp) (by simp), (upd_ne ht2.2.symm).trans ((upd_ne hk1.2.symm).trans upd_same), (upd_ne ht1.2.symm).trans upd_same, rfl, fun j w ys e => by simp at e, hrR, rh.symm, rk.symm, ne_of_none eR hhh, ne_of_none eR hk1.1, hk1.2.symm, fun w hw => by cases hw⟩
    generalize (upd (upd (upd H3 hh (.lst [])) kk (.lst [])) t (.tup [.ref hh, .ref kk])) = H4 at W0 ⊢
    clear R3 hReq hhh hkk ht
    refine ⟨fun σ' H' => ∃ (v7 v8 v9 : Option V) (ws : List Addr) (rows : List (List Int)), σ' = [some (.ref a), some (.ref r), some (.int (1 + (x : Int))), none, some (.ref R), some (.ref hh), some (.ref kk), v7, v8, v9, none, none, none, none] ∧ LW H' r R hh kk xs (hitsOf xs 8) ws rows ∧ rowsOf xs 8 rows, ?_, ?_⟩
    · refine ⟨1, 9, rfl, ⟨by decide, by decide, by decide, by decide⟩, for_range (lo := 1) (n := 8) (fun i σ' H' => ∃ (v7 v8 v9 : Option V) (ws : List Addr) (rows : List (List Int)), σ' = [some (.ref a), some (.ref r), some (.int (1 + (x : Int))), none, some (.ref R), some (.ref hh), some (.ref kk), v7, v8, v9, none, none, none, none] ∧ LW H' r R hh kk xs (hitsOf xs i) ws rows ∧ rowsOf xs i rows) ⟨none, none, none, [], [], rfl, W0, rfl, fun j ys e => by simp at e⟩ ?_ fun σ' H' h => h⟩
      clear W0
      rintro i σ2 H5 hi ⟨v7, v8, v9, ws, rows, rfl, W5, hro⟩
      obtain ⟨n, hn⟩ : ∃ n : Nat, (n : Int) = 1 + (i : Int) ∧ n = i + 1 := ⟨i + 1, by omega, rfl⟩
      rw [← hn.1]
      have hn1 : 1 ≤ n := by omega
      have hn8 : n ≤ 8 := by omega
      -- a new pair
      refine ⟨fun σ' H' => ∃ (Pr : Pp) (wr : Str), σ' = [some (.ref a), some (.ref r), some (.int (1 + (x : Int))), none, some (.ref R), some (.ref hh), some (.ref kk), some (.int (n : Int)), some (.ref Pr.p), v9, none, none, none, none] ∧ LW H' r R hh kk xs (hitsOf xs i) ws rows ∧ PairAt (clT T) H' Pr [] (initS 16 n wr "keep" "used" 8) ∧ ∀ b ∈ r :: R :: hh :: kk :: ws, b ∉ Pr.own [], ?_, ?_⟩
      · refine ⟨_, rfl, sz_le (by simp), fun l hl => ⟨_, rfl, r, 3, rfl, (W5.keep0 (Fr.new hl)).rnd, by decide, by decide, fun z H6 hz f6 R6 => ?_⟩⟩
        have W6 := (W5.keep0 (Fr.new (o := .lst [.str "through", .str "back", .str "around"]) hl)).draw f6 R6
        obtain ⟨wr, hwr, hwo⟩ : ∃ wr : Str, ([.str "through", .str "back", .str "around"] : List V)[z]? = some (.str wr) ∧ WordOf W0 (.str wr) := by
          match z, hz with
          | 0, _ => exact ⟨"through", rfl, "through", rfl, by decide +kernel⟩
          | 1, _ => exact ⟨"back", rfl, "back", rfl, by decide +kernel⟩
          | 2, _ => exact ⟨"around", rfl, "around", rfl, by decide +kernel⟩
          | z + 3, h => omega
        have el := f6 _ _ upd_same (by
          rw [List.mem_singleton]
          exact rnd_out W5.rnd hl)
        refine ⟨l, _, (z : Int), _, rfl, rfl, SqL.of el, atI_nat hwr, ?_⟩
        intro ru rx hru hrx hrn
        refine ⟨ru, rx, _, _, _, 8, rfl, upd_same, hwo, ⟨"keep", rfl, by decide +kernel⟩, ⟨"used", rfl, by decide +kernel⟩, by decide, by decide, fun H7 f7 e7 => ⟨rfl, ?_⟩⟩
        have g7 := made_fr hru hrx f7
        have W7 := W6.keep0 g7
        intro p px hp hpx hpn
        have pru : p ≠ ru := (ne_of_none e7 hp).symm
        have e8 : (upd (upd H7 px (.own p)) p (.ins T.C_Pair px [])) ru = some (.ins T.C_Rules rx (rF (.str wr) (.str "keep") (.str "used") (.int 8))) := (upd_ne pru.symm).trans ((upd_ne (ne_of_none e7 hpx)).trans e7)
        refine ⟨p, px, ru, rx, 16, n, wr, "keep", "used", 8, rfl, by decide, by decide, hn1, hn8, upd_same, e8, pru, fun H8 Pr eP eR f8 hP gw => ⟨rfl, ?_⟩⟩
        have g8 := made_fr hp hpx f8
        refine ⟨Pr, wr, by rw [eP]; rfl, W7.keep0 g8, hP, fun b hb z => ?_⟩
        obtain ⟨o, eo⟩ := W7.there b hb
        rcases gw b z with y | y
        · rw [List.mem_singleton.mp y, hp] at eo
          cases eo
        · have y1 := (free_upd (free_upd y).1).1
          rw [eo] at y1
          cases y1
      clear W5
      rintro σ3 H6 ⟨Pr, wr, rfl, W6, hP6, ap6⟩
      -- all reads
      refine ⟨fun σ' H' => ∃ (v9 : Option V) (P' : Pp) (ks : List Kp) (s : PS) (m : Nat), σ' = [some (.ref a), some (.ref r), some (.int (1 + (x : Int))), none, some (.ref R), some (.ref hh), some (.ref kk), some (.int (n : Int)), some (.ref P'.p), v9, none, none, none, none] ∧ LW H' r R hh kk xs (hitsOf xs i) ws rows ∧ PairAt (clT T) H' P' ks s ∧ s.ns = n ∧ LI s (runL n xs).1 xs.length (runL n xs).2.2 m ∧ (runL n xs).2.2 + m = xs.length ∧ ∀ b ∈ r :: R :: hh :: kk :: ws, b ∉ P'.own ks, ?_, ?_⟩
      · obtain ⟨ts, eR, lR, gR⟩ := id W6.req
        refine ⟨_, rfl, R, rfl, ⟨_, SqL.of eR⟩, for_it (walk_list (K := K) (a := R) (xs := ts.map V.ref)) (fun j σ' H' => ∃ (v9 : Option V) (P' : Pp) (ks : List Kp) (s : PS) (m : Nat), σ' = [some (.ref a), some (.ref r), some (.int (1 + (x : Int))), none, some (.ref R), some (.ref hh), some (.ref kk), some (.int (n : Int)), some (.ref P'.p), v9, none, none, none, none] ∧ LW H' r R hh kk xs (hitsOf xs i) ws rows ∧ PairAt (clT T) H' P' ks s ∧ s.ns = n ∧ LI s (runL n (xs.take j)).1 j (runL n (xs.take j)).2.2 m ∧ LO (runL n (xs.take j)).1 j ∧ (runL n (xs.take j)).2.1 = j ∧ (runL n (xs.take j)).2.2 + m = j ∧ (∀ b ∈ r :: R :: hh :: kk :: ws, b ∉ P'.own ks) ∧ H' R = some (.lst (ts.map V.ref)) ∧ ∀ (i : Nat) (t : Addr) (x : Nat), ts[i]? = some t → xs[i]? = some x → H' t = some (.tup [.str "read", .int (x : Int)]))
          ⟨v9, Pr, [], _, 0, rfl, W6, hP6, rfl, LI.init n wr 8 hn1 hn8, LO.init, rfl, rfl, ap6, eR, gR⟩ (fun j σ' H' _ h => by
            obtain ⟨_, _, _, _, _, _, _, _, _, _, _, _, _, _, e, _⟩ := h
            exact SqL.of e) ?_ ?_⟩
        · rintro j y σ4 H7 H8 hj ⟨v9, P', ks, s, m, rfl, W7, hP7, hns, hI, hO, hL, hm, ap7, eR7, gR7⟩ ⟨rfl, ey⟩
          have hj' : j < ts.length := by simpa using hj
          have hjx : j < xs.length := by rw [← lR]; exact hj'
          rw [List.getElem?_map, List.getElem?_eq_getElem hj'] at ey
          cases ey
          have et := gR7 j ts[j] xs[j] (List.getElem?_eq_getElem hj') (List.getElem?_eq_getElem hjx)
          have hb := h16 xs[j] (List.getElem_mem hjx)
          refine ⟨_, rfl, P'.p, P'.px, _, rfl, hP7.ins, pF_no_read, _, rfl, _, _, (1 : Int), _, rfl, rfl, SqT.of et, rfl, P', ks, s, xs[j], rfl, hP7, hI.ok hO hb (by omega), fun H9 P2 ks2 e2 r2 f2 hP9 g2 => ?_⟩
          have et1 : xs.take (j + 1) = xs.take j ++ [xs[j]] := List.take_succ_eq_append_getElem hjx
          have er : runL n (xs.take (j + 1)) = stp n (runL n (xs.take j)) xs[j] := by rw [et1, runL_snoc]
          have W9 := W7.keep f2 ap7 hP7.notup
          have ap9 : ∀ b ∈ r :: R :: hh :: kk :: ws, b ∉ P2.own ks2 := fun b hb z => by
            rcases g2 b z with y | y
            · exact ap7 b hb y
            · obtain ⟨o, eo⟩ := W7.there b hb
              rw [eo] at y
              cases y
          have eR9 := f2 _ _ eR7 (ap7 R (by simp))
          have gR9 : ∀ (i : Nat) (t : Addr) (x : Nat), ts[i]? = some t → xs[i]? = some x → H9 t = some (.tup [.str "read", .int (x : Int)]) := fun i t x e1 e2 => f2 _ _ (gR7 i t x e1 e2) (fun z => hP7.notup _ z _ (gR7 i t x e1 e2))
          rw [← e2]
          by_cases hz : xs[j] ∈ ((runL n (xs.take j)).1.take s.ns).map Prod.fst
          · have hz' := hz
            rw [hns] at hz'
            have e1 : (stp n (runL n (xs.take j)) xs[j]) = (mru xs[j] j (runL n (xs.take j)).1, j + 1, (runL n (xs.take j)).2.2 + 1) := by
              unfold stp
              rw [hL, if_pos hz']
            refine ⟨_, P2, ks2, _, m, rfl, W9, hP9, (readS_ns _ _).trans hns, ?_, ?_, ?_, ?_, ap9, eR9, gR9⟩
            · rw [er, e1]
              exact hI.isHit hO hz
            · rw [er, e1]
              exact hO.step _
            · rw [er, e1]
            · rw [er, e1]
              show (runL n (xs.take j)).2.2 + 1 + m = j + 1
              omega
          · have hz' := hz
            rw [hns] at hz'
            have e1 : (stp n (runL n (xs.take j)) xs[j]) = (mru xs[j] j (runL n (xs.take j)).1, j + 1, (runL n (xs.take j)).2.2) := by
              unfold stp
              rw [hL, if_neg hz']
              rfl
            refine ⟨_, P2, ks2, _, m + 1, rfl, W9, hP9, (readS_ns _ _).trans hns, ?_, ?_, ?_, ?_, ap9, eR9, gR9⟩
            · rw [er, e1]
              exact hI.isMiss hO hz
            · rw [er, e1]
              exact hO.step _
            · rw [er, e1]
            · rw [er, e1]
              show (runL n (xs.take j)).2.2 + (m + 1) = j + 1
              omega
        · rintro σ4 H7 ⟨v9, P', ks, s, m, rfl, W7, hP7, hns, hI, hO, hL, hm, ap7, eR7, gR7⟩
          have e : (ts.map V.ref).length = xs.length := by rw [List.length_map, lR]
          rw [e, List.take_length] at hI hm
          exact ⟨v9, P', ks, s, m, rfl, W7, hP7, hns, hI, hm, ap7⟩
      clear W6 hP6 ap6
      rintro σ4 H7 ⟨v9', P', ks, s, m, rfl, W7, hP7, hns, hI, hm, ap7⟩
      have hi1 : hitsOf xs (i + 1) = hitsOf xs i ++ [(s.hits : Int)] := by
        unfold hitsOf
        rw [List.range_succ, List.map_append, hI.hit, hn.2]
        rfl
      have hlh : (hitsOf xs i).length = i := by unfold hitsOf; simp
      -- the hits
      refine ⟨fun σ' H' => σ' = [some (.ref a), some (.ref r), some (.int (1 + (x : Int))), none, some (.ref R), some (.ref hh), some (.ref kk), some (.int (n : Int)), some (.ref P'.p), v9', none, none, none, none] ∧ LW H' r R hh kk xs (hitsOf xs (i + 1)) ws rows ∧ PairAt (clT T) H' P' ks s, ?_, ?_⟩
      · refine ⟨_, rfl, .inl ⟨rfl, _, SqL.of W7.hl⟩, _, rfl, P'.p, P'.px, _, rfl, hP7.ins, P', ks, s, rfl, hP7, hh, _, _, rfl, rfl, W7.hl, ?_, rfl, ?_, ?_⟩
        · rw [List.length_map, hlh]
          exact sz_lt (by omega)
        · rw [hi1]
          have e : ((hitsOf xs i).map V.int ++ [V.int (s.hits : Int)]) = (hitsOf xs i ++ [(s.hits : Int)]).map V.int := by
            rw [List.map_append]
            rfl
          rw [e]
          exact W7.hit _
        · refine hP7.keep (S := [hh]) (Fr.put (by simp)) (fun b hb z => ap7 hh (by simp) (by rw [← List.mem_singleton.mp z]; exact hb)) (fun z => ?_) (hP7.re_ne W7.hl) (fun b hb xs => by rw [List.mem_singleton.mp hb, W7.hl]; simp)
          exact ne_of hP7.rul W7.hl (by simp) (List.mem_singleton.mp z)
      clear W7 hP7
      rintro σ5 H8 ⟨rfl, W8, hP8⟩
      -- what is kept
      have hrow : ((sortK ks).map fun q => (q.rc.blk : Int)).Perm (((runL 1 xs).1.take (i + 1)).map fun p => (p.1 : Int)) := by
        have e1 : (runL 1 xs).1 = (runL n xs).1 := (runL_same 1 n xs).1
        rw [e1, ← hn.2]
        have p1 := (hI.prm.map fun p => (p.1 : Int))
        rw [List.map_map, hns] at p1
        have p2 : ((sortK ks).map fun q => (q.rc.blk : Int)).Perm (ks.map fun q => (q.rc.blk : Int)) := (sortK_perm ks).map _
        refine p2.trans ?_
        have e2 : (ks.map fun q => (q.rc.blk : Int)) = s.kn.map ((fun (p : Nat × Int) => (p.1 : Int)) ∘ fun (q : Kn) => (q.rc.blk, q.used)) := by
          rw [← hP8.kno]
          unfold kns
          rw [List.map_map]
          rfl
        rw [e2]
        exact p1
      refine ⟨fun σ' H' => σ' = [some (.ref a), some (.ref r), some (.int (1 + (x : Int))), none, some (.ref R), some (.ref hh), some (.ref kk), some (.int (n : Int)), some (.ref P'.p), v9', none, none, none, none] ∧ (∃ w : Addr, LW H' r R hh kk xs (hitsOf xs (i + 1)) (ws ++ [w]) (rows ++ [(sortK ks).map fun q => (q.rc.blk : Int)])) ∧ PairAt (clT T) H' P' ks s, ?_, ?_⟩
      · refine ⟨_, rfl, .inl ⟨rfl, _, SqL.of W8.kl⟩, _, rfl, P'.p, P'.px, _, rfl, hP8.ins, P', ks, s, rfl, hP8, fun D0 H9 hD0 f9 e9 => ⟨D0, _, rfl, e9, fun od D hD => ?_⟩⟩
        have fz : Fr [] H8 (upd H9 D0 (.frz od (.dK ((sortK ks).map Kp.kr)))) := f9.upd0 hD0
        refine lc_it (walk_keys (d := D0) (o := od) (kvs := (sortK ks).map Kp.kr)) (fun j H' => Fr [] (upd H9 D0 (.frz od (.dK ((sortK ks).map Kp.kr)))) H' ∧ H' D = some (.lst (((sortK ks).take j).map fun q => V.int (q.rc.blk : Int)))) ⟨Fr.new hD, upd_same⟩ (fun j H' _ h => h.1 _ _ upd_same (by simp)) ?_ ?_
        · rintro j y H10 H11 hj ⟨f10, e10⟩ ⟨rfl, ky, vy, ek, rfl⟩
          have hj' : j < (sortK ks).length := by simpa using hj
          rw [List.getElem?_map, List.getElem?_eq_getElem hj'] at ek
          cases ek
          refine ⟨rfl, ?_⟩
          unfold tYes
          refine iteT ?_
          have hP10 := hP8.keep0 (fz.trans f10)
          refine ⟨_, rfl, P'.p, P'.px, _, rfl, hP10.ins, P', ks, s, rfl, hP10, fun D1 H12 hD1 f12 e12 => ⟨_, rfl, ?_⟩⟩
          have hq : (sortK ks)[j] ∈ sortK ks := List.getElem_mem hj'
          have g := DGet.k (k := Sum.inl ((sortK ks)[j].slot : Int)) e12
          rw [valV_kr (((sortK_perm ks).map (fun (q : Kp) => q.slot)).nodup_iff.mpr hP8.mem.sl) hq] at g
          have hP12 := hP10.keep0 f12
          have e10' := f12 _ _ e10 (by simp)
          refine ⟨D1, _, rfl, g, _, _, (0 : Int), _, rfl, rfl, SqT.of (hP12.mem.rcd _ (sortK_mem.mp hq)), rfl, _, e10', ?_, ?_, ?_⟩
          · rw [List.length_map, List.length_take]
            have := hP8.mem.len
            have := (sortK_perm ks).length_eq
            exact sz_lt (by omega)
          · exact (f10.trans f12).upd0 hD
          · rw [upd_same, List.take_succ, List.getElem?_eq_getElem hj', List.map_append]
            rfl
        · rintro H10 ⟨f10, e10⟩
          rw [List.length_map, List.take_length] at e10
          have e10' : H10 D = some (.lst (((sortK ks).map fun q => (q.rc.blk : Int)).map V.int)) := by
            rw [List.map_map]
            exact e10
          have F10 : Fr [] H8 H10 := fz.trans f10
          have W10 := W8.keep0 F10
          have hD8 : H8 D = none := by
            cases e : H8 D with
            | none => rfl
            | some o =>
              rw [fz _ _ e (by simp)] at hD
              cases hD
          have nw : ∀ b ∈ r :: R :: hh :: kk :: ws, D ≠ b := fun b hb z => by
            obtain ⟨o, eo⟩ := W8.there b hb
            rw [← z, hD8] at eo
            cases eo
          have hP10 := hP8.keep0 F10
          refine ⟨kk, _, _, rfl, rfl, W10.kl, ?_, rfl, ⟨D, ?_⟩, ?_⟩
          · rw [List.length_map, W8.wl, hro.1]
            exact sz_lt (by omega)
          · have e : (ws.map V.ref ++ [V.ref D]) = (ws ++ [D]).map V.ref := by
              rw [List.map_append]
              rfl
            rw [e]
            exact W10.kept e10' ⟨nw _ (by simp), nw _ (by simp), nw _ (by simp), nw _ (by simp)⟩
          · refine hP10.keep (S := [kk]) (Fr.put (by simp)) (fun b hb z => ap7 kk (by simp) (by rw [← List.mem_singleton.mp z]; exact hb)) (fun z => ?_) (hP10.re_ne W10.kl) (fun b hb xs => by rw [List.mem_singleton.mp hb, W10.kl]; simp)
            exact ne_of hP10.rul W10.kl (by simp) (List.mem_singleton.mp z)
      clear W8 hP8
      rintro σ6 H9 ⟨rfl, ⟨w1, W9⟩, hP9⟩
      have hdc : s.dc.length = 6 := by rw [hI.dc]; rfl
      have ec : (cntS s).map V.int = [.int (0 + (s.sl.r : Int)), .int (0 + (s.sl.w : Int)), .int (0 + (s.sl.s : Int)), .int (0 + (s.fa.r : Int)), .int (0 + (s.fa.w : Int)), .int (0 + (s.fa.s : Int))] := by
        unfold cntS
        rw [hI.dc]
        rfl
      refine ⟨_, rfl, P'.p, P'.px, _, rfl, hP9.ins, P', ks, s, rfl, hP9, _, rfl, P'.p, P'.px, _, rfl, hP9.ins, P', ks, s, rfl, hP9, hdc, fun t1 H10 _ f10 e10 => ?_⟩
      rw [ec] at e10
      have W10 := W9.keep0 f10
      have hP10 := hP9.keep0 f10
      obtain ⟨ts, eR, lR, gR⟩ := id W10.req
      refine ⟨t1, _, (0 : Int), _, rfl, rfl, SqT.of e10, rfl, _, _, rfl, rfl, _, rfl, R, _, rfl, .inl (SqL.of eR), rfl, _, rfl, ?_⟩
      have z1 : (!decide (V.int ((s.hits : Int) + (0 + (s.sl.r : Int))) = V.int ((ts.map V.ref).length : Int))) = false := by
        rw [List.length_map, lR, hI.hit, hI.sr, Bool.not_eq_false', decide_eq_true_eq]
        congr 1
        omega
      rw [z1]
      refine iteF ?_
      refine ⟨_, rfl, P'.p, P'.px, _, rfl, hP10.ins, P', ks, s, rfl, hP10, hdc, fun t2 H11 _ f11 e11 => ?_⟩
      rw [ec] at e11
      have W11 := W10.keep0 f11
      have hP11 := hP10.keep0 f11
      refine ⟨t2, _, (4 : Int), _, rfl, rfl, SqT.of e11, rfl, _, rfl, P'.p, P'.px, _, rfl, hP11.ins, P', ks, s, rfl, hP11, hdc, fun t3 H12 _ f12 e12 => ?_⟩
      rw [ec] at e12
      refine ⟨t3, _, (0 : Int), _, rfl, rfl, SqT.of e12, rfl, rfl, _, rfl, ?_⟩
      have z2 : (!decide (V.int (0 + (s.fa.w : Int)) = V.int (0 + (s.sl.r : Int)))) = false := by
        rw [hI.fw, hI.sr]
        simp
      rw [z2]
      refine iteF ⟨_, _, _, _, _, rfl, W11.keep0 f12, ?_, fun j ys e => ?_⟩
      · rw [List.length_append, hro.1]
        rfl
      · by_cases hj : j < rows.length
        · rw [List.getElem?_append_left hj] at e
          exact hro.2 j ys e
        · rw [List.getElem?_append_right (by omega)] at e
          have hz : j - rows.length = 0 := by
            have := lt_of_at e
            simp at this
            omega
          rw [hz] at e
          cases e
          have : j = i := by have := hro.1; omega
          rw [this]
          exact hrow
    rintro σ1 H5 ⟨v7, v8, v9, ws, rows, rfl, W5, hro⟩
    -- the hits ascend
    refine ⟨fun σ' H' => σ' = [some (.ref a), some (.ref r), some (.int (1 + (x : Int))), none, some (.ref R), some (.ref hh), some (.ref kk), v7, v8, v9, none, none, none, none] ∧ LW H' r R hh kk xs (hitsOf xs 8) ws rows, ?_, ?_⟩
    · refine ⟨_, rfl, _, rfl, hh, hitsOf xs 8, rfl, SqL.of W5.hl, by unfold hitsOf; simp, fun ns' p1 hp1 hs1 hn1 => ?_⟩
      have e := sorted_eq hp1 hs1 (hits_sorted xs 8)
      subst e
      refine ⟨_, _, .lst (SqL.of ((upd_ne (ne_of_none W5.hl hn1)).trans W5.hl)) (dpAll_ints _), .lst (SqL.of upd_same) (dpAll_ints _), shapedL_ints _, shapedL_ints _, _, rfl, ?_⟩
      rw [eqvL_ints, decide_eq_true rfl]
      exact iteF ⟨rfl, W5.keep0 (Fr.new hn1)⟩
    clear W5
    rintro σ2 H6 ⟨rfl, W6⟩
    have hwl : ws.length = 8 := by rw [W6.wl]; exact hro.1
    -- fewer slots keep less
    refine ⟨fun σ' H' => ∃ v3 : Option V, σ' = [some (.ref a), some (.ref r), some (.int (1 + (x : Int))), v3, some (.ref R), some (.ref hh), some (.ref kk), v7, v8, v9, none, none, none, none] ∧ LW H' r R hh kk xs (hitsOf xs 8) ws rows, ?_, ?_⟩
    · refine ⟨7, rfl, by decide, by decide, for_range (lo := 0) (n := 7) (fun i σ' H' => ∃ v3 : Option V, σ' = [some (.ref a), some (.ref r), some (.int (1 + (x : Int))), v3, some (.ref R), some (.ref hh), some (.ref kk), v7, v8, v9, none, none, none, none] ∧ LW H' r R hh kk xs (hitsOf xs 8) ws rows) ⟨none, rfl, W6⟩ ?_ fun σ' H' h => h⟩
      clear W6
      rintro i σ3 H7 hi ⟨v3, rfl, W7⟩
      rw [Int.zero_add]
      have i1 : i < ws.length := by omega
      have i2 : i + 1 < ws.length := by omega
      have j1 : i < rows.length := by rw [hro.1]; omega
      have j2 : i + 1 < rows.length := by rw [hro.1]; omega
      have r1 := W7.row i ws[i] rows[i] (List.getElem?_eq_getElem i1) (List.getElem?_eq_getElem j1)
      have r2 := W7.row (i + 1) ws[i + 1] rows[i + 1] (List.getElem?_eq_getElem i2) (List.getElem?_eq_getElem j2)
      have sub : ∀ z ∈ rows[i], z ∈ rows[i + 1] := fun z hz => by
        have m1 := (hro.2 i _ (List.getElem?_eq_getElem j1)).mem_iff.mp hz
        refine (hro.2 (i + 1) _ (List.getElem?_eq_getElem j2)).mem_iff.mpr ?_
        obtain ⟨y, hy, e⟩ := List.mem_map.mp m1
        exact List.mem_map.mpr ⟨y, (List.take_sublist_take_left (by omega)).subset hy, e⟩
      have w1 : (ws.map V.ref)[i]? = some (.ref ws[i]) := by rw [List.getElem?_map, List.getElem?_eq_getElem i1]; rfl
      have w2 : (ws.map V.ref)[i + 1]? = some (.ref ws[i + 1]) := by rw [List.getElem?_map, List.getElem?_eq_getElem i2]; rfl
      refine ⟨_, rfl, _, rfl, kk, _, (i : Int), _, rfl, rfl, SqL.of W7.kl, atI_nat w1, ws[i], rfl, ⟨_, SqL.of r1⟩, fun D hD => ?_⟩
      refine lc_it (walk_list (K := K) (a := ws[i]) (xs := rows[i].map V.int)) (fun j H' => Fr [] H7 H' ∧ H' D = some (.lst [])) ⟨Fr.new hD, upd_same⟩ (fun j H' _ h => SqL.of (h.1 _ _ r1 (by simp))) ?_ ?_
      · rintro j y H8 H9 hj ⟨f8, e8⟩ ⟨rfl, ey⟩
        obtain ⟨z, rfl, hz⟩ := int_at ey
        have hz2 := sub z (List.mem_of_getElem? hz)
        refine ⟨rfl, ?_⟩
        have W9 := W7.keep0 f8
        have r2' := f8 _ _ r2 (by simp)
        have w2' : atI (ws.map V.ref) ((i : Int) + 1) = some (.ref ws[i + 1]) := atI_nat w2
        refine ⟨_, rfl, _, rfl, _, rfl, _, _, rfl, rfl, kk, _, ((i : Int) + 1), _, rfl, rfl, SqL.of W9.kl, w2', ws[i + 1], _, rfl, .inl (SqL.of r2'), rfl, flat_ints _, _, rfl, ?_⟩
        have z0 : (if true = true then !inV (.int z) (rows[i + 1].map V.int) else inV (.int z) (rows[i + 1].map V.int)) = false := by
          rw [if_pos rfl, inV_int, decide_eq_true hz2]
          rfl
        rw [z0]
        exact iteF ⟨f8, e8⟩
      · rintro H8 ⟨f8, e8⟩
        refine ⟨sz_le (by simp), fun e he => ?_⟩
        refine ⟨.list [], .list [], .lst (SqL.of ((upd_ne (ne_of_none e8 he)).trans e8)) .nil, .lst (SqL.of upd_same) .nil, by decide +kernel, by decide +kernel, _, rfl, ?_⟩
        have : (!PyData.eqv (.list []) (.list [])) = false := by decide +kernel
        rw [this]
        exact iteF ⟨_, rfl, (W7.keep0 f8).keep0 (Fr.new he)⟩
    clear W6
    rintro σ3 H7 ⟨v3, rfl, W7⟩
    -- the blocks by their last reads
    refine ⟨sz_le (by simp), fun la0 hla0 => ?_⟩
    have W8 := W7.keep0 (Fr.new (o := .lst []) hla0)
    have ela0 : (upd H7 la0 (.lst [])) la0 = some (.lst ((cI []).map V.int)) := upd_same
    generalize (upd H7 la0 (.lst [])) = H8 at W8 ela0 ⊢
    clear W7 hla0
    refine ⟨fun σ' H' => ∃ (v9 : Option V) (la : Addr), σ' = [some (.ref a), some (.ref r), some (.int (1 + (x : Int))), v3, some (.ref R), some (.ref hh), some (.ref kk), v7, v8, v9, some (.ref la), none, none, none] ∧ LW H' r R hh kk xs (hitsOf xs 8) ws rows ∧ H' la = some (.lst ((cI (xs.reverse.foldl addL [])).map V.int)), ?_, ?_⟩
    · obtain ⟨ts, eR, lR, gR⟩ := id W8.req
      refine ⟨_, rfl, R, _, rfl, SqL.of eR, fun p hp => ?_⟩
      have F9 : Fr [] H8 (upd H8 p (.lst (ts.map V.ref).reverse)) := Fr.new hp
      refine ⟨p, rfl, ⟨_, SqL.of upd_same⟩, for_it (walk_list (K := K) (a := p) (xs := (ts.map V.ref).reverse)) (fun j σ' H' => ∃ (v9 : Option V) (la : Addr), σ' = [some (.ref a), some (.ref r), some (.int (1 + (x : Int))), v3, some (.ref R), some (.ref hh), some (.ref kk), v7, v8, v9, some (.ref la), none, none, none] ∧ Fr [] (upd H8 p (.lst (ts.map V.ref).reverse)) H' ∧ H' la = some (.lst ((cI ((xs.reverse.take j).foldl addL [])).map V.int)))
        ⟨_, la0, rfl, Fr.refl _ _, F9 _ _ ela0 (by simp)⟩ (fun j σ' H' _ h => by
          obtain ⟨_, _, _, f, _⟩ := h
          exact SqL.of (f _ _ upd_same (by simp))) ?_ ?_⟩
      · rintro j y σ4 H9 H10 hj ⟨v9', la, rfl, f9, ela⟩ ⟨rfl, ey⟩
        have hj1 : j < ts.length := by simpa using hj
        have hj2 : j < xs.reverse.length := by rw [List.length_reverse, ← lR]; exact hj1
        have hk1 : ts.length - 1 - j < ts.length := by omega
        have hk2 : ts.length - 1 - j < xs.length := by omega
        have ey' : y = .ref ts[ts.length - 1 - j] := by
          rw [List.getElem?_reverse (by simpa using hj1), List.length_map, List.getElem?_map, List.getElem?_eq_getElem hk1] at ey
          cases ey
          rfl
        subst ey'
        have ex : xs.reverse[j] = xs[ts.length - 1 - j] := by
          rw [List.getElem_reverse]
          congr 1
          omega
        have F10 : Fr [] H8 H10 := F9.trans f9
        have et := F10 _ _ (gR (ts.length - 1 - j) ts[ts.length - 1 - j] xs[ts.length - 1 - j] (List.getElem?_eq_getElem hk1) (List.getElem?_eq_getElem hk2)) (by simp)
        rw [← ex] at et
        have etk : xs.reverse.take (j + 1) = xs.reverse.take j ++ [xs.reverse[j]] := List.take_succ_eq_append_getElem hj2
        have efl : (xs.reverse.take (j + 1)).foldl addL [] = addL ((xs.reverse.take j).foldl addL []) xs.reverse[j] := by
          rw [etk, List.foldl_append]
          rfl
        generalize xs.reverse[j] = b at et efl
        have hll : ((xs.reverse.take j).foldl addL []).length ≤ 40 := by
          have := addL_len (xs.reverse.take j) []
          rw [List.length_take, List.length_reverse, List.length_nil] at this
          omega
        generalize (xs.reverse.take j).foldl addL [] = l at ela efl hll
        have hlc : ((cI l).map V.int).length ≤ 40 := by
          unfold cI
          simpa using hll
        refine ⟨_, rfl, _, rfl, _, _, (1 : Int), _, rfl, rfl, SqT.of et, rfl, sz_le (by simp), fun q hq => ?_⟩
        have fq : Fr [] H10 (upd H10 q (.lst [.int (b : Int)])) := Fr.new hq
        refine ⟨_, rfl, _, _, (1 : Int), _, rfl, rfl, SqT.of (fq _ _ et (by simp)), rfl, _, rfl, la, _, rfl, .inl (SqL.of (fq _ _ ela (by simp))), rfl, flat_ints _, .inr ⟨_, rfl, ?_⟩⟩
        by_cases hb : b ∈ l
        · have zk : (if (if true = true then !inV (.int (b : Int)) ((cI l).map V.int) else inV (.int (b : Int)) ((cI l).map V.int)) = true then (1 : Int) else 0) = 0 := by
            rw [if_pos rfl, inV_int, decide_eq_true (mem_cI.mpr hb)]
            rfl
          rw [zk]
          refine ⟨q, 0, _, rfl, rfl, upd_same, by decide, by decide, sz_le (by simp), fun u hu => ⟨la, u, _, _, rfl, rfl, (upd_ne (ne_of_none (fq _ _ ela (by simp)) hu)).trans (fq _ _ ela (by simp)), upd_same, sz_le (by simp only [Int.toNat_zero, List.replicate_zero, List.flatten_nil, List.length_nil]; omega), fun v hv => ⟨_, v, rfl, ((f9.trans fq).trans (Fr.new hu)).trans (Fr.new hv), ?_⟩⟩⟩
          rw [efl]
          have : addL l b = l := if_pos hb
          rw [this, upd_same]
          simp
        · have zk : (if (if true = true then !inV (.int (b : Int)) ((cI l).map V.int) else inV (.int (b : Int)) ((cI l).map V.int)) = true then (1 : Int) else 0) = 1 := by
            rw [if_pos rfl, inV_int, decide_eq_false (fun z => hb (mem_cI.mp z))]
            rfl
          rw [zk]
          refine ⟨q, 1, _, rfl, rfl, upd_same, by decide, by decide, sz_le (by simp), fun u hu => ⟨la, u, _, _, rfl, rfl, (upd_ne (ne_of_none (fq _ _ ela (by simp)) hu)).trans (fq _ _ ela (by simp)), upd_same, sz_le (by simp only [Int.toNat_one, List.replicate_one, List.flatten_cons, List.flatten_nil, List.append_nil, List.length_cons, List.length_nil]; omega), fun v hv => ⟨_, v, rfl, ((f9.trans fq).trans (Fr.new hu)).trans (Fr.new hv), ?_⟩⟩⟩
          rw [efl]
          have : addL l b = l ++ [b] := if_neg hb
          rw [this, upd_same]
          unfold cI
          simp
      · rintro σ4 H9 ⟨v9', la, rfl, f9, ela⟩
        have e : ((ts.map V.ref).reverse).length = xs.reverse.length := by rw [List.length_reverse, List.length_map, List.length_reverse, lR]
        rw [e, List.take_length] at ela
        exact ⟨_, la, rfl, (W8.keep0 F9).keep0 f9, ela⟩
    clear W8 ela0
    rintro σ4 H9 ⟨v9', la, rfl, W9, ela⟩
    rw [last_runL 1 xs] at ela
    -- the same rows
    obtain ⟨L, hL⟩ : ∃ L : List Int, L = cI ((runL 1 xs).1.map Prod.fst) := ⟨_, rfl⟩
    rw [← hL] at ela
    have hro2 : ∀ (j : Nat) (ys : List Int), rows[j]? = some ys → ys.Perm (L.take (j + 1)) := fun j ys e => by
      have := hro.2 j ys e
      rw [hL]
      unfold cI
      rw [List.map_map, ← List.map_take]
      exact this
    refine ⟨_, rfl, kk, rfl, ⟨_, SqL.of W9.kl⟩, fun D hD => ?_⟩
    refine lc_it (walk_list (K := K) (a := kk) (xs := ws.map V.ref)) (fun j H' => Fr [] H9 H' ∧ ∃ us : List Addr, H' D = some (.lst (us.map V.ref)) ∧ us.length = j ∧ (∀ (t : Nat) (u : Addr) (ys : List Int), us[t]? = some u → (rows.map sortI)[t]? = some ys → H' u = some (.lst (ys.map V.int))) ∧ ∀ u ∈ us, u ≠ D) ⟨Fr.new hD, [], upd_same, rfl, (fun t u ys e => by simp at e), fun u hu => by cases hu⟩ (fun j H' _ h => SqL.of (h.1 _ _ W9.kl (by simp))) ?_ ?_
    · rintro j y H10 H11 hj ⟨f10, us, eD, lu, gu, nu0⟩ ⟨rfl, ey⟩
      have hj1 : j < ws.length := by simpa using hj
      have hj2 : j < rows.length := by rw [← W9.wl]; exact hj1
      rw [List.getElem?_map, List.getElem?_eq_getElem hj1] at ey
      cases ey
      have W11 := W9.keep0 f10
      have rj := W11.row j ws[j] rows[j] (List.getElem?_eq_getElem hj1) (List.getElem?_eq_getElem hj2)
      have pj := hro2 j rows[j] (List.getElem?_eq_getElem hj2)
      have lj : rows[j].length < 64 := by
        have := pj.length_eq
        rw [List.length_take] at this
        have := hro.1
        omega
      refine ⟨rfl, ?_⟩
      unfold tYes
      refine iteT ?_
      refine ⟨_, rfl, ws[j], rows[j], rfl, SqL.of rj, lj, fun ns' p hp hs hn => ?_⟩
      have es := sortI_of hp hs
      subst es
      refine ⟨_, (upd_ne (ne_of_none eD hn)).trans eD, by rw [List.length_map, lu]; exact sz_lt (by omega), (f10.trans (Fr.new hn)).upd0 hD, us ++ [p], ?_, by rw [List.length_append, lu]; rfl, fun t u ys e1 e2 => ?_, fun u hu => ?_⟩
      · rw [upd_same, List.map_append]
        rfl
      · have nd : D ≠ p := ne_of_none eD hn
        by_cases ht : t < us.length
        · rw [List.getElem?_append_left ht] at e1
          have g := gu t u ys e1 e2
          have nu : u ≠ D := nu0 u (List.mem_of_getElem? e1)
          rw [upd_ne nu, upd_ne (ne_of_none g hn)]
          exact g
        · rw [List.getElem?_append_right (by omega)] at e1
          have hz : t - us.length = 0 := by
            have := lt_of_at e1
            simp at this
            omega
          rw [hz] at e1
          cases e1
          have : t = j := by omega
          rw [this, List.getElem?_map, List.getElem?_eq_getElem hj2] at e2
          cases e2
          rw [upd_ne nd.symm]
          exact upd_same
      · rcases List.mem_append.mp hu with z | z
        · exact nu0 u z
        · rw [List.mem_singleton.mp z]
          exact (ne_of_none eD hn).symm
    · rintro H10 ⟨f10, us, eD, lu, gu, _⟩
      have ela2 := f10 _ _ ela (by simp)
      refine ⟨1, 9, rfl, ⟨by decide, by decide, by decide, by decide⟩, fun D2 hD2 => ?_⟩
      refine lc_range (lo := 1) (n := 8) (fun j H' => Fr [] H10 H' ∧ ∃ vs : List Addr, H' D2 = some (.lst (vs.map V.ref)) ∧ vs.length = j ∧ (∀ (t : Nat) (u : Addr), vs[t]? = some u → H' u = some (.lst ((sortI (L.take (t + 1))).map V.int))) ∧ ∀ u ∈ vs, u ≠ D2) ⟨Fr.new hD2, [], upd_same, rfl, (fun t u e => by simp at e), fun u hu => by cases hu⟩ ?_ ?_
      · rintro j H11 hj ⟨f11, vs, eD2, lv, gv, nv0⟩
        refine ⟨rfl, ?_⟩
        unfold tYes
        refine iteT ?_
        refine ⟨_, rfl, _, rfl, ((1 : Int) + (j : Int)), rfl, la, _, rfl, SqL.of (f11 _ _ ela2 (by simp)), fun p1 h1 => ?_⟩
        have ej : ((1 : Int) + (j : Int)) = ((j + 1 : Nat) : Int) := by omega
        rw [ej, cut_any, ← List.map_take]
        have f12 : Fr [] H11 (upd H11 p1 (.lst ((L.take (j + 1)).map V.int))) := Fr.new h1
        refine ⟨p1, L.take (j + 1), rfl, SqL.of upd_same, by rw [List.length_take]; omega, fun ns' p hp hs hn => ?_⟩
        have es := sortI_of hp hs
        subst es
        have eD3 := f12 _ _ eD2 (by simp)
        refine ⟨_, (upd_ne (ne_of_none eD3 hn)).trans eD3, by rw [List.length_map, lv]; exact sz_lt (by omega), ((f11.trans f12).trans (Fr.new hn)).upd0 hD2, vs ++ [p], ?_, by rw [List.length_append, lv]; rfl, fun t u e1 => ?_, fun u hu => ?_⟩
        · rw [upd_same, List.map_append]
          rfl
        · have nd : D2 ≠ p := ne_of_none eD3 hn
          by_cases ht : t < vs.length
          · rw [List.getElem?_append_left ht] at e1
            have g := f12 _ _ (gv t u e1) (by simp)
            rw [upd_ne (nv0 u (List.mem_of_getElem? e1)), upd_ne (ne_of_none g hn)]
            exact g
          · rw [List.getElem?_append_right (by omega)] at e1
            have hz : t - vs.length = 0 := by
              have := lt_of_at e1
              simp at this
              omega
            rw [hz] at e1
            cases e1
            have : t = j := by omega
            rw [this, upd_ne nd.symm]
            exact upd_same
        · rcases List.mem_append.mp hu with z | z
          · exact nv0 u z
          · rw [List.mem_singleton.mp z]
            exact (ne_of_none eD3 hn).symm
      · rintro H11 ⟨f11, vs, eD2, lv, gv, _⟩
        have hr8 : rows.length = 8 := hro.1
        have el : us.length = (rows.map sortI).length := by rw [lu, List.length_map, List.length_map, hwl, hr8]
        have d1 : DpAll K H11 (us.map V.ref) (iD (rows.map sortI)) := dpAll_iD el fun j w ys e1 e2 => f11 _ _ (gu j w ys e1 e2) (by simp)
        have d2 : DpAll K H11 (vs.map V.ref) (iD ((List.range 8).map fun j => sortI (L.take (j + 1)))) := dpAll_iD (by rw [lv, List.length_map, List.length_range]) fun j w ys e1 e2 => by
          rw [List.getElem?_map] at e2
          have hj : j < 8 := by rw [← lv]; exact lt_of_at e1
          rw [List.getElem?_range hj] at e2
          cases e2
          exact gv j w e1
        have same : rows.map sortI = (List.range 8).map fun j => sortI (L.take (j + 1)) := by
          refine List.ext_getElem (by rw [List.length_map, List.length_map, List.length_range, hr8]) fun j h1 h2 => ?_
          rw [List.getElem_map, List.getElem_map, List.getElem_range]
          have hj : j < rows.length := by simpa using h1
          exact sortI_perm (hro2 j rows[j] (List.getElem?_eq_getElem hj))
        refine ⟨_, _, .lst (SqL.of (f11 _ _ eD (by simp))) d1, .lst (SqL.of eD2) d2, shapedL_iD _, shapedL_iD _, ?_⟩
        rw [eqvL_iD, decide_eq_true same]
        exact k _
end
section
open PySem PySem.W PySem.Calls PyProof.Rows
def hxn0 : List PySem.Str := ["_wall", "__name__", "PairError", "InvalidSize", "InvalidCell", "InvalidKept", "InvalidRules", "InvalidRecipes", "InvalidBlock", "InvalidValue", "PowerFailed", "PowerOff"]
def hxn1 : List PySem.Str := ["MOST_BLOCKS", "MOST_SLOTS", "MOST_VALUE", "is_number", "is_number_from", "check_blocks", "check_slots", "MOST_CELLS", "Disk", "are_kept", "BLOCK", "VALUE"]
def hxn2 : List PySem.Str := ["TURN", "IS_DIRTY", "cleaned", "MOST_USES", "KnownSlot", "Memory", "_rank", "RULE_WORDS", "BOUND_PART", "MOST_BOUND", "WRITE_STEPS", "CLEAN_STEPS"]
def hxn3 : List PySem.Str := ["SYNC_STEPS", "MOST_STEPS", "Rules", "Recipes", "_invalid_place", "NO_COUNTS", "Pair", "_law_random", "_law_below"]
def hnames : List PySem.Str := hxn0 ++ hxn1 ++ hxn2 ++ hxn3
def hxd0 : List Hx.Df := [⟨.glo "is_number", "is_number", "is_number", s_is_number, [], []⟩,
  ⟨.glo "is_number_from", "is_number_from", "is_number_from", s_is_number_from, [], []⟩,
  ⟨.glo "check_blocks", "check_blocks", "check_blocks", s_check_blocks, [.int (16)], []⟩,
  ⟨.glo "check_slots", "check_slots", "check_slots", s_check_slots, [.int (8)], []⟩,
  ⟨.meth "Disk" "__init__", "__init__", "Disk.__init__", s_Disk___init__, [], [("content", .int (0))]⟩,
  ⟨.meth "Disk" "read", "read", "Disk.read", s_Disk_read, [], []⟩,
  ⟨.meth "Disk" "write", "write", "Disk.write", s_Disk_write, [], []⟩,
  ⟨.prop "Disk" "counts", "counts", "Disk.counts", s_Disk_counts, [], []⟩,
  ⟨.meth "Disk" "_check_cell", "_check_cell", "Disk._check_cell", s_Disk__check_cell, [], []⟩,
  ⟨.meth "KnownSlot" "__init__", "__init__", "KnownSlot.__init__", s_KnownSlot___init__, [], []⟩,
  ⟨.meth "Memory" "__init__", "__init__", "Memory.__init__", s_Memory___init__, [], []⟩,
  ⟨.meth "Memory" "records", "records", "Memory.records", s_Memory_records, [], []⟩,
  ⟨.meth "Memory" "slot_of", "slot_of", "Memory.slot_of", s_Memory_slot_of, [], []⟩,
  ⟨.meth "Memory" "record_in", "record_in", "Memory.record_in", s_Memory_record_in, [], []⟩,
  ⟨.meth "Memory" "use", "use", "Memory.use", s_Memory_use, [], []⟩,
  ⟨.meth "Memory" "learn", "learn", "Memory.learn", s_Memory_learn, [], []⟩,
  ⟨.meth "Memory" "forget", "forget", "Memory.forget", s_Memory_forget, [], []⟩,
  ⟨.meth "Memory" "slot_to_take", "slot_to_take", "Memory.slot_to_take", s_Memory_slot_to_take, [], []⟩,
  ⟨.glo "_rank", "_rank", "_rank", s__rank, [], []⟩,
  ⟨.meth "Rules" "__init__", "__init__", "Rules.__init__", s_Rules___init__, [], []⟩]
def hxd1 : List Hx.Df := [⟨.prop "Rules" "reading", "reading", "Rules.reading", s_Rules_reading, [], []⟩,
  ⟨.prop "Rules" "choice", "choice", "Rules.choice", s_Rules_choice, [], []⟩,
  ⟨.meth "Recipes" "__init__", "__init__", "Recipes.__init__", s_Recipes___init__, [], []⟩,
  ⟨.clsm "Recipes" "safe", "safe", "Recipes.safe", s_Recipes_safe, [], []⟩,
  ⟨.prop "Recipes" "through", "through", "Recipes.through", s_Recipes_through, [], []⟩,
  ⟨.prop "Recipes" "back", "back", "Recipes.back", s_Recipes_back, [], []⟩,
  ⟨.prop "Recipes" "around", "around", "Recipes.around", s_Recipes_around, [], []⟩,
  ⟨.prop "Recipes" "clean", "clean", "Recipes.clean", s_Recipes_clean, [], []⟩,
  ⟨.prop "Rules" "writing", "writing", "Rules.writing", s_Rules_writing, [], []⟩,
  ⟨.prop "Rules" "bound", "bound", "Rules.bound", s_Rules_bound, [], []⟩,
  ⟨.meth "Disk" "sync", "sync", "Disk.sync", s_Disk_sync, [], []⟩,
  ⟨.glo "_invalid_place", "_invalid_place", "_invalid_place", s__invalid_place, [], []⟩,
  ⟨.meth "Pair" "__init__", "__init__", "Pair.__init__", s_Pair___init__, [], [("recipes", .non)]⟩,
  ⟨.meth "Pair" "read", "read", "Pair.read", s_Pair_read, [], []⟩,
  ⟨.prop "Pair" "known", "known", "Pair.known", s_Pair_known, [], []⟩,
  ⟨.prop "Pair" "hits", "hits", "Pair.hits", s_Pair_hits, [], []⟩,
  ⟨.prop "Pair" "counts", "counts", "Pair.counts", s_Pair_counts, [], []⟩,
  ⟨.meth "Pair" "_check_on", "_check_on", "Pair._check_on", s_Pair__check_on, [], []⟩,
  ⟨.meth "Pair" "_check_block", "_check_block", "Pair._check_block", s_Pair__check_block, [], []⟩,
  ⟨.meth "Pair" "_begin_request", "_begin_request", "Pair._begin_request", s_Pair__begin_request, [], []⟩]
def hxd2 : List Hx.Df := [⟨.meth "Pair" "_take_slot", "_take_slot", "Pair._take_slot", s_Pair__take_slot, [], []⟩,
  ⟨.meth "Pair" "_begin_step", "_begin_step", "Pair._begin_step", s_Pair__begin_step, [], []⟩,
  ⟨.meth "Pair" "_write_fast", "_write_fast", "Pair._write_fast", s_Pair__write_fast, [], []⟩,
  ⟨.meth "Pair" "_write_record", "_write_record", "Pair._write_record", s_Pair__write_record, [], []⟩,
  ⟨.meth "Pair" "_put_in_fast", "_put_in_fast", "Pair._put_in_fast", s_Pair__put_in_fast, [], []⟩,
  ⟨.glo "_law_random", "_law_random", "_law_random", s__law_random, [], []⟩,
  ⟨.glo "_law_below", "_law_below", "_law_below", s__law_below, [], []⟩,
  ⟨.glo "law", "law", "law", s_law, [], []⟩]
def hdefs : List Hx.Df := hxd0 ++ hxd1 ++ hxd2
def hxf0 (K : Frag) : List Bool := [(He.Fa.glo "Disk").ok K,
  (He.Fa.cls "Disk").ok K,
  (He.Fa.noat "Disk" "_contents").ok K,
  (He.Fa.noat "Disk" "_lasting").ok K,
  (He.Fa.noat "Disk" "_pending").ok K,
  (He.Fa.noat "Disk" "_reads").ok K,
  (He.Fa.noat "Disk" "_writes").ok K,
  (He.Fa.noat "Disk" "_syncs").ok K,
  (He.Fa.glo "KnownSlot").ok K,
  (He.Fa.cls "KnownSlot").ok K,
  (He.Fa.noat "KnownSlot" "record").ok K,
  (He.Fa.noat "KnownSlot" "came").ok K,
  (He.Fa.noat "KnownSlot" "used").ok K,
  (He.Fa.noat "KnownSlot" "uses").ok K,
  (He.Fa.glo "Memory").ok K,
  (He.Fa.cls "Memory").ok K,
  (He.Fa.noat "Memory" "_slots").ok K,
  (He.Fa.noat "Memory" "_known").ok K,
  (He.Fa.glo "Rules").ok K,
  (He.Fa.cls "Rules").ok K,
  (He.Fa.noat "Rules" "_writing").ok K,
  (He.Fa.noat "Rules" "_reading").ok K,
  (He.Fa.noat "Rules" "_choice").ok K,
  (He.Fa.noat "Rules" "_bound").ok K,
  (He.Fa.glo "Recipes").ok K,
  (He.Fa.cls "Recipes").ok K,
  (He.Fa.noat "Recipes" "_through").ok K,
  (He.Fa.noat "Recipes" "_back").ok K,
  (He.Fa.noat "Recipes" "_around").ok K,
  (He.Fa.noat "Recipes" "_clean").ok K,
  (He.Fa.glo "Pair").ok K,
  (He.Fa.cls "Pair").ok K,
  (He.Fa.noat "Pair" "_blocks").ok K,
  (He.Fa.noat "Pair" "_rules").ok K,
  (He.Fa.noat "Pair" "_recipes").ok K,
  (He.Fa.noat "Pair" "_slow").ok K,
  (He.Fa.noat "Pair" "_fast").ok K,
  (He.Fa.noat "Pair" "_memory").ok K,
  (He.Fa.noat "Pair" "_counts_of_dead").ok K,
  (He.Fa.noat "Pair" "_requests").ok K]
def hxf1 (K : Frag) : List Bool := [(He.Fa.noat "Pair" "_hits").ok K,
  (He.Fa.noat "Pair" "_next_turn").ok K,
  (He.Fa.noat "Pair" "_steps_left").ok K,
  (He.Fa.noat "Pair" "_is_on").ok K,
  (He.Fa.noat "Pair" "_is_done").ok K,
  (He.Fa.glo "is_number").ok K,
  (He.Fa.glo "is_number_from").ok K,
  (He.Fa.glo "check_blocks").ok K,
  (He.Fa.glo "check_slots").ok K,
  (He.Fa.mkr "Disk").ok K,
  (He.Fa.meth "Disk" "read").ok K,
  (He.Fa.meth "Disk" "write").ok K,
  decide (PySem.W.findIn K (.ref (He.ga K "Disk")) "counts" = some (some (.ref (He.ma K (He.ga K "Disk") "counts")))),
  decide (PySem.W.specialIn K (.ref (He.ma K (He.ga K "Disk") "counts")) "__get__" = some (some (.builtin "property.__get__"))),
  decide (PySem.W.takesIn K (.ref (He.ma K (He.ga K "Disk") "counts")) = some true),
  Hx.isRec K (He.ma K (He.ga K "Disk") "counts") "property",
  (He.Fa.meth "Disk" "_check_cell").ok K,
  (He.Fa.mkr "KnownSlot").ok K,
  (He.Fa.mkr "Memory").ok K,
  (He.Fa.meth "Memory" "records").ok K,
  (He.Fa.meth "Memory" "slot_of").ok K,
  (He.Fa.meth "Memory" "record_in").ok K,
  (He.Fa.meth "Memory" "use").ok K,
  (He.Fa.meth "Memory" "learn").ok K,
  (He.Fa.meth "Memory" "forget").ok K,
  (He.Fa.meth "Memory" "slot_to_take").ok K,
  (He.Fa.glo "_rank").ok K,
  (He.Fa.mkr "Rules").ok K,
  decide (PySem.W.findIn K (.ref (He.ga K "Rules")) "reading" = some (some (.ref (He.ma K (He.ga K "Rules") "reading")))),
  decide (PySem.W.specialIn K (.ref (He.ma K (He.ga K "Rules") "reading")) "__get__" = some (some (.builtin "property.__get__"))),
  decide (PySem.W.takesIn K (.ref (He.ma K (He.ga K "Rules") "reading")) = some true),
  Hx.isRec K (He.ma K (He.ga K "Rules") "reading") "property",
  decide (PySem.W.findIn K (.ref (He.ga K "Rules")) "choice" = some (some (.ref (He.ma K (He.ga K "Rules") "choice")))),
  decide (PySem.W.specialIn K (.ref (He.ma K (He.ga K "Rules") "choice")) "__get__" = some (some (.builtin "property.__get__"))),
  decide (PySem.W.takesIn K (.ref (He.ma K (He.ga K "Rules") "choice")) = some true),
  Hx.isRec K (He.ma K (He.ga K "Rules") "choice") "property",
  (He.Fa.mkr "Recipes").ok K,
  Hx.isCl K (He.ga K "Recipes") "safe",
  Hx.isRec K (Hx.clAd K (He.ga K "Recipes") "safe") "classmethod",
  PySem.W.fnIn K (Hx.At.ad K (.clsm "Recipes" "safe"))]
def hxf2 (K : Frag) : List Bool := [PySem.W.readsIn K (He.ga K "Recipes") (.type "type"),
  decide (PySem.W.specialIn K (.ref (He.ga K "Recipes")) "__getattribute__" = some (some (.builtin "type.__getattribute__"))),
  decide (PySem.W.findIn K (.ref (He.ga K "Recipes")) "through" = some (some (.ref (He.ma K (He.ga K "Recipes") "through")))),
  decide (PySem.W.specialIn K (.ref (He.ma K (He.ga K "Recipes") "through")) "__get__" = some (some (.builtin "property.__get__"))),
  decide (PySem.W.takesIn K (.ref (He.ma K (He.ga K "Recipes") "through")) = some true),
  Hx.isRec K (He.ma K (He.ga K "Recipes") "through") "property",
  decide (PySem.W.findIn K (.ref (He.ga K "Recipes")) "back" = some (some (.ref (He.ma K (He.ga K "Recipes") "back")))),
  decide (PySem.W.specialIn K (.ref (He.ma K (He.ga K "Recipes") "back")) "__get__" = some (some (.builtin "property.__get__"))),
  decide (PySem.W.takesIn K (.ref (He.ma K (He.ga K "Recipes") "back")) = some true),
  Hx.isRec K (He.ma K (He.ga K "Recipes") "back") "property",
  decide (PySem.W.findIn K (.ref (He.ga K "Recipes")) "around" = some (some (.ref (He.ma K (He.ga K "Recipes") "around")))),
  decide (PySem.W.specialIn K (.ref (He.ma K (He.ga K "Recipes") "around")) "__get__" = some (some (.builtin "property.__get__"))),
  decide (PySem.W.takesIn K (.ref (He.ma K (He.ga K "Recipes") "around")) = some true),
  Hx.isRec K (He.ma K (He.ga K "Recipes") "around") "property",
  decide (PySem.W.findIn K (.ref (He.ga K "Recipes")) "clean" = some (some (.ref (He.ma K (He.ga K "Recipes") "clean")))),
  decide (PySem.W.specialIn K (.ref (He.ma K (He.ga K "Recipes") "clean")) "__get__" = some (some (.builtin "property.__get__"))),
  decide (PySem.W.takesIn K (.ref (He.ma K (He.ga K "Recipes") "clean")) = some true),
  Hx.isRec K (He.ma K (He.ga K "Recipes") "clean") "property",
  decide (PySem.W.findIn K (.ref (He.ga K "Rules")) "writing" = some (some (.ref (He.ma K (He.ga K "Rules") "writing")))),
  decide (PySem.W.specialIn K (.ref (He.ma K (He.ga K "Rules") "writing")) "__get__" = some (some (.builtin "property.__get__"))),
  decide (PySem.W.takesIn K (.ref (He.ma K (He.ga K "Rules") "writing")) = some true),
  Hx.isRec K (He.ma K (He.ga K "Rules") "writing") "property",
  decide (PySem.W.findIn K (.ref (He.ga K "Rules")) "bound" = some (some (.ref (He.ma K (He.ga K "Rules") "bound")))),
  decide (PySem.W.specialIn K (.ref (He.ma K (He.ga K "Rules") "bound")) "__get__" = some (some (.builtin "property.__get__"))),
  decide (PySem.W.takesIn K (.ref (He.ma K (He.ga K "Rules") "bound")) = some true),
  Hx.isRec K (He.ma K (He.ga K "Rules") "bound") "property",
  (He.Fa.meth "Disk" "sync").ok K,
  (He.Fa.glo "_invalid_place").ok K,
  (He.Fa.mkr "Pair").ok K,
  (He.Fa.meth "Pair" "read").ok K,
  decide (PySem.W.findIn K (.ref (He.ga K "Pair")) "known" = some (some (.ref (He.ma K (He.ga K "Pair") "known")))),
  decide (PySem.W.specialIn K (.ref (He.ma K (He.ga K "Pair") "known")) "__get__" = some (some (.builtin "property.__get__"))),
  decide (PySem.W.takesIn K (.ref (He.ma K (He.ga K "Pair") "known")) = some true),
  Hx.isRec K (He.ma K (He.ga K "Pair") "known") "property",
  decide (PySem.W.findIn K (.ref (He.ga K "Pair")) "hits" = some (some (.ref (He.ma K (He.ga K "Pair") "hits")))),
  decide (PySem.W.specialIn K (.ref (He.ma K (He.ga K "Pair") "hits")) "__get__" = some (some (.builtin "property.__get__"))),
  decide (PySem.W.takesIn K (.ref (He.ma K (He.ga K "Pair") "hits")) = some true),
  Hx.isRec K (He.ma K (He.ga K "Pair") "hits") "property",
  decide (PySem.W.findIn K (.ref (He.ga K "Pair")) "counts" = some (some (.ref (He.ma K (He.ga K "Pair") "counts")))),
  decide (PySem.W.specialIn K (.ref (He.ma K (He.ga K "Pair") "counts")) "__get__" = some (some (.builtin "property.__get__")))]
def hxf3 (K : Frag) : List Bool := [decide (PySem.W.takesIn K (.ref (He.ma K (He.ga K "Pair") "counts")) = some true),
  Hx.isRec K (He.ma K (He.ga K "Pair") "counts") "property",
  (He.Fa.meth "Pair" "_check_on").ok K,
  (He.Fa.meth "Pair" "_check_block").ok K,
  (He.Fa.meth "Pair" "_begin_request").ok K,
  (He.Fa.meth "Pair" "_take_slot").ok K,
  (He.Fa.meth "Pair" "_begin_step").ok K,
  (He.Fa.meth "Pair" "_write_fast").ok K,
  (He.Fa.meth "Pair" "_write_record").ok K,
  (He.Fa.meth "Pair" "_put_in_fast").ok K,
  (He.Fa.glo "_law_random").ok K,
  (He.Fa.glo "_law_below").ok K,
  (He.Fa.free "isinstance").ok K,
  (He.Fa.free "int").ok K,
  (He.Fa.free "bool").ok K,
  (He.Fa.free "str").ok K,
  (He.Fa.free "list").ok K,
  (He.Fa.free "tuple").ok K,
  (He.Fa.free "len").ok K,
  (He.Fa.free "abs").ok K,
  (He.Fa.free "range").ok K,
  (He.Fa.free "enumerate").ok K,
  (He.Fa.free "max").ok K,
  (He.Fa.free "min").ok K,
  (He.Fa.free "sorted").ok K,
  (He.Fa.free "zip").ok K,
  (He.Fa.free "sum").ok K,
  (He.Fa.free "all").ok K,
  (He.Fa.int "MOST_BLOCKS" (16)).ok K,
  (He.Fa.int "MOST_SLOTS" (8)).ok K,
  (He.Fa.int "MOST_VALUE" (999)).ok K,
  (He.Fa.int "MOST_CELLS" (64)).ok K,
  (He.Fa.int "BLOCK" (0)).ok K,
  (He.Fa.int "VALUE" (1)).ok K,
  (He.Fa.int "TURN" (2)).ok K,
  (He.Fa.int "IS_DIRTY" (3)).ok K,
  (He.Fa.int "MOST_USES" (9)).ok K,
  (He.Fa.int "BOUND_PART" (3)).ok K,
  (He.Fa.int "MOST_BOUND" (8)).ok K,
  (He.Fa.int "MOST_STEPS" (8)).ok K]
def hxf4 (K : Frag) : List Bool := [Hx.isTup K (Hx.itAd K (He.ga K "RULE_WORDS") 0) [.str "through", .str "back", .str "around"],
  Hx.isTup K (Hx.itAd K (He.ga K "RULE_WORDS") 1) [.str "keep", .str "pass"],
  Hx.isTup K (Hx.itAd K (He.ga K "RULE_WORDS") 2) [.str "used", .str "came", .str "rare"],
  Hx.isTup K (He.ga K "RULE_WORDS") [.ref (Hx.itAd K (He.ga K "RULE_WORDS") 0), .ref (Hx.itAd K (He.ga K "RULE_WORDS") 1), .ref (Hx.itAd K (He.ga K "RULE_WORDS") 2)],
  (He.Fa.glo "RULE_WORDS").ok K,
  Hx.isTup K (He.ga K "WRITE_STEPS") [.str "slow", .str "sync slow", .str "fast", .str "sync fast", .str "free", .str "done"],
  (He.Fa.glo "WRITE_STEPS").ok K,
  Hx.isTup K (He.ga K "CLEAN_STEPS") [.str "slow", .str "sync slow", .str "mark", .str "sync fast"],
  (He.Fa.glo "CLEAN_STEPS").ok K,
  Hx.isTup K (He.ga K "SYNC_STEPS") [.str "sync slow", .str "sync fast"],
  (He.Fa.glo "SYNC_STEPS").ok K,
  Hx.isTup K (He.ga K "NO_COUNTS") [.int 0, .int 0, .int 0],
  (He.Fa.glo "NO_COUNTS").ok K,
  (He.Fa.glo "law").ok K]
def hfacts (K : Frag) : List (List Bool) := [hxf0 K, hxf1 K, hxf2 K, hxf3 K, hxf4 K]
abbrev hR : OpenRow := OpenLaw.row PySem.Challenge.rw_keepbefore_k95_whole_more_slots_hit_more
def hex (K : Frag) : Bool := (hfacts K).all fun l => l.all id
abbrev hk : Hook := Hx.hook 6 hdefs hex []
theorem hrun (w : World) : HandSHeadRun.RunEq hR (view hR.prog [52]) hk (Hx.ob 6 hdefs hex []) 40000 hnames w := by
  intro os
  kernel_rfl
end
section
open PySem PySem.Spec PyProof.Rows L2
theorem all_ok {P : Program} {w : World} {K : PySem.W.Frag} {h : Heap} {mg : Str → Option Value} {fa : Addr} (X : K.In h) (G : h.Ns mainGlobals mg) (hfa : mg ("law" : Str) = some (.ref fa)) (c : Hx.Says hdefs (fun K => (hfacts K).all fun l => l.all id) [] h K) :
    ∃ fd : FuncData, (∀ (s : Shared) (v : Value), BindsTo s fd ⟨[v], []⟩ [("_law_script", v)]) ∧ ∀ base : Heap, K.In base → base.Ns mainGlobals mg → FnOk P w K mg base CX0 16 fa fd ["_law_script"] (spLaw K) := by
  obtain ⟨fd_is_number, F_is_number⟩ := c.def_ 0
  obtain ⟨fd_is_number_from, F_is_number_from⟩ := c.def_ 1
  obtain ⟨fd_check_blocks, F_check_blocks⟩ := c.def_ 2
  obtain ⟨fd_check_slots, F_check_slots⟩ := c.def_ 3
  obtain ⟨fd_Disk___init__, F_Disk___init__⟩ := c.def_ 4
  obtain ⟨fd_Disk_read, F_Disk_read⟩ := c.def_ 5
  obtain ⟨fd_Disk_write, F_Disk_write⟩ := c.def_ 6
  obtain ⟨fd_Disk_counts, F_Disk_counts⟩ := c.def_ 7
  obtain ⟨fd_Disk__check_cell, F_Disk__check_cell⟩ := c.def_ 8
  obtain ⟨fd_KnownSlot___init__, F_KnownSlot___init__⟩ := c.def_ 9
  obtain ⟨fd_Memory___init__, F_Memory___init__⟩ := c.def_ 10
  obtain ⟨fd_Memory_records, F_Memory_records⟩ := c.def_ 11
  obtain ⟨fd_Memory_slot_of, F_Memory_slot_of⟩ := c.def_ 12
  obtain ⟨fd_Memory_record_in, F_Memory_record_in⟩ := c.def_ 13
  obtain ⟨fd_Memory_use, F_Memory_use⟩ := c.def_ 14
  obtain ⟨fd_Memory_learn, F_Memory_learn⟩ := c.def_ 15
  obtain ⟨fd_Memory_forget, F_Memory_forget⟩ := c.def_ 16
  obtain ⟨fd_Memory_slot_to_take, F_Memory_slot_to_take⟩ := c.def_ 17
  obtain ⟨fd__rank, F__rank⟩ := c.def_ 18
  obtain ⟨fd_Rules___init__, F_Rules___init__⟩ := c.def_ 19
  obtain ⟨fd_Rules_reading, F_Rules_reading⟩ := c.def_ 20
  obtain ⟨fd_Rules_choice, F_Rules_choice⟩ := c.def_ 21
  obtain ⟨fd_Recipes___init__, F_Recipes___init__⟩ := c.def_ 22
  obtain ⟨fd_Recipes_safe, F_Recipes_safe⟩ := c.def_ 23
  obtain ⟨fd_Recipes_through, F_Recipes_through⟩ := c.def_ 24
  obtain ⟨fd_Recipes_back, F_Recipes_back⟩ := c.def_ 25
  obtain ⟨fd_Recipes_around, F_Recipes_around⟩ := c.def_ 26
  obtain ⟨fd_Recipes_clean, F_Recipes_clean⟩ := c.def_ 27
  obtain ⟨fd_Rules_writing, F_Rules_writing⟩ := c.def_ 28
  obtain ⟨fd_Rules_bound, F_Rules_bound⟩ := c.def_ 29
  obtain ⟨fd_Disk_sync, F_Disk_sync⟩ := c.def_ 30
  obtain ⟨fd__invalid_place, F__invalid_place⟩ := c.def_ 31
  obtain ⟨fd_Pair___init__, F_Pair___init__⟩ := c.def_ 32
  obtain ⟨fd_Pair_read, F_Pair_read⟩ := c.def_ 33
  obtain ⟨fd_Pair_known, F_Pair_known⟩ := c.def_ 34
  obtain ⟨fd_Pair_hits, F_Pair_hits⟩ := c.def_ 35
  obtain ⟨fd_Pair_counts, F_Pair_counts⟩ := c.def_ 36
  obtain ⟨fd_Pair__check_on, F_Pair__check_on⟩ := c.def_ 37
  obtain ⟨fd_Pair__check_block, F_Pair__check_block⟩ := c.def_ 38
  obtain ⟨fd_Pair__begin_request, F_Pair__begin_request⟩ := c.def_ 39
  obtain ⟨fd_Pair__take_slot, F_Pair__take_slot⟩ := c.def_ 40
  obtain ⟨fd_Pair__begin_step, F_Pair__begin_step⟩ := c.def_ 41
  obtain ⟨fd_Pair__write_fast, F_Pair__write_fast⟩ := c.def_ 42
  obtain ⟨fd_Pair__write_record, F_Pair__write_record⟩ := c.def_ 43
  obtain ⟨fd_Pair__put_in_fast, F_Pair__put_in_fast⟩ := c.def_ 44
  obtain ⟨fd__law_random, F__law_random⟩ := c.def_ 45
  obtain ⟨fd__law_below, F__law_below⟩ := c.def_ 46
  obtain ⟨t_MOST_BLOCKS, c_MOST_BLOCKS⟩ := He.int_ok X G (c.fact 3 28)
  obtain ⟨t_MOST_SLOTS, c_MOST_SLOTS⟩ := He.int_ok X G (c.fact 3 29)
  obtain ⟨t_MOST_VALUE, c_MOST_VALUE⟩ := He.int_ok X G (c.fact 3 30)
  obtain ⟨t_MOST_CELLS, c_MOST_CELLS⟩ := He.int_ok X G (c.fact 3 31)
  obtain ⟨t_BLOCK, c_BLOCK⟩ := He.int_ok X G (c.fact 3 32)
  obtain ⟨t_VALUE, c_VALUE⟩ := He.int_ok X G (c.fact 3 33)
  obtain ⟨t_TURN, c_TURN⟩ := He.int_ok X G (c.fact 3 34)
  obtain ⟨t_IS_DIRTY, c_IS_DIRTY⟩ := He.int_ok X G (c.fact 3 35)
  obtain ⟨t_MOST_USES, c_MOST_USES⟩ := He.int_ok X G (c.fact 3 36)
  obtain ⟨t_BOUND_PART, c_BOUND_PART⟩ := He.int_ok X G (c.fact 3 37)
  obtain ⟨t_MOST_BOUND, c_MOST_BOUND⟩ := He.int_ok X G (c.fact 3 38)
  obtain ⟨t_MOST_STEPS, c_MOST_STEPS⟩ := He.int_ok X G (c.fact 3 39)
  obtain ⟨fd, F⟩ := c.def_ 47
  have e := hfa.symm.trans (He.glo_ok X G (c.fact 4 13))
  cases e
  have T : Gx K mg := {
    C_Disk := (He.ga K "Disk"), gC_Disk := He.glo_ok X G (c.fact 0 0), cl_Disk := He.cls_ok (c.fact 0 1),
    n_Disk__contents := He.noat_ok (c.fact 0 2),
    n_Disk__lasting := He.noat_ok (c.fact 0 3),
    n_Disk__pending := He.noat_ok (c.fact 0 4),
    n_Disk__reads := He.noat_ok (c.fact 0 5),
    n_Disk__writes := He.noat_ok (c.fact 0 6),
    n_Disk__syncs := He.noat_ok (c.fact 0 7),
    C_KnownSlot := (He.ga K "KnownSlot"), gC_KnownSlot := He.glo_ok X G (c.fact 0 8), cl_KnownSlot := He.cls_ok (c.fact 0 9),
    n_KnownSlot_record := He.noat_ok (c.fact 0 10),
    n_KnownSlot_came := He.noat_ok (c.fact 0 11),
    n_KnownSlot_used := He.noat_ok (c.fact 0 12),
    n_KnownSlot_uses := He.noat_ok (c.fact 0 13),
    C_Memory := (He.ga K "Memory"), gC_Memory := He.glo_ok X G (c.fact 0 14), cl_Memory := He.cls_ok (c.fact 0 15),
    n_Memory__slots := He.noat_ok (c.fact 0 16),
    n_Memory__known := He.noat_ok (c.fact 0 17),
    C_Rules := (He.ga K "Rules"), gC_Rules := He.glo_ok X G (c.fact 0 18), cl_Rules := He.cls_ok (c.fact 0 19),
    n_Rules__writing := He.noat_ok (c.fact 0 20),
    n_Rules__reading := He.noat_ok (c.fact 0 21),
    n_Rules__choice := He.noat_ok (c.fact 0 22),
    n_Rules__bound := He.noat_ok (c.fact 0 23),
    C_Recipes := (He.ga K "Recipes"), gC_Recipes := He.glo_ok X G (c.fact 0 24), cl_Recipes := He.cls_ok (c.fact 0 25),
    n_Recipes__through := He.noat_ok (c.fact 0 26),
    n_Recipes__back := He.noat_ok (c.fact 0 27),
    n_Recipes__around := He.noat_ok (c.fact 0 28),
    n_Recipes__clean := He.noat_ok (c.fact 0 29),
    C_Pair := (He.ga K "Pair"), gC_Pair := He.glo_ok X G (c.fact 0 30), cl_Pair := He.cls_ok (c.fact 0 31),
    n_Pair__blocks := He.noat_ok (c.fact 0 32),
    n_Pair__rules := He.noat_ok (c.fact 0 33),
    n_Pair__recipes := He.noat_ok (c.fact 0 34),
    n_Pair__slow := He.noat_ok (c.fact 0 35),
    n_Pair__fast := He.noat_ok (c.fact 0 36),
    n_Pair__memory := He.noat_ok (c.fact 0 37),
    n_Pair__counts_of_dead := He.noat_ok (c.fact 0 38),
    n_Pair__requests := He.noat_ok (c.fact 0 39),
    n_Pair__hits := He.noat_ok (c.fact 1 0),
    n_Pair__next_turn := He.noat_ok (c.fact 1 1),
    n_Pair__steps_left := He.noat_ok (c.fact 1 2),
    n_Pair__is_on := He.noat_ok (c.fact 1 3),
    n_Pair__is_done := He.noat_ok (c.fact 1 4),
    f_is_number := Hx.At.ad K (.glo "is_number"), fd_is_number := fd_is_number, F_is_number := Hx.plain F_is_number,
    g_is_number := He.glo_ok X G (c.fact 1 5),
    f_is_number_from := Hx.At.ad K (.glo "is_number_from"), fd_is_number_from := fd_is_number_from, F_is_number_from := Hx.plain F_is_number_from,
    g_is_number_from := He.glo_ok X G (c.fact 1 6),
    f_check_blocks := Hx.At.ad K (.glo "check_blocks"), fd_check_blocks := fd_check_blocks, F_check_blocks := F_check_blocks,
    g_check_blocks := He.glo_ok X G (c.fact 1 7),
    f_check_slots := Hx.At.ad K (.glo "check_slots"), fd_check_slots := fd_check_slots, F_check_slots := F_check_slots,
    g_check_slots := He.glo_ok X G (c.fact 1 8),
    f_Disk___init__ := Hx.At.ad K (.meth "Disk" "__init__"), fd_Disk___init__ := fd_Disk___init__, F_Disk___init__ := F_Disk___init__,
    M_Disk___init__ := He.mkr_ok (c.fact 1 9),
    f_Disk_read := Hx.At.ad K (.meth "Disk" "read"), fd_Disk_read := fd_Disk_read, F_Disk_read := Hx.plain F_Disk_read,
    m_Disk_read := He.meth_ok (c.fact 1 10),
    f_Disk_write := Hx.At.ad K (.meth "Disk" "write"), fd_Disk_write := fd_Disk_write, F_Disk_write := Hx.plain F_Disk_write,
    m_Disk_write := He.meth_ok (c.fact 1 11),
    f_Disk_counts := Hx.At.ad K (.prop "Disk" "counts"), fd_Disk_counts := fd_Disk_counts, F_Disk_counts := Hx.plain F_Disk_counts,
    p_Disk_counts := (He.ma K (He.ga K "Disk") "counts"), P_Disk_counts := ⟨of_decide_eq_true (c.fact 1 12), of_decide_eq_true (c.fact 1 13), of_decide_eq_true (c.fact 1 14), Hx.isRec_ok (c.fact 1 15)⟩,
    f_Disk__check_cell := Hx.At.ad K (.meth "Disk" "_check_cell"), fd_Disk__check_cell := fd_Disk__check_cell, F_Disk__check_cell := Hx.plain F_Disk__check_cell,
    m_Disk__check_cell := He.meth_ok (c.fact 1 16),
    f_KnownSlot___init__ := Hx.At.ad K (.meth "KnownSlot" "__init__"), fd_KnownSlot___init__ := fd_KnownSlot___init__, F_KnownSlot___init__ := Hx.plain F_KnownSlot___init__,
    M_KnownSlot___init__ := He.mkr_ok (c.fact 1 17),
    f_Memory___init__ := Hx.At.ad K (.meth "Memory" "__init__"), fd_Memory___init__ := fd_Memory___init__, F_Memory___init__ := Hx.plain F_Memory___init__,
    M_Memory___init__ := He.mkr_ok (c.fact 1 18),
    f_Memory_records := Hx.At.ad K (.meth "Memory" "records"), fd_Memory_records := fd_Memory_records, F_Memory_records := Hx.plain F_Memory_records,
    m_Memory_records := He.meth_ok (c.fact 1 19),
    f_Memory_slot_of := Hx.At.ad K (.meth "Memory" "slot_of"), fd_Memory_slot_of := fd_Memory_slot_of, F_Memory_slot_of := Hx.plain F_Memory_slot_of,
    m_Memory_slot_of := He.meth_ok (c.fact 1 20),
    f_Memory_record_in := Hx.At.ad K (.meth "Memory" "record_in"), fd_Memory_record_in := fd_Memory_record_in, F_Memory_record_in := Hx.plain F_Memory_record_in,
    m_Memory_record_in := He.meth_ok (c.fact 1 21),
    f_Memory_use := Hx.At.ad K (.meth "Memory" "use"), fd_Memory_use := fd_Memory_use, F_Memory_use := Hx.plain F_Memory_use,
    m_Memory_use := He.meth_ok (c.fact 1 22),
    f_Memory_learn := Hx.At.ad K (.meth "Memory" "learn"), fd_Memory_learn := fd_Memory_learn, F_Memory_learn := Hx.plain F_Memory_learn,
    m_Memory_learn := He.meth_ok (c.fact 1 23),
    f_Memory_forget := Hx.At.ad K (.meth "Memory" "forget"), fd_Memory_forget := fd_Memory_forget, F_Memory_forget := Hx.plain F_Memory_forget,
    m_Memory_forget := He.meth_ok (c.fact 1 24),
    f_Memory_slot_to_take := Hx.At.ad K (.meth "Memory" "slot_to_take"), fd_Memory_slot_to_take := fd_Memory_slot_to_take, F_Memory_slot_to_take := Hx.plain F_Memory_slot_to_take,
    m_Memory_slot_to_take := He.meth_ok (c.fact 1 25),
    f__rank := Hx.At.ad K (.glo "_rank"), fd__rank := fd__rank, F__rank := Hx.plain F__rank,
    g__rank := He.glo_ok X G (c.fact 1 26),
    f_Rules___init__ := Hx.At.ad K (.meth "Rules" "__init__"), fd_Rules___init__ := fd_Rules___init__, F_Rules___init__ := Hx.plain F_Rules___init__,
    M_Rules___init__ := He.mkr_ok (c.fact 1 27),
    f_Rules_reading := Hx.At.ad K (.prop "Rules" "reading"), fd_Rules_reading := fd_Rules_reading, F_Rules_reading := Hx.plain F_Rules_reading,
    p_Rules_reading := (He.ma K (He.ga K "Rules") "reading"), P_Rules_reading := ⟨of_decide_eq_true (c.fact 1 28), of_decide_eq_true (c.fact 1 29), of_decide_eq_true (c.fact 1 30), Hx.isRec_ok (c.fact 1 31)⟩,
    f_Rules_choice := Hx.At.ad K (.prop "Rules" "choice"), fd_Rules_choice := fd_Rules_choice, F_Rules_choice := Hx.plain F_Rules_choice,
    p_Rules_choice := (He.ma K (He.ga K "Rules") "choice"), P_Rules_choice := ⟨of_decide_eq_true (c.fact 1 32), of_decide_eq_true (c.fact 1 33), of_decide_eq_true (c.fact 1 34), Hx.isRec_ok (c.fact 1 35)⟩,
    f_Recipes___init__ := Hx.At.ad K (.meth "Recipes" "__init__"), fd_Recipes___init__ := fd_Recipes___init__, F_Recipes___init__ := Hx.plain F_Recipes___init__,
    M_Recipes___init__ := He.mkr_ok (c.fact 1 36),
    f_Recipes_safe := Hx.At.ad K (.clsm "Recipes" "safe"), fd_Recipes_safe := fd_Recipes_safe, F_Recipes_safe := Hx.plain F_Recipes_safe,
    p_Recipes_safe := (Hx.clAd K (He.ga K "Recipes") "safe"), Y_Recipes_safe := ⟨Hx.isCl_ok (c.fact 1 37), Hx.isRec_ok (c.fact 1 38), (c.fact 1 39)⟩, R_Recipes_safe := ⟨(c.fact 2 0), of_decide_eq_true (c.fact 2 1)⟩,
    f_Recipes_through := Hx.At.ad K (.prop "Recipes" "through"), fd_Recipes_through := fd_Recipes_through, F_Recipes_through := Hx.plain F_Recipes_through,
    p_Recipes_through := (He.ma K (He.ga K "Recipes") "through"), P_Recipes_through := ⟨of_decide_eq_true (c.fact 2 2), of_decide_eq_true (c.fact 2 3), of_decide_eq_true (c.fact 2 4), Hx.isRec_ok (c.fact 2 5)⟩,
    f_Recipes_back := Hx.At.ad K (.prop "Recipes" "back"), fd_Recipes_back := fd_Recipes_back, F_Recipes_back := Hx.plain F_Recipes_back,
    p_Recipes_back := (He.ma K (He.ga K "Recipes") "back"), P_Recipes_back := ⟨of_decide_eq_true (c.fact 2 6), of_decide_eq_true (c.fact 2 7), of_decide_eq_true (c.fact 2 8), Hx.isRec_ok (c.fact 2 9)⟩,
    f_Recipes_around := Hx.At.ad K (.prop "Recipes" "around"), fd_Recipes_around := fd_Recipes_around, F_Recipes_around := Hx.plain F_Recipes_around,
    p_Recipes_around := (He.ma K (He.ga K "Recipes") "around"), P_Recipes_around := ⟨of_decide_eq_true (c.fact 2 10), of_decide_eq_true (c.fact 2 11), of_decide_eq_true (c.fact 2 12), Hx.isRec_ok (c.fact 2 13)⟩,
    f_Recipes_clean := Hx.At.ad K (.prop "Recipes" "clean"), fd_Recipes_clean := fd_Recipes_clean, F_Recipes_clean := Hx.plain F_Recipes_clean,
    p_Recipes_clean := (He.ma K (He.ga K "Recipes") "clean"), P_Recipes_clean := ⟨of_decide_eq_true (c.fact 2 14), of_decide_eq_true (c.fact 2 15), of_decide_eq_true (c.fact 2 16), Hx.isRec_ok (c.fact 2 17)⟩,
    f_Rules_writing := Hx.At.ad K (.prop "Rules" "writing"), fd_Rules_writing := fd_Rules_writing, F_Rules_writing := Hx.plain F_Rules_writing,
    p_Rules_writing := (He.ma K (He.ga K "Rules") "writing"), P_Rules_writing := ⟨of_decide_eq_true (c.fact 2 18), of_decide_eq_true (c.fact 2 19), of_decide_eq_true (c.fact 2 20), Hx.isRec_ok (c.fact 2 21)⟩,
    f_Rules_bound := Hx.At.ad K (.prop "Rules" "bound"), fd_Rules_bound := fd_Rules_bound, F_Rules_bound := Hx.plain F_Rules_bound,
    p_Rules_bound := (He.ma K (He.ga K "Rules") "bound"), P_Rules_bound := ⟨of_decide_eq_true (c.fact 2 22), of_decide_eq_true (c.fact 2 23), of_decide_eq_true (c.fact 2 24), Hx.isRec_ok (c.fact 2 25)⟩,
    f_Disk_sync := Hx.At.ad K (.meth "Disk" "sync"), fd_Disk_sync := fd_Disk_sync, F_Disk_sync := Hx.plain F_Disk_sync,
    m_Disk_sync := He.meth_ok (c.fact 2 26),
    f__invalid_place := Hx.At.ad K (.glo "_invalid_place"), fd__invalid_place := fd__invalid_place, F__invalid_place := Hx.plain F__invalid_place,
    g__invalid_place := He.glo_ok X G (c.fact 2 27),
    f_Pair___init__ := Hx.At.ad K (.meth "Pair" "__init__"), fd_Pair___init__ := fd_Pair___init__, F_Pair___init__ := F_Pair___init__,
    M_Pair___init__ := He.mkr_ok (c.fact 2 28),
    f_Pair_read := Hx.At.ad K (.meth "Pair" "read"), fd_Pair_read := fd_Pair_read, F_Pair_read := Hx.plain F_Pair_read,
    m_Pair_read := He.meth_ok (c.fact 2 29),
    f_Pair_known := Hx.At.ad K (.prop "Pair" "known"), fd_Pair_known := fd_Pair_known, F_Pair_known := Hx.plain F_Pair_known,
    p_Pair_known := (He.ma K (He.ga K "Pair") "known"), P_Pair_known := ⟨of_decide_eq_true (c.fact 2 30), of_decide_eq_true (c.fact 2 31), of_decide_eq_true (c.fact 2 32), Hx.isRec_ok (c.fact 2 33)⟩,
    f_Pair_hits := Hx.At.ad K (.prop "Pair" "hits"), fd_Pair_hits := fd_Pair_hits, F_Pair_hits := Hx.plain F_Pair_hits,
    p_Pair_hits := (He.ma K (He.ga K "Pair") "hits"), P_Pair_hits := ⟨of_decide_eq_true (c.fact 2 34), of_decide_eq_true (c.fact 2 35), of_decide_eq_true (c.fact 2 36), Hx.isRec_ok (c.fact 2 37)⟩,
    f_Pair_counts := Hx.At.ad K (.prop "Pair" "counts"), fd_Pair_counts := fd_Pair_counts, F_Pair_counts := Hx.plain F_Pair_counts,
    p_Pair_counts := (He.ma K (He.ga K "Pair") "counts"), P_Pair_counts := ⟨of_decide_eq_true (c.fact 2 38), of_decide_eq_true (c.fact 2 39), of_decide_eq_true (c.fact 3 0), Hx.isRec_ok (c.fact 3 1)⟩,
    f_Pair__check_on := Hx.At.ad K (.meth "Pair" "_check_on"), fd_Pair__check_on := fd_Pair__check_on, F_Pair__check_on := Hx.plain F_Pair__check_on,
    m_Pair__check_on := He.meth_ok (c.fact 3 2),
    f_Pair__check_block := Hx.At.ad K (.meth "Pair" "_check_block"), fd_Pair__check_block := fd_Pair__check_block, F_Pair__check_block := Hx.plain F_Pair__check_block,
    m_Pair__check_block := He.meth_ok (c.fact 3 3),
    f_Pair__begin_request := Hx.At.ad K (.meth "Pair" "_begin_request"), fd_Pair__begin_request := fd_Pair__begin_request, F_Pair__begin_request := Hx.plain F_Pair__begin_request,
    m_Pair__begin_request := He.meth_ok (c.fact 3 4),
    f_Pair__take_slot := Hx.At.ad K (.meth "Pair" "_take_slot"), fd_Pair__take_slot := fd_Pair__take_slot, F_Pair__take_slot := Hx.plain F_Pair__take_slot,
    m_Pair__take_slot := He.meth_ok (c.fact 3 5),
    f_Pair__begin_step := Hx.At.ad K (.meth "Pair" "_begin_step"), fd_Pair__begin_step := fd_Pair__begin_step, F_Pair__begin_step := Hx.plain F_Pair__begin_step,
    m_Pair__begin_step := He.meth_ok (c.fact 3 6),
    f_Pair__write_fast := Hx.At.ad K (.meth "Pair" "_write_fast"), fd_Pair__write_fast := fd_Pair__write_fast, F_Pair__write_fast := Hx.plain F_Pair__write_fast,
    m_Pair__write_fast := He.meth_ok (c.fact 3 7),
    f_Pair__write_record := Hx.At.ad K (.meth "Pair" "_write_record"), fd_Pair__write_record := fd_Pair__write_record, F_Pair__write_record := Hx.plain F_Pair__write_record,
    m_Pair__write_record := He.meth_ok (c.fact 3 8),
    f_Pair__put_in_fast := Hx.At.ad K (.meth "Pair" "_put_in_fast"), fd_Pair__put_in_fast := fd_Pair__put_in_fast, F_Pair__put_in_fast := Hx.plain F_Pair__put_in_fast,
    m_Pair__put_in_fast := He.meth_ok (c.fact 3 9),
    f__law_random := Hx.At.ad K (.glo "_law_random"), fd__law_random := fd__law_random, F__law_random := Hx.plain F__law_random,
    g__law_random := He.glo_ok X G (c.fact 3 10),
    f__law_below := Hx.At.ad K (.glo "_law_below"), fd__law_below := fd__law_below, F__law_below := Hx.plain F__law_below,
    g__law_below := He.glo_ok X G (c.fact 3 11),
    z_isinstance := He.free_ok X G (c.fact 3 12),
    z_int := He.free_ok X G (c.fact 3 13),
    z_bool := He.free_ok X G (c.fact 3 14),
    z_str := He.free_ok X G (c.fact 3 15),
    z_list := He.free_ok X G (c.fact 3 16),
    z_tuple := He.free_ok X G (c.fact 3 17),
    z_len := He.free_ok X G (c.fact 3 18),
    z_abs := He.free_ok X G (c.fact 3 19),
    z_range := He.free_ok X G (c.fact 3 20),
    z_enumerate := He.free_ok X G (c.fact 3 21),
    z_max := He.free_ok X G (c.fact 3 22),
    z_min := He.free_ok X G (c.fact 3 23),
    z_sorted := He.free_ok X G (c.fact 3 24),
    z_zip := He.free_ok X G (c.fact 3 25),
    z_sum := He.free_ok X G (c.fact 3 26),
    z_all := He.free_ok X G (c.fact 3 27),
    t_MOST_BLOCKS := t_MOST_BLOCKS, c_MOST_BLOCKS := c_MOST_BLOCKS,
    t_MOST_SLOTS := t_MOST_SLOTS, c_MOST_SLOTS := c_MOST_SLOTS,
    t_MOST_VALUE := t_MOST_VALUE, c_MOST_VALUE := c_MOST_VALUE,
    t_MOST_CELLS := t_MOST_CELLS, c_MOST_CELLS := c_MOST_CELLS,
    t_BLOCK := t_BLOCK, c_BLOCK := c_BLOCK,
    t_VALUE := t_VALUE, c_VALUE := c_VALUE,
    t_TURN := t_TURN, c_TURN := c_TURN,
    t_IS_DIRTY := t_IS_DIRTY, c_IS_DIRTY := c_IS_DIRTY,
    t_MOST_USES := t_MOST_USES, c_MOST_USES := c_MOST_USES,
    t_BOUND_PART := t_BOUND_PART, c_BOUND_PART := c_BOUND_PART,
    t_MOST_BOUND := t_MOST_BOUND, c_MOST_BOUND := c_MOST_BOUND,
    t_MOST_STEPS := t_MOST_STEPS, c_MOST_STEPS := c_MOST_STEPS,
    A_RULE_WORDS_0 := (Hx.itAd K (He.ga K "RULE_WORDS") 0), k_RULE_WORDS_0 := Hx.isTup_ok (c.fact 4 0),
    A_RULE_WORDS_1 := (Hx.itAd K (He.ga K "RULE_WORDS") 1), k_RULE_WORDS_1 := Hx.isTup_ok (c.fact 4 1),
    A_RULE_WORDS_2 := (Hx.itAd K (He.ga K "RULE_WORDS") 2), k_RULE_WORDS_2 := Hx.isTup_ok (c.fact 4 2),
    A_RULE_WORDS := (He.ga K "RULE_WORDS"), k_RULE_WORDS := Hx.isTup_ok (c.fact 4 3),
    g_RULE_WORDS := He.glo_ok X G (c.fact 4 4),
    A_WRITE_STEPS := (He.ga K "WRITE_STEPS"), k_WRITE_STEPS := Hx.isTup_ok (c.fact 4 5),
    g_WRITE_STEPS := He.glo_ok X G (c.fact 4 6),
    A_CLEAN_STEPS := (He.ga K "CLEAN_STEPS"), k_CLEAN_STEPS := Hx.isTup_ok (c.fact 4 7),
    g_CLEAN_STEPS := He.glo_ok X G (c.fact 4 8),
    A_SYNC_STEPS := (He.ga K "SYNC_STEPS"), k_SYNC_STEPS := Hx.isTup_ok (c.fact 4 9),
    g_SYNC_STEPS := He.glo_ok X G (c.fact 4 10),
    A_NO_COUNTS := (He.ga K "NO_COUNTS"), k_NO_COUNTS := Hx.isTup_ok (c.fact 4 11),
    g_NO_COUNTS := He.glo_ok X G (c.fact 4 12) }
  have b := FunD.bindsA (ps := ["_law_script"]) F fun _ _ _ _ _ _ us hl => match us, hl with | [_], _ => rfl
  exact ⟨fd, fun s v => b s [v] rfl, fun base _ _ => ok_law (Hx.plain F) T⟩
end
end Kb
open PySem PySem.W PySem.Calls PyProof.Rows in
set_option maxRecDepth 100000 in
set_option maxHeartbeats 0 in
theorem PySem.Challenge.cw_keepbefore_k95_whole_more_slots_hit_more_holds : PySem.Challenge.rw_keepbefore_k95_whole_more_slots_hit_more.Holds := by
  w_on; o_law
  refine HandSHeadRun.head_any (r := OpenLaw.row PySem.Challenge.rw_keepbefore_k95_whole_more_slots_hit_more) (q := view (OpenLaw.row PySem.Challenge.rw_keepbefore_k95_whole_more_slots_hit_more).prog [52]) (H := Kb.hk) (ob := Hx.ob 6 Kb.hdefs Kb.hex []) (M := 40000) (loose := Kb.hnames) (d := HandSHeadRun.topDef (OpenLaw.row PySem.Challenge.rw_keepbefore_k95_whole_more_slots_hit_more).prog 52) (kwd := []) Hx.ob_eq
    (by kernel_rfl) (fun s => by kernel_rfl) Kb.hrun (by kernel_rfl) (by kernel_rfl) (by kernel_rfl) (by rfl) (by first | assumption | decide +kernel) (by decide +kernel) ⟨rfl, rfl, rfl, rfl, rfl, by decide +kernel⟩ ?hw ?hc
  case hw => w_witness2
  case hc =>
    refine L2.walk_ofE (l := PySem.Challenge.rw_keepbefore_k95_whole_more_slots_hit_more) (n := 63) (k := 16) (x := "_law_script") (CX := L2.CX0) rfl (by decide) (by kernel_rfl) ⟨rfl, by decide, by decide⟩ ?F (fun _ _ _ _ z => z)
    intro w mg fa h Y G hmg0
    obtain ⟨K, KX, c⟩ := Y
    have hmg : mg ("law" : PySem.Str) = some (.ref fa) := by
      have e : (HandSHeadRun.topDef (OpenLaw.row PySem.Challenge.rw_keepbefore_k95_whole_more_slots_hit_more).prog 52).name = ("law" : PySem.Str) := by kernel_rfl
      rw [← e]
      exact hmg0
    obtain ⟨fd, hb, hF⟩ := Kb.all_ok (P := (PySem.Challenge.rw_keepbefore_k95_whole_more_slots_hit_more).prog) (w := w) KX G hmg c
    exact ⟨K, fd, Kb.spLaw K, KX, hb, fun H a ns hl _ hS => ⟨a, ns, rfl, hS, hl, fun _ => rfl⟩, hF⟩
