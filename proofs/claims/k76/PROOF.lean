import PyProof.Rows.All
import Wide.All
import OpenK.AllK
import Wide.FinOn
import HandS.ForMost
import HandS.Defaults
import HandS.Property
import HandS.IsInst
import HandS.Conv
import HandS.Codes
import HandS.MakeKwOnly
import HandS.Strs
import HandS.SetFor
import HandS.GenYield
import HandS.TupAny
import HandS.Zip
import HandS.Walk
import HandS.Wide
import KE.DatumOrd
import HandS.Style
import HandS.TupSets
import HandS.Small
import HandS.More
import HandS.Deep
import HandS.SortRule
import HandS.Iter
import HandS.RaiseMore
import HandS.Nested
import HandS.ExcInit
import HandS.ExcField
import HandS.ExcIs
import HandS.FStr
import HandS.WordsExc
import HandS.TryOnly
import KE.KExcSuper
import KE.KExcIs
import HandS.ExcSuper
import HandS.HotCalls
import HandS.ExcInitHot
import HandS.NestedHot
import HandS.ClsMeth
import HandS.EndTab
import HandS.EndBits
import HandS.StrSplit
import HandS.Strs
import HandS.Deep
import KE.KStateDown
import HandS.Head0
import HandS.Head1
import HandS.Head2
import HandS.HeadEnd
import HandS.HeadHook1
import HandS.HeadHook2
import HandS.HeadHook3
import HandS.HeadHook4
import HandS.HeadWalk
import PySem.Challenge.RW_keepbefore_k76_logs_that_cannot_be
set_option Elab.async false
set_option linter.all false
set_option maxRecDepth 100000
set_option maxHeartbeats 4000000
/-! ### what is looked at behind the top: the defs, the classes, the names -/
namespace Hx
open PySem PySem.Spec PyProof.Rows L2
/-- where a def stands: a name of the top, a method, a property's getter, a class method -/
inductive At where
  | glo (x : Str)
  | meth (C m : Str)
  | prop (C m : Str)
  | clsm (C m : Str)
section
variable {K : PySem.W.Frag} {p C : Addr} {t : String} {m : Str}
def recAd (K : PySem.W.Frag) (p : Addr) (t : String) : Addr := match PySem.W.recIn K p t with
  | some (.ref f :: _) => f
  | _ => 0
def isRec (K : PySem.W.Frag) (p : Addr) (t : String) : Bool := match PySem.W.recIn K p t with
  | some (.ref _ :: _) => true
  | _ => false
theorem isRec_ok (h : isRec K p t = true) : ∃ rest, PySem.W.recIn K p t = some (.ref (recAd K p t) :: rest) := by
  unfold isRec at h
  split at h
  · rename_i f r e
    refine ⟨r, ?_⟩
    unfold recAd
    rw [e]
  · cases h
def clAd (K : PySem.W.Frag) (C : Addr) (m : Str) : Addr := match PySem.W.findCls K (.ref C) (.type "type") m with
  | some (.get _ (.ref p) _ _) => p
  | _ => 0
def isCl (K : PySem.W.Frag) (C : Addr) (m : Str) : Bool := match PySem.W.findCls K (.ref C) (.type "type") m with
  | some (.get (.builtin b) (.ref _) .none (.ref D)) => decide (b = "classmethod.__get__") && decide (D = C)
  | _ => false
theorem isCl_ok (h : isCl K C m = true) : PySem.W.findCls K (.ref C) (.type "type") m = some (.get (.builtin "classmethod.__get__") (.ref (clAd K C m)) .none (.ref C)) := by
  unfold isCl at h
  split at h
  · rename_i b p D e
    obtain ⟨h1, h2⟩ := Bool.and_eq_true_iff.mp h
    have e1 := of_decide_eq_true h1
    have e2 := of_decide_eq_true h2
    subst e1 e2
    unfold clAd
    rw [e]
  · cases h
def At.ad (K : PySem.W.Frag) : At → Addr
  | .glo x => He.ga K x
  | .meth C m => He.ma K (He.ga K C) m
  | .prop C m => recAd K (He.ma K (He.ga K C) m) "property"
  | .clsm C m => recAd K (clAd K (He.ga K C) m) "classmethod"
/-! ### defs -/
abbrev Seen : Type := Option (FuncBody × Scope × Arguments × Str × Str × Addr × Addr)
def seen (K : PySem.W.Frag) (a : Addr) : Seen := match K.lookup a with
  | some o => (match o.data with
    | .func d => some (d.body, d.scope, d.params, d.name, d.qualname, d.globals, d.builtins)
    | _ => none)
  | none => none
structure Df where
  at_ : At
  name : Str
  qual : Str
  st : Stmt
  dfl : List V
  kwd : List (Str × V)
  own : Bool := false
def Df.want (d : Df) : Seen := some (.stmts (defBody d.st), defScope d.st, defArgs d.st, d.name, d.qual, mainGlobals, builtinsNs)
def Df.sound (K : PySem.W.Frag) (d : Df) : Bool := PySem.W.keepIn K (.ref (d.at_.ad K)) && (match K.lookup (d.at_.ad K) with
  | some o => (match o.data with
    | .func u => (d.own || u.closure.isEmpty) && (PySem.W.codeIn K u.code d.qual && (He.dflB K u.defaults d.dfl && He.kwdB K u.kwdefaults d.kwd))
    | _ => false)
  | none => false)
theorem Df.funD {d : Df} (o : d.own = false) (e : seen K (d.at_.ad K) = d.want) (c : d.sound K = true) : ∃ fd, FunD K d.name d.qual (defArgs d.st) (defBody d.st) (defScope d.st) d.dfl d.kwd (d.at_.ad K) fd := by
  obtain ⟨kp, c2⟩ := Bool.and_eq_true_iff.mp c
  unfold seen at e
  cases q : K.lookup (d.at_.ad K) with
  | none =>
    rw [q] at e
    cases e
  | some o =>
    obtain ⟨oc, od, dt, osl⟩ := o
    rw [q] at c2 e
    cases dt with
    | func u =>
      obtain ⟨n1, n2, n3, n4, n5, n6, n7, n8, n9, n10, n11, n12, n13, n14, n15⟩ := u
      have e2 : (some (n4, n5, n3, n1, n2, n6, n15) : Seen) = some (.stmts (defBody d.st), defScope d.st, defArgs d.st, d.name, d.qual, mainGlobals, builtinsNs) := e
      simp only [Option.some.injEq, Prod.mk.injEq] at e2
      obtain ⟨h4, h5, h3, h1, h2, h6, h8⟩ := e2
      have c3 : ((d.own || n7.isEmpty) && (PySem.W.codeIn K n13 d.qual && (He.dflB K n8 d.dfl && He.kwdB K n9 d.kwd))) = true := c2
      obtain ⟨k0, c4⟩ := Bool.and_eq_true_iff.mp c3
      rw [o, Bool.false_or] at k0
      have h7 := List.isEmpty_iff.mp k0
      subst h1 h2 h3 h4 h5 h6 h7 h8
      obtain ⟨k1, k2⟩ := Bool.and_eq_true_iff.mp c4
      obtain ⟨k3, k4⟩ := Bool.and_eq_true_iff.mp k2
      exact ⟨_, ⟨oc, od, n8, n9, n10, n11, n12, n13, n14, osl, rfl, q, k1, He.dflB_ok k3, He.kwdB_ok k4⟩, kp⟩
    | _ => cases e
theorem plain {x qual : Str} {st : Stmt} {f : Addr} {fd : FuncData} (F : FunD K x qual (defArgs st) (defBody st) (defScope st) [] [] f fd) : Fun K x qual st f fd := by
  obtain ⟨oc, od, dV, kV, doc, pm, an, cdv, ct, osl, e, lk, hcd, hd, hk⟩ := F.ex
  rcases hd with ⟨_, rfl⟩ | ⟨h, _⟩
  · exact ⟨⟨oc, od, kV, doc, pm, an, cdv, ct, osl, e, lk, hcd⟩, F.kp⟩
  · exact absurd rfl h
/-! ### written tuples -/
def itAd (K : PySem.W.Frag) (a : Addr) (i : Nat) : Addr := match K.lookup a with
  | some o => (match o.data with
    | .seq its _ => (match its.toList[i]? with
      | some (.ref b) => b
      | _ => 0)
    | _ => 0)
  | none => 0
def isTup (K : PySem.W.Frag) (a : Addr) (vs : List V) : Bool := match K.lookup a with
  | some ⟨.type c, _, .seq its _, _⟩ => (c == "tuple" && its.size.ble 1000) && He.relAll vs its.toList
  | _ => false
theorem isTup_ok {a : Addr} {vs : List V} (h : isTup K a vs = true) (H : Hp) : SqT K H a vs := by
  unfold isTup at h
  split at h
  · rename_i c od its n sl q
    obtain ⟨h1, h2⟩ := Bool.and_eq_true_iff.mp h
    obtain ⟨h3, h4⟩ := Bool.and_eq_true_iff.mp h1
    have e := eq_of_beq h3
    subst e
    exact .inr ⟨_, its, n, q, rfl, rfl, Nat.le_trans (Nat.le_of_ble_eq_true h4) (by decide), He.relAll_ok h2⟩
  · cases h
/-! ### code objects -/
def cdAd (K : PySem.W.Frag) (a : Addr) : Addr := match K.lookup a with
  | some o => (match o.data with
    | .func u => (match u.code with
      | .ref c => c
      | _ => 0)
    | _ => 0)
  | none => 0
/-! ### the part of the heap that is looked at: what the names reach, but not into code objects -/
def isCode (o : Obj) : Bool := match o.cls with
  | .type n => n == "code"
  | _ => false
def more (g : Addr → Option Obj) (as : List Addr) : List Addr := as.flatMap fun a => match g a with
  | some o => bif isCode o then [] else He.refsD o
  | none => []
/-- what is new of these, each once -/
def fresh : List Addr → List Addr → List Addr → List Addr
  | _, [], acc => acc.reverse
  | old, a :: r, acc => bif old.elem a then fresh old r acc else bif acc.elem a then fresh old r acc else fresh old r (a :: acc)
/-- old: what was found; as: what was found last -/
def reach (g : Addr → Option Obj) : Nat → List Addr → List Addr → List Addr
  | 0, old, _ => old
  | n + 1, old, as => match fresh old (more g as) [] with
    | [] => old
    | a :: r => reach g n (old ++ a :: r) (a :: r)
/-! ### the Hook -/
abbrev Al : Type := Bool × List Seen
def looks (n : Nat) (dfs : List Df) (ex : PySem.W.Frag → Bool) (tf : List At) (g : Addr → Option Obj) (K : PySem.W.Frag) : Al :=
  ((ex K && dfs.all (Df.sound K)) && tf.all fun a => PySem.W.codeHdIn K (cdAd K (a.ad K)) (He.tabOf K (cdAd K (a.ad K))) && (match g (He.tabOf K (cdAd K (a.ad K))) with
    | some o => He.emptyTab o
    | none => false), dfs.map fun d => seen K (d.at_.ad K))
structure Says (dfs : List Df) (ex : PySem.W.Frag → Bool) (tf : List At) (h : Heap) (K : PySem.W.Frag) : Prop where
  ex : ex K = true
  defs : ∀ d ∈ dfs, seen K (d.at_.ad K) = d.want ∧ d.sound K = true
  head : ∀ a ∈ tf, PySem.W.codeHdIn K (cdAd K (a.ad K)) (He.tabOf K (cdAd K (a.ad K))) = true
  out : ∀ a ∈ tf, K.lookup (He.tabOf K (cdAd K (a.ad K))) = none
  tab : ∀ a ∈ tf, h.get? (He.tabOf K (cdAd K (a.ad K))) = some { cls := .none, data := .fields #[] }
def hook (n : Nat) (dfs : List Df) (ex : PySem.W.Frag → Bool) (tf : List At) : PySem.W.Hook where
  α := Al
  obs := fun s => looks n dfs ex tf s.heap.get? (He.frT s.heap.get? (reach s.heap.get? n [mainGlobals, cStatics] [mainGlobals]))
  val := fun _ => (true, dfs.map Df.want)
  says := fun _ h => ∃ K : PySem.W.Frag, K.In h ∧ Says dfs ex tf h K
  of := fun _ s e => ⟨_, He.frT_in, by
    obtain ⟨K, hK⟩ : ∃ K, K = He.frT s.heap.get? (reach s.heap.get? n [mainGlobals, cStatics] [mainGlobals]) := ⟨_, rfl⟩
    have hn : ∀ {a o}, s.heap.get? a = some o → He.emptyTab o = true → K.lookup a = none := fun a b => by
      rw [hK]
      exact He.frT_none a b
    rw [← hK] at e ⊢
    obtain ⟨e1, e2⟩ := Prod.mk.inj e
    obtain ⟨h1, h2⟩ := Bool.and_eq_true_iff.mp e1
    obtain ⟨h3, h4⟩ := Bool.and_eq_true_iff.mp h1
    have key : ∀ a ∈ tf, PySem.W.codeHdIn K (cdAd K (a.ad K)) (He.tabOf K (cdAd K (a.ad K))) = true ∧ ∃ o, s.heap.get? (He.tabOf K (cdAd K (a.ad K))) = some o ∧ He.emptyTab o = true := fun a ha => by
      obtain ⟨h5, h6⟩ := Bool.and_eq_true_iff.mp (List.all_eq_true.mp h2 a ha)
      refine ⟨h5, ?_⟩
      split at h6
      · rename_i o q
        exact ⟨o, q, h6⟩
      · cases h6
    refine ⟨h3, fun d hd => ?_, fun a ha => (key a ha).1, fun a ha => ?_, fun a ha => ?_⟩
    · obtain ⟨i, hi, ei⟩ := List.getElem_of_mem hd
      have e3 : (dfs.map fun d => seen K (d.at_.ad K))[i]? = (dfs.map Df.want)[i]? := by rw [e2]
      rw [List.getElem?_map, List.getElem?_map, List.getElem?_eq_getElem hi, ei] at e3
      exact ⟨Option.some.inj e3, List.all_eq_true.mp h4 d hd⟩
    · obtain ⟨_, o, q, z⟩ := key a ha
      exact hn q z
    · obtain ⟨_, o, q, z⟩ := key a ha
      rw [q, He.emptyTab_eq z]⟩
  keeps := fun _ _ _ ⟨K, hK, c⟩ k => ⟨K, PySem.W.Frag.In.keeps hK k, ⟨c.ex, c.defs, c.head, c.out, fun a ha => k _ _ (c.tab a ha)⟩⟩
def ob (n : Nat) (dfs : List Df) (ex : PySem.W.Frag → Bool) (tf : List At) (s : PySem.W.SharedT) : Al := looks n dfs ex tf (HandSHeadRun.getT s) (He.frT (HandSHeadRun.getT s) (reach (HandSHeadRun.getT s) n [mainGlobals, cStatics] [mainGlobals]))
theorem ob_eq {n : Nat} {dfs : List Df} {ex : PySem.W.Frag → Bool} {tf : List At} (s : PySem.W.SharedT) : ob n dfs ex tf s = (hook n dfs ex tf).obs s.abs := by
  have e : HandSHeadRun.getT s = s.abs.heap.get? := funext (HandSHeadRun.getT_eq s)
  unfold ob
  rw [e]
  rfl
theorem Says.fact {dfs : List Df} {exs : PySem.W.Frag → List (List Bool)} {tf : List At} {h : Heap} (c : Says dfs (fun K => (exs K).all fun l => l.all id) tf h K) (i j : Nat) {l : List Bool} {b : Bool} (hl : (exs K)[i]? = some l := by rfl) (hb : l[j]? = some b := by rfl) : b = true :=
  List.all_eq_true.mp (List.all_eq_true.mp c.ex l (List.mem_of_getElem? hl)) b (List.mem_of_getElem? hb)
theorem Says.def_ {dfs : List Df} {ex : PySem.W.Frag → Bool} {tf : List At} {h : Heap} (c : Says dfs ex tf h K) (i : Nat) {d : Df} (hd : dfs[i]? = some d := by rfl) (ho : d.own = false := by rfl) : ∃ fd, FunD K d.name d.qual (defArgs d.st) (defBody d.st) (defScope d.st) d.dfl d.kwd (d.at_.ad K) fd := (c.defs d (List.mem_of_getElem? hd)).elim fun a b => Df.funD ho a b
theorem Says.raw {dfs : List Df} {ex : PySem.W.Frag → Bool} {tf : List At} {h : Heap} (c : Says dfs ex tf h K) (i : Nat) {d : Df} (hd : dfs[i]? = some d := by rfl) : seen K (d.at_.ad K) = d.want ∧ d.sound K = true := c.defs d (List.mem_of_getElem? hd)
/-- a def that makes lambdas: its code object -/
theorem lamF {x qual : Str} {st : Stmt} {f : Addr} {fd : FuncData} (F : FunD K x qual (defArgs st) (defBody st) (defScope st) [] [] f fd) :
    ∃ (oc : Value) (od : Option Addr) (kV doc pm : Value) (an : Option Addr) (c : Addr) (ct : Value) (osl : Array (Option Value)), fd = PySem.W.fnOf x qual (defArgs st) (defBody st) (defScope st) .none kV doc pm an (.ref c) ct ∧ K.lookup f = some ⟨oc, od, .func fd, osl⟩ ∧ PySem.W.codeIn K (.ref c) qual = true ∧ cdAd K f = c := by
  obtain ⟨oc, od, dV, kV, doc, pm, an, cdv, ct, osl, rfl, lk, hcd, hd, hk⟩ := F.ex
  obtain ⟨c, rfl⟩ := He.codeIn_ref hcd
  rcases hd with ⟨_, rfl⟩ | ⟨h, _⟩
  · refine ⟨oc, od, kV, doc, pm, an, c, ct, osl, rfl, lk, hcd, ?_⟩
    unfold cdAd
    rw [lk]
  · exact absurd rfl h
end
end Hx
/-! ### what is looked at of exceptions -/
namespace Hx
open PySem PySem.Spec PyProof.Rows L2
section
variable {K : PySem.W.Frag}
/-- an exception's own init: its cell of the class, its file -/
def isInit (K : PySem.W.Frag) (f C : Addr) (file : Str) : Bool := match K.lookup f with
  | some o => (match o.data with
    | .func u => (match u.closure, u.code with
      | [(n, cc)], .ref c => (n == "__class__" && (match K.lookup cc with
        | some ⟨_, _, .cell (some (.ref D)), _⟩ => D == C
        | _ => false)) && (match K.lookup c with
        | some ⟨_, _, .fields vs, _⟩ => (match (vs[2]? : Option Value) with
          | some (.str z _) => z == file
          | _ => false)
        | _ => false)
      | _, _ => false)
    | _ => false)
  | none => false
def isExc (K : PySem.W.Frag) (C : Addr) : Bool := match K.lookup C with
  | some ⟨.type t, _, .cls cd, sl⟩ => t == "type" && (match cd.mro, sl.toList with
    | .ref B :: bm, [_, _, _, _, some (.builtin n), _] => (B == C && PySem.HandSPX.refsVE bm) && ((cd.hasDict && !cd.hasDel) && n == "ValueError.__new__")
    | _, _ => false)
  | _ => false
theorem isExc_ok {C : Addr} (h : isExc K C = true) : ∃ nm q N bs bm sn sub ab col dd k0 k1 k2 k3 k5, K.lookup C = some (excClassObj nm q C N bs bm true sn sub ab col dd k0 k1 k2 k3 k5 "ValueError.__new__") ∧ PySem.HandSPX.refsVE bm = true := by
  unfold isExc at h
  split at h
  · rename_i t dd cd sl e
    obtain ⟨h1, h2⟩ := Bool.and_eq_true_iff.mp h
    have et := eq_of_beq h1
    subst et
    split at h2
    · rename_i B bm k0 k1 k2 k3 n k5 em es
      obtain ⟨h3, h4⟩ := Bool.and_eq_true_iff.mp h2
      obtain ⟨h5, h6⟩ := Bool.and_eq_true_iff.mp h3
      obtain ⟨h7, h8⟩ := Bool.and_eq_true_iff.mp h4
      obtain ⟨h9, h10⟩ := Bool.and_eq_true_iff.mp h7
      have e1 := eq_of_beq h5
      have e2 := eq_of_beq h8
      subst e1 e2
      obtain ⟨nm, bs, mro, ns, q, hd, sn, sub, ab, col, hdel⟩ := cd
      simp only at em h9 h10
      subst em h9
      have h11 : hdel = false := by
        cases hdel
        · rfl
        · cases h10
      subst h11
      obtain ⟨l⟩ := sl
      simp only at es
      subst es
      exact ⟨nm, q, ns, bs, bm, sn, sub, ab, col, dd, k0, k1, k2, k3, k5, e, h6⟩
    · cases h2
  · cases h
end
end Hx
namespace Kb
open PySem L2
/-! ### heaps and frames -/
/-- outside S all that was tracked is as it was -/
def Fr (S : List Addr) (H H' : Hp) : Prop := ∀ b o, H b = some o → b ∉ S → H' b = some o
theorem Fr.refl (S : List Addr) (H : Hp) : Fr S H H := fun _ _ h _ => h
theorem Fr.trans {S : List Addr} {H H1 H2 : Hp} (a : Fr S H H1) (b : Fr S H1 H2) : Fr S H H2 := fun c o h n => b c o (a c o h n) n
theorem Fr.mono {S T : List Addr} {H H' : Hp} (a : Fr S H H') (h : ∀ b ∈ S, b ∈ T) : Fr T H H' := fun b o e n => a b o e (fun z => n (h b z))
theorem Fr.put {S : List Addr} {H : Hp} {a : Addr} {o : HO} (h : a ∈ S) : Fr S H (upd H a o) := fun b u e n => by
  rw [upd_ne (fun z => n (by rw [z]; exact h))]
  exact e
theorem Fr.new {S : List Addr} {H : Hp} {p : Addr} {o : HO} (h : H p = none) : Fr S H (upd H p o) := fun b u e _ => by
  rw [upd_ne (ne_of_none e h)]
  exact e
theorem Fr.nil_of {S : List Addr} {H H' : Hp} (a : Fr [] H H') : Fr S H H' := a.mono (fun _ h => by cases h)
theorem Fr.at_ {S : List Addr} {H H' : Hp} {b : Addr} {o : HO} (f : Fr S H H') (e : H b = some o) (n : b ∉ S) : H' b = some o := f b o e n
theorem fresh_out {H : Hp} {b : Addr} {o : HO} {p : Addr} (e : H b = some o) (n : H p = none) : b ≠ p := ne_of_none e n
/-- S and T share nothing -/
def Sep (S T : List Addr) : Prop := ∀ b ∈ S, b ∉ T
theorem Sep.symm {S T : List Addr} (h : Sep S T) : Sep T S := fun b hb hs => h b hs hb
/-- what owns S' came of S or is new, and so is apart from what stood in H -/
theorem Sep.grow {H : Hp} {S S' T : List Addr} (h : Sep S T) (g : ∀ b ∈ S', b ∈ S ∨ H b = none) (t : ∀ b ∈ T, ∃ o, H b = some o) : Sep S' T := fun b hb ht => by
  rcases g b hb with z | z
  · exact h b z ht
  · obtain ⟨o, e⟩ := t b ht
    rw [z] at e
    cases e
theorem vlen {α β : Type} {xs : List α} {f : α → β} : (xs.map f).length = xs.length := List.length_map f
theorem sz_le {n : Nat} (h : n ≤ 100000) : n ≤ sizeLine := Nat.le_trans h (by decide)
theorem sz_lt {n : Nat} (h : n < 100000) : n < sizeLine := Nat.lt_of_lt_of_le h (by decide)
theorem ix_at {n : Nat} (j : Nat) (h : j < n) : ixN n (j : Int) = some j := by
  unfold ixN
  rw [if_pos (Int.natCast_nonneg j), if_pos (by omega)]
  rfl
theorem free_upd {H : Hp} {a p : Addr} {o : HO} (h : upd H a o p = none) : H p = none ∧ p ≠ a := by
  by_cases e : p = a
  · rw [e, upd_same] at h
    cases h
  · rw [upd_ne e] at h
    exact ⟨h, e⟩
theorem int_at {ns : List Int} {i : Nat} {x : V} (h : (ns.map V.int)[i]? = some x) : ∃ u, x = V.int u ∧ ns[i]? = some u := by
  rw [List.getElem?_map] at h
  cases e : ns[i]? with
  | none =>
    rw [e] at h
    cases h
  | some u =>
    rw [e] at h
    exact ⟨u, (Option.some.inj h).symm, rfl⟩
theorem lt_of_at {α : Type} {xs : List α} {i : Nat} {x : α} (h : xs[i]? = some x) : i < xs.length := (List.getElem?_eq_some_iff.mp h).1
theorem Fr.seq {K : PySem.W.Frag} {S : List Addr} {H H' : Hp} {a : Addr} {xs : List V} (f : Fr S H H') (n : a ∉ S) (h : SqL K H a xs) : SqL K H' a xs := by
  rcases h with (h | ⟨o, h⟩) | h
  · exact .inl (.inl (f _ _ h n))
  · exact .inl (.inr ⟨o, f _ _ h n⟩)
  · exact .inr h
theorem Fr.tup {K : PySem.W.Frag} {S : List Addr} {H H' : Hp} {a : Addr} {xs : List V} (f : Fr S H H') (n : a ∉ S) (h : SqT K H a xs) : SqT K H' a xs := by
  rcases h with (h | ⟨o, h⟩) | h
  · exact .inl (.inl (f _ _ h n))
  · exact .inl (.inr ⟨o, f _ _ h n⟩)
  · exact .inr h
/-! ### lambdas as values: with no parameter, or one that falls back on a number -/
section
open PySem.Spec PySem.Calls PySem.W PyProof.Rows LamX NdefX
/-- the words of a lambda, the cells that it captured, its code object, the tuple of what its parameter falls back on -/
structure LF where
  qual : Str
  params : Arguments
  body : Expr
  scope : Scope
  cl : List (Str × Addr)
  c : Addr
  df : Option Addr
def dfV : Option Addr → Value
  | none => .none
  | some t => .ref t
abbrev LF.fd (F : LF) (pm ct : Value) : FuncData :=
  { name := "<lambda>", qualname := F.qual, params := F.params, body := .expr F.body, scope := F.scope, globals := mainGlobals, closure := F.cl, defaults := dfV F.df, kwdefaults := .none, doc := .none, pyModule := pm, annotations := none, code := .ref F.c, closureTuple := ct, builtins := builtinsNs }
def LamO (f : Addr) (F : LF) : HO := .ext fun h => ∃ (od : Option Addr) (sl : Array (Option Value)) (pm ct : Value), h.get? f = some (⟨.type "function", od, .func (F.fd pm ct), sl⟩ : Obj)
theorem LamO.ne {f : Addr} {F : LF} (ps : Array Value) : LamO f F ≠ .tbl ps := fun z => by
  unfold LamO at z
  cases z
theorem LamO.at_ {P : Program} {w : World} {H : Hp} {h : Heap} {f : Addr} {F : LF} (hok : HOk P w H h) (e : H f = some (LamO f F)) : ∃ (od : Option Addr) (sl : Array (Option Value)) (pm ct : Value), h.get? f = some (⟨.type "function", od, .func (F.fd pm ct), sl⟩ : Obj) := (hok f _ e).1
/-- all of it stands -/
structure Lv (f : Addr) (F : LF) (H : Hp) : Prop where
  fn : H f = some (LamO f F)
  co : H F.c = some (CodeO F.c F.qual)
  df : ∀ t, F.df = some t → H t = some (.tup [.int 0])
theorem Lv.keep {f : Addr} {F : LF} {H H' : Hp} (L : Lv f F H) (e : ∀ b o, H b = some o → (∀ xs, o ≠ .lst xs) → (∀ ps, o ≠ .tbl ps) → (∀ C dx fs, o ≠ .ins C dx fs) → H' b = some o) : Lv f F H' :=
  ⟨e _ _ L.fn (fun _ z => by unfold LamO at z; cases z) (fun _ => LamO.ne _) (fun _ _ _ z => by unfold LamO at z; cases z), e _ _ L.co (fun _ z => by unfold CodeO at z; cases z) (fun _ => codeO_ne _) (fun _ _ _ z => by unfold CodeO at z; cases z),
    fun t h => e _ _ (L.df t h) (fun _ z => by cases z) (fun _ z => by cases z) (fun _ _ _ z => by cases z)⟩
section
variable {M : Model} {A : Around} {E : Value → Shared → Prop} {s : Shared} {q : Str} {params : Arguments} {body : Expr} {scope : Scope} {env : Env} {c P : Addr} {ps : Array Value} {pos : Pos} {ln : Nat} {mg : Str → Option Value} {clos : List (Str × Addr)} {Q : Value → Shared → Prop} {d : Option Addr}
theorem lam_tail (hcl : closureFor scope env = pure clos) (hge : env.globals = mainGlobals) (hg : s.heap.Ns mainGlobals mg) (hcode : env.code = .ref c) (C : CodeHd s.heap c P) (hP : s.heap.get? P = some { cls := .none, data := .fields ps }) (ht : TriplesOk ps.toList) (hgP : mainGlobals ≠ P) (hb : s.heap.BuiltinsAt mg P)
    (hit : ∀ cv, codeAmong pos ps.toList = some cv → ∀ (ct : Value) (h' : Heap) (tk : Tok) (fd : FuncData), (∀ b o, s.heap.get? b = some o → h'.get? b = some o) → s.heap.objs.size ≤ h'.objs.size →
      fd = { name := "<lambda>", qualname := q, params := params, body := .expr body, scope := scope, globals := mainGlobals, closure := clos, defaults := dfV d, kwdefaults := .none, doc := .none, pyModule := (mg "__name__").getD .none, annotations := none, code := cv, closureTuple := ct, builtins := builtinsNs } →
      Q (.ref h'.objs.size) { s with heap := h'.push { cls := .type "function", data := .func fd }, toks := tk })
    (new : codeAmong pos ps.toList = none → ∀ (c' : Addr) (ct : Value) (h' : Heap) (tk : Tok) (fd : FuncData), Heap.ExtBut P s.heap h' → s.heap.objs.size ≤ c' → c' < h'.objs.size → h'.CodeRec (.ref c') q → h'.get? P = some { cls := .none, data := .fields (ps ++ #[rawInt pos.line, rawInt pos.col, .ref c']) } →
      fd = { name := "<lambda>", qualname := q, params := params, body := .expr body, scope := scope, globals := mainGlobals, closure := clos, defaults := dfV d, kwdefaults := .none, doc := .none, pyModule := (mg "__name__").getD .none, annotations := none, code := .ref c', closureTuple := ct, builtins := builtinsNs } →
      Q (.ref h'.objs.size) { s with heap := h'.push { cls := .type "function", data := .func fd }, toks := tk }) :
    wpAny M A (makeTail "<lambda>" q params (.expr body) scope env (dfV d) .none none pos ln) Q E s := by
  obtain ⟨bm, ob, hbm, hne0, _, hneP, hbo, hcls, hdict, hdata⟩ := hb
  have up : ∀ (o : Obj) b u, s.heap.get? b = some u → (s.heap.push o).get? b = some u := fun o b u e => Heap.get?_push_of_some o e
  unfold makeTail
  rw [hcl, hge]
  apply wpAny_bind
  apply wpAny_pure
  cases hc : codeAmong pos ps.toList with
  | some cv =>
    by_cases hk : clos.isEmpty = true
    · simp only [hk, if_true]
      apply wpAny_bind; apply wpAny_pure
      apply wpAny_bind; apply wpAny_functionCode_hit hcode (C.code hP ht) hc
      apply wpAny_bind; apply wpAny_builtinsFor hg hbm hne0 hbo hcls hdict hdata
      apply wpAny_bind; apply wpAny_nsGet hg
      apply wpAny_bind; apply wpAny_pure
      exact wpAny_newObj_type (hit cv hc _ s.heap s.toks _ (fun _ _ e => e) (Nat.le_refl _) rfl) (by size_fits)
    · simp only [Bool.not_eq_true] at hk
      simp only [hk, Bool.false_eq_true, if_false]
      apply wpAny_bind; apply wpAny_newTextTuple
      apply wpAny_bind; apply wpAny_functionCode_hit hcode ((C.keeps (up _)).code (up _ _ _ hP) ht) hc
      apply wpAny_bind; apply wpAny_builtinsFor (hg.push _) hbm hne0 (up _ _ _ hbo) hcls hdict hdata
      apply wpAny_bind; apply wpAny_nsGet (hg.push _)
      apply wpAny_bind; apply wpAny_pure
      exact wpAny_newObj_type (hit cv hc _ _ s.toks _ (up _) (by rw [Heap.size_push]; exact Nat.le_succ _) rfl) (by size_fits)
  | none =>
    by_cases hk : clos.isEmpty = true
    · simp only [hk, if_true]
      apply wpAny_bind; apply wpAny_pure
      apply wpAny_bind
      refine wpAny_functionCodeX hcode (C.code hP ht) (C.tab hP) hc fun c' h' tk hx l1 l2 _ hrec htb _ => ?_
      apply wpAny_bind; apply wpAny_builtinsFor (hg.extBut hx hgP) hbm hne0 (hx _ _ hneP hbo) hcls hdict hdata
      apply wpAny_bind; apply wpAny_nsGet (hg.extBut hx hgP)
      apply wpAny_bind; apply wpAny_pure
      exact wpAny_newObj_type (new hc c' _ h' tk _ hx l1 l2 hrec htb.2 rfl) (by size_fits)
    · simp only [Bool.not_eq_true] at hk
      simp only [hk, Bool.false_eq_true, if_false]
      apply wpAny_bind; apply wpAny_newTextTuple
      apply wpAny_bind
      refine wpAny_functionCodeX hcode ((C.keeps (up _)).code (up _ _ _ hP) ht) ((C.keeps (up _)).tab (up _ _ _ hP)) hc fun c' h' tk hx l1 l2 _ hrec htb _ => ?_
      have hx' : Heap.ExtBut P s.heap h' := fun b o hb e => hx b o hb (up _ _ _ e)
      apply wpAny_bind; apply wpAny_builtinsFor ((hg.push _).extBut hx hgP) hbm hne0 (hx' _ _ hneP hbo) hcls hdict hdata
      apply wpAny_bind; apply wpAny_nsGet ((hg.push _).extBut hx hgP)
      apply wpAny_bind; apply wpAny_pure
      exact wpAny_newObj_type (new hc c' _ h' tk _ hx' (Nat.le_trans (by rw [Heap.size_push]; exact Nat.le_succ _) l1) l2 hrec htb.2 rfl) (by size_fits)
end
end
section
open PySem.Spec PySem.Calls PySem.W PyProof.Rows LamX NdefX
section
variable {X : Cx} {pins : List (Addr × Obj)} {σ : L2.St} {H : Hp} {s : Shared}
theorem inv_lam {F : LF} {o : Obj} {tk : Nat} {pm ct : Value} (I : Inv X pins σ H s) (ho : o = { cls := .type "function", data := .func (F.fd pm ct) }) :
    Inv X pins σ (upd H s.heap.objs.size (LamO s.heap.objs.size F)) { s with heap := s.heap.push o, toks := tk } := by
  cases ho
  have e : (s.heap.push ({ cls := .type "function", data := .func (F.fd pm ct) } : Obj)).get? s.heap.objs.size = some ({ cls := .type "function", data := .func (F.fd pm ct) } : Obj) := Heap.get?_push_size _ rfl
  exact I.laid (a := s.heap.objs.size) (fun b u z => Heap.get?_push_of_some _ z) (Nat.le_refl _) ⟨⟨_, _, pm, ct, e⟩, ⟨_, e⟩, fun h1 h2 ⟨od, sl, p, t, z⟩ st => ⟨od, sl, p, t, st _ z⟩⟩
/-- the making of the function's object, the fallback tuple (if any) laid before -/
theorem lam_make {T : List NTab} {nm : Nat → Nat → Str} {c P : Addr} {params : Arguments} {body : Expr} {scope : Scope} {pos : Pos} {d : Option Addr} {ln : Nat} {E : Value → Shared → Prop} {Q : Value → Shared → Prop} (I : Inv X pins σ H s) (TB : TabB X.base X.mg c P) (hcode : X.env.code = .ref c)
    (hm : (P, nm) ∈ T) (hn : nm pos.line pos.col = X.env.qual ++ "<lambda>") (hu : ∀ p ∈ T, p.1 = P → p.2 = nm) (hT : TabsN T H) (hfree : ∀ y ∈ scope.names, y.2 = .free → ∃ c, X.env.cells.lookup y.1 = some c) (hd : ∀ t, d = some t → H t = some (.tup [.int 0]))
    (h : ∀ (f : Addr) (F : LF) (H1 : Hp) (s' : Shared), F.qual = X.env.qual ++ "<lambda>" → F.params = params → F.body = body → F.scope = scope → F.cl = cloFrom X.env.cells scope.names [] → F.df = d → Inv X pins σ H1 s' → ExtN H H1 → TabsN T H1 → H f = none → Lv f F H1 → Q (.ref f) s') :
    wpAny (model X.prog X.w) X.A (makeTail "<lambda>" (X.env.qual ++ "<lambda>") params (.expr body) scope X.env (dfV d) .none none pos ln) Q E s := by
  obtain ⟨ps, hP, ht, ha⟩ := (show TabN H P nm from hT _ hm)
  have hP' : s.heap.get? P = some { cls := .none, data := .fields ps } := I.hok P _ hP
  refine lam_tail (c := c) (P := P) (ps := ps) (mg := X.mg) (closure_ok hfree) I.ok.glob (I.mod.glob.keeps I.bk) hcode (TB.code.keeps I.bk) hP' ht TB.gP (TB.bm.keeps I.bk) (fun cv hc ct h' tk fd kp hz efd => ?_) fun hc c' ct h' tk fd hx l1 l2 hrec htb efd => ?_
  · obtain ⟨c', rfl, hco⟩ := ha pos cv hc
    rw [hn] at hco
    have I1 : Inv X pins σ H { s with heap := h', toks := tk } := I.kept kp
    have nF : H h'.objs.size = none := I1.hok.fresh (Nat.le_refl _)
    have I2 := inv_lam (F := ⟨X.env.qual ++ "<lambda>", params, body, scope, cloFrom X.env.cells scope.names [], c', d⟩) (o := { cls := .type "function", data := .func fd }) (tk := tk) (pm := (X.mg "__name__").getD .none) (ct := ct) I1 (by rw [efd])
    refine h h'.objs.size _ _ _ rfl rfl rfl rfl rfl rfl I2 (fun b o e n => (upd_ne (ne_of_none e nF)).trans e) (hT.ext fun b o e => (upd_ne (ne_of_none e nF)).trans e) nF ⟨upd_same, (upd_ne (ne_of_none hco nF)).trans hco, fun t et => (upd_ne (ne_of_none (hd t et) nF)).trans (hd t et)⟩
  · obtain ⟨c2, oc, vs, t, e2, hoc, hdt, hv⟩ := hrec
    cases e2
    have nC : H c' = none := I.hok.fresh l1
    have I1 := inv_table (t' := tk) (more := #[rawInt pos.line, rawInt pos.col, .ref c']) (h' := h') I hP (fun b o hb e => hx b o hb e) htb l1 ⟨oc, vs, t, hoc, hdt, hv⟩
    have hE : ExtN H (upd (upd H P (.tbl (ps ++ #[rawInt pos.line, rawInt pos.col, .ref c']))) c' (CodeO c' (X.env.qual ++ "<lambda>"))) := fun b o e n => by
      have nb : b ≠ P := fun z => n ps (Option.some.inj (e.symm.trans (by rw [z]; exact hP)))
      rw [upd_ne (ne_of_none e nC), upd_ne nb]
      exact e
    have eL : (ps ++ #[rawInt pos.line, rawInt pos.col, .ref c']).toList = ps.toList ++ [rawInt pos.line, rawInt pos.col, .ref c'] := by simp
    have T1 : TabsN T (upd (upd H P (.tbl (ps ++ #[rawInt pos.line, rawInt pos.col, .ref c']))) c' (CodeO c' (X.env.qual ++ "<lambda>"))) := fun p hp => by
      by_cases hb : p.1 = P
      · rw [hu p hp hb, hb]
        refine ⟨_, (upd_ne (ne_of_none hP nC)).trans upd_same, by rw [eL]; exact PySem.TriplesOk_snoc _ _ _ _ ht, fun p' cv hcv => ?_⟩
        rw [eL] at hcv
        rcases among_app2 _ ht hcv with z | ⟨z, z1, z2⟩
        · obtain ⟨c0, e1, e2⟩ := ha p' cv z
          exact ⟨c0, e1, hE _ _ e2 (codeO_ne)⟩
        · exact ⟨c', z, by rw [← z1, ← z2, hn]; exact upd_same⟩
      · obtain ⟨ps', a1, a2, a3⟩ := hT p hp
        refine ⟨ps', (upd_ne (ne_of_none a1 nC)).trans ((upd_ne hb).trans a1), a2, fun p' cv hcv => ?_⟩
        obtain ⟨c0, e1, e2⟩ := a3 p' cv hcv
        exact ⟨c0, e1, hE _ _ e2 (codeO_ne)⟩
    have nF := I1.hok.fresh (Nat.le_refl _)
    have I2 := inv_lam (F := ⟨X.env.qual ++ "<lambda>", params, body, scope, cloFrom X.env.cells scope.names [], c', d⟩) (o := { cls := .type "function", data := .func fd }) (tk := tk) (pm := (X.mg "__name__").getD .none) (ct := ct) I1 (by rw [efd])
    refine h h'.objs.size _ _ _ rfl rfl rfl rfl rfl rfl I2 (fun b o e n => (upd_ne (ne_of_none (hE b o e n) nF)).trans (hE b o e n)) (T1.ext fun b o e => (upd_ne (ne_of_none e nF)).trans e) (I.hok.fresh (Nat.le_trans l1 (Nat.le_of_lt l2))) ⟨upd_same, (upd_ne (Nat.ne_of_lt l2)).trans upd_same, fun t et => ?_⟩
    have e0 := hE _ _ (hd t et) (fun _ z => by cases z)
    exact (upd_ne (ne_of_none e0 nF)).trans e0
end
/-- what it yields -/
def tLamV (T : List NTab) (X : Cx) (params : Arguments) (body : Expr) (scope : Scope) : TE := fun _ H Q => TabsN T H ∧ ∀ (f : Addr) (F : LF) (H1 : Hp), F.qual = X.env.qual ++ "<lambda>" → F.params = params → F.body = body → F.scope = scope → F.cl = cloFrom X.env.cells scope.names [] →
  (F.df.isSome = !params.defaults.isEmpty) → ExtN H H1 → TabsN T H1 → H f = none → Lv f F H1 → Q (.ref f) H1
section
variable {X : Cx} {T : List NTab} {nm : Nat → Nat → Str} {c P : Addr} {params : Arguments} {body : Expr} {scope : Scope} {pos : Pos}
theorem pe_lamV (TB : TabB X.base X.mg c P) (hcode : X.env.code = .ref c) (hm : (P, nm) ∈ T) (hn : nm pos.line pos.col = X.env.qual ++ "<lambda>") (hu : ∀ p ∈ T, p.1 = P → p.2 = nm)
    (hfree : ∀ y ∈ scope.names, y.2 = .free → X.env.scope.names.lookup y.1 = some .cell ∨ X.env.scope.names.lookup y.1 = some .free) (hk0 : params.kwonlyargs = [])
    (hdef : (defaultsOf params X.env = ([], []) ∧ params.defaults = []) ∨ ∃ e, defaultsOf params X.env = ([eval e X.env], []) ∧ params.defaults = [e] ∧ PE X e (tC (.int 0))) :
    PE X (.Lambda params body scope pos) (tLamV T X params body scope) := by
  refine ⟨fun pins s σ H Q I h => ?_⟩
  obtain ⟨hT, h⟩ := h
  have hfr : ∀ y ∈ scope.names, y.2 = .free → ∃ c, X.env.cells.lookup y.1 = some c := fun y hy e => (hfree y hy e).elim (fun z => I.ok.has _ (.inl z)) fun z => I.ok.has _ (.inr z)
  rw [arm_eval_Lambda]
  rcases hdef with ⟨hd, hp⟩ | ⟨e, hd, hp, he⟩
  · rw [hd]
    apply wpAny_bind
    apply wpAny_pure
    apply wpAny_bind
    apply wpAny_holding
    apply wpAny_pure
    rw [makeFunction_eq]
    simp only [List.zip_nil_right, List.filterMap_nil, List.isEmpty_nil, if_true, pure_bind]
    exact lam_make (d := none) I TB hcode hm hn hu hT hfr (fun _ z => by cases z) fun f F H1 s' q1 q2 q3 q4 q5 q6 I1 eN T1 hf L => ⟨.ref f, H1, I1, rfl, h f F H1 q1 q2 q3 q4 q5 (by rw [q6, hp]; rfl) eN T1 hf L⟩
  · rw [hd]
    apply wpAny_bind
    apply wpAny_evalAll_cons
    refine thn (he.run pins s σ H (fun v H1 => v = .int 0 ∧ H1 = H) I ⟨rfl, rfl⟩) fun u s1 hu1 => ?_
    obtain ⟨v, H1, I1, rv, rfl, rfl⟩ := hu1
    apply wpAny_evalAll_nil
    apply wpAny_bind
    apply wpAny_holding
    apply wpAny_pure
    rw [makeFunction_eq]
    simp only [List.zip_nil_right, List.filterMap_nil, List.isEmpty_nil, List.isEmpty_cons, Bool.false_eq_true, if_false, if_true, pure_bind]
    apply wpAny_bind
    apply wpAny_newTextTuple
    have hn0 : H1 s1.heap.objs.size = none := I1.hok.fresh (Nat.le_refl _)
    have J : Inv X pins σ (upd H1 s1.heap.objs.size (.tup [.int 0])) { s1 with heap := s1.heap.push { cls := .type "tuple", data := .seq [u].toArray }, toks := s1.toks } :=
      I1.laid (t' := s1.toks) (o := .tup [.int 0]) (fun b ob q => Heap.get?_push_of_some _ q) (Nat.le_refl _) ⟨sz_le (by decide), [u], .cons rv .nil, _, Heap.get?_push_size _ rfl, rfl, _, rfl⟩
    have e0 : ∀ b o, H1 b = some o → (upd H1 s1.heap.objs.size (.tup [.int 0])) b = some o := fun b o e => (upd_ne (ne_of_none e hn0)).trans e
    refine lam_make (d := some s1.heap.objs.size) J TB hcode hm hn hu (hT.ext e0) hfr (fun t z => by cases z; exact upd_same) fun f F H2 s' q1 q2 q3 q4 q5 q6 I2 eN T1 hf L => ⟨.ref f, H2, I2, rfl, h f F H2 q1 q2 q3 q4 q5 (by rw [q6, hp]; rfl) (fun b o e n => eN b o (e0 b o e) n) T1 (free_upd hf).1 L⟩
end
end
section
open PySem.Spec PySem.Calls PySem.W PyProof.Rows LamX NdefX
/-- a lambda's names: none of its own but the parameters, the captured ones, globals -/
structure LScope (N fr : List Str) (sc : Scope) : Prop where
  kind : sc.kind = .function
  co : sc.isCoroutine = false
  gen : sc.isGenerator = false
  nocell : ∀ y ∈ sc.names, y.2 ≠ .cell
  free : ∀ y ∈ sc.names, y.2 = .free → y.1 ∈ fr
  frk : ∀ x ∈ fr, sc.names.lookup x = some .free
  eq : N = fr
def lscB (fr : List Str) (sc : Scope) : Bool :=
  decide (sc.kind = .function) && (!sc.isCoroutine && (!sc.isGenerator && (sc.names.all (fun y => !decide (y.2 = .cell)) && (sc.names.all (fun y => !decide (y.2 = .free) || decide (y.1 ∈ fr)) && fr.all (fun x => decide (sc.names.lookup x = some .free))))))
theorem lscope_by {fr : List Str} {sc : Scope} (h : lscB fr sc = true) : LScope fr fr sc := by
  unfold lscB at h
  simp only [Bool.and_eq_true, Bool.not_eq_true', decide_eq_true_eq, List.all_eq_true, Bool.or_eq_true, decide_eq_false_iff_not] at h
  obtain ⟨h1, h2, h3, h4, h5, h6⟩ := h
  exact ⟨h1, h2, h3, h4, fun y hy e => (h5 y hy).elim (fun z => absurd e z) id, h6, rfl⟩
abbrev LF.nf (F : LF) : NF := ⟨"<lambda>", F.qual, F.params, [], F.scope, F.cl, F.c⟩
/-- how it binds when nothing is given -/
def LBind (f : Addr) (F : LF) : Prop := ∀ (P : Program) (w : World) (s : Shared) (H : Hp) (pm ct : Value), Lv f F H → HOk P w H s.heap → ∃ bs : List (Str × Value), BindsTo s (F.fd pm ct) ⟨[], []⟩ bs ∧ ∀ x ∈ bs, F.scope.names.lookup x.1 = some .local
/-- with no parameter -/
theorem lbind0 {f : Addr} {F : LF} (h : ∀ pm ct, bindArgs (F.fd pm ct) ⟨[], []⟩ = pure []) : LBind f F := fun P w s H pm ct L hok => ⟨[], .of_eq (h pm ct), fun x hx => by cases hx⟩
/-- one that falls back on the number in its tuple -/
theorem lbind1 {f t : Addr} {F : LF} {x : Str} (e : F.df = some t) (h : ∀ pm ct u, ∃ k, bindArgs (F.fd pm ct) ⟨[], []⟩ = (seqItems? (F.fd pm ct).defaults >>= k) ∧ k (some #[u]) = pure [(x, u)]) (hl : F.scope.names.lookup x = some .local) : LBind f F := fun P w s H pm ct L hok => by
  obtain ⟨hz, us, rv, o, ho, hc, n, hd⟩ := hok t _ (L.df t e)
  cases rv with
  | cons r rr =>
    cases rr
    rename_i u
    obtain ⟨k, h1, h2⟩ := h pm ct u
    refine ⟨[(x, u)], .of_defaults (T := t) (by show dfV F.df = _; rw [e]; rfl) ho hd h1 h2, fun y hy => ?_⟩
    rw [List.mem_singleton.mp hy]
    exact hl
/-- the promise of the lambda F at f: sp, by what its captured cells hold at the call -/
def LOk (P : Program) (w : World) (K : PySem.W.Frag) (mg : Str → Option Value) (base : Heap) (CX : CXT) (k : Nat) (f : Addr) (F : LF) (fr : List Str) (sp : List (Option V) → Hp → VK → XK → Prop) : Prop :=
  ∀ (A : Around) (outer : List Env) (s : Shared) (H : Hp) (ws : List (Option V)) (Q : VK) (E : XK), Room k A → Env0 P w K mg base A outer s H → Lv f F H → CellsAt F.cl fr ws s.heap H → sp ws H Q E → codeAny (model P w) A (.call (.ref f) ⟨[], []⟩) (CR CX outer P w H s Q E) s
section
variable {CX : CXT} {P : Program} {w : World} {K : PySem.W.Frag} {mg : Str → Option Value} {base : Heap} {N fr : List Str} {F : LF} {f : Addr} {A : Around} {outer : List Env} {s : Shared} {H : Hp} {E : XK} {ws : List (Option V)} {k : Nat} {sp : List (Option V) → Hp → VK → XK → Prop}
abbrev lcx (CX : CXT) (P : Program) (w : World) (K : PySem.W.Frag) (mg : Str → Option Value) (base : Heap) (N : List Str) (F : LF) (f : Addr) (A : Around) (outer : List Env) (s : Shared) (H : Hp) (E : XK) : Cx := ncx CX P w K mg base N F.nf f A outer s H E
/-- THE RULE: a lambda by its body -/
theorem lok_of (S : LScope N fr F.scope) (hb : LBind f F)
    (hbody : ∀ (A : Around) (outer : List Env) (s : Shared) (H : Hp) (ws : List (Option V)) (Q : VK) (E : XK), Room k (A.deeper (envF F.nf f s.heap.objs.size)) → Lv f F H → ws.length = fr.length → sp ws H Q E →
      ∃ t, PE (lcx CX P w K mg base N F f A outer s H E) F.body t ∧ t ws H Q) : LOk P w K mg base CX (k + 1) f F fr sp := by
  intro A outer s H ws Q E hr e0 L C hsp
  have lim : s.heap.NoLimit := e0.mod.nolimit.keeps fun b o e => (e0.bs b o e).1
  obtain ⟨od, sl, pm, ct, ho⟩ := LamO.at_ e0.hok L.fn
  obtain ⟨bs, b1, b2⟩ := hb P w s H pm ct L e0.hok
  refine kla_callFunE hr.depth ho rfl S.co S.gen rfl (codeO_at e0.hok L.co) (b1 _ _ _ _ ?_)
  refine wpAny_newFunctionEnv S.nocell b2 (fun h₁ hns hsb => ⟨lim.fresh _ hsb, ?_⟩) S.kind
  show codeAny _ _ (.expr F.body (envF F.nf f s.heap.objs.size)) _ _
  have kp : ∀ b o, s.heap.get? b = some o → h₁.get? b = some o := fun b o e => hsb.extBut b o (Nat.ne_of_lt (Heap.lt_size e)) (Heap.get?_push_of_some _ e)
  obtain ⟨t, ht, hq⟩ := hbody A outer s H ws Q E (hr.deeper _) L C.len hsp
  have eN := S.eq
  have noA : ∀ b : Addr, b ∉ (lcx CX P w K mg base N F f A outer s H E).ex := fun b z => absurd (show b ∈ ([] : List Addr) from z) (by simp)
  have cellK : ∀ {c : Addr} {v : Option Value}, s.heap.IsCell c v → h₁.IsCell c v := fun {c v} ⟨o, ho, hd⟩ => ⟨o, kp _ _ ho, hd⟩
  have I : Inv (lcx CX P w K mg base N F f A outer s H E) [] ws H { s with heap := h₁, toks := s.toks + bs.length } := by
    refine ⟨⟨e0.mod, S.kind, rfl, rfl, Nat.le_refl _, C.inj, fun y hy => ?_, fun y c z _ => ?_, fun _ => hr.hd, Around.frames_deeper e0.frames, .inr ⟨rfl, rfl⟩, fun b z => absurd z (noA b), e0.bs, e0.bsz, fun b _ _ => noA b, fun b z => absurd z (noA b), e0.funs, e0.frf⟩,
      rfl, e0.bare, Un.kept kp, ⟨_, hns, fun i y v e1 e2 e3 => ?_⟩, fun y c e => ?_, e0.hok.fresh (Nat.le_refl _), fun y c e => (C.all y c e).1, fun q hq => absurd (show q ∈ ([] : List (Addr × Obj)) ++ [] from hq) (by simp), e0.hok.kept kp, ?_⟩
    · rcases (show F.scope.names.lookup y = some .cell ∨ F.scope.names.lookup y = some .free from hy) with hy | hy
      · exact absurd rfl (S.nocell _ (PySem.mem_of_lookup hy))
      · obtain ⟨i, hi⟩ := List.mem_iff_getElem?.mp (S.free _ (PySem.mem_of_lookup hy) rfl)
        obtain ⟨c, hc, _⟩ := C.has i y hi
        exact ⟨c, hc⟩
    · exact absurd (show false = true from z) (by simp)
    · have e1 : N[i]? = some y := e1
      rw [eN] at e1
      obtain ⟨c, hc, hv⟩ := C.has i y e1
      obtain ⟨u, ru, hu⟩ := hv v e2
      exact ⟨u, ru, .inr ⟨.inr (S.frk y (List.mem_of_getElem? e1)), c, hc, cellK hu⟩⟩
    · obtain ⟨v, z⟩ := (C.all y c e).2
      exact ⟨v, cellK z⟩
    · show ws.length = N.length
      rw [eN]
      exact C.len
  refine kla_codeExpr (wpAny_mono (ht.run [] _ ws H Q I hq) (fun v s' hs => ?_) fun e s' hs => hs)
  obtain ⟨u, H', J, rv, q⟩ := hs
  exact ⟨u, H', J.os, J.bare, J.base, J.hok, rv, q⟩
end
/-! ### what may be asked of a value that is called with nothing -/
/-- in the state (s, H), with the callers' frames fs: f is a lambda that lives, its cells hold ws, none of the cells is a frame's -/
structure Act (f : Addr) (F : LF) (fr : List Str) (ws : List (Option V)) (fs : List Addr) (s : Shared) (H : Hp) : Prop where
  lv : Lv f F H
  cells : CellsAt F.cl fr ws s.heap H
  nf : ∀ y c, F.cl.lookup y = some c → c ∉ fs
section
variable {X : Cx} {pins : List (Addr × Obj)} {σ : L2.St} {H : Hp} {s : Shared} {f : Addr} {F : LF} {fr : List Str} {ws : List (Option V)}
/-- a callee's own state, from its entry's -/
theorem Act.later (a : Act f F fr ws X.fs X.s_0 X.H_0) (hx : X.ex = []) (I : Inv X pins σ H s) (L : Lv f F H) : Act f F fr ws X.fs s H :=
  ⟨L, a.cells.later a.nf (fun _ _ _ z => by rw [hx] at z; cases z) I, a.nf⟩
/-- .. and handed on to a callee of its own: that frame is no cell -/
theorem Act.on (a : Act f F fr ws X.fs s H) (I : Inv X pins σ H s) : Act f F fr ws (frs X.stack) s H := by
  refine ⟨a.lv, a.cells, fun y c e hm => ?_⟩
  rcases List.mem_cons.mp (I.stkSub c hm) with z | z
  · obtain ⟨v, o, ho, hd⟩ := (a.cells.all y c e).2
    obtain ⟨m, ⟨o', es, ep, ho', hd', _⟩, _⟩ := I.loc
    rw [z, ho'] at ho
    cases ho
    rw [hd'] at hd
    cases hd
  · exact a.nf y c e z
/-- the maker's own state -/
theorem Act.made {js : List Nat} (hfn : ∀ x, X.fn x = true) (I : Inv X pins σ H s) (L : Lv f F H) (c : Caps X F.cl fr js) : Act f F fr (js.map (slotAt σ)) (frs X.stack) s H := by
  refine ⟨L, cells_of I c, fun y a e hm => ?_⟩
  have e' := c.sub y a e
  obtain ⟨v, o, ho, hd⟩ := I.cell y a e'
  rcases List.mem_cons.mp (I.stkSub a hm) with z | z
  · exact I.cne y a e' z
  · obtain ⟨_, o', ho', _⟩ := I.ok.funs.mem z
    exact absurd (Nat.lt_of_lt_of_le (Heap.lt_size ho') (I.ok.cab y a (hfn y) e')) (Nat.lt_irrefl _)
end
end
section
open PySem.Spec PySem.Calls PySem.W PyProof.Rows LamX NdefX
/-! ### an own exception whose __init__ begins with super().__init__(..) -/
section
variable {prog : Program} {w : World} {A : Around} {E : Value → Shared → Prop} {h : Heap} {g : Array GenState} {d : Drawn} {t : Nat} {os : OsState} {nm q : Str} {C N : Addr} {bs bm : List Value} {sn : List Str} {sub : List Value} {ab : Bool} {col : Option Bool} {dd : Option Addr} {k0 k1 k2 k3 k5 : Option Value}
theorem mw_check {M : Model} {e : Addr} {oe : Obj} {rest : List Value} {Q : Unit → Shared → Prop} (hC : h.get? C = some (excClassObj nm q C N bs bm true sn sub ab col dd k0 k1 k2 k3 k5 "ValueError.__new__")) (he : h.get? e = some oe) (hcls : oe.cls = .ref C) (hq : Q () ⟨h, g, d, t, os⟩) :
    wpAny M A (checkBoundCall "ValueError.__init__" ⟨.ref e :: rest, []⟩) Q E ⟨h, g, d, t, os⟩ := ESX.check_bound F.excBase_ValueError hC he hcls hq
/-- the wrapper is called: the args are laid anew -/
theorem mw_call {u e t0 : Addr} {rest : List Value} {Q : Value → Shared → Prop} (hC : h.get? C = some (excClassObj nm q C N bs bm true sn sub ab col dd k0 k1 k2 k3 k5 "ValueError.__new__")) (he : h.get? e = some (HandSPX.excO C t0)) (hu : h.get? u = some (kxs_mw "ValueError.__init__" e)) (hl : rest.length ≤ sizeLine)
    (hq : ∀ h' t1, (∀ b o, b ≠ e → h.get? b = some o → h'.get? b = some o) → h'.get? e = some (HandSPX.excO C t1) → Q .none ⟨h', g, d, t, os⟩) : wpAny (model prog w) A (call (.ref u) rest) Q E ⟨h, g, d, t, os⟩ := by
  apply wpAny_call
  apply codeAny_of_tree
  show wpAny _ A.in1 (callAny (.ref u) ⟨rest, []⟩) _ _ _
  simp only [callAny]
  apply wpAny_bind
  apply wpAny_load hu
  simp only [kxs_mw, show (Value.type "method-wrapper" == Value.type "method" || Value.type "method-wrapper" == Value.type "builtin_function_or_method" || Value.type "method-wrapper" == Value.type "method-wrapper") = true by decide, if_true]
  refine KFB.if_so (by decide) ?_
  refine wpAny_bind (mw_check hC he rfl ?_)
  refine wpAny_bind (wpAny_pure (wpAny_pure ?_))
  refine ⟨Code.quiet_builtin _ (by decide +kernel), codeAny_builtin F.excBase_ValueError.initEntry ?_⟩
  rw [Around.under_plainId F.excBase_ValueError.init.plain _]
  wp_walk
  refine hq _ h.objs.size (fun b o hb ho => ?_) ?_
  · rw [Heap.get?_update_other _ _ (fun z => hb z.symm)]
    exact Heap.get?_push_of_some _ ho
  · rw [Heap.get?_update_self _ (Heap.get?_push_of_some _ he) rfl]
    rfl
end
/-- such a def of the class at D, its cell at cc -/
structure ProgOk (P : Program) (file : Str) : Prop where
  file_ : ((P.main.file : Str) == file) = true
  top_ : (P.main.scope.names.lookup ("super" : Str)).isSome = false
structure FunS (K : Frag) (file : Str) (x qual : Str) (st : Stmt) (D cc : Addr) (f : Addr) (fd : FuncData) : Prop where
  ex : ∃ (oc : Value) (od : Option Addr) (kV doc pm : Value) (an : Option Addr) (cda : Addr) (ct : Value) (osl : Array (Option Value)) (cl : Value) (cdd : Option Addr) (vs : Array Value) (csl : Array (Option Value)) (tf : Tok) (ec : Value) (ed : Option Addr) (es : Array (Option Value)),
    fd = ksFn x qual (defArgs st) (defBody st) (defScope st) .none kV doc pm an (.ref cda) ct cc ∧ K.lookup f = some ⟨oc, od, .func fd, osl⟩ ∧ codeIn K (.ref cda) qual = true ∧ K.lookup cda = some ⟨cl, cdd, .fields vs, csl⟩ ∧ vs[2]? = some (.str file tf) ∧ K.lookup cc = some ⟨ec, ed, .cell (some (.ref D)), es⟩
  kp : keepIn K (.ref f) = true
section
variable {P : Program} {w : World} {K : Frag} {mg : Str → Option Value} {base : Heap}
theorem FunS.ok {CX : CXT} {x qual : Str} {st : Stmt} {D cc f : Addr} {fd : FuncData} {N ps : List Str} {k : Nat} {sp : Sp} {ar : Arg} {e : Expr} {rest : List Stmt} {p0 p1 apos pos epos : Pos} {file : Str} (HP : ProgOk P file) (F : FunS K file x qual st D cc f fd) (S : NScope N ps ["__class__"] (defScope st)) (len : ∀ vs H Q E, sp vs H Q E → vs.length = ps.length)
    (hst : defBody st = .Expr (.Call (.Attribute (.Call (.Name "super" p0) [] [] p1) "__init__" apos) [e] [] pos) epos :: rest) (hks : (defScope st).names.lookup ("super" : Str) = some .globalImplicit) (hint : ∀ env : Env, env.scope = defScope st → interactive env = false) (pl : Env → Sem Bool)
    (hev : ∀ env : Env, eval (.Call (.Attribute (.Call (.Name "super" p0) [] [] p1) "__init__" apos) [e] [] pos) env = (do
      let ov ← attributeBase (.Call (.Name "super" p0) [] [] p1) "__init__" env (eval (.Call (.Name "super" p0) [] [] p1) env)
      standAt apos.atName
      let (f, first) ← holding [ov] (getMethod ov "__init__" (pl env))
      callWith pos f first (backTo pos (starEach [e] env)) [])) (hse : ∀ env : Env, starEach [e] env = [(false, eval e env)]) (har : ((defArgs st).posonlyargs ++ (defArgs st).args).head? = some ar) (hp0 : ps.head? = some ar.arg)
    (hms : mg "super" = none) (hthird : nsIn K cStatics "thirdparty.any" = some none)
    (hbody : ∀ (F' : NF) (A : Around) (outer : List Env) (s : Shared) (H : Hp) (vs : List V) (Q : VK) (E : XK), F'.scope = defScope st → Room k (A.deeper (envF F' f s.heap.objs.size)) → sp vs H Q E →
      ∃ (te : TE) (tb : TS) (a C : Addr) (z : V), vs.head? = some (.ref a) ∧ H a = some (exo a C none) ∧ OexC K C ∧ (∃ cdD, clsIn K D = some cdD) ∧ mroIn K C (.ref D) = some true ∧ ks_superIn K C D "__init__" = some (some (.builtin "ValueError.__init__")) ∧ subIn K (.ref C) (.type "ValueError") = some true ∧
        PE (ncx CX P w K mg base N F' f A outer s H E) e te ∧ PSs (ncx CX P w K mg base N F' f A outer s H E) rest tb ∧ (∀ Q' : VK, Q' z H → te (startF N vs [none]) H Q') ∧ tb { nx := fun _ H' => Q .non H', rt := Q } (startF N vs [none]) H) :
    FnOk P w K mg base CX (k + 1) f fd ps sp := by
  obtain ⟨oc, od, kV, doc, pm, an, cda, ct, osl, cl, cdd, vs2, csl, tf, ec, ed, es, rfl, lk, hcd, lcd, h2, lcc⟩ := F.ex
  obtain ⟨hfile, htop⟩ := HP
  refine ⟨len, fun A outer s H args us vs Q E hr e0 hb r hsp => ?_⟩
  have hl := len _ _ _ _ hsp
  have KX : K.In s.heap := e0.mod.kin.keeps fun b o e => (e0.bs b o e).1
  have lim : s.heap.NoLimit := e0.mod.nolimit.keeps fun b o e => (e0.bs b o e).1
  let F' : NF := ⟨x, qual, defArgs st, defBody st, defScope st, [("__class__", cc)], cda⟩
  obtain ⟨te, tb, a, C, z, hva, ha, T, ⟨cdD, hD⟩, hmro, hsup, hVE, he, hrest, hte, htb⟩ := hbody F' A outer s H vs Q E rfl (hr.deeper _) hsp
  refine codeAny_call_function hr.depth (KX _ _ lk) rfl S.co S.gen rfl (codeRec_of KX hcd) (hb _ _ _ _ ?_)
  refine wpAny_newFunctionEnv S.nocell (fun ⟨n, _⟩ hy => S.par n (List.of_mem_zip hy).1) (fun h₁ hns hsb => ⟨lim.fresh _ hsb, ?_⟩) S.kind
  show codeAny _ _ (.func (defBody st) (envF F' f s.heap.objs.size)) _ _
  refine ks_codeAny_funcAt ?_
  have kp : ∀ b o, s.heap.get? b = some o → h₁.get? b = some o := fun b o e => hsb.extBut b o (Nat.ne_of_lt (Heap.lt_size e)) (Heap.get?_push_of_some _ e)
  have CA : CellsAt F'.cl ["__class__"] [none] s.heap H := by
    have lk1 : ∀ y c, F'.cl.lookup y = some c → y = "__class__" ∧ c = cc := fun y c e => by
      have e' : ([("__class__", cc)] : List (Str × Addr)).lookup y = some c := e
      by_cases hy : y = "__class__"
      · rw [hy] at e'
        exact ⟨hy, (Option.some.inj e').symm⟩
      · have hb : (y == ("__class__" : Str)) = false := beq_eq_false_iff_ne.mpr hy
        simp only [List.lookup, hb] at e'
        cases e'
    refine ⟨rfl, fun y c e => ?_, fun y1 y2 c e1 e2 => by rw [(lk1 y1 c e1).1, (lk1 y2 c e2).1], fun i y hy => ⟨cc, ?_, fun v hv => ?_⟩⟩
    · rw [(lk1 y c e).2]
      exact ⟨(e0.bs cc _ (e0.mod.kin _ _ lcc)).2, _, _, KX _ _ lcc, rfl⟩
    · cases i with
      | zero => cases hy; rfl
      | succ n => simp at hy
    · cases i with
      | zero => cases hv
      | succ n => simp at hv
  have I : Inv (ncx CX P w K mg base N F' f A outer s H E) [] (startF N vs [none]) H { s with heap := h₁, toks := s.toks + (ps.zip us).length } := inv_startN S hr.hd e0 hl r CA hns kp
  rw [hst]
  refine ks_wpAt_execs_cons (ks_wpAt_Expr_any (ks_wpAt_MethodCall (pl := pl _) ?_ (hev _)) (hint _ rfl))
  have hk0 : (defScope st).names.lookup ar.arg = some .local := S.par _ (List.mem_of_head? hp0)
  have hkc : (defScope st).names.lookup ("__class__" : Str) = some .free := S.frk _ List.mem_cons_self
  have K1 : K.In h₁ := fun b o e => kp b o (KX b o e)
  obtain ⟨oD, hD1, hD2⟩ : ∃ oD, h₁.get? D = some oD ∧ oD.data = .cls cdD := by
    unfold clsIn at hD
    split at hD
    · rename_i c0 d0 cd' sl ho
      cases hD
      exact ⟨_, K1 _ _ ho, rfl⟩
    · cases hD
  obtain ⟨t0, hea⟩ := exo_at I.hok ha
  obtain ⟨cd, hcl⟩ : ∃ cd, clsIn K C = some cd := by
    unfold ks_superIn at hsup
    cases hc : clsIn K C with
    | none => rw [hc] at hsup; cases hsup
    | some cd => exact ⟨cd, rfl⟩
  have hal : alongIn K "__init__" ((cd.mro.dropWhile (· != .ref D)).drop 1) = some (some (.builtin "ValueError.__init__")) := by
    unfold ks_superIn at hsup
    rw [hcl] at hsup
    exact hsup
  have hself : (ps.zip us).reverse.lookup ar.arg = some (.ref a) := by
    have ndP : ps.Nodup := (List.nodup_append.mp (S.pre ▸ S.nd.sublist (List.take_sublist (ps.length + 1) N))).1
    have hps : ps[0]? = some ar.arg := by rw [← List.head?_eq_getElem?]; exact hp0
    have hvs0 : vs[0]? = some (.ref a) := by rw [← List.head?_eq_getElem?]; exact hva
    obtain ⟨u, hu, ru⟩ := r.get hvs0
    obtain rfl : u = Value.ref a := ru
    exact zip_look ndP hps hu
  obtain ⟨mb, hb1, hb2⟩ := I.mod.blt
  refine ks_wpAt_super_base (prog := P) (w := w) (env := envF F' f s.heap.objs.size) hks hkc (by decide) rfl (K1 _ _ lk) rfl har rfl (K1 _ _ lcd) rfl h2 hfile htop ?_
  refine ks_loadName_global S.kind hks (loadGlobal_builtin (env := envF F' f s.heap.objs.size) (I.mod.glob.keeps I.bk) hms (hb1.keeps I.bk) ((hb2 _ (by decide)).trans (by first | boot_by_name | rfl | kernel_rfl)) ⟨rfl, ?_⟩)
  refine wpAny_loadName_free (env := envF F' f s.heap.objs.size) S.kind hkc rfl ⟨_, K1 _ _ lcc, rfl⟩ ?_
  refine wpAny_loadName_local (env := envF F' f s.heap.objs.size) S.kind hk0 hns hself ?_
  refine ks_wpAny_isType_cls hD1 hD2 ⟨rfl, ?_⟩
  refine ks_wpAny_call_super hD1 hD2 hea rfl (fun c z => by cases z) (looks_mroIn K1 hmro) (fun h2' eso k2 => ?_)
  have K2 : K.In h2' := fun b o e => k2 b o (K1 b o e)
  have Ia : Inv (ncx CX P w K mg base N F' f A outer s H E) [] (startF N vs [none]) H { s with heap := h2', toks := s.toks + (ps.zip us).length } := I.kept k2
  have hea2 := k2 _ _ hea
  have hne : a ≠ C := fun z => by
    have hC0 : ∃ o cd', h2'.get? C = some o ∧ o.data = .cls cd' := by
      unfold clsIn at hcl
      split at hcl
      · rename_i c0 d0 cd' sl ho
        exact ⟨_, _, K2 _ _ ho, rfl⟩
      · cases hcl
    obtain ⟨o, cd', e1, e2⟩ := hC0
    rw [← z, hea2] at e1
    cases e1
    cases e2
  have tyA : Looks (model P w) h2' (typeOf (.ref a)) (.ref C) := fun A Q E s k q => wpAny_typeOf_ref (k _ _ hea2) q
  refine kxs_getMethod (h := h2') kxs_ValueError eso (looks_opaque K2 hthird) (l₀ := cd.mro) (fun A Q E s k q => wpAny_bind ((looks_clsIn K2 hcl) A _ E s k (wpAny_pure q))) rfl K2 hal (tyA.andThen (looks_subIn K2 hVE)) hne (by decide) ?_
  have I2 := ClX.pin_new (a := h2'.objs.size) (o := kxs_mw "ValueError.__init__" a) (h' := h2'.push (kxs_mw "ValueError.__init__" a)) (t' := s.toks + (ps.zip us).length + 1) Ia (fun b u z => Heap.get?_push_of_some _ z) (Nat.le_refl _) (Heap.get?_push_size _ rfl) (fun v z => nomatch z)
  have hpa : PA (ncx CX P w K mg base N F' f A outer s H E) [e] (tCons te tNil) := pa_cons he pa_nil (by rw [show starEach [e] (ncx CX P w K mg base N F' f A outer s H E).env = _ from hse _]; rfl)
  refine kxs_callWith (i := "ValueError.__init__") (x := a) (by rw [hse]; rfl) ?_
  have hrun := hpa.run pos _ _ _ _ (fun xs H1 => xs = [z] ∧ H1 = H) I2 (hte _ ⟨rfl, rfl⟩)
  have est : backTo pos (starEach [e] (envF F' f s.heap.objs.size)) = [(false, eval e (envF F' f s.heap.objs.size))] := by
    rw [hse]
    rfl
  rw [est]
  refine evalArgs_plain (thn (show wpAny _ _ (spliced [(false, eval e (envF F' f s.heap.objs.size))]) _ _ _ from est ▸ hrun) fun xs s3 h3 => ?_)
  obtain ⟨zs, H3, I3, rv, ezs, eH⟩ := h3
  subst ezs
  rw [eH] at I3
  refine ⟨(I3.pin _ (List.mem_append_right _ List.mem_cons_self)).1, ?_⟩
  obtain ⟨nmC, qC, NC, bsC, bmC, snC, subC, abC, colC, ddC, c0, c1, c2, c3, c5, hC, hbm⟩ := T.cls
  obtain ⟨t3, he3⟩ := exo_at I3.hok ha
  have hu3 := (I3.pin _ (List.mem_append_right _ List.mem_cons_self)).1
  have hlx : xs.length ≤ sizeLine := by
    have := Paired.length rv
    simp at this
    rw [← this]
    exact sz_le (by decide)
  obtain ⟨hp3, g3, d3, tk3, os3⟩ := s3
  show wpAny _ _ (call (.ref h2'.objs.size) ([] ++ xs)) _ _ _
  refine mw_call (I3.kIn _ _ hC) he3 hu3 hlx (fun h4 t4 k4 he4 => ?_)
  have J := (ClX.unpin I3).write (t' := tk3) (x := a) (e := a) (o := exo a C none) (by rw [ha]; exact True.intro) (.inl rfl) k4 ⟨_, he4⟩ (exo_ok he4)
  have eu : upd H a (exo a C none) = H := by
    funext b
    by_cases hb : b = a
    · rw [hb, upd_same, ha]
    · rw [upd_ne hb]
  rw [eu] at J
  refine wpAt_of_wpAny (wpAny_mono (hrest.run [] _ _ _ _ J htb) (fun fl s' hs => ?_) fun e s' hs => hs)
  have fin : ∀ {σ' : L2.St} {H' : Hp} {v : V} {u : Value}, Inv (ncx CX P w K mg base N F' f A outer s H E) [] σ' H' s' → L2.RelV v u → Q v H' → CE outer P w H s Q u s' :=
    fun {σ' H' v u} J rv q => ⟨v, H', J.os, J.bare, J.base, J.hok, rv, q⟩
  cases fl with
  | ret u =>
    obtain ⟨v, σ', H', J, rv, q⟩ := hs
    exact fin J rv q
  | next =>
    obtain ⟨σ', H', J, q⟩ := hs
    exact fin (v := V.non) (u := Value.none) J rfl q
  | brk =>
    obtain ⟨_, _, _, q⟩ := hs
    exact False.elim q
  | cont =>
    obtain ⟨_, _, _, q⟩ := hs
    exact False.elim q
end
end
section
open PySem.Spec PySem.Calls PySem.W PyProof.Rows LamX NdefX
/-! ### an own exception made, its context None -/
section
variable {X : Cx} {e : Expr} {es : List Expr} {ta : TA} {p pos : Pos}
theorem pmkN {CX : CXT} {x : Str} {C fI : Addr} {k : Nat} {fd : FuncData} {ps : List Str} {sp : Sp} (T : OexC X.K C) (iC : findIn X.K (.ref C) "__init__" = some (some (.ref fI))) (tI : typeIn X.K (.ref fI) = some (.type "function")) (F1 : FnOk X.prog X.w X.K X.mg X.base CX k fI fd ps sp) (hr : Room (k + 1) X.A)
    (hb : Binds X.K fd ps []) (hx : Passes CX X (fun _ _ _ => False)) (hg : Gl X x) (hm : X.mg x = some (.ref C)) (ha : PA X (e :: es) ta) (hdb : (x == ("__debug__" : Str)) = false := by decide) (he : starEach (e :: es) X.env = (false, eval e X.env) :: starEach es X.env := by rfl)
    (hpl : (backTo pos (starEach es X.env)).any (·.1) = false := by rfl) : L2N.PMk X (.Call (.Name x p) (e :: es) [] pos) (tMkO C sp [] ta) := by
  intro pins s σ H Q I h
  obtain ⟨nm, q, N, bs, bm, sn, sub, ab, col, dd, k0, k1, k2, k3, k5, hC, hbm⟩ := T.cls
  refine wpAny_Call_Name_kw (ld_glob I hg hm ?_ hdb)
  refine PySem.W.callWith_K (h₀ := X.base) I.ok.mod.kin T.kC (thn (ha.run pos pins s σ H _ I h) fun us s1 hh => ?_) he hpl
  obtain ⟨vs, H1, I1, r1, hz, q1⟩ := hh
  refine ⟨I1.kIn, ?_⟩
  obtain ⟨hp, g, dr, tk, os⟩ := s1
  let a : Addr := hp.objs.size + 1
  let h2 : Heap := (hp.push (kdv_tup us)).push (HandSPX.excO C hp.objs.size)
  have hsz : hp.objs.size ≤ a := Nat.le_succ _
  have hq := q1 a (I1.hok.fresh hsz)
  rw [List.append_nil] at hq
  have kk : ∀ b o, hp.get? b = some o → h2.get? b = some o := fun b o z => Heap.get?_push_of_some _ (Heap.get?_push_of_some _ z)
  have hget : h2.get? a = some (HandSPX.excO C hp.objs.size) := by
    show ((hp.push (kdv_tup us)).push (HandSPX.excO C hp.objs.size)).get? (hp.objs.size + 1) = _
    heap_get
  have I2 : Inv X pins σ (upd H1 a (exo a C none)) ⟨h2, g, dr, tk, os⟩ := I1.laid (t' := tk) (a := a) (o := exo a C none) (h' := h2) kk hsz (exo_ok hget)
  have hus : us.length ≤ sizeLine := by
    rw [← Paired.length r1, sizeLine_eq]
    omega
  have hl : (Value.ref a :: us).length = ps.length := by
    have z := F1.len _ _ _ _ hq
    rw [← z]
    show us.length + 1 = vs.length + 1
    rw [r1.length]
  have b2 := hb ⟨h2, g, dr, tk, os⟩ (Value.ref a :: us) I2.kIn (by rw [List.append_nil]; exact hl)
  rw [List.append_nil] at b2
  apply wpAny_call
  refine HandSPX.call_own F.excBase_ValueError (fun Y => HandSPX.refsVE_contains Y bm hbm) (I1.kIn _ _ hC) (looks_findIn I1.kIn iC) (fun self => bind_fn I1.kIn self tI) hus ?_
  refine codeAny_mono (F1.run _ X.stack _ _ ⟨Value.ref a :: us, []⟩ (Value.ref a :: us) (V.ref a :: vs) _ (fun _ _ _ => False) (hr.make C us []) (I2.env0.make C us []) b2 (.cons rfl r1) hq) fun r s' hq' => ?_
  match r, hq' with
  | .error er, hq' => exact hx pins σ _ _ er s' I2 hq'
  | .ok .next, hq' => exact False.elim hq'
  | .ok .brk, hq' => exact False.elim hq'
  | .ok .cont, hq' => exact False.elim hq'
  | .ok (.ret u), hq' =>
    obtain ⟨v, H2, os2, bare2, un2, hok2, rv, ev, d, fs, ea, ed, hd1, q2⟩ := hq'
    subst ev
    obtain ⟨h3, g2, d2, t2, os'⟩ := s'
    obtain ⟨t0, G, J, kG, ge, hoe, na⟩ := mk_end0 (d2 := d2) (t2 := t2) I1 hsz kk un2 hok2 os2 bare2 ea ed hd1
    exact ⟨rv, a, _, _, ⟨G, g2, d2, t2, os'⟩, _, .ref C, some d, rfl, J, kG, ge, hoe, ⟨rfl, rfl, fun ws z => by cases z; rfl⟩, rfl, rfl, na, rfl, bare2, raises_own T.exC T.tyC, q2⟩
end
/-- nothing leaves, seen from a place whence something may -/
theorem passN {X : Cx} : Passes C8.CX0 X (fun _ _ _ => False) := fun _ _ _ _ _ _ _ h => h.elim
section
variable {P : Program} {w : World} {K : Frag} {mg : Str → Option Value} {base : Heap}
/-- a def of the text by its body, whatever it may let out -/
theorem FunOkC {CX : CXT} {x qual : Str} {st : Stmt} {f : Addr} {fd : FuncData} {N ps : List Str} {k : Nat} {sp : Sp} (F : L2.Fun K x qual st f fd) (S : FnScope N ps (defScope st)) (len : ∀ vs H Q E, sp vs H Q E → vs.length = ps.length)
    (hbody : ∀ (cdv : Value) (A : Around) (outer : List Env) (s : Shared) (H : Hp) (vs : List V) (Q : VK) (E : XK), Room k (A.deeper (envOfC qual (defScope st) s.heap.objs.size f cdv)) → sp vs H Q E →
      ∃ t, PSs (cxOf CX P w K mg base N qual (defScope st) f cdv A outer s H E) (defBody st) t ∧ t { nx := fun _ H' => Q .non H', rt := Q } (L2.start N vs) H) : FnOk P w K mg base CX (k + 1) f fd ps sp := by
  obtain ⟨oc, od, kV, doc, pm, an, cdv, ct, osl, rfl, lk, hcd⟩ := F.ex
  exact fn_of lk hcd S len fun A outer s H vs Q E hr hsp => hbody cdv A outer s H vs Q E hr hsp
/-! ### a promise of the very state -/
abbrev SpS := List V → List Env → Shared → Hp → VK → XK → Prop
structure FnS (P : Program) (w : World) (K : Frag) (mg : Str → Option Value) (base : Heap) (CX : CXT) (k : Nat) (f : Addr) (ps : List Str) (sp : SpS) : Prop where
  len : ∀ vs o s H Q E, sp vs o s H Q E → vs.length = ps.length
  run : ∀ (A : Around) (outer : List Env) (s : Shared) (H : Hp) (us : List Value) (vs : List V) (Q : VK) (E : XK), Room k A → Env0 P w K mg base A outer s H → Vals vs us → sp vs outer s H Q E → codeAny (model P w) A (.call (.ref f) ⟨us, []⟩) (CR CX outer P w H s Q E) s
theorem FunOkS {CX : CXT} {x qual : Str} {st : Stmt} {f : Addr} {fd : FuncData} {N ps : List Str} {k : Nat} {sp : SpS} (F : L2.Fun K x qual st f fd) (hb : Binds K fd ps []) (S : FnScope N ps (defScope st)) (len : ∀ vs o s H Q E, sp vs o s H Q E → vs.length = ps.length)
    (hbody : ∀ (cdv : Value) (A : Around) (outer : List Env) (s : Shared) (H : Hp) (vs : List V) (Q : VK) (E : XK), Room k (A.deeper (envOfC qual (defScope st) s.heap.objs.size f cdv)) → sp vs outer s H Q E →
      ∃ t, PSs (cxOf CX P w K mg base N qual (defScope st) f cdv A outer s H E) (defBody st) t ∧ t { nx := fun _ H' => Q .non H', rt := Q } (L2.start N vs) H) : FnS P w K mg base CX (k + 1) f ps sp := by
  obtain ⟨oc, od, kV, doc, pm, an, cdv, ct, osl, rfl, lk, hcd⟩ := F.ex
  refine ⟨len, fun A outer s H us vs Q E hr e0 r hsp => ?_⟩
  have hl := len _ _ _ _ _ _ hsp
  have KX : K.In s.heap := e0.mod.kin.keeps fun b o z => (e0.bs b o z).1
  have b2 := hb s us KX (by rw [List.append_nil, ← hl]; exact r.length.symm)
  rw [List.append_nil] at b2
  exact run_ofS (us := us) (vs := vs) lk hcd S hr e0 b2 r hl fun hr' => hbody cdv A outer s H vs Q E hr' hsp
end
section
variable {X : Cx} {CX : CXT} {k i : Nat} {f g : Addr} {ps fr : List Str} {F : LF} {ws : List (Option V)} {sp : SpS} {E : XK} {x a : Str} {p p1 p2 pos : Pos} {e : Expr} {es : List Expr} {t : TA} {lp : List (Option V) → Hp → VK → XK → Prop}
theorem pe_callS (G : FnS X.prog X.w X.K X.mg X.base CX k g ps sp) (hr : Room k X.A) (hg : Gl X x) (hm : X.mg x = some (.ref g)) (hk : keepIn X.K (.ref g) = true) (hx : Passes CX X E) (ha : PA X (e :: es) t) (hdb : (x == ("__debug__" : Str)) = false := by decide)
    (he : starEach (e :: es) X.env = (false, eval e X.env) :: starEach es X.env := by rfl) (hpl : (backTo pos (starEach es X.env)).any (·.1) = false := by rfl) :
    PE X (.Call (.Name x p) (e :: es) [] pos) (fun σ H Q => t σ H fun vs H1 => ∀ pins s1, Inv X pins σ H1 s1 → sp vs X.stack s1 H1 Q E) := by
  refine ⟨fun pins s σ H Q I h => ?_⟩
  refine wpAny_Call_Name_kw (ld_glob I hg hm ?_ hdb)
  refine callWith_K (h₀ := X.base) I.ok.mod.kin hk (thn (ha.run pos pins s σ H _ I h) fun us s1 hh => ?_) he hpl
  obtain ⟨vs, H1, I1, r, q⟩ := hh
  refine ⟨I1.kIn, wpAny_call (codeAny_mono (G.run X.A X.stack s1 H1 us vs Q E hr I1.env0 r (q pins s1 I1)) fun r s' hq => ?_)⟩
  match r, hq with
  | .error er, hq => exact hx pins σ H1 s1 er s' I1 hq
  | .ok (.ret u), hq => exact I1.after hq
  | .ok .next, hq => exact False.elim hq
  | .ok .brk, hq => exact False.elim hq
  | .ok .cont, hq => exact False.elim hq
/-- a(), a the slot that holds the lambda -/
theorem pe_act {E : L2.St → XK} (L : LOk X.prog X.w X.K X.mg X.base CX k f F fr lp) (A0 : Act f F fr ws X.fs X.s_0 X.H_0) (hex : X.ex = []) (hr : Room k X.A) (hx : ∀ σ, PassesAt CX X σ (E σ)) (hN : X.N[i]? = some a) (hv : Vis X.env.scope a) (hd : (a == ("__debug__" : Str)) = false := by decide) (hcd : (a == ("__classdict__" : Str)) = false := by decide) :
    PE X (.Call (.Name a p1) [] [] p2) (fun σ H Q => σ[i]? = some (some (.ref f)) ∧ Lv f F H ∧ lp ws H Q (E σ)) := by
  refine ⟨fun pins s σ H Q I h => ?_⟩
  obtain ⟨hs, lv, hq⟩ := h
  refine wpAny_Call_Name_kw (thn ((pe_var (pos := p1) (i := i) hN hv hd hcd).run pins s σ H (fun v H1 => v = .ref f ∧ H1 = H) I ⟨.ref f, hs, rfl, rfl⟩) fun u s1 hh => ?_)
  obtain ⟨v, H1, I1, r1, ev, eH⟩ := hh
  subst ev
  rw [eH] at I1
  cases r1
  obtain ⟨od, sl, pm, ct, ho⟩ := LamO.at_ I1.hok lv.fn
  refine callWith_F0 ⟨_, _, _, _, ho⟩ (wpAny_call (codeAny_mono (L X.A X.stack s1 H ws Q (E σ) hr I1.env0 lv (A0.later hex I1 lv).cells hq) fun r s' hq' => ?_))
  match r, hq' with
  | .error er, hq' => exact hx σ pins H s1 er s' I1 hq'
  | .ok (.ret u), hq' => exact I1.after hq'
  | .ok .next, hq' => exact False.elim hq'
  | .ok .brk, hq' => exact False.elim hq'
  | .ok .cont, hq' => exact False.elim hq'
end
end
section
open PySem.Spec PySem.Calls PySem.W PyProof.Rows LamX NdefX
/-! ### the caught exception, where it is pinned -/
/-- it stands at a, of the class at D, its fields fs -/
structure Cgt (X : Cx) (D a : Addr) (oe : Obj) (d : Option Addr) : Prop where
  mem : (a, oe) ∈ X.pn
  zn : L2N.Zn (.ref D) d oe
  fl : ∃ vs, oe.data = .fields vs
def FldsAt (H : Hp) (d : Option Addr) (fs : List (Str × V)) : Prop := match d with
  | none => fs = []
  | some dd => H dd = some (.xd fs)
theorem FldsAt.keep {H H' : Hp} {S : List Addr} {d : Option Addr} {fs : List (Str × V)} (h : FldsAt H d fs) (f : Fr S H H') (n : ∀ b ∈ S, ∀ fs, H b ≠ some (.xd fs)) : FldsAt H' d fs := by
  cases d with
  | none => exact h
  | some dd => exact f dd _ h fun hb => n dd hb fs h
section
variable {X : Cx} {D a : Addr} {oe : Obj} {d : Option Addr} {pins : List (Addr × Obj)} {σ : L2.St} {H : Hp} {s : Shared} {fs : List (Str × V)}
theorem Cgt.inst (c : Cgt X D a oe d) (I : Inv X pins σ H s) (hf : FldsAt H d fs) : ∃ od, InstAt s.heap a oe D od ∧ (∀ o, od = some o → ∃ mA : Str → Option Value, (∀ n, lookIn n o = some (mA n)) ∧ ∀ n, RelO (fs.lookup n) (mA n)) ∧ (od = none ↔ d = none) := by
  obtain ⟨hget, _⟩ := I.pin (a, oe) (List.mem_append_left _ c.mem)
  obtain ⟨vs, hv⟩ := c.fl
  obtain ⟨z1, z2, _⟩ := c.zn
  cases d with
  | none =>
    refine ⟨none, ⟨hget, z1, ?_, ?_⟩, (fun o z => by cases z), by simp⟩
    · unfold notCls
      rw [hv] <;> rfl
    · rw [z2]
      trivial
  | some dd =>
    have hx : ObjOk X.prog X.w H s.heap dd (.xd fs) := I.hok dd _ hf
    obtain ⟨mA, hns, hr⟩ := hx
    obtain ⟨od, ho, hl⟩ := lookIn_ns hns
    refine ⟨some od, ⟨hget, z1, ?_, ?_⟩, fun o z => by cases z; exact ⟨mA, hl, hr⟩, by simp⟩
    · unfold notCls
      rw [hv] <;> rfl
    · rw [z2]
      exact ho
/-- isinstance(e, c) -/
def rIsC (K : Frag) (D a : Addr) (d : Option Addr) : List V → Hp → VK → Prop := fun xs H Q => ∃ (c : V) (cv : Value) (b : Bool) (fs : List (Str × V)), xs = [.ref a, c] ∧ FldsAt H d fs ∧ (∀ u, RelV c u → u = cv) ∧ kitOne K (.ref D) cv = some b ∧ Q (.bl b) H
theorem call_isC (C : ExcC X.K D) (c : Cgt X D a oe d) : CallR X (.builtin "isinstance") (rIsC X.K D a d) := by
  intro pins s σ H xs us Q I r h
  obtain ⟨cl, cv, b, fs, rfl, hf, hcv, e, q⟩ := h
  cases r with
  | cons rx rr =>
    cases rr with
    | cons rt rr =>
      cases rr
      cases rx
      cases hcv _ rt
      obtain ⟨od, J, _⟩ := c.inst I hf
      have hcl : (clsIn X.K D).isSome = true := by
        obtain ⟨cd, z, _⟩ := any_some C.hd
        rw [z]
        rfl
      exact kia_one (kitx_exc hcl C.hg C.hk C.hs C.ha C.hn C.ht C.hm) I.kIn J e (fun z => nomatch z) fun tk => ⟨.bl b, H, I.kept (t' := tk) fun _ _ z => z, rfl, q⟩
/-- e.n -/
def tFldC (D a : Addr) (d : Option Addr) (n : Str) (te : TE) : TE := fun σ H Q => te σ H fun x H1 => x = .ref a ∧ ∃ (fs : List (Str × V)) (v : V), d ≠ none ∧ FldsAt H1 d fs ∧ fs.lookup n = some v ∧ Q v H1
theorem pe_fldC {e : Expr} {te : TE} {pos : Pos} {n : Str} (T : XfC X.K D) (hno : findIn X.K (.ref D) n = some none) (c : Cgt X D a oe d) (he : PE X e te) (hb : attributeBase e n X.env (eval e X.env) = eval e X.env := by rfl) : PE X (.Attribute e n pos) (tFldC D a d n te) := by
  refine ⟨fun pins s σ H Q I h => ?_⟩
  refine attr_of hb (thn (he.run pins s σ H _ I h) fun u s1 hh => ?_)
  obtain ⟨x, H1, I1, rx, ex, fs, v, hd, hf, l, q⟩ := hh
  subst ex
  obtain rfl : u = Value.ref a := rx
  obtain ⟨od, J, hA, hn⟩ := c.inst I1 hf
  cases od with
  | none => exact absurd (hn.mp rfl) hd
  | some o =>
    obtain ⟨mA, hl, hr⟩ := hA o rfl
    obtain ⟨w, hw, rw'⟩ := RelO.some_of (v := v) (o := mA n) (by rw [← l]; exact hr n)
    exact HandSPX.exc_get I1.kIn J T.ga T.gg T.exC (findObj_own T.hdC hno rfl (by rw [hl, hw])) (handed_of rw') ⟨v, H1, I1.tok _, rw', q⟩
end
/-! ### defs called while the exception p is handled -/
def FnP (P : Program) (w : World) (K : Frag) (mg : Str → Option Value) (base : Heap) (CX : CXT) (k : Nat) (f : Addr) (p : Addr × Obj) (sp : Sp) : Prop :=
  ∀ (A : Around) (outer : List Env) (s : Shared) (H : Hp) (us : List Value) (vs : List V) (Q : VK) (E : XK), L2H.RoomH k A → L2H.Hot1 A p → L2H.PinOk outer H s p → Env0 P w K mg base A outer s H → Vals vs us → sp vs H Q E → codeAny (model P w) A (.call (.ref f) ⟨us, []⟩) (CR CX outer P w H s Q E) s
section
variable {P : Program} {w : World} {K : Frag} {mg : Str → Option Value} {base : Heap}
theorem FunOkP {CX : CXT} {x qual : Str} {st : Stmt} {f : Addr} {fd : FuncData} {N ps : List Str} {k : Nat} {sp : Sp} {p : Addr × Obj} (F : L2.Fun K x qual st f fd) (hb : Binds K fd ps []) (S : FnScope N ps (defScope st)) (len : ∀ vs H Q E, sp vs H Q E → vs.length = ps.length)
    (hbody : ∀ (cdv : Value) (A : Around) (outer : List Env) (s : Shared) (H : Hp) (vs : List V) (Q : VK) (E : XK), L2H.RoomH k (A.deeper (envOfC qual (defScope st) s.heap.objs.size f cdv)) → sp vs H Q E →
      ∃ t, PSs (L2H.cxH CX P w K mg base N qual (defScope st) f cdv A outer s H E p) (defBody st) t ∧ t { nx := fun _ H' => Q .non H', rt := Q } (L2.start N vs) H) : FnP P w K mg base CX (k + 1) f p sp := by
  obtain ⟨oc, od, kV, doc, pm, an, cdv, ct, osl, rfl, lk, hcd⟩ := F.ex
  intro A outer s H us vs Q E hr hot hpin e0 r hsp
  have hl := len _ _ _ _ hsp
  have KX : K.In s.heap := e0.mod.kin.keeps fun b o z => (e0.bs b o z).1
  have lim : s.heap.NoLimit := e0.mod.nolimit.keeps fun b o z => (e0.bs b o z).1
  have b2 := hb s us KX (by rw [List.append_nil, ← hl]; exact r.length.symm)
  rw [List.append_nil] at b2
  have hkind : ∀ y ∈ ps.zip us, (defScope st).names.lookup y.1 = some .local ∨ ((defScope st).names.lookup y.1 = some .cell ∧ ((cellsFrom (s.heap.objs.size + 1) (defScope st).names []).lookup y.1).isSome = true) := fun ⟨n, v⟩ hy =>
    (S.par n (List.of_mem_zip hy).1).elim .inl fun z => .inr ⟨z, cellsFrom_some _ _ _ (.inl z)⟩
  refine codeAny_call_function hr.depth (KX _ _ lk) rfl S.co S.gen rfl (codeRec_of KX hcd) (b2 _ _ _ _ ?_)
  refine wpAny_newFunctionEnv_cells S.kind hkind fun env he s1 x => ?_
  subst he
  refine ⟨lim.keeps x.toInCall.keep, codeAny_func ?_⟩
  obtain ⟨t, ht, hq⟩ := hbody cdv A outer s H vs Q E (hr.deeper _) hsp
  refine wpAny_mono (ht.run [] s1 (L2.start N vs) H _ (L2H.inv_startH S hpin e0 hl r x) hq) (fun fl s' hs => ?_) fun e s' hs => hs
  match fl, hs with
  | .ret u, hs =>
    obtain ⟨v, σ', H', J, rv, q⟩ := hs
    exact ⟨v, H', J.os, J.bare, J.base, J.hok, rv, q⟩
  | .next, hs =>
    obtain ⟨σ', H', J, q⟩ := hs
    exact ⟨.non, H', J.os, J.bare, J.base, J.hok, rfl, q⟩
  | .brk, hs =>
    obtain ⟨_, _, _, q⟩ := hs
    exact False.elim q
  | .cont, hs =>
    obtain ⟨_, _, _, q⟩ := hs
    exact False.elim q
end
section
variable {X : Cx} {k : Nat} {f : Addr} {p : Addr × Obj} {sp : Sp} {E : XK} {x : Str} {q pos : Pos} {e : Expr} {es : List Expr} {t : TA}
theorem pe_callP (F : FnP X.prog X.w X.K X.mg X.base C8.CX0 k f p sp) (hr : L2H.RoomH k X.A) (hot : L2H.Hot1 X.A p) (hp : p ∈ X.pn) (hg : Gl X x) (hm : X.mg x = some (.ref f)) (hk : keepIn X.K (.ref f) = true) (ha : PA X (e :: es) t) (hdb : (x == ("__debug__" : Str)) = false := by decide)
    (he : starEach (e :: es) X.env = (false, eval e X.env) :: starEach es X.env := by rfl) (hpl : (backTo pos (starEach es X.env)).any (·.1) = false := by rfl) : PE X (.Call (.Name x q) (e :: es) [] pos) (tCall sp [] C8.E0 t) := by
  refine ⟨fun pins s σ H Q I h => ?_⟩
  refine wpAny_Call_Name_kw (ld_glob I hg hm ?_ hdb)
  refine callWith_K (h₀ := X.base) I.ok.mod.kin hk (thn (ha.run pos pins s σ H _ I h) fun us s1 hh => ?_) he hpl
  obtain ⟨vs, H1, I1, r, q1⟩ := hh
  rw [List.append_nil] at q1
  have P1 := I1.pin p (List.mem_append_left _ hp)
  have hpin : L2H.PinOk X.stack H1 s1 p := ⟨P1.1, P1.2.1, fun hm => (List.mem_cons.mp (I1.stkSub p.1 hm)).elim P1.2.2.1 P1.2.2.2.1, P1.2.2.2.2⟩
  refine ⟨I1.kIn, wpAny_call (codeAny_mono (F X.A X.stack s1 H1 us vs Q C8.E0 hr hot hpin I1.env0 r q1) fun r s' hq => ?_)⟩
  match r, hq with
  | .error er, hq => exact False.elim hq
  | .ok (.ret u), hq => exact I1.after hq
  | .ok .next, hq => exact False.elim hq
  | .ok .brk, hq => exact False.elim hq
  | .ok .cont, hq => exact False.elim hq
theorem any_eqU_n {x : V} : ∀ {xs : List V} {us : List Value}, Vals xs us → xs.all flatV = true → us.countP (eqU x) = xs.countP fun y => eqV y x
  | _, _, .nil, _ => rfl
  | y :: xs, u :: us, .cons r t, f => by
    rw [List.all_cons, Bool.and_eq_true] at f
    rw [List.countP_cons, List.countP_cons, any_eqU_n t f.2, eqU_of r f.1]
def rCntV (K : Frag) : V → List V → Hp → VK → Prop := fun x xs H Q => ∃ (p : Addr) (ys : List V) (y : V), x = .ref p ∧ xs = [y] ∧ SqL K H p ys ∧ flatV y = true ∧ ys.all flatV = true ∧ Q (.int (ys.countP (fun z => eqV z y) : Nat)) H
theorem mt_lcountV : MtR X "list.count" (rCntV X.K) := by
  intro pins s σ H x xs v us Q I rx rxs h
  obtain ⟨p, ys, y, rfl, rfl, hs, fy, fys, q⟩ := h
  cases rx
  obtain ⟨u, rfl, ru⟩ := rxs.one
  obtain ⟨its, rv, ⟨⟨cls, dd, data, sl⟩, n, ho, hc, hdn, hd⟩, hlen⟩ := I.list hs
  simp only at hc hd
  subst hc hd
  refine call_meets PySem.F.slot_list_count ⟨_, ho, rfl⟩ PySem.F.entry_list_count (PySem.F.args_list_count_2 _ _) (SeqAt.list_countAt p its.toArray n dd sl u (eqU y)) ⟨ho, fun z hz => mem_eqAt ru fy rv fys z (by simpa using hz), ?_⟩
  have ec : its.toArray.toList.countP (eqU y) = ys.countP fun z => eqV z y := by
    rw [show its.toArray.toList = its from rfl]
    exact any_eqU_n rv fys
  refine ⟨.int (ys.countP (fun z => eqV z y) : Nat), H, I.tok _, ⟨s.toks, ?_⟩, q⟩
  show Value.int ((its.toArray.toList.countP (eqU y) : Nat) : Int) s.toks = _
  rw [ec]
end
end
section
open PySem.Spec PySem.Calls PySem.W PyProof.Rows LamX NdefX
/-! ### the law's row, where the law makes lambdas -/
section
open Att
theorem tabIn_of {K : Frag} {x : Str} {f c P : Addr} {oc : Value} {od : Option Addr} {fd : FuncData} {sl : Array (Option Value)} {cl : Value} {cdd : Option Addr} {vs : Array Value} {csl : Array (Option Value)} (a : nsIn K mainGlobals x = some (some (.ref f))) (l : K.lookup f = some ⟨oc, od, .func fd, sl⟩) (hc : fd.code = .ref c)
    (lc : K.lookup c = some ⟨cl, cdd, .fields vs, csl⟩) (tp : (vs[11]? : Option Value) = some (.ref P)) : tabIn K x = some (c, P) := by
  unfold tabIn
  rw [a]
  simp only [l, hc, lc, tp]
theorem lawat {l : OpenLaw} {w : World} {K : Frag} {q : Program} {loose : List Str} {mean : ExcName → Option Value} {d : DefRec} {h : Heap} {mg mb : Str → Option Value} {fa c P : Addr} {fd : FuncData} {k n : Nat} {x : Str} {sp : Sp} (TT : Top q loose mean mg mb h) (X : K.In h) (nt : noTabs K = true)
    (hrec : (recsOf q).find? (fun e => e.name == ("law" : Str)) = some d) (ti : tabIn K "law" = some (c, P)) (hb : ∀ (s : Shared) (u : Value), BindsTo s fd ⟨[u], []⟩ [(x, u)]) (F : ∀ base : Heap, K.In base → base.Ns mainGlobals mg → TabB base mg c P → FnOk l.prog w K mg base C8.CX0 k fa fd [x] sp)
    (hsp : ∀ (H : Hp) (a : Addr) (ns : List Int), ns.length ≤ n → H P = some (.tbl #[]) → SqL K H a (ns.map V.int) → sp [.ref a] H (fun v _ => v = .bl true) fun _ _ _ => False) : LawAtS l w K C8.CX0 k n x mg fa h := by
  obtain ⟨C, hT⟩ := tab_of TT X hrec ti
  have one : ∀ {α : Prop} {p : Addr × Addr}, p ∈ [(c, P)] → ((p = (c, P)) → α) → α := fun hp f => f (List.mem_singleton.mp hp)
  refine ⟨fd, [(c, P)], sp, fun p hp => by rw [List.mem_singleton.mp hp]; exact hT, fun p hp => ?_, fun p hp => by rw [List.mem_singleton.mp hp]; exact C, hb, fun H a ns hl _ hH hS => hsp H a ns hl (hH (c, P) (List.mem_singleton.mpr rfl)) hS, fun base KB GB hTB => F base KB GB (hTB (c, P) (List.mem_singleton.mpr rfl))⟩
  rw [List.mem_singleton.mp hp]
  show K.lookup P = none
  cases hk : K.lookup P with
  | none => rfl
  | some o =>
    have e := X _ _ hk
    rw [hT] at e
    cases e
    unfold noTabs at nt
    have z := List.all_eq_true.mp nt _ (mem_of_lookupK hk)
    simp [tabObj] at z
theorem lawat2 {l : OpenLaw} {w : World} {K : Frag} {q : Program} {loose : List Str} {mean : ExcName → Option Value} {d d2 : DefRec} {h : Heap} {mg mb : Str → Option Value} {fa c P c2 P2 : Addr} {fd : FuncData} {k n : Nat} {x x2 : Str} {sp : Sp} (TT : Top q loose mean mg mb h) (X : K.In h) (nt : noTabs K = true)
    (hrec : (recsOf q).find? (fun e => e.name == ("law" : Str)) = some d) (ti : tabIn K "law" = some (c, P)) (hrec2 : (recsOf q).find? (fun e => e.name == x2) = some d2) (ti2 : tabIn K x2 = some (c2, P2)) (hb : ∀ (s : Shared) (u : Value), BindsTo s fd ⟨[u], []⟩ [(x, u)]) (F : ∀ base : Heap, K.In base → base.Ns mainGlobals mg → TabB base mg c P → TabB base mg c2 P2 → FnOk l.prog w K mg base C8.CX0 k fa fd [x] sp)
    (hsp : ∀ (H : Hp) (a : Addr) (ns : List Int), ns.length ≤ n → H P = some (.tbl #[]) → H P2 = some (.tbl #[]) → SqL K H a (ns.map V.int) → sp [.ref a] H (fun v _ => v = .bl true) fun _ _ _ => False) : LawAtS l w K C8.CX0 k n x mg fa h := by
  obtain ⟨C, hT⟩ := tab_of TT X hrec ti
  obtain ⟨C2, hT2⟩ := tab_of TT X hrec2 ti2
  have none_of : ∀ {c P : Addr}, h.get? P = some { cls := .none, data := .fields #[] } → K.lookup P = none := fun {c P} hT => by
    cases hk : K.lookup P with
    | none => rfl
    | some o =>
      have e := X _ _ hk
      rw [hT] at e
      cases e
      unfold noTabs at nt
      have z := List.all_eq_true.mp nt _ (mem_of_lookupK hk)
      simp [tabObj] at z
  have two : ∀ {R : Addr × Addr → Prop}, R (c, P) → R (c2, P2) → ∀ p ∈ [(c, P), (c2, P2)], R p := fun r1 r2 p hp => by
    rcases List.mem_cons.mp hp with e | hp
    · rw [e]; exact r1
    · rw [List.mem_singleton.mp hp]; exact r2
  exact ⟨fd, [(c, P), (c2, P2)], sp, two (R := fun p => h.get? p.2 = some { cls := .none, data := .fields #[] }) hT hT2, two (R := fun p => K.lookup p.2 = none) (none_of (c := c) hT) (none_of (c := c) hT2), two (R := fun p => CodeHd h p.1 p.2) C C2, hb,
    fun H a ns hl _ hH hS => hsp H a ns hl (hH (c, P) (List.mem_cons_self)) (hH (c2, P2) (List.mem_cons_of_mem _ (List.mem_singleton.mpr rfl))) hS, fun base KB GB hTB => F base KB GB (hTB (c, P) (List.mem_cons_self)) (hTB (c2, P2) (List.mem_cons_of_mem _ (List.mem_singleton.mpr rfl)))⟩
theorem walk_lam {l : OpenLaw} {n k : Nat} {q : Program} {loose : List Str} {XP : (Str → Option Value) → Heap → Prop} {YP : World → Heap → Prop} {d : DefRec} {K : Params → Frag} {x : Str} (hn : l.most = some n) (hn2 : n ≤ sizeLine) (hdf : d.params.defaults = []) (hr : Room k callerA) (hY : ∀ (w : World) (h : Heap), YP w h → (K w.params).In h)
    (F : ∀ (w : World) (lo : List Str) (mean : ExcName → Option Value) (mg mb : Str → Option Value) (fa : Addr) (h : Heap), (K w.params).In h → Top q lo mean mg mb h → mg d.name = some (.ref fa) → LawAtS l w (K w.params) C8.CX0 k n x mg fa h) : WalkO q loose XP YP l.row.toRowW d [] (fun f vs => PySem.call f vs) := by
  refine attach_callB hn hdf fun w s₀ s₁ mg mb fa o pm cd doc a vs ns G Y ho hd hcd hmg hobj hints hlen hbits hg => ?_
  have KX := hY w _ Y
  obtain ⟨fd, cs, sp, hT, nT, C, hb, hsp, hF⟩ := F w _ _ mg mb fa _ KX G.T hmg
  exact law_callTs KX G.T.g G.T.b G.T.builtins G.T.nolimit hg hT nT C G.T.bmain hobj hints (Nat.le_trans hlen hn2) hr hF hb (fun H hH hS => hsp H a ns hlen hbits hH hS) fun H e s' z => z
end
end
def top (i : Nat) : Stmt := PySem.Challenge.pw_keepbefore_k76_logs_that_cannot_be.main.body.getD i (.Pass ⟨0, 0, 0, 0⟩)
abbrev s_is_number : Stmt := top 31
theorem sc_is_number : FnScope ["thing"] ["thing"] (defScope s_is_number) := ⟨rfl, rfl, rfl, by decide +kernel, rfl, by decide +kernel, by decide +kernel⟩
abbrev s_is_number_from : Stmt := top 32
theorem sc_is_number_from : FnScope ["thing", "least", "most"] ["thing", "least", "most"] (defScope s_is_number_from) := ⟨rfl, rfl, rfl, by decide +kernel, rfl, by decide +kernel, by decide +kernel⟩
abbrev s_check_blocks : Stmt := top 33
theorem sc_check_blocks : FnScope ["blocks", "most"] ["blocks", "most"] (defScope s_check_blocks) := ⟨rfl, rfl, rfl, by decide +kernel, rfl, by decide +kernel, by decide +kernel⟩
abbrev s_Possibilities___init__ : Stmt := inClass (top 37) 0
theorem sc_Possibilities___init__ : FnScope ["self", "blocks", "_"] ["self", "blocks"] (defScope s_Possibilities___init__) := ⟨rfl, rfl, rfl, by decide +kernel, rfl, by decide +kernel, by decide +kernel⟩
abbrev s_Possibilities_follow : Stmt := inClass (top 37) 1
theorem sc_Possibilities_follow : FnScope ["self", "entry", "word", "block", "value"] ["self", "entry"] (defScope s_Possibilities_follow) := ⟨rfl, rfl, rfl, by decide +kernel, rfl, by decide +kernel, by decide +kernel⟩
abbrev s_Possibilities_values_now : Stmt := inClass (top 37) 2
theorem sc_Possibilities_values_now : FnScope ["self", "values", "block", "value", "some"] ["self"] (defScope s_Possibilities_values_now) := ⟨rfl, rfl, rfl, by decide +kernel, rfl, by decide +kernel, by decide +kernel⟩
abbrev s_first_error : Stmt := top 38
theorem sc_first_error : FnScope ["blocks", "log"] ["blocks", "log"] (defScope s_first_error) := ⟨rfl, rfl, rfl, by decide +kernel, rfl, by decide +kernel, by decide +kernel⟩
abbrev s_possible_values : Stmt := top 39
theorem sc_possible_values : FnScope ["blocks", "log", "error", "walked", "values"] ["blocks", "log"] (defScope s_possible_values) := ⟨rfl, rfl, rfl, by decide +kernel, rfl, by decide +kernel, by decide +kernel⟩
abbrev s__walk : Stmt := top 40
theorem sc__walk : FnScope ["blocks", "log", "walked", "index", "entry"] ["blocks", "log"] (defScope s__walk) := ⟨rfl, rfl, rfl, by decide +kernel, rfl, by decide +kernel, by decide +kernel⟩
abbrev s__has_form : Stmt := top 41
theorem sc__has_form : FnScope ["entry", "blocks"] ["entry", "blocks"] (defScope s__has_form) := ⟨rfl, rfl, rfl, by decide +kernel, rfl, by decide +kernel, by decide +kernel⟩
abbrev s__law_random : Stmt := top 43
theorem sc__law_random : FnScope ["_law_script", "_law_salt", "_law_seed", "_law_cell"] ["_law_script", "_law_salt"] (defScope s__law_random) := ⟨rfl, rfl, rfl, by decide +kernel, rfl, by decide +kernel, by decide +kernel⟩
abbrev s__law_below : Stmt := top 44
theorem sc__law_below : FnScope ["_law_d", "_law_limit", "_law_result"] ["_law_d", "_law_limit"] (defScope s__law_below) := ⟨rfl, rfl, rfl, by decide +kernel, rfl, by decide +kernel, by decide +kernel⟩
abbrev s__law_log : Stmt := top 45
theorem sc__law_log : FnScope ["_law_d", "_law_blocks", "_law_length", "_law_block", "_law_log_here", "_law_possible", "_law_under", "_law_k", "_law_value", "_law_way", "_law_old", "_law_some"] ["_law_d", "_law_blocks", "_law_length"] (defScope s__law_log) := ⟨rfl, rfl, rfl, by decide +kernel, rfl, by decide +kernel, by decide +kernel⟩
abbrev s__law_equal : Stmt := top 46
theorem sc__law_equal : FnScope ["_law_actual", "_law_expected", "_law_k"] ["_law_actual", "_law_expected"] (defScope s__law_equal) := ⟨rfl, rfl, rfl, by decide +kernel, rfl, by decide +kernel, by decide +kernel⟩
abbrev s__law_told_of : Stmt := top 47
theorem sc__law_told_of : FnScope ["_law_e", "_law_name"] ["_law_e", "_law_name"] (defScope s__law_told_of) := ⟨rfl, rfl, rfl, by decide +kernel, rfl, by decide +kernel, by decide +kernel⟩
abbrev s__law_error_of : Stmt := top 48
theorem sc__law_error_of : FnScope ["_law_call", "_law_e", "_law_kinds", "_law_names"] ["_law_call"] (defScope s__law_error_of) := ⟨rfl, rfl, rfl, by decide +kernel, rfl, by decide +kernel, by decide +kernel⟩
abbrev s__law_all_raise : Stmt := top 49
theorem sc__law_all_raise : FnScope ["_law_calls", "_law_expected", "_law_call"] ["_law_calls", "_law_expected"] (defScope s__law_all_raise) := ⟨rfl, rfl, rfl, by decide +kernel, rfl, by decide +kernel, by decide +kernel⟩
abbrev s_law : Stmt := top 50
theorem sc_law : FnScope ["_law_script", "_law_d", "_law_step", "_law_blocks", "_law_possible", "_law_under", "_law_block", "_law_kind", "_law_bad", "_law_entry", "_law_more", "_law_calls", "_law_log_here", "_law_none", "_law_odd", "_law_value"] ["_law_script"] (defScope s_law) := ⟨rfl, rfl, rfl, by decide +kernel, rfl, by decide +kernel, by decide +kernel⟩
/-- a written tuple -/
def TupK (K : PySem.W.Frag) (a : Addr) (xs : List V) : Prop := ∀ H : Hp, SqT K H a xs
theorem TupK.of {K : PySem.W.Frag} {a : Addr} {xs : List V} {od : Option Addr} {its : Array Value} {n : Nat} {sl : Array (Option Value)} (h : K.lookup a = some ⟨.type "tuple", od, .seq its n, sl⟩) (hz : its.size ≤ sizeLine) (r : Vals xs its.toList) : TupK K a xs :=
  fun _ => .inr ⟨_, its, n, h, rfl, rfl, hz, r⟩
structure Gx (K : PySem.W.Frag) (mg : Str → Option Value) where
  C_Possibilities : Addr
  cl_Possibilities : Cls K C_Possibilities
  gC_Possibilities : mg "Possibilities" = some (.ref C_Possibilities)
  n_Possibilities__values : NoAttr K C_Possibilities "_values"
  n_Possibilities__under_way : NoAttr K C_Possibilities "_under_way"
  f_is_number : Addr
  fd_is_number : FuncData
  F_is_number : Fun K "is_number" "is_number" s_is_number f_is_number fd_is_number
  g_is_number : mg "is_number" = some (.ref f_is_number)
  f_is_number_from : Addr
  fd_is_number_from : FuncData
  F_is_number_from : Fun K "is_number_from" "is_number_from" s_is_number_from f_is_number_from fd_is_number_from
  g_is_number_from : mg "is_number_from" = some (.ref f_is_number_from)
  f_check_blocks : Addr
  fd_check_blocks : FuncData
  F_check_blocks : FunD K "check_blocks" "check_blocks" (defArgs s_check_blocks) (defBody s_check_blocks) (defScope s_check_blocks) [.int 16] [] f_check_blocks fd_check_blocks
  g_check_blocks : mg "check_blocks" = some (.ref f_check_blocks)
  f_Possibilities___init__ : Addr
  fd_Possibilities___init__ : FuncData
  F_Possibilities___init__ : Fun K "__init__" "Possibilities.__init__" s_Possibilities___init__ f_Possibilities___init__ fd_Possibilities___init__
  M_Possibilities___init__ : Mk K C_Possibilities f_Possibilities___init__
  f_Possibilities_follow : Addr
  fd_Possibilities_follow : FuncData
  F_Possibilities_follow : Fun K "follow" "Possibilities.follow" s_Possibilities_follow f_Possibilities_follow fd_Possibilities_follow
  m_Possibilities_follow : Meth K C_Possibilities "follow" f_Possibilities_follow
  f_Possibilities_values_now : Addr
  fd_Possibilities_values_now : FuncData
  F_Possibilities_values_now : Fun K "values_now" "Possibilities.values_now" s_Possibilities_values_now f_Possibilities_values_now fd_Possibilities_values_now
  m_Possibilities_values_now : Meth K C_Possibilities "values_now" f_Possibilities_values_now
  f_first_error : Addr
  fd_first_error : FuncData
  F_first_error : Fun K "first_error" "first_error" s_first_error f_first_error fd_first_error
  g_first_error : mg "first_error" = some (.ref f_first_error)
  f_possible_values : Addr
  fd_possible_values : FuncData
  F_possible_values : Fun K "possible_values" "possible_values" s_possible_values f_possible_values fd_possible_values
  g_possible_values : mg "possible_values" = some (.ref f_possible_values)
  f__walk : Addr
  fd__walk : FuncData
  F__walk : Fun K "_walk" "_walk" s__walk f__walk fd__walk
  g__walk : mg "_walk" = some (.ref f__walk)
  f__has_form : Addr
  fd__has_form : FuncData
  F__has_form : Fun K "_has_form" "_has_form" s__has_form f__has_form fd__has_form
  g__has_form : mg "_has_form" = some (.ref f__has_form)
  f__law_random : Addr
  fd__law_random : FuncData
  F__law_random : Fun K "_law_random" "_law_random" s__law_random f__law_random fd__law_random
  g__law_random : mg "_law_random" = some (.ref f__law_random)
  f__law_below : Addr
  fd__law_below : FuncData
  F__law_below : Fun K "_law_below" "_law_below" s__law_below f__law_below fd__law_below
  g__law_below : mg "_law_below" = some (.ref f__law_below)
  f__law_log : Addr
  fd__law_log : FuncData
  F__law_log : Fun K "_law_log" "_law_log" s__law_log f__law_log fd__law_log
  g__law_log : mg "_law_log" = some (.ref f__law_log)
  f__law_equal : Addr
  fd__law_equal : FuncData
  F__law_equal : Fun K "_law_equal" "_law_equal" s__law_equal f__law_equal fd__law_equal
  g__law_equal : mg "_law_equal" = some (.ref f__law_equal)
  f__law_told_of : Addr
  fd__law_told_of : FuncData
  F__law_told_of : Fun K "_law_told_of" "_law_told_of" s__law_told_of f__law_told_of fd__law_told_of
  g__law_told_of : mg "_law_told_of" = some (.ref f__law_told_of)
  f__law_error_of : Addr
  fd__law_error_of : FuncData
  F__law_error_of : Fun K "_law_error_of" "_law_error_of" s__law_error_of f__law_error_of fd__law_error_of
  g__law_error_of : mg "_law_error_of" = some (.ref f__law_error_of)
  f__law_all_raise : Addr
  fd__law_all_raise : FuncData
  F__law_all_raise : Fun K "_law_all_raise" "_law_all_raise" s__law_all_raise f__law_all_raise fd__law_all_raise
  g__law_all_raise : mg "_law_all_raise" = some (.ref f__law_all_raise)
  z_isinstance : mg "isinstance" = none
  z_int : mg "int" = none
  z_bool : mg "bool" = none
  z_str : mg "str" = none
  z_list : mg "list" = none
  z_tuple : mg "tuple" = none
  z_len : mg "len" = none
  z_abs : mg "abs" = none
  z_range : mg "range" = none
  z_enumerate : mg "enumerate" = none
  z_sorted : mg "sorted" = none
  z_all : mg "all" = none
  z_ValueError : mg "ValueError" = none
  t_MOST_BLOCKS : Tok
  c_MOST_BLOCKS : mg "MOST_BLOCKS" = some (.int (16) t_MOST_BLOCKS)
  t_MOST_VALUE : Tok
  c_MOST_VALUE : mg "MOST_VALUE" = some (.int (999) t_MOST_VALUE)
  t_ANY_VALUE : Tok
  c_ANY_VALUE : mg "ANY_VALUE" = some (.int (-1) t_ANY_VALUE)
  A_ENTRY_FORMS_0 : Addr
  k_ENTRY_FORMS_0 : TupK K A_ENTRY_FORMS_0 [.str "read", .int 3]
  A_ENTRY_FORMS_1 : Addr
  k_ENTRY_FORMS_1 : TupK K A_ENTRY_FORMS_1 [.str "begin", .int 3]
  A_ENTRY_FORMS_2 : Addr
  k_ENTRY_FORMS_2 : TupK K A_ENTRY_FORMS_2 [.str "done", .int 1]
  A_ENTRY_FORMS_3 : Addr
  k_ENTRY_FORMS_3 : TupK K A_ENTRY_FORMS_3 [.str "fail", .int 1]
  A_ENTRY_FORMS_4 : Addr
  k_ENTRY_FORMS_4 : TupK K A_ENTRY_FORMS_4 [.str "lost", .int 2]
  A_ENTRY_FORMS : Addr
  g_ENTRY_FORMS : mg "ENTRY_FORMS" = some (.ref A_ENTRY_FORMS)
  k_ENTRY_FORMS : TupK K A_ENTRY_FORMS [.ref A_ENTRY_FORMS_0, .ref A_ENTRY_FORMS_1, .ref A_ENTRY_FORMS_2, .ref A_ENTRY_FORMS_3, .ref A_ENTRY_FORMS_4]
  file : Str
  third : PySem.W.nsIn K cStatics "thirdparty.any" = some none
  C_InvalidSize : Addr
  gC_InvalidSize : mg "InvalidSize" = some (.ref C_InvalidSize)
  ic_InvalidSize : PySem.W.isClsIn K C_InvalidSize = true
  ty_InvalidSize : PySem.W.typeIn K (.ref C_InvalidSize) = some (.type "type")
  C_InvalidCell : Addr
  gC_InvalidCell : mg "InvalidCell" = some (.ref C_InvalidCell)
  ic_InvalidCell : PySem.W.isClsIn K C_InvalidCell = true
  ty_InvalidCell : PySem.W.typeIn K (.ref C_InvalidCell) = some (.type "type")
  C_InvalidKept : Addr
  gC_InvalidKept : mg "InvalidKept" = some (.ref C_InvalidKept)
  ic_InvalidKept : PySem.W.isClsIn K C_InvalidKept = true
  ty_InvalidKept : PySem.W.typeIn K (.ref C_InvalidKept) = some (.type "type")
  C_InvalidBlock : Addr
  gC_InvalidBlock : mg "InvalidBlock" = some (.ref C_InvalidBlock)
  ic_InvalidBlock : PySem.W.isClsIn K C_InvalidBlock = true
  ty_InvalidBlock : PySem.W.typeIn K (.ref C_InvalidBlock) = some (.type "type")
  C_InvalidValue : Addr
  gC_InvalidValue : mg "InvalidValue" = some (.ref C_InvalidValue)
  ic_InvalidValue : PySem.W.isClsIn K C_InvalidValue = true
  ty_InvalidValue : PySem.W.typeIn K (.ref C_InvalidValue) = some (.type "type")
  C_InvalidCount : Addr
  gC_InvalidCount : mg "InvalidCount" = some (.ref C_InvalidCount)
  ic_InvalidCount : PySem.W.isClsIn K C_InvalidCount = true
  ty_InvalidCount : PySem.W.typeIn K (.ref C_InvalidCount) = some (.type "type")
  C_InvalidSlot : Addr
  gC_InvalidSlot : mg "InvalidSlot" = some (.ref C_InvalidSlot)
  ic_InvalidSlot : PySem.W.isClsIn K C_InvalidSlot = true
  ty_InvalidSlot : PySem.W.typeIn K (.ref C_InvalidSlot) = some (.type "type")
  C_InvalidWord : Addr
  gC_InvalidWord : mg "InvalidWord" = some (.ref C_InvalidWord)
  ic_InvalidWord : PySem.W.isClsIn K C_InvalidWord = true
  ty_InvalidWord : PySem.W.typeIn K (.ref C_InvalidWord) = some (.type "type")
  C_InvalidStory : Addr
  gC_InvalidStory : mg "InvalidStory" = some (.ref C_InvalidStory)
  ic_InvalidStory : PySem.W.isClsIn K C_InvalidStory = true
  ty_InvalidStory : PySem.W.typeIn K (.ref C_InvalidStory) = some (.type "type")
  C_PowerOff : Addr
  gC_PowerOff : mg "PowerOff" = some (.ref C_PowerOff)
  ic_PowerOff : PySem.W.isClsIn K C_PowerOff = true
  ty_PowerOff : PySem.W.typeIn K (.ref C_PowerOff) = some (.type "type")
  C_PowerOn : Addr
  gC_PowerOn : mg "PowerOn" = some (.ref C_PowerOn)
  ic_PowerOn : PySem.W.isClsIn K C_PowerOn = true
  ty_PowerOn : PySem.W.typeIn K (.ref C_PowerOn) = some (.type "type")
  C_NoFastDisk : Addr
  gC_NoFastDisk : mg "NoFastDisk" = some (.ref C_NoFastDisk)
  ic_NoFastDisk : PySem.W.isClsIn K C_NoFastDisk = true
  ty_NoFastDisk : PySem.W.typeIn K (.ref C_NoFastDisk) = some (.type "type")
  C_HasFastDisk : Addr
  gC_HasFastDisk : mg "HasFastDisk" = some (.ref C_HasFastDisk)
  ic_HasFastDisk : PySem.W.isClsIn K C_HasFastDisk = true
  ty_HasFastDisk : PySem.W.typeIn K (.ref C_HasFastDisk) = some (.type "type")
  C_Unsettled : Addr
  gC_Unsettled : mg "Unsettled" = some (.ref C_Unsettled)
  ic_Unsettled : PySem.W.isClsIn K C_Unsettled = true
  ty_Unsettled : PySem.W.typeIn K (.ref C_Unsettled) = some (.type "type")
  C_Contradiction : Addr
  gC_Contradiction : mg "Contradiction" = some (.ref C_Contradiction)
  ic_Contradiction : PySem.W.isClsIn K C_Contradiction = true
  ty_Contradiction : PySem.W.typeIn K (.ref C_Contradiction) = some (.type "type")
  C_InvalidName : Addr
  gC_InvalidName : mg "InvalidName" = some (.ref C_InvalidName)
  ic_InvalidName : PySem.W.isClsIn K C_InvalidName = true
  ty_InvalidName : PySem.W.typeIn K (.ref C_InvalidName) = some (.type "type")
  C_UnknownName : Addr
  gC_UnknownName : mg "UnknownName" = some (.ref C_UnknownName)
  ic_UnknownName : PySem.W.isClsIn K C_UnknownName = true
  ty_UnknownName : PySem.W.typeIn K (.ref C_UnknownName) = some (.type "type")
  C_InvalidRules : Addr
  gC_InvalidRules : mg "InvalidRules" = some (.ref C_InvalidRules)
  ic_InvalidRules : PySem.W.isClsIn K C_InvalidRules = true
  ty_InvalidRules : PySem.W.typeIn K (.ref C_InvalidRules) = some (.type "type")
  C_InvalidRecipes : Addr
  gC_InvalidRecipes : mg "InvalidRecipes" = some (.ref C_InvalidRecipes)
  ic_InvalidRecipes : PySem.W.isClsIn K C_InvalidRecipes = true
  ty_InvalidRecipes : PySem.W.typeIn K (.ref C_InvalidRecipes) = some (.type "type")
  C_InvalidRequests : Addr
  gC_InvalidRequests : mg "InvalidRequests" = some (.ref C_InvalidRequests)
  ic_InvalidRequests : PySem.W.isClsIn K C_InvalidRequests = true
  ty_InvalidRequests : PySem.W.typeIn K (.ref C_InvalidRequests) = some (.type "type")
  C_InvalidPrices : Addr
  gC_InvalidPrices : mg "InvalidPrices" = some (.ref C_InvalidPrices)
  ic_InvalidPrices : PySem.W.isClsIn K C_InvalidPrices = true
  ty_InvalidPrices : PySem.W.typeIn K (.ref C_InvalidPrices) = some (.type "type")
  C_InvalidPlan : Addr
  gC_InvalidPlan : mg "InvalidPlan" = some (.ref C_InvalidPlan)
  ic_InvalidPlan : PySem.W.isClsIn K C_InvalidPlan = true
  ty_InvalidPlan : PySem.W.typeIn K (.ref C_InvalidPlan) = some (.type "type")
  C_PowerFailed : Addr
  gC_PowerFailed : mg "PowerFailed" = some (.ref C_PowerFailed)
  ic_PowerFailed : PySem.W.isClsIn K C_PowerFailed = true
  ty_PowerFailed : PySem.W.typeIn K (.ref C_PowerFailed) = some (.type "type")
  C_InvalidOperation : Addr
  gC_InvalidOperation : mg "InvalidOperation" = some (.ref C_InvalidOperation)
  ic_InvalidOperation : PySem.W.isClsIn K C_InvalidOperation = true
  ty_InvalidOperation : PySem.W.typeIn K (.ref C_InvalidOperation) = some (.type "type")
  C_NotationError : Addr
  gC_NotationError : mg "NotationError" = some (.ref C_NotationError)
  ic_NotationError : PySem.W.isClsIn K C_NotationError = true
  ty_NotationError : PySem.W.typeIn K (.ref C_NotationError) = some (.type "type")
  C_DecodeError : Addr
  gC_DecodeError : mg "DecodeError" = some (.ref C_DecodeError)
  ic_DecodeError : PySem.W.isClsIn K C_DecodeError = true
  ty_DecodeError : PySem.W.typeIn K (.ref C_DecodeError) = some (.type "type")
  C_PairError : Addr
  gC_PairError : mg "PairError" = some (.ref C_PairError)
  ic_PairError : PySem.W.isClsIn K C_PairError = true
  ty_PairError : PySem.W.typeIn K (.ref C_PairError) = some (.type "type")
  pb : PySem.W.subIn K (.ref C_PairError) (.type "BaseException") = some true
  ph : PySem.W.hasDictIn K C_PairError = true
  sb_InvalidSize_InvalidSize : PySem.W.subIn K (.ref C_InvalidSize) (.ref C_InvalidSize) = some true
  sb_InvalidSize_InvalidCell : PySem.W.subIn K (.ref C_InvalidSize) (.ref C_InvalidCell) = some false
  sb_InvalidSize_InvalidKept : PySem.W.subIn K (.ref C_InvalidSize) (.ref C_InvalidKept) = some false
  sb_InvalidSize_InvalidBlock : PySem.W.subIn K (.ref C_InvalidSize) (.ref C_InvalidBlock) = some false
  sb_InvalidSize_InvalidValue : PySem.W.subIn K (.ref C_InvalidSize) (.ref C_InvalidValue) = some false
  sb_InvalidSize_InvalidCount : PySem.W.subIn K (.ref C_InvalidSize) (.ref C_InvalidCount) = some false
  sb_InvalidSize_InvalidSlot : PySem.W.subIn K (.ref C_InvalidSize) (.ref C_InvalidSlot) = some false
  sb_InvalidSize_InvalidWord : PySem.W.subIn K (.ref C_InvalidSize) (.ref C_InvalidWord) = some false
  sb_InvalidSize_InvalidStory : PySem.W.subIn K (.ref C_InvalidSize) (.ref C_InvalidStory) = some false
  sb_InvalidSize_PowerOff : PySem.W.subIn K (.ref C_InvalidSize) (.ref C_PowerOff) = some false
  sb_InvalidSize_PowerOn : PySem.W.subIn K (.ref C_InvalidSize) (.ref C_PowerOn) = some false
  sb_InvalidSize_NoFastDisk : PySem.W.subIn K (.ref C_InvalidSize) (.ref C_NoFastDisk) = some false
  sb_InvalidSize_HasFastDisk : PySem.W.subIn K (.ref C_InvalidSize) (.ref C_HasFastDisk) = some false
  sb_InvalidSize_Unsettled : PySem.W.subIn K (.ref C_InvalidSize) (.ref C_Unsettled) = some false
  sb_InvalidSize_Contradiction : PySem.W.subIn K (.ref C_InvalidSize) (.ref C_Contradiction) = some false
  sb_InvalidSize_InvalidName : PySem.W.subIn K (.ref C_InvalidSize) (.ref C_InvalidName) = some false
  sb_InvalidSize_UnknownName : PySem.W.subIn K (.ref C_InvalidSize) (.ref C_UnknownName) = some false
  sb_InvalidSize_InvalidRules : PySem.W.subIn K (.ref C_InvalidSize) (.ref C_InvalidRules) = some false
  sb_InvalidSize_InvalidRecipes : PySem.W.subIn K (.ref C_InvalidSize) (.ref C_InvalidRecipes) = some false
  sb_InvalidSize_InvalidRequests : PySem.W.subIn K (.ref C_InvalidSize) (.ref C_InvalidRequests) = some false
  sb_InvalidSize_InvalidPrices : PySem.W.subIn K (.ref C_InvalidSize) (.ref C_InvalidPrices) = some false
  sb_InvalidSize_InvalidPlan : PySem.W.subIn K (.ref C_InvalidSize) (.ref C_InvalidPlan) = some false
  sb_InvalidSize_PowerFailed : PySem.W.subIn K (.ref C_InvalidSize) (.ref C_PowerFailed) = some false
  sb_InvalidSize_InvalidOperation : PySem.W.subIn K (.ref C_InvalidSize) (.ref C_InvalidOperation) = some false
  sb_InvalidSize_NotationError : PySem.W.subIn K (.ref C_InvalidSize) (.ref C_NotationError) = some false
  sb_InvalidSize_DecodeError : PySem.W.subIn K (.ref C_InvalidSize) (.ref C_DecodeError) = some false
  sb_InvalidSize_PairError : PySem.W.subIn K (.ref C_InvalidSize) (.ref C_PairError) = some true
  vb_InvalidSize : PySem.W.subIn K (.ref C_InvalidSize) (.type "ValueError") = some true
  E_InvalidSize : ExcC K C_InvalidSize
  kp_InvalidSize : PySem.W.keepIn K (.ref C_InvalidSize) = true
  pl_InvalidSize : PySem.W.excIn K C_InvalidSize PySem.HandSPX.veTail "ValueError.__new__" = true
section
variable {K : PySem.W.Frag} {mg : Str → Option Value}
theorem b_is_number (T : Gx K mg) : Binds K T.fd_is_number ["thing"] [] := T.F_is_number.binds (ps := ["thing"]) fun _ _ _ _ _ _ us hl => match us, hl with | [_], _ => rfl
theorem b_is_number_from (T : Gx K mg) : Binds K T.fd_is_number_from ["thing", "least", "most"] [] := T.F_is_number_from.binds (ps := ["thing", "least", "most"]) fun _ _ _ _ _ _ us hl => match us, hl with | [_, _, _], _ => rfl
theorem b_Possibilities___init__ (T : Gx K mg) : Binds K T.fd_Possibilities___init__ ["self", "blocks"] [] := T.F_Possibilities___init__.binds (ps := ["self", "blocks"]) fun _ _ _ _ _ _ us hl => match us, hl with | [_, _], _ => rfl
theorem b_Possibilities_follow (T : Gx K mg) : Binds K T.fd_Possibilities_follow ["self", "entry"] [] := T.F_Possibilities_follow.binds (ps := ["self", "entry"]) fun _ _ _ _ _ _ us hl => match us, hl with | [_, _], _ => rfl
theorem b_Possibilities_values_now (T : Gx K mg) : Binds K T.fd_Possibilities_values_now ["self"] [] := T.F_Possibilities_values_now.binds (ps := ["self"]) fun _ _ _ _ _ _ us hl => match us, hl with | [_], _ => rfl
theorem b_first_error (T : Gx K mg) : Binds K T.fd_first_error ["blocks", "log"] [] := T.F_first_error.binds (ps := ["blocks", "log"]) fun _ _ _ _ _ _ us hl => match us, hl with | [_, _], _ => rfl
theorem b_possible_values (T : Gx K mg) : Binds K T.fd_possible_values ["blocks", "log"] [] := T.F_possible_values.binds (ps := ["blocks", "log"]) fun _ _ _ _ _ _ us hl => match us, hl with | [_, _], _ => rfl
theorem b__walk (T : Gx K mg) : Binds K T.fd__walk ["blocks", "log"] [] := T.F__walk.binds (ps := ["blocks", "log"]) fun _ _ _ _ _ _ us hl => match us, hl with | [_, _], _ => rfl
theorem b__has_form (T : Gx K mg) : Binds K T.fd__has_form ["entry", "blocks"] [] := T.F__has_form.binds (ps := ["entry", "blocks"]) fun _ _ _ _ _ _ us hl => match us, hl with | [_, _], _ => rfl
theorem b__law_random (T : Gx K mg) : Binds K T.fd__law_random ["_law_script", "_law_salt"] [] := T.F__law_random.binds (ps := ["_law_script", "_law_salt"]) fun _ _ _ _ _ _ us hl => match us, hl with | [_, _], _ => rfl
theorem b__law_below (T : Gx K mg) : Binds K T.fd__law_below ["_law_d", "_law_limit"] [] := T.F__law_below.binds (ps := ["_law_d", "_law_limit"]) fun _ _ _ _ _ _ us hl => match us, hl with | [_, _], _ => rfl
theorem b__law_log (T : Gx K mg) : Binds K T.fd__law_log ["_law_d", "_law_blocks", "_law_length"] [] := T.F__law_log.binds (ps := ["_law_d", "_law_blocks", "_law_length"]) fun _ _ _ _ _ _ us hl => match us, hl with | [_, _, _], _ => rfl
theorem b__law_equal (T : Gx K mg) : Binds K T.fd__law_equal ["_law_actual", "_law_expected"] [] := T.F__law_equal.binds (ps := ["_law_actual", "_law_expected"]) fun _ _ _ _ _ _ us hl => match us, hl with | [_, _], _ => rfl
theorem b__law_told_of (T : Gx K mg) : Binds K T.fd__law_told_of ["_law_e", "_law_name"] [] := T.F__law_told_of.binds (ps := ["_law_e", "_law_name"]) fun _ _ _ _ _ _ us hl => match us, hl with | [_, _], _ => rfl
theorem b__law_error_of (T : Gx K mg) : Binds K T.fd__law_error_of ["_law_call"] [] := T.F__law_error_of.binds (ps := ["_law_call"]) fun _ _ _ _ _ _ us hl => match us, hl with | [_], _ => rfl
theorem b__law_all_raise (T : Gx K mg) : Binds K T.fd__law_all_raise ["_law_calls", "_law_expected"] [] := T.F__law_all_raise.binds (ps := ["_law_calls", "_law_expected"]) fun _ _ _ _ _ _ us hl => match us, hl with | [_, _], _ => rfl
end
theorem some_of {H H' : Hp} {S : List Addr} (f : Fr S H H') (hs : ∀ b ∈ S, ∃ o, H' b = some o) {p : Addr} (h : H' p = none) : H p = none := by
  cases e : H p with
  | none => rfl
  | some o =>
    by_cases hp : p ∈ S
    · obtain ⟨o', e'⟩ := hs p hp
      rw [e'] at h
      cases h
    · rw [f p o e hp] at h
      cases h
theorem pe_never {X : Cx} {e : Expr} : PE X e (fun _ _ _ => False) := ⟨fun _ _ _ _ _ _ h => h.elim⟩
theorem iteFb {A B : Prop} {b : Bool} (e : b = false) (h : B) : if b = true then A else B := by
  rw [if_neg (by rw [e]; simp)]
  exact h
theorem iteTb {A B : Prop} {b : Bool} (e : b = true) (h : A) : if b = true then A else B := by
  rw [if_pos e]
  exact h
/-! ### the law's random list -/
def Rnd (H : Hp) (r : Addr) : Prop := ∃ (a b : Int) (ns : List Int), H r = some (.lst (V.int a :: V.int b :: ns.map V.int))
def spBelow : Sp := fun vs H Q _ => ∃ (r : Addr) (lim : Nat), vs = [.ref r, .int (lim : Int)] ∧ Rnd H r ∧ 0 < lim ∧ lim < 1180591620717411303424 ∧ ∀ (z : Nat) (H' : Hp), z < lim → Fr [r] H H' → Rnd H' r → Q (.int (z : Int)) H'
theorem Rnd.put {H : Hp} {r : Addr} (a b : Int) (ns : List Int) : Rnd (upd H r (.lst (V.int a :: V.int b :: ns.map V.int))) r := ⟨a, b, ns, upd_same⟩
theorem Rnd.notup {H : Hp} {r : Addr} (h : Rnd H r) : ∀ b ∈ [r], ∀ xs, H b ≠ some (.tup xs) := by
  obtain ⟨a, b, ns, e⟩ := h
  intro b hb xs
  rw [List.mem_singleton.mp hb, e]
  simp
theorem Rnd.keep {H H' : Hp} {r : Addr} {S : List Addr} (h : Rnd H r) (f : Fr S H H') (n : r ∉ S) : Rnd H' r := by
  obtain ⟨a, b, ns, e⟩ := h
  exact ⟨a, b, ns, f _ _ e n⟩
section
variable {P : Program} {w : World} {K : PySem.W.Frag} {mg : Str → Option Value} {base : Heap}
theorem ok_below (T : Gx K mg) : FnOk P w K mg base CX0 1 T.f__law_below T.fd__law_below ["_law_d", "_law_limit"] spBelow := by
  refine T.F__law_below.ok sc__law_below (fun vs H Q E h => ?_) (fun cdv A outer s H vs Q E hr h => ?_)
  · obtain ⟨r, lim, rfl, _⟩ := h
    rfl
  · obtain ⟨r, lin, rfl, hR, h0', h1', k'⟩ := h
    obtain ⟨lim, hlim⟩ : ∃ lim : Int, lim = (lin : Int) := ⟨_, rfl⟩
    have h0 : 0 < lim := by omega
    have h1 : lim < 1180591620717411303424 := by omega
    have k : ∀ (z : Int) (H' : Hp), 0 ≤ z → z < lim → Fr [r] H H' → Rnd H' r → Q (.int z) H' := fun z H' a b f g => by
      obtain ⟨n, rfl⟩ := Int.eq_ofNat_of_zero_le a
      exact k' n H' (by omega) f g
    rw [← hlim]
    refine ⟨_, C8.pss_cut (ps_if (PW.pt (pw_and (pt_cmpR op_eq (pe_ix ix_list (pv 0) pe_int (fun _ _ => rfl)) pe_int (nomark _))
          (pw_and1 (pt_cmpR op_gt (pe_callB call_len_seq (by rfl) T.z_len PySem.boot_len (pa_cons (pv 0) pa_nil)) pe_int (nomark _)))))
        (pss_one (ps_asg (pe_bm PySem.F.plainAttrs_list PySem.F.slot_list_pop PySem.F.type_list_pop mt_popAt (pv 0) (pa_cons pe_int pa_nil)) (pg_sub (pv 0) pe_int set_list))) pss_nil)
      (pss_cons (ps_if (pt_cmpR op_gt (pe_ix ix_list (pv 0) pe_int (fun _ _ => rfl)) pe_int (nomark _))
        (pss_cons (ps_set (i := 2) sc__law_below.nd rfl (.inl rfl) (pe_op op_mod (pe_callTy call_int1 (by rfl) T.z_int (by decide +kernel) (pa_cons (pe_ix ix_list (pv 0) pe_int (fun _ _ => rfl)) pa_nil)) (pv 1)))
        (pss_cons (ps_asg (pe_op op_fdivW (pe_ix ix_list (pv 0) pe_int (fun _ _ => rfl)) (pv 1)) (pg_sub (pv 0) pe_int set_list))
        (pss_one (ps_ret (pv 2))))) pss_nil)
      (pss_cons (ps_asg (pe_op op_mod (pe_callTy call_int1 (by rfl) T.z_int (by decide +kernel) (pa_cons (pe_op op_add (pe_op op_mul (pe_ix ix_list (pv 0) pe_int (fun _ _ => rfl)) pe_int) pe_int) pa_nil)) pe_int) (pg_sub (pv 0) pe_int set_list))
      (pss_one (ps_ret (pe_op op_mod (pe_callTy call_int1 (by rfl) T.z_int (by decide +kernel) (pa_cons (pe_op op_fdiv (pe_ix ix_list (pv 0) pe_int (fun _ _ => rfl)) pe_int) pa_nil)) (pv 1)))))), ?_⟩
    refine ⟨fun σ H1 => σ = [some (.ref r), some (.int lim), none] ∧ Rnd H1 r ∧ Fr [r] H H1, ?_, ?_⟩
    · obtain ⟨a, b, ns, e⟩ := hR
      have hR0 : Rnd H r := ⟨a, b, ns, e⟩
      refine ⟨_, rfl, r, _, 1, .int b, rfl, rfl, SqL.of e, atI_nat (j := 1) rfl, rfl, _, rfl, ite2 (fun hb => ?_) (fun hb => ?_)⟩
      · refine ⟨_, rfl, r, _, rfl, .inl (SqL.of e), _, _, rfl, rfl, _, rfl, ite2 (fun hl => ?_) (fun hl => ?_)⟩
        · have hl' : (2 : Int) < ((V.int a :: V.int b :: ns.map V.int).length : Int) := of_decide_eq_true hl
          cases ns with
          | nil => exact absurd hl' (by simp)
          | cons c rest =>
            refine ⟨_, rfl, .inl ⟨rfl, _, SqL.of e⟩, r, _, 2, 2, .int c, rfl, rfl, e, by decide, by decide, ?_, rfl, ?_⟩
            · show seqIndex? 2 _ = some 2
              unfold seqIndex?
              rw [List.length_cons, List.length_cons, List.map_cons, List.length_cons]
              simp
              omega
            · refine ⟨_, rfl, r, _, 1, 1, rfl, rfl, upd_same, ?_, rfl, ?_, ?_⟩
              · exact ix_at 1 (by simp [List.length_eraseIdx])
              · rw [upd_upd]
                exact Rnd.put a c rest
              · rw [upd_upd]
                exact Fr.put (List.mem_singleton.mpr rfl)
        · exact ⟨rfl, hR0, Fr.refl _ _⟩
      · exact ⟨rfl, hR0, Fr.refl _ _⟩
    · rintro σ' H1 ⟨rfl, ⟨a, b, ns, e⟩, fr⟩
      refine ⟨_, rfl, r, _, 1, .int b, rfl, rfl, SqL.of e, atI_nat (j := 1) rfl, _, _, rfl, rfl, _, rfl, ite2 (fun hb => ?_) (fun hb => ?_)⟩
      · refine ⟨_, rfl, r, _, 1, .int b, rfl, rfl, SqL.of e, atI_nat (j := 1) rfl, .inl ⟨_, rfl, ?_⟩⟩
        refine ⟨_, rfl, _, _, rfl, rfl, h0, ?_⟩
        refine ⟨_, rfl, r, _, 1, .int b, rfl, rfl, SqL.of e, atI_nat (j := 1) rfl, _, rfl, _, _, rfl, rfl, wide_div (b := 70) h0 (by omega) (by decide) (by decide), ?_⟩
        refine ⟨_, rfl, r, _, 1, 1, rfl, rfl, e, ix_at 1 (by simp), ?_⟩
        refine ⟨_, rfl, k _ _ (Int.emod_nonneg _ (by omega)) (Int.emod_lt_of_pos _ h0) (fr.trans (Fr.put (List.mem_singleton.mpr rfl))) (Rnd.put a _ ns)⟩
      · refine ⟨_, rfl, r, _, 0, .int a, rfl, rfl, SqL.of e, atI_nat (j := 0) rfl, _, _, rfl, rfl, .inr (by decide), _, _, rfl, rfl, .inl ⟨_, rfl, _, _, rfl, rfl, (by show (0 : Int) < 2147483647; decide), ?_⟩⟩
        refine ⟨_, rfl, r, _, 0, 0, rfl, rfl, e, ix_at 0 (by simp), ?_⟩
        refine ⟨_, rfl, r, _, 0, _, rfl, rfl, SqL.of upd_same, atI_nat (j := 0) rfl, _, _, rfl, rfl, ⟨by decide, by decide⟩, .inl ⟨_, rfl, _, rfl, _, _, rfl, rfl, h0, ?_⟩⟩
        exact k _ _ (Int.emod_nonneg _ (by omega)) (Int.emod_lt_of_pos _ h0) (fr.trans (Fr.put (List.mem_singleton.mpr rfl))) (Rnd.put _ b ns)
end
def spRandom (K : PySem.W.Frag) : Sp := fun vs H Q _ => ∃ (a : Addr) (salt : Int) (ns : List Int), vs = [.ref a, .int salt] ∧ SqL K H a (ns.map V.int) ∧ ns.length ≤ 63 ∧ ∀ (r : Addr) (H' : Hp), H r = none → Fr [] H H' → Rnd H' r → Q (.ref r) H'
section
variable {P : Program} {w : World} {K : PySem.W.Frag} {mg : Str → Option Value} {base : Heap}
theorem ok_random (T : Gx K mg) : FnOk P w K mg base CX0 1 T.f__law_random T.fd__law_random ["_law_script", "_law_salt"] (spRandom K) := by
  refine T.F__law_random.ok sc__law_random (fun vs H Q E h => ?_) (fun cdv A outer s H vs Q E hr h => ?_)
  · obtain ⟨a, salt, ns, rfl, _⟩ := h
    rfl
  · obtain ⟨a, salt, ns, rfl, hS, hlen, k⟩ := h
    refine ⟨_, pss_cons (ps_set (i := 2) sc__law_random.nd rfl (.inl rfl) (pv 1))
      (pss_cons (ps_for PassesOwn.never rfl (pi_list (pv 0)) (pg_name (i := 3) sc__law_random.nd rfl (.inl rfl))
        (pss_one (ps_set (i := 2) sc__law_random.nd rfl (.inl rfl) (pe_op op_mod (pe_callTy call_int1 (by rfl) T.z_int (by decide +kernel) (pa_cons (pe_op op_add (pe_op op_mul (pv 2) pe_int) (pe_callB call_abs (by rfl) T.z_abs (by decide +kernel) (pa_cons (pv 3) pa_nil))) pa_nil)) pe_int))))
      (pss_one (ps_ret (pe_op op_cat (pe_lst (pa_cons (pv 2) (pa_cons pe_int pa_nil))) (pe_lc (own := [("_law_cell", 3)]) (g := gName 3) rfl sc__law_random.nd (pi_list (pv 0)) (blkOk_by (N := ["_law_script", "_law_salt", "_law_seed", "_law_cell"]) (sc := defScope s__law_random) (by decide +kernel)) (fun _ _ _ _ _ => pg_name (i := 3) sc__law_random.nd rfl (.inl rfl)) (fun _ _ _ _ _ => pts_one (pt_cmpR op_ge (pv 3) (pe_op op_pow pe_int pe_int) (nomark _))) (fun _ _ _ _ _ => pv 3)))))), ?_⟩
    refine ⟨_, rfl, _, rfl, a, rfl, ⟨_, hS⟩, for_list (K := K) (a := a) (xs := ns.map V.int) (fun i σ H' => H' = H ∧ ∃ (z : Int) (v : Option V), σ = [some (.ref a), some (.int salt), some (.int z), v]) ⟨rfl, salt, none, rfl⟩ (fun i σ H' _ e => by rw [e.1]; exact hS) ?_ ?_⟩
    · rintro i x σ H' hi ⟨rfl, z, v, rfl⟩
      obtain ⟨u, rfl, _⟩ := int_at hi
      exact ⟨_, rfl, _, _, rfl, rfl, .inr (by decide), _, rfl, _, rfl, _, _, rfl, rfl, .inl ⟨_, rfl, _, _, rfl, rfl, (by show (0 : Int) < 2147483647; decide), rfl, _, _, rfl⟩⟩
    · rintro σ H' ⟨rfl, z, v, rfl⟩
      refine ⟨_, rfl, sz_le (by simp), fun l hl => ?_⟩
      have sl : Fr [] H' (upd H' l (.lst [V.int z, V.int 0])) := Fr.new hl
      have hS1 : SqL K (upd H' l (.lst [V.int z, V.int 0])) a (ns.map V.int) := sl.seq (by simp) hS
      refine ⟨_, rfl, a, rfl, ⟨_, hS1⟩, fun D hD => ?_⟩
      have hDl := free_upd hD
      refine lc_list (K := K) (a := a) (xs := ns.map V.int) (fun i H2 => ∃ ms : List Int, ms.length ≤ i ∧ H2 = upd (upd H' l (.lst [V.int z, V.int 0])) D (.lst (ms.map V.int))) ⟨[], Nat.le_refl _, rfl⟩ ?_ ?_ ?_
      · rintro i H2 _ ⟨ms, _, rfl⟩
        exact (Fr.new (S := []) hD).seq (by simp) hS1
      · rintro i x H2 hi ⟨ms, hm, rfl⟩
        obtain ⟨u, rfl, _⟩ := int_at hi
        have li := lt_of_at hi
        rw [List.length_map] at li
        refine ⟨rfl, _, rfl, _, _, rfl, rfl, ⟨by decide, by decide, by decide⟩, _, _, rfl, rfl, _, rfl, ite2 (fun _ => ?_) (fun _ => ?_)⟩
        · refine ⟨_, rfl, _, upd_same, ?_, ms ++ [u], ?_, ?_⟩
          · rw [List.length_map]
            exact sz_lt (by omega)
          · rw [List.length_append, List.length_singleton]
            omega
          · rw [upd_upd, List.map_append]
            rfl
        · exact ⟨ms, by omega, rfl⟩
      · rintro H2 ⟨ms, hm, rfl⟩
        rw [List.length_map] at hm
        refine ⟨l, D, [V.int z, V.int 0], _, rfl, rfl, ?_, upd_same, ?_, fun p hp => ?_⟩
        · rw [upd_ne hDl.2.symm]
          exact upd_same
        · rw [List.length_map]
          exact sz_le (by simp; omega)
        · obtain ⟨hp1, _⟩ := free_upd hp
          obtain ⟨hp2, _⟩ := free_upd hp1
          exact k p _ hp2 ((sl.trans (Fr.new hD)).trans (Fr.new hp)) ⟨z, 0, ms, upd_same⟩
end
/-! ### what counts as a number -/
def spNum (K : PySem.W.Frag) : Sp := fun vs H Q _ => ∃ (v : V) (t : Value) (b1 b2 : Bool), vs = [v] ∧ TyX K H v t ∧ PySem.W.kitOne K t (.type "int") = some b1 ∧ PySem.W.kitOne K t (.type "bool") = some b2 ∧ Q (.bl (b1 && !b2)) H
def spNumFrom (K : PySem.W.Frag) : Sp := fun vs H Q _ => ∃ (v : V) (lo hi : Int), vs = [v, .int lo, .int hi] ∧
  ((∃ i : Int, v = .int i ∧ Q (.bl (decide (lo ≤ i) && decide (i ≤ hi))) H) ∨ ∃ (t : Value) (b1 b2 : Bool), TyX K H v t ∧ PySem.W.kitOne K t (.type "int") = some b1 ∧ PySem.W.kitOne K t (.type "bool") = some b2 ∧ (b1 && !b2) = false ∧ Q (.bl false) H)
section
variable {P : Program} {w : World} {K : PySem.W.Frag} {mg : Str → Option Value} {base : Heap}
theorem ok_num (T : Gx K mg) : FnOk P w K mg base CX0 1 T.f_is_number T.fd_is_number ["thing"] (spNum K) := by
  refine T.F_is_number.ok sc_is_number (fun vs H Q E h => ?_) (fun cdv A outer s H vs Q E hr h => ?_)
  · obtain ⟨v, t, b1, b2, rfl, _⟩ := h
    rfl
  · obtain ⟨v, t, b1, b2, rfl, ty, e1, e2, k⟩ := h
    refine ⟨_, pss_one (ps_ret (pe_and (pe_callB call_isi (by rfl) T.z_isinstance (by decide +kernel) (pa_cons (pv 0) (pa_cons (pe_bltn (v := .ty "int") (by rfl) T.z_int (by decide +kernel) rfl) pa_nil)))
      (pe_one (pe_not (pe_callB call_isi (by rfl) T.z_isinstance (by decide +kernel) (pa_cons (pv 0) (pa_cons (pe_bltn (v := .ty "bool") (by rfl) T.z_bool (by decide +kernel) rfl) pa_nil))))))), ?_⟩
    refine ⟨v, rfl, v, .ty "int", t, _, b1, rfl, ClsV.ty "int", ty, e1, b1, rfl, ?_⟩
    cases b1 with
    | false => exact iteF k
    | true => exact iteT ⟨v, rfl, v, .ty "bool", t, _, b2, rfl, ClsV.ty "bool", ty, e2, b2, rfl, k⟩
theorem ok_numFrom (T : Gx K mg) : FnOk P w K mg base CX0 2 T.f_is_number_from T.fd_is_number_from ["thing", "least", "most"] (spNumFrom K) := by
  have G1 : FnOk P w K mg base CX0 1 T.f_is_number T.fd_is_number ["thing"] (spNum K) := ok_num T
  refine T.F_is_number_from.ok sc_is_number_from (fun vs H Q E h => ?_) (fun cdv A outer s H vs Q E hr h => ?_)
  · obtain ⟨v, lo, hi, rfl, _⟩ := h
    rfl
  · obtain ⟨v, lo, hi, rfl, h⟩ := h
    refine ⟨_, pss_one (ps_ret (pe_and (pe_call G1 hr (by rfl) T.g_is_number T.F_is_number.kp (b_is_number T) .nil pass0 (pa_cons (pv 0) pa_nil)) (pe_one (pe_chain op_le op_le (pv 1) (pv 0) (pv 2))))), ?_⟩
    rcases h with ⟨i, rfl, k⟩ | ⟨t, b1, b2, ty, e1, e2, e3, k⟩
    · refine ⟨_, rfl, .int i, .type "int", true, false, rfl, .base (.int i), kit_ty (by decide +kernel), kit_ty (by decide +kernel), true, rfl, iteT ?_⟩
      refine ⟨_, rfl, _, rfl, _, _, rfl, rfl, _, rfl, ?_⟩
      by_cases hl : lo ≤ i
      · rw [decide_eq_true hl] at k ⊢
        exact iteT ⟨_, rfl, _, _, rfl, rfl, k⟩
      · rw [decide_eq_false hl] at k ⊢
        exact iteF k
    · refine ⟨_, rfl, v, t, b1, b2, rfl, ty, e1, e2, _, rfl, ?_⟩
      rw [e3]
      exact iteF k
end
theorem ix_listK {X : Cx} {K : PySem.W.Frag} (h : X.K = K) : IxR X (rIxL K) := by
  subst h
  exact ix_list
theorem ix_tupK {X : Cx} {K : PySem.W.Frag} (h : X.K = K) : IxR X (rIxT K) := by
  subst h
  exact ix_tup
theorem Fr.upd0 {H H1 : Hp} {D : Addr} {o : HO} (f : Fr [] H H1) (h : H D = none) : Fr [] H (upd H1 D o) := fun b u e n => by
  have hb : b ≠ D := fun z => by rw [z, h] at e; cases e
  rw [upd_ne hb]
  exact f b u e n
theorem for_enumL {K : PySem.W.Frag} {a : Addr} {xs : List V} {g : TG} {tb : TS} {D : Ends} {σ : L2.St} {H : Hp} (Pv : Nat → L2.St → Hp → Prop) (h0 : Pv 0 σ H) (hl : ∀ i σ H, i ≤ xs.length → Pv i σ H → SqL K H a xs)
    (hs : ∀ i x σ H T, xs[i]? = some x → Pv i σ H → H T = none → g (.ref T) σ (upd H T (.tup [.int (i : Nat), x])) fun σ2 H2 => tb { D with nx := Pv (i + 1), ct := Pv (i + 1), bk := D.nx } σ2 H2) (hd : ∀ σ H, Pv xs.length σ H → D.nx σ H) :
    ∃ W : Nat → Nat → L2.St → Hp → Prop, (∃ m, W 0 m σ H) ∧ ∀ i m σ H, W i m σ H →
      ((Ite K a).stop i H ∧ D.nx σ H) ∨ ((Ite K a).go i H ∧ ∃ N : L2.St → Hp → Prop, (∀ σ' H', N σ' H' → ∃ m', m' < m ∧ W (i + 1) m' σ' H') ∧ ∀ x H', (Ite K a).yld i H x H' → g x σ H' fun σ2 H2 => tb { D with nx := N, ct := N, bk := D.nx } σ2 H2) := by
  refine for_it (walk_enum (K := K) (a := a) (xs := xs)) Pv h0 hl (fun i x σ H H' hi p y => ?_) hd
  obtain ⟨T, x', y', rfl, hT, rfl, e1, e2⟩ := y
  cases e1
  exact hs i y' σ H T e2 p hT
/-! ### rules within a comprehension: what is written stands outside -/
theorem call_list_ofK {X : Cx} {K : PySem.W.Frag} (h : X.K = K) : CallR X (.type "list") (fun xs H Q => ∃ p ys, xs = [.ref p] ∧ (SqL K H p ys ∨ SqT K H p ys) ∧ ∀ l, H l = none → Q (.ref l) (upd H l (.lst ys))) := by
  subst h
  exact call_list_of
theorem call_tuple_ofK {X : Cx} {K : PySem.W.Frag} (h : X.K = K) : CallR X (.type "tuple") (fun xs H Q => ∃ p ys, xs = [.ref p] ∧ ((SqL K H p ys ∧ ∀ l, H l = none → Q (.ref l) (upd H l (.tup ys))) ∨ (SqT K H p ys ∧ Q (.ref p) H))) := by
  subst h
  exact call_tuple_of
theorem call_len_seqK {X : Cx} {K : PySem.W.Frag} (h : X.K = K) : CallR X (.builtin "len") (fun xs H Q => ∃ p ys, xs = [.ref p] ∧ (SqL K H p ys ∨ SqT K H p ys) ∧ Q (.int ys.length) H) := by
  subst h
  exact call_len_seq
theorem cr_sortedK {X : Cx} {K : PySem.W.Frag} (h : X.K = K) : CallR X (.builtin "sorted") (rSorted K) := by
  subst h
  exact cr_sorted
theorem sl_listK {X : Cx} {K : PySem.W.Frag} (h : X.K = K) : SlR X (rSlL K) := by
  subst h
  exact sl_list
theorem sl_tupK {X : Cx} {K : PySem.W.Frag} (h : X.K = K) : SlR X (rSlT K) := by
  subst h
  exact sl_tup
theorem op_notInK {X : Cx} {K : PySem.W.Frag} (h : X.K = K) : OpR X (compareOp .NotIn) (rIn K true) := by
  subst h
  exact op_notIn_seq
theorem op_inK {X : Cx} {K : PySem.W.Frag} (h : X.K = K) : OpR X (compareOp .In) (rIn K false) := by
  subst h
  exact op_in_seq
theorem op_eqDK {X : Cx} {K : PySem.W.Frag} (h : X.K = K) (hu : X.A.units + 64 < cLine) : OpR X (compareOp .Eq) (rEqD K) := by
  subst h
  exact op_eqD hu
theorem op_neDK2 {X : Cx} {K : PySem.W.Frag} (h : X.K = K) (hu : X.A.units + 64 < cLine) : OpR X (compareOp .NotEq) (rNeD K) := by
  subst h
  exact op_neD hu
/-! ### attributes -/
def lF (a b : V) : List (Str × V) := [("_values", a), ("_under_way", b)]
theorem lnf0_1 : ¬ (("_values" : Str) = "_under_way") := by decide +kernel
theorem lbf0_1 : (("_values" : Str) == "_under_way") = false := by decide +kernel
theorem lnf1_0 : ¬ (("_under_way" : Str) = "_values") := by decide +kernel
theorem lbf1_0 : (("_under_way" : Str) == "_values") = false := by decide +kernel
theorem lbf0_0 : (("_values" : Str) == "_values") = true := by decide +kernel
theorem lbf1_1 : (("_under_way" : Str) == "_under_way") = true := by decide +kernel
theorem lF_get0 {a b : V} : (lF a b).lookup ("_values" : Str) = some a := by
  unfold lF
  simp only [List.lookup, lbf0_0]
theorem lF_put0 {a b z : V} : putF "_values" z (lF a b) = lF z b := by
  unfold lF
  simp only [putF, if_true, eq_self_iff_true]
theorem lF_get1 {a b : V} : (lF a b).lookup ("_under_way" : Str) = some b := by
  unfold lF
  simp only [List.lookup, lbf1_0, lbf1_1]
theorem lF_put1 {a b z : V} : putF "_under_way" z (lF a b) = lF a z := by
  unfold lF
  simp only [putF, if_neg lnf0_1, if_true, eq_self_iff_true]
theorem lF_made {a b : V} : (putF "_under_way" b (putF "_values" a [])) = lF a b := by
  unfold lF
  simp only [putF, if_neg lnf0_1]
theorem lF_no_follow {a b : V} : (lF a b).lookup ("follow" : Str) = none := by
  unfold lF
  simp only [List.lookup, (show (("follow" : Str) == "_values") = false by decide +kernel), (show (("follow" : Str) == "_under_way") = false by decide +kernel)]
theorem lF_no_values_now {a b : V} : (lF a b).lookup ("values_now" : Str) = none := by
  unfold lF
  simp only [List.lookup, (show (("values_now" : Str) == "_values") = false by decide +kernel), (show (("values_now" : Str) == "_under_way") = false by decide +kernel)]
theorem putF_len (f : Str) (v : V) : ∀ fs : List (Str × V), (putF f v fs).length ≤ fs.length + 1
  | [] => Nat.le_refl _
  | (g, x) :: r => by
    show (if g = f then (g, v) :: r else (g, x) :: putF f v r).length ≤ r.length + 1 + 1
    split
    · simp
    · have := putF_len f v r
      simp only [List.length_cons]
      omega
/-! ### one change behind another -/
theorem Fr.nah {S : List Addr} {H H1 : Hp} {b : Addr} (f : Fr S H H1) (h : H1 b = none) : b ∈ S ∨ H b = none := by
  by_cases z : b ∈ S
  · exact .inl z
  · right
    cases e : H b with
    | none => rfl
    | some o =>
      rw [f b o e z] at h
      cases h
def Gw (S : List Addr) (H : Hp) (S' : List Addr) : Prop := ∀ b ∈ S', b ∈ S ∨ H b = none
theorem Fr.grow {S S1 : List Addr} {H H1 H2 : Hp} (f1 : Fr S H H1) (f2 : Fr S1 H1 H2) (g : Gw S H S1) : Fr S H H2 := fun b o e n => f2 b o (f1 b o e n) fun z => (g b z).elim n fun y => by
  rw [e] at y
  cases y
theorem Gw.trans {S S1 S2 : List Addr} {H H1 : Hp} (f : Fr S H H1) (g1 : Gw S H S1) (g2 : Gw S1 H1 S2) : Gw S H S2 := fun b hb => (g2 b hb).elim (g1 b) f.nah
theorem Gw.refl (S : List Addr) (H : Hp) : Gw S H S := fun _ h => .inl h
/-! ### what a log tells -/
inductive En where
  | rd (b : Nat) (v : Int)
  | bg (b : Nat) (v : Int)
  | dn
  | fl
  | ls (b : Nat)
def En.vs : En → List V
  | .rd b v => [.str "read", .int (b : Int), .int v]
  | .bg b v => [.str "begin", .int (b : Int), .int v]
  | .dn => [.str "done"]
  | .fl => [.str "fail"]
  | .ls b => [.str "lost", .int (b : Int)]
def En.ok (nb : Nat) : En → Prop
  | .rd b v => b < nb ∧ 0 ≤ v ∧ v ≤ 999
  | .bg b v => b < nb ∧ 0 ≤ v ∧ v ≤ 999
  | .ls b => b < nb
  | _ => True
structure Po where
  vs : List (List Int)
  un : Option (Nat × Int)
def addV (v : Int) (l : List Int) : List Int := if v ∈ l then l else l ++ [v]
def allV : List Int := (List.range 1000).map fun (n : Nat) => (n : Int)
def Po.now (p : Po) : List (List Int) := match p.un with
  | none => p.vs
  | some (b, v) => p.vs.set b (addV v (p.vs.getD b []))
def Po.go (p : Po) : En → Option Po
  | .fl => some ⟨p.now, none⟩
  | .dn => match p.un with
    | none => none
    | some (b, v) => some ⟨p.vs.set b [v], none⟩
  | .bg b v => if p.un.isSome then none else some ⟨p.vs, some (b, v)⟩
  | .ls b => if p.un.isSome then none else some ⟨p.vs.set b allV, none⟩
  | .rd b v => if p.un.isSome then none else if v ∈ p.vs.getD b [] then some ⟨p.vs.set b [v], none⟩ else none
/-- how the lists of values stand in n steps -/
structure PoOk (nb n : Nat) (p : Po) : Prop where
  len : p.vs.length = nb
  un : ∀ b v, p.un = some (b, v) → b < nb ∧ 0 ≤ v ∧ v ≤ 999
  vs : ∀ l ∈ p.vs, l = allV ∨ (l ≠ [] ∧ l.Nodup ∧ l.length ≤ n + 1 ∧ ∀ v ∈ l, 0 ≤ v ∧ v ≤ 999)
theorem mem_allV {v : Int} : v ∈ allV ↔ 0 ≤ v ∧ v ≤ 999 := by
  unfold allV
  rw [List.mem_map]
  constructor
  · rintro ⟨n, hn, rfl⟩
    rw [List.mem_range] at hn
    omega
  · rintro ⟨h0, h1⟩
    exact ⟨v.toNat, List.mem_range.mpr (by omega), by omega⟩
theorem allV_len : allV.length = 1000 := by
  unfold allV
  rw [List.length_map, List.length_range]
theorem addV_ok {n : Nat} {v : Int} {l : List Int} (hv : 0 ≤ v ∧ v ≤ 999) (h : l = allV ∨ (l ≠ [] ∧ l.Nodup ∧ l.length ≤ n + 1 ∧ ∀ v ∈ l, 0 ≤ v ∧ v ≤ 999)) : addV v l = allV ∨ (addV v l ≠ [] ∧ (addV v l).Nodup ∧ (addV v l).length ≤ n + 1 + 1 ∧ ∀ v' ∈ addV v l, 0 ≤ v' ∧ v' ≤ 999) := by
  unfold addV
  rcases h with rfl | ⟨h0, h1, h2, h3⟩
  · rw [if_pos (mem_allV.mpr hv)]
    exact .inl rfl
  · by_cases z : v ∈ l
    · rw [if_pos z]
      exact .inr ⟨h0, h1, by omega, h3⟩
    · rw [if_neg z]
      refine .inr ⟨by simp, ?_, by rw [List.length_append, List.length_singleton]; omega, ?_⟩
      · rw [List.nodup_append]
        exact ⟨h1, by simp, fun a ha b hb e => z (by rw [List.mem_singleton] at hb; rw [← hb, ← e]; exact ha)⟩
      · intro u hu
        rcases List.mem_append.mp hu with y | y
        · exact h3 u y
        · rw [List.mem_singleton.mp y]
          exact hv
theorem one_ok {n : Nat} {v : Int} (hv : 0 ≤ v ∧ v ≤ 999) : [v] = allV ∨ ([v] ≠ [] ∧ [v].Nodup ∧ [v].length ≤ n + 1 ∧ ∀ v' ∈ [v], 0 ≤ v' ∧ v' ≤ 999) :=
  .inr ⟨by simp, by simp, by simp, fun u hu => by rw [List.mem_singleton.mp hu]; exact hv⟩
theorem getD_mem {α : Type} {xs : List α} {i : Nat} {d : α} (h : i < xs.length) : xs.getD i d ∈ xs := by
  rw [List.getD_eq_getElem?_getD, List.getElem?_eq_getElem h]
  exact List.getElem_mem h
theorem mem_set {α : Type} {xs : List α} {i : Nat} {a y : α} (h : y ∈ xs.set i a) : y = a ∨ y ∈ xs := (List.mem_or_eq_of_mem_set h).symm
theorem PoOk.up {nb n : Nat} {p : Po} (h : PoOk nb n p) : PoOk nb (n + 1) p := ⟨h.len, h.un, fun l hl => (h.vs l hl).imp id fun ⟨a, b, c, d⟩ => ⟨a, b, by omega, d⟩⟩
theorem PoOk.now {nb n : Nat} {p : Po} (h : PoOk nb n p) : PoOk nb (n + 1) ⟨p.now, none⟩ := by
  refine ⟨?_, fun b v e => (by cases e), ?_⟩
  · unfold Po.now
    cases e : p.un with
    | none => exact h.len
    | some q =>
      obtain ⟨b, v⟩ := q
      show (p.vs.set _ _).length = nb
      rw [List.length_set]
      exact h.len
  · unfold Po.now
    cases e : p.un with
    | none => exact fun l hl => (h.up.vs l hl)
    | some q =>
      obtain ⟨b, v⟩ := q
      obtain ⟨hb, hv⟩ := h.un b v e
      intro l hl
      rcases mem_set hl with rfl | y
      · exact addV_ok hv (h.vs _ (getD_mem (by rw [h.len]; exact hb)))
      · exact h.up.vs l y
theorem PoOk.set {nb n : Nat} {p : Po} (h : PoOk nb n p) {b : Nat} {l : List Int} (hl : l = allV ∨ (l ≠ [] ∧ l.Nodup ∧ l.length ≤ n + 1 ∧ ∀ v ∈ l, 0 ≤ v ∧ v ≤ 999)) : PoOk nb n ⟨p.vs.set b l, none⟩ := by
  refine ⟨by show (p.vs.set b l).length = nb; rw [List.length_set]; exact h.len, fun b v e => (by cases e), fun y hy => ?_⟩
  rcases mem_set hy with rfl | y'
  · exact hl
  · exact h.vs y y'
theorem PoOk.go {nb n : Nat} {p p' : Po} (h : PoOk nb n p) {e : En} (he : e.ok nb) (hg : p.go e = some p') : PoOk nb (n + 1) p' := by
  cases e with
  | fl =>
    cases hg
    exact h.now
  | dn =>
    unfold Po.go at hg
    cases eu : p.un with
    | none => rw [eu] at hg; cases hg
    | some q =>
      obtain ⟨b, v⟩ := q
      rw [eu] at hg
      cases hg
      exact (h.set (one_ok (h.un b v eu).2)).up
  | bg b v =>
    unfold Po.go at hg
    simp only at hg
    split at hg
    · cases hg
    · cases hg
      exact ⟨h.len, fun b' v' e => by cases e; exact he, h.up.vs⟩
  | ls b =>
    unfold Po.go at hg
    simp only at hg
    split at hg
    · cases hg
    · cases hg
      exact (h.set (.inl rfl)).up
  | rd b v =>
    unfold Po.go at hg
    simp only at hg
    split at hg
    · cases hg
    · split at hg
      · cases hg
        exact (h.set (one_ok he.2)).up
      · cases hg
/-! ### the lists in memory -/
structure Lists (H : Hp) (l : Addr) (as : List Addr) (ls : List (List Int)) : Prop where
  lst : H l = some (.lst (as.map V.ref))
  len : as.length = ls.length
  its : ∀ (i : Nat) (a : Addr) (xs : List Int), as[i]? = some a → ls[i]? = some xs → H a = some (.lst (xs.map V.int))
  out : l ∉ as
theorem Lists.keep {H H' : Hp} {l : Addr} {as : List Addr} {ls : List (List Int)} {S : List Addr} (h : Lists H l as ls) (f : Fr S H H') (n : l ∉ S) (m : ∀ a ∈ as, a ∉ S) : Lists H' l as ls :=
  ⟨f _ _ h.lst n, h.len, fun i a xs e1 e2 => f _ _ (h.its i a xs e1 e2) (m a (List.mem_of_getElem? e1)), h.out⟩
theorem Lists.keep0 {H H' : Hp} {l : Addr} {as : List Addr} {ls : List (List Int)} (h : Lists H l as ls) (f : Fr [] H H') : Lists H' l as ls := h.keep f (by simp) (by simp)
theorem Lists.at {H : Hp} {l : Addr} {as : List Addr} {ls : List (List Int)} (h : Lists H l as ls) {b : Nat} (hb : b < ls.length) : ∃ a, as[b]? = some a ∧ H a = some (.lst ((ls.getD b []).map V.int)) := by
  have hl : b < as.length := by rw [h.len]; exact hb
  refine ⟨as[b], List.getElem?_eq_getElem hl, h.its b _ _ (List.getElem?_eq_getElem hl) ?_⟩
  rw [List.getD_eq_getElem?_getD, List.getElem?_eq_getElem hb]
  rfl
theorem Lists.there {H : Hp} {l : Addr} {as : List Addr} {ls : List (List Int)} (h : Lists H l as ls) : ∀ a ∈ as, ∃ o, H a = some o := fun a ha => by
  obtain ⟨i, hi, e⟩ := List.getElem_of_mem ha
  have e1 : as[i]? = some a := by rw [List.getElem?_eq_getElem hi, e]
  have hl : i < ls.length := by rw [← h.len]; exact hi
  exact ⟨_, h.its i a _ e1 (List.getElem?_eq_getElem hl)⟩
/-- one list is exchanged for another -/
theorem Lists.set {H H' : Hp} {l : Addr} {as : List Addr} {ls : List (List Int)} (h : Lists H l as ls) {b : Nat} {w : Addr} {ys : List Int} (f : Fr [l] H H') (e : H' l = some (.lst ((as.set b w).map V.ref))) (ew : H' w = some (.lst (ys.map V.int))) (nw : w ≠ l) : Lists H' l (as.set b w) (ls.set b ys) := by
  refine ⟨e, by rw [List.length_set, List.length_set]; exact h.len, fun i a xs e1 e2 => ?_, fun z => ?_⟩
  · rw [List.getElem?_set] at e1 e2
    by_cases z : b = i
    · rw [if_pos z] at e1 e2
      split at e1
      · split at e2
        · cases e1
          cases e2
          exact ew
        · cases e2
      · cases e1
    · rw [if_neg z] at e1 e2
      have := h.its i a xs e1 e2
      exact f _ _ this (by rw [List.mem_singleton]; exact fun y => h.out (by rw [← y]; exact List.mem_of_getElem? e1))
  · rcases mem_set z with y | y
    · exact nw y.symm
    · exact h.out y
def UnAt (H : Hp) (v : V) : Option (Nat × Int) → Prop
  | none => v = .non
  | some (b, x) => ∃ t : Addr, v = .ref t ∧ H t = some (.tup [.int (b : Int), .int x])
theorem UnAt.keep {H H' : Hp} {v : V} {o : Option (Nat × Int)} {S : List Addr} (h : UnAt H v o) (f : Fr S H H') (m : ∀ b ∈ S, ∀ xs, H b ≠ some (.tup xs)) : UnAt H' v o := by
  cases o with
  | none => exact h
  | some q =>
    obtain ⟨t, e, ht⟩ := h
    exact ⟨t, e, f _ _ ht fun z => m _ z _ ht⟩
structure PoAt (C : Addr) (H : Hp) (a ax l : Addr) (as : List Addr) (uv : V) (p : Po) : Prop where
  ins : H a = some (.ins C ax (lF (.ref l) uv))
  ls : Lists H l as p.vs
  un : UnAt H uv p.un
  na : a ∉ as
theorem PoAt.nal {C : Addr} {H : Hp} {a ax l : Addr} {as : List Addr} {uv : V} {p : Po} (h : PoAt C H a ax l as uv p) : a ≠ l := fun z => by
  have := h.ins
  rw [z, h.ls.lst] at this
  cases this
theorem PoAt.notup {C : Addr} {H : Hp} {a ax l : Addr} {as : List Addr} {uv : V} {p : Po} (h : PoAt C H a ax l as uv p) : ∀ b ∈ [a, l], ∀ xs, H b ≠ some (.tup xs) := fun b hb xs => by
  rcases List.mem_cons.mp hb with rfl | hb
  · rw [h.ins]; simp
  · rw [List.mem_singleton.mp hb, h.ls.lst]; simp
theorem PoAt.keep0 {C : Addr} {H H' : Hp} {a ax l : Addr} {as : List Addr} {uv : V} {p : Po} (h : PoAt C H a ax l as uv p) (f : Fr [] H H') : PoAt C H' a ax l as uv p := ⟨f _ _ h.ins (by simp), h.ls.keep0 f, h.un.keep f (by simp), h.na⟩
/-! ### numbers of blocks -/
def spChk : Sp := fun vs H Q _ => ∃ n m : Int, vs = [.int n, .int m] ∧ 1 ≤ n ∧ n ≤ m ∧ Q .non H
section
variable {P : Program} {w : World} {K : PySem.W.Frag} {mg : Str → Option Value} {base : Heap}
theorem ok_chkB (T : Gx K mg) : FnOk P w K mg base CX0 3 T.f_check_blocks T.fd_check_blocks ["blocks", "most"] spChk := by
  have G_is_number_from : FnOk P w K mg base CX0 2 T.f_is_number_from T.fd_is_number_from ["thing", "least", "most"] (spNumFrom K) := ok_numFrom T
  refine T.F_check_blocks.ok sc_check_blocks (fun vs H Q E h => ?_) (fun cdv A outer s H vs Q E hr h => ?_)
  · obtain ⟨n, m, rfl, _⟩ := h
    rfl
  · obtain ⟨n, m, rfl, h1, h2, k⟩ := h
    refine ⟨_, (pss_one (ps_if (pt_not (pt_val (pe_call G_is_number_from (hr.mono (by first | decide | omega)) (by rfl) T.g_is_number_from T.F_is_number_from.kp (b_is_number_from T) .nil pass0 (pa_cons (pv 0) (pa_cons pe_int (pa_cons (pv 1) pa_nil)))))) (pss_one ps_never) pss_nil)), ?_⟩
    refine ⟨_, rfl, _, rfl, .int n, 1, m, rfl, .inl ⟨n, rfl, _, rfl, ?_⟩⟩
    have e : (decide ((1 : Int) ≤ n) && decide (n ≤ m)) = true := by
      rw [Bool.and_eq_true, decide_eq_true_eq, decide_eq_true_eq]
      omega
    rw [e]
    exact iteF k
end
/-! ### lists of numbers as data -/
theorem dpAll_ints {K : PySem.W.Frag} {H : Hp} : ∀ zs : List Int, DpAll K H (zs.map V.int) (zs.map PyData.int)
  | [] => .nil
  | z :: r => .cons (.int z) (dpAll_ints r)
theorem lay_ints : ∀ zs : List Int, PyData.canLayAll0 (zs.map PyData.int) = true ∧ PyData.depthAll (zs.map PyData.int) ≤ 1
  | [] => ⟨rfl, Nat.zero_le _⟩
  | z :: r => by
    obtain ⟨h1, h2⟩ := lay_ints r
    refine ⟨?_, ?_⟩
    · show (PyData.canLay0 (.int z) && PyData.canLayAll0 (r.map PyData.int)) = true
      rw [h1]
      rfl
    · show PyData.depthAll (PyData.int z :: r.map PyData.int) ≤ 1
      simp only [PyData.depthAll, PyData.depth]
      omega
theorem shapedL_ints (zs : List Int) : SeqAt.shaped (.list (zs.map PyData.int)) = true := by
  obtain ⟨h1, h2⟩ := lay_ints zs
  unfold SeqAt.shaped
  rw [Bool.and_eq_true, decide_eq_true_eq]
  refine ⟨by simp only [PyData.canLay0, h1], ?_⟩
  simp only [PyData.depth]
  omega
theorem eqvL_ints (a b : List Int) : PyData.eqv (.list (a.map PyData.int)) (.list (b.map PyData.int)) = decide (a = b) := PySem.W.Datum.eqv (α := List Int) a b
def iD (zss : List (List Int)) : List PyData := zss.map fun z => PyData.list (z.map PyData.int)
theorem eqvL_iD (a b : List (List Int)) : PyData.eqv (.list (iD a)) (.list (iD b)) = decide (a = b) := PySem.W.Datum.eqv (α := List (List Int)) a b
theorem lay_iD : ∀ zss : List (List Int), PyData.canLayAll0 (iD zss) = true ∧ PyData.depthAll (iD zss) ≤ 2
  | [] => ⟨rfl, Nat.zero_le _⟩
  | z :: r => by
    obtain ⟨h1, h2⟩ := lay_iD r
    obtain ⟨h3, h4⟩ := lay_ints z
    refine ⟨?_, ?_⟩
    · show (PyData.canLay0 (.list (z.map PyData.int)) && PyData.canLayAll0 (iD r)) = true
      rw [h1, Bool.and_true]
      simp only [PyData.canLay0, h3]
    · show PyData.depthAll (PyData.list (z.map PyData.int) :: iD r) ≤ 2
      simp only [PyData.depthAll, PyData.depth]
      omega
theorem shapedL_iD (zss : List (List Int)) : SeqAt.shaped (.list (iD zss)) = true := by
  obtain ⟨h1, h2⟩ := lay_iD zss
  unfold SeqAt.shaped
  rw [Bool.and_eq_true, decide_eq_true_eq]
  refine ⟨by simp only [PyData.canLay0, h1], ?_⟩
  simp only [PyData.depth]
  omega
theorem dpAll_iD {K : PySem.W.Frag} {H : Hp} : ∀ {ws : List Addr} {zss : List (List Int)}, ws.length = zss.length → (∀ (j : Nat) (w : Addr) (ys : List Int), ws[j]? = some w → zss[j]? = some ys → H w = some (.lst (ys.map V.int))) → DpAll K H (ws.map V.ref) (iD zss)
  | [], [], _, _ => .nil
  | [], _ :: _, h, _ => by cases h
  | _ :: _, [], h, _ => by cases h
  | w :: ws, z :: zss, h, f => .cons (.lst (SqL.of (f 0 w z rfl rfl)) (dpAll_ints z)) (dpAll_iD (by simpa using h) fun j w ys a b => f (j + 1) w ys a b)
theorem inV_int (b : Int) : ∀ (xs : List Int), inV (.int b) (xs.map V.int) = decide (b ∈ xs)
  | [] => rfl
  | x :: r => by
    have ih := inV_int b r
    show (eqV (.int x) (.int b) || inV (.int b) (r.map V.int)) = decide (b ∈ x :: r)
    rw [ih]
    by_cases h : b = x
    · subst h
      simp [eqV]
    · have h' : ¬ x = b := fun e => h e.symm
      simp [eqV, h, h']
theorem flat_ints (ys : List Int) : (ys.map V.int).all flatV = true := by
  induction ys with
  | nil => rfl
  | cons y ys ih =>
    rw [List.map_cons, List.all_cons, ih]
    rfl
/-! ### what each block can have -/
theorem Lists.snoc {H H' : Hp} {l : Addr} {as : List Addr} {ls : List (List Int)} (h : Lists H l as ls) {w : Addr} {ys : List Int} (f : Fr [l] H H') (e : H' l = some (.lst ((as ++ [w]).map V.ref))) (ew : H' w = some (.lst (ys.map V.int))) (nw : w ≠ l) : Lists H' l (as ++ [w]) (ls ++ [ys]) := by
  refine ⟨e, by rw [List.length_append, List.length_append, h.len]; rfl, fun i a xs e1 e2 => ?_, fun z => ?_⟩
  · by_cases hj : i < as.length
    · rw [List.getElem?_append_left hj] at e1
      rw [List.getElem?_append_left (by rw [← h.len]; exact hj)] at e2
      exact f _ _ (h.its i a xs e1 e2) (by rw [List.mem_singleton]; exact fun y => h.out (by rw [← y]; exact List.mem_of_getElem? e1))
    · rw [List.getElem?_append_right (by omega)] at e1
      rw [List.getElem?_append_right (by rw [← h.len]; omega)] at e2
      rw [← h.len] at e2
      have hz : i - as.length = 0 := by
        have := lt_of_at e1
        simp at this
        omega
      rw [hz] at e1 e2
      cases e1
      cases e2
      exact ew
  · rcases List.mem_append.mp z with y | y
    · exact h.out y
    · exact nw (List.mem_singleton.mp y).symm
def spPoInit (C : Addr) : Sp := fun vs H Q _ => ∃ (p px : Addr) (nb : Nat), vs = [.ref p, .int (nb : Int)] ∧ nb ≤ 16 ∧ H p = some (.ins C px []) ∧
  ∀ (H' : Hp) (l : Addr) (as : List Addr), Fr [p] H H' → H l = none → PoAt C H' p px l as .non ⟨List.replicate nb [0], none⟩ → Q .non H'
def spNow (C : Addr) : Sp := fun vs H Q _ => ∃ (a ax l : Addr) (as : List Addr) (uv : V) (p : Po) (nb n : Nat), vs = [.ref a] ∧ PoAt C H a ax l as uv p ∧ PoOk nb n p ∧ nb ≤ 16 ∧ n ≤ 100 ∧
  ∀ (H' : Hp) (r : Addr) (rs : List Addr), Fr [] H H' → H r = none → (∀ w ∈ rs, H w = none) → Lists H' r rs p.now → Q (.ref r) H'
section
variable {P : Program} {w : World} {K : PySem.W.Frag} {mg : Str → Option Value} {base : Heap}
theorem ok_poInit (T : Gx K mg) : FnOk P w K mg base CX0 1 T.f_Possibilities___init__ T.fd_Possibilities___init__ ["self", "blocks"] (spPoInit T.C_Possibilities) := by
  refine T.F_Possibilities___init__.ok sc_Possibilities___init__ (fun vs H Q E h => ?_) (fun cdv A outer s H vs Q E hr h => ?_)
  · obtain ⟨p, px, nb, rfl, _⟩ := h
    rfl
  · obtain ⟨p, px, nb, rfl, hn, hp, k⟩ := h
    refine ⟨_, (pss_cons (ps_fld (pv 0) (pe_lc (own := [("_", 2)]) (g := gName 2) rfl sc_Possibilities___init__.nd (pi_range1 (by rfl) T.z_range (pa_cons (pv 1) pa_nil)) (blkOk_by (N := ["self", "blocks", "_"]) (sc := defScope s_Possibilities___init__) (by decide +kernel)) (fun _ _ _ _ _ => pg_name (i := 2) sc_Possibilities___init__.nd rfl (.inl rfl)) (fun _ _ _ _ _ => pts_nil) (fun _ _ _ _ _ => (pe_lst (pa_cons pe_int pa_nil)))) rfl)
      (pss_one (ps_fld (pv 0) pe_non rfl))), ?_⟩
    refine ⟨_, rfl, _, rfl, by omega, by omega, fun D hD => ?_⟩
    have pD : p ≠ D := ne_of_none hp hD
    refine lc_range (lo := 0) (n := nb) (fun i H' => Fr [] H H' ∧ H' p = some (.ins T.C_Possibilities px []) ∧ ∃ as : List Addr, Lists H' D as (List.replicate i [0]) ∧ p ∉ as) ⟨Fr.new hD, (upd_ne pD).trans hp, [], ⟨upd_same, rfl, fun i a xs e => by simp at e, by simp⟩, by simp⟩ ?_ ?_
    · rintro j H1 hj ⟨f1, hp1, as, L, na⟩
      refine ⟨rfl, sz_le (by simp), fun q hq => ⟨_, (upd_ne (ne_of_none L.lst hq)).trans L.lst, by rw [List.length_map, L.len, List.length_replicate]; exact sz_lt (by omega), ?_⟩⟩
      have e1 : ∀ o, upd (upd H1 q (.lst [V.int 0])) D o D = some o := fun o => upd_same
      have qD : q ≠ D := (ne_of_none L.lst hq).symm
      have f2 : Fr [D] H1 (upd (upd H1 q (.lst [V.int 0])) D (.lst (as.map V.ref ++ [V.ref q]))) := (Fr.new hq).trans (Fr.put (by simp))
      refine ⟨?_, ?_, as ++ [q], ?_, ?_⟩
      · exact (f1.trans (Fr.new hq)).upd0 hD
      · exact f2 _ _ hp1 (by simpa using pD)
      · rw [List.replicate_succ']
        exact L.snoc f2 (by rw [upd_same, List.map_append]; rfl) ((upd_ne qD).trans upd_same) qD
      · intro z
        rcases List.mem_append.mp z with y | y
        · exact na y
        · exact ne_of_none hp1 hq (List.mem_singleton.mp y)
    · rintro H1 ⟨f1, hp1, as, L, na⟩
      refine ⟨_, rfl, p, T.C_Possibilities, px, [], rfl, hp1, T.cl_Possibilities, T.n_Possibilities__values, by simp, ?_⟩
      refine ⟨_, rfl, p, T.C_Possibilities, px, _, rfl, upd_same, T.cl_Possibilities, T.n_Possibilities__under_way, Nat.lt_of_le_of_lt (putF_len _ _ _) (by simp), ?_⟩
      rw [upd_upd, lF_made]
      have f2 : Fr [p] H1 (upd H1 p (.ins T.C_Possibilities px (lF (.ref D) .non))) := Fr.put (by simp)
      refine k _ D as ((f1.mono (by simp)).trans f2) hD ⟨upd_same, L.keep f2 (by simpa using pD.symm) (fun a ha => ?_), rfl, na⟩
      rw [List.mem_singleton]
      exact fun z => na (by rw [← z]; exact ha)
theorem ok_now (T : Gx K mg) : FnOk P w K mg base CX0 1 T.f_Possibilities_values_now T.fd_Possibilities_values_now ["self"] (spNow T.C_Possibilities) := by
  refine T.F_Possibilities_values_now.ok sc_Possibilities_values_now (fun vs H Q E h => ?_) (fun cdv A outer s H vs Q E hr h => ?_)
  · obtain ⟨a, ax, l, as, uv, p, nb, n, rfl, _⟩ := h
    rfl
  · obtain ⟨a, ax, l, as, uv, p, nb, n, rfl, hP, ok, hnb, hn, k⟩ := h
    refine ⟨_, (pss_cons (ps_setLc (i := 1) (own := [("some", 4)]) (g := gName 4) rfl sc_Possibilities_values_now.nd rfl rfl (sw_true rfl rfl rfl (by decide +kernel)) (pi_list (pe_fld (pv 0) rfl)) (blkOk_by (N := ["self", "values", "block", "value", "some"]) (sc := defScope s_Possibilities_values_now) (by decide +kernel)) (fun _ _ _ _ _ => pg_name (i := 4) sc_Possibilities_values_now.nd rfl (.inl rfl)) (fun _ _ _ _ _ => pts_nil) (fun _ _ _ _ _ => (pe_callTy (call_list_ofK (K := K) rfl) (by rfl) T.z_list (by decide +kernel) (pa_cons (pv 4) pa_nil))))
      (pss_cons (ps_if (pt_cmpR op_notN (pe_fld (pv 0) rfl) pe_non (nomark _)) (pss_cons (ps_asg (pe_fld (pv 0) rfl) (pg_tup (by rfl) (pgs_cons (pg_name (i := 2) sc_Possibilities_values_now.nd rfl (.inl rfl)) (pgs_cons (pg_name (i := 3) sc_Possibilities_values_now.nd rfl (.inl rfl)) pgs_nil))))
      (pss_one (ps_if (pt_cmpR op_notIn_seq (pv 3) (pe_ix ix_list (pv 1) (pv 2) (fun _ _ => rfl)) (by rfl)) (pss_one (ps_expr (pe_bm PySem.F.plainAttrs_list PySem.F.slot_list_append PySem.F.type_list_append mt_append (pe_ix ix_list (pv 1) (pv 2) (fun _ _ => rfl)) (pa_cons (pv 3) pa_nil)))) pss_nil))) pss_nil)
      (pss_one (ps_ret (pv 1))))), ?_⟩
    refine ⟨_, rfl, a, T.C_Possibilities, ax, _, _, rfl, hP.ins, T.cl_Possibilities, T.n_Possibilities__values, lF_get0, l, rfl, ⟨_, SqL.of hP.ls.lst⟩, fun D hD => ?_⟩
    refine lc_list (K := K) (a := l) (xs := as.map V.ref) (fun i H' => Fr [] H H' ∧ ∃ rs : List Addr, Lists H' D rs (p.vs.take i) ∧ rs.Nodup ∧ ∀ w ∈ rs, H w = none) ⟨Fr.new hD, [], ⟨upd_same, rfl, fun i a xs e => by simp at e, by simp⟩, List.nodup_nil, by simp⟩ (fun i H' _ h => SqL.of (h.1 _ _ hP.ls.lst (by simp))) ?_ ?_
    · rintro i x H1 hx ⟨f1, rs, L, nd, nw⟩
      obtain ⟨b, rfl, hb⟩ : ∃ b, x = V.ref b ∧ as[i]? = some b := by
        rw [List.getElem?_map] at hx
        cases e : as[i]? with
        | none => rw [e] at hx; cases hx
        | some b => rw [e] at hx; exact ⟨b, (Option.some.inj hx).symm, rfl⟩
      have hi : i < p.vs.length := by rw [← hP.ls.len]; exact lt_of_at hb
      have hB := f1 _ _ (hP.ls.its i b _ hb (List.getElem?_eq_getElem hi)) (by simp)
      refine ⟨rfl, _, rfl, b, _, rfl, .inl (SqL.of hB), fun q hq => ⟨_, (upd_ne (ne_of_none L.lst hq)).trans L.lst, ?_, ?_⟩⟩
      · rw [List.length_map, L.len, List.length_take]
        have := ok.len
        exact sz_lt (by omega)
      · have qD : q ≠ D := (ne_of_none L.lst hq).symm
        refine ⟨(f1.trans (Fr.new hq)).upd0 hD, rs ++ [q], ?_, ?_, ?_⟩
        · rw [List.take_succ, List.getElem?_eq_getElem hi]
          exact L.snoc (((Fr.new hq).trans (Fr.put (by simp)))) (by rw [upd_same, List.map_append]; rfl) ((upd_ne qD).trans upd_same) qD
        · rw [List.nodup_append]
          refine ⟨nd, by simp, fun u hu v hv e => ?_⟩
          rw [List.mem_singleton] at hv
          obtain ⟨o, eo⟩ := L.there u hu
          rw [e, hv, hq] at eo
          cases eo
        · intro u hu
          rcases List.mem_append.mp hu with y | y
          · exact nw u y
          · rw [List.mem_singleton.mp y]
            exact some_of f1 (by simp) hq
    · rintro H1 ⟨f1, rs, L, nd, nw⟩
      rw [List.length_map, List.take_of_length_le (by rw [hP.ls.len]; exact Nat.le_refl _)] at L
      have hi1 := f1 _ _ hP.ins (by simp)
      refine ⟨_, rfl, a, T.C_Possibilities, ax, _, _, rfl, hi1, T.cl_Possibilities, T.n_Possibilities__under_way, lF_get1, rfl, _, rfl, ?_⟩
      have hU := hP.un
      unfold Po.now at k
      cases eu : p.un with
      | none =>
        rw [eu] at hU k
        have : uv = .non := hU
        rw [this]
        exact iteF ⟨_, rfl, k H1 D rs f1 hD nw L⟩
      | some q =>
        obtain ⟨b, v⟩ := q
        rw [eu] at hU k
        obtain ⟨t, rfl, ht⟩ := hU
        refine iteT ?_
        have ht1 := f1 _ _ ht (by simp)
        refine ⟨_, rfl, a, T.C_Possibilities, ax, _, _, rfl, hi1, T.cl_Possibilities, T.n_Possibilities__under_way, lF_get1, t, _, rfl, SqT.of ht1, rfl, _, _, rfl, _, _, rfl, rfl, ?_⟩
        obtain ⟨hb, hv⟩ := ok.un b v eu
        have hbl : b < p.vs.length := by rw [ok.len]; exact hb
        obtain ⟨c, hc, hC⟩ := L.at hbl
        have hcm : (rs.map V.ref)[b]? = some (V.ref c) := by rw [List.getElem?_map, hc]; rfl
        refine ⟨_, rfl, _, rfl, _, rfl, D, _, _, _, rfl, rfl, SqL.of L.lst, atI_nat hcm, c, _, rfl, .inl (SqL.of hC), rfl, flat_ints _, _, rfl, ?_⟩
        rw [inV_int]
        unfold addV at k
        by_cases hm : v ∈ p.vs.getD b []
        · rw [decide_eq_true hm]
          refine iteF ⟨_, rfl, k H1 D rs f1 hD nw ?_⟩
          show Lists _ D rs (p.vs.set b (if v ∈ p.vs.getD b [] then p.vs.getD b [] else p.vs.getD b [] ++ [v]))
          rw [if_pos hm]
          have : p.vs.set b (p.vs.getD b []) = p.vs := by
            rw [List.getD_eq_getElem?_getD, List.getElem?_eq_getElem hbl]
            exact List.set_getElem_self hbl
          rw [this]
          exact L
        · rw [decide_eq_false hm]
          refine iteT ⟨_, rfl, _, rfl, D, _, _, _, rfl, rfl, SqL.of L.lst, atI_nat hcm, .inl ⟨rfl, _, SqL.of hC⟩, _, rfl, c, _, _, rfl, rfl, hC, ?_, ?_⟩
          · rw [List.length_map]
            have hl := ok.vs _ (getD_mem (d := []) hbl)
            rcases hl with e | ⟨_, _, e, _⟩
            · rw [e, allV_len]
              exact sz_lt (by decide)
            · exact sz_lt (by omega)
          · have cD : c ≠ D := fun z => L.out (by rw [← z]; exact List.mem_of_getElem? hc)
            have f2 : Fr [c] H1 (upd H1 c (.lst ((p.vs.getD b []).map V.int ++ [V.int v]))) := Fr.put (by simp)
            refine ⟨_, rfl, k _ D rs ?_ hD nw ?_⟩
            · intro u o e _
              have : u ≠ c := ne_of_none e (nw c (List.mem_of_getElem? hc))
              rw [upd_ne this]
              exact f1 _ _ e (by simp)
            · show Lists _ D rs (p.vs.set b (if v ∈ p.vs.getD b [] then p.vs.getD b [] else p.vs.getD b [] ++ [v]))
              rw [if_neg hm]
              refine ⟨(upd_ne cD.symm).trans L.lst, by rw [List.length_set]; exact L.len, fun i u xs e1 e2 => ?_, L.out⟩
              rw [List.getElem?_set] at e2
              by_cases z : b = i
              · rw [if_pos z] at e2
                split at e2
                · cases e2
                  rw [← z, hc] at e1
                  cases e1
                  rw [upd_same, List.map_append]
                  rfl
                · exact absurd hbl (by assumption)
              · rw [if_neg z] at e2
                have hu : u ≠ c := fun y => by
                  rw [y] at e1
                  have h1 := lt_of_at e1
                  have h2 := lt_of_at hc
                  rw [List.getElem?_eq_getElem h1] at e1
                  rw [List.getElem?_eq_getElem h2] at hc
                  exact z ((List.getElem_inj (h₀ := h2) (h₁ := h1) nd).mp (Option.some.inj (hc.trans e1.symm)))
                exact (upd_ne hu).trans (L.its i u xs e1 e2)
end
/-! ### what is asked of things that are no words -/
theorem units2 {k : Nat} {A : Around} (r : Room k A) : A.units + 65 < cLine := by
  have := r.un
  omega
def rNotInT (K : PySem.W.Frag) : R2 := fun x y H Q => ∃ d ds, Dp K H x d ∧ Dp K H y (.tuple ds) ∧ SeqAt.shaped d = true ∧ SeqAt.shaped (.tuple ds) = true ∧ Q (.bl (!ds.any fun z => PyData.eqv z d)) H
section
open PyProof.Rows
theorem op_notInT {X : Cx} (hu : X.A.units + 65 < cLine) : OpR X (compareOp .NotIn) (rNotInT X.K) := by
  intro pins s σ H x y v u Q I rx ry h
  obtain ⟨d, ds, hd, he, sd, se, q⟩ := h
  obtain ⟨as, r1⟩ := Dp.reads I d x v hd rx
  obtain ⟨bs, r2⟩ := Dp.reads I (.tuple ds) y u he ry
  exact SeqAt.notIn_tuple_reads r2 r1 (SeqAt.canLay_of_shaped se) (SeqAt.canLay_of_shaped sd) (room_in_shaped sd hu) ⟨.bl _, H, I, rfl, q⟩
end
/-! ### entries and their forms -/
def FlatE (x : V) : Prop := x = .non ∨ (∃ b, x = .bl b) ∨ (∃ i, x = .int i) ∨ ∃ z, x = .str z ∧ PyData.strOk z = true
def flD : V → PyData
  | .bl b => .bool b
  | .int i => .int i
  | .str z => .str z
  | _ => .none
theorem FlatE.dp {K : PySem.W.Frag} {H : Hp} {x : V} (h : FlatE x) : Dp K H x (flD x) := by
  rcases h with rfl | ⟨b, rfl⟩ | ⟨i, rfl⟩ | ⟨z, rfl, _⟩
  · exact .non
  · exact .bl b
  · exact .int i
  · exact .str z
def numV (x : V) (lo hi : Int) : Bool := match x with
  | .int i => decide (lo ≤ i) && decide (i ≤ hi)
  | _ => false
def formsL : List (Str × Int) := [("read", 3), ("begin", 3), ("done", 1), ("fail", 1), ("lost", 2)]
def formsD : List PyData := formsL.map fun q => .tuple [.str q.1, .int q.2]
def isForm (x : V) (n : Nat) : Bool := match x with
  | .str z => formsL.any fun q => q.1 == z && q.2 == (n : Int)
  | _ => false
theorem any_congr {α : Type} {xs : List α} {f g : α → Bool} (h : ∀ x ∈ xs, f x = g x) : xs.any f = xs.any g := by
  induction xs with
  | nil => rfl
  | cons x xs ih =>
    rw [List.any_cons, List.any_cons, h x List.mem_cons_self, ih fun y hy => h y (List.mem_cons_of_mem _ hy)]
theorem any_form {x : V} (h : FlatE x) (n : Nat) : (formsD.any fun z => PyData.eqv z (.tuple [flD x, .int (n : Int)])) = isForm x n := by
  unfold formsD
  rw [List.any_map]
  rcases h with rfl | ⟨b, rfl⟩ | ⟨i, rfl⟩ | ⟨z, rfl, _⟩
  · exact List.any_eq_false.mpr (by intro q hq; simp [PyData.eqv, PyData.eqvAll, flD])
  · exact List.any_eq_false.mpr (by intro q hq; simp [PyData.eqv, PyData.eqvAll, flD])
  · exact List.any_eq_false.mpr (by intro q hq; simp [PyData.eqv, PyData.eqvAll, flD])
  · show formsL.any _ = formsL.any (fun q => q.1 == z && q.2 == (n : Int))
    refine any_congr fun q hq => ?_
    show PyData.eqv (.tuple [.str q.1, .int q.2]) (.tuple [.str z, .int (n : Int)]) = (q.1 == z && q.2 == (n : Int))
    simp [PyData.eqv, PyData.eqvAll]
def formV (nb : Nat) (xs : List V) : Bool := match xs with
  | [] => false
  | x :: r => isForm x (r.length + 1) && (decide (r.length = 0) || numV (r.getD 0 .non) 0 ((nb : Int) - 1)) && (decide (r.length < 2) || numV (r.getD 1 .non) 0 999)
theorem formV_ok {nb : Nat} {e : En} (h : e.ok nb) : formV nb e.vs = true := by
  cases e with
  | rd b v =>
    obtain ⟨h1, h2, h3⟩ := h
    have e1 : isForm (.str "read") 3 = true := by decide +kernel
    simp [formV, En.vs, e1, numV]
    omega
  | bg b v =>
    obtain ⟨h1, h2, h3⟩ := h
    have e1 : isForm (.str "begin") 3 = true := by decide +kernel
    simp [formV, En.vs, e1, numV]
    omega
  | dn =>
    have e1 : isForm (.str "done") 1 = true := by decide +kernel
    simp [formV, En.vs, e1]
  | fl =>
    have e1 : isForm (.str "fail") 1 = true := by decide +kernel
    simp [formV, En.vs, e1]
  | ls b =>
    have h1 : b < nb := h
    have e1 : isForm (.str "lost") 2 = true := by decide +kernel
    simp [formV, En.vs, e1, numV]
    omega
theorem flat_en {e : En} : ∀ x ∈ e.vs, FlatE x := by
  have s : ∀ z : Str, PyData.strOk z = true → FlatE (.str z) := fun z h => .inr (.inr (.inr ⟨z, rfl, h⟩))
  have n : ∀ i : Int, FlatE (.int i) := fun i => .inr (.inr (.inl ⟨i, rfl⟩))
  have w1 : FlatE (.str "read") := s _ (by decide +kernel)
  have w2 : FlatE (.str "begin") := s _ (by decide +kernel)
  have w3 : FlatE (.str "done") := s _ (by decide +kernel)
  have w4 : FlatE (.str "fail") := s _ (by decide +kernel)
  have w5 : FlatE (.str "lost") := s _ (by decide +kernel)
  cases e <;> simp [En.vs, n, w1, w2, w3, w4, w5]
theorem en_len {e : En} : e.vs.length ≤ 5 := by cases e <;> simp [En.vs]
/-- what is no tuple -/
def NoTup (H : Hp) (v : V) : Prop := v = .non ∨ (∃ i, v = .int i) ∨ (∃ z, v = .str z) ∨ ∃ (l : Addr) (xs : List V), v = .ref l ∧ H l = some (.lst xs)
def spForm (K : PySem.W.Frag) : Sp := fun vs H Q _ => ∃ (v : V) (nb : Nat), vs = [v, .int (nb : Int)] ∧
  ((∃ (t : Addr) (xs : List V), v = .ref t ∧ H t = some (.tup xs) ∧ (∀ x ∈ xs, FlatE x) ∧ xs.length ≤ 5 ∧ ∀ H', Fr [] H H' → Q (.bl (formV nb xs)) H') ∨ (NoTup H v ∧ ∀ H', Fr [] H H' → Q (.bl false) H'))
theorem shaped_fl {x : V} {n : Int} (h : FlatE x) : SeqAt.shaped (.tuple [flD x, .int n]) = true := by
  rcases h with rfl | ⟨b, rfl⟩ | ⟨i, rfl⟩ | ⟨z, rfl, hz⟩
  · simp [SeqAt.shaped, PyData.canLay, PyData.canLayAll0, PyData.depth, PyData.depthAll, PyData.canLay0, flD]
  · simp [SeqAt.shaped, PyData.canLay, PyData.canLayAll0, PyData.depth, PyData.depthAll, PyData.canLay0, flD]
  · simp [SeqAt.shaped, PyData.canLay, PyData.canLayAll0, PyData.depth, PyData.depthAll, PyData.canLay0, flD]
  · simp [SeqAt.shaped, PyData.canLay, PyData.canLayAll0, PyData.depth, PyData.depthAll, PyData.canLay0, flD, hz]
def spNumB : Sp := fun vs H Q _ => ∃ (v : V) (lo hi : Int), vs = [v, .int lo, .int hi] ∧ FlatE v ∧ Q (.bl (numV v lo hi)) H
theorem sE_T {b : Bool} {A B : Prop} (e : b = true) (h : A) : if b = true then A else B := iteTb e h
section
variable {P : Program} {w : World} {K : PySem.W.Frag} {mg : Str → Option Value} {base : Heap}
theorem ok_numB (T : Gx K mg) : FnOk P w K mg base CX0 2 T.f_is_number_from T.fd_is_number_from ["thing", "least", "most"] spNumB := by
  have G_is_number : FnOk P w K mg base CX0 1 T.f_is_number T.fd_is_number ["thing"] (spNum K) := ok_num T
  refine T.F_is_number_from.ok sc_is_number_from (fun vs H Q E h => ?_) (fun cdv A outer s H vs Q E hr h => ?_)
  · obtain ⟨v, lo, hi, rfl, _⟩ := h
    rfl
  · obtain ⟨v, lo, hi, rfl, h, k⟩ := h
    refine ⟨_, (pss_one (ps_ret (pe_and (pe_call G_is_number (hr.mono (by first | decide | omega)) (by rfl) T.g_is_number T.F_is_number.kp (b_is_number T) .nil pass0 (pa_cons (pv 0) pa_nil)) (pe_one (pe_chain op_le op_le (pv 1) (pv 0) (pv 2)))))), ?_⟩
    rcases h with rfl | ⟨b, rfl⟩ | ⟨i, rfl⟩ | ⟨z, rfl, _⟩
    · exact ⟨_, rfl, _, _, false, false, rfl, .base .non, kit_ty (by decide +kernel), kit_ty (by decide +kernel), _, rfl, iteF k⟩
    · exact ⟨_, rfl, _, _, true, true, rfl, .base (.bl b), kit_ty (by decide +kernel), kit_ty (by decide +kernel), _, rfl, iteF k⟩
    · refine ⟨_, rfl, .int i, .type "int", true, false, rfl, .base (.int i), kit_ty (by decide +kernel), kit_ty (by decide +kernel), true, rfl, iteT ?_⟩
      refine ⟨_, rfl, _, rfl, _, _, rfl, rfl, _, rfl, ?_⟩
      have e : numV (.int i) lo hi = (decide (lo ≤ i) && decide (i ≤ hi)) := rfl
      rw [e] at k
      by_cases hl : lo ≤ i
      · rw [decide_eq_true hl] at k ⊢
        exact iteT ⟨_, rfl, _, _, rfl, rfl, k⟩
      · rw [decide_eq_false hl] at k ⊢
        exact iteF k
    · exact ⟨_, rfl, _, _, false, false, rfl, .base (.str z), kit_ty (by decide +kernel), kit_ty (by decide +kernel), _, rfl, iteF k⟩
theorem ok_form (T : Gx K mg) : FnOk P w K mg base CX0 3 T.f__has_form T.fd__has_form ["entry", "blocks"] (spForm K) := by
  have G_is_number_from : FnOk P w K mg base CX0 2 T.f_is_number_from T.fd_is_number_from ["thing", "least", "most"] spNumB := ok_numB T
  refine T.F__has_form.ok sc__has_form (fun vs H Q E h => ?_) (fun cdv A outer s H vs Q E hr h => ?_)
  · obtain ⟨v, nb, rfl, _⟩ := h
    rfl
  · obtain ⟨v, nb, rfl, h⟩ := h
    refine ⟨_, (pss_cons (ps_if (PW.pt (pw_or (pt_not (pt_val (pe_callB call_isi (by rfl) T.z_isinstance (by decide +kernel) (pa_cons (pv 0) (pa_cons (pe_bltn (v := .ty "tuple") (by rfl) T.z_tuple (by decide +kernel) rfl) pa_nil))))) (pw_or (pt_not (pt_truth (pv 0) (fun _ => rfl))) (pw_or1 (pt_cmpR (op_notInT (units2 hr)) (pe_tup (pa_cons (pe_ix ix_tup (pv 0) pe_int (fun _ _ => rfl)) (pa_cons (pe_callB call_len_seq (by rfl) T.z_len (by decide +kernel) (pa_cons (pv 0) pa_nil)) pa_nil))) (pe_glob (v := .ref T.A_ENTRY_FORMS) (by rfl) T.g_ENTRY_FORMS rfl) (by rfl)))))) (pss_one (ps_ret pe_bl)) pss_nil)
      (pss_cons (ps_if (PW.pt (pw_and (pt_cmpR op_gt (pe_callB call_len_seq (by rfl) T.z_len (by decide +kernel) (pa_cons (pv 0) pa_nil)) pe_int (nomark _)) (pw_and1 (pt_not (pt_val (pe_call G_is_number_from (hr.mono (by first | decide | omega)) (by rfl) T.g_is_number_from T.F_is_number_from.kp (b_is_number_from T) .nil pass0 (pa_cons (pe_ix ix_tup (pv 0) pe_int (fun _ _ => rfl)) (pa_cons pe_int (pa_cons (pe_op op_sub (pv 1) pe_int) pa_nil))))))))) (pss_one (ps_ret pe_bl)) pss_nil)
      (pss_one (ps_ret (pe_or (pe_cmpR op_lt (pe_callB call_len_seq (by rfl) T.z_len (by decide +kernel) (pa_cons (pv 0) pa_nil)) pe_int (nomark _)) (pe_one (pe_call G_is_number_from (hr.mono (by first | decide | omega)) (by rfl) T.g_is_number_from T.F_is_number_from.kp (b_is_number_from T) .nil pass0 (pa_cons (pe_ix ix_tup (pv 0) pe_int (fun _ _ => rfl)) (pa_cons pe_int (pa_cons (pe_glob (v := .int (999)) (by rfl) T.c_MOST_VALUE ⟨_, rfl⟩) pa_nil)))))))))), ?_⟩
    rcases h with ⟨t, xs, rfl, ht, hf, hl, k⟩ | ⟨hn, k⟩
    · have isT : ∀ H, Dp K H (.ref T.A_ENTRY_FORMS) (.tuple formsD) := fun H => .tup (T.k_ENTRY_FORMS H) (.cons (.tup (T.k_ENTRY_FORMS_0 H) (.cons (.str _) (.cons (.int _) .nil))) (.cons (.tup (T.k_ENTRY_FORMS_1 H) (.cons (.str _) (.cons (.int _) .nil))) (.cons (.tup (T.k_ENTRY_FORMS_2 H) (.cons (.str _) (.cons (.int _) .nil))) (.cons (.tup (T.k_ENTRY_FORMS_3 H) (.cons (.str _) (.cons (.int _) .nil))) (.cons (.tup (T.k_ENTRY_FORMS_4 H) (.cons (.str _) (.cons (.int _) .nil))) .nil)))))
      refine ⟨_, rfl, _, .ty "tuple", .type "tuple", _, true, rfl, ClsV.ty "tuple", .base (.tup ht), kit_ty (by decide +kernel), true, rfl, ?_⟩
      refine iteF ⟨_, rfl, _, .inr (.inl ⟨xs, SqT.of ht, rfl⟩), ?_⟩
      cases xs with
      | nil => exact iteT (k H (Fr.refl _ _))
      | cons x r =>
        have hx : FlatE x := hf x List.mem_cons_self
        rw [List.length_cons] at hl
        refine iteF ⟨_, rfl, t, _, ((0 : Nat) : Int), _, rfl, rfl, SqT.of ht, atI_nat rfl, _, rfl, t, _, rfl, .inr (SqT.of ht), sz_le (by simp), fun q hq => ?_⟩
        have f1 : Fr [] H (upd H q (.tup [x, .int ((x :: r).length : Nat)])) := Fr.new hq
        have ht1 := f1 _ _ ht (by simp)
        refine ⟨_, formsD, .tup (SqT.of upd_same) (.cons hx.dp (.cons (.int _) .nil)), isT _, shaped_fl hx, by decide +kernel, _, rfl, ?_⟩
        rw [any_form hx]
        have kk := k _ f1
        have eV : formV nb (x :: r) = (isForm x (r.length + 1) && (decide (r.length = 0) || numV (r.getD 0 .non) 0 ((nb : Int) - 1)) && (decide (r.length < 2) || numV (r.getD 1 .non) 0 999)) := rfl
        rw [List.length_cons]
        cases eF : isForm x (r.length + 1) with
        | false =>
          have eb : formV nb (x :: r) = false := by rw [eV, eF]; rfl
          rw [eb] at kk
          exact iteT kk
        | true =>
          rw [eF] at eV
          refine iteF ⟨_, rfl, t, _, rfl, .inr (SqT.of ht1), _, _, rfl, rfl, _, rfl, ?_⟩
          have e1 : decide (((x :: r).length : Int) > 1) = decide (0 < r.length) := by
            rw [List.length_cons]
            exact decide_eq_decide.mpr (by omega)
          rw [e1]
          cases r with
          | nil =>
            refine iteF ?_
            refine ⟨_, rfl, t, _, rfl, .inr (SqT.of ht1), _, _, rfl, rfl, _, rfl, ?_⟩
            have eb : formV nb [x] = true := by rw [eV]; rfl
            rw [eb] at kk
            exact iteT kk
          | cons y r =>
            have hy : FlatE y := hf y (List.mem_cons_of_mem _ List.mem_cons_self)
            refine iteTb (by simp) ⟨_, rfl, t, _, ((1 : Nat) : Int), _, rfl, rfl, SqT.of ht1, atI_nat rfl, _, rfl, _, _, rfl, rfl, _, _, _, rfl, hy, ?_⟩
            refine ⟨_, rfl, ?_⟩
            have e0 : (y :: r).getD 0 .non = y := rfl
            rw [e0] at eV
            cases eN : numV y 0 ((nb : Int) - 1) with
            | false =>
              have eb : formV nb (x :: y :: r) = false := by rw [eV, eN]; simp
              rw [eb] at kk
              exact iteT kk
            | true =>
              rw [eN] at eV
              refine iteF ?_
              refine ⟨_, rfl, t, _, rfl, .inr (SqT.of ht1), _, _, rfl, rfl, _, rfl, ?_⟩
              cases r with
              | nil =>
                have eb : formV nb [x, y] = true := by rw [eV]; rfl
                rw [eb] at kk
                exact iteT kk
              | cons z r =>
                have hz : FlatE z := hf z (List.mem_cons_of_mem _ (List.mem_cons_of_mem _ List.mem_cons_self))
                have eb : formV nb (x :: y :: z :: r) = numV z 0 999 := by
                  rw [eV]
                  have : decide ((y :: z :: r).length < 2) = false := decide_eq_false (by simp only [List.length_cons]; omega)
                  rw [this]
                  simp
                rw [eb] at kk
                refine iteFb ?_ ⟨_, rfl, t, _, ((2 : Nat) : Int), _, rfl, rfl, SqT.of ht1, atI_nat rfl, _, _, _, rfl, hz, kk⟩
                refine decide_eq_false ?_
                simp only [List.length_cons]
                omega
    · obtain ⟨tv, hty, hk⟩ : ∃ tv, TyX K H v tv ∧ PySem.W.kitOne K tv (.type "tuple") = some false := by
        rcases hn with rfl | ⟨i, rfl⟩ | ⟨z, rfl⟩ | ⟨l, xs, rfl, e⟩
        · exact ⟨_, .base .non, kit_ty (by decide +kernel)⟩
        · exact ⟨_, .base (.int i), kit_ty (by decide +kernel)⟩
        · exact ⟨_, .base (.str z), kit_ty (by decide +kernel)⟩
        · exact ⟨_, .base (.lst e), kit_ty (by decide +kernel)⟩
      refine ⟨_, rfl, _, .ty "tuple", tv, _, false, rfl, ClsV.ty "tuple", hty, hk, false, rfl, iteT (k H (Fr.refl _ _))⟩
end
/-! ### an entry is followed -/
theorem UnAt.non {H : Hp} {v : V} {o : Option (Nat × Int)} (h : UnAt H v o) : decide (v = .non) = o.isNone := by
  cases o with
  | none =>
    have : v = .non := h
    rw [this]
    rfl
  | some q =>
    obtain ⟨t, rfl, _⟩ := h
    rfl
/-- the values of one block are exchanged for a new list -/
theorem PoAt.setv {C : Addr} {H : Hp} {a ax l : Addr} {as : List Addr} {uv : V} {p : Po} (h : PoAt C H a ax l as uv p) {q : Addr} {b : Nat} {ys : List Int} (hq : H q = none) :
    PoAt C (upd (upd H q (.lst (ys.map V.int))) l (.lst ((as.set b q).map V.ref))) a ax l (as.set b q) uv ⟨p.vs.set b ys, p.un⟩ ∧ Fr [a, l] H (upd (upd H q (.lst (ys.map V.int))) l (.lst ((as.set b q).map V.ref))) := by
  have f1 : Fr [] H (upd H q (.lst (ys.map V.int))) := Fr.new hq
  have f2 : Fr [l] H (upd (upd H q (.lst (ys.map V.int))) l (.lst ((as.set b q).map V.ref))) := (Fr.new hq).trans (Fr.put (by simp))
  have ql : q ≠ l := (ne_of_none h.ls.lst hq).symm
  refine ⟨⟨f2 _ _ h.ins (by simpa using h.nal), h.ls.set f2 upd_same ((upd_ne ql).trans upd_same) ql, h.un.keep f2 fun b hb xs => ?_, fun z => ?_⟩, f2.mono (by simp)⟩
  · rw [List.mem_singleton.mp hb, h.ls.lst]; simp
  · rcases mem_set z with y | y
    · exact ne_of_none h.ins hq y
    · exact h.na y
/-- the write under way changes -/
theorem PoAt.setu {C : Addr} {H : Hp} {a ax l : Addr} {as : List Addr} {uv : V} {p : Po} (h : PoAt C H a ax l as uv p) {uv' : V} {un' : Option (Nat × Int)} (hu : UnAt H uv' un') :
    PoAt C (upd H a (.ins C ax (lF (.ref l) uv'))) a ax l as uv' ⟨p.vs, un'⟩ ∧ Fr [a, l] H (upd H a (.ins C ax (lF (.ref l) uv'))) := by
  have f1 : Fr [a] H (upd H a (.ins C ax (lF (.ref l) uv'))) := Fr.put (by simp)
  refine ⟨⟨upd_same, h.ls.keep f1 (by simpa using h.nal.symm) (fun w hw => ?_), hu.keep f1 fun b hb xs => ?_, h.na⟩, f1.mono (by simp)⟩
  · rw [List.mem_singleton]
    exact fun z => h.na (by rw [← z]; exact hw)
  · rw [List.mem_singleton.mp hb, h.ins]; simp
/-- all lists are exchanged -/
theorem PoAt.setl {C : Addr} {H : Hp} {a ax l : Addr} {as : List Addr} {uv : V} {p : Po} (h : PoAt C H a ax l as uv p) {l' : Addr} {as' : List Addr} {vs : List (List Int)} (hl : Lists H l' as' vs) (na : a ≠ l') (na2 : a ∉ as') :
    PoAt C (upd H a (.ins C ax (lF (.ref l') uv))) a ax l' as' uv ⟨vs, p.un⟩ ∧ Fr [a] H (upd H a (.ins C ax (lF (.ref l') uv))) := by
  have f1 : Fr [a] H (upd H a (.ins C ax (lF (.ref l') uv))) := Fr.put (by simp)
  refine ⟨⟨upd_same, hl.keep f1 (by simpa using na.symm) (fun w hw => ?_), h.un.keep f1 fun b hb xs => ?_, na2⟩, f1⟩
  · rw [List.mem_singleton]
    exact fun z => na2 (by rw [← z]; exact hw)
  · rw [List.mem_singleton.mp hb, h.ins]; simp
def spFollow (C : Addr) : Sp := fun vs H Q _ => ∃ (a ax l : Addr) (as : List Addr) (uv : V) (p : Po) (nb n : Nat) (t : Addr) (e : En), vs = [.ref a, .ref t] ∧ PoAt C H a ax l as uv p ∧ PoOk nb n p ∧ nb ≤ 16 ∧ n ≤ 99 ∧ e.ok nb ∧ H t = some (.tup e.vs) ∧
  (match p.go e with
    | none => Q (.bl false) H
    | some p' => ∀ (H' : Hp) (l' : Addr) (as' : List Addr) (uv' : V), Fr [a, l] H H' → Gw [a, l] H [a, l'] → PoAt C H' a ax l' as' uv' p' → Q (.bl true) H')
theorem refs_set {as : List Addr} {b : Nat} {q : Addr} : (as.map V.ref).set b (.ref q) = (as.set b q).map V.ref := by rw [List.map_set]
section
variable {P : Program} {w : World} {K : PySem.W.Frag} {mg : Str → Option Value} {base : Heap}
theorem ok_follow (T : Gx K mg) : FnOk P w K mg base CX0 2 T.f_Possibilities_follow T.fd_Possibilities_follow ["self", "entry"] (spFollow T.C_Possibilities) := by
  have G_Possibilities_values_now : FnOk P w K mg base CX0 1 T.f_Possibilities_values_now T.fd_Possibilities_values_now ["self"] (spNow T.C_Possibilities) := ok_now T
  refine T.F_Possibilities_follow.ok sc_Possibilities_follow (fun vs H Q E h => ?_) (fun cdv A outer s H vs Q E hr h => ?_)
  · obtain ⟨a, ax, l, as, uv, p, nb, n, t, e, rfl, _⟩ := h
    rfl
  · obtain ⟨a, ax, l, as, uv, p, nb, n, t, e, rfl, hP, ok, hnb, hn, he, ht, k⟩ := h
    refine ⟨_, (pss_cons (ps_set (i := 2) sc_Possibilities_follow.nd rfl (.inl rfl) (pe_ix ix_tup (pv 1) pe_int (fun _ _ => rfl)))
      (pss_cons (ps_if (pt_cmpR op_eq (pv 2) pe_str (nomark _)) (pss_cons (ps_fld (pv 0) (pe_meth0 (pv 0) T.cl_Possibilities T.m_Possibilities_values_now G_Possibilities_values_now (hr.mono (by first | decide | omega)) (b_Possibilities_values_now T) .nil pass0) rfl)
      (pss_cons (ps_fld (pv 0) pe_non rfl)
      (pss_one (ps_ret pe_bl)))) pss_nil)
      (pss_cons (ps_if (pt_cmpR op_eq (pe_cmpR op_isN (pe_fld (pv 0) rfl) pe_non (nomark _)) (pe_cmpR op_eq (pv 2) pe_str (nomark _)) (nomark _)) (pss_one (ps_ret pe_bl)) pss_nil)
      (pss_cons (ps_if (pt_cmpR op_eq (pv 2) pe_str (nomark _)) (pss_cons (ps_asg (pe_fld (pv 0) rfl) (pg_tup (by rfl) (pgs_cons (pg_name (i := 3) sc_Possibilities_follow.nd rfl (.inl rfl)) (pgs_cons (pg_name (i := 4) sc_Possibilities_follow.nd rfl (.inl rfl)) pgs_nil))))
      (pss_cons (ps_asg (pe_lst (pa_cons (pv 4) pa_nil)) (pg_sub (pe_fld (pv 0) rfl) (pv 3) set_list))
      (pss_one (ps_fld (pv 0) pe_non rfl)))) (pss_one (ps_if (pt_cmpR op_eq (pv 2) pe_str (nomark _)) (pss_one (ps_fld (pv 0) (pe_slice sl_tup (pv 1) (po_some pe_int) po_none) rfl)) (pss_one (ps_if (pt_cmpR op_eq (pv 2) pe_str (nomark _)) (pss_one (ps_asg (pe_listRg rfl (by rfl) T.z_list (prg_1 (by rfl) T.z_range (pe_op op_add (pe_glob (v := .int (999)) (by rfl) T.c_MOST_VALUE ⟨_, rfl⟩) pe_int))) (pg_sub (pe_fld (pv 0) rfl) (pe_ix ix_tup (pv 1) pe_int (fun _ _ => rfl)) set_list))) (pss_one (ps_if (pt_cmpR op_notIn_seq (pe_ix ix_tup (pv 1) pe_int (fun _ _ => rfl)) (pe_ix ix_list (pe_fld (pv 0) rfl) (pe_ix ix_tup (pv 1) pe_int (fun _ _ => rfl)) (fun _ _ => rfl)) (by rfl)) (pss_one (ps_ret pe_bl)) (pss_one (ps_asg (pe_lst (pa_cons (pe_ix ix_tup (pv 1) pe_int (fun _ _ => rfl)) pa_nil)) (pg_sub (pe_fld (pv 0) rfl) (pe_ix ix_tup (pv 1) pe_int (fun _ _ => rfl)) set_list))))))))))
      (pss_one (ps_ret pe_bl)))))), ?_⟩
    have hlen : as.length = nb := hP.ls.len.trans ok.len
    cases e with
    | fl =>
      refine ⟨_, rfl, t, _, ((0 : Nat) : Int), _, rfl, rfl, SqT.of ht, atI_nat rfl, ?_⟩
      refine ⟨_, rfl, rfl, _, rfl, iteTb (by decide +kernel) ?_⟩
      refine ⟨_, rfl, a, ax, _, rfl, hP.ins, lF_no_values_now, a, ax, l, as, uv, p, nb, n, rfl, hP, ok, hnb, by omega, fun H1 r rs f1 hr1 nw L => ?_⟩
      have hP1 := hP.keep0 f1
      have nar : a ≠ r := ne_of_none hP.ins hr1
      refine ⟨_, rfl, a, T.C_Possibilities, ax, _, rfl, hP1.ins, T.cl_Possibilities, T.n_Possibilities__values, by simp [lF], ?_⟩
      rw [lF_put0]
      obtain ⟨hP2, f2⟩ := hP1.setl L nar fun z => by
        have := nw a z
        rw [hP.ins] at this
        cases this
      refine ⟨_, rfl, a, T.C_Possibilities, ax, _, rfl, hP2.ins, T.cl_Possibilities, T.n_Possibilities__under_way, by simp [lF], ?_⟩
      rw [lF_put1]
      obtain ⟨hP3, f3⟩ := hP2.setu (uv' := .non) (un' := none) rfl
      refine k _ r rs .non ?_ ?_ hP3
      · have f12 : Fr [a, l] H _ := (f1.mono (by simp)).trans (f2.mono (by simp))
        exact f12.grow f3 fun b hb => by
          rcases List.mem_cons.mp hb with rfl | hb
          · exact .inl (by simp)
          · rw [List.mem_singleton.mp hb]
            exact .inr hr1
      · intro b hb
        rcases List.mem_cons.mp hb with rfl | hb
        · exact .inl (by simp)
        · rw [List.mem_singleton.mp hb]
          exact .inr hr1
    | dn =>
      refine ⟨_, rfl, t, _, ((0 : Nat) : Int), _, rfl, rfl, SqT.of ht, atI_nat rfl, ?_⟩
      refine ⟨_, rfl, rfl, _, rfl, iteFb (by decide +kernel) ?_⟩
      refine ⟨_, rfl, a, T.C_Possibilities, ax, _, _, rfl, hP.ins, T.cl_Possibilities, T.n_Possibilities__under_way, lF_get1, rfl, _, rfl, rfl, rfl, _, rfl, ?_⟩
      rw [hP.un.non]
      cases eu : p.un with
      | none =>
        have eg : p.go .dn = none := by show (match p.un with | none => none | some (b, v) => some (⟨p.vs.set b [v], none⟩ : Po)) = none; rw [eu]
        rw [eg] at k
        exact iteTb (by decide +kernel) k
      | some q =>
        obtain ⟨b, v⟩ := q
        have eg : p.go .dn = some ⟨p.vs.set b [v], none⟩ := by show (match p.un with | none => none | some (b, v) => some (⟨p.vs.set b [v], none⟩ : Po)) = _; rw [eu]
        rw [eg] at k
        rw [Option.isNone_some]
        refine iteFb (by decide +kernel) ?_
        have hU := hP.un
        rw [eu] at hU
        obtain ⟨u, rfl, hu⟩ := hU
        refine ⟨_, rfl, rfl, _, rfl, iteTb (by decide +kernel) ?_⟩
        refine ⟨_, rfl, a, T.C_Possibilities, ax, _, _, rfl, hP.ins, T.cl_Possibilities, T.n_Possibilities__under_way, lF_get1, u, _, rfl, SqT.of hu, rfl, _, _, rfl, _, _, rfl, rfl, ?_⟩
        refine ⟨_, rfl, sz_le (by simp), fun q hq => ?_⟩
        have f1 : Fr [] H (upd H q (.lst [V.int v])) := Fr.new hq
        have hb := (ok.un b v eu).1
        refine ⟨_, rfl, a, T.C_Possibilities, ax, _, _, rfl, f1 _ _ hP.ins (by simp), T.cl_Possibilities, T.n_Possibilities__values, lF_get0, _, rfl, l, _, _, b, rfl, rfl, f1 _ _ hP.ls.lst (by simp), ix_at b (by rw [List.length_map]; omega), ?_⟩
        rw [refs_set]
        obtain ⟨hP2, f2⟩ := hP.setv (b := b) (ys := [v]) hq
        refine ⟨_, rfl, a, T.C_Possibilities, ax, _, rfl, hP2.ins, T.cl_Possibilities, T.n_Possibilities__under_way, by simp [lF], ?_⟩
        rw [lF_put1]
        obtain ⟨hP3, f3⟩ := hP2.setu (uv' := .non) (un' := none) rfl
        exact k _ l _ .non (f2.trans f3) (Gw.refl _ _) hP3
    | bg b v =>
      have eg : p.go (.bg b v) = if p.un.isSome then none else some ⟨p.vs, some (b, v)⟩ := rfl
      rw [eg] at k
      refine ⟨_, rfl, t, _, ((0 : Nat) : Int), _, rfl, rfl, SqT.of ht, atI_nat rfl, ?_⟩
      refine ⟨_, rfl, rfl, _, rfl, iteFb (by decide +kernel) ?_⟩
      refine ⟨_, rfl, a, T.C_Possibilities, ax, _, _, rfl, hP.ins, T.cl_Possibilities, T.n_Possibilities__under_way, lF_get1, rfl, _, rfl, rfl, rfl, _, rfl, ?_⟩
      rw [hP.un.non]
      cases eu : p.un with
      | some q =>
        rw [eu] at k
        rw [Option.isNone_some]
        exact iteTb (by decide +kernel) k
      | none =>
        rw [eu] at k
        refine iteFb (by decide +kernel) ?_
        refine ⟨_, rfl, rfl, _, rfl, iteFb (by decide +kernel) ?_⟩
        refine ⟨_, rfl, rfl, _, rfl, iteTb (by decide +kernel) ?_⟩
        refine ⟨_, rfl, (1 : Int), rfl, t, _, rfl, SqT.of ht, (fun z => absurd z.1 (by decide : ¬ HT.sIx 3 0 (some 1) = 0)), fun q hq => ?_⟩
        have f1 : Fr [] H (upd H q (.tup [V.int (b : Int), V.int v])) := Fr.new hq
        have hP1 := hP.keep0 f1
        refine ⟨_, rfl, a, T.C_Possibilities, ax, _, rfl, hP1.ins, T.cl_Possibilities, T.n_Possibilities__under_way, by simp [lF], ?_⟩
        rw [lF_put1]
        obtain ⟨hP3, f3⟩ := hP1.setu (uv' := .ref q) (un' := some (b, v)) ⟨q, rfl, upd_same⟩
        exact k _ l _ _ ((f1.mono (by simp)).trans f3) (Gw.refl _ _) hP3
    | ls b =>
      have eg : p.go (.ls b) = if p.un.isSome then none else some ⟨p.vs.set b allV, none⟩ := rfl
      rw [eg] at k
      refine ⟨_, rfl, t, _, ((0 : Nat) : Int), _, rfl, rfl, SqT.of ht, atI_nat rfl, ?_⟩
      refine ⟨_, rfl, rfl, _, rfl, iteFb (by decide +kernel) ?_⟩
      refine ⟨_, rfl, a, T.C_Possibilities, ax, _, _, rfl, hP.ins, T.cl_Possibilities, T.n_Possibilities__under_way, lF_get1, rfl, _, rfl, rfl, rfl, _, rfl, ?_⟩
      rw [hP.un.non]
      cases eu : p.un with
      | some q =>
        rw [eu] at k
        rw [Option.isNone_some]
        exact iteTb (by decide +kernel) k
      | none =>
        rw [eu] at k
        refine iteFb (by decide +kernel) ?_
        refine ⟨_, rfl, rfl, _, rfl, iteFb (by decide +kernel) ?_⟩
        refine ⟨_, rfl, rfl, _, rfl, iteFb (by decide +kernel) ?_⟩
        refine ⟨_, rfl, rfl, _, rfl, iteTb (by decide +kernel) ?_⟩
        refine ⟨_, _, rfl, rfl, _, rfl, RgOk.of_le (Int.le_refl _) (by decide) (by decide) (by decide), fun q hq => ?_⟩
        have erg : rgV 0 (999 + 1) = allV.map V.int := by
          unfold rgV allV
          rw [List.map_map]
          refine List.map_congr_left fun n _ => ?_
          show V.int (0 + (n : Int)) = V.int (n : Int)
          rw [Int.zero_add]
        rw [erg]
        have f1 : Fr [] H (upd H q (.lst (allV.map V.int))) := Fr.new hq
        have ht1 := f1 _ _ ht (by simp)
        refine ⟨_, rfl, a, T.C_Possibilities, ax, _, _, rfl, f1 _ _ hP.ins (by simp), T.cl_Possibilities, T.n_Possibilities__values, lF_get0, _, rfl, t, _, ((1 : Nat) : Int), _, rfl, rfl, SqT.of ht1, atI_nat rfl, l, _, _, b, rfl, rfl, f1 _ _ hP.ls.lst (by simp), ix_at b (by rw [List.length_map, hlen]; exact he), ?_⟩
        rw [refs_set]
        obtain ⟨hP2, f2⟩ := hP.setv (b := b) (ys := allV) hq
        rw [eu] at hP2
        exact k _ l _ _ f2 (Gw.refl _ _) hP2
    | rd b v =>
      have eg : p.go (.rd b v) = if p.un.isSome then none else if v ∈ p.vs.getD b [] then some ⟨p.vs.set b [v], none⟩ else none := rfl
      rw [eg] at k
      refine ⟨_, rfl, t, _, ((0 : Nat) : Int), _, rfl, rfl, SqT.of ht, atI_nat rfl, ?_⟩
      refine ⟨_, rfl, rfl, _, rfl, iteFb (by decide +kernel) ?_⟩
      refine ⟨_, rfl, a, T.C_Possibilities, ax, _, _, rfl, hP.ins, T.cl_Possibilities, T.n_Possibilities__under_way, lF_get1, rfl, _, rfl, rfl, rfl, _, rfl, ?_⟩
      rw [hP.un.non]
      cases eu : p.un with
      | some q =>
        rw [eu] at k
        rw [Option.isNone_some]
        exact iteTb (by decide +kernel) k
      | none =>
        rw [eu] at k
        refine iteFb (by decide +kernel) ?_
        refine ⟨_, rfl, rfl, _, rfl, iteFb (by decide +kernel) ?_⟩
        refine ⟨_, rfl, rfl, _, rfl, iteFb (by decide +kernel) ?_⟩
        refine ⟨_, rfl, rfl, _, rfl, iteFb (by decide +kernel) ?_⟩
        have hb : b < p.vs.length := by rw [ok.len]; exact he.1
        obtain ⟨c, hc, hC⟩ := hP.ls.at hb
        have hcm : (as.map V.ref)[b]? = some (V.ref c) := by rw [List.getElem?_map, hc]; rfl
        refine ⟨_, rfl, t, _, ((2 : Nat) : Int), _, rfl, rfl, SqT.of ht, atI_nat rfl, _, rfl, a, T.C_Possibilities, ax, _, _, rfl, hP.ins, T.cl_Possibilities, T.n_Possibilities__values, lF_get0, _, rfl, t, _, ((1 : Nat) : Int), _, rfl, rfl, SqT.of ht, atI_nat rfl, l, _, _, _, rfl, rfl, SqL.of hP.ls.lst, atI_nat hcm, c, _, rfl, .inl (SqL.of hC), rfl, flat_ints _, _, rfl, ?_⟩
        rw [inV_int]
        by_cases hm : v ∈ p.vs.getD b []
        · simp only [Option.isSome_none, if_neg Bool.false_ne_true, if_pos hm] at k
          rw [decide_eq_true hm]
          refine iteF ⟨_, rfl, t, _, ((2 : Nat) : Int), _, rfl, rfl, SqT.of ht, atI_nat rfl, sz_le (by simp), fun q hq => ?_⟩
          have f1 : Fr [] H (upd H q (.lst [V.int v])) := Fr.new hq
          have ht1 := f1 _ _ ht (by simp)
          refine ⟨_, rfl, a, T.C_Possibilities, ax, _, _, rfl, f1 _ _ hP.ins (by simp), T.cl_Possibilities, T.n_Possibilities__values, lF_get0, _, rfl, t, _, ((1 : Nat) : Int), _, rfl, rfl, SqT.of ht1, atI_nat rfl, l, _, _, b, rfl, rfl, f1 _ _ hP.ls.lst (by simp), ix_at b (by rw [List.length_map, hlen]; exact he.1), ?_⟩
          rw [refs_set]
          obtain ⟨hP2, f2⟩ := hP.setv (b := b) (ys := [v]) hq
          rw [eu] at hP2
          exact k _ l _ _ f2 (Gw.refl _ _) hP2
        · simp only [Option.isSome_none, if_neg Bool.false_ne_true, if_neg hm] at k
          rw [decide_eq_false hm]
          exact iteT k
end
/-! ### what is new stands apart -/
theorem made_fr {H H' : Hp} {p dx C : Addr} (hp : H p = none) (hdx : H dx = none) (f : Fr [p] (upd (upd H dx (.own p)) p (.ins C dx [])) H') : Fr [] H H' := fun b o e _ => by
  have n1 : b ≠ p := ne_of_none e hp
  have n2 : b ≠ dx := ne_of_none e hdx
  exact f b o (by rw [upd_ne n1, upd_ne n2]; exact e) (by simpa using n1)
/-! ### a log is walked -/
def ItAt (H : Hp) (nb : Nat) (v : V) : Option En → Prop
  | some e => ∃ t : Addr, v = .ref t ∧ H t = some (.tup e.vs) ∧ e.ok nb
  | none => NoTup H v ∨ ∃ (t : Addr) (xs : List V), v = .ref t ∧ H t = some (.tup xs) ∧ (∀ x ∈ xs, FlatE x) ∧ xs.length ≤ 5 ∧ formV nb xs = false
theorem NoTup.keep0 {H H' : Hp} {v : V} (h : NoTup H v) (f : Fr [] H H') : NoTup H' v := by
  rcases h with h | h | h | ⟨l, xs, e, e2⟩
  · exact .inl h
  · exact .inr (.inl h)
  · exact .inr (.inr (.inl h))
  · exact .inr (.inr (.inr ⟨l, xs, e, f _ _ e2 (by simp)⟩))
theorem ItAt.keep0 {H H' : Hp} {nb : Nat} {v : V} {o : Option En} (h : ItAt H nb v o) (f : Fr [] H H') : ItAt H' nb v o := by
  cases o with
  | some e =>
    obtain ⟨t, e1, e2, e3⟩ := h
    exact ⟨t, e1, f _ _ e2 (by simp), e3⟩
  | none =>
    rcases h with h | ⟨t, xs, e1, e2, e3⟩
    · exact .inl (h.keep0 f)
    · exact .inr ⟨t, xs, e1, f _ _ e2 (by simp), e3⟩
def walkP : Nat → Po → List (Option En) → Option Nat × Po
  | _, p, [] => (none, p)
  | i, p, x :: r => match x.bind p.go with
    | none => (some i, p)
    | some p' => walkP (i + 1) p' r
def po0 (nb : Nat) : Po := ⟨List.replicate nb [0], none⟩
theorem po0_ok (nb : Nat) : PoOk nb 0 (po0 nb) := ⟨List.length_replicate, fun b v e => (by cases e), fun l hl => .inr (by
  rw [List.eq_of_mem_replicate hl]
  simp)⟩
def optV : Option Nat → V
  | none => .non
  | some i => .int (i : Int)
structure Log (H : Hp) (nb : Nat) (lg : Addr) (xs : List V) (its : List (Option En)) : Prop where
  lst : H lg = some (.lst xs)
  len : xs.length = its.length
  its : ∀ (i : Nat) (x : V) (o : Option En), xs[i]? = some x → its[i]? = some o → ItAt H nb x o
theorem Log.keep0 {H H' : Hp} {nb : Nat} {lg : Addr} {xs : List V} {its : List (Option En)} (h : Log H nb lg xs its) (f : Fr [] H H') : Log H' nb lg xs its := ⟨f _ _ h.lst (by simp), h.len, fun i x o e1 e2 => (h.its i x o e1 e2).keep0 f⟩
def NoLst (H : Hp) (v : V) : Prop := v = .non ∨ (∃ i, v = .int i) ∨ (∃ z, v = .str z) ∨ ∃ (t : Addr) (xs : List V), v = .ref t ∧ H t = some (.tup xs)
/-- what a log is, and what walking it tells -/
def Walked (H : Hp) (nb : Nat) (v : V) (r : Option Nat × Po) : Prop := (∃ (lg : Addr) (xs : List V) (its : List (Option En)), v = .ref lg ∧ Log H nb lg xs its ∧ its.length ≤ 60 ∧ r = walkP 0 (po0 nb) its) ∨ (NoLst H v ∧ r = (some 0, po0 nb))
def spWalk (C : Addr) : Sp := fun vs H Q _ => ∃ (nb : Nat) (v : V) (r : Option Nat × Po), vs = [.int (nb : Int), v] ∧ 1 ≤ nb ∧ nb ≤ 16 ∧ Walked H nb v r ∧
  ∀ (H' : Hp) (u a ax l : Addr) (as : List Addr) (uv : V), Fr [] H H' → H u = none → H a = none → H' u = some (.tup [optV r.1, .ref a]) → PoAt C H' a ax l as uv r.2 → PoOk nb 60 r.2 → Q (.ref u) H'
theorem PoOk.le {nb n m : Nat} {p : Po} (h : PoOk nb n p) (hm : n ≤ m) : PoOk nb m p := ⟨h.len, h.un, fun l hl => (h.vs l hl).imp id fun ⟨a, b, c, d⟩ => ⟨a, b, by omega, d⟩⟩
section
variable {P : Program} {w : World} {K : PySem.W.Frag} {mg : Str → Option Value} {base : Heap}
theorem ok_walk (T : Gx K mg) : FnOk P w K mg base CX0 4 T.f__walk T.fd__walk ["blocks", "log"] (spWalk T.C_Possibilities) := by
  have G_check_blocks : FnOk P w K mg base CX0 3 T.f_check_blocks T.fd_check_blocks ["blocks", "most"] spChk := ok_chkB T
  have G_Possibilities___init__ : FnOk P w K mg base CX0 1 T.f_Possibilities___init__ T.fd_Possibilities___init__ ["self", "blocks"] (spPoInit T.C_Possibilities) := ok_poInit T
  have G__has_form : FnOk P w K mg base CX0 3 T.f__has_form T.fd__has_form ["entry", "blocks"] (spForm K) := ok_form T
  have G_Possibilities_follow : FnOk P w K mg base CX0 2 T.f_Possibilities_follow T.fd_Possibilities_follow ["self", "entry"] (spFollow T.C_Possibilities) := ok_follow T
  obtain ⟨dsB, rdB, bB⟩ := T.F_check_blocks.binds1 (ps := ["blocks", "most"]) 1 0 (by simp) rfl (fun U kV doc pm an cdv ct us its hu hi => match us, hu, its, hi with
    | [_], _, [_], _ => ⟨_, rfl, rfl⟩)
  refine T.F__walk.ok sc__walk (fun vs H Q E h => ?_) (fun cdv A outer s H vs Q E hr h => ?_)
  · obtain ⟨nb, v, r, rfl, _⟩ := h
    rfl
  · obtain ⟨nb, v, r, rfl, hb1, hb2, hW, k⟩ := h
    refine ⟨_, (pss_cons (ps_expr (pe_call G_check_blocks (hr.mono (by first | decide | omega)) (by rfl) T.g_check_blocks T.F_check_blocks.kp bB rdB pass0 (pa_cons (pv 0) pa_nil)))
      (pss_cons (ps_set (i := 2) sc__walk.nd rfl (.inl rfl) (pe_make T.M_Possibilities___init__ G_Possibilities___init__ (hr.mono (by first | decide | omega)) (by rfl) T.gC_Possibilities (b_Possibilities___init__ T) .nil pass0 (pa_cons (pv 0) pa_nil)))
      (pss_cons (ps_if (pt_not (pt_val (pe_callB call_isi (by rfl) T.z_isinstance (by decide +kernel) (pa_cons (pv 1) (pa_cons (pe_bltn (v := .ty "list") (by rfl) T.z_list (by decide +kernel) rfl) pa_nil))))) (pss_one (ps_ret (pe_tup (pa_cons pe_int (pa_cons (pv 2) pa_nil))))) pss_nil)
      (pss_cons (ps_for PassesOwn.never rfl (pi_enum (by rfl) T.z_enumerate (pa_cons (pv 1) pa_nil)) (pg_tup (by rfl) (pgs_cons (pg_name (i := 3) sc__walk.nd rfl (.inl rfl)) (pgs_cons (pg_name (i := 4) sc__walk.nd rfl (.inl rfl)) pgs_nil))) (pss_one (ps_if (PW.pt (pw_or (pt_not (pt_val (pe_call G__has_form (hr.mono (by first | decide | omega)) (by rfl) T.g__has_form T.F__has_form.kp (b__has_form T) .nil pass0 (pa_cons (pv 4) (pa_cons (pv 0) pa_nil))))) (pw_or1 (pt_not (pt_val (pe_meth (pv 2) T.cl_Possibilities T.m_Possibilities_follow G_Possibilities_follow (hr.mono (by first | decide | omega)) (b_Possibilities_follow T) .nil pass0 (pa_cons (pv 4) pa_nil))))))) (pss_one (ps_ret (pe_tup (pa_cons (pv 3) (pa_cons (pv 2) pa_nil))))) pss_nil)))
      (pss_one (ps_ret (pe_tup (pa_cons pe_non (pa_cons (pv 2) pa_nil))))))))), ?_⟩
    refine ⟨_, rfl, (nb : Int), 16, rfl, by omega, by omega, ?_⟩
    refine ⟨_, rfl, fun q qx hq hqx hne => ⟨q, qx, nb, rfl, hb2, upd_same, fun H1 l as f1 hl hP => ⟨rfl, ?_⟩⟩⟩
    have g1 := made_fr hq hqx f1
    have hl0 := (free_upd (free_upd hl).1).1
    rcases hW with ⟨lg, xs, its, rfl, hL, hlen, rfl⟩ | ⟨hn, rfl⟩
    · have hL1 := hL.keep0 g1
      refine ⟨_, rfl, _, .ty "list", .type "list", _, true, rfl, ClsV.ty "list", .base (.lst hL1.lst), kit_ty (by decide +kernel), true, rfl, iteF ?_⟩
      refine ⟨_, rfl, lg, _, rfl, SqL.of hL1.lst, for_enumL (K := K) (a := lg) (xs := xs) (fun i σ H' => ∃ (l : Addr) (as : List Addr) (uv : V) (p : Po) (v3 v4 : Option V), σ = [some (.int (nb : Int)), some (.ref lg), some (.ref q), v3, v4] ∧ Fr [] H H' ∧ H l = none ∧ PoAt T.C_Possibilities H' q qx l as uv p ∧ PoOk nb i p ∧ walkP 0 (po0 nb) its = walkP i p (its.drop i))
        ⟨l, as, .non, po0 nb, none, none, rfl, g1, hl0, hP, po0_ok nb, rfl⟩ (fun i σ H' _ h => by
          obtain ⟨l, as, uv, p, v3, v4, _, f, _⟩ := h
          exact SqL.of (hL.keep0 f).lst) ?_ ?_⟩
      · rintro i x _ H2 U hx ⟨l2, as2, uv, p, v3, v4, rfl, f2, hl2, hP2, ok2, eW⟩ hU
        have hi : i < its.length := by rw [← hL.len]; exact lt_of_at hx
        have f3 : Fr [] H (upd H2 U (.tup [.int (i : Nat), x])) := f2.trans (Fr.new hU)
        have hP3 := hP2.keep0 (Fr.new (o := .tup [.int (i : Nat), x]) hU)
        refine ⟨U, _, rfl, SqT.of upd_same, rfl, _, _, rfl, _, _, rfl, rfl, ?_⟩
        have hIt := ((hL.its i x _ hx (List.getElem?_eq_getElem hi)).keep0 f3)
        rw [List.drop_eq_getElem_cons hi] at eW
        have bad : ∀ H4, Fr [] H H4 → (∃ as uv, PoAt T.C_Possibilities H4 q qx l2 as uv p) → (its[i].bind p.go = none) → ∀ t, H4 t = none → Q (.ref t) (upd H4 t (.tup [.int (i : Int), .ref q])) := fun H4 f4 hP4 hb t ht => by
          obtain ⟨as4, uv4, hP4⟩ := hP4
          have e : walkP 0 (po0 nb) its = (some i, p) := by
            rw [eW]
            show (match its[i].bind p.go with | none => (some i, p) | some p' => walkP (i + 1) p' (its.drop (i + 1))) = _
            rw [hb]
          rw [e] at k
          exact k _ t q qx l2 as4 uv4 (f4.trans (Fr.new ht)) (some_of f4 (by simp) ht) hq upd_same (hP4.keep0 (Fr.new ht)) (ok2.le (by omega))
        cases eI : its[i] with
        | none =>
          rw [eI] at hIt
          have run : ∀ H4, Fr [] (upd H2 U (.tup [.int (i : Nat), x])) H4 → ∀ t, H4 t = none → Q (.ref t) (upd H4 t (.tup [.int (i : Int), .ref q])) := fun H4 f4 t ht => bad H4 (f3.trans f4) ⟨_, _, hP3.keep0 f4⟩ (by rw [eI]; rfl) t ht
          rcases hIt with hIt | ⟨t, zs, rfl, ht, hf, hz, hv⟩
          · exact ⟨_, rfl, _, rfl, x, nb, rfl, .inr ⟨hIt, fun H4 f4 => ⟨_, rfl, iteT ⟨_, rfl, _, rfl, sz_le (by simp), fun t ht => run H4 f4 t ht⟩⟩⟩⟩
          · refine ⟨_, rfl, _, rfl, _, nb, rfl, .inl ⟨t, zs, rfl, ht, hf, hz, fun H4 f4 => ⟨_, rfl, ?_⟩⟩⟩
            rw [hv]
            exact iteT ⟨_, rfl, _, rfl, sz_le (by simp), fun t ht => run H4 f4 t ht⟩
        | some e =>
          rw [eI] at hIt
          obtain ⟨t, rfl, ht, he⟩ := hIt
          refine ⟨_, rfl, _, rfl, _, nb, rfl, .inl ⟨t, e.vs, rfl, ht, flat_en, en_len, fun H4 f4 => ⟨_, rfl, ?_⟩⟩⟩
          rw [formV_ok he]
          refine iteF ?_
          have f5 := f3.trans f4
          have hP5 := hP3.keep0 f4
          have ht5 := f4 _ _ ht (by simp)
          refine ⟨_, rfl, q, qx, _, rfl, hP5.ins, lF_no_follow, _, rfl, q, qx, l2, as2, uv, p, nb, i, t, e, rfl, hP5, ok2, hb2, by omega, he, ht5, ?_⟩
          cases eg : p.go e with
          | none => exact ⟨_, rfl, iteT ⟨_, rfl, _, rfl, sz_le (by simp), fun t ht => bad H4 f5 ⟨_, _, hP5⟩ (by rw [eI]; exact eg) t ht⟩⟩
          | some p' =>
            refine fun H6 l6 as6 uv6 f6 g6 hP6 => ⟨_, rfl, iteF ?_⟩
            have f06 : Fr [] H H6 := f5.grow f6 fun b hb => by
              rcases List.mem_cons.mp hb with e | hb
              · rw [e]; exact .inr hq
              · rw [List.mem_singleton.mp hb]; exact .inr hl2
            have hl6 : H l6 = none := by
              rcases g6 l6 (by simp) with z | z
              · rcases List.mem_cons.mp z with e | z
                · rw [e]; exact hq
                · rw [List.mem_singleton.mp z]; exact hl2
              · exact some_of f5 (by simp) z
            refine ⟨l6, as6, uv6, p', _, _, rfl, f06, hl6, hP6, ok2.go he eg, ?_⟩
            rw [eW]
            show (match its[i].bind p.go with | none => (some i, p) | some p' => walkP (i + 1) p' (its.drop (i + 1))) = _
            rw [eI]
            show (match p.go e with | none => (some i, p) | some p' => walkP (i + 1) p' (its.drop (i + 1))) = _
            rw [eg]
      · rintro _ H2 ⟨l2, as2, uv, p, v3, v4, rfl, f2, hl2, hP2, ok2, eW⟩
        refine ⟨_, rfl, sz_le (by simp), fun t ht => ?_⟩
        rw [hL.len, List.drop_length] at eW
        rw [eW] at k
        exact k _ t q qx l2 as2 uv (f2.trans (Fr.new ht)) (some_of f2 (by simp) ht) hq upd_same (hP2.keep0 (Fr.new ht)) (ok2.le (by rw [hL.len]; omega))
    · obtain ⟨tv, hty, hk⟩ : ∃ tv, TyX K H1 v tv ∧ PySem.W.kitOne K tv (.type "list") = some false := by
        rcases hn with rfl | ⟨i, rfl⟩ | ⟨z, rfl⟩ | ⟨t, xs, rfl, e⟩
        · exact ⟨_, .base .non, kit_ty (by decide +kernel)⟩
        · exact ⟨_, .base (.int i), kit_ty (by decide +kernel)⟩
        · exact ⟨_, .base (.str z), kit_ty (by decide +kernel)⟩
        · exact ⟨_, .base (.tup (g1 _ _ e (by simp))), kit_ty (by decide +kernel)⟩
      refine ⟨_, rfl, _, .ty "list", tv, _, false, rfl, ClsV.ty "list", hty, hk, false, rfl, iteT ⟨_, rfl, sz_le (by simp), fun t ht => ?_⟩⟩
      exact k _ t q qx l as .non (g1.trans (Fr.new ht)) (some_of g1 (by simp) ht) hq upd_same (hP.keep0 (Fr.new ht)) ((po0_ok nb).le (by omega))
end
/-! ### sorted lists of numbers -/
def sortI (ys : List Int) : List Int := ys.mergeSort fun a b => decide (a ≤ b)
theorem sortI_sorted (ys : List Int) : (sortI ys).Pairwise (· ≤ ·) :=
  (List.pairwise_mergeSort (le := fun (a b : Int) => decide (a ≤ b)) (fun a b c h1 h2 => decide_eq_true (Int.le_trans (of_decide_eq_true h1) (of_decide_eq_true h2))) (fun a b => by
    rcases Int.le_total a b with h | h
    · simp [h]
    · simp [h]) ys).imp fun h => of_decide_eq_true h
theorem sorted_eq {as bs : List Int} (h : as.Perm bs) (ha : as.Pairwise (· ≤ ·)) (hb : bs.Pairwise (· ≤ ·)) : as = bs :=
  List.Perm.eq_of_pairwise (le := fun (a b : Int) => a ≤ b) (fun a b _ _ h1 h2 => Int.le_antisymm h1 h2) ha hb h
theorem sortI_of {as ys : List Int} (h : as.Perm ys) (ha : as.Pairwise (· ≤ ·)) : as = sortI ys := sorted_eq (h.trans (List.mergeSort_perm _ _).symm) ha (sortI_sorted ys)
theorem sortI_perm {as bs : List Int} (h : as.Perm bs) : sortI as = sortI bs := sorted_eq (((List.mergeSort_perm _ _).trans h).trans (List.mergeSort_perm _ _).symm) (sortI_sorted as) (sortI_sorted bs)
/-! ### errors and possible values -/
def shownV (l : List Int) : List Int := if l.length > 999 then [-1] else sortI l
def spFirst : Sp := fun vs H Q _ => ∃ (nb : Nat) (v : V) (r : Option Nat × Po), vs = [.int (nb : Int), v] ∧ 1 ≤ nb ∧ nb ≤ 16 ∧ Walked H nb v r ∧ ∀ H', Fr [] H H' → Q (optV r.1) H'
def spPoss : Sp := fun vs H Q _ => ∃ (nb : Nat) (v : V) (r : Option Nat × Po), vs = [.int (nb : Int), v] ∧ 1 ≤ nb ∧ nb ≤ 16 ∧ Walked H nb v r ∧ (∀ l ∈ r.2.now, l = allV ∨ l.length < 64) ∧
  (match r.1 with
    | some _ => ∀ H', Fr [] H H' → Q .non H'
    | none => ∀ (H' : Hp) (l : Addr) (as : List Addr), Fr [] H H' → H l = none → (∀ a ∈ as, H a = none) → as.Nodup → Lists H' l as (r.2.now.map shownV) → Q (.ref l) H')
section
variable {P : Program} {w : World} {K : PySem.W.Frag} {mg : Str → Option Value} {base : Heap}
theorem ok_first (T : Gx K mg) : FnOk P w K mg base CX0 5 T.f_first_error T.fd_first_error ["blocks", "log"] spFirst := by
  have G__walk : FnOk P w K mg base CX0 4 T.f__walk T.fd__walk ["blocks", "log"] (spWalk T.C_Possibilities) := ok_walk T
  refine T.F_first_error.ok sc_first_error (fun vs H Q E h => ?_) (fun cdv A outer s H vs Q E hr h => ?_)
  · obtain ⟨nb, v, r, rfl, _⟩ := h
    rfl
  · obtain ⟨nb, v, r, rfl, h1, h2, hW, k⟩ := h
    refine ⟨_, (pss_one (ps_ret (pe_ix ix_tup (pe_call G__walk (hr.mono (by first | decide | omega)) (by rfl) T.g__walk T.F__walk.kp (b__walk T) .nil pass0 (pa_cons (pv 0) (pa_cons (pv 1) pa_nil))) pe_int (fun _ _ => rfl)))), ?_⟩
    refine ⟨_, rfl, _, rfl, nb, v, r, rfl, h1, h2, hW, fun H1 u a ax l as uv f1 hu ha e1 hP ok => ?_⟩
    exact ⟨u, _, ((0 : Nat) : Int), _, rfl, rfl, SqT.of e1, atI_nat rfl, k H1 f1⟩
theorem ok_poss (T : Gx K mg) : FnOk P w K mg base CX0 5 T.f_possible_values T.fd_possible_values ["blocks", "log"] spPoss := by
  have G__walk : FnOk P w K mg base CX0 4 T.f__walk T.fd__walk ["blocks", "log"] (spWalk T.C_Possibilities) := ok_walk T
  have G_Possibilities_values_now : FnOk P w K mg base CX0 1 T.f_Possibilities_values_now T.fd_Possibilities_values_now ["self"] (spNow T.C_Possibilities) := ok_now T
  refine T.F_possible_values.ok sc_possible_values (fun vs H Q E h => ?_) (fun cdv A outer s H vs Q E hr h => ?_)
  · obtain ⟨nb, v, r, rfl, _⟩ := h
    rfl
  · obtain ⟨nb, v, r, rfl, h1, h2, hW, hs, k⟩ := h
    refine ⟨_, (pss_cons (ps_asg (pe_call G__walk (hr.mono (by first | decide | omega)) (by rfl) T.g__walk T.F__walk.kp (b__walk T) .nil pass0 (pa_cons (pv 0) (pa_cons (pv 1) pa_nil))) (pg_tup (by rfl) (pgs_cons (pg_name (i := 2) sc_possible_values.nd rfl (.inl rfl)) (pgs_cons (pg_name (i := 3) sc_possible_values.nd rfl (.inl rfl)) pgs_nil))))
      (pss_cons (ps_if (pt_cmpR op_notN (pv 2) pe_non (nomark _)) (pss_one (ps_ret pe_non)) pss_nil)
      (pss_one (ps_ret (pe_lc (own := [("values", 4)]) (g := gName 4) rfl sc_possible_values.nd (pi_list (pe_meth0 (pv 3) T.cl_Possibilities T.m_Possibilities_values_now G_Possibilities_values_now (hr.mono (by first | decide | omega)) (b_Possibilities_values_now T) .nil pass0)) (blkOk_by (N := ["blocks", "log", "error", "walked", "values"]) (sc := defScope s_possible_values) (by decide +kernel)) (fun _ _ _ _ _ => pg_name (i := 4) sc_possible_values.nd rfl (.inl rfl)) (fun _ _ _ _ _ => pts_nil) (fun _ _ _ _ _ => (pe_ifExp (pt_cmpR op_gt (pe_callB (call_len_seqK (K := K) rfl) (by rfl) T.z_len (by decide +kernel) (pa_cons (pv 4) pa_nil)) (pe_glob (v := .int (999)) (by rfl) T.c_MOST_VALUE ⟨_, rfl⟩) (nomark _)) (pe_lst (pa_cons (pe_glob (v := .int (-1)) (by rfl) T.c_ANY_VALUE ⟨_, rfl⟩) pa_nil)) (pe_callB (cr_sortedK (K := K) rfl) (by rfl) T.z_sorted (by decide +kernel) (pa_cons (pv 4) pa_nil))))))))), ?_⟩
    refine ⟨_, rfl, _, rfl, nb, v, r, rfl, h1, h2, hW, fun H1 u a ax l as uv f1 hu ha e1 hP ok => ?_⟩
    refine ⟨u, _, rfl, SqT.of e1, rfl, _, _, rfl, _, _, rfl, rfl, ?_⟩
    obtain ⟨o, p⟩ := r
    cases o with
    | some i => exact ⟨_, rfl, rfl, _, rfl, iteT (k H1 f1)⟩
    | none =>
      refine ⟨_, rfl, rfl, _, rfl, iteF ?_⟩
      refine ⟨_, rfl, a, ax, _, rfl, hP.ins, lF_no_values_now, a, ax, l, as, uv, p, nb, 60, rfl, hP, ok, h2, by omega, fun H2 r rs f2 hr2 nw L => ?_⟩
      refine ⟨r, rfl, ⟨_, SqL.of L.lst⟩, fun D hD => ?_⟩
      have f02 := f1.trans f2
      refine lc_list (K := K) (a := r) (xs := rs.map V.ref) (fun i H' => Fr [] H2 H' ∧ ∃ ws : List Addr, Lists H' D ws ((p.now.take i).map shownV) ∧ ws.Nodup ∧ ∀ w ∈ ws, H2 w = none) ⟨Fr.new hD, [], ⟨upd_same, rfl, fun i a xs e => by simp at e, by simp⟩, List.nodup_nil, by simp⟩ (fun i H' _ h => SqL.of (h.1 _ _ L.lst (by simp))) ?_ ?_
      · rintro i x H3 hx ⟨f3, ws, L3, nd, nw3⟩
        obtain ⟨b, rfl, hb⟩ : ∃ b, x = V.ref b ∧ rs[i]? = some b := by
          rw [List.getElem?_map] at hx
          cases e : rs[i]? with
          | none => rw [e] at hx; cases hx
          | some b => rw [e] at hx; exact ⟨b, (Option.some.inj hx).symm, rfl⟩
        have hi : i < p.now.length := by rw [← L.len]; exact lt_of_at hb
        have hB := f3 _ _ (L.its i b _ hb (List.getElem?_eq_getElem hi)) (by simp)
        have hwl : ws.length = i := by rw [L3.len, List.length_map, List.length_take]; omega
        have hnow : p.now.length ≤ 16 := by
          have : p.now.length = nb := (ok.now).len
          omega
        have fin : ∀ (q : Addr) (ys : List Int), shownV p.now[i] = ys → H3 q = none → (∃ acc, (upd H3 q (.lst (ys.map V.int))) D = some (.lst acc) ∧ acc.length < sizeLine ∧ (Fr [] H2 (upd (upd H3 q (.lst (ys.map V.int))) D (.lst (acc ++ [.ref q]))) ∧ ∃ ws' : List Addr, Lists (upd (upd H3 q (.lst (ys.map V.int))) D (.lst (acc ++ [.ref q]))) D ws' ((p.now.take (i + 1)).map shownV) ∧ ws'.Nodup ∧ ∀ w ∈ ws', H2 w = none)) := by
          rintro q ys rfl hq
          have qD : q ≠ D := (ne_of_none L3.lst hq).symm
          refine ⟨_, (upd_ne qD.symm).trans L3.lst, by rw [List.length_map]; exact sz_lt (by omega), (f3.trans (Fr.new hq)).upd0 hD, ws ++ [q], ?_, ?_, ?_⟩
          · rw [List.take_succ, List.getElem?_eq_getElem hi, List.map_append]
            exact L3.snoc (((Fr.new hq).trans (Fr.put (by simp)))) (by rw [upd_same, List.map_append]; rfl) ((upd_ne qD).trans upd_same) qD
          · rw [List.nodup_append]
            refine ⟨nd, by simp, fun u hu v hv e => ?_⟩
            rw [List.mem_singleton] at hv
            obtain ⟨o, eo⟩ := L3.there u hu
            rw [e, hv, hq] at eo
            cases eo
          · intro u hu
            rcases List.mem_append.mp hu with y | y
            · exact nw3 u y
            · rw [List.mem_singleton.mp y]
              exact some_of f3 (by simp) hq
        refine ⟨rfl, _, rfl, b, _, rfl, .inl (SqL.of hB), _, _, rfl, rfl, _, rfl, ?_⟩
        rw [List.length_map]
        by_cases hgt : p.now[i].length > 999
        · refine iteTb (decide_eq_true (by omega)) ⟨sz_le (by simp), fun q hq => ?_⟩
          exact fin q [-1] (by unfold shownV; rw [if_pos hgt]) hq
        · refine iteFb (decide_eq_false (by omega)) ⟨_, rfl, b, _, rfl, SqL.of hB, ?_, fun ns q hp hs' hq => ?_⟩
          · rcases hs _ (List.getElem_mem hi) with e | e
            · have : p.now[i].length = 1000 := by
                have e' : p.now[i] = allV := e
                rw [e', allV_len]
              omega
            · exact e
          · exact fin q ns (by unfold shownV; rw [if_neg hgt]; exact (sortI_of hp hs').symm) hq
      · rintro H3 ⟨f3, ws, L3, nd, nw3⟩
        rw [List.length_map, L.len, List.take_length] at L3
        exact k H3 D ws (f02.trans f3) (some_of f02 (by simp) hD) (fun w hw => some_of f02 (by simp) (nw3 w hw)) nd L3
end
/-! ### the law's random logs -/
def runE : Po → List En → Option Po
  | p, [] => some p
  | p, e :: r => (p.go e).bind fun q => runE q r
theorem runE_snoc (e : En) : ∀ (es : List En) (p : Po), runE p (es ++ [e]) = (runE p es).bind fun q => q.go e
  | [], p => by
    show (p.go e).bind (fun q => some q) = p.go e
    cases p.go e <;> rfl
  | a :: es, p => by
    show (p.go a).bind (fun q => runE q (es ++ [e])) = ((p.go a).bind fun q => runE q es).bind fun q => q.go e
    cases p.go a with
    | none => rfl
    | some q => exact runE_snoc e es q
theorem walkP_run {r : List (Option En)} : ∀ {es : List En} {p p' : Po} {i : Nat}, runE p es = some p' → walkP i p (es.map some ++ r) = walkP (i + es.length) p' r
  | [], p, p', i, h => by
    cases h
    rfl
  | a :: es, p, p', i, h => by
    cases e : p.go a with
    | none =>
      have h' : (p.go a).bind (fun q => runE q es) = some p' := h
      rw [e] at h'
      cases h'
    | some q =>
      have h' : (p.go a).bind (fun q => runE q es) = some p' := h
      rw [e] at h'
      show (match (some a : Option En).bind p.go with | none => (some i, p) | some p' => walkP (i + 1) p' (es.map some ++ r)) = _
      rw [show (some a : Option En).bind p.go = some q from e]
      show walkP (i + 1) q (es.map some ++ r) = _
      rw [walkP_run (i := i + 1) h', List.length_cons]
      congr 1
      omega
theorem runE_ok {nb : Nat} : ∀ {es : List En} {n : Nat} {p p' : Po}, PoOk nb n p → (∀ e ∈ es, e.ok nb) → runE p es = some p' → PoOk nb (n + es.length) p'
  | [], n, p, p', h, _, e => by
    cases e
    exact h
  | a :: es, n, p, p', h, g, e => by
    have e' : (p.go a).bind (fun q => runE q es) = some p' := e
    cases eg : p.go a with
    | none =>
      rw [eg] at e'
      cases e'
    | some q =>
      rw [eg] at e'
      have := runE_ok (h.go (g a List.mem_cons_self) eg) (fun b hb => g b (List.mem_cons_of_mem _ hb)) e'
      rw [List.length_cons]
      exact this.le (by omega)
/-- the law's list of values, and the program's -/
def SimL (n : Nat) (l v : List Int) : Prop := (l = [-1] ∧ v = allV) ∨ (l ≠ [] ∧ l.length ≤ n + 1 ∧ (∀ x ∈ l, 0 ≤ x ∧ x ≤ 999) ∧ (∀ x, x ∈ l ↔ x ∈ v) ∧ v.Nodup ∧ v.length ≤ n + 1)
def SimA (n : Nat) (ls vs : List (List Int)) : Prop := ls.length = vs.length ∧ ∀ (i : Nat) (l v : List Int), ls[i]? = some l → vs[i]? = some v → SimL n l v
theorem SimL.up {n : Nat} {l v : List Int} (h : SimL n l v) : SimL (n + 1) l v := h.imp id fun ⟨a, b, c, d, e, f⟩ => ⟨a, by omega, c, d, e, by omega⟩
theorem SimA.up {n : Nat} {ls vs : List (List Int)} (h : SimA n ls vs) : SimA (n + 1) ls vs := ⟨h.1, fun i l v e1 e2 => (h.2 i l v e1 e2).up⟩
theorem SimA.set {n : Nat} {ls vs : List (List Int)} (h : SimA n ls vs) (b : Nat) {l v : List Int} (g : SimL n l v) : SimA n (ls.set b l) (vs.set b v) := by
  refine ⟨by rw [List.length_set, List.length_set]; exact h.1, fun i x y e1 e2 => ?_⟩
  rw [List.getElem?_set] at e1 e2
  by_cases z : b = i
  · rw [if_pos z] at e1 e2
    by_cases hl : b < ls.length
    · rw [if_pos hl] at e1
      rw [if_pos (by rw [← h.1]; exact hl)] at e2
      cases e1
      cases e2
      exact g
    · rw [if_neg hl] at e1
      cases e1
  · rw [if_neg z] at e1 e2
    exact h.2 i x y e1 e2
theorem SimA.at {n : Nat} {ls vs : List (List Int)} (h : SimA n ls vs) {b : Nat} (hb : b < vs.length) : SimL n (ls.getD b []) (vs.getD b []) := by
  have hb2 : b < ls.length := by rw [h.1]; exact hb
  refine h.2 b _ _ ?_ ?_
  · rw [List.getD_eq_getElem?_getD, List.getElem?_eq_getElem hb2]; rfl
  · rw [List.getD_eq_getElem?_getD, List.getElem?_eq_getElem hb]; rfl
theorem SimL.one {n : Nat} {x : Int} (h : 0 ≤ x ∧ x ≤ 999) : SimL n [x] [x] := .inr ⟨by simp, by simp, fun y hy => by rw [List.mem_singleton.mp hy]; exact h, fun y => Iff.rfl, by simp, by simp⟩
theorem SimL.add {n : Nat} {l v : List Int} {x : Int} (g : SimL n l v) (h : 0 ≤ x ∧ x ≤ 999) : SimL (n + 1) (if l = [-1] then l else l ++ [x]) (addV x v) := by
  rcases g with ⟨rfl, rfl⟩ | ⟨g1, g2, g3, g4, g5, g6⟩
  · rw [if_pos rfl]
    refine .inl ⟨rfl, ?_⟩
    unfold addV
    rw [if_pos (mem_allV.mpr h)]
  · have hn : l ≠ [-1] := fun z => by
      have := g3 (-1) (by rw [z]; simp)
      omega
    rw [if_neg hn]
    unfold addV
    refine .inr ⟨by simp, by rw [List.length_append, List.length_singleton]; omega, fun y hy => ?_, fun y => ?_, ?_, ?_⟩
    · rcases List.mem_append.mp hy with z | z
      · exact g3 y z
      · rw [List.mem_singleton.mp z]; exact h
    · by_cases hx : x ∈ v
      · rw [if_pos hx, List.mem_append, List.mem_singleton, g4]
        exact ⟨fun z => z.elim id fun e => by rw [e]; exact hx, .inl⟩
      · rw [if_neg hx, List.mem_append, List.mem_append, g4]
    · by_cases hx : x ∈ v
      · rw [if_pos hx]; exact g5
      · rw [if_neg hx, List.nodup_append]
        exact ⟨g5, by simp, fun a ha b hb e => hx (by rw [List.mem_singleton] at hb; rw [← hb, ← e]; exact ha)⟩
    · by_cases hx : x ∈ v
      · rw [if_pos hx]; omega
      · rw [if_neg hx, List.length_append, List.length_singleton]; omega
theorem SimL.any {n : Nat} {l v : List Int} (g : SimL n l v) : (l = [-1] ↔ v = allV) ∨ 999 ≤ n := by
  rcases g with ⟨rfl, rfl⟩ | ⟨g1, g2, g3, g4, g5, g6⟩
  · exact .inl ⟨fun _ => rfl, fun _ => rfl⟩
  · by_cases hn : 999 ≤ n
    · exact .inr hn
    · refine .inl ⟨fun z => ?_, fun z => ?_⟩
      · have := g3 (-1) (by rw [z]; simp)
        omega
      · rw [z, allV_len] at g6
        omega
/-- the log and the law's lists in memory -/
structure LgAt (H : Hp) (r lg pl : Addr) (ts pas : List Addr) (uv : V) (es : List En) (ls : List (List Int)) (un : Option (Nat × Int)) : Prop where
  rnd : Rnd H r
  log : H lg = some (.lst (ts.map V.ref))
  len : ts.length = es.length
  its : ∀ (i : Nat) (t : Addr) (e : En), ts[i]? = some t → es[i]? = some e → H t = some (.tup e.vs)
  pos : Lists H pl pas ls
  un : UnAt H uv un
  rl : r ≠ lg
  rp : r ≠ pl
  lp : lg ≠ pl
  la : lg ∉ pas
  ra : r ∉ pas
section
variable {H H' : Hp} {r lg pl : Addr} {ts pas : List Addr} {uv : V} {es : List En} {ls : List (List Int)} {un : Option (Nat × Int)}
theorem LgAt.keepS {S : List Addr} (h : LgAt H r lg pl ts pas uv es ls un) (f : Fr S H H') (R : Rnd H' r) (n1 : lg ∉ S) (n2 : pl ∉ S) (n3 : ∀ a ∈ pas, a ∉ S) (m : ∀ b ∈ S, ∀ xs, H b ≠ some (.tup xs)) : LgAt H' r lg pl ts pas uv es ls un :=
  ⟨R, f _ _ h.log n1, h.len, fun i t e e1 e2 => f _ _ (h.its i t e e1 e2) fun z => m _ z _ (h.its i t e e1 e2), h.pos.keep f n2 n3, h.un.keep f m, h.rl, h.rp, h.lp, h.la, h.ra⟩
theorem LgAt.keep0 (h : LgAt H r lg pl ts pas uv es ls un) (f : Fr [] H H') : LgAt H' r lg pl ts pas uv es ls un := h.keepS f (h.rnd.keep f (by simp)) (by simp) (by simp) (by simp) (by simp)
theorem LgAt.draw (h : LgAt H r lg pl ts pas uv es ls un) (f : Fr [r] H H') (R : Rnd H' r) : LgAt H' r lg pl ts pas uv es ls un :=
  h.keepS f R (by simpa using h.rl.symm) (by simpa using h.rp.symm) (fun a ha => by rw [List.mem_singleton]; exact fun z => h.ra (by rw [← z]; exact ha)) h.rnd.notup
theorem LgAt.notlg (h : LgAt H r lg pl ts pas uv es ls un) : ∀ b ∈ [lg], ∀ xs, H b ≠ some (.tup xs) := fun b hb xs => by rw [List.mem_singleton.mp hb, h.log]; simp
theorem LgAt.notpl (h : LgAt H r lg pl ts pas uv es ls un) : ∀ b ∈ [pl], ∀ xs, H b ≠ some (.tup xs) := fun b hb xs => by rw [List.mem_singleton.mp hb, h.pos.lst]; simp
theorem LgAt.snoc (h : LgAt H r lg pl ts pas uv es ls un) {t : Addr} {e : En} (ht : H t = some (.tup e.vs)) : LgAt (upd H lg (.lst (ts.map V.ref ++ [.ref t]))) r lg pl (ts ++ [t]) pas uv (es ++ [e]) ls un := by
  have f : Fr [lg] H (upd H lg (.lst (ts.map V.ref ++ [.ref t]))) := Fr.put (by simp)
  have g := h.notlg
  refine ⟨h.rnd.keep f (by simpa using h.rl), by rw [upd_same, List.map_append]; rfl, by rw [List.length_append, List.length_append, h.len]; rfl, fun i t2 e2 e1 e3 => ?_, h.pos.keep f (by simpa using h.lp.symm) (fun a ha => ?_), h.un.keep f g, h.rl, h.rp, h.lp, h.la, h.ra⟩
  · by_cases hj : i < ts.length
    · rw [List.getElem?_append_left hj] at e1
      rw [List.getElem?_append_left (by rw [← h.len]; exact hj)] at e3
      have := h.its i t2 e2 e1 e3
      exact f _ _ this fun z => g _ z _ this
    · rw [List.getElem?_append_right (by omega)] at e1
      rw [List.getElem?_append_right (by rw [← h.len]; omega)] at e3
      rw [← h.len] at e3
      have hz : i - ts.length = 0 := by
        have := lt_of_at e1
        simp at this
        omega
      rw [hz] at e1 e3
      cases e1
      cases e3
      exact f _ _ ht fun z => g _ z _ ht
  · rw [List.mem_singleton]
    exact fun z => h.la (by rw [← z]; exact ha)
theorem LgAt.setp (h : LgAt H r lg pl ts pas uv es ls un) {b : Nat} {w : Addr} {ys : List Int} (hw : H w = some (.lst (ys.map V.int))) (w1 : w ≠ lg) (w2 : w ≠ pl) (w3 : w ≠ r) : LgAt (upd H pl (.lst ((pas.set b w).map V.ref))) r lg pl ts (pas.set b w) uv es (ls.set b ys) un := by
  have f : Fr [pl] H (upd H pl (.lst ((pas.set b w).map V.ref))) := Fr.put (by simp)
  refine ⟨h.rnd.keep f (by simpa using h.rp), f _ _ h.log (by simpa using h.lp), h.len, fun i t e e1 e2 => f _ _ (h.its i t e e1 e2) fun z => h.notpl _ z _ (h.its i t e e1 e2), h.pos.set f upd_same ((upd_ne w2).trans hw) w2, h.un.keep f h.notpl, h.rl, h.rp, h.lp, fun z => ?_, fun z => ?_⟩
  · rcases mem_set z with y | y
    · exact w1 y.symm
    · exact h.la y
  · rcases mem_set z with y | y
    · exact w3 y.symm
    · exact h.ra y
theorem LgAt.setu (h : LgAt H r lg pl ts pas uv es ls un) {uv' : V} {un' : Option (Nat × Int)} (hu : UnAt H uv' un') : LgAt H r lg pl ts pas uv' es ls un' := ⟨h.rnd, h.log, h.len, h.its, h.pos, hu, h.rl, h.rp, h.lp, h.la, h.ra⟩
theorem LgAt.new_ne (h : LgAt H r lg pl ts pas uv es ls un) {q : Addr} (hq : H q = none) : q ≠ lg ∧ q ≠ pl ∧ q ≠ r := by
  obtain ⟨a, b, ns, e⟩ := h.rnd
  exact ⟨(ne_of_none h.log hq).symm, (ne_of_none h.pos.lst hq).symm, (ne_of_none e hq).symm⟩
theorem LgAt.in_ne (h : LgAt H r lg pl ts pas uv es ls un) {b : Nat} {w : Addr} (e : pas[b]? = some w) : w ≠ lg ∧ w ≠ pl ∧ w ≠ r :=
  ⟨fun z => h.la (by rw [← z]; exact List.mem_of_getElem? e), fun z => h.pos.out (by rw [← z]; exact List.mem_of_getElem? e), fun z => h.ra (by rw [← z]; exact List.mem_of_getElem? e)⟩
end
/-- what the log tells, by the law's lists and by the program's -/
structure Told (nb n : Nat) (es : List En) (ls : List (List Int)) (p : Po) : Prop where
  ok : ∀ e ∈ es, e.ok nb
  run : runE (po0 nb) es = some p
  sim : SimA n ls p.vs
  len : es.length = n
  pok : PoOk nb n p
theorem Told.step {nb n : Nat} {es : List En} {ls ls' : List (List Int)} {p p' : Po} (h : Told nb n es ls p) {e : En} (he : e.ok nb) (hg : p.go e = some p') (hs : SimA (n + 1) ls' p'.vs) : Told nb (n + 1) (es ++ [e]) ls' p' :=
  ⟨fun a ha => (List.mem_append.mp ha).elim (h.ok a) fun z => by rw [List.mem_singleton.mp z]; exact he, by rw [runE_snoc, h.run]; exact hg, hs, by rw [List.length_append, h.len]; rfl, h.pok.go he hg⟩
theorem Told.start (nb : Nat) : Told nb 0 [] (List.replicate nb [0]) (po0 nb) := by
  refine ⟨by simp, rfl, ⟨rfl, fun i l v e1 e2 => ?_⟩, rfl, po0_ok nb⟩
  have h1 := List.eq_of_mem_replicate (List.mem_of_getElem? e1)
  have h2 := List.eq_of_mem_replicate (List.mem_of_getElem? e2)
  rw [h1, h2]
  exact SimL.one (by omega)
def spLog : Sp := fun vs H Q _ => ∃ (r : Addr) (nb m : Nat), vs = [.ref r, .int (nb : Int), .int (m : Int)] ∧ Rnd H r ∧ 1 ≤ nb ∧ nb ≤ 16 ∧ m ≤ 30 ∧
  ∀ (H' : Hp) (t lg pl : Addr) (ts pas : List Addr) (uv : V) (es : List En) (ls : List (List Int)) (p : Po), Fr [r] H H' → H lg = none → H pl = none → H' t = some (.tup [.ref lg, .ref pl, uv]) → LgAt H' r lg pl ts pas uv es ls p.un → Told nb m es ls p → Q (.ref t) H'
theorem mod2 (n : Nat) : ((n : Int) % 2 = ((0 : Nat) : Int)) ∨ ((n : Int) % 2 = ((1 : Nat) : Int)) := by omega
section
variable {P : Program} {w : World} {K : PySem.W.Frag} {mg : Str → Option Value} {base : Heap}
theorem ok_log (T : Gx K mg) : FnOk P w K mg base CX0 2 T.f__law_log T.fd__law_log ["_law_d", "_law_blocks", "_law_length"] spLog := by
  have G__law_below : FnOk P w K mg base CX0 1 T.f__law_below T.fd__law_below ["_law_d", "_law_limit"] spBelow := ok_below T
  refine T.F__law_log.ok sc__law_log (fun vs H Q E h => ?_) (fun cdv A outer s H vs Q E hr h => ?_)
  · obtain ⟨r, nb, m, rfl, _⟩ := h
    rfl
  · obtain ⟨r, nb, m, rfl, hR, hb1, hb2, hm, k⟩ := h
    refine ⟨_, (pss_cons (ps_par3 (i := 4) (j := 5) (l := 6) (by rfl) sc__law_log.nd rfl rfl rfl (by decide) (by decide) (by decide) rfl rfl rfl (pa_cons (pe_lst pa_nil) (pa_cons (pe_lc (own := [("_law_block", 3)]) (g := gName 3) rfl sc__law_log.nd (pi_range1 (by rfl) T.z_range (pa_cons (pv 1) pa_nil)) (blkOk_by (N := ["_law_d", "_law_blocks", "_law_length", "_law_block", "_law_log_here", "_law_possible", "_law_under", "_law_k", "_law_value", "_law_way", "_law_old", "_law_some"]) (sc := defScope s__law_log) (by decide +kernel)) (fun _ _ _ _ _ => pg_name (i := 3) sc__law_log.nd rfl (.inl rfl)) (fun _ _ _ _ _ => pts_nil) (fun _ _ _ _ _ => (pe_lst (pa_cons pe_int pa_nil)))) (pa_cons pe_non pa_nil))) (by rfl))
      (pss_cons (ps_for PassesOwn.never rfl (pi_range1 (by rfl) T.z_range (pa_cons (pv 2) pa_nil)) (pg_name (i := 7) sc__law_log.nd rfl (.inl rfl)) (pss_cons (ps_par3 (i := 3) (j := 8) (l := 9) (by rfl) sc__law_log.nd rfl rfl rfl (by decide) (by decide) (by decide) rfl rfl rfl (pa_cons (pe_call G__law_below (hr.mono (by first | decide | omega)) (by rfl) T.g__law_below T.F__law_below.kp (b__law_below T) .nil pass0 (pa_cons (pv 0) (pa_cons (pv 1) pa_nil))) (pa_cons (pe_call G__law_below (hr.mono (by first | decide | omega)) (by rfl) T.g__law_below T.F__law_below.kp (b__law_below T) .nil pass0 (pa_cons (pv 0) (pa_cons pe_int pa_nil))) (pa_cons (pe_call G__law_below (hr.mono (by first | decide | omega)) (by rfl) T.g__law_below T.F__law_below.kp (b__law_below T) .nil pass0 (pa_cons (pv 0) (pa_cons pe_int pa_nil))) pa_nil))) (by rfl))
      (pss_one (ps_if (pt_cmpR op_notN (pv 6) pe_non (nomark _)) (pss_cons (ps_expr (pe_bm PySem.F.plainAttrs_list PySem.F.slot_list_append PySem.F.type_list_append mt_append (pv 4) (pa_cons (pe_ix ix_list (pe_lst (pa_cons (pe_tup (pa_cons pe_str pa_nil)) (pa_cons (pe_tup (pa_cons pe_str pa_nil)) pa_nil))) (pe_op op_mod (pe_callTy call_int1 (by rfl) T.z_int (by decide +kernel) (pa_cons (pv 9) pa_nil)) pe_int) (fun _ _ => rfl)) pa_nil)))
      (pss_cons (ps_set (i := 10) sc__law_log.nd rfl (.inl rfl) (pe_ix ix_list (pv 5) (pe_ix ix_tup (pv 6) pe_int (fun _ _ => rfl)) (fun _ _ => rfl)))
      (C8.pss_cut (ps_set (i := 11) sc__law_log.nd rfl (.inl rfl) (pe_ifExp (pt_cmpR op_eq (pe_op op_mod (pe_callTy call_int1 (by rfl) T.z_int (by decide +kernel) (pa_cons (pv 9) pa_nil)) pe_int) pe_int (nomark _)) (pe_lst (pa_cons (pe_ix ix_tup (pv 6) pe_int (fun _ _ => rfl)) pa_nil)) (pe_ifExp (pt_cmpR (op_eqD hr.units) (pv 10) (pe_lst (pa_cons (pe_op op_sub pe_int pe_int) pa_nil)) (nomark _)) (pv 10) (pe_op op_cat (pv 10) (pe_lst (pa_cons (pe_ix ix_tup (pv 6) pe_int (fun _ _ => rfl)) pa_nil))))))
      (pss_one (ps_asg (pe_tup (pa_cons (pv 11) (pa_cons pe_non pa_nil))) (pg_tup (by rfl) (pgs_cons (pg_sub (pv 5) (pe_ix ix_tup (pv 6) pe_int (fun _ _ => rfl)) set_list) (pgs_cons (pg_name (i := 6) sc__law_log.nd rfl (.inl rfl)) pgs_nil)))))))) (pss_one (ps_if (pt_cmpR op_lt (pv 9) pe_int (nomark _)) (pss_cons (ps_expr (pe_bm PySem.F.plainAttrs_list PySem.F.slot_list_append PySem.F.type_list_append mt_append (pv 4) (pa_cons (pe_tup (pa_cons pe_str (pa_cons (pv 3) (pa_cons (pv 8) pa_nil)))) pa_nil)))
      (pss_one (ps_set (i := 6) sc__law_log.nd rfl (.inl rfl) (pe_tup (pa_cons (pv 3) (pa_cons (pv 8) pa_nil)))))) (pss_one (ps_if (pt_cmpR op_lt (pv 9) pe_int (nomark _)) (pss_cons (ps_set (i := 11) sc__law_log.nd rfl (.inl rfl) (pe_ix ix_list (pv 5) (pv 3) (fun _ _ => rfl)))
      (C8.pss_cut (ps_set (i := 8) sc__law_log.nd rfl (.inl rfl) (pe_ifExp (pt_cmpR (op_eqD hr.units) (pv 11) (pe_lst (pa_cons (pe_op op_sub pe_int pe_int) pa_nil)) (nomark _)) (pv 8) (pe_ix ix_list (pv 11) (pe_call G__law_below (hr.mono (by first | decide | omega)) (by rfl) T.g__law_below T.F__law_below.kp (b__law_below T) .nil pass0 (pa_cons (pv 0) (pa_cons (pe_callB call_len_seq (by rfl) T.z_len (by decide +kernel) (pa_cons (pv 11) pa_nil)) pa_nil))) (fun _ _ => rfl))))
      (pss_cons (ps_expr (pe_bm PySem.F.plainAttrs_list PySem.F.slot_list_append PySem.F.type_list_append mt_append (pv 4) (pa_cons (pe_tup (pa_cons pe_str (pa_cons (pv 3) (pa_cons (pv 8) pa_nil)))) pa_nil)))
      (pss_one (ps_asg (pe_lst (pa_cons (pv 8) pa_nil)) (pg_sub (pv 5) (pv 3) set_list)))))) (pss_cons (ps_expr (pe_bm PySem.F.plainAttrs_list PySem.F.slot_list_append PySem.F.type_list_append mt_append (pv 4) (pa_cons (pe_ix ix_list (pe_lst (pa_cons (pe_tup (pa_cons pe_str pa_nil)) (pa_cons (pe_tup (pa_cons pe_str (pa_cons (pv 3) pa_nil))) pa_nil))) (pe_op op_sub (pv 9) pe_int) (fun _ _ => rfl)) pa_nil)))
      (pss_one (ps_asg (pe_ifExp (pt_cmpR op_eq (pv 9) pe_int (nomark _)) (pe_ix ix_list (pv 5) (pv 3) (fun _ _ => rfl)) (pe_lst (pa_cons (pe_op op_sub pe_int pe_int) pa_nil))) (pg_sub (pv 5) (pv 3) set_list))))))))))))
      (pss_one (ps_ret (pe_tup (pa_cons (pv 4) (pa_cons (pv 5) (pa_cons (pv 6) pa_nil)))))))), ?_⟩
    refine ⟨sz_le (by simp), fun lg hlg => ?_⟩
    refine ⟨_, rfl, _, rfl, by omega, by omega, fun D hD => ?_⟩
    have hD0 := free_upd hD
    refine lc_range (lo := 0) (n := nb) (fun i H' => Fr [] (upd H lg (.lst [])) H' ∧ ∃ as : List Addr, Lists H' D as (List.replicate i [0]) ∧ ∀ a ∈ as, upd H lg (.lst []) a = none) ⟨Fr.new hD, [], ⟨upd_same, rfl, fun i a xs e => by simp at e, by simp⟩, by simp⟩ ?_ ?_
    · rintro j H1 hj ⟨f1, as, L, na⟩
      refine ⟨rfl, sz_le (by simp), fun q hq => ⟨_, (upd_ne (ne_of_none L.lst hq)).trans L.lst, by rw [List.length_map, L.len, List.length_replicate]; exact sz_lt (by omega), ?_⟩⟩
      have qD : q ≠ D := (ne_of_none L.lst hq).symm
      have f2 : Fr [D] H1 (upd (upd H1 q (.lst [V.int 0])) D (.lst (as.map V.ref ++ [V.ref q]))) := (Fr.new hq).trans (Fr.put (by simp))
      refine ⟨(f1.trans (Fr.new hq)).upd0 hD, as ++ [q], ?_, ?_⟩
      · rw [List.replicate_succ']
        exact L.snoc f2 (by rw [upd_same, List.map_append]; rfl) ((upd_ne qD).trans upd_same) qD
      · intro a ha
        rcases List.mem_append.mp ha with y | y
        · exact na a y
        · rw [List.mem_singleton.mp y]
          exact some_of f1 (by simp) hq
    · rintro H1 ⟨f1, as, L, na⟩
      refine ⟨_, _, _, rfl, ?_⟩
      have hlg1 := f1 _ _ upd_same (by simp)
      have f01 : Fr [] H H1 := (Fr.new hlg).trans f1
      have R1 := hR.keep f01 (by simp)
      obtain ⟨ra, rb, rns, eR⟩ := hR
      have S1 : LgAt H1 r lg D [] as .non [] (List.replicate nb [0]) none := by
        refine ⟨R1, hlg1, rfl, fun i t e e1 => by simp at e1, L, rfl, ne_of_none eR hlg, ?_, hD0.2.symm, fun z => ?_, fun z => ?_⟩
        · exact ne_of_none eR hD0.1
        · have := na lg z
          rw [upd_same] at this
          cases this
        · have := (free_upd (na r z)).1
          rw [eR] at this
          cases this
      have f02 : Fr [r] H H1 := f01.mono (by simp)
      clear R1 f1 L na hlg1 hD f01
      refine ⟨_, rfl, _, rfl, by omega, by omega, for_range (n := m) (fun i σ H' => ∃ (ts pas : List Addr) (uv : V) (es : List En) (ls : List (List Int)) (p : Po) (v3 v7 v8 v9 v10 v11 : Option V), σ = [some (.ref r), some (.int (nb : Int)), some (.int (m : Int)), v3, some (.ref lg), some (.ref D), some uv, v7, v8, v9, v10, v11] ∧ Fr [r] H H' ∧ LgAt H' r lg D ts pas uv es ls p.un ∧ Told nb i es ls p)
        ⟨[], as, .non, [], _, po0 nb, none, none, none, none, none, none, rfl, f02, S1, Told.start nb⟩ ?_ ?_⟩
      · clear S1 f02
        rintro i _ H3 hi ⟨ts, pas, uv, es, ls, p, v3, v7, v8, v9, v10, v11, rfl, f3, S3, tl⟩
        refine ⟨_, rfl, _, rfl, r, nb, rfl, S3.rnd, by omega, by omega, fun b H4 hb f4 R4 => ?_⟩
        have S4 := S3.draw f4 R4
        refine ⟨_, rfl, r, 1000, rfl, S4.rnd, by decide, by decide, fun x H5 hx f5 R5 => ?_⟩
        have S5 := S4.draw f5 R5
        refine ⟨_, rfl, r, 6, rfl, S5.rnd, by decide, by decide, fun y H6 hy f6 R6 => ?_⟩
        have S6 := S5.draw f6 R6
        have f06 : Fr [r] H H6 := ((f3.trans f4).trans f5).trans f6
        refine ⟨_, _, _, rfl, ?_⟩
        clear S3 S4 S5 f3 f4 f5 f6 R4 R5 R6
        have hbl : b < p.vs.length := by rw [tl.pok.len]; exact hb
        have hlsl : b < ls.length := by rw [tl.sim.1]; exact hbl
        have hpl : b < pas.length := by rw [S6.pos.len]; exact hlsl
        have htl : ts.length < 100 := by rw [S6.len, tl.len]; omega
        have hxr : 0 ≤ (x : Int) ∧ (x : Int) ≤ 999 := by omega
        have fin : ∀ (H7 : Hp) (ts' pas' : List Addr) (uv' : V) (es' : List En) (ls' : List (List Int)) (p' : Po) (v3 v7 v8 v9 v10 v11 : Option V), Fr [r] H H7 → LgAt H7 r lg D ts' pas' uv' es' ls' p'.un → Told nb (i + 1) es' ls' p' →
            ∃ (ts pas : List Addr) (uv : V) (es : List En) (ls : List (List Int)) (p : Po) (w3 w7 w8 w9 w10 w11 : Option V), [some (.ref r), some (.int (nb : Int)), some (.int (m : Int)), v3, some (.ref lg), some (.ref D), some uv', v7, v8, v9, v10, v11] = [some (.ref r), some (.int (nb : Int)), some (.int (m : Int)), w3, some (.ref lg), some (.ref D), some uv, w7, w8, w9, w10, w11] ∧ Fr [r] H H7 ∧ LgAt H7 r lg D ts pas uv es ls p.un ∧ Told nb (i + 1) es ls p :=
          fun H7 ts' pas' uv' es' ls' p' w3 w7 w8 w9 w10 w11 f S t => ⟨ts', pas', uv', es', ls', p', w3, w7, w8, w9, w10, w11, rfl, f, S, t⟩
        have gr : ∀ {H7 H8 : Hp}, Fr [r] H H7 → Fr [lg, D] H7 H8 → Fr [r] H H8 := fun f g => f.grow (g.mono fun b hb => by
            rcases List.mem_cons.mp hb with e | hb
            · rw [e]; exact List.mem_cons_of_mem _ List.mem_cons_self
            · rw [List.mem_singleton.mp hb]; exact List.mem_cons_of_mem _ (List.mem_cons_of_mem _ List.mem_cons_self)) (S1 := [r, lg, D]) fun b hb => by
            rcases List.mem_cons.mp hb with e | hb
            · exact .inl (by rw [e]; simp)
            · rcases List.mem_cons.mp hb with e | hb
              · rw [e]; exact .inr hlg
              · rw [List.mem_singleton.mp hb]; exact .inr hD0.1
        refine ⟨_, rfl, rfl, _, rfl, ?_⟩
        rw [S6.un.non]
        cases eu : p.un with
        | some q =>
          obtain ⟨c, z⟩ := q
          obtain ⟨hc, hz⟩ := tl.pok.un c z eu
          have hcl : c < p.vs.length := by rw [tl.pok.len]; exact hc
          have hcp : c < pas.length := by rw [S6.pos.len, tl.sim.1]; exact hcl
          have hU := S6.un
          rw [eu] at hU
          obtain ⟨u, rfl, hu⟩ := hU
          rw [Option.isNone_some]
          refine iteT ?_
          -- the entry
          refine ⟨_, rfl, .inl ⟨rfl, _, SqL.of S6.log⟩, sz_le (by simp), fun t1 h1 => ⟨sz_le (by simp), fun t2 h2 => ⟨sz_le (by simp), fun q hq => ?_⟩⟩⟩
          have g1 : Fr [] H6 (upd H6 t1 (.tup [V.str "done"])) := Fr.new h1
          have g2 := g1.trans (Fr.new (o := .tup [V.str "fail"]) h2)
          have g3 := g2.trans (Fr.new (o := .lst [V.ref t1, V.ref t2]) hq)
          have S7 := S6.keep0 g3
          have f7 := f06.trans (g3.mono (by simp))
          have e1 : (upd (upd (upd H6 t1 (.tup [V.str "done"])) t2 (.tup [V.str "fail"])) q (.lst [V.ref t1, V.ref t2])) t1 = some (.tup [V.str "done"]) := (Fr.new (S := []) hq) _ _ ((Fr.new (S := []) h2) _ _ upd_same (by simp)) (by simp)
          have e2 : (upd (upd (upd H6 t1 (.tup [V.str "done"])) t2 (.tup [V.str "fail"])) q (.lst [V.ref t1, V.ref t2])) t2 = some (.tup [V.str "fail"]) := (Fr.new (S := []) hq) _ _ upd_same (by simp)
          have e3 : (upd (upd (upd H6 t1 (.tup [V.str "done"])) t2 (.tup [V.str "fail"])) q (.lst [V.ref t1, V.ref t2])) q = some (.lst [V.ref t1, V.ref t2]) := upd_same
          have hu7 := g3 _ _ hu (by simp)
          generalize (upd (upd (upd H6 t1 (.tup [V.str "done"])) t2 (.tup [V.str "fail"])) q (.lst [V.ref t1, V.ref t2])) = H7 at S7 f7 e1 e2 e3 hu7
          clear g1 g2 g3 h1 h2 hq
          obtain ⟨e, te, he, hte, hat⟩ : ∃ (e : En) (te : Addr), e = (if (y : Int) % 2 = ((0 : Nat) : Int) then .dn else .fl) ∧ H7 te = some (.tup e.vs) ∧ atI [V.ref t1, V.ref t2] ((y : Int) % 2) = some (.ref te) := by
            rcases mod2 y with h | h
            · exact ⟨.dn, t1, by rw [if_pos h], e1, by rw [h]; exact atI_nat rfl⟩
            · refine ⟨.fl, t2, by rw [if_neg (by rw [h]; decide)], e2, by rw [h]; exact atI_nat rfl⟩
          refine ⟨_, rfl, .inl ⟨_, rfl, _, _, rfl, rfl, (by show (0 : Int) < 2; decide), q, _, _, _, rfl, rfl, SqL.of e3, hat, ?_⟩⟩
          refine ⟨lg, _, _, rfl, rfl, S7.log, by rw [List.length_map]; exact sz_lt (by omega), ?_⟩
          have S8 := S7.snoc hte
          have f8 := gr f7 (Fr.put (H := H7) (a := lg) (o := .lst (ts.map V.ref ++ [.ref te])) (by simp))
          have hu8 := (upd_ne (o := .lst (ts.map V.ref ++ [.ref te])) (fun z => S7.notlg u (List.mem_singleton.mpr z) _ hu7)).trans hu7
          generalize (upd H7 lg (.lst (ts.map V.ref ++ [.ref te]))) = H8 at S8 f8 hu8
          clear S7 f7 e1 e2 e3 hu7 hte hat
          obtain ⟨wa, hwa, hW⟩ := S8.pos.at (by rw [tl.sim.1]; exact hcl : c < ls.length)
          have hwm : (pas.map V.ref)[c]? = some (V.ref wa) := by rw [List.getElem?_map, hwa]; rfl
          refine ⟨_, rfl, _, rfl, u, _, ((0 : Nat) : Int), _, rfl, rfl, SqT.of hu8, atI_nat rfl, D, _, _, _, rfl, rfl, SqL.of S8.pos.lst, atI_nat hwm, ?_⟩
          have hsim := tl.sim.at hcl
          have hsl : ls.getD c [] = [-1] ∨ ls.getD c [] ≠ [-1] := Decidable.em _
          have hll : (ls.getD c []).length ≤ 32 := by
            rcases hsim with ⟨e1, _⟩ | ⟨_, e2, _⟩
            · rw [e1]; decide
            · omega
          refine ⟨fun σ' H9 => ∃ (w9 : Addr) (ys vs' : List Int), σ' = [some (.ref r), some (.int (nb : Int)), some (.int (m : Int)), some (.int (b : Int)), some (.ref lg), some (.ref D), some (.ref u), some (.int (0 + (i : Int))), some (.int (x : Int)), some (.int (y : Int)), some (.ref wa), some (.ref w9)] ∧ LgAt H9 r lg D (ts ++ [te]) pas (.ref u) (es ++ [e]) ls p.un ∧ Fr [r] H H9 ∧ H9 u = some (.tup [.int (c : Int), .int z]) ∧ H9 w9 = some (.lst (ys.map V.int)) ∧ (w9 ≠ lg ∧ w9 ≠ D ∧ w9 ≠ r) ∧ SimL (i + 1) ys vs' ∧ p.go e = some ⟨p.vs.set c vs', none⟩, ?_, ?_⟩
          · refine ⟨_, rfl, .inl ⟨_, rfl, _, _, rfl, rfl, (by show (0 : Int) < 2; decide), rfl, _, rfl, ?_⟩⟩
            rcases mod2 y with h | h
            · rw [if_pos h] at he
              refine iteTb (decide_eq_true (show V.int ((y : Int) % 2) = V.int 0 from by rw [h]; rfl)) ⟨_, rfl, u, _, ((1 : Nat) : Int), _, rfl, rfl, SqT.of hu8, atI_nat rfl, sz_le (by simp), fun q hq => ?_⟩
              refine ⟨q, [z], [z], rfl, S8.keep0 (Fr.new hq), f8.trans (Fr.new hq), (Fr.new (S := []) hq) _ _ hu8 (by simp), upd_same, S8.new_ne hq, SimL.one hz, ?_⟩
              rw [he]
              show (match p.un with | none => none | some (b, v) => some (⟨p.vs.set b [v], none⟩ : Po)) = _
              rw [eu]
            · rw [if_neg (by rw [h]; decide)] at he
              refine iteFb (decide_eq_false (show ¬ V.int ((y : Int) % 2) = V.int 0 from by rw [h]; decide)) ?_
              have hnow : p.go e = some ⟨p.vs.set c (addV z (p.vs.getD c [])), none⟩ := by
                rw [he]
                show some (⟨p.now, none⟩ : Po) = _
                unfold Po.now
                rw [eu]
              have hadd := hsim.add hz
              refine ⟨_, rfl, _, _, rfl, rfl, sz_le (by simp), fun q hq => ?_⟩
              have hu9 := (Fr.new (S := []) (o := .lst [V.int (0 - 1)]) hq) _ _ hu8 (by simp)
              have hW9 := (Fr.new (S := []) (o := .lst [V.int (0 - 1)]) hq) _ _ hW (by simp)
              have S9 := S8.keep0 (Fr.new (o := .lst [V.int (0 - 1)]) hq)
              have f9 : Fr [r] H (upd H8 q (.lst [V.int (0 - 1)])) := f8.trans (Fr.new hq)
              refine ⟨_, _, .lst (SqL.of hW9) (dpAll_ints _), .lst (SqL.of upd_same) (dpAll_ints [(0 - 1 : Int)]), shapedL_ints _, shapedL_ints _, _, rfl, ?_⟩
              rw [eqvL_ints]
              rcases hsl with hs | hs
              · refine iteTb (decide_eq_true (show ls.getD c [] = [0 - 1] from hs)) ⟨_, rfl, ?_⟩
                rw [if_pos hs] at hadd
                exact ⟨wa, _, _, rfl, S9, f9, hu9, hW9, S8.in_ne hwa, hadd, hnow⟩
              · rw [if_neg hs] at hadd
                refine iteFb (decide_eq_false (show ¬ ls.getD c [] = [0 - 1] from hs)) ⟨_, rfl, _, rfl, u, _, ((1 : Nat) : Int), _, rfl, rfl, SqT.of hu9, atI_nat rfl, sz_le (by simp), fun q2 hq2 => ?_⟩
                have f10 := f9.trans (Fr.new (o := .lst [V.int z]) hq2)
                refine ⟨wa, q2, _, _, rfl, rfl, (Fr.new (S := []) hq2) _ _ hW9 (by simp), upd_same, ?_, fun q3 hq3 => ?_⟩
                · rw [List.length_map]
                  show (ls.getD c []).length + 1 ≤ sizeLine
                  exact sz_le (by omega)
                · refine ⟨q3, ls.getD c [] ++ [z], _, rfl, (S9.keep0 (Fr.new hq2)).keep0 (Fr.new hq3), f10.trans (Fr.new hq3), (Fr.new (S := []) hq3) _ _ ((Fr.new (S := []) hq2) _ _ hu9 (by simp)) (by simp), ?_, (S9.keep0 (Fr.new hq2)).new_ne hq3, hadd, hnow⟩
                  rw [upd_same, List.map_append]
                  rfl
          · rintro _ H9 ⟨w9, ys, vs', rfl, S9, f9, hu9, hw9, ⟨n1, n2, n3⟩, hs9, hg⟩
            refine ⟨_, rfl, sz_le (by simp), fun t ht => ?_⟩
            have g := Fr.new (S := []) (o := .tup [.ref w9, .non]) ht
            have S10 := S9.keep0 g
            have hu10 := g _ _ hu9 (by simp)
            have hw10 := g _ _ hw9 (by simp)
            refine ⟨t, _, rfl, SqT.of upd_same, rfl, _, _, rfl, _, rfl, _, rfl, u, _, ((0 : Nat) : Int), _, rfl, rfl, SqT.of hu10, atI_nat rfl, D, _, _, c, rfl, rfl, S10.pos.lst, ix_at c (by rw [List.length_map]; exact hcp), _, _, rfl, rfl, ?_⟩
            rw [refs_set]
            have S11 := (S10.setp (b := c) hw10 n1 n2 n3).setu (uv' := .non) (un' := none) rfl
            have heok : e.ok nb := by
              rw [he]
              split <;> exact trivial
            exact fin _ _ _ _ _ _ ⟨p.vs.set c vs', none⟩ _ _ _ _ _ _ (gr (f9.trans (g.mono (by simp))) (Fr.put (by simp))) S11 (tl.step heok hg (tl.sim.up.set c hs9))
        | none =>
          have huv : uv = .non := by
            have := S6.un
            rw [eu] at this
            exact this
          rw [eu] at S6
          have sp0 : p = ⟨p.vs, none⟩ := by rw [← eu]
          refine iteF ?_
          have gone : ∀ (H8 : Hp) (t : Addr) (e : En) (uv' : V) (p' : Po), LgAt H8 r lg D ts pas uv es ls none → Fr [r] H H8 → H8 t = some (.tup e.vs) → e.ok nb → p.go e = some p' → LgAt (upd H8 lg (.lst (ts.map V.ref ++ [.ref t]))) r lg D (ts ++ [t]) pas uv (es ++ [e]) ls none ∧ Fr [r] H (upd H8 lg (.lst (ts.map V.ref ++ [.ref t]))) := fun H8 t e uv' p' S f ht he hg => ⟨S.snoc ht, gr f (Fr.put (by simp))⟩
          refine ⟨_, rfl, _, _, rfl, rfl, _, rfl, ?_⟩
          by_cases y2 : y < 2
          · refine iteTb (decide_eq_true (by omega)) ⟨_, rfl, .inl ⟨rfl, _, SqL.of S6.log⟩, _, rfl, _, rfl, sz_le (by simp), fun t ht => ?_⟩
            have g := Fr.new (S := []) (o := .tup [.str "begin", .int (b : Int), .int (x : Int)]) ht
            have S7 := S6.keep0 g
            have f7 : Fr [r] H (upd H6 t (.tup [.str "begin", .int (b : Int), .int (x : Int)])) := f06.trans (g.mono (by simp))
            refine ⟨lg, _, _, rfl, rfl, S7.log, by rw [List.length_map]; exact sz_lt (by omega), ?_⟩
            obtain ⟨S8, f8⟩ := gone _ t (.bg b x) .non ⟨p.vs, some (b, x)⟩ S7 f7 upd_same ⟨hb, hxr⟩ (by show (if p.un.isSome then none else _) = _; rw [eu]; rfl)
            refine ⟨_, rfl, _, rfl, sz_le (by simp), fun t2 ht2 => ?_⟩
            have g2 := Fr.new (S := []) (o := .tup [.int (b : Int), .int (x : Int)]) ht2
            have S9 := (S8.keep0 g2).setu (uv' := .ref t2) (un' := some (b, (x : Int))) ⟨t2, rfl, upd_same⟩
            exact fin _ _ _ _ _ _ ⟨p.vs, some (b, x)⟩ _ _ _ _ _ _ (f8.trans (g2.mono (by simp))) S9 (tl.step (e := .bg b x) ⟨hb, hxr⟩ (by show (if p.un.isSome then none else _) = _; rw [eu]; rfl) tl.sim.up)
          · refine iteFb (decide_eq_false (by omega)) ⟨_, rfl, _, _, rfl, rfl, _, rfl, ?_⟩
            have hsim := tl.sim.at hbl
            obtain ⟨wa, hwa, hW⟩ := S6.pos.at hlsl
            have hwm : (pas.map V.ref)[b]? = some (V.ref wa) := by rw [List.getElem?_map, hwa]; rfl
            by_cases y4 : y < 4
            · refine iteTb (decide_eq_true (by omega)) ⟨_, rfl, _, rfl, D, _, _, _, rfl, rfl, SqL.of S6.pos.lst, atI_nat hwm, ?_⟩
              refine ⟨fun σ' H9 => ∃ z : Int, σ' = [some (.ref r), some (.int (nb : Int)), some (.int (m : Int)), some (.int (b : Int)), some (.ref lg), some (.ref D), some uv, some (.int (0 + (i : Int))), some (.int z), some (.int (y : Int)), v10, some (.ref wa)] ∧ LgAt H9 r lg D ts pas uv es ls none ∧ Fr [r] H H9 ∧ (0 ≤ z ∧ z ≤ 999) ∧ z ∈ p.vs.getD b [], ?_, ?_⟩
              · refine ⟨_, rfl, _, _, rfl, rfl, sz_le (by simp), fun q hq => ?_⟩
                have g := Fr.new (S := []) (o := .lst [V.int (0 - 1)]) hq
                have S7 := S6.keep0 g
                have f7 : Fr [r] H (upd H6 q (.lst [V.int (0 - 1)])) := f06.trans (g.mono (by simp))
                have hW7 := g _ _ hW (by simp)
                refine ⟨_, _, .lst (SqL.of hW7) (dpAll_ints _), .lst (SqL.of upd_same) (dpAll_ints [(0 - 1 : Int)]), shapedL_ints _, shapedL_ints _, _, rfl, ?_⟩
                rw [eqvL_ints]
                rcases hsim with ⟨e1, e2⟩ | ⟨n1, n2, n3, n4, n5, n6⟩
                · refine iteTb (decide_eq_true (show ls.getD b [] = [0 - 1] from e1)) ⟨_, rfl, ?_⟩
                  exact ⟨x, rfl, S7, f7, hxr, by rw [e2]; exact mem_allV.mpr hxr⟩
                · have hn : ls.getD b [] ≠ [-1] := fun z => by
                    have := n3 (-1) (by rw [z]; simp)
                    omega
                  have hpos : 0 < (ls.getD b []).length := by
                    cases e : ls.getD b [] with
                    | nil => exact absurd e n1
                    | cons a as => simp
                  refine iteFb (decide_eq_false (show ¬ ls.getD b [] = [0 - 1] from hn)) ⟨_, rfl, _, rfl, _, rfl, wa, _, rfl, .inl (SqL.of hW7), r, (ls.getD b []).length, by rw [List.length_map] <;> rfl, S7.rnd, hpos, by omega, fun j H8 hj f8 R8 => ?_⟩
                  have hW8 := f8 _ _ hW7 (by rw [List.mem_singleton]; exact (S7.in_ne hwa).2.2)
                  have hjm : ((ls.getD b []).map V.int)[j]? = some (V.int ((ls.getD b [])[j]'hj)) := by rw [List.getElem?_map, List.getElem?_eq_getElem hj]; rfl
                  have hmem : (ls.getD b [])[j]'hj ∈ ls.getD b [] := List.getElem_mem hj
                  refine ⟨wa, _, _, _, rfl, rfl, SqL.of hW8, atI_nat hjm, (ls.getD b [])[j]'hj, rfl, S7.draw f8 R8, f7.trans f8, n3 _ hmem, (n4 _).mp hmem⟩
              · rintro _ H9 ⟨z, rfl, S9, f9, hz, hzm⟩
                refine ⟨_, rfl, .inl ⟨rfl, _, SqL.of S9.log⟩, _, rfl, _, rfl, sz_le (by simp), fun t ht => ?_⟩
                have g := Fr.new (S := []) (o := .tup [.str "read", .int (b : Int), .int z]) ht
                have S10 := S9.keep0 g
                have f10 : Fr [r] H (upd H9 t (.tup [.str "read", .int (b : Int), .int z])) := f9.trans (g.mono (by simp))
                refine ⟨lg, _, _, rfl, rfl, S10.log, by rw [List.length_map]; exact sz_lt (by omega), ?_⟩
                have hg : p.go (.rd b z) = some ⟨p.vs.set b [z], none⟩ := by
                  show (if p.un.isSome then none else if z ∈ p.vs.getD b [] then some (⟨p.vs.set b [z], none⟩ : Po) else none) = _
                  rw [eu, if_pos hzm]
                  rfl
                obtain ⟨S11, f11⟩ := gone _ t (.rd b z) .non _ S10 f10 upd_same ⟨hb, hz⟩ hg
                refine ⟨_, rfl, sz_le (by simp), fun q hq => ?_⟩
                have g12 := Fr.new (S := []) (o := .lst [V.int z]) hq
                have S12 := S11.keep0 g12
                refine ⟨_, rfl, _, rfl, D, _, _, b, rfl, rfl, S12.pos.lst, ix_at b (by rw [List.length_map]; exact hpl), ?_⟩
                rw [refs_set]
                obtain ⟨n1, n2, n3⟩ := S11.new_ne hq
                have S13 := S12.setp (b := b) (ys := [z]) upd_same n1 n2 n3
                exact fin _ _ _ _ _ _ ⟨p.vs.set b [z], none⟩ _ _ _ _ _ _ (gr (f11.trans (g12.mono (by simp))) (Fr.put (by simp))) S13 (tl.step (e := .rd b z) ⟨hb, hz⟩ hg (tl.sim.up.set b (SimL.one hz)))
            · refine iteFb (decide_eq_false (by omega)) ⟨_, rfl, .inl ⟨rfl, _, SqL.of S6.log⟩, sz_le (by simp), fun t1 h1 => ⟨_, rfl, sz_le (by simp), fun t2 h2 => ⟨sz_le (by simp), fun q hq => ?_⟩⟩⟩
              have g1 : Fr [] H6 (upd H6 t1 (.tup [V.str "fail"])) := Fr.new h1
              have g2 := g1.trans (Fr.new (o := .tup [V.str "lost", V.int (b : Int)]) h2)
              have g3 := g2.trans (Fr.new (o := .lst [V.ref t1, V.ref t2]) hq)
              have S7 := S6.keep0 g3
              have f7 := f06.trans (g3.mono (by simp))
              have hW7 := g3 _ _ hW (by simp)
              have e1 : (upd (upd (upd H6 t1 (.tup [V.str "fail"])) t2 (.tup [V.str "lost", V.int (b : Int)])) q (.lst [V.ref t1, V.ref t2])) t1 = some (.tup [V.str "fail"]) := (Fr.new (S := []) hq) _ _ ((Fr.new (S := []) h2) _ _ upd_same (by simp)) (by simp)
              have e2 : (upd (upd (upd H6 t1 (.tup [V.str "fail"])) t2 (.tup [V.str "lost", V.int (b : Int)])) q (.lst [V.ref t1, V.ref t2])) t2 = some (.tup [V.str "lost", V.int (b : Int)]) := (Fr.new (S := []) hq) _ _ upd_same (by simp)
              have e3 : (upd (upd (upd H6 t1 (.tup [V.str "fail"])) t2 (.tup [V.str "lost", V.int (b : Int)])) q (.lst [V.ref t1, V.ref t2])) q = some (.lst [V.ref t1, V.ref t2]) := upd_same
              generalize (upd (upd (upd H6 t1 (.tup [V.str "fail"])) t2 (.tup [V.str "lost", V.int (b : Int)])) q (.lst [V.ref t1, V.ref t2])) = H7 at S7 f7 hW7 e1 e2 e3
              clear g1 g2 g3 h1 h2 hq
              by_cases h4 : y = 4
              · have ey : (y : Int) - 4 = ((0 : Nat) : Int) := by omega
                refine ⟨_, rfl, _, _, rfl, rfl, q, _, _, _, rfl, rfl, SqL.of e3, by rw [ey]; exact atI_nat rfl, ?_⟩
                refine ⟨lg, _, _, rfl, rfl, S7.log, by rw [List.length_map]; exact sz_lt (by omega), ?_⟩
                have hg : p.go .fl = some ⟨p.vs, none⟩ := by
                  show some (⟨p.now, none⟩ : Po) = _
                  unfold Po.now
                  rw [eu]
                obtain ⟨S8, f8⟩ := gone _ t1 .fl .non _ S7 f7 e1 trivial hg
                obtain ⟨wa8, hwa8, hW8⟩ := S8.pos.at hlsl
                have hwm8 : (pas.map V.ref)[b]? = some (V.ref wa8) := by rw [List.getElem?_map, hwa8]; rfl
                refine ⟨_, rfl, rfl, _, rfl, iteTb (decide_eq_true (by rw [h4]; rfl)) ⟨_, rfl, _, rfl, D, _, _, _, rfl, rfl, SqL.of S8.pos.lst, atI_nat hwm8, ?_⟩⟩
                refine ⟨_, rfl, _, rfl, D, _, _, b, rfl, rfl, S8.pos.lst, ix_at b (by rw [List.length_map]; exact hpl), ?_⟩
                rw [refs_set]
                obtain ⟨n1, n2, n3⟩ := S8.in_ne hwa8
                have S9 := S8.setp (b := b) hW8 n1 n2 n3
                have els : ls.set b (ls.getD b []) = ls := by
                  rw [List.getD_eq_getElem?_getD, List.getElem?_eq_getElem hlsl]
                  exact List.set_getElem_self hlsl
                rw [els] at S9
                exact fin _ _ _ _ _ _ ⟨p.vs, none⟩ _ _ _ _ _ _ (gr f8 (Fr.put (by simp))) S9 (tl.step (e := .fl) trivial hg tl.sim.up)
              · have ey : (y : Int) - 4 = ((1 : Nat) : Int) := by omega
                refine ⟨_, rfl, _, _, rfl, rfl, q, _, _, _, rfl, rfl, SqL.of e3, by rw [ey]; exact atI_nat rfl, ?_⟩
                refine ⟨lg, _, _, rfl, rfl, S7.log, by rw [List.length_map]; exact sz_lt (by omega), ?_⟩
                have hg : p.go (.ls b) = some ⟨p.vs.set b allV, none⟩ := by
                  show (if p.un.isSome then none else some (⟨p.vs.set b allV, none⟩ : Po)) = _
                  rw [eu]
                  rfl
                obtain ⟨S8, f8⟩ := gone _ t2 (.ls b) .non _ S7 f7 e2 hb hg
                refine ⟨_, rfl, rfl, _, rfl, iteFb (decide_eq_false fun z => h4 (by have := V.int.inj z; omega)) ⟨_, _, rfl, rfl, sz_le (by simp), fun q2 hq2 => ?_⟩⟩
                have g9 := Fr.new (S := []) (o := .lst [V.int (0 - 1)]) hq2
                have S9 := S8.keep0 g9
                refine ⟨_, rfl, _, rfl, D, _, _, b, rfl, rfl, S9.pos.lst, ix_at b (by rw [List.length_map]; exact hpl), ?_⟩
                rw [refs_set]
                obtain ⟨n1, n2, n3⟩ := S8.new_ne hq2
                have S10 := S9.setp (b := b) (ys := [0 - 1]) upd_same n1 n2 n3
                exact fin _ _ _ _ _ _ ⟨p.vs.set b allV, none⟩ _ _ _ _ _ _ (gr (f8.trans (g9.mono (by simp))) (Fr.put (by simp))) S10 (tl.step (e := .ls b) hb hg (tl.sim.up.set b (.inl ⟨rfl, rfl⟩)))
      · rintro _ H3 ⟨ts, pas, uv, es, ls, p, v3, v7, v8, v9, v10, v11, rfl, f3, S3, tl⟩
        refine ⟨_, rfl, _, rfl, _, rfl, sz_le (by simp), fun t ht => ?_⟩
        exact k _ t lg D ts pas uv es ls p (f3.trans (Fr.new ht)) hlg hD0.1 upd_same (S3.keep0 (Fr.new ht)) tl
end
/-! ### a list of entries -/
structure Lq (H : Hp) (nb : Nat) (r lg : Addr) (ts : List Addr) (es : List En) : Prop where
  rnd : Rnd H r
  log : H lg = some (.lst (ts.map V.ref))
  len : ts.length = es.length
  its : ∀ (i : Nat) (t : Addr) (e : En), ts[i]? = some t → es[i]? = some e → H t = some (.tup e.vs)
  ok : ∀ e ∈ es, e.ok nb
  rl : r ≠ lg
section
variable {H H' : Hp} {nb : Nat} {r lg : Addr} {ts : List Addr} {es : List En}
theorem Lq.keep0 (h : Lq H nb r lg ts es) (f : Fr [] H H') : Lq H' nb r lg ts es := ⟨h.rnd.keep f (by simp), f _ _ h.log (by simp), h.len, fun i t e e1 e2 => f _ _ (h.its i t e e1 e2) (by simp), h.ok, h.rl⟩
theorem Lq.draw (h : Lq H nb r lg ts es) (f : Fr [r] H H') (R : Rnd H' r) : Lq H' nb r lg ts es := ⟨R, f _ _ h.log (by simpa using h.rl.symm), h.len, fun i t e e1 e2 => f _ _ (h.its i t e e1 e2) fun z => h.rnd.notup _ z _ (h.its i t e e1 e2), h.ok, h.rl⟩
theorem Lq.items (h : Lq H nb r lg ts es) : ∀ (i : Nat) (x : V) (o : Option En), (ts.map V.ref)[i]? = some x → (es.map some)[i]? = some o → ItAt H nb x o := fun i x o e1 e2 => by
  rw [List.getElem?_map] at e1 e2
  cases et : ts[i]? with
  | none => rw [et] at e1; cases e1
  | some t =>
    cases ee : es[i]? with
    | none => rw [ee] at e2; cases e2
    | some e =>
      rw [et] at e1
      rw [ee] at e2
      cases e1
      cases e2
      exact ⟨t, rfl, h.its i t e et ee, h.ok e (List.mem_of_getElem? ee)⟩
theorem Lq.Log (h : Lq H nb r lg ts es) : Log H nb lg (ts.map V.ref) (es.map some) := ⟨h.log, by rw [List.length_map, List.length_map]; exact h.len, h.items⟩
end
theorem Log.cat {H : Hp} {nb : Nat} {a q : Addr} {xs ys : List V} {is js : List (Option En)} (h : Log H nb a xs is) (hl : ys.length = js.length) (g : ∀ (i : Nat) (x : V) (o : Option En), ys[i]? = some x → js[i]? = some o → ItAt H nb x o) (e : H q = some (.lst (xs ++ ys))) : Log H nb q (xs ++ ys) (is ++ js) := by
  refine ⟨e, by rw [List.length_append, List.length_append, h.len, hl], fun i x o e1 e2 => ?_⟩
  by_cases hj : i < xs.length
  · rw [List.getElem?_append_left hj] at e1
    rw [List.getElem?_append_left (by rw [← h.len]; exact hj)] at e2
    exact h.its i x o e1 e2
  · rw [List.getElem?_append_right (by omega)] at e1
    rw [List.getElem?_append_right (by rw [← h.len]; omega)] at e2
    rw [← h.len] at e2
    exact g _ x o e1 e2
theorem one_item {H : Hp} {nb : Nat} {v : V} {o : Option En} (h : ItAt H nb v o) : ∀ (i : Nat) (x : V) (y : Option En), [v][i]? = some x → [o][i]? = some y → ItAt H nb x y := fun i x y e1 e2 => by
  have hi : i = 0 := by
    have := lt_of_at e1
    simp at this
    omega
  rw [hi] at e1 e2
  cases e1
  cases e2
  exact h
theorem Log.take {H : Hp} {nb : Nat} {a q : Addr} {xs : List V} {is : List (Option En)} (h : Log H nb a xs is) (k : Nat) (e : H q = some (.lst (xs.take k))) : Log H nb q (xs.take k) (is.take k) := by
  refine ⟨e, by rw [List.length_take, List.length_take, h.len], fun i x o e1 e2 => ?_⟩
  have hi := lt_of_at e1
  rw [List.length_take] at hi
  rw [List.getElem?_take_of_lt (by omega)] at e1 e2
  exact h.its i x o e1 e2
theorem runE_take : ∀ {es : List En} {p q : Po} (k : Nat), runE p es = some q → ∃ q', runE p (es.take k) = some q'
  | [], p, q, k, h => ⟨p, by rw [List.take_nil]; rfl⟩
  | a :: es, p, q, 0, h => ⟨p, rfl⟩
  | a :: es, p, q, k + 1, h => by
    have h' : (p.go a).bind (fun q => runE q es) = some q := h
    cases e : p.go a with
    | none => rw [e] at h'; cases h'
    | some u =>
      rw [e] at h'
      obtain ⟨q', hq⟩ := runE_take k h'
      refine ⟨q', ?_⟩
      show (p.go a).bind (fun q => runE q (es.take k)) = some q'
      rw [e]
      exact hq
/-! ### what is told of a block -/
theorem sortI_mem {x : Int} {l : List Int} : x ∈ sortI l ↔ x ∈ l := (List.mergeSort_perm l _).mem_iff
theorem shownV_any {n nb b : Nat} {p : Po} (ok : PoOk nb n p) (hn : n ≤ 60) (hb : b < nb) : (shownV (p.vs.getD b []) = [-1] ∧ p.vs.getD b [] = allV) ∨ (shownV (p.vs.getD b []) ≠ [-1] ∧ p.vs.getD b [] ≠ allV ∧ shownV (p.vs.getD b []) = sortI (p.vs.getD b []) ∧ (p.vs.getD b []).length ≤ n + 1 ∧ p.vs.getD b [] ≠ [] ∧ ∀ v ∈ p.vs.getD b [], 0 ≤ v ∧ v ≤ 999) := by
  have hm := getD_mem (d := []) (xs := p.vs) (i := b) (by rw [ok.len]; exact hb)
  rcases ok.vs _ hm with e | ⟨h1, h2, h3, h4⟩
  · left
    refine ⟨?_, e⟩
    unfold shownV
    rw [e, if_pos (by rw [allV_len]; decide)]
  · right
    have hs : shownV (p.vs.getD b []) = sortI (p.vs.getD b []) := by
      unfold shownV
      rw [if_neg (by omega)]
    refine ⟨fun z => ?_, fun z => ?_, hs, h3, h1, h4⟩
    · rw [hs] at z
      have : (-1 : Int) ∈ sortI (p.vs.getD b []) := by rw [z]; simp
      have := h4 _ (sortI_mem.mp this)
      omega
    · rw [z, allV_len] at h3
      omega
theorem short_now {nb n : Nat} {p : Po} (ok : PoOk nb n p) (hn : n ≤ 60) : ∀ l ∈ p.now, l = allV ∨ l.length < 64 := fun l hl => (ok.now.vs l hl).imp id fun h => by
  have := h.2.2.1
  omega
theorem shown_one {x : Int} : shownV [x] = [x] := by
  have e : shownV [x] = sortI [x] := by
    unfold shownV
    rw [if_neg (by simp)]
  rw [e]
  exact List.perm_singleton.mp (List.mergeSort_perm [x] _)
theorem getD_map {α β : Type} {f : α → β} {xs : List α} {b : Nat} {d : α} {e : β} (h : b < xs.length) : (xs.map f).getD b e = f (xs.getD b d) := by
  rw [List.getD_eq_getElem?_getD, List.getD_eq_getElem?_getD, List.getElem?_map, List.getElem?_eq_getElem h]
  rfl
theorem getD_at {α : Type} {xs : List α} {b : Nat} {d : α} (h : b < xs.length) : xs[b]? = some (xs.getD b d) := by
  rw [List.getD_eq_getElem?_getD, List.getElem?_eq_getElem h]
  rfl
/-! ### equal, by the law's own comparison, of words too -/
def isL : V → Bool
  | .non => true
  | .bl _ => true
  | .int _ => true
  | .str _ => true
  | _ => false
def Eqn (H : Hp) : Nat → V → V → Prop
  | 0, v, e => v = e ∧ isL e = true
  | n + 1, v, e => (v = e ∧ isL e = true) ∨ (∃ (a b : Addr) (xs ys : List V), v = .ref a ∧ e = .ref b ∧ ((H a = some (.tup xs) ∧ H b = some (.tup ys)) ∨ (H a = some (.lst xs) ∧ H b = some (.lst ys))) ∧ xs.length = ys.length ∧ ys.length ≤ 2000 ∧ ∀ (i : Nat) (x y : V), xs[i]? = some x → ys[i]? = some y → Eqn H n x y)
theorem Eqn.keep {H H' : Hp} (f : Fr [] H H') : ∀ {n : Nat} {v e : V}, Eqn H n v e → Eqn H' n v e
  | 0, _, _, h => h
  | n + 1, _, _, .inl h => .inl h
  | n + 1, _, _, .inr ⟨a, b, xs, ys, e1, e2, h, h3, h5, h4⟩ => by
    refine .inr ⟨a, b, xs, ys, e1, e2, ?_, h3, h5, fun i x y q1 q2 => Eqn.keep f (h4 i x y q1 q2)⟩
    rcases h with ⟨h1, h2⟩ | ⟨h1, h2⟩
    · exact .inl ⟨f _ _ h1 (by simp), f _ _ h2 (by simp)⟩
    · exact .inr ⟨f _ _ h1 (by simp), f _ _ h2 (by simp)⟩
theorem Eqn.flat {H : Hp} {v : V} (h : isL v = true) : ∀ n, Eqn H n v v
  | 0 => ⟨rfl, h⟩
  | _ + 1 => .inl ⟨rfl, h⟩
theorem Eqn.up {H : Hp} : ∀ {n : Nat} {v e : V}, Eqn H n v e → Eqn H (n + 1) v e
  | 0, _, _, h => .inl h
  | n + 1, _, _, .inl h => .inl h
  | n + 1, _, _, .inr ⟨a, b, xs, ys, e1, e2, h, h3, h5, h4⟩ => .inr ⟨a, b, xs, ys, e1, e2, h, h3, h5, fun i x y q1 q2 => Eqn.up (h4 i x y q1 q2)⟩
/-- two lists of plain contents -/
theorem Eqn.same {H : Hp} {n : Nat} {xs : List V} (h : ∀ v ∈ xs, Eqn H n v v) : ∀ (i : Nat) (x y : V), xs[i]? = some x → xs[i]? = some y → Eqn H n x y := fun i x y e1 e2 => by
  rw [e1] at e2
  cases e2
  exact h x (List.mem_of_getElem? e1)
def spEq (n : Nat) : Sp := fun vs H Q _ => ∃ v e : V, vs = [v, e] ∧ Eqn H n v e ∧ ∀ H', Fr [] H H' → Q (.bl true) H'
theorem ix_seqK {X : Cx} {K : PySem.W.Frag} (h : X.K = K) : IxR X (rIx K) := by
  subst h
  exact ix_seq
theorem len_bool {a b : Nat} (h : a = b) : (!decide (V.int (a : Int) = V.int (b : Int))) = false := by
  rw [h]
  simp
section
variable {P : Program} {w : World} {K : PySem.W.Frag} {mg : Str → Option Value} {base : Heap}
theorem ok_equal : ∀ (n : Nat) (T : Gx K mg), FnOk P w K mg base CX0 (n + 1) T.f__law_equal T.fd__law_equal ["_law_actual", "_law_expected"] (spEq n)
  | n, T => by
    refine T.F__law_equal.ok sc__law_equal (fun vs H Q E h => ?_) (fun cdv A outer s H vs Q E hr h => ?_)
    · obtain ⟨v, e, rfl, _⟩ := h
      rfl
    · obtain ⟨v, e, rfl, hE, k⟩ := h
      have leaf : v = e → isL e = true → (∃ t, PSs (cxOf CX0 P w K mg base ["_law_actual", "_law_expected", "_law_k"] "_law_equal" (defScope s__law_equal) T.f__law_equal cdv A outer s H E).nox (defBody s__law_equal) t ∧ t { nx := fun _ H' => Q .non H', rt := Q } (start ["_law_actual", "_law_expected", "_law_k"] [v, e]) H) := by
        intro hve hF
        subst hve
        refine ⟨_, (pss_cons (ps_if (pt_cmpR op_isN (pv 1) pe_non (nomark _)) (pss_one (ps_ret (pe_cmpR op_isN (pv 0) pe_non (nomark _)))) pss_nil)
          (pss_cons (ps_if (pt_val (pe_callB call_isi (by rfl) T.z_isinstance (by decide +kernel) (pa_cons (pv 1) (pa_cons (pe_bltn (v := .ty "bool") (by rfl) T.z_bool (by decide +kernel) rfl) pa_nil)))) (pss_one (ps_ret (pe_and (pe_callB call_isi (by rfl) T.z_isinstance (by decide +kernel) (pa_cons (pv 0) (pa_cons (pe_bltn (v := .ty "bool") (by rfl) T.z_bool (by decide +kernel) rfl) pa_nil))) (pe_one (pe_cmpR op_eq (pv 0) (pv 1) (nomark _)))))) pss_nil)
          (pss_cons (ps_if (pt_val (pe_callB call_isi (by rfl) T.z_isinstance (by decide +kernel) (pa_cons (pv 1) (pa_cons (pe_bltn (v := .ty "int") (by rfl) T.z_int (by decide +kernel) rfl) pa_nil)))) (pss_one (ps_ret (pe_and (pe_callB call_isi (by rfl) T.z_isinstance (by decide +kernel) (pa_cons (pv 0) (pa_cons (pe_bltn (v := .ty "int") (by rfl) T.z_int (by decide +kernel) rfl) pa_nil))) (pe_and (pe_not (pe_callB call_isi (by rfl) T.z_isinstance (by decide +kernel) (pa_cons (pv 0) (pa_cons (pe_bltn (v := .ty "bool") (by rfl) T.z_bool (by decide +kernel) rfl) pa_nil)))) (pe_one (pe_cmpR op_eq (pv 0) (pv 1) (nomark _))))))) pss_nil)
          (pss_cons (ps_if (pt_val (pe_callB call_isi (by rfl) T.z_isinstance (by decide +kernel) (pa_cons (pv 1) (pa_cons (pe_bltn (v := .ty "str") (by rfl) T.z_str (by decide +kernel) rfl) pa_nil)))) (pss_one (ps_ret (pe_and (pe_callB call_isi (by rfl) T.z_isinstance (by decide +kernel) (pa_cons (pv 0) (pa_cons (pe_bltn (v := .ty "str") (by rfl) T.z_str (by decide +kernel) rfl) pa_nil))) (pe_one (pe_cmpR op_eq (pv 0) (pv 1) (nomark _)))))) pss_nil)
          pss_never)))), ?_⟩
        have k0 := k H (Fr.refl _ _)
        cases v with
        | non =>
          exact ⟨_, rfl, rfl, _, rfl, iteT ⟨_, rfl, rfl, k0⟩⟩
        | bl b =>
          refine ⟨_, rfl, rfl, _, rfl, iteF ?_⟩
          refine ⟨_, rfl, _, .ty "bool", .type "bool", _, true, rfl, ClsV.ty "bool", .base (.bl b), kit_ty (by decide +kernel), _, rfl, iteT ?_⟩
          refine ⟨_, rfl, _, .ty "bool", .type "bool", _, true, rfl, ClsV.ty "bool", .base (.bl b), kit_ty (by decide +kernel), _, rfl, iteT ?_⟩
          refine ⟨_, rfl, _, rfl, rfl, ?_⟩
          show Q (.bl (decide (V.bl b = V.bl b))) _
          rw [decide_eq_true rfl]
          exact k0
        | int i =>
          refine ⟨_, rfl, rfl, _, rfl, iteF ?_⟩
          refine ⟨_, rfl, _, .ty "bool", .type "int", _, false, rfl, ClsV.ty "bool", .base (.int i), kit_ty (by decide +kernel), _, rfl, iteF ?_⟩
          refine ⟨_, rfl, _, .ty "int", .type "int", _, true, rfl, ClsV.ty "int", .base (.int i), kit_ty (by decide +kernel), _, rfl, iteT ?_⟩
          refine ⟨_, rfl, _, .ty "int", .type "int", _, true, rfl, ClsV.ty "int", .base (.int i), kit_ty (by decide +kernel), _, rfl, iteT ?_⟩
          refine ⟨_, rfl, _, .ty "bool", .type "int", _, false, rfl, ClsV.ty "bool", .base (.int i), kit_ty (by decide +kernel), _, rfl, _, rfl, iteT ?_⟩
          refine ⟨_, rfl, _, rfl, rfl, ?_⟩
          show Q (.bl (decide (V.int i = V.int i))) _
          rw [decide_eq_true rfl]
          exact k0
        | str z =>
          refine ⟨_, rfl, rfl, _, rfl, iteF ?_⟩
          refine ⟨_, rfl, _, .ty "bool", .type "str", _, false, rfl, ClsV.ty "bool", .base (.str z), kit_ty (by decide +kernel), _, rfl, iteF ?_⟩
          refine ⟨_, rfl, _, .ty "int", .type "str", _, false, rfl, ClsV.ty "int", .base (.str z), kit_ty (by decide +kernel), _, rfl, iteF ?_⟩
          refine ⟨_, rfl, _, .ty "str", .type "str", _, true, rfl, ClsV.ty "str", .base (.str z), kit_ty (by decide +kernel), _, rfl, iteT ?_⟩
          refine ⟨_, rfl, _, .ty "str", .type "str", _, true, rfl, ClsV.ty "str", .base (.str z), kit_ty (by decide +kernel), _, rfl, iteT ?_⟩
          refine ⟨_, rfl, _, rfl, rfl, ?_⟩
          show Q (.bl (decide (V.str z = V.str z))) _
          rw [decide_eq_true rfl]
          exact k0
        | byt _ => cases hF
        | flt _ => cases hF
        | ref _ => cases hF
        | ty _ => cases hF
      cases n with
      | zero => exact leaf hE.1 hE.2
      | succ n =>
        rcases hE with ⟨e1, e2⟩ | ⟨a, b, xs, ys, rfl, rfl, hab, hl, h2k, hi⟩
        · exact leaf e1 e2
        · have G__law_equal : FnOk P w K mg base CX0 (n + 1) T.f__law_equal T.fd__law_equal ["_law_actual", "_law_expected"] (spEq n) := ok_equal n T
          refine ⟨_, (pss_cons (ps_if (pt_cmpR op_isN (pv 1) pe_non (nomark _)) (pss_one (ps_ret (pe_cmpR op_isN (pv 0) pe_non (nomark _)))) pss_nil)
      (pss_cons (ps_if (pt_val (pe_callB call_isi (by rfl) T.z_isinstance (by decide +kernel) (pa_cons (pv 1) (pa_cons (pe_bltn (v := .ty "bool") (by rfl) T.z_bool (by decide +kernel) rfl) pa_nil)))) (pss_one (ps_ret (pe_and (pe_callB call_isi (by rfl) T.z_isinstance (by decide +kernel) (pa_cons (pv 0) (pa_cons (pe_bltn (v := .ty "bool") (by rfl) T.z_bool (by decide +kernel) rfl) pa_nil))) (pe_one (pe_cmpR op_eq (pv 0) (pv 1) (nomark _)))))) pss_nil)
      (pss_cons (ps_if (pt_val (pe_callB call_isi (by rfl) T.z_isinstance (by decide +kernel) (pa_cons (pv 1) (pa_cons (pe_bltn (v := .ty "int") (by rfl) T.z_int (by decide +kernel) rfl) pa_nil)))) (pss_one (ps_ret (pe_and (pe_callB call_isi (by rfl) T.z_isinstance (by decide +kernel) (pa_cons (pv 0) (pa_cons (pe_bltn (v := .ty "int") (by rfl) T.z_int (by decide +kernel) rfl) pa_nil))) (pe_and (pe_not (pe_callB call_isi (by rfl) T.z_isinstance (by decide +kernel) (pa_cons (pv 0) (pa_cons (pe_bltn (v := .ty "bool") (by rfl) T.z_bool (by decide +kernel) rfl) pa_nil)))) (pe_one (pe_cmpR op_eq (pv 0) (pv 1) (nomark _))))))) pss_nil)
      (pss_cons (ps_if (pt_val (pe_callB call_isi (by rfl) T.z_isinstance (by decide +kernel) (pa_cons (pv 1) (pa_cons (pe_bltn (v := .ty "str") (by rfl) T.z_str (by decide +kernel) rfl) pa_nil)))) (pss_one (ps_ret (pe_and (pe_callB call_isi (by rfl) T.z_isinstance (by decide +kernel) (pa_cons (pv 0) (pa_cons (pe_bltn (v := .ty "str") (by rfl) T.z_str (by decide +kernel) rfl) pa_nil))) (pe_one (pe_cmpR op_eq (pv 0) (pv 1) (nomark _)))))) pss_nil)
      (pss_cons (ps_if (pt_cmpR op_ne (pe_callB call_isi (by rfl) T.z_isinstance (by decide +kernel) (pa_cons (pv 1) (pa_cons (pe_bltn (v := .ty "tuple") (by rfl) T.z_tuple (by decide +kernel) rfl) pa_nil))) (pe_callB call_isi (by rfl) T.z_isinstance (by decide +kernel) (pa_cons (pv 0) (pa_cons (pe_bltn (v := .ty "tuple") (by rfl) T.z_tuple (by decide +kernel) rfl) pa_nil))) (nomark _)) (pss_one (ps_ret pe_bl)) pss_nil)
      (pss_cons (ps_if (pt_cmpR op_ne (pe_callB call_isi (by rfl) T.z_isinstance (by decide +kernel) (pa_cons (pv 1) (pa_cons (pe_bltn (v := .ty "list") (by rfl) T.z_list (by decide +kernel) rfl) pa_nil))) (pe_callB call_isi (by rfl) T.z_isinstance (by decide +kernel) (pa_cons (pv 0) (pa_cons (pe_bltn (v := .ty "list") (by rfl) T.z_list (by decide +kernel) rfl) pa_nil))) (nomark _)) (pss_one (ps_ret pe_bl)) pss_nil)
      (pss_cons (ps_if (pt_cmpR op_ne (pe_callB call_len_seq (by rfl) T.z_len (by decide +kernel) (pa_cons (pv 0) pa_nil)) (pe_callB call_len_seq (by rfl) T.z_len (by decide +kernel) (pa_cons (pv 1) pa_nil)) (nomark _)) (pss_one (ps_ret pe_bl)) pss_nil)
      (pss_one (ps_ret (pe_callB (cr_all rfl) (by rfl) T.z_all (by decide +kernel) (pa_cons (pe_lc (own := [("_law_k", 2)]) (g := gName 2) rfl sc__law_equal.nd (pi_range1 (by rfl) T.z_range (pa_cons (pe_callB call_len_seq (by rfl) T.z_len (by decide +kernel) (pa_cons (pv 1) pa_nil)) pa_nil)) (blkOk_by (N := ["_law_actual", "_law_expected", "_law_k"]) (sc := defScope s__law_equal) (by decide +kernel)) (fun _ _ _ _ _ => pg_name (i := 2) sc__law_equal.nd rfl (.inl rfl)) (fun _ _ _ _ _ => pts_nil) (fun _ _ _ _ _ => (pe_call G__law_equal (hr.mono (by first | decide | omega)) (by rfl) T.g__law_equal T.F__law_equal.kp (b__law_equal T) .nil pass0 (pa_cons (pe_ix (ix_seqK (K := K) rfl) (pv 0) (pv 2) (fun _ _ => rfl)) (pa_cons (pe_ix (ix_seqK (K := K) rfl) (pv 1) (pv 2) (fun _ _ => rfl)) pa_nil))))) pa_nil))))))))))), ?_⟩
          obtain ⟨ty, ta, tb, t1, t2, t3, t4, bt, bl, t5, t6⟩ : ∃ ty : String, TyX K H (.ref a) (.type ty) ∧ TyX K H (.ref b) (.type ty) ∧ kitB ty "bool" = some false ∧ kitB ty "int" = some false ∧ kitB ty "str" = some false ∧ (SqL K H a xs ∧ SqL K H b ys ∨ SqT K H a xs ∧ SqT K H b ys) ∧ ∃ bt bl : Bool, kitB ty "tuple" = some bt ∧ kitB ty "list" = some bl := by
            rcases hab with ⟨h1, h2⟩ | ⟨h1, h2⟩
            · exact ⟨"tuple", .base (.tup h1), .base (.tup h2), by decide +kernel, by decide +kernel, by decide +kernel, .inr ⟨SqT.of h1, SqT.of h2⟩, true, false, by decide +kernel, by decide +kernel⟩
            · exact ⟨"list", .base (.lst h1), .base (.lst h2), by decide +kernel, by decide +kernel, by decide +kernel, .inl ⟨SqL.of h1, SqL.of h2⟩, false, true, by decide +kernel, by decide +kernel⟩
          refine ⟨_, rfl, rfl, _, rfl, iteF ?_⟩
          refine ⟨_, rfl, _, .ty "bool", .type ty, _, false, rfl, ClsV.ty "bool", tb, kit_ty t1, _, rfl, iteF ?_⟩
          refine ⟨_, rfl, _, .ty "int", .type ty, _, false, rfl, ClsV.ty "int", tb, kit_ty t2, _, rfl, iteF ?_⟩
          refine ⟨_, rfl, _, .ty "str", .type ty, _, false, rfl, ClsV.ty "str", tb, kit_ty t3, _, rfl, iteF ?_⟩
          refine ⟨_, rfl, _, .ty "tuple", .type ty, _, bt, rfl, ClsV.ty "tuple", tb, kit_ty t5, _, rfl, _, .ty "tuple", .type ty, _, bt, rfl, ClsV.ty "tuple", ta, kit_ty t5, rfl, _, rfl, ?_⟩
          rw [decide_eq_true rfl]
          refine iteF ?_
          refine ⟨_, rfl, _, .ty "list", .type ty, _, bl, rfl, ClsV.ty "list", tb, kit_ty t6, _, rfl, _, .ty "list", .type ty, _, bl, rfl, ClsV.ty "list", ta, kit_ty t6, rfl, _, rfl, ?_⟩
          rw [decide_eq_true rfl]
          refine iteF ?_
          have sa : SqL K H a xs ∨ SqT K H a xs := t4.elim (fun z => .inl z.1) (fun z => .inr z.1)
          have sb : SqL K H b ys ∨ SqT K H b ys := t4.elim (fun z => .inl z.2) (fun z => .inr z.2)
          refine ⟨_, rfl, a, xs, rfl, sa, _, rfl, b, ys, rfl, sb, rfl, _, rfl, ?_⟩
          rw [len_bool hl]
          refine iteF ?_
          refine ⟨_, rfl, b, ys, rfl, sb, (ys.length : Int), rfl, by omega, by omega, fun D hD => ?_⟩
          rw [Int.toNat_natCast]
          refine lc_range (lo := 0) (n := ys.length) (fun i H' => Fr [] H H' ∧ H' D = some (.lst ((List.replicate i true).map V.bl))) ⟨Fr.new hD, upd_same⟩ ?_ ?_
          · rintro i H1 hil ⟨f, eD⟩
            have hx : xs[i]? = some (xs[i]'(by omega)) := List.getElem?_eq_getElem (by omega)
            have hy : ys[i]? = some ys[i] := List.getElem?_eq_getElem hil
            have ea : atI xs ((0 : Int) + (i : Int)) = some (xs[i]'(by omega)) := at_of (by omega) hx
            have eb : atI ys ((0 : Int) + (i : Int)) = some ys[i] := at_of (by omega) hy
            refine ⟨rfl, _, rfl, _, rfl, ?_⟩
            have step : ∀ H2, Fr [] H1 H2 → ∃ acc, H2 D = some (.lst acc) ∧ acc.length < sizeLine ∧ Fr [] H (upd H2 D (.lst (acc ++ [.bl true]))) ∧ (upd H2 D (.lst (acc ++ [V.bl true]))) D = some (.lst ((List.replicate (i + 1) true).map V.bl)) := fun H2 f2 => by
              refine ⟨_, f2 _ _ eD (by simp), ?_, ?_, ?_⟩
              · rw [List.length_map, List.length_replicate]
                exact sz_lt (by omega)
              · intro c o ec _
                rw [upd_ne (ne_of_none ec hD)]
                exact (f.trans f2) c o ec (by simp)
              · rw [upd_same, List.replicate_succ', List.map_append]
                rfl
            have fin : spEq n [xs[i]'(by omega), ys[i]] H1 (fun y H4 => ∃ acc, H4 D = some (.lst acc) ∧ acc.length < sizeLine ∧ Fr [] H (upd H4 D (.lst (acc ++ [y]))) ∧ (upd H4 D (.lst (acc ++ [y]))) D = some (.lst ((List.replicate (i + 1) true).map V.bl))) E0 :=
              ⟨_, _, rfl, (hi i _ _ hx hy).keep f, fun H2 f2 => step H2 f2⟩
            rcases t4 with ⟨s1, s2⟩ | ⟨s1, s2⟩
            · exact .inl ⟨a, xs, _, _, rfl, rfl, f.seq (by simp) s1, ea, _, rfl, _, rfl, .inl ⟨b, ys, _, _, rfl, rfl, f.seq (by simp) s2, eb, fin⟩⟩
            · exact .inr (.inl ⟨a, xs, _, _, rfl, rfl, f.tup (by simp) s1, ea, _, rfl, _, rfl, .inr (.inl ⟨b, ys, _, _, rfl, rfl, f.tup (by simp) s2, eb, fin⟩)⟩)
          · rintro H1 ⟨f, eD⟩
            refine ⟨D, List.replicate ys.length true, rfl, SqL.of eD, ?_⟩
            have : (List.replicate ys.length true).all id = true := by simp
            rw [this]
            exact k _ f
end
/-! ### kinds of an error -/
theorem kit_own {K : PySem.W.Frag} {C : Addr} {t : Value} {b : Bool} (hc : PySem.W.isClsIn K C = true) (ht : PySem.W.typeIn K (.ref C) = some (.type "type")) (hs : PySem.W.subIn K t (.ref C) = some b) (hne : (t == .ref C) = true → b = true) : PySem.W.kitOne K t (.ref C) = some b := by
  unfold PySem.W.kitOne
  split
  · rename_i e
    rw [hne e]
  · unfold PySem.W.kitCls
    have h1 : (PySem.W.clsIn K C).isSome = true := hc
    simp only [h1, ht, beq_self_eq_true, Bool.and_true, if_true]
    exact hs
theorem ne_of_sub {K : PySem.W.Frag} {D X : Addr} (h1 : PySem.W.subIn K (.ref D) (.ref X) = some false) (h2 : PySem.W.subIn K (.ref D) (.ref D) = some true) (e : (Value.ref D == Value.ref X) = true) : false = true := by
  have e' : D = X := by simpa using e
  rw [← e', h2] at h1
  cases h1
theorem kit_ve {K : PySem.W.Frag} {D : Addr} (h : PySem.W.subIn K (.ref D) (.type "ValueError") = some true) : PySem.W.kitOne K (.ref D) (.type "ValueError") = some true := by
  unfold PySem.W.kitOne
  rw [if_neg (by simp)]
  unfold PySem.W.kitCls
  simp only [h]
  first
    | rfl
    | simp
def suiteOf : List Stmt → List Stmt
  | .Try _ (.ExceptHandler _ _ s _ :: _) _ _ _ :: _ => s
  | _ => []
section
open PySem.W
theorem pe_isi {X : Cx} {D a C : Addr} {oe : Obj} {d : Option Addr} {i : Nat} {x c : Str} {b : Bool} {p p1 p2 pos : Pos} (hE : ExcC X.K D) (hC : Cgt X D a oe d) (hg : Gl X "isinstance") (hm : X.mg "isinstance" = none) (hN : X.N[i]? = some x) (hv : Vis X.env.scope x) (hgC : Gl X c) (hmC : X.mg c = some (.ref C)) (kit : kitOne X.K (.ref D) (.ref C) = some b)
    (hd : (x == ("__debug__" : Str)) = false := by decide) (hcd : (x == ("__classdict__" : Str)) = false := by decide) (hdc : (c == ("__debug__" : Str)) = false := by decide) : PE X (.Call (.Name "isinstance" p) [.Name x p1, .Name c p2] [] pos) (fun σ H Q => (σ[i]? = some (some (.ref a)) ∧ ∃ fs, FldsAt H d fs) ∧ Q (.bl b) H) := by
  refine ⟨fun pins s σ H Q I h => PE.run (pe_callB (call_isC hE hC) hg hm (by decide +kernel) (pa_cons (pe_var hN hv hd hcd) (pa_cons (pe_glob (v := .ref C) hgC hmC rfl hdc) pa_nil))) pins s σ H Q I ?_⟩
  obtain ⟨⟨h1, fs, hf⟩, q⟩ := h
  exact ⟨_, h1, _, .ref C, _, fs, rfl, hf, (fun _ z => z), kit, q⟩
end
/-! ### what the law's _law_error_of tells -/
def ENAMES : Str := (("size cell kept block value count slot word story off on nofast hasfast unsettled" : Str) ++ (" contradiction name unknown rules recipes requests prices plan" : Str)) ++ (" failed operation notation decode" : Str)
theorem new_at {H : Hp} {p : Addr} (_ : H p = none) (o : HO) : upd H p o p = some o := upd_same
theorem split_names : (Txt.split ENAMES " ") = ([("size" : Str), ("cell" : Str), ("kept" : Str), ("block" : Str), ("value" : Str), ("count" : Str), ("slot" : Str), ("word" : Str), ("story" : Str), ("off" : Str), ("on" : Str), ("nofast" : Str), ("hasfast" : Str), ("unsettled" : Str), ("contradiction" : Str), ("name" : Str), ("unknown" : Str), ("rules" : Str), ("recipes" : Str), ("requests" : Str), ("prices" : Str), ("plan" : Str), ("failed" : Str), ("operation" : Str), ("notation" : Str), ("decode" : Str)] : List Str) := by decide +kernel
theorem idx_first {ys : List V} {y : V} {j : Nat} (h : (ys.take j).all (fun z => !eqV z y) = true) : ∀ (m : Nat) (z' : V), m < j → ys[m]? = some z' → eqV z' y = false := fun m z' hm hz => by
  have e : (ys.take j)[m]? = some z' := by rw [List.getElem?_take_of_lt hm]; exact hz
  have q := List.all_eq_true.mp h z' (List.mem_of_getElem? e)
  simpa using q

section
variable {P : Program} {w : World} {K : PySem.W.Frag} {mg : Str → Option Value} {base : Heap}
/-- the ways in which a call that is asked about may end by an error -/
def ErrEnd (T : Gx K mg) (cls : Value) (d : Option Addr) (H : Hp) (Q : VK) : Prop :=
  (cls = .ref T.C_InvalidSize ∧ (∃ fs, FldsAt H d fs) ∧ ∀ (t : Addr) (H'' : Hp), H t = none → Fr [] H H'' → H'' t = some (.tup [.str "size", .int 0]) → Q (.ref t) H'')
theorem ok_told_InvalidSize (T : Gx K mg) {a : Addr} {oe : Obj} {d : Option Addr} (hz : L2N.Zn (.ref T.C_InvalidSize) d oe) (hf : ∃ vs, oe.data = .fields vs) : FnP P w K mg base C8.CX0 1 T.f__law_told_of (a, oe)
    (fun vs H Q _ => vs = [.ref a, .str "size"] ∧ ∀ (t : Addr) (H'' : Hp), H t = none → Fr [] H H'' → H'' t = some (.tup [.str "size", .int 0]) → Q (.ref t) H'') := by
  refine FunOkP T.F__law_told_of (b__law_told_of T) sc__law_told_of (fun vs H Q E h => by obtain ⟨rfl, _⟩ := h; rfl) (fun cdv A outer s H vs Q E hr h => ?_)
  have hC : ∀ {X : Cx}, X.pn = [(a, oe)] → Cgt X T.C_InvalidSize a oe d := fun e => ⟨by rw [e]; exact List.mem_cons_self, hz, hf⟩
  have hX : PySem.W.Frag → XfC K T.C_InvalidSize := fun _ => ⟨T.E_InvalidSize.hg, T.E_InvalidSize.hk, T.E_InvalidSize.hs, T.E_InvalidSize.hd⟩
  obtain ⟨rfl, k⟩ := h
  refine ⟨_, (pss_cons (ps_if (pt_cmpR op_eq (pv 1) pe_str (nomark _)) pss_never pss_nil) (pss_cons (ps_if (pt_cmpR op_eq (pv 1) pe_str (nomark _)) pss_never pss_nil) (pss_cons (ps_if (pt_cmpR op_in_seq (pv 1) (pe_lst (pa_cons pe_str (pa_cons pe_str (pa_cons pe_str pa_nil)))) (by rfl)) pss_never pss_nil) (pss_cons (ps_if (pt_cmpR op_eq (pv 1) pe_str (nomark _)) pss_never pss_nil) (pss_cons (ps_if (pt_cmpR op_eq (pv 1) pe_str (nomark _)) pss_never pss_nil) (pss_cons (ps_if (pt_cmpR op_eq (pv 1) pe_str (nomark _)) pss_never pss_nil) (pss_one (ps_ret (pe_tup (pa_cons (pv 1) (pa_cons (pe_ifExp (pt_cmpR op_eq (pv 1) pe_str (nomark _)) pe_never pe_int) pa_nil))))))))))), ?_⟩
  refine ⟨_, rfl, rfl, _, rfl, iteF ?_⟩
  refine ⟨_, rfl, rfl, _, rfl, iteF ?_⟩
  refine ⟨_, rfl, sz_le (by simp), fun g hg => ⟨g, _, rfl, .inl (SqL.of upd_same), rfl, rfl, _, rfl, ?_⟩⟩
  refine iteFb (by decide +kernel) ?_
  refine ⟨_, rfl, rfl, _, rfl, iteF ?_⟩
  refine ⟨_, rfl, rfl, _, rfl, iteF ?_⟩
  refine ⟨_, rfl, rfl, _, rfl, iteF ?_⟩
  refine ⟨_, rfl, _, rfl, rfl, _, rfl, iteF ?_⟩
  exact ⟨sz_le (by simp), fun t ht => k t _ (free_upd ht).1 ((Fr.new hg).trans (Fr.new ht)) upd_same⟩
def kinds_InvalidSize : List V := [.bl true, .bl false, .bl false, .bl false, .bl false, .bl false, .bl false, .bl false, .bl false, .bl false, .bl false, .bl false, .bl false, .bl false, .bl false, .bl false, .bl false, .bl false, .bl false, .bl false, .bl false, .bl false, .bl false, .bl false, .bl false, .bl false]
theorem kinds_InvalidSize_cnt : kinds_InvalidSize.countP (fun z => eqV z (.bl true)) = 1 := by decide +kernel
theorem kinds_InvalidSize_all : kinds_InvalidSize.all flatV = true := by decide +kernel
theorem kinds_InvalidSize_at : kinds_InvalidSize[0]? = some (.bl true) := by decide +kernel
theorem kinds_InvalidSize_fst : ∀ (m : Nat) (z' : V), m < 0 → kinds_InvalidSize[m]? = some z' → eqV z' (.bl true) = false := idx_first (by decide +kernel)
theorem suite_InvalidSize (T : Gx K mg) {A : Around} {outer : List Env} {s : Shared} {H0 : Hp} {E : XK} {cdv : Value} {a : Addr} {oe : Obj} {d : Option Addr} {pn : List (Addr × Obj)} (hr : Room 2 (A.deeper (PyProof.Rows.envOfC "_law_error_of" (defScope s__law_error_of) s.heap.objs.size T.f__law_error_of cdv))) (hz : L2N.Zn (.ref T.C_InvalidSize) d oe) (hf : ∃ vs, oe.data = .fields vs) :
    PSs ((cxOf C8.CX0 P w K mg base ["_law_call", "_law_e", "_law_kinds", "_law_names"] "_law_error_of" (defScope s__law_error_of) T.f__law_error_of cdv A outer s H0 E).suite a ((a, oe) :: pn)) (suiteOf (defBody s__law_error_of)) (fun D σ H => (∃ (x : V) (v2 v3 : Option V), σ = [some x, some (.ref a), v2, v3]) ∧ ((∃ fs, FldsAt H d fs) ∧ ∀ (t : Addr) (H'' : Hp), H t = none → Fr [] H H'' → H'' t = some (.tup [.str "size", .int 0]) → D.rt (.ref t) H'')) := by
  have hC : Cgt ((cxOf C8.CX0 P w K mg base ["_law_call", "_law_e", "_law_kinds", "_law_names"] "_law_error_of" (defScope s__law_error_of) T.f__law_error_of cdv A outer s H0 E).suite a ((a, oe) :: pn)) T.C_InvalidSize a oe d := ⟨List.mem_cons_self, hz, hf⟩
  have hE : ExcC ((cxOf C8.CX0 P w K mg base ["_law_call", "_law_e", "_law_kinds", "_law_names"] "_law_error_of" (defScope s__law_error_of) T.f__law_error_of cdv A outer s H0 E).suite a ((a, oe) :: pn)).K T.C_InvalidSize := T.E_InvalidSize
  have hT := ok_told_InvalidSize (P := P) (w := w) (base := base) T (a := a) hz hf
  have hHot : L2H.Hot1 ((cxOf C8.CX0 P w K mg base ["_law_call", "_law_e", "_law_kinds", "_law_names"] "_law_error_of" (defScope s__law_error_of) T.f__law_error_of cdv A outer s H0 E).suite a ((a, oe) :: pn)).A (a, oe) := ⟨rfl, by
    obtain ⟨vs, hv⟩ := hf
    exact ⟨vs, hv, hz.2.2 vs hv⟩⟩
  refine ⟨fun pins s' σ H D I h => PSs.run (C8.pss_cut (ps_set (i := 2) sc__law_error_of.nd rfl (.inl rfl) (pe_lst (pa_cons (pe_isi (i := 1) hE hC (by rfl) T.z_isinstance rfl (by first | exact Or.inl rfl | exact Or.inr (Or.inl rfl) | exact Or.inr (Or.inr rfl)) (by rfl) T.gC_InvalidSize (kit_own T.ic_InvalidSize T.ty_InvalidSize T.sb_InvalidSize_InvalidSize (fun _ => rfl))) (pa_cons (pe_isi (i := 1) hE hC (by rfl) T.z_isinstance rfl (by first | exact Or.inl rfl | exact Or.inr (Or.inl rfl) | exact Or.inr (Or.inr rfl)) (by rfl) T.gC_InvalidCell (kit_own T.ic_InvalidCell T.ty_InvalidCell T.sb_InvalidSize_InvalidCell (fun e => (ne_of_sub T.sb_InvalidSize_InvalidCell T.sb_InvalidSize_InvalidSize e)))) (pa_cons (pe_isi (i := 1) hE hC (by rfl) T.z_isinstance rfl (by first | exact Or.inl rfl | exact Or.inr (Or.inl rfl) | exact Or.inr (Or.inr rfl)) (by rfl) T.gC_InvalidKept (kit_own T.ic_InvalidKept T.ty_InvalidKept T.sb_InvalidSize_InvalidKept (fun e => (ne_of_sub T.sb_InvalidSize_InvalidKept T.sb_InvalidSize_InvalidSize e)))) pa_nil)))))
      (C8.pss_cut (ps_set (i := 2) sc__law_error_of.nd rfl (.inl rfl) (pe_op op_cat (pv 2) (pe_lst (pa_cons (pe_isi (i := 1) hE hC (by rfl) T.z_isinstance rfl (by first | exact Or.inl rfl | exact Or.inr (Or.inl rfl) | exact Or.inr (Or.inr rfl)) (by rfl) T.gC_InvalidBlock (kit_own T.ic_InvalidBlock T.ty_InvalidBlock T.sb_InvalidSize_InvalidBlock (fun e => (ne_of_sub T.sb_InvalidSize_InvalidBlock T.sb_InvalidSize_InvalidSize e)))) (pa_cons (pe_isi (i := 1) hE hC (by rfl) T.z_isinstance rfl (by first | exact Or.inl rfl | exact Or.inr (Or.inl rfl) | exact Or.inr (Or.inr rfl)) (by rfl) T.gC_InvalidValue (kit_own T.ic_InvalidValue T.ty_InvalidValue T.sb_InvalidSize_InvalidValue (fun e => (ne_of_sub T.sb_InvalidSize_InvalidValue T.sb_InvalidSize_InvalidSize e)))) (pa_cons (pe_isi (i := 1) hE hC (by rfl) T.z_isinstance rfl (by first | exact Or.inl rfl | exact Or.inr (Or.inl rfl) | exact Or.inr (Or.inr rfl)) (by rfl) T.gC_InvalidCount (kit_own T.ic_InvalidCount T.ty_InvalidCount T.sb_InvalidSize_InvalidCount (fun e => (ne_of_sub T.sb_InvalidSize_InvalidCount T.sb_InvalidSize_InvalidSize e)))) pa_nil))))))
      (C8.pss_cut (ps_set (i := 2) sc__law_error_of.nd rfl (.inl rfl) (pe_op op_cat (pv 2) (pe_lst (pa_cons (pe_isi (i := 1) hE hC (by rfl) T.z_isinstance rfl (by first | exact Or.inl rfl | exact Or.inr (Or.inl rfl) | exact Or.inr (Or.inr rfl)) (by rfl) T.gC_InvalidSlot (kit_own T.ic_InvalidSlot T.ty_InvalidSlot T.sb_InvalidSize_InvalidSlot (fun e => (ne_of_sub T.sb_InvalidSize_InvalidSlot T.sb_InvalidSize_InvalidSize e)))) (pa_cons (pe_isi (i := 1) hE hC (by rfl) T.z_isinstance rfl (by first | exact Or.inl rfl | exact Or.inr (Or.inl rfl) | exact Or.inr (Or.inr rfl)) (by rfl) T.gC_InvalidWord (kit_own T.ic_InvalidWord T.ty_InvalidWord T.sb_InvalidSize_InvalidWord (fun e => (ne_of_sub T.sb_InvalidSize_InvalidWord T.sb_InvalidSize_InvalidSize e)))) (pa_cons (pe_isi (i := 1) hE hC (by rfl) T.z_isinstance rfl (by first | exact Or.inl rfl | exact Or.inr (Or.inl rfl) | exact Or.inr (Or.inr rfl)) (by rfl) T.gC_InvalidStory (kit_own T.ic_InvalidStory T.ty_InvalidStory T.sb_InvalidSize_InvalidStory (fun e => (ne_of_sub T.sb_InvalidSize_InvalidStory T.sb_InvalidSize_InvalidSize e)))) pa_nil))))))
      (C8.pss_cut (ps_set (i := 2) sc__law_error_of.nd rfl (.inl rfl) (pe_op op_cat (pv 2) (pe_lst (pa_cons (pe_isi (i := 1) hE hC (by rfl) T.z_isinstance rfl (by first | exact Or.inl rfl | exact Or.inr (Or.inl rfl) | exact Or.inr (Or.inr rfl)) (by rfl) T.gC_PowerOff (kit_own T.ic_PowerOff T.ty_PowerOff T.sb_InvalidSize_PowerOff (fun e => (ne_of_sub T.sb_InvalidSize_PowerOff T.sb_InvalidSize_InvalidSize e)))) (pa_cons (pe_isi (i := 1) hE hC (by rfl) T.z_isinstance rfl (by first | exact Or.inl rfl | exact Or.inr (Or.inl rfl) | exact Or.inr (Or.inr rfl)) (by rfl) T.gC_PowerOn (kit_own T.ic_PowerOn T.ty_PowerOn T.sb_InvalidSize_PowerOn (fun e => (ne_of_sub T.sb_InvalidSize_PowerOn T.sb_InvalidSize_InvalidSize e)))) (pa_cons (pe_isi (i := 1) hE hC (by rfl) T.z_isinstance rfl (by first | exact Or.inl rfl | exact Or.inr (Or.inl rfl) | exact Or.inr (Or.inr rfl)) (by rfl) T.gC_NoFastDisk (kit_own T.ic_NoFastDisk T.ty_NoFastDisk T.sb_InvalidSize_NoFastDisk (fun e => (ne_of_sub T.sb_InvalidSize_NoFastDisk T.sb_InvalidSize_InvalidSize e)))) pa_nil))))))
      (C8.pss_cut (ps_set (i := 2) sc__law_error_of.nd rfl (.inl rfl) (pe_op op_cat (pv 2) (pe_lst (pa_cons (pe_isi (i := 1) hE hC (by rfl) T.z_isinstance rfl (by first | exact Or.inl rfl | exact Or.inr (Or.inl rfl) | exact Or.inr (Or.inr rfl)) (by rfl) T.gC_HasFastDisk (kit_own T.ic_HasFastDisk T.ty_HasFastDisk T.sb_InvalidSize_HasFastDisk (fun e => (ne_of_sub T.sb_InvalidSize_HasFastDisk T.sb_InvalidSize_InvalidSize e)))) (pa_cons (pe_isi (i := 1) hE hC (by rfl) T.z_isinstance rfl (by first | exact Or.inl rfl | exact Or.inr (Or.inl rfl) | exact Or.inr (Or.inr rfl)) (by rfl) T.gC_Unsettled (kit_own T.ic_Unsettled T.ty_Unsettled T.sb_InvalidSize_Unsettled (fun e => (ne_of_sub T.sb_InvalidSize_Unsettled T.sb_InvalidSize_InvalidSize e)))) (pa_cons (pe_isi (i := 1) hE hC (by rfl) T.z_isinstance rfl (by first | exact Or.inl rfl | exact Or.inr (Or.inl rfl) | exact Or.inr (Or.inr rfl)) (by rfl) T.gC_Contradiction (kit_own T.ic_Contradiction T.ty_Contradiction T.sb_InvalidSize_Contradiction (fun e => (ne_of_sub T.sb_InvalidSize_Contradiction T.sb_InvalidSize_InvalidSize e)))) pa_nil))))))
      (C8.pss_cut (ps_set (i := 2) sc__law_error_of.nd rfl (.inl rfl) (pe_op op_cat (pv 2) (pe_lst (pa_cons (pe_isi (i := 1) hE hC (by rfl) T.z_isinstance rfl (by first | exact Or.inl rfl | exact Or.inr (Or.inl rfl) | exact Or.inr (Or.inr rfl)) (by rfl) T.gC_InvalidName (kit_own T.ic_InvalidName T.ty_InvalidName T.sb_InvalidSize_InvalidName (fun e => (ne_of_sub T.sb_InvalidSize_InvalidName T.sb_InvalidSize_InvalidSize e)))) (pa_cons (pe_isi (i := 1) hE hC (by rfl) T.z_isinstance rfl (by first | exact Or.inl rfl | exact Or.inr (Or.inl rfl) | exact Or.inr (Or.inr rfl)) (by rfl) T.gC_UnknownName (kit_own T.ic_UnknownName T.ty_UnknownName T.sb_InvalidSize_UnknownName (fun e => (ne_of_sub T.sb_InvalidSize_UnknownName T.sb_InvalidSize_InvalidSize e)))) (pa_cons (pe_isi (i := 1) hE hC (by rfl) T.z_isinstance rfl (by first | exact Or.inl rfl | exact Or.inr (Or.inl rfl) | exact Or.inr (Or.inr rfl)) (by rfl) T.gC_InvalidRules (kit_own T.ic_InvalidRules T.ty_InvalidRules T.sb_InvalidSize_InvalidRules (fun e => (ne_of_sub T.sb_InvalidSize_InvalidRules T.sb_InvalidSize_InvalidSize e)))) pa_nil))))))
      (C8.pss_cut (ps_set (i := 2) sc__law_error_of.nd rfl (.inl rfl) (pe_op op_cat (pv 2) (pe_lst (pa_cons (pe_isi (i := 1) hE hC (by rfl) T.z_isinstance rfl (by first | exact Or.inl rfl | exact Or.inr (Or.inl rfl) | exact Or.inr (Or.inr rfl)) (by rfl) T.gC_InvalidRecipes (kit_own T.ic_InvalidRecipes T.ty_InvalidRecipes T.sb_InvalidSize_InvalidRecipes (fun e => (ne_of_sub T.sb_InvalidSize_InvalidRecipes T.sb_InvalidSize_InvalidSize e)))) (pa_cons (pe_isi (i := 1) hE hC (by rfl) T.z_isinstance rfl (by first | exact Or.inl rfl | exact Or.inr (Or.inl rfl) | exact Or.inr (Or.inr rfl)) (by rfl) T.gC_InvalidRequests (kit_own T.ic_InvalidRequests T.ty_InvalidRequests T.sb_InvalidSize_InvalidRequests (fun e => (ne_of_sub T.sb_InvalidSize_InvalidRequests T.sb_InvalidSize_InvalidSize e)))) (pa_cons (pe_isi (i := 1) hE hC (by rfl) T.z_isinstance rfl (by first | exact Or.inl rfl | exact Or.inr (Or.inl rfl) | exact Or.inr (Or.inr rfl)) (by rfl) T.gC_InvalidPrices (kit_own T.ic_InvalidPrices T.ty_InvalidPrices T.sb_InvalidSize_InvalidPrices (fun e => (ne_of_sub T.sb_InvalidSize_InvalidPrices T.sb_InvalidSize_InvalidSize e)))) pa_nil))))))
      (C8.pss_cut (ps_set (i := 2) sc__law_error_of.nd rfl (.inl rfl) (pe_op op_cat (pv 2) (pe_lst (pa_cons (pe_isi (i := 1) hE hC (by rfl) T.z_isinstance rfl (by first | exact Or.inl rfl | exact Or.inr (Or.inl rfl) | exact Or.inr (Or.inr rfl)) (by rfl) T.gC_InvalidPlan (kit_own T.ic_InvalidPlan T.ty_InvalidPlan T.sb_InvalidSize_InvalidPlan (fun e => (ne_of_sub T.sb_InvalidSize_InvalidPlan T.sb_InvalidSize_InvalidSize e)))) (pa_cons (pe_isi (i := 1) hE hC (by rfl) T.z_isinstance rfl (by first | exact Or.inl rfl | exact Or.inr (Or.inl rfl) | exact Or.inr (Or.inr rfl)) (by rfl) T.gC_PowerFailed (kit_own T.ic_PowerFailed T.ty_PowerFailed T.sb_InvalidSize_PowerFailed (fun e => (ne_of_sub T.sb_InvalidSize_PowerFailed T.sb_InvalidSize_InvalidSize e)))) (pa_cons (pe_isi (i := 1) hE hC (by rfl) T.z_isinstance rfl (by first | exact Or.inl rfl | exact Or.inr (Or.inl rfl) | exact Or.inr (Or.inr rfl)) (by rfl) T.gC_InvalidOperation (kit_own T.ic_InvalidOperation T.ty_InvalidOperation T.sb_InvalidSize_InvalidOperation (fun e => (ne_of_sub T.sb_InvalidSize_InvalidOperation T.sb_InvalidSize_InvalidSize e)))) pa_nil))))))
      (C8.pss_cut (ps_set (i := 2) sc__law_error_of.nd rfl (.inl rfl) (pe_op op_cat (pv 2) (pe_lst (pa_cons (pe_isi (i := 1) hE hC (by rfl) T.z_isinstance rfl (by first | exact Or.inl rfl | exact Or.inr (Or.inl rfl) | exact Or.inr (Or.inr rfl)) (by rfl) T.gC_NotationError (kit_own T.ic_NotationError T.ty_NotationError T.sb_InvalidSize_NotationError (fun e => (ne_of_sub T.sb_InvalidSize_NotationError T.sb_InvalidSize_InvalidSize e)))) (pa_cons (pe_isi (i := 1) hE hC (by rfl) T.z_isinstance rfl (by first | exact Or.inl rfl | exact Or.inr (Or.inl rfl) | exact Or.inr (Or.inr rfl)) (by rfl) T.gC_DecodeError (kit_own T.ic_DecodeError T.ty_DecodeError T.sb_InvalidSize_DecodeError (fun e => (ne_of_sub T.sb_InvalidSize_DecodeError T.sb_InvalidSize_InvalidSize e)))) pa_nil)))))
      (pss_cons (ps_if (PW.pt (pw_or (pt_cmpR op_ne (pe_bm PySem.F.plainAttrs_list PySem.F.slot_list_count PySem.F.type_list_count mt_lcountV (pv 2) (pa_cons pe_bl pa_nil)) pe_int (nomark _)) (pw_or1 (pt_not (pt_val (pe_callB (call_isC hE hC) (by rfl) T.z_isinstance (by decide +kernel) (pa_cons (pv 1) (pa_cons (pe_bltn (v := .ty "ValueError") (by rfl) T.z_ValueError (by decide +kernel) rfl) pa_nil)))))))) (pss_one (ps_ret (pe_tup (pa_cons pe_str (pa_cons pe_int pa_nil))))) pss_nil)
      (pss_cons (ps_set (i := 3) sc__law_error_of.nd rfl (.inl rfl) pe_str)
      (pss_cons (ps_set (i := 3) sc__law_error_of.nd rfl (.inl rfl) (pe_op op_add_str (pv 3) pe_str))
      (pss_cons (ps_set (i := 3) sc__law_error_of.nd rfl (.inl rfl) (pe_op op_add_str (pv 3) pe_str))
      (pss_one (ps_ret (pe_callP hT (L2H.roomH_mark (hr.mono (by first | decide | omega)) _) hHot List.mem_cons_self (by rfl) T.g__law_told_of T.F__law_told_of.kp (pa_cons (pv 1) (pa_cons (pe_ix ix_list (pe_bm PySem.F.plainAttrs_str PySem.F.slot_str_split PySem.F.type_str_split mt_split (pv 3) (pa_cons pe_str pa_nil)) (pe_bm PySem.F.plainAttrs_list PySem.F.slot_list_index PySem.F.type_list_index mt_index (pv 2) (pa_cons pe_bl pa_nil)) (fun _ _ => rfl)) pa_nil)))))))))))))))))) pins s' σ H D I ?_⟩
  obtain ⟨⟨x, v2, v3, rfl⟩, ⟨fs, hfl⟩, k⟩ := h
  have F0 := Fr.refl [] H
  refine ⟨fun σ' H' => ∃ k : Addr, σ' = [some x, some (.ref a), some (.ref k), v3] ∧ Fr [] H H' ∧ FldsAt H' d fs ∧ H' k = some (.lst (kinds_InvalidSize.take 3)), ?_, ?_⟩
  · exact ⟨⟨rfl, _, hfl⟩, ⟨⟨rfl, _, hfl⟩, ⟨⟨rfl, _, hfl⟩, ⟨sz_le (by decide), fun q hq => ⟨q, rfl, Fr.new hq, FldsAt.keep (S := []) hfl (Fr.new hq) (by simp), upd_same⟩⟩⟩⟩⟩
  rintro _ G1 ⟨k1, rfl, F1, h1, r1⟩
  refine ⟨fun σ' H' => ∃ k : Addr, σ' = [some x, some (.ref a), some (.ref k), v3] ∧ Fr [] H H' ∧ FldsAt H' d fs ∧ H' k = some (.lst (kinds_InvalidSize.take 6)), ?_, ?_⟩
  · exact ⟨_, rfl, ⟨⟨rfl, _, h1⟩, ⟨⟨rfl, _, h1⟩, ⟨⟨rfl, _, h1⟩, ⟨sz_le (by decide), fun q hq => ⟨k1, q, _, _, rfl, rfl, (upd_ne (ne_of_none r1 hq)).trans r1, upd_same, sz_le (by decide), fun k' hk' => ⟨k', rfl, (F1.trans (Fr.new hq)).trans (Fr.new hk'), FldsAt.keep (S := []) (FldsAt.keep (S := []) h1 (Fr.new hq) (by simp)) (Fr.new hk') (by simp), upd_same⟩⟩⟩⟩⟩⟩⟩
  rintro _ G2 ⟨k2, rfl, F2, h2, r2⟩
  refine ⟨fun σ' H' => ∃ k : Addr, σ' = [some x, some (.ref a), some (.ref k), v3] ∧ Fr [] H H' ∧ FldsAt H' d fs ∧ H' k = some (.lst (kinds_InvalidSize.take 9)), ?_, ?_⟩
  · exact ⟨_, rfl, ⟨⟨rfl, _, h2⟩, ⟨⟨rfl, _, h2⟩, ⟨⟨rfl, _, h2⟩, ⟨sz_le (by decide), fun q hq => ⟨k2, q, _, _, rfl, rfl, (upd_ne (ne_of_none r2 hq)).trans r2, upd_same, sz_le (by decide), fun k' hk' => ⟨k', rfl, (F2.trans (Fr.new hq)).trans (Fr.new hk'), FldsAt.keep (S := []) (FldsAt.keep (S := []) h2 (Fr.new hq) (by simp)) (Fr.new hk') (by simp), upd_same⟩⟩⟩⟩⟩⟩⟩
  rintro _ G3 ⟨k3, rfl, F3, h3, r3⟩
  refine ⟨fun σ' H' => ∃ k : Addr, σ' = [some x, some (.ref a), some (.ref k), v3] ∧ Fr [] H H' ∧ FldsAt H' d fs ∧ H' k = some (.lst (kinds_InvalidSize.take 12)), ?_, ?_⟩
  · exact ⟨_, rfl, ⟨⟨rfl, _, h3⟩, ⟨⟨rfl, _, h3⟩, ⟨⟨rfl, _, h3⟩, ⟨sz_le (by decide), fun q hq => ⟨k3, q, _, _, rfl, rfl, (upd_ne (ne_of_none r3 hq)).trans r3, upd_same, sz_le (by decide), fun k' hk' => ⟨k', rfl, (F3.trans (Fr.new hq)).trans (Fr.new hk'), FldsAt.keep (S := []) (FldsAt.keep (S := []) h3 (Fr.new hq) (by simp)) (Fr.new hk') (by simp), upd_same⟩⟩⟩⟩⟩⟩⟩
  rintro _ G4 ⟨k4, rfl, F4, h4, r4⟩
  refine ⟨fun σ' H' => ∃ k : Addr, σ' = [some x, some (.ref a), some (.ref k), v3] ∧ Fr [] H H' ∧ FldsAt H' d fs ∧ H' k = some (.lst (kinds_InvalidSize.take 15)), ?_, ?_⟩
  · exact ⟨_, rfl, ⟨⟨rfl, _, h4⟩, ⟨⟨rfl, _, h4⟩, ⟨⟨rfl, _, h4⟩, ⟨sz_le (by decide), fun q hq => ⟨k4, q, _, _, rfl, rfl, (upd_ne (ne_of_none r4 hq)).trans r4, upd_same, sz_le (by decide), fun k' hk' => ⟨k', rfl, (F4.trans (Fr.new hq)).trans (Fr.new hk'), FldsAt.keep (S := []) (FldsAt.keep (S := []) h4 (Fr.new hq) (by simp)) (Fr.new hk') (by simp), upd_same⟩⟩⟩⟩⟩⟩⟩
  rintro _ G5 ⟨k5, rfl, F5, h5, r5⟩
  refine ⟨fun σ' H' => ∃ k : Addr, σ' = [some x, some (.ref a), some (.ref k), v3] ∧ Fr [] H H' ∧ FldsAt H' d fs ∧ H' k = some (.lst (kinds_InvalidSize.take 18)), ?_, ?_⟩
  · exact ⟨_, rfl, ⟨⟨rfl, _, h5⟩, ⟨⟨rfl, _, h5⟩, ⟨⟨rfl, _, h5⟩, ⟨sz_le (by decide), fun q hq => ⟨k5, q, _, _, rfl, rfl, (upd_ne (ne_of_none r5 hq)).trans r5, upd_same, sz_le (by decide), fun k' hk' => ⟨k', rfl, (F5.trans (Fr.new hq)).trans (Fr.new hk'), FldsAt.keep (S := []) (FldsAt.keep (S := []) h5 (Fr.new hq) (by simp)) (Fr.new hk') (by simp), upd_same⟩⟩⟩⟩⟩⟩⟩
  rintro _ G6 ⟨k6, rfl, F6, h6, r6⟩
  refine ⟨fun σ' H' => ∃ k : Addr, σ' = [some x, some (.ref a), some (.ref k), v3] ∧ Fr [] H H' ∧ FldsAt H' d fs ∧ H' k = some (.lst (kinds_InvalidSize.take 21)), ?_, ?_⟩
  · exact ⟨_, rfl, ⟨⟨rfl, _, h6⟩, ⟨⟨rfl, _, h6⟩, ⟨⟨rfl, _, h6⟩, ⟨sz_le (by decide), fun q hq => ⟨k6, q, _, _, rfl, rfl, (upd_ne (ne_of_none r6 hq)).trans r6, upd_same, sz_le (by decide), fun k' hk' => ⟨k', rfl, (F6.trans (Fr.new hq)).trans (Fr.new hk'), FldsAt.keep (S := []) (FldsAt.keep (S := []) h6 (Fr.new hq) (by simp)) (Fr.new hk') (by simp), upd_same⟩⟩⟩⟩⟩⟩⟩
  rintro _ G7 ⟨k7, rfl, F7, h7, r7⟩
  refine ⟨fun σ' H' => ∃ k : Addr, σ' = [some x, some (.ref a), some (.ref k), v3] ∧ Fr [] H H' ∧ FldsAt H' d fs ∧ H' k = some (.lst (kinds_InvalidSize.take 24)), ?_, ?_⟩
  · exact ⟨_, rfl, ⟨⟨rfl, _, h7⟩, ⟨⟨rfl, _, h7⟩, ⟨⟨rfl, _, h7⟩, ⟨sz_le (by decide), fun q hq => ⟨k7, q, _, _, rfl, rfl, (upd_ne (ne_of_none r7 hq)).trans r7, upd_same, sz_le (by decide), fun k' hk' => ⟨k', rfl, (F7.trans (Fr.new hq)).trans (Fr.new hk'), FldsAt.keep (S := []) (FldsAt.keep (S := []) h7 (Fr.new hq) (by simp)) (Fr.new hk') (by simp), upd_same⟩⟩⟩⟩⟩⟩⟩
  rintro _ G8 ⟨k8, rfl, F8, h8, r8⟩
  refine ⟨fun σ' H' => ∃ k : Addr, σ' = [some x, some (.ref a), some (.ref k), v3] ∧ Fr [] H H' ∧ FldsAt H' d fs ∧ H' k = some (.lst (kinds_InvalidSize.take 26)), ?_, ?_⟩
  · exact ⟨_, rfl, ⟨⟨rfl, _, h8⟩, ⟨⟨rfl, _, h8⟩, ⟨sz_le (by decide), fun q hq => ⟨k8, q, _, _, rfl, rfl, (upd_ne (ne_of_none r8 hq)).trans r8, upd_same, sz_le (by decide), fun k' hk' => ⟨k', rfl, (F8.trans (Fr.new hq)).trans (Fr.new hk'), FldsAt.keep (S := []) (FldsAt.keep (S := []) h8 (Fr.new hq) (by simp)) (Fr.new hk') (by simp), upd_same⟩⟩⟩⟩⟩⟩
  rintro _ G9 ⟨k9, rfl, F9, h9, r9⟩
  have rk : G9 k9 = some (HO.lst kinds_InvalidSize) := r9
  refine ⟨_, rfl, .inl ⟨rfl, _, SqL.of rk⟩, k9, kinds_InvalidSize, .bl true, rfl, rfl, SqL.of rk, rfl, kinds_InvalidSize_all, ?_⟩
  rw [kinds_InvalidSize_cnt]
  refine ⟨rfl, _, rfl, iteF ?_⟩
  refine ⟨_, rfl, _, .type "ValueError", true, _, rfl, h9, (fun _ z => z), kit_ve T.vb_InvalidSize, _, rfl, iteF ?_⟩
  refine ⟨_, rfl, _, _, rfl, rfl, sz_le (by decide), ?_⟩
  refine ⟨_, rfl, _, _, rfl, rfl, sz_le (by decide), ?_⟩
  refine ⟨_, rfl, _, rfl, rfl, _, _, rfl, rfl, by decide +kernel, sz_le (by decide +kernel), fun z hz' => ?_⟩
  have rz := (upd_ne (o := .lst ((Txt.split ENAMES " ").map V.str)) (ne_of_none rk hz')).trans rk
  refine ⟨_, rfl, .inl ⟨rfl, _, SqL.of rz⟩, k9, kinds_InvalidSize, .bl true, 0, .bl true, rfl, rfl, SqL.of rz, rfl, kinds_InvalidSize_all, kinds_InvalidSize_at, rfl, kinds_InvalidSize_fst, ?_⟩
  refine ⟨z, _, (0 : Int), .str "size", rfl, rfl, SqL.of upd_same, atI_nat (j := 0) (by show ((Txt.split ENAMES " ").map V.str)[0]? = _; rw [split_names]; rfl), rfl, ?_⟩
  have hZ := FldsAt.keep (S := []) h9 (Fr.new (o := .lst ((Txt.split ENAMES " ").map V.str)) hz') (by simp)
  have FZ := F9.trans (Fr.new (o := .lst ((Txt.split ENAMES " ").map V.str)) hz')
  exact fun t H'' ht f et => k t H'' (some_of FZ (by simp) ht) (FZ.trans f) et
end
theorem takesN0 {X : Cx} : L2N.Takes X (fun _ _ _ _ => False) := fun _ _ x => by
  obtain ⟨_, _, _, _, _, _, _, _, _, _, _, _, _, _, _, _, z⟩ := x
  exact z.elim
section
variable {P : Program} {w : World} {K : PySem.W.Frag} {mg : Str → Option Value} {base : Heap}
theorem ErrEnd.pair {T : Gx K mg} {cls : Value} {d : Option Addr} {H : Hp} {Q : VK} (h : ErrEnd T cls d H Q) : PySem.W.exmOne K cls (.ref T.C_PairError) = some true := by
  rcases h with ⟨rfl, _⟩
  · exact PySem.W.exm_ref T.pb T.ph T.ty_PairError T.sb_InvalidSize_PairError
def spErr (P : Program) (w : World) (base : Heap) (T : Gx K mg) : SpS := fun vs outer s H Q _ => ∃ (f : Addr) (F : LF) (fr : List Str) (ws : List (Option V)) (lp : List (Option V) → Hp → VK → XK → Prop), vs = [.ref f] ∧ LOk P w K mg base (L2N.CX P w) 8 f F fr lp ∧ Act f F fr ws (frs outer) s H ∧
  ∀ (Q' : VK) (E' : XK), (∀ v H', Q .non H' → Q' v H') → (∀ cls d H', ErrEnd T cls d H' Q → E' cls d H') → lp ws H Q' E'
theorem ok_errorOf (T : Gx K mg) : FnS P w K mg base C8.CX0 10 T.f__law_error_of ["_law_call"] (spErr P w base T) := by
  refine FunOkS T.F__law_error_of (b__law_error_of T) sc__law_error_of (fun vs o s H Q E h => by obtain ⟨f, F, fr, ws, lp, rfl, _⟩ := h; rfl) (fun cdv A outer s H vs Q E hr h => ?_)
  obtain ⟨f, F, fr, ws, lp, rfl, L, a0, hlp⟩ := h
  refine ⟨_, pss_cons (L2N.ps_try_as (i := 1) (c := .ref T.C_PairError) (Wout := fun _ _ _ _ => False) (ts := fun a cls d D σ H => (∃ (x : V) (v2 v3 : Option V), σ = [some x, some (.ref a), v2, v3]) ∧ ErrEnd T cls d H D.rt) rfl rfl sc__law_error_of.nd rfl rfl ⟨by rfl, by decide, .inl T.gC_PairError⟩ takesN0
    (fun W pn xe tk po => pss_one (ps_expr (pe_act (i := 0) L a0 rfl (hr.mono (by decide)) (fun σ => L2N.passAt tk σ) rfl (by first | exact Or.inl rfl | exact Or.inr (Or.inl rfl) | exact Or.inr (Or.inr rfl)))))
    (fun a oe cls d pn hz hf => ⟨fun pins s' σ H' D I h => ?_⟩)) (pss_one (ps_ret pe_non)), ?_⟩
  · obtain ⟨hσ, h⟩ := h
    rcases h with ⟨rfl, hf', k⟩
    · exact (suite_InvalidSize T (hr.mono (by decide)) hz hf).run pins s' σ H' D I ⟨hσ, hf', k⟩
  · refine ⟨rfl, a0.lv, hlp _ _ (fun v H' q => q) (fun cls d H' he => ⟨true, he.pair, fun _ a ha => ⟨⟨.ref f, none, none, rfl⟩, he⟩, fun z => by cases z⟩)⟩
end
/-! ### an own exception without fields, its text written with values -/
section
open PySem PySem.Spec PySem.Calls PyProof.Rows L2
/-- the class called with one value, wherever that came from -/
theorem ownJ_end {X : Cx} {C : Addr} {bs : List Value} {B mk ini : String} {pins : List (Addr × Obj)} {σ : L2.St} {H : Hp} {s : Shared} {Q : XK} {u : Value} (fb : ExcBaseFacts B mk ini bs) (isx : PySem.W.excIn X.K C bs mk = true) (ra : Raises X (.ref C)) (J : Inv X pins σ H s) (q : Q (.ref C) none H) :
    wpAny (model X.prog X.w) X.A (call (.ref C) [u]) (L2N.MkP X pins σ Q) X.xe s := by
  obtain ⟨_, _, _, _, _, _, _, _, _, _, _, _, _, _, _, _, _, eC, eN, nN, tl⟩ := L2.exc_obj J.kIn isx
  have one : ([u] : List Value).length ≤ sizeLine := by
    rw [sizeLine_eq]
    exact Nat.succ_le_of_lt (by decide : 0 < 16777216)
  exact wpAny_call_exc_subT fb tl eC eN nN (fun hh e mh => L2N.mk_of J mh ra q (J.hok.gone mh.new)) one
theorem ownJ {X : Cx} {C : Addr} {bs : List Value} {B mk ini : String} {x : Str} {e : Expr} {ta : TE} {p pos : Pos} (fb : ExcBaseFacts B mk ini bs) (isx : PySem.W.excIn X.K C bs mk = true) (gC : X.mg x = some (.ref C)) (kC : PySem.W.keepIn X.K (.ref C) = true) (ra : Raises X (.ref C)) (hg : Gl X x)
    (he : PE X e ta) (hs : starEach [e] X.env = (false, eval e X.env) :: starEach [] X.env := by rfl) (hdb : (x == ("__debug__" : Str)) = false := by decide) :
    L2N.PMk X (.Call (.Name x p) [e] [] pos) (fun σ H Q => ta σ H fun _ H1 => Q (.ref C) none H1) := fun pins s σ H Q I h => by
  have args := he.run pins s σ H _ I h
  have tail : wpAny (model X.prog X.w) X.A (spliced (backTo pos (starEach [e] X.env))) (fun us s1 => X.K.In s1.heap ∧ wpAny (model X.prog X.w) X.A (call (.ref C) us) (L2N.MkP X pins σ Q) X.xe s1) X.xe s := by
    rw [hs]
    exact Calls.spliced_cons (thn args fun u s1 got => by
      obtain ⟨v, H1, J, _, q⟩ := got
      exact Calls.spliced_nil ⟨J.kIn, ownJ_end fb isx ra J q⟩)
  exact wpAny_Call_Name_kw (ld_glob I hg gC (PySem.W.callWith_K (h₀ := X.base) I.ok.mod.kin kC tail hs (by rfl)) hdb)
end
/-! ### sizes that cannot be -/
def spChkB (X : Addr) : Sp := fun vs H _ E => ∃ v : V, vs = [v, .int 16] ∧ FlatE v ∧ numV v 1 16 = false ∧ ∀ H', Fr [] H H' → E (.ref X) none H'
def spLogB (X : Addr) : Sp := fun vs H _ E => ∃ v u : V, vs = [v, u] ∧ FlatE v ∧ numV v 1 16 = false ∧ ∀ H', Fr [] H H' → E (.ref X) none H'
section
variable {P : Program} {w : World} {K : PySem.W.Frag} {mg : Str → Option Value} {base : Heap}
theorem ok_chkBad (T : Gx K mg) : FnOk P w K mg base (L2N.CX P w) 4 T.f_check_blocks T.fd_check_blocks ["blocks", "most"] (spChkB T.C_InvalidSize) := by
  have G_is_number_from : FnOk P w K mg base CX0 2 T.f_is_number_from T.fd_is_number_from ["thing", "least", "most"] spNumB := ok_numB T
  refine T.F_check_blocks.ok sc_check_blocks (fun vs H Q E h => ?_) (fun cdv A outer s H vs Q E hr h => ?_)
  · obtain ⟨v, rfl, _⟩ := h
    rfl
  · obtain ⟨v, rfl, hf, hv, k⟩ := h
    refine ⟨_, (pss_one (ps_if (pt_not (pt_val (pe_call G_is_number_from (hr.mono (by first | decide | omega)) (by rfl) T.g_is_number_from T.F_is_number_from.kp (b_is_number_from T) .nil pass0 (pa_cons (pv 0) (pa_cons pe_int (pa_cons (pv 1) pa_nil)))))) (pss_one (L2N.ps_raise rfl (L2N.takes_of rfl rfl rfl rfl) (ownJ PySem.F.excBase_ValueError T.pl_InvalidSize T.gC_InvalidSize T.kp_InvalidSize (raises_own T.E_InvalidSize.hs T.ty_InvalidSize) (by rfl) (pe_joined (.cons pe_str (.cons (pe_fmt (pv 1)) (.cons pe_str .nil))))))) pss_nil)), ?_⟩
    refine ⟨_, rfl, _, rfl, v, 1, 16, rfl, hf, ?_⟩
    rw [hv]
    refine ⟨_, rfl, ?_⟩
    exact iteT ⟨_, rfl, by decide +kernel, _, rfl, .inr ⟨16, rfl, by decide +kernel, _, rfl, by decide +kernel, _, rfl, by decide +kernel, k _ (Fr.refl _ _)⟩⟩
theorem ok_walkBad (T : Gx K mg) : FnOk P w K mg base (L2N.CX P w) 5 T.f__walk T.fd__walk ["blocks", "log"] (spLogB T.C_InvalidSize) := by
  have G_check_blocks := ok_chkBad (P := P) (w := w) (base := base) T
  obtain ⟨dsB, rdB, bB⟩ := T.F_check_blocks.binds1 (ps := ["blocks", "most"]) 1 0 (by simp) rfl (fun U kV doc pm an cdv ct us its hu hi => match us, hu, its, hi with
    | [_], _, [_], _ => ⟨_, rfl, rfl⟩)
  refine FunOkC T.F__walk sc__walk (fun vs H Q E h => ?_) (fun cdv A outer s H vs Q E hr h => ?_)
  · obtain ⟨v, u, rfl, _⟩ := h
    rfl
  · obtain ⟨v, u, rfl, hf, hv, k⟩ := h
    refine ⟨_, (pss_cons (ps_expr (pe_call G_check_blocks (hr.mono (by first | decide | omega)) (by rfl) T.g_check_blocks T.F_check_blocks.kp bB rdB (L2N.passes_call (L2N.takes_of rfl rfl rfl rfl) (fun _ _ _ _ h => h)) (pa_cons (pv 0) pa_nil))) pss_never), ?_⟩
    exact ⟨_, rfl, v, rfl, hf, hv, k⟩
theorem ok_firstBad (T : Gx K mg) : FnOk P w K mg base (L2N.CX P w) 6 T.f_first_error T.fd_first_error ["blocks", "log"] (spLogB T.C_InvalidSize) := by
  have G__walk := ok_walkBad (P := P) (w := w) (base := base) T
  refine FunOkC T.F_first_error sc_first_error (fun vs H Q E h => ?_) (fun cdv A outer s H vs Q E hr h => ?_)
  · obtain ⟨v, u, rfl, _⟩ := h
    rfl
  · obtain ⟨v, u, rfl, hf, hv, k⟩ := h
    refine ⟨_, (pss_cons (ps_ret (pe_ix ix_tup (pe_call G__walk (hr.mono (by first | decide | omega)) (by rfl) T.g__walk T.F__walk.kp (b__walk T) .nil (L2N.passes_call (L2N.takes_of rfl rfl rfl rfl) (fun _ _ _ _ h => h)) (pa_cons (pv 0) (pa_cons (pv 1) pa_nil))) pe_int (fun _ _ => rfl))) pss_never), ?_⟩
    exact ⟨_, rfl, _, rfl, v, u, rfl, hf, hv, k⟩
theorem ok_possBad (T : Gx K mg) : FnOk P w K mg base (L2N.CX P w) 6 T.f_possible_values T.fd_possible_values ["blocks", "log"] (spLogB T.C_InvalidSize) := by
  have G__walk := ok_walkBad (P := P) (w := w) (base := base) T
  refine FunOkC T.F_possible_values sc_possible_values (fun vs H Q E h => ?_) (fun cdv A outer s H vs Q E hr h => ?_)
  · obtain ⟨v, u, rfl, _⟩ := h
    rfl
  · obtain ⟨v, u, rfl, hf, hv, k⟩ := h
    refine ⟨_, (pss_cons (ps_asg (pe_call G__walk (hr.mono (by first | decide | omega)) (by rfl) T.g__walk T.F__walk.kp (b__walk T) .nil (L2N.passes_call (L2N.takes_of rfl rfl rfl rfl) (fun _ _ _ _ h => h)) (pa_cons (pv 0) (pa_cons (pv 1) pa_nil))) (pg_tup (by rfl) (pgs_cons (pg_name (i := 2) sc_possible_values.nd rfl (.inl rfl)) (pgs_cons (pg_name (i := 3) sc_possible_values.nd rfl (.inl rfl)) pgs_nil)))) pss_never), ?_⟩
    exact ⟨_, rfl, _, rfl, v, u, rfl, hf, hv, k⟩
end
/-! ### the lambdas -/
def lamA : Expr → Arguments
  | .Lambda a _ _ _ => a
  | _ => defArgs s_law
def lamB : Expr → Expr
  | .Lambda _ b _ _ => b
  | e => e
def lamS : Expr → Scope
  | .Lambda _ _ s _ => s
  | _ => defScope s_law
def forB : Stmt → List Stmt
  | .For _ _ b _ _ => b
  | _ => []
def nthE : Nat → List Expr → Expr
  | 0, e :: _ => e
  | n + 1, _ :: r => nthE n r
  | _, [] => .Tuple [] 0 ⟨0, 0, 0, 0⟩
def lamAt (n : Nat) : Stmt → Expr
  | .Assign _ (.List es _) _ => nthE n es
  | _ => .Tuple [] 0 ⟨0, 0, 0, 0⟩
abbrev nthS (l : List Stmt) (n : Nat) : Stmt := l.getD n (.Pass ⟨0, 0, 0, 0⟩)
abbrev lam1 : Expr := lamAt 0 (nthS (forB (nthS (defBody s_law) 1)) 15)
abbrev lam2 : Expr := lamAt 1 (nthS (forB (nthS (defBody s_law) 1)) 15)
section
open LamX NdefX
variable {P : Program} {w : World} {K : PySem.W.Frag} {mg : Str → Option Value} {base : Heap}
def lpZ (T : Gx K mg) : List (Option V) → Hp → VK → XK → Prop := fun ws H _ E => ∃ v u : V, ws = [some v, some u] ∧ FlatE v ∧ numV v 1 16 = false ∧ ∀ H' : Hp, Fr [] H H' → E (.ref T.C_InvalidSize) none H'
theorem lok_1 (T : Gx K mg) {f : Addr} {F : LF} (eb : F.body = lamB lam1) (es : F.scope = lamS lam1) (ep : F.params = lamA lam1) (ed : F.df.isSome = !(lamA lam1).defaults.isEmpty) : LOk P w K mg base (L2N.CX P w) 8 f F ["_law_odd", "_law_none"] (lpZ T) := by
  have G := ok_firstBad (P := P) (w := w) (base := base) T
  obtain ⟨q, pr, bd, sc, cl, c, df⟩ := F
  have eb' : bd = lamB lam1 := eb
  have es' : sc = lamS lam1 := es
  have ep' : pr = lamA lam1 := ep
  have ed' : df.isSome = false := ed
  subst eb' es' ep'
  obtain rfl : df = none := by cases df with
    | none => rfl
    | some t => cases ed'
  refine lok_of (k := 7) (N := ["_law_odd", "_law_none"]) (lscope_by (show lscB ["_law_odd", "_law_none"] (lamS lam1) = true from by decide +kernel)) (lbind0 fun pm ct => rfl) (fun A outer s H ws Q E hr L hl h => ?_)
  obtain ⟨v, u, rfl, hf, hv, k⟩ := h
  refine ⟨_, pe_call G (hr.mono (by decide)) (by rfl) T.g_first_error T.F_first_error.kp (b_first_error T) .nil (L2N.passes_call (L2N.takes_of rfl rfl rfl rfl) (fun _ _ _ _ h => h)) (pa_cons (pv 0) (pa_cons (pv 1) pa_nil)), ?_⟩
  exact ⟨_, rfl, _, rfl, v, u, rfl, hf, hv, k⟩
theorem lok_2 (T : Gx K mg) {f : Addr} {F : LF} (eb : F.body = lamB lam2) (es : F.scope = lamS lam2) (ep : F.params = lamA lam2) (ed : F.df.isSome = !(lamA lam2).defaults.isEmpty) : LOk P w K mg base (L2N.CX P w) 8 f F ["_law_odd", "_law_log_here"] (lpZ T) := by
  have G := ok_possBad (P := P) (w := w) (base := base) T
  obtain ⟨q, pr, bd, sc, cl, c, df⟩ := F
  have eb' : bd = lamB lam2 := eb
  have es' : sc = lamS lam2 := es
  have ep' : pr = lamA lam2 := ep
  have ed' : df.isSome = true := ed
  subst eb' es' ep'
  obtain ⟨t, rfl⟩ : ∃ t, df = some t := by cases df with
    | none => cases ed'
    | some t => exact ⟨t, rfl⟩
  refine lok_of (k := 7) (N := ["_law_odd", "_law_log_here"]) (lscope_by (show lscB ["_law_odd", "_law_log_here"] (lamS lam2) = true from by decide +kernel)) (lbind1 (x := "_law_a") rfl (fun pm ct u => ⟨_, rfl, rfl⟩) (show (lamS lam2).names.lookup ("_law_a" : Str) = some .local from by decide +kernel)) (fun A outer s H ws Q E hr L hl h => ?_)
  obtain ⟨v, u, rfl, hf, hv, k⟩ := h
  refine ⟨_, pe_call G (hr.mono (by decide)) (by rfl) T.g_possible_values T.F_possible_values.kp (b_possible_values T) .nil (L2N.passes_call (L2N.takes_of rfl rfl rfl rfl) (fun _ _ _ _ h => h)) (pa_cons (pv 0) (pa_cons (pv 1) pa_nil)), ?_⟩
  exact ⟨_, rfl, _, rfl, v, u, rfl, hf, hv, k⟩
end
/-! ### calls told one after another: what their cells hold lies still -/
section
open PySem.Spec PySem.Calls PySem.W PyProof.Rows LamX NdefX
section
variable {P : Program} {w : World} {K : Frag} {mg : Str → Option Value} {base : Heap}
theorem op_neDK {X : Cx} (e : X.K = K) (hu : X.A.units + 64 < cLine) : OpR X (compareOp .NotEq) (rNeD K) := by
  subst e
  exact op_neD hu
/-- a def whose body may take all that is untracked for fixed -/
theorem FunOkB {CX : CXT} {x qual : Str} {st : Stmt} {f : Addr} {fd : FuncData} {N ps : List Str} {k : Nat} {sp : SpS} (F : L2.Fun K x qual st f fd) (hb : Binds K fd ps []) (S : FnScope N ps (defScope st)) (len : ∀ vs o s H Q E, sp vs o s H Q E → vs.length = ps.length)
    (hbody : ∀ (b2 : Heap) (cdv : Value) (A : Around) (outer : List Env) (s : Shared) (H : Hp) (vs : List V) (Q : VK) (E : XK), (∀ b o, s.heap.get? b = some o → H b = none → b ∉ frs outer → b2.get? b = some o) → Room k (A.deeper (envOfC qual (defScope st) s.heap.objs.size f cdv)) → sp vs outer s H Q E →
      ∃ t, PSs (cxOf CX P w K mg b2 N qual (defScope st) f cdv A outer s H E) (defBody st) t ∧ t { nx := fun _ H' => Q .non H', rt := Q } (L2.start N vs) H) : FnS P w K mg base CX (k + 1) f ps sp := by
  obtain ⟨oc, od, kV, doc, pm, an, cdv, ct, osl, rfl, lk, hcd⟩ := F.ex
  refine ⟨len, fun A outer s H us vs Q E hr e0 r hsp => ?_⟩
  have hl := len _ _ _ _ _ _ hsp
  have KX : K.In s.heap := e0.mod.kin.keeps fun b o z => (e0.bs b o z).1
  have b2 := hb s us KX (by rw [List.append_nil, ← hl]; exact r.length.symm)
  rw [List.append_nil] at b2
  have up : ∀ b o, s.heap.get? b = some o → H b = none → b ∉ frs outer → (hideAll (hidT s.heap H) (frs outer)).get? b = some o := fun b o e n hf => hideAll_get _ (hidT_get e n) hf
  have kb : ∀ b o, base.get? b = some o → (hideAll (hidT s.heap H) (frs outer)).get? b = some o := fun b o e => by
    refine up b o (e0.bs b o e).1 (e0.bs b o e).2 fun hm => ?_
    have z := (e0.funs.mem hm).1
    rw [e] at z
    cases z
  have e1 : Env0 P w K mg (hideAll (hidT s.heap H) (frs outer)) A outer s H := by
    refine ⟨e0.frames, ⟨e0.mod.kin.keeps kb, e0.mod.glob.keeps kb, ?_, e0.mod.nolimit.keeps kb⟩, fun b o e => of_hidT (of_hideAll _ e), ?_, funFrames_none e0.funs (fun L hL => hideAll_none _ hL), e0.frf, e0.hok, e0.bare⟩
    · obtain ⟨mb, h1, h2⟩ := e0.mod.blt
      exact ⟨mb, h1.keeps kb, h2⟩
    · rw [hideAll_size, hidT_size]
      exact Nat.le_refl _
  exact run_ofS (us := us) (vs := vs) lk hcd S hr e1 b2 r hl fun hr' => hbody _ cdv A outer s H vs Q E up hr' hsp
end
/-- the lambda's cells lie in the base -/
structure BAct (base : Heap) (F : LF) (fr : List Str) (ws : List (Option V)) : Prop where
  len : ws.length = fr.length
  all : ∀ y c, F.cl.lookup y = some c → ∃ v, base.IsCell c v
  inj : ∀ x y c, F.cl.lookup x = some c → F.cl.lookup y = some c → x = y
  has : ∀ (i : Nat) (y : Str), fr[i]? = some y → ∃ c, F.cl.lookup y = some c ∧ ∀ v, ws[i]? = some (some v) → ∃ u, L2.RelV v u ∧ base.IsCell c (some u)
theorem Act.based {f : Addr} {F : LF} {fr : List Str} {ws : List (Option V)} {fs : List Addr} {s : Shared} {H : Hp} {base : Heap} (a : Act f F fr ws fs s H) (h : ∀ b o, s.heap.get? b = some o → H b = none → b ∉ fs → base.get? b = some o) : BAct base F fr ws := by
  have up : ∀ {y c v}, F.cl.lookup y = some c → s.heap.IsCell c v → base.IsCell c v := fun {y c v} e hc => by
    obtain ⟨o, ho, hd⟩ := hc
    exact ⟨o, h c o ho (a.cells.all y c e).1 (a.nf y c e), hd⟩
  refine ⟨a.cells.len, fun y c e => ?_, a.cells.inj, fun i y e => ?_⟩
  · obtain ⟨_, v, hc⟩ := a.cells.all y c e
    exact ⟨v, up e hc⟩
  · obtain ⟨c, hc, hv⟩ := a.cells.has i y e
    refine ⟨c, hc, fun v ev => ?_⟩
    obtain ⟨u, ru, hu⟩ := hv v ev
    exact ⟨u, ru, up hc hu⟩
theorem BAct.act {Y : Cx} {pins : List (Addr × Obj)} {σ : L2.St} {H : Hp} {s : Shared} {f : Addr} {F : LF} {fr : List Str} {ws : List (Option V)} (a : BAct Y.base F fr ws) (I : Inv Y pins σ H s) (L : Lv f F H) : Act f F fr ws (frs Y.stack) s H := by
  have dn : ∀ {c v}, Y.base.IsCell c v → s.heap.IsCell c v ∧ H c = none := fun {c v} hc => by
    obtain ⟨o, ho, hd⟩ := hc
    exact ⟨⟨o, (I.bs c o ho).1, hd⟩, (I.bs c o ho).2⟩
  refine ⟨L, ⟨a.len, fun y c e => ?_, a.inj, fun i y e => ?_⟩, fun y c e hm => ?_⟩
  · obtain ⟨v, hc⟩ := a.all y c e
    exact ⟨(dn hc).2, v, (dn hc).1⟩
  · obtain ⟨c, hc, hv⟩ := a.has i y e
    refine ⟨c, hc, fun v ev => ?_⟩
    obtain ⟨u, ru, hu⟩ := hv v ev
    exact ⟨u, ru, (dn hu).1⟩
  · obtain ⟨v, o, ho, hd⟩ := a.all y c e
    rcases List.mem_cons.mp (I.stkSub c hm) with z | z
    · have h1 := Heap.lt_size ho
      have h2 := I.ok.bsz
      have h3 := I.ok.above
      rw [z] at h1
      exact absurd (Nat.lt_of_lt_of_le h1 (Nat.le_trans h2 h3)) (Nat.lt_irrefl _)
    · have z2 := (I.ok.funs.mem z).1
      rw [ho] at z2
      cases z2
theorem Lv.fr {f : Addr} {F : LF} {H H' : Hp} (L : Lv f F H) (e : Fr [] H H') : Lv f F H' := L.keep fun b o h _ _ _ => e b o h (by simp)
section
variable {P : Program} {w : World} {K : Frag} {mg : Str → Option Value} {base : Heap}
/-- error_of(c), c a name that holds a lambda -/
theorem pe_errB {Y : Cx} {i : Nat} {a : Str} {p p1 pos : Pos} (T : Gx K mg) (eP : Y.prog = P) (ew : Y.w = w) (eK : Y.K = K) (em : Y.mg = mg) (eb : Y.base = base) (hr : Room 10 Y.A) (hg : Gl Y "_law_error_of") (hN : Y.N[i]? = some a) (hv : Vis Y.env.scope a) (hd : (a == ("__debug__" : Str)) = false := by decide) (hcd : (a == ("__classdict__" : Str)) = false := by decide)
    (he : starEach [.Name a p1] Y.env = (false, eval (.Name a p1) Y.env) :: starEach [] Y.env := by rfl) (hpl : (backTo pos (starEach [] Y.env)).any (·.1) = false := by rfl) :
    PE Y (.Call (.Name "_law_error_of" p) [.Name a p1] [] pos) (fun σ H Q => ∃ (f : Addr) (F : LF) (fr : List Str) (ws : List (Option V)) (lp : List (Option V) → Hp → VK → XK → Prop), σ[i]? = some (some (.ref f)) ∧ LOk P w K mg base (L2N.CX P w) 8 f F fr lp ∧ BAct base F fr ws ∧ Lv f F H ∧
      ∀ (Q' : VK) (E' : XK), (∀ v H', Q .non H' → Q' v H') → (∀ cls d H', ErrEnd T cls d H' Q → E' cls d H') → lp ws H Q' E') := by
  subst eP ew eK em eb
  refine ⟨fun pins s σ H Q I h => ?_⟩
  obtain ⟨f, F, fr, ws, lp, h1, L, b, lv, hl⟩ := h
  refine (pe_callS (ok_errorOf (w := Y.w) (base := Y.base) T) hr hg T.g__law_error_of T.F__law_error_of.kp (C8.pass0 (E := C8.E0)) (pa_cons (pe_var (i := i) hN hv hd hcd) pa_nil) rfl he hpl).run pins s σ H Q I ?_
  exact ⟨_, h1, fun pins1 s1 I1 => ⟨f, F, fr, ws, lp, rfl, L, b.act I1 lv, hl⟩⟩
end
/-- such an end is told so -/
def Tells {K : Frag} {mg : Str → Option Value} (T : Gx K mg) (cls : Value) (d : Option Addr) (H : Hp) (xs : List V) : Prop := ∀ Q : VK, (∀ (t : Addr) (H4 : Hp), H t = none → Fr [] H H4 → H4 t = some (.tup xs) → Q (.ref t) H4) → ErrEnd T cls d H Q
/-- a lambda that always ends by an error that is told so -/
def OkG {K : Frag} {mg : Str → Option Value} (P : Program) (w : World) (T : Gx K mg) (outer : List Env) (s : Shared) (H : Hp) (f : Addr) (nm : Str) (j : Int) : Prop := ∃ (F : LF) (fr : List Str) (ws : List (Option V)) (lp : List (Option V) → Hp → VK → XK → Prop), (∀ base, LOk P w K mg base (L2N.CX P w) 8 f F fr lp) ∧ Act f F fr ws (frs outer) s H ∧
  ∀ H', Fr [] H H' → ∀ (Q' : VK) (E' : XK), (∀ cls d H'', Fr [] H' H'' → Tells T cls d H'' [.str nm, .int j] → E' cls d H'') → lp ws H' Q' E'
def spAll {K : Frag} {mg : Str → Option Value} (P : Program) (w : World) (T : Gx K mg) : SpS := fun vs outer s H Q _ => ∃ (l e : Addr) (fs : List Addr) (nm : Str) (j : Int), vs = [.ref l, .ref e] ∧ H l = some (.lst (fs.map V.ref)) ∧ fs.length ≤ 100 ∧ H e = some (.tup [.str nm, .int j]) ∧ PyData.strOk nm = true ∧ (∀ f ∈ fs, OkG P w T outer s H f nm j) ∧ ∀ H', Fr [] H H' → Q (.bl true) H'
theorem shaped_si {x : Str} {i : Int} (h : PyData.strOk x = true) : SeqAt.shaped (.tuple [.str x, .int i]) = true := by
  unfold SeqAt.shaped
  simp [PyData.canLay0, PyData.canLayAll0, h, PyData.depth, PyData.depthAll]
theorem eqv_si (x : Str) (i : Int) : PyData.eqv (.tuple [.str x, .int i]) (.tuple [.str x, .int i]) = true := by
  simp [PyData.eqv, PyData.eqvAll]
section
variable {P : Program} {w : World} {K : Frag} {mg : Str → Option Value} {base : Heap}
theorem ok_all (T : Gx K mg) : FnS P w K mg base C8.CX0 12 T.f__law_all_raise ["_law_calls", "_law_expected"] (spAll P w T) := by
  refine FunOkB T.F__law_all_raise (b__law_all_raise T) sc__law_all_raise (fun vs o s H Q E h => by obtain ⟨l, e, fs, nm, j, rfl, _⟩ := h; rfl) (fun b2 cdv A outer s H vs Q E hb hr h => ?_)
  obtain ⟨l, e, fs, nm, j, rfl, hl, hz, he, hnm, hf, k⟩ := h
  refine ⟨_, (pss_one (ps_ret (pe_cmpR (op_eqD hr.units) (pe_lc (own := [("_law_call", 2)]) (g := gName 2) rfl sc__law_all_raise.nd (pi_list (pv 0)) (blkOk_by (N := ["_law_calls", "_law_expected", "_law_call"]) (sc := defScope s__law_all_raise) (by decide +kernel)) (fun _ _ _ _ _ => pg_name (i := 2) sc__law_all_raise.nd rfl (.inl rfl)) (fun _ _ _ _ _ => (pts_one (pt_cmpR (op_neDK (K := K) rfl hr.units) (pe_errB (i := 2) (P := P) (w := w) (base := b2) T rfl rfl rfl rfl rfl (hr.mono (by decide)) (by rfl) rfl (by first | exact Or.inl rfl | exact Or.inr (Or.inl rfl) | exact Or.inr (Or.inr rfl))) (pv 1) (nomark _)))) (fun _ _ _ _ _ => (pv 2))) (pe_lst pa_nil) (nomark _)))), ?_⟩
  refine ⟨_, rfl, l, rfl, ⟨_, SqL.of hl⟩, fun D hD => ?_⟩
  refine lc_list (K := K) (a := l) (xs := fs.map V.ref) (fun i H2 => Fr [] (upd H D (.lst [])) H2) (Fr.refl _ _) ?_ ?_ ?_
  · intro i H2 _ f2
    exact SqL.of (f2 _ _ (Fr.new (S := []) hD _ _ hl (by simp)) (by simp))
  · intro i x H2 hi f2
    obtain ⟨f, rfl, hfi⟩ : ∃ f, x = .ref f ∧ f ∈ fs := by
      rw [List.getElem?_map] at hi
      cases e1 : fs[i]? with
      | none => rw [e1] at hi; cases hi
      | some u =>
        rw [e1] at hi
        exact ⟨u, (Option.some.inj hi).symm, List.mem_of_getElem? e1⟩
    have f0 : Fr [] H H2 := (Fr.new hD).trans f2
    obtain ⟨F, fr, ws, lp, L, act, hlp⟩ := hf f hfi
    refine ⟨rfl, f, F, fr, ws, lp, rfl, L b2, act.based hb, act.lv.fr f0, fun Q' E' hq hx => hlp H2 f0 Q' E' fun cls d H3 f3 tl => hx _ _ _ (tl _ fun t H4 ht f4 et => ?_)⟩
    have f5 : Fr [] H H4 := (f0.trans f3).trans f4
    refine ⟨_, rfl, .tuple [.str nm, .int j], .tuple [.str nm, .int j], .tup (SqT.of et) (.cons (.str _) (.cons (.int _) .nil)), .tup (SqT.of (f5 _ _ he (by simp))) (.cons (.str _) (.cons (.int _) .nil)), shaped_si hnm, shaped_si hnm, _, rfl, ?_⟩
    refine iteFb (by rw [eqv_si]; rfl) ?_
    exact (f2.trans f3).trans f4
  · intro H2 f2
    have eD : H2 D = some (.lst []) := f2 _ _ upd_same (by simp)
    refine ⟨sz_le (by simp), fun g hg => ?_⟩
    have eq : PyData.eqv (.list []) (.list []) = true := by decide +kernel
    refine ⟨.list [], .list [], .lst (SqL.of (Fr.new (S := []) hg _ _ eD (by simp))) .nil, .lst (SqL.of upd_same) .nil, by decide +kernel, by decide +kernel, ?_⟩
    rw [eq]
    exact k _ (((Fr.new hD).trans f2).trans (Fr.new hg))
end
end
/-! ### what goes along: the drawings, the table -/
section
open LamX NdefX
def nmL : Nat → Nat → Str := fun _ _ => (PyProof.Rows.envOfC "law" (defScope s_law) 0 0 .none).qual ++ "<lambda>"
theorem hmL (P : Addr) : (P, nmL) ∈ [(P, nmL)] := List.mem_cons_self
theorem huL (P : Addr) : ∀ p ∈ [(P, nmL)], p.1 = P → p.2 = nmL := fun p hp _ => by rw [List.mem_singleton.mp hp]
theorem cap1 : ∀ y ∈ (lamS lam1).names, y.2 = .free → (defScope s_law).names.lookup y.1 = some .cell ∨ (defScope s_law).names.lookup y.1 = some .free := by decide +kernel
theorem free1 : ∀ y ∈ (["_law_odd", "_law_none"] : List Str), (y, NameKind.free) ∈ (lamS lam1).names := by decide +kernel
theorem cap2 : ∀ y ∈ (lamS lam2).names, y.2 = .free → (defScope s_law).names.lookup y.1 = some .cell ∨ (defScope s_law).names.lookup y.1 = some .free := by decide +kernel
theorem free2 : ∀ y ∈ (["_law_odd", "_law_log_here"] : List Str), (y, NameKind.free) ∈ (lamS lam2).names := by decide +kernel
structure Wd (P r : Addr) (H : Hp) : Prop where
  rnd : Rnd H r
  tab : TabsN [(P, nmL)] H
theorem tabN_lst {H H' : Hp} {P r : Addr} {nm : Nat → Nat → Str} (t : TabN H P nm) (f : Fr [r] H H') (hr : ∃ xs, H r = some (.lst xs)) : TabN H' P nm := by
  obtain ⟨ps, h1, h2, h3⟩ := t
  obtain ⟨xs, e⟩ := hr
  refine ⟨ps, f _ _ h1 (fun z => ?_), h2, fun pos cv hc => ?_⟩
  · rw [List.mem_singleton.mp z, e] at h1
    cases h1
  · obtain ⟨c, e1, e2⟩ := h3 pos cv hc
    refine ⟨c, e1, f _ _ e2 (fun z => ?_)⟩
    rw [List.mem_singleton.mp z, e] at e2
    unfold CodeO at e2
    cases e2
theorem Wd.keep0 {P r : Addr} {H H' : Hp} (h : Wd P r H) (f : Fr [] H H') : Wd P r H' := ⟨h.rnd.keep f (by simp), h.tab.ext fun b o e => f b o e (by simp)⟩
theorem Wd.draw {P r : Addr} {H H' : Hp} (h : Wd P r H) (f : Fr [r] H H') (R : Rnd H' r) : Wd P r H' := ⟨R, fun p hp => tabN_lst (h.tab p hp) f (by
  obtain ⟨a, b, ns, e⟩ := h.rnd
  exact ⟨_, e⟩)⟩
theorem Wd.new {P r : Addr} {H : Hp} {p : Addr} {o : HO} (h : Wd P r H) (n : H p = none) : Wd P r (upd H p o) := h.keep0 (Fr.new n)
theorem Wd.out {P r : Addr} {H : Hp} {p : Addr} (h : Wd P r H) (n : H p = none) : p ≠ r := fun e => by
  obtain ⟨a, b, ns, e2⟩ := h.rnd
  rw [e, e2] at n
  cases n
theorem Wd.lam {P r : Addr} {H H' : Hp} (h : Wd P r H) (f : ExtN H H') (t : TabsN [(P, nmL)] H') : Wd P r H' := ⟨by
  obtain ⟨a, b, ns, e⟩ := h.rnd
  exact ⟨a, b, ns, f _ _ e (fun _ z => by cases z)⟩, t⟩
end
/-! ### entries that cannot be -/
theorem form1 {nb : Nat} {x : V} {r : List V} (h : isForm x (r.length + 1) = false) : formV nb (x :: r) = false := by
  simp [formV, h]
theorem form2 {nb : Nat} {x y : V} {r : List V} (h : numV y 0 ((nb : Int) - 1) = false) : formV nb (x :: y :: r) = false := by
  simp [formV, h]
theorem form3 {nb : Nat} {x y z : V} {r : List V} (h : numV z 0 999 = false) : formV nb (x :: y :: z :: r) = false := by
  simp [formV, h]
/-- an entry of no right form, that is not the drawings -/
def BadE (H : Hp) (nb : Nat) (r : Addr) (v : V) : Prop := ItAt H nb v none ∧ v ≠ .ref r
theorem BadE.keep0 {H H' : Hp} {nb : Nat} {r : Addr} {v : V} (h : BadE H nb r v) (f : Fr [] H H') : BadE H' nb r v := ⟨h.1.keep0 f, h.2⟩
theorem ItAt.draw {H H' : Hp} {nb : Nat} {r : Addr} {v : V} {o : Option En} (h : ItAt H nb v o) (n : v ≠ .ref r) (R : Rnd H r) (f : Fr [r] H H') : ItAt H' nb v o := by
  cases o with
  | some e =>
    obtain ⟨t, e1, e2, e3⟩ := h
    exact ⟨t, e1, f _ _ e2 (fun z => R.notup _ z _ e2), e3⟩
  | none =>
    rcases h with h | ⟨t, xs, e1, e2, e3⟩
    · refine .inl ?_
      rcases h with h | h | h | ⟨l, xs, e, e2⟩
      · exact .inl h
      · exact .inr (.inl h)
      · exact .inr (.inr (.inl h))
      · exact .inr (.inr (.inr ⟨l, xs, e, f _ _ e2 (by rw [List.mem_singleton]; exact fun z => n (by rw [e, z]))⟩))
    · exact .inr ⟨t, xs, e1, f _ _ e2 (fun z => R.notup _ z _ e2), e3⟩
theorem badT {H : Hp} {nb : Nat} {r t : Addr} {xs : List V} (R : Rnd H r) (e : H t = some (.tup xs)) (hf : ∀ x ∈ xs, FlatE x) (hl : xs.length ≤ 5) (h : formV nb xs = false) : BadE H nb r (.ref t) :=
  ⟨.inr ⟨t, xs, rfl, e, hf, hl, h⟩, fun z => R.notup r (List.mem_singleton.mpr rfl) xs (by rw [← V.ref.inj z]; exact e)⟩
theorem fS {z : Str} (h : PyData.strOk z = true) : FlatE (.str z) := .inr (.inr (.inr ⟨z, rfl, h⟩))
theorem fI {i : Int} : FlatE (.int i) := .inr (.inr (.inl ⟨i, rfl⟩))
theorem fB {b : Bool} : FlatE (.bl b) := .inr (.inl ⟨b, rfl⟩)
theorem fN : FlatE .non := .inl rfl
theorem f0 : ∀ x ∈ ([] : List V), FlatE x := fun x h => by cases h
theorem fc {x : V} {xs : List V} (h : FlatE x) (g : ∀ y ∈ xs, FlatE y) : ∀ y ∈ x :: xs, FlatE y := fun y hy => by
  rcases List.mem_cons.mp hy with rfl | hy
  · exact h
  · exact g y hy
/-- a list of such entries -/
structure BadL (H : Hp) (nb : Nat) (r bl : Addr) (n : Nat) : Prop where
  ex : ∃ xs : List V, H bl = some (.lst xs) ∧ xs.length = n ∧ ∀ x ∈ xs, BadE H nb r x
  nr : bl ≠ r
theorem BadL.keep0 {H H' : Hp} {nb : Nat} {r bl : Addr} {n : Nat} (h : BadL H nb r bl n) (f : Fr [] H H') : BadL H' nb r bl n := by
  obtain ⟨⟨xs, e, l, g⟩, nr⟩ := h
  exact ⟨⟨xs, f _ _ e (by simp), l, fun x hx => (g x hx).keep0 f⟩, nr⟩
/-- the entry that is put in -/
def EntE (H : Hp) (nb : Nat) (r : Addr) (p : Po) (v : V) : Prop := ∃ o : Option En, ItAt H nb v o ∧ o.bind p.go = none ∧ v ≠ .ref r
theorem BadE.ent {H : Hp} {nb : Nat} {r : Addr} {p : Po} {v : V} (h : BadE H nb r v) : EntE H nb r p v := ⟨none, h.1, rfl, h.2⟩
theorem EntE.keep0 {H H' : Hp} {nb : Nat} {r : Addr} {p : Po} {v : V} (h : EntE H nb r p v) (f : Fr [] H H') : EntE H' nb r p v := by
  obtain ⟨o, a, b, c⟩ := h
  exact ⟨o, a.keep0 f, b, c⟩
theorem EntE.draw {H H' : Hp} {nb : Nat} {r : Addr} {p : Po} {v : V} (h : EntE H nb r p v) (R : Rnd H r) (f : Fr [r] H H') : EntE H' nb r p v := by
  obtain ⟨o, a, b, c⟩ := h
  exact ⟨o, a.draw c R f, b, c⟩
theorem entT {H : Hp} {nb : Nat} {r t : Addr} {p : Po} {e : En} (R : Rnd H r) (h : H t = some (.tup e.vs)) (he : e.ok nb) (hg : p.go e = none) : EntE H nb r p (.ref t) :=
  ⟨some e, ⟨t, rfl, h, he⟩, hg, fun z => R.notup r (List.mem_singleton.mpr rfl) e.vs (by rw [← V.ref.inj z]; exact h)⟩
theorem odd_at {z : Nat} (hz : z < 5) : ∃ v, atI ([.int 0, .int 17, .non, .bl true, .str "1"] : List V) (z : Int) = some v ∧ FlatE v ∧ numV v 1 16 = false := by
  match z, hz with
  | 0, _ => exact ⟨_, atI_nat (j := 0) rfl, fI, by decide⟩
  | 1, _ => exact ⟨_, atI_nat (j := 1) rfl, fI, by decide⟩
  | 2, _ => exact ⟨_, atI_nat (j := 2) rfl, fN, rfl⟩
  | 3, _ => exact ⟨_, atI_nat (j := 3) rfl, fB, rfl⟩
  | 4, _ => exact ⟨_, atI_nat (j := 4) rfl, fS (by decide +kernel), rfl⟩
/-- the numbers from 0 that are not in a list of few -/
def freeOf (l : List Int) (n : Nat) : List Int := ((List.range n).map Int.ofNat).filter fun x => !decide (x ∈ l)
theorem freeOf_succ (l : List Int) (n : Nat) : freeOf l (n + 1) = freeOf l n ++ if decide ((n : Int) ∈ l) = true then [] else [(n : Int)] := by
  unfold freeOf
  rw [List.range_succ, List.map_append, List.filter_append]
  congr 1
  by_cases h : (n : Int) ∈ l
  · simp [h]
  · simp [h]
theorem freeOf_first {l : List Int} {n : Nat} (h : l.length < n) : ∃ x r, freeOf l n = x :: r ∧ x ∉ l ∧ 0 ≤ x ∧ x < n := by
  cases e : freeOf l n with
  | nil =>
    exfalso
    have sub : ∀ x ∈ (List.range n).map Int.ofNat, x ∈ l := fun x hx => by
      by_cases hl : x ∈ l
      · exact hl
      · have : x ∈ freeOf l n := List.mem_filter.mpr ⟨hx, by simp [hl]⟩
        rw [e] at this
        cases this
    have nd : ((List.range n).map Int.ofNat).Nodup := by
      rw [List.Nodup, List.pairwise_map]
      exact List.nodup_range.imp fun h z => h (Int.ofNat.inj z)
    have := List.Nodup.length_le_of_subset nd sub
    rw [List.length_map, List.length_range] at this
    omega
  | cons x r =>
    have hx : x ∈ freeOf l n := by rw [e]; exact List.mem_cons_self
    obtain ⟨h1, h2⟩ := List.mem_filter.mp hx
    obtain ⟨j, hj, rfl⟩ := List.mem_map.mp h1
    refine ⟨_, r, rfl, by simpa using h2, ?_, ?_⟩
    · exact Int.natCast_nonneg _
    · have := List.mem_range.mp hj
      exact Int.ofNat_lt.mpr this
theorem freeOf_len (l : List Int) (n : Nat) : (freeOf l n).length ≤ n := by
  unfold freeOf
  have := List.length_filter_le (fun x => !decide (x ∈ l)) ((List.range n).map Int.ofNat)
  rw [List.length_map, List.length_range] at this
  exact this
theorem decI {a b : Int} (h : a ≠ b) : decide (V.int a = V.int b) = false := decide_eq_false fun e => h (V.int.inj e)
theorem walk_bad {nb : Nat} {es : List En} {p : Po} {o : Option En} {r : List (Option En)} (h : runE (po0 nb) es = some p) (ho : o.bind p.go = none) : walkP 0 (po0 nb) (es.map some ++ [o] ++ r) = (some es.length, p) := by
  rw [List.append_assoc, walkP_run h]
  show (match o.bind p.go with | none => (some (0 + es.length), p) | some p' => walkP (0 + es.length + 1) p' ([] ++ r)) = _
  rw [ho]
  show (some (0 + es.length), p) = _
  rw [Nat.zero_add]
theorem NoLst.keep0 {H H' : Hp} {v : V} (h : NoLst H v) (f : Fr [] H H') : NoLst H' v := by
  rcases h with h | h | h | ⟨t, xs, e, e2⟩
  · exact .inl h
  · exact .inr (.inl h)
  · exact .inr (.inr (.inl h))
  · exact .inr (.inr (.inr ⟨t, xs, e, f _ _ e2 (by simp)⟩))
/-- a log with the entry behind it, and more -/
theorem Log.mid {H : Hp} {nb : Nat} {r lg mo q : Addr} {ts ts2 : List Addr} {es es2 : List En} {v : V} {o : Option En} (h : Lq H nb r lg ts es) (g : Lq H nb r mo ts2 es2) (i : ItAt H nb v o) (e : H q = some (.lst (ts.map V.ref ++ [v] ++ ts2.map V.ref))) : Log H nb q (ts.map V.ref ++ [v] ++ ts2.map V.ref) (es.map some ++ [o] ++ es2.map some) := by
  have h1 := h.len
  have h2 := g.len
  refine ⟨e, by simp only [List.length_append, List.length_map, List.length_cons, List.length_nil]; omega, fun j x y e1 e2 => ?_⟩
  by_cases hj : j < ts.length
  · rw [List.append_assoc, List.getElem?_append_left (by rw [List.length_map]; exact hj)] at e1
    rw [List.append_assoc, List.getElem?_append_left (by rw [List.length_map]; omega)] at e2
    exact h.items j x y e1 e2
  · rw [List.append_assoc, List.getElem?_append_right (by rw [List.length_map]; omega), List.length_map] at e1
    rw [List.append_assoc, List.getElem?_append_right (by rw [List.length_map]; omega), List.length_map] at e2
    rw [← h1] at e2
    cases hz : j - ts.length with
    | zero =>
      rw [hz] at e1 e2
      cases e1
      cases e2
      exact i
    | succ k =>
      rw [hz] at e1 e2
      exact g.items k x y e1 e2
theorem none_at {H : Hp} {t : Addr} {xs : List V} {z : Nat} (ht : H t = some (.tup xs)) (hz : z < 4) : ∃ v, atI ([.non, .ref t, .int 5, .str "log"] : List V) (z : Int) = some v ∧ NoLst H v := by
  match z, hz with
  | 0, _ => exact ⟨_, atI_nat (j := 0) rfl, .inl rfl⟩
  | 1, _ => exact ⟨_, atI_nat (j := 1) rfl, .inr (.inr (.inr ⟨t, xs, rfl, ht⟩))⟩
  | 2, _ => exact ⟨_, atI_nat (j := 2) rfl, .inr (.inl ⟨5, rfl⟩)⟩
  | 3, _ => exact ⟨_, atI_nat (j := 3) rfl, .inr (.inr (.inl ⟨_, rfl⟩))⟩
/-! ### the law -/
def spLaw (K : PySem.W.Frag) (P : Addr) : Sp := fun vs H Q _ => ∃ (a : Addr) (ns : List Int), vs = [.ref a] ∧ SqL K H a (ns.map V.int) ∧ ns.length ≤ 63 ∧ H P = some (.tbl #[]) ∧ ∀ H', Q (.bl true) H'
section
open LamX NdefX
variable {P : Program} {w : World} {K : PySem.W.Frag} {mg : Str → Option Value} {base : Heap}
theorem ok_law {oc : Value} {od an : Option Addr} {kV dc pm ct : Value} {osl : Array (Option Value)} {f cd Pt : Addr} (T : Gx K mg) (_HP : ProgOk P T.file) (lk : K.lookup f = some ⟨oc, od, .func (PySem.W.fnOf "law" "law" (defArgs s_law) (defBody s_law) (defScope s_law) .none kV dc pm an (.ref cd) ct), osl⟩)
    (hcd : PySem.W.codeIn K (.ref cd) "law" = true) (TB : TabB base mg cd Pt) : FnOk P w K mg base C8.CX0 14 f (PySem.W.fnOf "law" "law" (defArgs s_law) (defBody s_law) (defScope s_law) .none kV dc pm an (.ref cd) ct) ["_law_script"] (spLaw K Pt) := by
  have G__law_random : FnOk P w K mg base CX0 1 T.f__law_random T.fd__law_random ["_law_script", "_law_salt"] (spRandom K) := ok_random T
  have G__law_below : FnOk P w K mg base CX0 1 T.f__law_below T.fd__law_below ["_law_d", "_law_limit"] spBelow := ok_below T
  have G__law_equal : FnOk P w K mg base CX0 5 T.f__law_equal T.fd__law_equal ["_law_actual", "_law_expected"] (spEq 4) := ok_equal 4 T
  have G__law_log : FnOk P w K mg base CX0 2 T.f__law_log T.fd__law_log ["_law_d", "_law_blocks", "_law_length"] spLog := ok_log T
  have G_first_error : FnOk P w K mg base CX0 5 T.f_first_error T.fd_first_error ["blocks", "log"] spFirst := ok_first T
  have G_possible_values : FnOk P w K mg base CX0 5 T.f_possible_values T.fd_possible_values ["blocks", "log"] spPoss := ok_poss T
  have GE : FnS P w K mg base C8.CX0 10 T.f__law_error_of ["_law_call"] (spErr P w base T) := ok_errorOf T
  have GA : FnS P w K mg base C8.CX0 12 T.f__law_all_raise ["_law_calls", "_law_expected"] (spAll P w T) := ok_all T
  refine fn_of lk hcd sc_law (fun vs H Q E h => ?_) (fun A outer s0 H vs Q E hr h => ?_)
  · obtain ⟨a, ns, rfl, _⟩ := h
    rfl
  · obtain ⟨a, ns, rfl, hS, hlen, hP, k⟩ := h
    refine ⟨_, (pss_cons (ps_set (i := 1) sc_law.nd rfl (.inl rfl) (pe_call G__law_random (hr.mono (by first | decide | omega)) (by rfl) T.g__law_random T.F__law_random.kp (b__law_random T) .nil pass0 (pa_cons (pv 0) (pa_cons pe_int pa_nil))))
      (pss_cons (ps_for PassesOwn.leaving rfl (pi_range1 (by rfl) T.z_range (pa_cons pe_int pa_nil)) (pg_name (i := 2) sc_law.nd rfl (.inl rfl)) (pss_cons (ps_set (i := 3) sc_law.nd rfl (.inl rfl) (pe_op op_add pe_int (pe_call G__law_below (hr.mono (by first | decide | omega)) (by rfl) T.g__law_below T.F__law_below.kp (b__law_below T) .nil pass0 (pa_cons (pv 1) (pa_cons pe_int pa_nil)))))
      (pss_cons (ps_asg (pe_call G__law_log (hr.mono (by first | decide | omega)) (by rfl) T.g__law_log T.F__law_log.kp (b__law_log T) .nil pass0 (pa_cons (pv 1) (pa_cons (pv 3) (pa_cons (pe_call G__law_below (hr.mono (by first | decide | omega)) (by rfl) T.g__law_below T.F__law_below.kp (b__law_below T) .nil pass0 (pa_cons (pv 1) (pa_cons pe_int pa_nil))) pa_nil)))) (pg_tup (by rfl) (pgs_cons (pg_name (i := 12) sc_law.nd rfl (.inr rfl)) (pgs_cons (pg_name (i := 4) sc_law.nd rfl (.inr rfl)) (pgs_cons (pg_name (i := 5) sc_law.nd rfl (.inl rfl)) pgs_nil)))))
      (pss_cons (ps_asg (pe_tup (pa_cons (pe_call G__law_below (hr.mono (by first | decide | omega)) (by rfl) T.g__law_below T.F__law_below.kp (b__law_below T) .nil pass0 (pa_cons (pv 1) (pa_cons (pv 3) pa_nil))) (pa_cons (pe_call G__law_below (hr.mono (by first | decide | omega)) (by rfl) T.g__law_below T.F__law_below.kp (b__law_below T) .nil pass0 (pa_cons (pv 1) (pa_cons pe_int pa_nil))) pa_nil))) (pg_tup (by rfl) (pgs_cons (pg_name (i := 6) sc_law.nd rfl (.inr rfl)) (pgs_cons (pg_name (i := 7) sc_law.nd rfl (.inl rfl)) pgs_nil))))
      (C8.pss_cut (ps_set (i := 8) sc_law.nd rfl (.inl rfl) (pe_lst (pa_cons pe_non (pa_cons (pe_tup (pa_cons pe_str (pa_cons pe_int pa_nil))) (pa_cons (pe_tup (pa_cons pe_str (pa_cons pe_int pa_nil))) (pa_cons (pe_tup pa_nil) (pa_cons (pe_lst (pa_cons pe_str pa_nil)) (pa_cons (pe_tup (pa_cons pe_str (pa_cons (pv 3) (pa_cons pe_int pa_nil)))) (pa_cons (pe_tup (pa_cons pe_str (pa_cons pe_int (pa_cons pe_int pa_nil)))) (pa_cons (pe_tup (pa_cons pe_str (pa_cons (pv 3) pa_nil))) pa_nil))))))))))
      (pss_cons (ps_set (i := 8) sc_law.nd rfl (.inl rfl) (pe_op op_cat (pv 8) (pe_lst (pa_cons (pe_tup (pa_cons pe_str (pa_cons pe_int pa_nil))) (pa_cons (pe_tup (pa_cons pe_str (pa_cons pe_int (pa_cons pe_int pa_nil)))) (pa_cons (pe_tup (pa_cons pe_str (pa_cons pe_bl (pa_cons pe_int pa_nil)))) (pa_cons (pe_tup (pa_cons pe_str pa_nil)) (pa_cons (pe_tup (pa_cons pe_str (pa_cons pe_int (pa_cons pe_non pa_nil)))) (pa_cons pe_int pa_nil)))))))))
      (C8.pss_cut (ps_set (i := 9) sc_law.nd rfl (.inl rfl) (pe_ix ix_list (pe_op op_cat (pv 8) (pe_lst (pa_cons (pe_tup (pa_cons pe_str (pa_cons pe_int (pa_cons (pe_op op_sub pe_int pe_int) pa_nil)))) pa_nil))) (pe_call G__law_below (hr.mono (by first | decide | omega)) (by rfl) T.g__law_below T.F__law_below.kp (b__law_below T) .nil pass0 (pa_cons (pv 1) (pa_cons pe_int pa_nil))) (fun _ _ => rfl)))
      (C8.pss_cut (ps_if (PW.pt (pw_and (pt_cmpR op_eq (pv 7) pe_int (nomark _)) (pw_and1 (pt_cmpR op_notN (pv 5) pe_non (nomark _))))) (pss_one (ps_set (i := 9) sc_law.nd rfl (.inl rfl) (pe_ix ix_list (pe_lst (pa_cons (pe_tup (pa_cons pe_str (pa_cons (pv 6) (pa_cons (pe_ix ix_list (pe_ix ix_list (pv 4) (pv 6) (fun _ _ => rfl)) pe_int (fun _ _ => rfl)) pa_nil)))) (pa_cons (pe_tup (pa_cons pe_str (pa_cons (pv 6) (pa_cons pe_int pa_nil)))) (pa_cons (pe_tup (pa_cons pe_str (pa_cons (pv 6) pa_nil))) pa_nil)))) (pe_call G__law_below (hr.mono (by first | decide | omega)) (by rfl) T.g__law_below T.F__law_below.kp (b__law_below T) .nil pass0 (pa_cons (pv 1) (pa_cons pe_int pa_nil))) (fun _ _ => rfl)))) pss_nil)
      (C8.pss_cut (ps_if (PW.pt (pw_and (pt_cmpR op_eq (pv 7) pe_int (nomark _)) (pw_and1 (pt_cmpR op_isN (pv 5) pe_non (nomark _))))) (pss_one (ps_set (i := 9) sc_law.nd rfl (.inl rfl) (pe_tup (pa_cons pe_str pa_nil)))) pss_nil)
      (C8.pss_cut (ps_if (PW.pt (pw_and (pt_cmpR op_eq (pv 7) pe_int (nomark _)) (pw_and (pt_cmpR op_isN (pv 5) pe_non (nomark _)) (pw_and1 (pt_cmpR (op_neD hr.units) (pe_ix ix_list (pv 4) (pv 6) (fun _ _ => rfl)) (pe_lst (pa_cons (pe_op op_sub pe_int pe_int) pa_nil)) (nomark _)))))) (pss_one (ps_set (i := 9) sc_law.nd rfl (.inl rfl) (pe_tup (pa_cons pe_str (pa_cons (pv 6) (pa_cons (pe_ix ix_list (pe_lc (own := [("_law_value", 15)]) (g := gName 15) rfl sc_law.nd (pi_range1 (by rfl) T.z_range (pa_cons pe_int pa_nil)) (blkOk_by (N := ["_law_script", "_law_d", "_law_step", "_law_blocks", "_law_possible", "_law_under", "_law_block", "_law_kind", "_law_bad", "_law_entry", "_law_more", "_law_calls", "_law_log_here", "_law_none", "_law_odd", "_law_value"]) (sc := defScope s_law) (by decide +kernel)) (fun _ _ _ _ _ => pg_name (i := 15) sc_law.nd rfl (.inl rfl)) (fun _ _ _ _ _ => (pts_one (pt_cmpR (op_notInK (K := K) rfl) (pv 15) (pe_ix (ix_listK (K := K) rfl) (pv 4) (pv 6) (fun _ _ => rfl)) (by rfl)))) (fun _ _ _ _ _ => (pv 15))) pe_int (fun _ _ => rfl)) pa_nil)))))) pss_nil)
      (C8.pss_cut (ps_set (i := 10) sc_law.nd rfl (.inl rfl) (pe_ix ix_tup (pe_call G__law_log (hr.mono (by first | decide | omega)) (by rfl) T.g__law_log T.F__law_log.kp (b__law_log T) .nil pass0 (pa_cons (pv 1) (pa_cons (pv 3) (pa_cons pe_int pa_nil)))) pe_int (fun _ _ => rfl)))
      (C8.pss_cut (ps_if (pt_not (pt_val (pe_call G__law_equal (hr.mono (by first | decide | omega)) (by rfl) T.g__law_equal T.F__law_equal.kp (b__law_equal T) .nil pass0 (pa_cons (pe_lst (pa_cons (pe_call G_first_error (hr.mono (by first | decide | omega)) (by rfl) T.g_first_error T.F_first_error.kp (b_first_error T) .nil pass0 (pa_cons (pv 3) (pa_cons (pe_op op_cat (pe_op op_cat (pv 12) (pe_lst (pa_cons (pv 9) pa_nil))) (pv 10)) pa_nil))) pa_nil)) (pa_cons (pe_lst (pa_cons (pe_callB call_len_seq (by rfl) T.z_len (by decide +kernel) (pa_cons (pv 12) pa_nil)) pa_nil)) pa_nil))))) (pss_one (ps_ret pe_bl)) pss_nil)
      (pss_cons (ps_if (pt_cmpR op_notN (pe_call G_possible_values (hr.mono (by first | decide | omega)) (by rfl) T.g_possible_values T.F_possible_values.kp (b_possible_values T) .nil pass0 (pa_cons (pv 3) (pa_cons (pe_op op_cat (pe_op op_cat (pv 12) (pe_lst (pa_cons (pv 9) pa_nil))) (pv 10)) pa_nil))) pe_non (nomark _)) (pss_one (ps_ret pe_bl)) pss_nil)
      (C8.pss_cut (ps_set (i := 13) sc_law.nd rfl (.inr rfl) (pe_ix ix_list (pe_lst (pa_cons pe_non (pa_cons (pe_callTy call_tuple_of (by rfl) T.z_tuple (by decide +kernel) (pa_cons (pv 12) pa_nil)) (pa_cons pe_int (pa_cons pe_str pa_nil))))) (pe_call G__law_below (hr.mono (by first | decide | omega)) (by rfl) T.g__law_below T.F__law_below.kp (b__law_below T) .nil pass0 (pa_cons (pv 1) (pa_cons pe_int pa_nil))) (fun _ _ => rfl)))
      (pss_cons (ps_if (PW.pt (pw_or (pt_cmpR op_ne (pe_call G_first_error (hr.mono (by first | decide | omega)) (by rfl) T.g_first_error T.F_first_error.kp (b_first_error T) .nil pass0 (pa_cons (pv 3) (pa_cons (pv 13) pa_nil))) pe_int (nomark _)) (pw_or1 (pt_cmpR op_notN (pe_call G_possible_values (hr.mono (by first | decide | omega)) (by rfl) T.g_possible_values T.F_possible_values.kp (b_possible_values T) .nil pass0 (pa_cons (pv 3) (pa_cons (pv 13) pa_nil))) pe_non (nomark _))))) (pss_one (ps_ret pe_bl)) pss_nil)
      (C8.pss_cut (ps_set (i := 14) sc_law.nd rfl (.inr rfl) (pe_ix ix_list (pe_lst (pa_cons pe_int (pa_cons pe_int (pa_cons pe_non (pa_cons pe_bl (pa_cons pe_str pa_nil)))))) (pe_call G__law_below (hr.mono (by first | decide | omega)) (by rfl) T.g__law_below T.F__law_below.kp (b__law_below T) .nil pass0 (pa_cons (pv 1) (pa_cons pe_int pa_nil))) (fun _ _ => rfl)))
      (C8.pss_cut (ps_set (i := 11) sc_law.nd rfl (.inl rfl) (pe_lst (pa_cons (pe_lamV TB rfl (hmL Pt) rfl (huL Pt) cap1 rfl (.inl ⟨rfl, rfl⟩)) (pa_cons (pe_lamV TB rfl (hmL Pt) rfl (huL Pt) cap2 rfl (.inr ⟨.Constant (.int 0) 0 _, rfl, rfl, pe_int⟩)) pa_nil))))
      (pss_one (ps_if (pt_not (pt_val (pe_callS GA (hr.mono (by first | decide | omega)) (by rfl) T.g__law_all_raise T.F__law_all_raise.kp (C8.pass0 (E := C8.E0)) (pa_cons (pv 11) (pa_cons (pe_tup (pa_cons pe_str (pa_cons pe_int pa_nil))) pa_nil))))) (pss_one (ps_ret pe_bl)) pss_nil)))))))))))))))))))
      (pss_one (ps_ret pe_bl)))), ?_⟩
    refine ⟨_, rfl, a, 76, ns, rfl, hS, hlen, fun r H1 r0 f1 R1 => ?_⟩
    have W1 : Wd Pt r H1 := ⟨R1, fun p hp => by rw [List.mem_singleton.mp hp]; exact TabN.nil (f1 _ _ hP (by simp))⟩
    refine ⟨3, rfl, by decide, by decide, for_range (lo := 0) (n := 3) (fun i σ' H' => ∃ (v2 v3 v4 v5 v6 v7 v8 v9 v10 v11 v12 v13 v14 : Option V), σ' = [some (.ref a), some (.ref r), v2, v3, v4, v5, v6, v7, v8, v9, v10, v11, v12, v13, v14, none] ∧ Wd Pt r H') ⟨none, none, none, none, none, none, none, none, none, none, none, none, none, rfl, W1⟩ ?_ ?_⟩
    · rintro i σ' H3 hi ⟨v2, v3, v4, v5, v6, v7, v8, v9, v10, v11, v12, v13, v14, rfl, W0⟩
      clear W1 R1 f1 r0 hP hS
      -- blocks, the log, block, kind, bad entries
      refine ⟨_, rfl, r, 4, rfl, W0.rnd, by decide, by decide, fun n0 H4 hn0 f4 R4 => ⟨_, _, rfl, rfl, ?_⟩⟩
      have W4 := W0.draw f4 R4
      obtain ⟨nb, enb⟩ : ∃ nb : Nat, (nb : Int) = 1 + (n0 : Int) := ⟨1 + n0, by omega⟩
      have hb1 : 1 ≤ nb := by omega
      have hb2 : nb ≤ 4 := by omega
      show gName 3 (V.int (1 + (n0 : Int))) _ _ _
      rw [← enb]
      clear enb hn0 n0 f4 R4 W0
      refine ⟨_, rfl, _, rfl, _, rfl, r, 20, rfl, W4.rnd, by decide, by decide, fun m H5 hm f5 R5 => ?_⟩
      have W5 := W4.draw f5 R5
      refine ⟨r, nb, m, rfl, W5.rnd, hb1, by omega, by omega, fun H6 t lg pl ts pas uv es ls p f6 hlg hpl ht S tl => ?_⟩
      have W6 := W5.draw f6 S.rnd
      refine ⟨t, _, rfl, SqT.of ht, rfl, _, _, rfl, _, _, rfl, _, _, rfl, rfl, ?_⟩
      clear f5 f6 R5 hlg hpl ht W4 W5
      refine ⟨_, rfl, _, rfl, r, nb, rfl, W6.rnd, by omega, by omega, fun b H7 hb f7 R7 => ?_⟩
      have W7 := W6.draw f7 R7
      have S7 := S.draw f7 R7
      refine ⟨_, rfl, r, 4, rfl, W7.rnd, by decide, by decide, fun kd H8 hkd f8 R8 => ?_⟩
      have W8 := W7.draw f8 R8
      have S8 := S7.draw f8 R8
      clear f7 f8 R7 R8 W6 W7 S S7
      refine ⟨sz_le (by simp), fun tt htt => ⟨tt, _, rfl, SqT.of upd_same, rfl, _, _, rfl, _, _, rfl, rfl, ?_⟩⟩
      have W9 := W8.new (o := .tup [.int (b : Int), .int (kd : Int)]) htt
      have S9 := S8.keep0 (Fr.new (o := .tup [.int (b : Int), .int (kd : Int)]) htt)
      generalize (upd H8 tt (.tup [.int (b : Int), .int (kd : Int)])) = H9 at W9 S9
      clear htt W8 S8
      refine ⟨fun σ' H' => ∃ (bl : Addr), σ' = [some (.ref a), some (.ref r), some (.int (0 + (i : Int))), some (.int (nb : Int)), some (.ref pl), some uv, some (.int (b : Int)), some (.int (kd : Int)), some (.ref bl), v9, v10, v11, some (.ref lg), v13, v14, none] ∧ Wd Pt r H' ∧ LgAt H' r lg pl ts pas uv es ls p.un ∧ BadL H' nb r bl 8, ?_, ?_⟩
      · refine ⟨sz_le (by simp), fun a1 h1 => ⟨sz_le (by simp), fun a2 h2 => ⟨sz_le (by simp), fun a3 h3 => ⟨sz_le (by simp), fun a4 h4 => ⟨_, rfl, sz_le (by simp), fun a5 h5 => ⟨sz_le (by simp), fun a6 h6 => ⟨_, rfl, sz_le (by simp), fun a7 h7 => ⟨sz_le (by simp), fun bl hbl => ?_⟩⟩⟩⟩⟩⟩⟩⟩
        have F8 := Fr.new (S := []) (o := .lst [.non, .ref a1, .ref a2, .ref a3, .ref a4, .ref a5, .ref a6, .ref a7]) hbl
        have F7 := (Fr.new h7).trans F8
        have F6 := (Fr.new h6).trans F7
        have F5 := (Fr.new h5).trans F6
        have F4 := (Fr.new h4).trans F5
        have F3 := (Fr.new h3).trans F4
        have F2 := (Fr.new h2).trans F3
        have F1 := (Fr.new h1).trans F2
        have W10 := W9.keep0 F1
        have n4 : a4 ≠ r := fun z => by
          obtain ⟨x1, x2, x3, ex⟩ := (((W9.new h1).new h2).new h3).rnd
          rw [z, ex] at h4
          cases h4
        have nbl : bl ≠ r := fun z => by
          obtain ⟨x1, x2, x3, ex⟩ := (((((((W9.new h1).new h2).new h3).new h4).new h5).new h6).new h7).rnd
          rw [z, ex] at hbl
          cases hbl
        have R := W10.rnd
        refine ⟨bl, rfl, W10, S9.keep0 F1, ⟨_, upd_same, rfl, fun x hx => ?_⟩, nbl⟩
        simp only [List.mem_cons, List.not_mem_nil, or_false] at hx
        rcases hx with rfl | rfl | rfl | rfl | rfl | rfl | rfl | rfl
        · exact ⟨.inl (.inl rfl), by simp⟩
        · exact badT R (F2 _ _ upd_same (by simp)) (fc (fS (by decide +kernel)) (fc fI f0)) (by simp) (form1 (by decide +kernel))
        · exact badT R (F3 _ _ upd_same (by simp)) (fc (fS (by decide +kernel)) (fc fI f0)) (by simp) (form1 (by decide +kernel))
        · exact badT R (F4 _ _ upd_same (by simp)) f0 (by simp) rfl
        · exact ⟨.inl (.inr (.inr (.inr ⟨a4, _, rfl, F5 _ _ upd_same (by simp)⟩))), fun z => n4 (V.ref.inj z)⟩
        · exact badT R (F6 _ _ upd_same (by simp)) (fc (fS (by decide +kernel)) (fc fI (fc fI f0))) (by simp) (form2 (by unfold numV; rw [Bool.and_eq_false_iff]; exact .inr (decide_eq_false (by omega))))
        · exact badT R (F7 _ _ upd_same (by simp)) (fc (fS (by decide +kernel)) (fc fI (fc fI f0))) (by simp) (form3 (by decide))
        · exact badT R (F8 _ _ upd_same (by simp)) (fc (fS (by decide +kernel)) (fc fI f0)) (by simp) (form2 (by unfold numV; rw [Bool.and_eq_false_iff]; exact .inr (decide_eq_false (by omega))))
      clear W9 S9
      rintro _ H3 ⟨bl, rfl, W9, S9, B9⟩
      -- more of them, and one is drawn
      obtain ⟨⟨xs, ex, lx, gx⟩, nbl⟩ := B9
      refine ⟨_, rfl, sz_le (by simp), fun a1 h1 => ⟨sz_le (by simp), fun a2 h2 => ⟨sz_le (by simp), fun a3 h3 => ⟨sz_le (by simp), fun a4 h4 => ⟨sz_le (by simp), fun a5 h5 => ⟨sz_le (by simp), fun l6 h6 => ?_⟩⟩⟩⟩⟩⟩
      have F6 := Fr.new (S := []) (o := .lst [.ref a1, .ref a2, .ref a3, .ref a4, .ref a5, .int 5]) h6
      have F5 := (Fr.new h5).trans F6
      have F4 := (Fr.new h4).trans F5
      have F3 := (Fr.new h3).trans F4
      have F2 := (Fr.new h2).trans F3
      have F1 := (Fr.new h1).trans F2
      have W10 := W9.keep0 F1
      have S10 := S9.keep0 F1
      have ex1 := F1 _ _ ex (by simp)
      have gy : ∀ y ∈ [V.ref a1, V.ref a2, V.ref a3, V.ref a4, V.ref a5, V.int 5], BadE _ nb r y := fun y hy => by
        have R := W10.rnd
        simp only [List.mem_cons, List.not_mem_nil, or_false] at hy
        rcases hy with rfl | rfl | rfl | rfl | rfl | rfl
        · exact badT R (F2 _ _ upd_same (by simp)) (fc (fS (by decide +kernel)) (fc fI f0)) (by simp) (form1 (by decide +kernel))
        · exact badT R (F3 _ _ upd_same (by simp)) (fc (fS (by decide +kernel)) (fc fI (fc fI f0))) (by simp) (form1 (by decide +kernel))
        · exact badT R (F4 _ _ upd_same (by simp)) (fc (fS (by decide +kernel)) (fc fB (fc fI f0))) (by simp) (form2 rfl)
        · exact badT R (F5 _ _ upd_same (by simp)) (fc (fS (by decide +kernel)) f0) (by simp) (form1 (by decide +kernel))
        · exact badT R (F6 _ _ upd_same (by simp)) (fc (fS (by decide +kernel)) (fc fI (fc fN f0))) (by simp) (form3 rfl)
        · exact ⟨.inl (.inr (.inl ⟨5, rfl⟩)), by simp⟩
      refine ⟨bl, l6, _, _, rfl, rfl, ex1, upd_same, sz_le (by simp only [List.length_cons, List.length_nil]; omega), fun b2 hb2' => ?_⟩
      have gx2 : ∀ x ∈ xs ++ [V.ref a1, V.ref a2, V.ref a3, V.ref a4, V.ref a5, V.int 5], BadE _ nb r x := fun x hx => (List.mem_append.mp hx).elim (fun h => (gx x h).keep0 F1) (gy x)
      have nb2 := W10.out hb2'
      have W11 := W10.new (o := .lst (xs ++ [.ref a1, .ref a2, .ref a3, .ref a4, .ref a5, .int 5])) hb2'
      have S11 := S10.keep0 (Fr.new (o := .lst (xs ++ [.ref a1, .ref a2, .ref a3, .ref a4, .ref a5, .int 5])) hb2')
      have gx3 := fun x hx => (gx2 x hx).keep0 (Fr.new (o := .lst (xs ++ [.ref a1, .ref a2, .ref a3, .ref a4, .ref a5, .int 5])) hb2')
      have B11 : BadL _ nb r b2 14 := ⟨⟨_, upd_same, by rw [List.length_append, lx]; rfl, gx3⟩, nb2⟩
      clear gx2 gx3 gy F1 F2 F3 F4 F5 F6 gx ex W9 S9 W10 S10
      generalize (upd _ b2 (.lst (xs ++ [.ref a1, .ref a2, .ref a3, .ref a4, .ref a5, .int 5]))) = HC at W11 S11 B11
      clear hb2' h6 h5 h4 h3 h2 h1 ex1 lx
      refine ⟨fun σ' H' => ∃ (bl : Addr) (ev : V), σ' = [some (.ref a), some (.ref r), some (.int (0 + (i : Int))), some (.int (nb : Int)), some (.ref pl), some uv, some (.int (b : Int)), some (.int (kd : Int)), some (.ref bl), some ev, v10, v11, some (.ref lg), v13, v14, none] ∧ Wd Pt r H' ∧ LgAt H' r lg pl ts pas uv es ls p.un ∧ EntE H' nb r p ev, ?_, ?_⟩
      · obtain ⟨⟨xs, ex, lx, gx⟩, nbl⟩ := B11
        refine ⟨_, rfl, _, _, rfl, rfl, sz_le (by simp), fun a1 h1 => ⟨sz_le (by simp), fun l2 h2 => ?_⟩⟩
        have F2 := Fr.new (S := []) (o := .lst [.ref a1]) h2
        have F1 := (Fr.new h1).trans F2
        refine ⟨b2, l2, _, _, rfl, rfl, F1 _ _ ex (by simp), upd_same, sz_le (by simp only [List.length_cons, List.length_nil]; omega), fun q hq => ?_⟩
        have F0 := F1.trans (Fr.new (o := .lst (xs ++ [.ref a1])) hq)
        have W12 := W11.keep0 F0
        have S12 := S11.keep0 F0
        have nq := (W11.keep0 F1).out hq
        refine ⟨_, rfl, r, 15, rfl, W12.rnd, by decide, by decide, fun z H4 hz f4 R4 => ?_⟩
        have hz2 : z < (xs ++ [V.ref a1]).length := by rw [List.length_append, lx]; exact hz
        refine ⟨q, _, (z : Int), _, rfl, rfl, SqL.of (f4 _ _ upd_same (by simpa using nq)), atI_nat (List.getElem?_eq_getElem hz2), ?_⟩
        refine ⟨b2, _, rfl, W12.draw f4 R4, S12.draw f4 R4, ?_⟩
        refine EntE.draw (BadE.ent ?_) W12.rnd f4
        rcases List.mem_append.mp (List.getElem_mem hz2) with h | h
        · exact (gx _ h).keep0 F0
        · rw [List.mem_singleton.mp h]
          exact badT W12.rnd ((F2.trans (Fr.new (o := .lst (xs ++ [.ref a1])) hq)) _ _ upd_same (by simp)) (fc (fS (by decide +kernel)) (fc fI (fc fI f0))) (by simp) (form3 (by decide))
      clear W11 S11 B11
      rintro _ H3 ⟨bl, ev, rfl, W9, S9, E9⟩
      have hvl : p.vs.length = nb := tl.pok.len
      have hlsl : ls.length = nb := by rw [tl.sim.1, hvl]
      have hsim := tl.sim.at (b := b) (by omega)
      have hnon := S9.un.non
      -- a write is under way
      refine ⟨fun σ' H' => ∃ (ev : V), σ' = [some (.ref a), some (.ref r), some (.int (0 + (i : Int))), some (.int (nb : Int)), some (.ref pl), some uv, some (.int (b : Int)), some (.int (kd : Int)), some (.ref bl), some ev, v10, v11, some (.ref lg), v13, v14, none] ∧ Wd Pt r H' ∧ LgAt H' r lg pl ts pas uv es ls p.un ∧ EntE H' nb r p ev, ?_, ?_⟩
      · refine ⟨_, rfl, rfl, _, rfl, ?_⟩
        by_cases hk : kd = 1
        · rw [decide_eq_true (show V.int (kd : Int) = V.int 1 by rw [hk]; rfl)]
          refine iteT ⟨_, rfl, rfl, _, rfl, ?_⟩
          obtain eu | ⟨u, eu⟩ : p.un = none ∨ ∃ u, p.un = some u := by cases p.un <;> simp
          · rw [hnon, show p.un.isNone = true from by rw [eu]; rfl]
            exact iteF ⟨ev, rfl, W9, S9, E9⟩
          · rw [hnon, show p.un.isNone = false from by rw [eu]; rfl]
            have hS : p.un.isSome = true := by rw [eu]; rfl
            obtain ⟨w0, hw0, hW0⟩ := S9.pos.at (b := b) (by omega)
            have hwm : (pas.map V.ref)[b]? = some (V.ref w0) := by rw [List.getElem?_map, hw0]; rfl
            obtain ⟨x0, xr, hx0, hxx⟩ : ∃ x0 xr, ls.getD b [] = x0 :: xr ∧ (x0 = -1 ∨ (0 ≤ x0 ∧ x0 ≤ 999)) := by
              rcases hsim with ⟨e, _⟩ | ⟨g1, _, g3, _⟩
              · exact ⟨-1, [], e, .inl rfl⟩
              · cases eL : ls.getD b [] with
                | nil => exact absurd eL g1
                | cons x0 xr => exact ⟨x0, xr, rfl, .inr (g3 x0 (by rw [eL]; exact List.mem_cons_self))⟩
            rw [hx0] at hW0
            refine iteT ⟨_, rfl, _, rfl, _, rfl, pl, _, (b : Int), _, rfl, rfl, SqL.of S9.pos.lst, atI_nat hwm, w0, _, ((0 : Nat) : Int), _, rfl, rfl, SqL.of hW0, atI_nat rfl, sz_le (by simp), fun a1 h1 => ?_⟩
            refine ⟨_, rfl, sz_le (by simp), fun a2 h2 => ⟨_, rfl, sz_le (by simp), fun a3 h3 => ⟨sz_le (by simp), fun l4 h4 => ?_⟩⟩⟩
            have F4 := Fr.new (S := []) (o := .lst [.ref a1, .ref a2, .ref a3]) h4
            have F3 := (Fr.new h3).trans F4
            have F2 := (Fr.new h2).trans F3
            have F1 := (Fr.new h1).trans F2
            have W10 := W9.keep0 F1
            have S10 := S9.keep0 F1
            have nl := (W9.keep0 (((Fr.new (S := []) h1).trans (Fr.new h2)).trans (Fr.new h3))).out h4
            refine ⟨_, rfl, r, 3, rfl, W10.rnd, by decide, by decide, fun z H5 hz f5 R5 => ?_⟩
            have l5 := f5 _ _ (upd_same (o := .lst [.ref a1, .ref a2, .ref a3])) (by simpa using nl)
            have R := W10.rnd
            match z, hz with
            | 0, _ =>
              refine ⟨l4, _, ((0 : Nat) : Int), _, rfl, rfl, SqL.of l5, atI_nat (j := 0) rfl, ?_⟩
              refine ⟨_, rfl, W10.draw f5 R5, S10.draw f5 R5, EntE.draw ?_ R f5⟩
              rcases hxx with e | e
              · exact (badT R (F2 _ _ upd_same (by simp)) (fc (fS (by decide +kernel)) (fc fI (fc fI f0))) (by simp) (form3 (by rw [e]; decide))).ent
              · refine entT (e := .rd b x0) R (F2 _ _ upd_same (by simp)) ⟨hb, e⟩ ?_
                unfold Po.go
                rw [hS]
                rfl
            | 1, _ =>
              refine ⟨l4, _, ((1 : Nat) : Int), _, rfl, rfl, SqL.of l5, atI_nat (j := 1) rfl, ?_⟩
              refine ⟨_, rfl, W10.draw f5 R5, S10.draw f5 R5, EntE.draw ?_ R f5⟩
              refine entT (e := .bg b 5) R (F3 _ _ upd_same (by simp)) ⟨hb, by decide, by decide⟩ ?_
              unfold Po.go
              rw [hS]
              rfl
            | 2, _ =>
              refine ⟨l4, _, ((2 : Nat) : Int), _, rfl, rfl, SqL.of l5, atI_nat (j := 2) rfl, ?_⟩
              refine ⟨_, rfl, W10.draw f5 R5, S10.draw f5 R5, EntE.draw ?_ R f5⟩
              refine entT (e := .ls b) R (F4 _ _ upd_same (by simp)) hb ?_
              unfold Po.go
              rw [hS]
              rfl
        · rw [decI (a := (kd : Int)) (b := 1) (by omega)]
          exact iteF ⟨ev, rfl, W9, S9, E9⟩
      clear W9 S9 E9
      rintro _ H3 ⟨ev, rfl, W9, S9, E9⟩
      -- none is
      refine ⟨fun σ' H' => ∃ (ev : V), σ' = [some (.ref a), some (.ref r), some (.int (0 + (i : Int))), some (.int (nb : Int)), some (.ref pl), some uv, some (.int (b : Int)), some (.int (kd : Int)), some (.ref bl), some ev, v10, v11, some (.ref lg), v13, v14, none] ∧ Wd Pt r H' ∧ LgAt H' r lg pl ts pas uv es ls p.un ∧ EntE H' nb r p ev, ?_, ?_⟩
      · refine ⟨_, rfl, rfl, _, rfl, ?_⟩
        by_cases hk : kd = 1
        · rw [decide_eq_true (show V.int (kd : Int) = V.int 1 by rw [hk]; rfl)]
          refine iteT ⟨_, rfl, rfl, _, rfl, ?_⟩
          rw [hnon]
          obtain eu | ⟨u, eu⟩ : p.un = none ∨ ∃ u, p.un = some u := by cases p.un <;> simp
          rotate_left
          · rw [show p.un.isNone = false from by rw [eu]; rfl]
            exact iteF ⟨ev, rfl, W9, S9, E9⟩
          · rw [show p.un.isNone = true from by rw [eu]; rfl]
            refine iteT ⟨sz_le (by simp), fun t1 h1 => ?_⟩
            have F1 := Fr.new (S := []) (o := .tup [.str "done"]) h1
            have W10 := W9.keep0 F1
            refine ⟨_, rfl, W10, S9.keep0 F1, entT (e := .dn) W10.rnd upd_same trivial ?_⟩
            unfold Po.go
            rw [eu]
        · rw [decI (a := (kd : Int)) (b := 1) (by omega)]
          exact iteF ⟨ev, rfl, W9, S9, E9⟩
      clear W9 S9 E9
      rintro _ H3 ⟨ev, rfl, W9, S9, E9⟩
      -- a value that cannot be
      refine ⟨fun σ' H' => ∃ (ev : V), σ' = [some (.ref a), some (.ref r), some (.int (0 + (i : Int))), some (.int (nb : Int)), some (.ref pl), some uv, some (.int (b : Int)), some (.int (kd : Int)), some (.ref bl), some ev, v10, v11, some (.ref lg), v13, v14, none] ∧ Wd Pt r H' ∧ LgAt H' r lg pl ts pas uv es ls p.un ∧ EntE H' nb r p ev, ?_, ?_⟩
      · refine ⟨_, rfl, rfl, _, rfl, ?_⟩
        by_cases hk : kd = 2
        · rw [decide_eq_true (show V.int (kd : Int) = V.int 2 by rw [hk]; rfl)]
          refine iteT ⟨_, rfl, rfl, _, rfl, ?_⟩
          rw [hnon]
          obtain eu | ⟨u, eu⟩ : p.un = none ∨ ∃ u, p.un = some u := by cases p.un <;> simp
          rotate_left
          · rw [show p.un.isNone = false from by rw [eu]; rfl]
            exact iteF ⟨ev, rfl, W9, S9, E9⟩
          · rw [show p.un.isNone = true from by rw [eu]; rfl]
            obtain ⟨w0, hw0, hW0⟩ := S9.pos.at (b := b) (by omega)
            have hwm : (pas.map V.ref)[b]? = some (V.ref w0) := by rw [List.getElem?_map, hw0]; rfl
            refine iteT ⟨_, rfl, _, rfl, pl, _, (b : Int), _, rfl, rfl, SqL.of S9.pos.lst, atI_nat hwm, _, _, rfl, rfl, sz_le (by simp), fun q hq => ?_⟩
            have g := Fr.new (S := []) (o := .lst [V.int (0 - 1)]) hq
            have W10 := W9.keep0 g
            have S10 := S9.keep0 g
            have E10 := E9.keep0 g
            have hW1 := g _ _ hW0 (by simp)
            refine ⟨_, _, .lst (SqL.of hW1) (dpAll_ints _), .lst (SqL.of upd_same) (dpAll_ints [(0 - 1 : Int)]), shapedL_ints _, shapedL_ints _, _, rfl, ?_⟩
            rw [eqvL_ints]
            generalize (upd H3 q (.lst [V.int (0 - 1)])) = H10 at W10 S10 E10 hW1
            clear W9 S9 E9 g hq hW0
            by_cases hany : ls.getD b [] = [0 - 1]
            · rw [decide_eq_true hany]
              exact iteF ⟨ev, rfl, W10, S10, E10⟩
            · rw [decide_eq_false hany]
              refine iteT ⟨_, rfl, 40, rfl, by decide, by decide, fun D hD => ?_⟩
              obtain ⟨g1, g2, g3, g4⟩ : ls.getD b [] ≠ [] ∧ (ls.getD b []).length ≤ m + 1 ∧ (∀ x ∈ ls.getD b [], 0 ≤ x ∧ x ≤ 999) ∧ (∀ x, x ∈ ls.getD b [] ↔ x ∈ p.vs.getD b []) := by
                rcases hsim with ⟨e, _⟩ | ⟨g1, g2, g3, g4, _, _⟩
                · exact absurd e hany
                · exact ⟨g1, g2, g3, g4⟩
              refine lc_range (lo := 0) (n := 40) (fun j H' => Fr [] H10 H' ∧ H' D = some (.lst ((freeOf (ls.getD b []) j).map V.int))) ⟨Fr.new hD, upd_same⟩ ?_ ?_
              · rintro j H11 hj ⟨f11, e11⟩
                refine ⟨rfl, _, rfl, _, rfl, _, rfl, pl, _, _, _, rfl, rfl, SqL.of (S10.keep0 f11).pos.lst, atI_nat hwm, w0, _, rfl, .inl (SqL.of (f11 _ _ hW1 (by simp))), rfl, flat_ints _, _, rfl, ?_⟩
                rw [inV_int, show (0 : Int) + (j : Int) = (j : Int) from by omega]
                by_cases hm : (j : Int) ∈ ls.getD b []
                · rw [decide_eq_true hm]
                  exact iteF ⟨f11, by rw [freeOf_succ, decide_eq_true hm]; simpa using e11⟩
                · rw [decide_eq_false hm]
                  refine iteT ⟨_, rfl, _, e11, ?_, f11.upd0 hD, ?_⟩
                  · have := freeOf_len (ls.getD b []) j
                    rw [List.length_map]
                    exact sz_lt (by omega)
                  · rw [upd_same, freeOf_succ, decide_eq_false hm, List.map_append]
                    rfl
              · rintro H11 ⟨f11, e11⟩
                obtain ⟨x, xr, ef, hx1, hx2, hx3⟩ := freeOf_first (l := ls.getD b []) (n := 40) (by omega)
                rw [ef] at e11
                refine ⟨D, _, ((0 : Nat) : Int), _, rfl, rfl, SqL.of e11, atI_nat (j := 0) rfl, sz_le (by simp), fun t1 h1 => ?_⟩
                have F := f11.trans (Fr.new (o := .tup [.str "read", .int (b : Int), .int x]) h1)
                have W12 := W10.keep0 F
                refine ⟨_, rfl, W12, S10.keep0 F, entT (e := .rd b x) W12.rnd upd_same ⟨hb, by omega, by omega⟩ ?_⟩
                unfold Po.go
                rw [eu]
                exact if_neg fun z => hx1 ((g4 x).mpr z)
        · rw [decI (a := (kd : Int)) (b := 2) (by omega)]
          exact iteF ⟨ev, rfl, W9, S9, E9⟩
      clear W9 S9 E9
      rintro _ H3 ⟨ev, rfl, W9, S9, E9⟩
      -- more of a log
      refine ⟨fun σ' H' => ∃ (mo : Addr) (ts2 : List Addr) (es2 : List En), σ' = [some (.ref a), some (.ref r), some (.int (0 + (i : Int))), some (.int (nb : Int)), some (.ref pl), some uv, some (.int (b : Int)), some (.int (kd : Int)), some (.ref bl), some ev, some (.ref mo), v11, some (.ref lg), v13, v14, none] ∧ Wd Pt r H' ∧ Lq H' nb r lg ts es ∧ Lq H' nb r mo ts2 es2 ∧ EntE H' nb r p ev ∧ es2.length = 3, ?_, ?_⟩
      · have L9 : Lq H3 nb r lg ts es := ⟨S9.rnd, S9.log, S9.len, S9.its, tl.ok, S9.rl⟩
        refine ⟨_, rfl, _, rfl, r, nb, 3, rfl, W9.rnd, hb1, by omega, by omega, fun H6 t lg2 pl2 ts2 pas2 uv2 es2 ls2 p2 f6 hlg hpl ht S2 tl2 => ?_⟩
        refine ⟨t, _, ((0 : Nat) : Int), _, rfl, rfl, SqT.of ht, atI_nat rfl, ?_⟩
        exact ⟨lg2, ts2, es2, rfl, W9.draw f6 S2.rnd, L9.draw f6 S2.rnd, ⟨S2.rnd, S2.log, S2.len, S2.its, tl2.ok, S2.rl⟩, E9.draw W9.rnd f6, tl2.len⟩
      clear W9 S9 E9 hnon hsim
      rintro _ H3 ⟨mo, ts2, es2, rfl, W9, L9, M9, E9, hes2⟩
      have hel : es.length ≤ 19 := by rw [tl.len]; omega
      have htl := L9.len
      have htl2 := M9.len
      have lenX : (es.map some ++ [(none : Option En)] ++ es2.map some).length ≤ 60 := by simp only [List.length_append, List.length_map, List.length_cons, List.length_nil]; omega
      have wlk : ∀ {H : Hp} {q : Addr}, Wd Pt r H → Lq H nb r lg ts es → Lq H nb r mo ts2 es2 → EntE H nb r p ev → H q = some (.lst (ts.map V.ref ++ [ev] ++ ts2.map V.ref)) → Walked H nb (.ref q) (some es.length, p) := fun {H q} W L M E e => by
        obtain ⟨o, h1, h2, _⟩ := E
        refine .inl ⟨q, _, _, rfl, Log.mid L M h1 e, ?_, (walk_bad tl.run h2).symm⟩
        simp only [List.length_append, List.length_map, List.length_cons, List.length_nil]
        omega
      -- the first error
      refine ⟨fun σ' H' => σ' = [some (.ref a), some (.ref r), some (.int (0 + (i : Int))), some (.int (nb : Int)), some (.ref pl), some uv, some (.int (b : Int)), some (.int (kd : Int)), some (.ref bl), some ev, some (.ref mo), v11, some (.ref lg), v13, v14, none] ∧ Wd Pt r H' ∧ Lq H' nb r lg ts es ∧ Lq H' nb r mo ts2 es2 ∧ EntE H' nb r p ev, ?_, ?_⟩
      · refine ⟨_, rfl, _, rfl, _, rfl, sz_le (by simp), fun l1 h1 => ?_⟩
        have G1 := Fr.new (S := []) (o := .lst [ev]) h1
        refine ⟨lg, l1, _, _, rfl, rfl, G1 _ _ L9.log (by simp), upd_same, by rw [List.length_map]; exact sz_le (by simp; omega), fun l2 h2 => ?_⟩
        have G2 := G1.trans (Fr.new (o := .lst (ts.map V.ref ++ [ev])) h2)
        refine ⟨_, rfl, l2, mo, _, _, rfl, rfl, upd_same, G2 _ _ M9.log (by simp), by simp only [List.length_append, List.length_map, List.length_cons, List.length_nil]; exact sz_le (by omega), fun l3 h3 => ?_⟩
        have G3 := G2.trans (Fr.new (o := .lst (ts.map V.ref ++ [ev] ++ ts2.map V.ref)) h3)
        refine ⟨nb, _, (some es.length, p), rfl, hb1, by omega, wlk (W9.keep0 G3) (L9.keep0 G3) (M9.keep0 G3) (E9.keep0 G3) upd_same, fun H4 f4 => ?_⟩
        have G4 := G3.trans f4
        refine ⟨sz_le (by simp), fun q1 hq1 => ?_⟩
        have G5 := G4.trans (Fr.new (o := .lst [optV (some es.length)]) hq1)
        refine ⟨_, rfl, lg, _, rfl, .inl (SqL.of (G5 _ _ L9.log (by simp))), sz_le (by simp), fun q2 hq2 => ?_⟩
        rw [List.length_map, htl]
        have G6 := G5.trans (Fr.new (o := .lst [.int (es.length : Int)]) hq2)
        refine ⟨.ref q1, .ref q2, rfl, .inr ⟨q1, q2, _, _, rfl, rfl, .inr ⟨(upd_ne (free_upd hq2).2.symm).trans upd_same, upd_same⟩, rfl, by simp, fun j x y e1 e2 => ?_⟩, fun H5 f5 => ⟨_, rfl, iteF ?_⟩⟩
        · match j, e1, e2 with
          | 0, e1, e2 =>
            cases e1
            cases e2
            exact Eqn.flat rfl 3
          | j + 1, e1, e2 => simp at e1
        · have G7 := G6.trans f5
          exact ⟨rfl, W9.keep0 G7, L9.keep0 G7, M9.keep0 G7, E9.keep0 G7⟩
      clear W9 L9 M9 E9
      rintro _ H3 ⟨rfl, W9, L9, M9, E9⟩
      -- no values
      refine ⟨_, rfl, _, rfl, _, rfl, sz_le (by simp), fun l1 h1 => ?_⟩
      have G1 := Fr.new (S := []) (o := .lst [ev]) h1
      refine ⟨lg, l1, _, _, rfl, rfl, G1 _ _ L9.log (by simp), upd_same, by rw [List.length_map]; exact sz_le (by simp; omega), fun l2 h2 => ?_⟩
      have G2 := G1.trans (Fr.new (o := .lst (ts.map V.ref ++ [ev])) h2)
      refine ⟨_, rfl, l2, mo, _, _, rfl, rfl, upd_same, G2 _ _ M9.log (by simp), by simp only [List.length_append, List.length_map, List.length_cons, List.length_nil]; exact sz_le (by omega), fun l3 h3 => ?_⟩
      have G3 := G2.trans (Fr.new (o := .lst (ts.map V.ref ++ [ev] ++ ts2.map V.ref)) h3)
      refine ⟨nb, _, (some es.length, p), rfl, hb1, by omega, wlk (W9.keep0 G3) (L9.keep0 G3) (M9.keep0 G3) (E9.keep0 G3) upd_same, short_now tl.pok (by omega), ?_⟩
      show ∀ (H' : Hp), Fr [] _ H' → _
      intro H4 f4
      have G4 := G3.trans f4
      refine ⟨rfl, _, rfl, iteF ?_⟩
      have W10 := W9.keep0 G4
      have L10 := L9.keep0 G4
      clear W9 L9 M9 E9 G1 G2 G3 G4 f4 h1 h2 h3 wlk
      -- what is no log
      refine ⟨fun σ' H' => ∃ nv : V, σ' = [some (.ref a), some (.ref r), some (.int (0 + (i : Int))), some (.int (nb : Int)), some (.ref pl), some uv, some (.int (b : Int)), some (.int (kd : Int)), some (.ref bl), some ev, some (.ref mo), v11, some (.ref lg), some nv, v14, none] ∧ Wd Pt r H' ∧ NoLst H' nv, ?_, ?_⟩
      · refine ⟨_, rfl, lg, _, rfl, .inl ⟨SqL.of L10.log, fun tp htp => ⟨sz_le (by simp), fun g hg => ?_⟩⟩⟩
        have G1 := (Fr.new (S := []) (o := .tup (ts.map V.ref)) htp)
        have W11 := W10.keep0 G1
        have ng := W11.out hg
        have W12 := W11.new (o := .lst [.non, .ref tp, .int 5, .str "log"]) hg
        refine ⟨_, rfl, r, 4, rfl, W12.rnd, by decide, by decide, fun z H5 hz f5 R5 => ?_⟩
        have et := f5 _ _ ((upd_ne (o := .lst [.non, .ref tp, .int 5, .str "log"]) (free_upd hg).2.symm).trans (upd_same (o := .tup (ts.map V.ref)))) (fun zz => W12.rnd.notup _ zz _ ((upd_ne (free_upd hg).2.symm).trans upd_same))
        obtain ⟨nv, hv, nl⟩ := none_at et hz
        exact ⟨g, _, (z : Int), nv, rfl, rfl, SqL.of (f5 _ _ upd_same (by simpa using ng)), hv, nv, rfl, W12.draw f5 R5, nl⟩
      clear W10 L10
      rintro _ H3 ⟨nv, rfl, W9, n9⟩
      refine ⟨_, rfl, _, rfl, nb, nv, (some 0, po0 nb), rfl, hb1, by omega, .inr ⟨n9, rfl⟩, fun H4 f4 => ⟨rfl, _, rfl, iteF ?_⟩⟩
      refine ⟨_, rfl, _, rfl, nb, nv, (some 0, po0 nb), rfl, hb1, by omega, .inr ⟨n9.keep0 f4, rfl⟩, short_now (po0_ok nb) (by omega), ?_⟩
      show ∀ (H' : Hp), Fr [] _ H' → _
      intro H5 f5
      refine ⟨rfl, _, rfl, iteF ?_⟩
      have W10 := (W9.keep0 f4).keep0 f5
      clear W9 n9 f4 f5
      -- a number that cannot be
      refine ⟨fun σ' H' => ∃ ov : V, σ' = [some (.ref a), some (.ref r), some (.int (0 + (i : Int))), some (.int (nb : Int)), some (.ref pl), some uv, some (.int (b : Int)), some (.int (kd : Int)), some (.ref bl), some ev, some (.ref mo), v11, some (.ref lg), some nv, some ov, none] ∧ Wd Pt r H' ∧ FlatE ov ∧ numV ov 1 16 = false, ?_, ?_⟩
      · refine ⟨sz_le (by simp), fun g hg => ?_⟩
        have ng := W10.out hg
        have W12 := W10.new (o := .lst [.int 0, .int 17, .non, .bl true, .str "1"]) hg
        refine ⟨_, rfl, r, 5, rfl, W12.rnd, by decide, by decide, fun z H5 hz f5 R5 => ?_⟩
        obtain ⟨ov, hv, h1, h2⟩ := odd_at hz
        exact ⟨g, _, (z : Int), ov, rfl, rfl, SqL.of (f5 _ _ upd_same (by simpa using ng)), hv, ov, rfl, W12.draw f5 R5, h1, h2⟩
      clear W10
      rintro _ H3 ⟨ov, rfl, W9, fo, no⟩
      -- calls
      refine ⟨fun σ' H' => ∃ (lc c1 c2 : Addr), σ' = [some (.ref a), some (.ref r), some (.int (0 + (i : Int))), some (.int (nb : Int)), some (.ref pl), some uv, some (.int (b : Int)), some (.int (kd : Int)), some (.ref bl), some ev, some (.ref mo), some (.ref lc), some (.ref lg), some nv, some ov, none] ∧ Wd Pt r H' ∧ H' lc = some (.lst [.ref c1, .ref c2]) ∧
        (∃ F : LF, Lv c1 F H' ∧ F.cl = cloFrom (PyProof.Rows.envOfC "law" (defScope s_law) s0.heap.objs.size f (.ref cd)).cells (lamS lam1).names [] ∧ ∀ b2, LOk P w K mg b2 (L2N.CX P w) 8 c1 F ["_law_odd", "_law_none"] (lpZ T)) ∧
        (∃ F : LF, Lv c2 F H' ∧ F.cl = cloFrom (PyProof.Rows.envOfC "law" (defScope s_law) s0.heap.objs.size f (.ref cd)).cells (lamS lam2).names [] ∧ ∀ b2, LOk P w K mg b2 (L2N.CX P w) 8 c2 F ["_law_odd", "_law_log_here"] (lpZ T)), ?_, ?_⟩
      · refine ⟨W9.tab, fun c1 F1 H1 q1 q2 q3 q4 q5 q6 eN1 TB1 hf1 L1 => ⟨TB1, fun c2 F2 H2 p1 p2 p3 p4 p5 p6 eN2 TB2 hf2 L2 => ⟨sz_le (by simp), fun lc hlc => ?_⟩⟩⟩
        have fl : Fr [] H2 (upd H2 lc (.lst [.ref c1, .ref c2])) := Fr.new hlc
        exact ⟨lc, c1, c2, rfl, ((W9.lam eN1 TB1).lam eN2 TB2).keep0 fl, upd_same,
          ⟨F1, (L1.keep fun b o e _ nt _ => eN2 b o e nt).fr fl, q5, fun b2 => lok_1 T q3 q4 q2 q6⟩, ⟨F2, L2.fr fl, p5, fun b2 => lok_2 T p3 p4 p2 p6⟩⟩
      clear W9
      rintro _ HG ⟨lc, c1, c2, rfl, WG, ec, ⟨F1, L1, k1, o1⟩, ⟨F2, L2, k2, o2⟩⟩
      refine ⟨_, rfl, sz_le (by simp), fun e he pins s1 I => ?_⟩
      have fe : Fr [] HG (upd HG e (.tup [.str "size", .int 0])) := Fr.new he
      have lp : ∀ u : V, ∀ H', Fr [] (upd HG e (.tup [.str "size", .int 0])) H' → ∀ (Q' : VK) (E' : XK), (∀ cls d H'', Fr [] H' H'' → Tells T cls d H'' [.str "size", .int 0] → E' cls d H'') → lpZ T [some ov, some u] H' Q' E' := fun u H' f' Q' E' hE =>
        ⟨ov, u, rfl, fo, no, fun H'' f'' => hE _ _ _ f'' fun Q k => ⟨rfl, ⟨[], rfl⟩, k⟩⟩
      refine ⟨lc, e, [c1, c2], "size", 0, rfl, fe _ _ ec (by simp), by simp, upd_same, by decide +kernel, fun c hcm => ?_, fun H' f' => ?_⟩
      · rcases List.mem_cons.mp hcm with rfl | hcm
        · exact ⟨F1, ["_law_odd", "_law_none"], [some ov, some nv], lpZ T, o1, Act.made (js := [14, 13]) (fun _ => rfl) I (L1.fr fe) (by rw [k1]; exact Caps.made I.ok cap1 free1 rfl), lp nv⟩
        · rw [List.mem_singleton.mp hcm]
          exact ⟨F2, ["_law_odd", "_law_log_here"], [some ov, some (.ref lg)], lpZ T, o2, Act.made (js := [14, 12]) (fun _ => rfl) I (L2.fr fe) (by rw [k2]; exact Caps.made I.ok cap2 free2 rfl), lp (.ref lg)⟩
      · have ff := fe.trans f'
        exact ⟨_, rfl, iteF ⟨_, _, _, _, _, _, _, _, _, _, _, _, _, rfl, WG.keep0 ff⟩⟩
    · rintro _ H1 _
      exact k _
end
section
open PySem.Spec PySem.Calls PySem.W PyProof.Rows LamX NdefX
theorem init_funS {K : Frag} {d : Hx.Df} {C : Addr} {file : Str} (e : Hx.seen K (d.at_.ad K) = d.want) (c : d.sound K = true) (hd : d.dfl = []) (i : Hx.isInit K (d.at_.ad K) C file = true) : ∃ fd cc, FunS K file d.name d.qual d.st C cc (d.at_.ad K) fd := by
  obtain ⟨kp, c2⟩ := Bool.and_eq_true_iff.mp c
  unfold Hx.seen at e
  unfold Hx.isInit at i
  cases q : K.lookup (d.at_.ad K) with
  | none =>
    rw [q] at e
    cases e
  | some o =>
    obtain ⟨oc, od, dt, osl⟩ := o
    rw [q] at c2 e i
    cases dt with
    | func u =>
      obtain ⟨n1, n2, n3, n4, n5, n6, n7, n8, n9, n10, n11, n12, n13, n14, n15⟩ := u
      have e2 : (some (n4, n5, n3, n1, n2, n6, n15) : Hx.Seen) = some (.stmts (defBody d.st), defScope d.st, defArgs d.st, d.name, d.qual, mainGlobals, builtinsNs) := e
      simp only [Option.some.injEq, Prod.mk.injEq] at e2
      obtain ⟨h4, h5, h3, h1, h2, h6, h8⟩ := e2
      have c3 : ((d.own || n7.isEmpty) && (codeIn K n13 d.qual && (He.dflB K n8 d.dfl && He.kwdB K n9 d.kwd))) = true := c2
      obtain ⟨_, c4⟩ := Bool.and_eq_true_iff.mp c3
      obtain ⟨k1, k2⟩ := Bool.and_eq_true_iff.mp c4
      obtain ⟨k3, _⟩ := Bool.and_eq_true_iff.mp k2
      simp only at i
      split at i
      · rename_i x1 x2 nm cc c7 hc
        subst h1 h2 h3 h4 h5 h6 h8
        obtain ⟨i1, i2⟩ := Bool.and_eq_true_iff.mp i
        obtain ⟨i3, i4⟩ := Bool.and_eq_true_iff.mp i1
        have en := eq_of_beq i3
        subst en
        rw [hd] at k3
        have e8 : n8 = .none := by
          cases n8 with
          | none => rfl
          | _ => cases k3
        subst e8
        split at i4
        · rename_i ec ed D es eD
          have eC := eq_of_beq i4
          subst eC
          split at i2
          · rename_i cl cdd vs csl ev
            split at i2
            · rename_i z tf ez
              have ef := eq_of_beq i2
              subst ef
              exact ⟨_, cc, ⟨oc, od, n9, n10, n11, n12, c7, n14, osl, cl, cdd, vs, csl, tf, ec, ed, es, rfl, q, k1, ev, ez, eD⟩, kp⟩
            · cases i2
          · cases i2
        · cases i4
      · cases i
    | _ => cases e
end
section
open PySem PySem.W PySem.Calls PyProof.Rows
def hxn0 : List PySem.Str := ["__name__", "PairError", "InvalidSize", "InvalidCell", "InvalidKept", "InvalidRules", "InvalidRecipes", "InvalidBlock", "InvalidValue", "InvalidCount", "InvalidSlot", "InvalidWord"]
def hxn1 : List PySem.Str := ["InvalidStory", "InvalidRequests", "InvalidPrices", "InvalidPlan", "PowerFailed", "PowerOff", "PowerOn", "NoFastDisk", "HasFastDisk", "Unsettled", "Contradiction", "InvalidOperation"]
def hxn2 : List PySem.Str := ["InvalidName", "UnknownName", "NotationError", "DecodeError", "MOST_BLOCKS", "MOST_VALUE", "is_number", "is_number_from", "check_blocks", "ENTRY_FORMS", "ANY_VALUE", "Possibilities"]
def hxn3 : List PySem.Str := ["first_error", "possible_values", "_walk", "_has_form", "_law_random", "_law_below", "_law_log", "_law_equal", "_law_told_of", "_law_error_of", "_law_all_raise"]
def hnames : List PySem.Str := hxn0 ++ hxn1 ++ hxn2 ++ hxn3
def hxd0 : List Hx.Df := [⟨.glo "is_number", "is_number", "is_number", s_is_number, [], [], false⟩,
  ⟨.glo "is_number_from", "is_number_from", "is_number_from", s_is_number_from, [], [], false⟩,
  ⟨.glo "check_blocks", "check_blocks", "check_blocks", s_check_blocks, [.int (16)], [], false⟩,
  ⟨.meth "Possibilities" "__init__", "__init__", "Possibilities.__init__", s_Possibilities___init__, [], [], false⟩,
  ⟨.meth "Possibilities" "follow", "follow", "Possibilities.follow", s_Possibilities_follow, [], [], false⟩,
  ⟨.meth "Possibilities" "values_now", "values_now", "Possibilities.values_now", s_Possibilities_values_now, [], [], false⟩,
  ⟨.glo "first_error", "first_error", "first_error", s_first_error, [], [], false⟩,
  ⟨.glo "possible_values", "possible_values", "possible_values", s_possible_values, [], [], false⟩,
  ⟨.glo "_walk", "_walk", "_walk", s__walk, [], [], false⟩,
  ⟨.glo "_has_form", "_has_form", "_has_form", s__has_form, [], [], false⟩,
  ⟨.glo "_law_random", "_law_random", "_law_random", s__law_random, [], [], false⟩,
  ⟨.glo "_law_below", "_law_below", "_law_below", s__law_below, [], [], false⟩,
  ⟨.glo "_law_log", "_law_log", "_law_log", s__law_log, [], [], false⟩,
  ⟨.glo "_law_equal", "_law_equal", "_law_equal", s__law_equal, [], [], false⟩,
  ⟨.glo "_law_told_of", "_law_told_of", "_law_told_of", s__law_told_of, [], [], false⟩,
  ⟨.glo "_law_error_of", "_law_error_of", "_law_error_of", s__law_error_of, [], [], false⟩,
  ⟨.glo "_law_all_raise", "_law_all_raise", "_law_all_raise", s__law_all_raise, [], [], false⟩,
  ⟨.glo "law", "law", "law", s_law, [], [], false⟩]
def hdefs : List Hx.Df := hxd0
def hfile : PySem.Str := PySem.Challenge.pw_keepbefore_k76_logs_that_cannot_be.main.file
def hxf0 (K : Frag) : List Bool := [(He.Fa.glo "Possibilities").ok K,
  (He.Fa.cls "Possibilities").ok K,
  (He.Fa.noat "Possibilities" "_values").ok K,
  (He.Fa.noat "Possibilities" "_under_way").ok K,
  (He.Fa.glo "is_number").ok K,
  (He.Fa.glo "is_number_from").ok K,
  (He.Fa.glo "check_blocks").ok K,
  (He.Fa.mkr "Possibilities").ok K,
  (He.Fa.meth "Possibilities" "follow").ok K,
  (He.Fa.meth "Possibilities" "values_now").ok K,
  (He.Fa.glo "first_error").ok K,
  (He.Fa.glo "possible_values").ok K,
  (He.Fa.glo "_walk").ok K,
  (He.Fa.glo "_has_form").ok K,
  (He.Fa.glo "_law_random").ok K,
  (He.Fa.glo "_law_below").ok K,
  (He.Fa.glo "_law_log").ok K,
  (He.Fa.glo "_law_equal").ok K,
  (He.Fa.glo "_law_told_of").ok K,
  (He.Fa.glo "_law_error_of").ok K,
  (He.Fa.glo "_law_all_raise").ok K,
  (He.Fa.free "isinstance").ok K,
  (He.Fa.free "int").ok K,
  (He.Fa.free "bool").ok K,
  (He.Fa.free "str").ok K,
  (He.Fa.free "list").ok K,
  (He.Fa.free "tuple").ok K,
  (He.Fa.free "len").ok K,
  (He.Fa.free "abs").ok K,
  (He.Fa.free "range").ok K,
  (He.Fa.free "enumerate").ok K,
  (He.Fa.free "sorted").ok K,
  (He.Fa.free "all").ok K,
  (He.Fa.free "ValueError").ok K,
  (He.Fa.int "MOST_BLOCKS" (16)).ok K,
  (He.Fa.int "MOST_VALUE" (999)).ok K,
  (He.Fa.int "ANY_VALUE" (-1)).ok K,
  Hx.isTup K (Hx.itAd K (He.ga K "ENTRY_FORMS") 0) [.str "read", .int 3],
  Hx.isTup K (Hx.itAd K (He.ga K "ENTRY_FORMS") 1) [.str "begin", .int 3],
  Hx.isTup K (Hx.itAd K (He.ga K "ENTRY_FORMS") 2) [.str "done", .int 1]]
def hxf1 (K : Frag) : List Bool := [Hx.isTup K (Hx.itAd K (He.ga K "ENTRY_FORMS") 3) [.str "fail", .int 1],
  Hx.isTup K (Hx.itAd K (He.ga K "ENTRY_FORMS") 4) [.str "lost", .int 2],
  Hx.isTup K (He.ga K "ENTRY_FORMS") [.ref (Hx.itAd K (He.ga K "ENTRY_FORMS") 0), .ref (Hx.itAd K (He.ga K "ENTRY_FORMS") 1), .ref (Hx.itAd K (He.ga K "ENTRY_FORMS") 2), .ref (Hx.itAd K (He.ga K "ENTRY_FORMS") 3), .ref (Hx.itAd K (He.ga K "ENTRY_FORMS") 4)],
  (He.Fa.glo "ENTRY_FORMS").ok K,
  decide (PySem.W.nsIn K cStatics "thirdparty.any" = some none),
  (He.Fa.glo "InvalidSize").ok K,
  PySem.W.isClsIn K (He.ga K "InvalidSize"),
  decide (PySem.W.typeIn K (.ref (He.ga K "InvalidSize")) = some (.type "type")),
  (He.Fa.glo "InvalidCell").ok K,
  PySem.W.isClsIn K (He.ga K "InvalidCell"),
  decide (PySem.W.typeIn K (.ref (He.ga K "InvalidCell")) = some (.type "type")),
  (He.Fa.glo "InvalidKept").ok K,
  PySem.W.isClsIn K (He.ga K "InvalidKept"),
  decide (PySem.W.typeIn K (.ref (He.ga K "InvalidKept")) = some (.type "type")),
  (He.Fa.glo "InvalidBlock").ok K,
  PySem.W.isClsIn K (He.ga K "InvalidBlock"),
  decide (PySem.W.typeIn K (.ref (He.ga K "InvalidBlock")) = some (.type "type")),
  (He.Fa.glo "InvalidValue").ok K,
  PySem.W.isClsIn K (He.ga K "InvalidValue"),
  decide (PySem.W.typeIn K (.ref (He.ga K "InvalidValue")) = some (.type "type")),
  (He.Fa.glo "InvalidCount").ok K,
  PySem.W.isClsIn K (He.ga K "InvalidCount"),
  decide (PySem.W.typeIn K (.ref (He.ga K "InvalidCount")) = some (.type "type")),
  (He.Fa.glo "InvalidSlot").ok K,
  PySem.W.isClsIn K (He.ga K "InvalidSlot"),
  decide (PySem.W.typeIn K (.ref (He.ga K "InvalidSlot")) = some (.type "type")),
  (He.Fa.glo "InvalidWord").ok K,
  PySem.W.isClsIn K (He.ga K "InvalidWord"),
  decide (PySem.W.typeIn K (.ref (He.ga K "InvalidWord")) = some (.type "type")),
  (He.Fa.glo "InvalidStory").ok K,
  PySem.W.isClsIn K (He.ga K "InvalidStory"),
  decide (PySem.W.typeIn K (.ref (He.ga K "InvalidStory")) = some (.type "type")),
  (He.Fa.glo "PowerOff").ok K,
  PySem.W.isClsIn K (He.ga K "PowerOff"),
  decide (PySem.W.typeIn K (.ref (He.ga K "PowerOff")) = some (.type "type")),
  (He.Fa.glo "PowerOn").ok K,
  PySem.W.isClsIn K (He.ga K "PowerOn"),
  decide (PySem.W.typeIn K (.ref (He.ga K "PowerOn")) = some (.type "type")),
  (He.Fa.glo "NoFastDisk").ok K,
  PySem.W.isClsIn K (He.ga K "NoFastDisk")]
def hxf2 (K : Frag) : List Bool := [decide (PySem.W.typeIn K (.ref (He.ga K "NoFastDisk")) = some (.type "type")),
  (He.Fa.glo "HasFastDisk").ok K,
  PySem.W.isClsIn K (He.ga K "HasFastDisk"),
  decide (PySem.W.typeIn K (.ref (He.ga K "HasFastDisk")) = some (.type "type")),
  (He.Fa.glo "Unsettled").ok K,
  PySem.W.isClsIn K (He.ga K "Unsettled"),
  decide (PySem.W.typeIn K (.ref (He.ga K "Unsettled")) = some (.type "type")),
  (He.Fa.glo "Contradiction").ok K,
  PySem.W.isClsIn K (He.ga K "Contradiction"),
  decide (PySem.W.typeIn K (.ref (He.ga K "Contradiction")) = some (.type "type")),
  (He.Fa.glo "InvalidName").ok K,
  PySem.W.isClsIn K (He.ga K "InvalidName"),
  decide (PySem.W.typeIn K (.ref (He.ga K "InvalidName")) = some (.type "type")),
  (He.Fa.glo "UnknownName").ok K,
  PySem.W.isClsIn K (He.ga K "UnknownName"),
  decide (PySem.W.typeIn K (.ref (He.ga K "UnknownName")) = some (.type "type")),
  (He.Fa.glo "InvalidRules").ok K,
  PySem.W.isClsIn K (He.ga K "InvalidRules"),
  decide (PySem.W.typeIn K (.ref (He.ga K "InvalidRules")) = some (.type "type")),
  (He.Fa.glo "InvalidRecipes").ok K,
  PySem.W.isClsIn K (He.ga K "InvalidRecipes"),
  decide (PySem.W.typeIn K (.ref (He.ga K "InvalidRecipes")) = some (.type "type")),
  (He.Fa.glo "InvalidRequests").ok K,
  PySem.W.isClsIn K (He.ga K "InvalidRequests"),
  decide (PySem.W.typeIn K (.ref (He.ga K "InvalidRequests")) = some (.type "type")),
  (He.Fa.glo "InvalidPrices").ok K,
  PySem.W.isClsIn K (He.ga K "InvalidPrices"),
  decide (PySem.W.typeIn K (.ref (He.ga K "InvalidPrices")) = some (.type "type")),
  (He.Fa.glo "InvalidPlan").ok K,
  PySem.W.isClsIn K (He.ga K "InvalidPlan"),
  decide (PySem.W.typeIn K (.ref (He.ga K "InvalidPlan")) = some (.type "type")),
  (He.Fa.glo "PowerFailed").ok K,
  PySem.W.isClsIn K (He.ga K "PowerFailed"),
  decide (PySem.W.typeIn K (.ref (He.ga K "PowerFailed")) = some (.type "type")),
  (He.Fa.glo "InvalidOperation").ok K,
  PySem.W.isClsIn K (He.ga K "InvalidOperation"),
  decide (PySem.W.typeIn K (.ref (He.ga K "InvalidOperation")) = some (.type "type")),
  (He.Fa.glo "NotationError").ok K,
  PySem.W.isClsIn K (He.ga K "NotationError"),
  decide (PySem.W.typeIn K (.ref (He.ga K "NotationError")) = some (.type "type"))]
def hxf3 (K : Frag) : List Bool := [(He.Fa.glo "DecodeError").ok K,
  PySem.W.isClsIn K (He.ga K "DecodeError"),
  decide (PySem.W.typeIn K (.ref (He.ga K "DecodeError")) = some (.type "type")),
  (He.Fa.glo "PairError").ok K,
  PySem.W.isClsIn K (He.ga K "PairError"),
  decide (PySem.W.typeIn K (.ref (He.ga K "PairError")) = some (.type "type")),
  decide (PySem.W.subIn K (.ref (He.ga K "PairError")) (.type "BaseException") = some true),
  PySem.W.hasDictIn K (He.ga K "PairError"),
  decide (PySem.W.subIn K (.ref (He.ga K "InvalidSize")) (.ref (He.ga K "InvalidSize")) = some true),
  decide (PySem.W.subIn K (.ref (He.ga K "InvalidSize")) (.ref (He.ga K "InvalidCell")) = some false),
  decide (PySem.W.subIn K (.ref (He.ga K "InvalidSize")) (.ref (He.ga K "InvalidKept")) = some false),
  decide (PySem.W.subIn K (.ref (He.ga K "InvalidSize")) (.ref (He.ga K "InvalidBlock")) = some false),
  decide (PySem.W.subIn K (.ref (He.ga K "InvalidSize")) (.ref (He.ga K "InvalidValue")) = some false),
  decide (PySem.W.subIn K (.ref (He.ga K "InvalidSize")) (.ref (He.ga K "InvalidCount")) = some false),
  decide (PySem.W.subIn K (.ref (He.ga K "InvalidSize")) (.ref (He.ga K "InvalidSlot")) = some false),
  decide (PySem.W.subIn K (.ref (He.ga K "InvalidSize")) (.ref (He.ga K "InvalidWord")) = some false),
  decide (PySem.W.subIn K (.ref (He.ga K "InvalidSize")) (.ref (He.ga K "InvalidStory")) = some false),
  decide (PySem.W.subIn K (.ref (He.ga K "InvalidSize")) (.ref (He.ga K "PowerOff")) = some false),
  decide (PySem.W.subIn K (.ref (He.ga K "InvalidSize")) (.ref (He.ga K "PowerOn")) = some false),
  decide (PySem.W.subIn K (.ref (He.ga K "InvalidSize")) (.ref (He.ga K "NoFastDisk")) = some false),
  decide (PySem.W.subIn K (.ref (He.ga K "InvalidSize")) (.ref (He.ga K "HasFastDisk")) = some false),
  decide (PySem.W.subIn K (.ref (He.ga K "InvalidSize")) (.ref (He.ga K "Unsettled")) = some false),
  decide (PySem.W.subIn K (.ref (He.ga K "InvalidSize")) (.ref (He.ga K "Contradiction")) = some false),
  decide (PySem.W.subIn K (.ref (He.ga K "InvalidSize")) (.ref (He.ga K "InvalidName")) = some false),
  decide (PySem.W.subIn K (.ref (He.ga K "InvalidSize")) (.ref (He.ga K "UnknownName")) = some false),
  decide (PySem.W.subIn K (.ref (He.ga K "InvalidSize")) (.ref (He.ga K "InvalidRules")) = some false),
  decide (PySem.W.subIn K (.ref (He.ga K "InvalidSize")) (.ref (He.ga K "InvalidRecipes")) = some false),
  decide (PySem.W.subIn K (.ref (He.ga K "InvalidSize")) (.ref (He.ga K "InvalidRequests")) = some false),
  decide (PySem.W.subIn K (.ref (He.ga K "InvalidSize")) (.ref (He.ga K "InvalidPrices")) = some false),
  decide (PySem.W.subIn K (.ref (He.ga K "InvalidSize")) (.ref (He.ga K "InvalidPlan")) = some false),
  decide (PySem.W.subIn K (.ref (He.ga K "InvalidSize")) (.ref (He.ga K "PowerFailed")) = some false),
  decide (PySem.W.subIn K (.ref (He.ga K "InvalidSize")) (.ref (He.ga K "InvalidOperation")) = some false),
  decide (PySem.W.subIn K (.ref (He.ga K "InvalidSize")) (.ref (He.ga K "NotationError")) = some false),
  decide (PySem.W.subIn K (.ref (He.ga K "InvalidSize")) (.ref (He.ga K "DecodeError")) = some false),
  decide (PySem.W.subIn K (.ref (He.ga K "InvalidSize")) (.ref (He.ga K "PairError")) = some true),
  decide (PySem.W.subIn K (.ref (He.ga K "InvalidSize")) (.type "ValueError") = some true),
  decide (PySem.W.findIn K (.ref (He.ga K "InvalidSize")) "__getattribute__" = some (some (.builtin "BaseException.__getattribute__"))),
  decide (PySem.W.findIn K (.ref (He.ga K "InvalidSize")) "__getattr__" = some none),
  decide (PySem.W.subIn K (.ref (He.ga K "InvalidSize")) (.type "BaseException") = some true),
  PySem.W.hasDictIn K (He.ga K "InvalidSize")]
def hxf4 (K : Frag) : List Bool := [decide (PySem.W.findIn K (.ref (He.ga K "InvalidSize")) "__class__" = some (some (.builtin "object.__class__"))),
  decide (PySem.W.specialIn K (.builtin "object.__class__") "__get__" = some (some (.builtin "getset_descriptor.__get__"))),
  decide (PySem.W.takesIn K (.builtin "object.__class__") = some true),
  decide (PySem.W.mroIn K (He.ga K "InvalidSize") (.type "object") = some true),
  PySem.W.keepIn K (.ref (He.ga K "InvalidSize")),
  PySem.W.excIn K (He.ga K "InvalidSize") PySem.HandSPX.veTail "ValueError.__new__",
  (He.Fa.glo "law").ok K]
def hfacts (K : Frag) : List (List Bool) := [hxf0 K, hxf1 K, hxf2 K, hxf3 K, hxf4 K]
abbrev hR : OpenRow := OpenLaw.row PySem.Challenge.rw_keepbefore_k76_logs_that_cannot_be
def hex (K : Frag) : Bool := (hfacts K).all fun l => l.all id
abbrev htf : List Hx.At := [.glo "law"]
abbrev hk : Hook := Hx.hook 6 hdefs hex htf
theorem hrun (w : World) : HandSHeadRun.RunEq hR (view hR.prog [50]) hk (Hx.ob 6 hdefs hex htf) 40000 hnames w := by
  intro os
  kernel_rfl
end
section
open PySem PySem.Spec PyProof.Rows L2
open LamX in
theorem all_ok {l : PySem.W.OpenLaw} {w : World} {K : PySem.W.Frag} {h : Heap} {mg : Str → Option Value} {fa : Addr} (X : K.In h) (G : h.Ns mainGlobals mg) (hfa : mg ("law" : Str) = some (.ref fa)) (c : Hx.Says hdefs (fun K => (hfacts K).all fun l => l.all id) htf h K) (HF : ProgOk l.prog hfile) :
    LawAtS l w K C8.CX0 14 63 "_law_script" mg fa h := by
  obtain ⟨fd_is_number, F_is_number⟩ := c.def_ 0
  obtain ⟨fd_is_number_from, F_is_number_from⟩ := c.def_ 1
  obtain ⟨fd_check_blocks, F_check_blocks⟩ := c.def_ 2
  obtain ⟨fd_Possibilities___init__, F_Possibilities___init__⟩ := c.def_ 3
  obtain ⟨fd_Possibilities_follow, F_Possibilities_follow⟩ := c.def_ 4
  obtain ⟨fd_Possibilities_values_now, F_Possibilities_values_now⟩ := c.def_ 5
  obtain ⟨fd_first_error, F_first_error⟩ := c.def_ 6
  obtain ⟨fd_possible_values, F_possible_values⟩ := c.def_ 7
  obtain ⟨fd__walk, F__walk⟩ := c.def_ 8
  obtain ⟨fd__has_form, F__has_form⟩ := c.def_ 9
  obtain ⟨fd__law_random, F__law_random⟩ := c.def_ 10
  obtain ⟨fd__law_below, F__law_below⟩ := c.def_ 11
  obtain ⟨fd__law_log, F__law_log⟩ := c.def_ 12
  obtain ⟨fd__law_equal, F__law_equal⟩ := c.def_ 13
  obtain ⟨fd__law_told_of, F__law_told_of⟩ := c.def_ 14
  obtain ⟨fd__law_error_of, F__law_error_of⟩ := c.def_ 15
  obtain ⟨fd__law_all_raise, F__law_all_raise⟩ := c.def_ 16
  obtain ⟨t_MOST_BLOCKS, c_MOST_BLOCKS⟩ := He.int_ok X G (c.fact 0 34)
  obtain ⟨t_MOST_VALUE, c_MOST_VALUE⟩ := He.int_ok X G (c.fact 0 35)
  obtain ⟨t_ANY_VALUE, c_ANY_VALUE⟩ := He.int_ok X G (c.fact 0 36)
  obtain ⟨fd, F⟩ := c.def_ 17
  have e := hfa.symm.trans (He.glo_ok X G (c.fact 4 6))
  cases e
  obtain ⟨T, hT⟩ : ∃ T : Gx K mg, T.file = hfile := ⟨{
    C_Possibilities := (He.ga K "Possibilities"), gC_Possibilities := He.glo_ok X G (c.fact 0 0), cl_Possibilities := He.cls_ok (c.fact 0 1),
    n_Possibilities__values := He.noat_ok (c.fact 0 2),
    n_Possibilities__under_way := He.noat_ok (c.fact 0 3),
    f_is_number := Hx.At.ad K (.glo "is_number"), fd_is_number := fd_is_number, F_is_number := Hx.plain F_is_number,
    g_is_number := He.glo_ok X G (c.fact 0 4),
    f_is_number_from := Hx.At.ad K (.glo "is_number_from"), fd_is_number_from := fd_is_number_from, F_is_number_from := Hx.plain F_is_number_from,
    g_is_number_from := He.glo_ok X G (c.fact 0 5),
    f_check_blocks := Hx.At.ad K (.glo "check_blocks"), fd_check_blocks := fd_check_blocks, F_check_blocks := F_check_blocks,
    g_check_blocks := He.glo_ok X G (c.fact 0 6),
    f_Possibilities___init__ := Hx.At.ad K (.meth "Possibilities" "__init__"), fd_Possibilities___init__ := fd_Possibilities___init__, F_Possibilities___init__ := Hx.plain F_Possibilities___init__,
    M_Possibilities___init__ := He.mkr_ok (c.fact 0 7),
    f_Possibilities_follow := Hx.At.ad K (.meth "Possibilities" "follow"), fd_Possibilities_follow := fd_Possibilities_follow, F_Possibilities_follow := Hx.plain F_Possibilities_follow,
    m_Possibilities_follow := He.meth_ok (c.fact 0 8),
    f_Possibilities_values_now := Hx.At.ad K (.meth "Possibilities" "values_now"), fd_Possibilities_values_now := fd_Possibilities_values_now, F_Possibilities_values_now := Hx.plain F_Possibilities_values_now,
    m_Possibilities_values_now := He.meth_ok (c.fact 0 9),
    f_first_error := Hx.At.ad K (.glo "first_error"), fd_first_error := fd_first_error, F_first_error := Hx.plain F_first_error,
    g_first_error := He.glo_ok X G (c.fact 0 10),
    f_possible_values := Hx.At.ad K (.glo "possible_values"), fd_possible_values := fd_possible_values, F_possible_values := Hx.plain F_possible_values,
    g_possible_values := He.glo_ok X G (c.fact 0 11),
    f__walk := Hx.At.ad K (.glo "_walk"), fd__walk := fd__walk, F__walk := Hx.plain F__walk,
    g__walk := He.glo_ok X G (c.fact 0 12),
    f__has_form := Hx.At.ad K (.glo "_has_form"), fd__has_form := fd__has_form, F__has_form := Hx.plain F__has_form,
    g__has_form := He.glo_ok X G (c.fact 0 13),
    f__law_random := Hx.At.ad K (.glo "_law_random"), fd__law_random := fd__law_random, F__law_random := Hx.plain F__law_random,
    g__law_random := He.glo_ok X G (c.fact 0 14),
    f__law_below := Hx.At.ad K (.glo "_law_below"), fd__law_below := fd__law_below, F__law_below := Hx.plain F__law_below,
    g__law_below := He.glo_ok X G (c.fact 0 15),
    f__law_log := Hx.At.ad K (.glo "_law_log"), fd__law_log := fd__law_log, F__law_log := Hx.plain F__law_log,
    g__law_log := He.glo_ok X G (c.fact 0 16),
    f__law_equal := Hx.At.ad K (.glo "_law_equal"), fd__law_equal := fd__law_equal, F__law_equal := Hx.plain F__law_equal,
    g__law_equal := He.glo_ok X G (c.fact 0 17),
    f__law_told_of := Hx.At.ad K (.glo "_law_told_of"), fd__law_told_of := fd__law_told_of, F__law_told_of := Hx.plain F__law_told_of,
    g__law_told_of := He.glo_ok X G (c.fact 0 18),
    f__law_error_of := Hx.At.ad K (.glo "_law_error_of"), fd__law_error_of := fd__law_error_of, F__law_error_of := Hx.plain F__law_error_of,
    g__law_error_of := He.glo_ok X G (c.fact 0 19),
    f__law_all_raise := Hx.At.ad K (.glo "_law_all_raise"), fd__law_all_raise := fd__law_all_raise, F__law_all_raise := Hx.plain F__law_all_raise,
    g__law_all_raise := He.glo_ok X G (c.fact 0 20),
    z_isinstance := He.free_ok X G (c.fact 0 21),
    z_int := He.free_ok X G (c.fact 0 22),
    z_bool := He.free_ok X G (c.fact 0 23),
    z_str := He.free_ok X G (c.fact 0 24),
    z_list := He.free_ok X G (c.fact 0 25),
    z_tuple := He.free_ok X G (c.fact 0 26),
    z_len := He.free_ok X G (c.fact 0 27),
    z_abs := He.free_ok X G (c.fact 0 28),
    z_range := He.free_ok X G (c.fact 0 29),
    z_enumerate := He.free_ok X G (c.fact 0 30),
    z_sorted := He.free_ok X G (c.fact 0 31),
    z_all := He.free_ok X G (c.fact 0 32),
    z_ValueError := He.free_ok X G (c.fact 0 33),
    t_MOST_BLOCKS := t_MOST_BLOCKS, c_MOST_BLOCKS := c_MOST_BLOCKS,
    t_MOST_VALUE := t_MOST_VALUE, c_MOST_VALUE := c_MOST_VALUE,
    t_ANY_VALUE := t_ANY_VALUE, c_ANY_VALUE := c_ANY_VALUE,
    A_ENTRY_FORMS_0 := (Hx.itAd K (He.ga K "ENTRY_FORMS") 0), k_ENTRY_FORMS_0 := Hx.isTup_ok (c.fact 0 37),
    A_ENTRY_FORMS_1 := (Hx.itAd K (He.ga K "ENTRY_FORMS") 1), k_ENTRY_FORMS_1 := Hx.isTup_ok (c.fact 0 38),
    A_ENTRY_FORMS_2 := (Hx.itAd K (He.ga K "ENTRY_FORMS") 2), k_ENTRY_FORMS_2 := Hx.isTup_ok (c.fact 0 39),
    A_ENTRY_FORMS_3 := (Hx.itAd K (He.ga K "ENTRY_FORMS") 3), k_ENTRY_FORMS_3 := Hx.isTup_ok (c.fact 1 0),
    A_ENTRY_FORMS_4 := (Hx.itAd K (He.ga K "ENTRY_FORMS") 4), k_ENTRY_FORMS_4 := Hx.isTup_ok (c.fact 1 1),
    A_ENTRY_FORMS := (He.ga K "ENTRY_FORMS"), k_ENTRY_FORMS := Hx.isTup_ok (c.fact 1 2),
    g_ENTRY_FORMS := He.glo_ok X G (c.fact 1 3),
    file := hfile, third := of_decide_eq_true (c.fact 1 4),
    C_InvalidSize := (He.ga K "InvalidSize"), gC_InvalidSize := He.glo_ok X G (c.fact 1 5), ic_InvalidSize := (c.fact 1 6), ty_InvalidSize := of_decide_eq_true (c.fact 1 7),
    C_InvalidCell := (He.ga K "InvalidCell"), gC_InvalidCell := He.glo_ok X G (c.fact 1 8), ic_InvalidCell := (c.fact 1 9), ty_InvalidCell := of_decide_eq_true (c.fact 1 10),
    C_InvalidKept := (He.ga K "InvalidKept"), gC_InvalidKept := He.glo_ok X G (c.fact 1 11), ic_InvalidKept := (c.fact 1 12), ty_InvalidKept := of_decide_eq_true (c.fact 1 13),
    C_InvalidBlock := (He.ga K "InvalidBlock"), gC_InvalidBlock := He.glo_ok X G (c.fact 1 14), ic_InvalidBlock := (c.fact 1 15), ty_InvalidBlock := of_decide_eq_true (c.fact 1 16),
    C_InvalidValue := (He.ga K "InvalidValue"), gC_InvalidValue := He.glo_ok X G (c.fact 1 17), ic_InvalidValue := (c.fact 1 18), ty_InvalidValue := of_decide_eq_true (c.fact 1 19),
    C_InvalidCount := (He.ga K "InvalidCount"), gC_InvalidCount := He.glo_ok X G (c.fact 1 20), ic_InvalidCount := (c.fact 1 21), ty_InvalidCount := of_decide_eq_true (c.fact 1 22),
    C_InvalidSlot := (He.ga K "InvalidSlot"), gC_InvalidSlot := He.glo_ok X G (c.fact 1 23), ic_InvalidSlot := (c.fact 1 24), ty_InvalidSlot := of_decide_eq_true (c.fact 1 25),
    C_InvalidWord := (He.ga K "InvalidWord"), gC_InvalidWord := He.glo_ok X G (c.fact 1 26), ic_InvalidWord := (c.fact 1 27), ty_InvalidWord := of_decide_eq_true (c.fact 1 28),
    C_InvalidStory := (He.ga K "InvalidStory"), gC_InvalidStory := He.glo_ok X G (c.fact 1 29), ic_InvalidStory := (c.fact 1 30), ty_InvalidStory := of_decide_eq_true (c.fact 1 31),
    C_PowerOff := (He.ga K "PowerOff"), gC_PowerOff := He.glo_ok X G (c.fact 1 32), ic_PowerOff := (c.fact 1 33), ty_PowerOff := of_decide_eq_true (c.fact 1 34),
    C_PowerOn := (He.ga K "PowerOn"), gC_PowerOn := He.glo_ok X G (c.fact 1 35), ic_PowerOn := (c.fact 1 36), ty_PowerOn := of_decide_eq_true (c.fact 1 37),
    C_NoFastDisk := (He.ga K "NoFastDisk"), gC_NoFastDisk := He.glo_ok X G (c.fact 1 38), ic_NoFastDisk := (c.fact 1 39), ty_NoFastDisk := of_decide_eq_true (c.fact 2 0),
    C_HasFastDisk := (He.ga K "HasFastDisk"), gC_HasFastDisk := He.glo_ok X G (c.fact 2 1), ic_HasFastDisk := (c.fact 2 2), ty_HasFastDisk := of_decide_eq_true (c.fact 2 3),
    C_Unsettled := (He.ga K "Unsettled"), gC_Unsettled := He.glo_ok X G (c.fact 2 4), ic_Unsettled := (c.fact 2 5), ty_Unsettled := of_decide_eq_true (c.fact 2 6),
    C_Contradiction := (He.ga K "Contradiction"), gC_Contradiction := He.glo_ok X G (c.fact 2 7), ic_Contradiction := (c.fact 2 8), ty_Contradiction := of_decide_eq_true (c.fact 2 9),
    C_InvalidName := (He.ga K "InvalidName"), gC_InvalidName := He.glo_ok X G (c.fact 2 10), ic_InvalidName := (c.fact 2 11), ty_InvalidName := of_decide_eq_true (c.fact 2 12),
    C_UnknownName := (He.ga K "UnknownName"), gC_UnknownName := He.glo_ok X G (c.fact 2 13), ic_UnknownName := (c.fact 2 14), ty_UnknownName := of_decide_eq_true (c.fact 2 15),
    C_InvalidRules := (He.ga K "InvalidRules"), gC_InvalidRules := He.glo_ok X G (c.fact 2 16), ic_InvalidRules := (c.fact 2 17), ty_InvalidRules := of_decide_eq_true (c.fact 2 18),
    C_InvalidRecipes := (He.ga K "InvalidRecipes"), gC_InvalidRecipes := He.glo_ok X G (c.fact 2 19), ic_InvalidRecipes := (c.fact 2 20), ty_InvalidRecipes := of_decide_eq_true (c.fact 2 21),
    C_InvalidRequests := (He.ga K "InvalidRequests"), gC_InvalidRequests := He.glo_ok X G (c.fact 2 22), ic_InvalidRequests := (c.fact 2 23), ty_InvalidRequests := of_decide_eq_true (c.fact 2 24),
    C_InvalidPrices := (He.ga K "InvalidPrices"), gC_InvalidPrices := He.glo_ok X G (c.fact 2 25), ic_InvalidPrices := (c.fact 2 26), ty_InvalidPrices := of_decide_eq_true (c.fact 2 27),
    C_InvalidPlan := (He.ga K "InvalidPlan"), gC_InvalidPlan := He.glo_ok X G (c.fact 2 28), ic_InvalidPlan := (c.fact 2 29), ty_InvalidPlan := of_decide_eq_true (c.fact 2 30),
    C_PowerFailed := (He.ga K "PowerFailed"), gC_PowerFailed := He.glo_ok X G (c.fact 2 31), ic_PowerFailed := (c.fact 2 32), ty_PowerFailed := of_decide_eq_true (c.fact 2 33),
    C_InvalidOperation := (He.ga K "InvalidOperation"), gC_InvalidOperation := He.glo_ok X G (c.fact 2 34), ic_InvalidOperation := (c.fact 2 35), ty_InvalidOperation := of_decide_eq_true (c.fact 2 36),
    C_NotationError := (He.ga K "NotationError"), gC_NotationError := He.glo_ok X G (c.fact 2 37), ic_NotationError := (c.fact 2 38), ty_NotationError := of_decide_eq_true (c.fact 2 39),
    C_DecodeError := (He.ga K "DecodeError"), gC_DecodeError := He.glo_ok X G (c.fact 3 0), ic_DecodeError := (c.fact 3 1), ty_DecodeError := of_decide_eq_true (c.fact 3 2),
    C_PairError := (He.ga K "PairError"), gC_PairError := He.glo_ok X G (c.fact 3 3), ic_PairError := (c.fact 3 4), ty_PairError := of_decide_eq_true (c.fact 3 5),
    pb := of_decide_eq_true (c.fact 3 6), ph := (c.fact 3 7),
    sb_InvalidSize_InvalidSize := of_decide_eq_true (c.fact 3 8),
    sb_InvalidSize_InvalidCell := of_decide_eq_true (c.fact 3 9),
    sb_InvalidSize_InvalidKept := of_decide_eq_true (c.fact 3 10),
    sb_InvalidSize_InvalidBlock := of_decide_eq_true (c.fact 3 11),
    sb_InvalidSize_InvalidValue := of_decide_eq_true (c.fact 3 12),
    sb_InvalidSize_InvalidCount := of_decide_eq_true (c.fact 3 13),
    sb_InvalidSize_InvalidSlot := of_decide_eq_true (c.fact 3 14),
    sb_InvalidSize_InvalidWord := of_decide_eq_true (c.fact 3 15),
    sb_InvalidSize_InvalidStory := of_decide_eq_true (c.fact 3 16),
    sb_InvalidSize_PowerOff := of_decide_eq_true (c.fact 3 17),
    sb_InvalidSize_PowerOn := of_decide_eq_true (c.fact 3 18),
    sb_InvalidSize_NoFastDisk := of_decide_eq_true (c.fact 3 19),
    sb_InvalidSize_HasFastDisk := of_decide_eq_true (c.fact 3 20),
    sb_InvalidSize_Unsettled := of_decide_eq_true (c.fact 3 21),
    sb_InvalidSize_Contradiction := of_decide_eq_true (c.fact 3 22),
    sb_InvalidSize_InvalidName := of_decide_eq_true (c.fact 3 23),
    sb_InvalidSize_UnknownName := of_decide_eq_true (c.fact 3 24),
    sb_InvalidSize_InvalidRules := of_decide_eq_true (c.fact 3 25),
    sb_InvalidSize_InvalidRecipes := of_decide_eq_true (c.fact 3 26),
    sb_InvalidSize_InvalidRequests := of_decide_eq_true (c.fact 3 27),
    sb_InvalidSize_InvalidPrices := of_decide_eq_true (c.fact 3 28),
    sb_InvalidSize_InvalidPlan := of_decide_eq_true (c.fact 3 29),
    sb_InvalidSize_PowerFailed := of_decide_eq_true (c.fact 3 30),
    sb_InvalidSize_InvalidOperation := of_decide_eq_true (c.fact 3 31),
    sb_InvalidSize_NotationError := of_decide_eq_true (c.fact 3 32),
    sb_InvalidSize_DecodeError := of_decide_eq_true (c.fact 3 33),
    sb_InvalidSize_PairError := of_decide_eq_true (c.fact 3 34),
    vb_InvalidSize := of_decide_eq_true (c.fact 3 35),
    E_InvalidSize := ⟨of_decide_eq_true (c.fact 3 36), of_decide_eq_true (c.fact 3 37), of_decide_eq_true (c.fact 3 38), (c.fact 3 39), of_decide_eq_true (c.fact 4 0), of_decide_eq_true (c.fact 4 1), of_decide_eq_true (c.fact 4 2), of_decide_eq_true (c.fact 4 3)⟩,
    kp_InvalidSize := (c.fact 4 4),
    pl_InvalidSize := (c.fact 4 5) }, rfl⟩
  have HP : ProgOk l.prog T.file := by
    rw [hT]
    exact HF
  obtain ⟨oc_law, od_law, kV_law, dc_law, pm_law, an_law, cd_law, ct_law, osl_law, rfl, lk_law, hcd_law, ec_law⟩ := Hx.lamF F
  have th_law := c.head (.glo "law") (by simp)
  have to_law := c.out (.glo "law") (by simp)
  have tt_law := c.tab (.glo "law") (by simp)
  rw [show Hx.cdAd K (Hx.At.ad K (.glo "law")) = cd_law from ec_law] at th_law to_law tt_law
  have q1 : ∀ p ∈ [(cd_law, He.tabOf K cd_law)], h.get? p.2 = some { cls := .none, data := .fields #[] } := fun p hp => by
    rw [List.mem_singleton.mp hp]
    exact tt_law
  have q2 : ∀ p ∈ [(cd_law, He.tabOf K cd_law)], K.lookup p.2 = none := fun p hp => by
    rw [List.mem_singleton.mp hp]
    exact to_law
  have q3 : ∀ p ∈ [(cd_law, He.tabOf K cd_law)], PySem.W.codeHdIn K p.1 p.2 = true := fun p hp => by
    rw [List.mem_singleton.mp hp]
    exact th_law
  exact ⟨_, [(cd_law, He.tabOf K cd_law)], spLaw K (He.tabOf K cd_law), q1, q2, fun p hp => PySem.W.codeHd_of_K X (q3 p hp), fun s v => .of_eq rfl, fun H a ns hl _ hH hS => ⟨a, ns, rfl, hS, hl, hH (cd_law, He.tabOf K cd_law) List.mem_cons_self, fun _ => rfl⟩, fun base _ _ hTB => ok_law T HP lk_law hcd_law (hTB (cd_law, He.tabOf K cd_law) List.mem_cons_self)⟩
end
end Kb
open PySem PySem.W PySem.Calls PyProof.Rows in
set_option maxRecDepth 100000 in
set_option maxHeartbeats 0 in
theorem PySem.Challenge.cw_keepbefore_k76_logs_that_cannot_be_holds : PySem.Challenge.rw_keepbefore_k76_logs_that_cannot_be.Holds := by
  w_on; o_law
  refine HandSHeadRun.head_any (r := OpenLaw.row PySem.Challenge.rw_keepbefore_k76_logs_that_cannot_be) (q := view (OpenLaw.row PySem.Challenge.rw_keepbefore_k76_logs_that_cannot_be).prog [50]) (H := Kb.hk) (ob := Hx.ob 6 Kb.hdefs Kb.hex Kb.htf) (M := 40000) (loose := Kb.hnames) (d := HandSHeadRun.topDef (OpenLaw.row PySem.Challenge.rw_keepbefore_k76_logs_that_cannot_be).prog 50) (kwd := []) Hx.ob_eq
    (by kernel_rfl) (fun s => by kernel_rfl) Kb.hrun (by kernel_rfl) (by kernel_rfl) (by kernel_rfl) (by rfl) (by first | assumption | decide +kernel) (by decide +kernel) ⟨rfl, rfl, rfl, rfl, rfl, by decide +kernel⟩ ?hw ?hc
  case hw => w_witness2
  case hc =>
    refine LamX.walk_ofTsE (l := PySem.Challenge.rw_keepbefore_k76_logs_that_cannot_be) (n := 63) (k := 14) (x := "_law_script") (CX := fun _ => C8.CX0) rfl (by decide) (by kernel_rfl) ⟨rfl, by decide, by decide⟩ ?F (fun _ _ _ _ _ z => z)
    intro w mg fa h Y G hmg0
    obtain ⟨K, KX, c⟩ := Y
    have hmg : mg ("law" : PySem.Str) = some (.ref fa) := by
      have e : (HandSHeadRun.topDef (OpenLaw.row PySem.Challenge.rw_keepbefore_k76_logs_that_cannot_be).prog 50).name = ("law" : PySem.Str) := by kernel_rfl
      rw [← e]
      exact hmg0
    exact ⟨K, KX, Kb.all_ok KX G hmg c ⟨by first | exact beq_self_eq_true (α := PySem.Str) _ | rfl | decide +kernel, by first | rfl | decide +kernel⟩⟩
