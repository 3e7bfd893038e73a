import PyProof.Rows.All
import Wide.All
import OpenK.AllK
import Wide.FinOn
import HandS.ForMost
import HandS.Defaults
import HandS.Property
import HandS.IsInst
import HandS.Conv
import HandS.Codes
import HandS.MakeKwOnly
import HandS.GenYield
import HandS.TupAny
import HandS.Zip
import HandS.Walk
import HandS.Wide
import KE.DatumOrd
import HandS.Style
import HandS.TupSets
import HandS.DictComp
import HandS.Dict
import HandS.Iter
import HandS.More
import HandS.Small
import HandS.Star
import HandS.ClsMeth
import HandS.SortRule
import PyProof.FString2
import HandS.Nested
import HandS.ExcInit
import HandS.ExcField
import HandS.ExcIs
import HandS.FStr
import HandS.WordsExc
import HandS.TryOnly
import KE.KExcSuper
import KE.KExcIs
import HandS.ExcSuper
import HandS.HotCalls
import HandS.ExcInitHot
import HandS.NestedHot
import HandS.ClsMeth
import HandS.EndTab
import HandS.EndBits
import HandS.StrSplit
import HandS.Strs
import HandS.Deep
import KE.KStateDown
import HandS.Head0
import HandS.Head1
import HandS.Head2
import HandS.HeadEnd
import HandS.HeadHook1
import HandS.HeadHook2
import HandS.HeadHook3
import HandS.HeadHook4
import HandS.HeadWalk
import PySem.Challenge.RW_keepbefore_k50_whole_failures_beyond_the
set_option Elab.async false
set_option linter.all false
set_option maxRecDepth 100000
set_option maxHeartbeats 4000000
/-! ### what is looked at behind the top: the defs, the classes, the names -/
namespace Hx
open PySem PySem.Spec PyProof.Rows L2
/-- where a def stands: a name of the top, a method, a property's getter, a class method -/
inductive At where
  | glo (x : Str)
  | meth (C m : Str)
  | prop (C m : Str)
  | clsm (C m : Str)
section
variable {K : PySem.W.Frag} {p C : Addr} {t : String} {m : Str}
def recAd (K : PySem.W.Frag) (p : Addr) (t : String) : Addr := match PySem.W.recIn K p t with
  | some (.ref f :: _) => f
  | _ => 0
def isRec (K : PySem.W.Frag) (p : Addr) (t : String) : Bool := match PySem.W.recIn K p t with
  | some (.ref _ :: _) => true
  | _ => false
theorem isRec_ok (h : isRec K p t = true) : ∃ rest, PySem.W.recIn K p t = some (.ref (recAd K p t) :: rest) := by
  unfold isRec at h
  split at h
  · rename_i f r e
    refine ⟨r, ?_⟩
    unfold recAd
    rw [e]
  · cases h
def clAd (K : PySem.W.Frag) (C : Addr) (m : Str) : Addr := match PySem.W.findCls K (.ref C) (.type "type") m with
  | some (.get _ (.ref p) _ _) => p
  | _ => 0
def isCl (K : PySem.W.Frag) (C : Addr) (m : Str) : Bool := match PySem.W.findCls K (.ref C) (.type "type") m with
  | some (.get (.builtin b) (.ref _) .none (.ref D)) => decide (b = "classmethod.__get__") && decide (D = C)
  | _ => false
theorem isCl_ok (h : isCl K C m = true) : PySem.W.findCls K (.ref C) (.type "type") m = some (.get (.builtin "classmethod.__get__") (.ref (clAd K C m)) .none (.ref C)) := by
  unfold isCl at h
  split at h
  · rename_i b p D e
    obtain ⟨h1, h2⟩ := Bool.and_eq_true_iff.mp h
    have e1 := of_decide_eq_true h1
    have e2 := of_decide_eq_true h2
    subst e1 e2
    unfold clAd
    rw [e]
  · cases h
def At.ad (K : PySem.W.Frag) : At → Addr
  | .glo x => He.ga K x
  | .meth C m => He.ma K (He.ga K C) m
  | .prop C m => recAd K (He.ma K (He.ga K C) m) "property"
  | .clsm C m => recAd K (clAd K (He.ga K C) m) "classmethod"
/-! ### defs -/
abbrev Seen : Type := Option (FuncBody × Scope × Arguments × Str × Str × Addr × Addr)
def seen (K : PySem.W.Frag) (a : Addr) : Seen := match K.lookup a with
  | some o => (match o.data with
    | .func d => some (d.body, d.scope, d.params, d.name, d.qualname, d.globals, d.builtins)
    | _ => none)
  | none => none
structure Df where
  at_ : At
  name : Str
  qual : Str
  st : Stmt
  dfl : List V
  kwd : List (Str × V)
  own : Bool := false
def Df.want (d : Df) : Seen := some (.stmts (defBody d.st), defScope d.st, defArgs d.st, d.name, d.qual, mainGlobals, builtinsNs)
def Df.sound (K : PySem.W.Frag) (d : Df) : Bool := PySem.W.keepIn K (.ref (d.at_.ad K)) && (match K.lookup (d.at_.ad K) with
  | some o => (match o.data with
    | .func u => (d.own || u.closure.isEmpty) && (PySem.W.codeIn K u.code d.qual && (He.dflB K u.defaults d.dfl && He.kwdB K u.kwdefaults d.kwd))
    | _ => false)
  | none => false)
theorem Df.funD {d : Df} (o : d.own = false) (e : seen K (d.at_.ad K) = d.want) (c : d.sound K = true) : ∃ fd, FunD K d.name d.qual (defArgs d.st) (defBody d.st) (defScope d.st) d.dfl d.kwd (d.at_.ad K) fd := by
  obtain ⟨kp, c2⟩ := Bool.and_eq_true_iff.mp c
  unfold seen at e
  cases q : K.lookup (d.at_.ad K) with
  | none =>
    rw [q] at e
    cases e
  | some o =>
    obtain ⟨oc, od, dt, osl⟩ := o
    rw [q] at c2 e
    cases dt with
    | func u =>
      obtain ⟨n1, n2, n3, n4, n5, n6, n7, n8, n9, n10, n11, n12, n13, n14, n15⟩ := u
      have e2 : (some (n4, n5, n3, n1, n2, n6, n15) : Seen) = some (.stmts (defBody d.st), defScope d.st, defArgs d.st, d.name, d.qual, mainGlobals, builtinsNs) := e
      simp only [Option.some.injEq, Prod.mk.injEq] at e2
      obtain ⟨h4, h5, h3, h1, h2, h6, h8⟩ := e2
      have c3 : ((d.own || n7.isEmpty) && (PySem.W.codeIn K n13 d.qual && (He.dflB K n8 d.dfl && He.kwdB K n9 d.kwd))) = true := c2
      obtain ⟨k0, c4⟩ := Bool.and_eq_true_iff.mp c3
      rw [o, Bool.false_or] at k0
      have h7 := List.isEmpty_iff.mp k0
      subst h1 h2 h3 h4 h5 h6 h7 h8
      obtain ⟨k1, k2⟩ := Bool.and_eq_true_iff.mp c4
      obtain ⟨k3, k4⟩ := Bool.and_eq_true_iff.mp k2
      exact ⟨_, ⟨oc, od, n8, n9, n10, n11, n12, n13, n14, osl, rfl, q, k1, He.dflB_ok k3, He.kwdB_ok k4⟩, kp⟩
    | _ => cases e
theorem plain {x qual : Str} {st : Stmt} {f : Addr} {fd : FuncData} (F : FunD K x qual (defArgs st) (defBody st) (defScope st) [] [] f fd) : Fun K x qual st f fd := by
  obtain ⟨oc, od, dV, kV, doc, pm, an, cdv, ct, osl, e, lk, hcd, hd, hk⟩ := F.ex
  rcases hd with ⟨_, rfl⟩ | ⟨h, _⟩
  · exact ⟨⟨oc, od, kV, doc, pm, an, cdv, ct, osl, e, lk, hcd⟩, F.kp⟩
  · exact absurd rfl h
/-! ### written tuples -/
def itAd (K : PySem.W.Frag) (a : Addr) (i : Nat) : Addr := match K.lookup a with
  | some o => (match o.data with
    | .seq its _ => (match its.toList[i]? with
      | some (.ref b) => b
      | _ => 0)
    | _ => 0)
  | none => 0
def isTup (K : PySem.W.Frag) (a : Addr) (vs : List V) : Bool := match K.lookup a with
  | some ⟨.type c, _, .seq its _, _⟩ => (c == "tuple" && its.size.ble 1000) && He.relAll vs its.toList
  | _ => false
theorem isTup_ok {a : Addr} {vs : List V} (h : isTup K a vs = true) (H : Hp) : SqT K H a vs := by
  unfold isTup at h
  split at h
  · rename_i c od its n sl q
    obtain ⟨h1, h2⟩ := Bool.and_eq_true_iff.mp h
    obtain ⟨h3, h4⟩ := Bool.and_eq_true_iff.mp h1
    have e := eq_of_beq h3
    subst e
    exact .inr ⟨_, its, n, q, rfl, rfl, Nat.le_trans (Nat.le_of_ble_eq_true h4) (by decide), He.relAll_ok h2⟩
  · cases h
/-! ### code objects -/
def cdAd (K : PySem.W.Frag) (a : Addr) : Addr := match K.lookup a with
  | some o => (match o.data with
    | .func u => (match u.code with
      | .ref c => c
      | _ => 0)
    | _ => 0)
  | none => 0
/-! ### the part of the heap that is looked at: what the names reach, but not into code objects -/
def isCode (o : Obj) : Bool := match o.cls with
  | .type n => n == "code"
  | _ => false
def more (g : Addr → Option Obj) (as : List Addr) : List Addr := as.flatMap fun a => match g a with
  | some o => bif isCode o then [] else He.refsD o
  | none => []
/-- what is new of these, each once -/
def fresh : List Addr → List Addr → List Addr → List Addr
  | _, [], acc => acc.reverse
  | old, a :: r, acc => bif old.elem a then fresh old r acc else bif acc.elem a then fresh old r acc else fresh old r (a :: acc)
/-- old: what was found; as: what was found last -/
def reach (g : Addr → Option Obj) : Nat → List Addr → List Addr → List Addr
  | 0, old, _ => old
  | n + 1, old, as => match fresh old (more g as) [] with
    | [] => old
    | a :: r => reach g n (old ++ a :: r) (a :: r)
/-! ### the Hook -/
abbrev Al : Type := Bool × List Seen
def looks (n : Nat) (dfs : List Df) (ex : PySem.W.Frag → Bool) (tf : List At) (g : Addr → Option Obj) (K : PySem.W.Frag) : Al :=
  ((ex K && dfs.all (Df.sound K)) && tf.all fun a => PySem.W.codeHdIn K (cdAd K (a.ad K)) (He.tabOf K (cdAd K (a.ad K))) && (match g (He.tabOf K (cdAd K (a.ad K))) with
    | some o => He.emptyTab o
    | none => false), dfs.map fun d => seen K (d.at_.ad K))
structure Says (dfs : List Df) (ex : PySem.W.Frag → Bool) (tf : List At) (h : Heap) (K : PySem.W.Frag) : Prop where
  ex : ex K = true
  defs : ∀ d ∈ dfs, seen K (d.at_.ad K) = d.want ∧ d.sound K = true
  head : ∀ a ∈ tf, PySem.W.codeHdIn K (cdAd K (a.ad K)) (He.tabOf K (cdAd K (a.ad K))) = true
  out : ∀ a ∈ tf, K.lookup (He.tabOf K (cdAd K (a.ad K))) = none
  tab : ∀ a ∈ tf, h.get? (He.tabOf K (cdAd K (a.ad K))) = some { cls := .none, data := .fields #[] }
def hook (n : Nat) (dfs : List Df) (ex : PySem.W.Frag → Bool) (tf : List At) : PySem.W.Hook where
  α := Al
  obs := fun s => looks n dfs ex tf s.heap.get? (He.frT s.heap.get? (reach s.heap.get? n [mainGlobals, cStatics] [mainGlobals]))
  val := fun _ => (true, dfs.map Df.want)
  says := fun _ h => ∃ K : PySem.W.Frag, K.In h ∧ Says dfs ex tf h K
  of := fun _ s e => ⟨_, He.frT_in, by
    obtain ⟨K, hK⟩ : ∃ K, K = He.frT s.heap.get? (reach s.heap.get? n [mainGlobals, cStatics] [mainGlobals]) := ⟨_, rfl⟩
    have hn : ∀ {a o}, s.heap.get? a = some o → He.emptyTab o = true → K.lookup a = none := fun a b => by
      rw [hK]
      exact He.frT_none a b
    rw [← hK] at e ⊢
    obtain ⟨e1, e2⟩ := Prod.mk.inj e
    obtain ⟨h1, h2⟩ := Bool.and_eq_true_iff.mp e1
    obtain ⟨h3, h4⟩ := Bool.and_eq_true_iff.mp h1
    have key : ∀ a ∈ tf, PySem.W.codeHdIn K (cdAd K (a.ad K)) (He.tabOf K (cdAd K (a.ad K))) = true ∧ ∃ o, s.heap.get? (He.tabOf K (cdAd K (a.ad K))) = some o ∧ He.emptyTab o = true := fun a ha => by
      obtain ⟨h5, h6⟩ := Bool.and_eq_true_iff.mp (List.all_eq_true.mp h2 a ha)
      refine ⟨h5, ?_⟩
      split at h6
      · rename_i o q
        exact ⟨o, q, h6⟩
      · cases h6
    refine ⟨h3, fun d hd => ?_, fun a ha => (key a ha).1, fun a ha => ?_, fun a ha => ?_⟩
    · obtain ⟨i, hi, ei⟩ := List.getElem_of_mem hd
      have e3 : (dfs.map fun d => seen K (d.at_.ad K))[i]? = (dfs.map Df.want)[i]? := by rw [e2]
      rw [List.getElem?_map, List.getElem?_map, List.getElem?_eq_getElem hi, ei] at e3
      exact ⟨Option.some.inj e3, List.all_eq_true.mp h4 d hd⟩
    · obtain ⟨_, o, q, z⟩ := key a ha
      exact hn q z
    · obtain ⟨_, o, q, z⟩ := key a ha
      rw [q, He.emptyTab_eq z]⟩
  keeps := fun _ _ _ ⟨K, hK, c⟩ k => ⟨K, PySem.W.Frag.In.keeps hK k, ⟨c.ex, c.defs, c.head, c.out, fun a ha => k _ _ (c.tab a ha)⟩⟩
def ob (n : Nat) (dfs : List Df) (ex : PySem.W.Frag → Bool) (tf : List At) (s : PySem.W.SharedT) : Al := looks n dfs ex tf (HandSHeadRun.getT s) (He.frT (HandSHeadRun.getT s) (reach (HandSHeadRun.getT s) n [mainGlobals, cStatics] [mainGlobals]))
theorem ob_eq {n : Nat} {dfs : List Df} {ex : PySem.W.Frag → Bool} {tf : List At} (s : PySem.W.SharedT) : ob n dfs ex tf s = (hook n dfs ex tf).obs s.abs := by
  have e : HandSHeadRun.getT s = s.abs.heap.get? := funext (HandSHeadRun.getT_eq s)
  unfold ob
  rw [e]
  rfl
theorem Says.fact {dfs : List Df} {exs : PySem.W.Frag → List (List Bool)} {tf : List At} {h : Heap} (c : Says dfs (fun K => (exs K).all fun l => l.all id) tf h K) (i j : Nat) {l : List Bool} {b : Bool} (hl : (exs K)[i]? = some l := by rfl) (hb : l[j]? = some b := by rfl) : b = true :=
  List.all_eq_true.mp (List.all_eq_true.mp c.ex l (List.mem_of_getElem? hl)) b (List.mem_of_getElem? hb)
theorem Says.def_ {dfs : List Df} {ex : PySem.W.Frag → Bool} {tf : List At} {h : Heap} (c : Says dfs ex tf h K) (i : Nat) {d : Df} (hd : dfs[i]? = some d := by rfl) (ho : d.own = false := by rfl) : ∃ fd, FunD K d.name d.qual (defArgs d.st) (defBody d.st) (defScope d.st) d.dfl d.kwd (d.at_.ad K) fd := (c.defs d (List.mem_of_getElem? hd)).elim fun a b => Df.funD ho a b
theorem Says.raw {dfs : List Df} {ex : PySem.W.Frag → Bool} {tf : List At} {h : Heap} (c : Says dfs ex tf h K) (i : Nat) {d : Df} (hd : dfs[i]? = some d := by rfl) : seen K (d.at_.ad K) = d.want ∧ d.sound K = true := c.defs d (List.mem_of_getElem? hd)
/-- a def that makes lambdas: its code object -/
theorem lamF {x qual : Str} {st : Stmt} {f : Addr} {fd : FuncData} (F : FunD K x qual (defArgs st) (defBody st) (defScope st) [] [] f fd) :
    ∃ (oc : Value) (od : Option Addr) (kV doc pm : Value) (an : Option Addr) (c : Addr) (ct : Value) (osl : Array (Option Value)), fd = PySem.W.fnOf x qual (defArgs st) (defBody st) (defScope st) .none kV doc pm an (.ref c) ct ∧ K.lookup f = some ⟨oc, od, .func fd, osl⟩ ∧ PySem.W.codeIn K (.ref c) qual = true ∧ cdAd K f = c := by
  obtain ⟨oc, od, dV, kV, doc, pm, an, cdv, ct, osl, rfl, lk, hcd, hd, hk⟩ := F.ex
  obtain ⟨c, rfl⟩ := He.codeIn_ref hcd
  rcases hd with ⟨_, rfl⟩ | ⟨h, _⟩
  · refine ⟨oc, od, kV, doc, pm, an, c, ct, osl, rfl, lk, hcd, ?_⟩
    unfold cdAd
    rw [lk]
  · exact absurd rfl h
end
end Hx
/-! ### what is looked at of exceptions -/
namespace Hx
open PySem PySem.Spec PyProof.Rows L2
section
variable {K : PySem.W.Frag}
/-- an exception's own init: its cell of the class, its file -/
def isInit (K : PySem.W.Frag) (f C : Addr) (file : Str) : Bool := match K.lookup f with
  | some o => (match o.data with
    | .func u => (match u.closure, u.code with
      | [(n, cc)], .ref c => (n == "__class__" && (match K.lookup cc with
        | some ⟨_, _, .cell (some (.ref D)), _⟩ => D == C
        | _ => false)) && (match K.lookup c with
        | some ⟨_, _, .fields vs, _⟩ => (match (vs[2]? : Option Value) with
          | some (.str z _) => z == file
          | _ => false)
        | _ => false)
      | _, _ => false)
    | _ => false)
  | none => false
def isExc (K : PySem.W.Frag) (C : Addr) : Bool := match K.lookup C with
  | some ⟨.type t, _, .cls cd, sl⟩ => t == "type" && (match cd.mro, sl.toList with
    | .ref B :: bm, [_, _, _, _, some (.builtin n), _] => (B == C && PySem.HandSPX.refsVE bm) && ((cd.hasDict && !cd.hasDel) && n == "ValueError.__new__")
    | _, _ => false)
  | _ => false
theorem isExc_ok {C : Addr} (h : isExc K C = true) : ∃ nm q N bs bm sn sub ab col dd k0 k1 k2 k3 k5, K.lookup C = some (excClassObj nm q C N bs bm true sn sub ab col dd k0 k1 k2 k3 k5 "ValueError.__new__") ∧ PySem.HandSPX.refsVE bm = true := by
  unfold isExc at h
  split at h
  · rename_i t dd cd sl e
    obtain ⟨h1, h2⟩ := Bool.and_eq_true_iff.mp h
    have et := eq_of_beq h1
    subst et
    split at h2
    · rename_i B bm k0 k1 k2 k3 n k5 em es
      obtain ⟨h3, h4⟩ := Bool.and_eq_true_iff.mp h2
      obtain ⟨h5, h6⟩ := Bool.and_eq_true_iff.mp h3
      obtain ⟨h7, h8⟩ := Bool.and_eq_true_iff.mp h4
      obtain ⟨h9, h10⟩ := Bool.and_eq_true_iff.mp h7
      have e1 := eq_of_beq h5
      have e2 := eq_of_beq h8
      subst e1 e2
      obtain ⟨nm, bs, mro, ns, q, hd, sn, sub, ab, col, hdel⟩ := cd
      simp only at em h9 h10
      subst em h9
      have h11 : hdel = false := by
        cases hdel
        · rfl
        · cases h10
      subst h11
      obtain ⟨l⟩ := sl
      simp only at es
      subst es
      exact ⟨nm, q, ns, bs, bm, sn, sub, ab, col, dd, k0, k1, k2, k3, k5, e, h6⟩
    · cases h2
  · cases h
end
end Hx
namespace Kb
open PySem L2
/-! ### heaps and frames -/
/-- outside S all that was tracked is as it was -/
def Fr (S : List Addr) (H H' : Hp) : Prop := ∀ b o, H b = some o → b ∉ S → H' b = some o
theorem Fr.refl (S : List Addr) (H : Hp) : Fr S H H := fun _ _ h _ => h
theorem Fr.trans {S : List Addr} {H H1 H2 : Hp} (a : Fr S H H1) (b : Fr S H1 H2) : Fr S H H2 := fun c o h n => b c o (a c o h n) n
theorem Fr.mono {S T : List Addr} {H H' : Hp} (a : Fr S H H') (h : ∀ b ∈ S, b ∈ T) : Fr T H H' := fun b o e n => a b o e (fun z => n (h b z))
theorem Fr.put {S : List Addr} {H : Hp} {a : Addr} {o : HO} (h : a ∈ S) : Fr S H (upd H a o) := fun b u e n => by
  rw [upd_ne (fun z => n (by rw [z]; exact h))]
  exact e
theorem Fr.new {S : List Addr} {H : Hp} {p : Addr} {o : HO} (h : H p = none) : Fr S H (upd H p o) := fun b u e _ => by
  rw [upd_ne (ne_of_none e h)]
  exact e
theorem Fr.nil_of {S : List Addr} {H H' : Hp} (a : Fr [] H H') : Fr S H H' := a.mono (fun _ h => by cases h)
theorem Fr.at_ {S : List Addr} {H H' : Hp} {b : Addr} {o : HO} (f : Fr S H H') (e : H b = some o) (n : b ∉ S) : H' b = some o := f b o e n
theorem fresh_out {H : Hp} {b : Addr} {o : HO} {p : Addr} (e : H b = some o) (n : H p = none) : b ≠ p := ne_of_none e n
/-- S and T share nothing -/
def Sep (S T : List Addr) : Prop := ∀ b ∈ S, b ∉ T
theorem Sep.symm {S T : List Addr} (h : Sep S T) : Sep T S := fun b hb hs => h b hs hb
/-- what owns S' came of S or is new, and so is apart from what stood in H -/
theorem Sep.grow {H : Hp} {S S' T : List Addr} (h : Sep S T) (g : ∀ b ∈ S', b ∈ S ∨ H b = none) (t : ∀ b ∈ T, ∃ o, H b = some o) : Sep S' T := fun b hb ht => by
  rcases g b hb with z | z
  · exact h b z ht
  · obtain ⟨o, e⟩ := t b ht
    rw [z] at e
    cases e
theorem vlen {α β : Type} {xs : List α} {f : α → β} : (xs.map f).length = xs.length := List.length_map f
theorem sz_le {n : Nat} (h : n ≤ 100000) : n ≤ sizeLine := Nat.le_trans h (by decide)
theorem sz_lt {n : Nat} (h : n < 100000) : n < sizeLine := Nat.lt_of_lt_of_le h (by decide)
theorem ix_at {n : Nat} (j : Nat) (h : j < n) : ixN n (j : Int) = some j := by
  unfold ixN
  rw [if_pos (Int.natCast_nonneg j), if_pos (by omega)]
  rfl
theorem free_upd {H : Hp} {a p : Addr} {o : HO} (h : upd H a o p = none) : H p = none ∧ p ≠ a := by
  by_cases e : p = a
  · rw [e, upd_same] at h
    cases h
  · rw [upd_ne e] at h
    exact ⟨h, e⟩
theorem int_at {ns : List Int} {i : Nat} {x : V} (h : (ns.map V.int)[i]? = some x) : ∃ u, x = V.int u ∧ ns[i]? = some u := by
  rw [List.getElem?_map] at h
  cases e : ns[i]? with
  | none =>
    rw [e] at h
    cases h
  | some u =>
    rw [e] at h
    exact ⟨u, (Option.some.inj h).symm, rfl⟩
theorem lt_of_at {α : Type} {xs : List α} {i : Nat} {x : α} (h : xs[i]? = some x) : i < xs.length := (List.getElem?_eq_some_iff.mp h).1
theorem Fr.seq {K : PySem.W.Frag} {S : List Addr} {H H' : Hp} {a : Addr} {xs : List V} (f : Fr S H H') (n : a ∉ S) (h : SqL K H a xs) : SqL K H' a xs := by
  rcases h with (h | ⟨o, h⟩) | h
  · exact .inl (.inl (f _ _ h n))
  · exact .inl (.inr ⟨o, f _ _ h n⟩)
  · exact .inr h
theorem Fr.tup {K : PySem.W.Frag} {S : List Addr} {H H' : Hp} {a : Addr} {xs : List V} (f : Fr S H H') (n : a ∉ S) (h : SqT K H a xs) : SqT K H' a xs := by
  rcases h with (h | ⟨o, h⟩) | h
  · exact .inl (.inl (f _ _ h n))
  · exact .inl (.inr ⟨o, f _ _ h n⟩)
  · exact .inr h
/-! ### lambdas as values: with no parameter, or one that falls back on a number -/
section
open PySem.Spec PySem.Calls PySem.W PyProof.Rows LamX NdefX
/-- the words of a lambda, the cells that it captured, its code object, the tuple of what its parameter falls back on -/
structure LF where
  qual : Str
  params : Arguments
  body : Expr
  scope : Scope
  cl : List (Str × Addr)
  c : Addr
  df : Option Addr
def dfV : Option Addr → Value
  | none => .none
  | some t => .ref t
abbrev LF.fd (F : LF) (pm ct : Value) : FuncData :=
  { name := "<lambda>", qualname := F.qual, params := F.params, body := .expr F.body, scope := F.scope, globals := mainGlobals, closure := F.cl, defaults := dfV F.df, kwdefaults := .none, doc := .none, pyModule := pm, annotations := none, code := .ref F.c, closureTuple := ct, builtins := builtinsNs }
def LamO (f : Addr) (F : LF) : HO := .ext fun h => ∃ (od : Option Addr) (sl : Array (Option Value)) (pm ct : Value), h.get? f = some (⟨.type "function", od, .func (F.fd pm ct), sl⟩ : Obj)
theorem LamO.ne {f : Addr} {F : LF} (ps : Array Value) : LamO f F ≠ .tbl ps := fun z => by
  unfold LamO at z
  cases z
theorem LamO.at_ {P : Program} {w : World} {H : Hp} {h : Heap} {f : Addr} {F : LF} (hok : HOk P w H h) (e : H f = some (LamO f F)) : ∃ (od : Option Addr) (sl : Array (Option Value)) (pm ct : Value), h.get? f = some (⟨.type "function", od, .func (F.fd pm ct), sl⟩ : Obj) := (hok f _ e).1
/-- all of it stands -/
structure Lv (f : Addr) (F : LF) (H : Hp) : Prop where
  fn : H f = some (LamO f F)
  co : H F.c = some (CodeO F.c F.qual)
  df : ∀ t, F.df = some t → H t = some (.tup [.int 0])
theorem Lv.keep {f : Addr} {F : LF} {H H' : Hp} (L : Lv f F H) (e : ∀ b o, H b = some o → (∀ xs, o ≠ .lst xs) → (∀ ps, o ≠ .tbl ps) → (∀ C dx fs, o ≠ .ins C dx fs) → H' b = some o) : Lv f F H' :=
  ⟨e _ _ L.fn (fun _ z => by unfold LamO at z; cases z) (fun _ => LamO.ne _) (fun _ _ _ z => by unfold LamO at z; cases z), e _ _ L.co (fun _ z => by unfold CodeO at z; cases z) (fun _ => codeO_ne _) (fun _ _ _ z => by unfold CodeO at z; cases z),
    fun t h => e _ _ (L.df t h) (fun _ z => by cases z) (fun _ z => by cases z) (fun _ _ _ z => by cases z)⟩
section
variable {M : Model} {A : Around} {E : Value → Shared → Prop} {s : Shared} {q : Str} {params : Arguments} {body : Expr} {scope : Scope} {env : Env} {c P : Addr} {ps : Array Value} {pos : Pos} {ln : Nat} {mg : Str → Option Value} {clos : List (Str × Addr)} {Q : Value → Shared → Prop} {d : Option Addr}
theorem lam_tail (hcl : closureFor scope env = pure clos) (hge : env.globals = mainGlobals) (hg : s.heap.Ns mainGlobals mg) (hcode : env.code = .ref c) (C : CodeHd s.heap c P) (hP : s.heap.get? P = some { cls := .none, data := .fields ps }) (ht : TriplesOk ps.toList) (hgP : mainGlobals ≠ P) (hb : s.heap.BuiltinsAt mg P)
    (hit : ∀ cv, codeAmong pos ps.toList = some cv → ∀ (ct : Value) (h' : Heap) (tk : Tok) (fd : FuncData), (∀ b o, s.heap.get? b = some o → h'.get? b = some o) → s.heap.objs.size ≤ h'.objs.size →
      fd = { name := "<lambda>", qualname := q, params := params, body := .expr body, scope := scope, globals := mainGlobals, closure := clos, defaults := dfV d, kwdefaults := .none, doc := .none, pyModule := (mg "__name__").getD .none, annotations := none, code := cv, closureTuple := ct, builtins := builtinsNs } →
      Q (.ref h'.objs.size) { s with heap := h'.push { cls := .type "function", data := .func fd }, toks := tk })
    (new : codeAmong pos ps.toList = none → ∀ (c' : Addr) (ct : Value) (h' : Heap) (tk : Tok) (fd : FuncData), Heap.ExtBut P s.heap h' → s.heap.objs.size ≤ c' → c' < h'.objs.size → h'.CodeRec (.ref c') q → h'.get? P = some { cls := .none, data := .fields (ps ++ #[rawInt pos.line, rawInt pos.col, .ref c']) } →
      fd = { name := "<lambda>", qualname := q, params := params, body := .expr body, scope := scope, globals := mainGlobals, closure := clos, defaults := dfV d, kwdefaults := .none, doc := .none, pyModule := (mg "__name__").getD .none, annotations := none, code := .ref c', closureTuple := ct, builtins := builtinsNs } →
      Q (.ref h'.objs.size) { s with heap := h'.push { cls := .type "function", data := .func fd }, toks := tk }) :
    wpAny M A (makeTail "<lambda>" q params (.expr body) scope env (dfV d) .none none pos ln) Q E s := by
  obtain ⟨bm, ob, hbm, hne0, _, hneP, hbo, hcls, hdict, hdata⟩ := hb
  have up : ∀ (o : Obj) b u, s.heap.get? b = some u → (s.heap.push o).get? b = some u := fun o b u e => Heap.get?_push_of_some o e
  unfold makeTail
  rw [hcl, hge]
  apply wpAny_bind
  apply wpAny_pure
  cases hc : codeAmong pos ps.toList with
  | some cv =>
    by_cases hk : clos.isEmpty = true
    · simp only [hk, if_true]
      apply wpAny_bind; apply wpAny_pure
      apply wpAny_bind; apply wpAny_functionCode_hit hcode (C.code hP ht) hc
      apply wpAny_bind; apply wpAny_builtinsFor hg hbm hne0 hbo hcls hdict hdata
      apply wpAny_bind; apply wpAny_nsGet hg
      apply wpAny_bind; apply wpAny_pure
      exact wpAny_newObj_type (hit cv hc _ s.heap s.toks _ (fun _ _ e => e) (Nat.le_refl _) rfl) (by size_fits)
    · simp only [Bool.not_eq_true] at hk
      simp only [hk, Bool.false_eq_true, if_false]
      apply wpAny_bind; apply wpAny_newTextTuple
      apply wpAny_bind; apply wpAny_functionCode_hit hcode ((C.keeps (up _)).code (up _ _ _ hP) ht) hc
      apply wpAny_bind; apply wpAny_builtinsFor (hg.push _) hbm hne0 (up _ _ _ hbo) hcls hdict hdata
      apply wpAny_bind; apply wpAny_nsGet (hg.push _)
      apply wpAny_bind; apply wpAny_pure
      exact wpAny_newObj_type (hit cv hc _ _ s.toks _ (up _) (by rw [Heap.size_push]; exact Nat.le_succ _) rfl) (by size_fits)
  | none =>
    by_cases hk : clos.isEmpty = true
    · simp only [hk, if_true]
      apply wpAny_bind; apply wpAny_pure
      apply wpAny_bind
      refine wpAny_functionCodeX hcode (C.code hP ht) (C.tab hP) hc fun c' h' tk hx l1 l2 _ hrec htb _ => ?_
      apply wpAny_bind; apply wpAny_builtinsFor (hg.extBut hx hgP) hbm hne0 (hx _ _ hneP hbo) hcls hdict hdata
      apply wpAny_bind; apply wpAny_nsGet (hg.extBut hx hgP)
      apply wpAny_bind; apply wpAny_pure
      exact wpAny_newObj_type (new hc c' _ h' tk _ hx l1 l2 hrec htb.2 rfl) (by size_fits)
    · simp only [Bool.not_eq_true] at hk
      simp only [hk, Bool.false_eq_true, if_false]
      apply wpAny_bind; apply wpAny_newTextTuple
      apply wpAny_bind
      refine wpAny_functionCodeX hcode ((C.keeps (up _)).code (up _ _ _ hP) ht) ((C.keeps (up _)).tab (up _ _ _ hP)) hc fun c' h' tk hx l1 l2 _ hrec htb _ => ?_
      have hx' : Heap.ExtBut P s.heap h' := fun b o hb e => hx b o hb (up _ _ _ e)
      apply wpAny_bind; apply wpAny_builtinsFor ((hg.push _).extBut hx hgP) hbm hne0 (hx' _ _ hneP hbo) hcls hdict hdata
      apply wpAny_bind; apply wpAny_nsGet ((hg.push _).extBut hx hgP)
      apply wpAny_bind; apply wpAny_pure
      exact wpAny_newObj_type (new hc c' _ h' tk _ hx' (Nat.le_trans (by rw [Heap.size_push]; exact Nat.le_succ _) l1) l2 hrec htb.2 rfl) (by size_fits)
end
end
section
open PySem.Spec PySem.Calls PySem.W PyProof.Rows LamX NdefX
section
variable {X : Cx} {pins : List (Addr × Obj)} {σ : L2.St} {H : Hp} {s : Shared}
theorem inv_lam {F : LF} {o : Obj} {tk : Nat} {pm ct : Value} (I : Inv X pins σ H s) (ho : o = { cls := .type "function", data := .func (F.fd pm ct) }) :
    Inv X pins σ (upd H s.heap.objs.size (LamO s.heap.objs.size F)) { s with heap := s.heap.push o, toks := tk } := by
  cases ho
  have e : (s.heap.push ({ cls := .type "function", data := .func (F.fd pm ct) } : Obj)).get? s.heap.objs.size = some ({ cls := .type "function", data := .func (F.fd pm ct) } : Obj) := Heap.get?_push_size _ rfl
  exact I.laid (a := s.heap.objs.size) (fun b u z => Heap.get?_push_of_some _ z) (Nat.le_refl _) ⟨⟨_, _, pm, ct, e⟩, ⟨_, e⟩, fun h1 h2 ⟨od, sl, p, t, z⟩ st => ⟨od, sl, p, t, st _ z⟩⟩
/-- the making of the function's object, the fallback tuple (if any) laid before -/
theorem lam_make {T : List NTab} {nm : Nat → Nat → Str} {c P : Addr} {params : Arguments} {body : Expr} {scope : Scope} {pos : Pos} {d : Option Addr} {ln : Nat} {E : Value → Shared → Prop} {Q : Value → Shared → Prop} (I : Inv X pins σ H s) (TB : TabB X.base X.mg c P) (hcode : X.env.code = .ref c)
    (hm : (P, nm) ∈ T) (hn : nm pos.line pos.col = X.env.qual ++ "<lambda>") (hu : ∀ p ∈ T, p.1 = P → p.2 = nm) (hT : TabsN T H) (hfree : ∀ y ∈ scope.names, y.2 = .free → ∃ c, X.env.cells.lookup y.1 = some c) (hd : ∀ t, d = some t → H t = some (.tup [.int 0]))
    (h : ∀ (f : Addr) (F : LF) (H1 : Hp) (s' : Shared), F.qual = X.env.qual ++ "<lambda>" → F.params = params → F.body = body → F.scope = scope → F.cl = cloFrom X.env.cells scope.names [] → F.df = d → Inv X pins σ H1 s' → ExtN H H1 → TabsN T H1 → H f = none → Lv f F H1 → Q (.ref f) s') :
    wpAny (model X.prog X.w) X.A (makeTail "<lambda>" (X.env.qual ++ "<lambda>") params (.expr body) scope X.env (dfV d) .none none pos ln) Q E s := by
  obtain ⟨ps, hP, ht, ha⟩ := (show TabN H P nm from hT _ hm)
  have hP' : s.heap.get? P = some { cls := .none, data := .fields ps } := I.hok P _ hP
  refine lam_tail (c := c) (P := P) (ps := ps) (mg := X.mg) (closure_ok hfree) I.ok.glob (I.mod.glob.keeps I.bk) hcode (TB.code.keeps I.bk) hP' ht TB.gP (TB.bm.keeps I.bk) (fun cv hc ct h' tk fd kp hz efd => ?_) fun hc c' ct h' tk fd hx l1 l2 hrec htb efd => ?_
  · obtain ⟨c', rfl, hco⟩ := ha pos cv hc
    rw [hn] at hco
    have I1 : Inv X pins σ H { s with heap := h', toks := tk } := I.kept kp
    have nF : H h'.objs.size = none := I1.hok.fresh (Nat.le_refl _)
    have I2 := inv_lam (F := ⟨X.env.qual ++ "<lambda>", params, body, scope, cloFrom X.env.cells scope.names [], c', d⟩) (o := { cls := .type "function", data := .func fd }) (tk := tk) (pm := (X.mg "__name__").getD .none) (ct := ct) I1 (by rw [efd])
    refine h h'.objs.size _ _ _ rfl rfl rfl rfl rfl rfl I2 (fun b o e n => (upd_ne (ne_of_none e nF)).trans e) (hT.ext fun b o e => (upd_ne (ne_of_none e nF)).trans e) nF ⟨upd_same, (upd_ne (ne_of_none hco nF)).trans hco, fun t et => (upd_ne (ne_of_none (hd t et) nF)).trans (hd t et)⟩
  · obtain ⟨c2, oc, vs, t, e2, hoc, hdt, hv⟩ := hrec
    cases e2
    have nC : H c' = none := I.hok.fresh l1
    have I1 := inv_table (t' := tk) (more := #[rawInt pos.line, rawInt pos.col, .ref c']) (h' := h') I hP (fun b o hb e => hx b o hb e) htb l1 ⟨oc, vs, t, hoc, hdt, hv⟩
    have hE : ExtN H (upd (upd H P (.tbl (ps ++ #[rawInt pos.line, rawInt pos.col, .ref c']))) c' (CodeO c' (X.env.qual ++ "<lambda>"))) := fun b o e n => by
      have nb : b ≠ P := fun z => n ps (Option.some.inj (e.symm.trans (by rw [z]; exact hP)))
      rw [upd_ne (ne_of_none e nC), upd_ne nb]
      exact e
    have eL : (ps ++ #[rawInt pos.line, rawInt pos.col, .ref c']).toList = ps.toList ++ [rawInt pos.line, rawInt pos.col, .ref c'] := by simp
    have T1 : TabsN T (upd (upd H P (.tbl (ps ++ #[rawInt pos.line, rawInt pos.col, .ref c']))) c' (CodeO c' (X.env.qual ++ "<lambda>"))) := fun p hp => by
      by_cases hb : p.1 = P
      · rw [hu p hp hb, hb]
        refine ⟨_, (upd_ne (ne_of_none hP nC)).trans upd_same, by rw [eL]; exact PySem.TriplesOk_snoc _ _ _ _ ht, fun p' cv hcv => ?_⟩
        rw [eL] at hcv
        rcases among_app2 _ ht hcv with z | ⟨z, z1, z2⟩
        · obtain ⟨c0, e1, e2⟩ := ha p' cv z
          exact ⟨c0, e1, hE _ _ e2 (codeO_ne)⟩
        · exact ⟨c', z, by rw [← z1, ← z2, hn]; exact upd_same⟩
      · obtain ⟨ps', a1, a2, a3⟩ := hT p hp
        refine ⟨ps', (upd_ne (ne_of_none a1 nC)).trans ((upd_ne hb).trans a1), a2, fun p' cv hcv => ?_⟩
        obtain ⟨c0, e1, e2⟩ := a3 p' cv hcv
        exact ⟨c0, e1, hE _ _ e2 (codeO_ne)⟩
    have nF := I1.hok.fresh (Nat.le_refl _)
    have I2 := inv_lam (F := ⟨X.env.qual ++ "<lambda>", params, body, scope, cloFrom X.env.cells scope.names [], c', d⟩) (o := { cls := .type "function", data := .func fd }) (tk := tk) (pm := (X.mg "__name__").getD .none) (ct := ct) I1 (by rw [efd])
    refine h h'.objs.size _ _ _ rfl rfl rfl rfl rfl rfl I2 (fun b o e n => (upd_ne (ne_of_none (hE b o e n) nF)).trans (hE b o e n)) (T1.ext fun b o e => (upd_ne (ne_of_none e nF)).trans e) (I.hok.fresh (Nat.le_trans l1 (Nat.le_of_lt l2))) ⟨upd_same, (upd_ne (Nat.ne_of_lt l2)).trans upd_same, fun t et => ?_⟩
    have e0 := hE _ _ (hd t et) (fun _ z => by cases z)
    exact (upd_ne (ne_of_none e0 nF)).trans e0
end
/-- what it yields -/
def tLamV (T : List NTab) (X : Cx) (params : Arguments) (body : Expr) (scope : Scope) : TE := fun _ H Q => TabsN T H ∧ ∀ (f : Addr) (F : LF) (H1 : Hp), F.qual = X.env.qual ++ "<lambda>" → F.params = params → F.body = body → F.scope = scope → F.cl = cloFrom X.env.cells scope.names [] →
  (F.df.isSome = !params.defaults.isEmpty) → ExtN H H1 → TabsN T H1 → H f = none → Lv f F H1 → Q (.ref f) H1
section
variable {X : Cx} {T : List NTab} {nm : Nat → Nat → Str} {c P : Addr} {params : Arguments} {body : Expr} {scope : Scope} {pos : Pos}
theorem pe_lamV (TB : TabB X.base X.mg c P) (hcode : X.env.code = .ref c) (hm : (P, nm) ∈ T) (hn : nm pos.line pos.col = X.env.qual ++ "<lambda>") (hu : ∀ p ∈ T, p.1 = P → p.2 = nm)
    (hfree : ∀ y ∈ scope.names, y.2 = .free → X.env.scope.names.lookup y.1 = some .cell ∨ X.env.scope.names.lookup y.1 = some .free) (hk0 : params.kwonlyargs = [])
    (hdef : (defaultsOf params X.env = ([], []) ∧ params.defaults = []) ∨ ∃ e, defaultsOf params X.env = ([eval e X.env], []) ∧ params.defaults = [e] ∧ PE X e (tC (.int 0))) :
    PE X (.Lambda params body scope pos) (tLamV T X params body scope) := by
  refine ⟨fun pins s σ H Q I h => ?_⟩
  obtain ⟨hT, h⟩ := h
  have hfr : ∀ y ∈ scope.names, y.2 = .free → ∃ c, X.env.cells.lookup y.1 = some c := fun y hy e => (hfree y hy e).elim (fun z => I.ok.has _ (.inl z)) fun z => I.ok.has _ (.inr z)
  rw [arm_eval_Lambda]
  rcases hdef with ⟨hd, hp⟩ | ⟨e, hd, hp, he⟩
  · rw [hd]
    apply wpAny_bind
    apply wpAny_pure
    apply wpAny_bind
    apply wpAny_holding
    apply wpAny_pure
    rw [makeFunction_eq]
    simp only [List.zip_nil_right, List.filterMap_nil, List.isEmpty_nil, if_true, pure_bind]
    exact lam_make (d := none) I TB hcode hm hn hu hT hfr (fun _ z => by cases z) fun f F H1 s' q1 q2 q3 q4 q5 q6 I1 eN T1 hf L => ⟨.ref f, H1, I1, rfl, h f F H1 q1 q2 q3 q4 q5 (by rw [q6, hp]; rfl) eN T1 hf L⟩
  · rw [hd]
    apply wpAny_bind
    apply wpAny_evalAll_cons
    refine thn (he.run pins s σ H (fun v H1 => v = .int 0 ∧ H1 = H) I ⟨rfl, rfl⟩) fun u s1 hu1 => ?_
    obtain ⟨v, H1, I1, rv, rfl, rfl⟩ := hu1
    apply wpAny_evalAll_nil
    apply wpAny_bind
    apply wpAny_holding
    apply wpAny_pure
    rw [makeFunction_eq]
    simp only [List.zip_nil_right, List.filterMap_nil, List.isEmpty_nil, List.isEmpty_cons, Bool.false_eq_true, if_false, if_true, pure_bind]
    apply wpAny_bind
    apply wpAny_newTextTuple
    have hn0 : H1 s1.heap.objs.size = none := I1.hok.fresh (Nat.le_refl _)
    have J : Inv X pins σ (upd H1 s1.heap.objs.size (.tup [.int 0])) { s1 with heap := s1.heap.push { cls := .type "tuple", data := .seq [u].toArray }, toks := s1.toks } :=
      I1.laid (t' := s1.toks) (o := .tup [.int 0]) (fun b ob q => Heap.get?_push_of_some _ q) (Nat.le_refl _) ⟨sz_le (by decide), [u], .cons rv .nil, _, Heap.get?_push_size _ rfl, rfl, _, rfl⟩
    have e0 : ∀ b o, H1 b = some o → (upd H1 s1.heap.objs.size (.tup [.int 0])) b = some o := fun b o e => (upd_ne (ne_of_none e hn0)).trans e
    refine lam_make (d := some s1.heap.objs.size) J TB hcode hm hn hu (hT.ext e0) hfr (fun t z => by cases z; exact upd_same) fun f F H2 s' q1 q2 q3 q4 q5 q6 I2 eN T1 hf L => ⟨.ref f, H2, I2, rfl, h f F H2 q1 q2 q3 q4 q5 (by rw [q6, hp]; rfl) (fun b o e n => eN b o (e0 b o e) n) T1 (free_upd hf).1 L⟩
end
end
section
open PySem.Spec PySem.Calls PySem.W PyProof.Rows LamX NdefX
/-- a lambda's names: none of its own but the parameters, the captured ones, globals -/
structure LScope (N fr : List Str) (sc : Scope) : Prop where
  kind : sc.kind = .function
  co : sc.isCoroutine = false
  gen : sc.isGenerator = false
  nocell : ∀ y ∈ sc.names, y.2 ≠ .cell
  free : ∀ y ∈ sc.names, y.2 = .free → y.1 ∈ fr
  frk : ∀ x ∈ fr, sc.names.lookup x = some .free
  eq : N = fr
def lscB (fr : List Str) (sc : Scope) : Bool :=
  decide (sc.kind = .function) && (!sc.isCoroutine && (!sc.isGenerator && (sc.names.all (fun y => !decide (y.2 = .cell)) && (sc.names.all (fun y => !decide (y.2 = .free) || decide (y.1 ∈ fr)) && fr.all (fun x => decide (sc.names.lookup x = some .free))))))
theorem lscope_by {fr : List Str} {sc : Scope} (h : lscB fr sc = true) : LScope fr fr sc := by
  unfold lscB at h
  simp only [Bool.and_eq_true, Bool.not_eq_true', decide_eq_true_eq, List.all_eq_true, Bool.or_eq_true, decide_eq_false_iff_not] at h
  obtain ⟨h1, h2, h3, h4, h5, h6⟩ := h
  exact ⟨h1, h2, h3, h4, fun y hy e => (h5 y hy).elim (fun z => absurd e z) id, h6, rfl⟩
abbrev LF.nf (F : LF) : NF := ⟨"<lambda>", F.qual, F.params, [], F.scope, F.cl, F.c⟩
/-- how it binds when nothing is given -/
def LBind (f : Addr) (F : LF) : Prop := ∀ (P : Program) (w : World) (s : Shared) (H : Hp) (pm ct : Value), Lv f F H → HOk P w H s.heap → ∃ bs : List (Str × Value), BindsTo s (F.fd pm ct) ⟨[], []⟩ bs ∧ ∀ x ∈ bs, F.scope.names.lookup x.1 = some .local
/-- with no parameter -/
theorem lbind0 {f : Addr} {F : LF} (h : ∀ pm ct, bindArgs (F.fd pm ct) ⟨[], []⟩ = pure []) : LBind f F := fun P w s H pm ct L hok => ⟨[], .of_eq (h pm ct), fun x hx => by cases hx⟩
/-- one that falls back on the number in its tuple -/
theorem lbind1 {f t : Addr} {F : LF} {x : Str} (e : F.df = some t) (h : ∀ pm ct u, ∃ k, bindArgs (F.fd pm ct) ⟨[], []⟩ = (seqItems? (F.fd pm ct).defaults >>= k) ∧ k (some #[u]) = pure [(x, u)]) (hl : F.scope.names.lookup x = some .local) : LBind f F := fun P w s H pm ct L hok => by
  obtain ⟨hz, us, rv, o, ho, hc, n, hd⟩ := hok t _ (L.df t e)
  cases rv with
  | cons r rr =>
    cases rr
    rename_i u
    obtain ⟨k, h1, h2⟩ := h pm ct u
    refine ⟨[(x, u)], .of_defaults (T := t) (by show dfV F.df = _; rw [e]; rfl) ho hd h1 h2, fun y hy => ?_⟩
    rw [List.mem_singleton.mp hy]
    exact hl
/-- the promise of the lambda F at f: sp, by what its captured cells hold at the call -/
def LOk (P : Program) (w : World) (K : PySem.W.Frag) (mg : Str → Option Value) (base : Heap) (CX : CXT) (k : Nat) (f : Addr) (F : LF) (fr : List Str) (sp : List (Option V) → Hp → VK → XK → Prop) : Prop :=
  ∀ (A : Around) (outer : List Env) (s : Shared) (H : Hp) (ws : List (Option V)) (Q : VK) (E : XK), Room k A → Env0 P w K mg base A outer s H → Lv f F H → CellsAt F.cl fr ws s.heap H → sp ws H Q E → codeAny (model P w) A (.call (.ref f) ⟨[], []⟩) (CR CX outer P w H s Q E) s
section
variable {CX : CXT} {P : Program} {w : World} {K : PySem.W.Frag} {mg : Str → Option Value} {base : Heap} {N fr : List Str} {F : LF} {f : Addr} {A : Around} {outer : List Env} {s : Shared} {H : Hp} {E : XK} {ws : List (Option V)} {k : Nat} {sp : List (Option V) → Hp → VK → XK → Prop}
abbrev lcx (CX : CXT) (P : Program) (w : World) (K : PySem.W.Frag) (mg : Str → Option Value) (base : Heap) (N : List Str) (F : LF) (f : Addr) (A : Around) (outer : List Env) (s : Shared) (H : Hp) (E : XK) : Cx := ncx CX P w K mg base N F.nf f A outer s H E
/-- THE RULE: a lambda by its body -/
theorem lok_of (S : LScope N fr F.scope) (hb : LBind f F)
    (hbody : ∀ (A : Around) (outer : List Env) (s : Shared) (H : Hp) (ws : List (Option V)) (Q : VK) (E : XK), Room k (A.deeper (envF F.nf f s.heap.objs.size)) → Lv f F H → ws.length = fr.length → sp ws H Q E →
      ∃ t, PE (lcx CX P w K mg base N F f A outer s H E) F.body t ∧ t ws H Q) : LOk P w K mg base CX (k + 1) f F fr sp := by
  intro A outer s H ws Q E hr e0 L C hsp
  have lim : s.heap.NoLimit := e0.mod.nolimit.keeps fun b o e => (e0.bs b o e).1
  obtain ⟨od, sl, pm, ct, ho⟩ := LamO.at_ e0.hok L.fn
  obtain ⟨bs, b1, b2⟩ := hb P w s H pm ct L e0.hok
  refine kla_callFunE hr.depth ho rfl S.co S.gen rfl (codeO_at e0.hok L.co) (b1 _ _ _ _ ?_)
  refine wpAny_newFunctionEnv S.nocell b2 (fun h₁ hns hsb => ⟨lim.fresh _ hsb, ?_⟩) S.kind
  show codeAny _ _ (.expr F.body (envF F.nf f s.heap.objs.size)) _ _
  have kp : ∀ b o, s.heap.get? b = some o → h₁.get? b = some o := fun b o e => hsb.extBut b o (Nat.ne_of_lt (Heap.lt_size e)) (Heap.get?_push_of_some _ e)
  obtain ⟨t, ht, hq⟩ := hbody A outer s H ws Q E (hr.deeper _) L C.len hsp
  have eN := S.eq
  have noA : ∀ b : Addr, b ∉ (lcx CX P w K mg base N F f A outer s H E).ex := fun b z => absurd (show b ∈ ([] : List Addr) from z) (by simp)
  have cellK : ∀ {c : Addr} {v : Option Value}, s.heap.IsCell c v → h₁.IsCell c v := fun {c v} ⟨o, ho, hd⟩ => ⟨o, kp _ _ ho, hd⟩
  have I : Inv (lcx CX P w K mg base N F f A outer s H E) [] ws H { s with heap := h₁, toks := s.toks + bs.length } := by
    refine ⟨⟨e0.mod, S.kind, rfl, rfl, Nat.le_refl _, C.inj, fun y hy => ?_, fun y c z _ => ?_, fun _ => hr.hd, Around.frames_deeper e0.frames, .inr ⟨rfl, rfl⟩, fun b z => absurd z (noA b), e0.bs, e0.bsz, fun b _ _ => noA b, fun b z => absurd z (noA b), e0.funs, e0.frf⟩,
      rfl, e0.bare, Un.kept kp, ⟨_, hns, fun i y v e1 e2 e3 => ?_⟩, fun y c e => ?_, e0.hok.fresh (Nat.le_refl _), fun y c e => (C.all y c e).1, fun q hq => absurd (show q ∈ ([] : List (Addr × Obj)) ++ [] from hq) (by simp), e0.hok.kept kp, ?_⟩
    · rcases (show F.scope.names.lookup y = some .cell ∨ F.scope.names.lookup y = some .free from hy) with hy | hy
      · exact absurd rfl (S.nocell _ (PySem.mem_of_lookup hy))
      · obtain ⟨i, hi⟩ := List.mem_iff_getElem?.mp (S.free _ (PySem.mem_of_lookup hy) rfl)
        obtain ⟨c, hc, _⟩ := C.has i y hi
        exact ⟨c, hc⟩
    · exact absurd (show false = true from z) (by simp)
    · have e1 : N[i]? = some y := e1
      rw [eN] at e1
      obtain ⟨c, hc, hv⟩ := C.has i y e1
      obtain ⟨u, ru, hu⟩ := hv v e2
      exact ⟨u, ru, .inr ⟨.inr (S.frk y (List.mem_of_getElem? e1)), c, hc, cellK hu⟩⟩
    · obtain ⟨v, z⟩ := (C.all y c e).2
      exact ⟨v, cellK z⟩
    · show ws.length = N.length
      rw [eN]
      exact C.len
  refine kla_codeExpr (wpAny_mono (ht.run [] _ ws H Q I hq) (fun v s' hs => ?_) fun e s' hs => hs)
  obtain ⟨u, H', J, rv, q⟩ := hs
  exact ⟨u, H', J.os, J.bare, J.base, J.hok, rv, q⟩
end
/-! ### what may be asked of a value that is called with nothing -/
/-- in the state (s, H), with the callers' frames fs: f is a lambda that lives, its cells hold ws, none of the cells is a frame's -/
structure Act (f : Addr) (F : LF) (fr : List Str) (ws : List (Option V)) (fs : List Addr) (s : Shared) (H : Hp) : Prop where
  lv : Lv f F H
  cells : CellsAt F.cl fr ws s.heap H
  nf : ∀ y c, F.cl.lookup y = some c → c ∉ fs
section
variable {X : Cx} {pins : List (Addr × Obj)} {σ : L2.St} {H : Hp} {s : Shared} {f : Addr} {F : LF} {fr : List Str} {ws : List (Option V)}
/-- a callee's own state, from its entry's -/
theorem Act.later (a : Act f F fr ws X.fs X.s_0 X.H_0) (hx : X.ex = []) (I : Inv X pins σ H s) (L : Lv f F H) : Act f F fr ws X.fs s H :=
  ⟨L, a.cells.later a.nf (fun _ _ _ z => by rw [hx] at z; cases z) I, a.nf⟩
/-- .. and handed on to a callee of its own: that frame is no cell -/
theorem Act.on (a : Act f F fr ws X.fs s H) (I : Inv X pins σ H s) : Act f F fr ws (frs X.stack) s H := by
  refine ⟨a.lv, a.cells, fun y c e hm => ?_⟩
  rcases List.mem_cons.mp (I.stkSub c hm) with z | z
  · obtain ⟨v, o, ho, hd⟩ := (a.cells.all y c e).2
    obtain ⟨m, ⟨o', es, ep, ho', hd', _⟩, _⟩ := I.loc
    rw [z, ho'] at ho
    cases ho
    rw [hd'] at hd
    cases hd
  · exact a.nf y c e z
/-- the maker's own state -/
theorem Act.made {js : List Nat} (hfn : ∀ x, X.fn x = true) (I : Inv X pins σ H s) (L : Lv f F H) (c : Caps X F.cl fr js) : Act f F fr (js.map (slotAt σ)) (frs X.stack) s H := by
  refine ⟨L, cells_of I c, fun y a e hm => ?_⟩
  have e' := c.sub y a e
  obtain ⟨v, o, ho, hd⟩ := I.cell y a e'
  rcases List.mem_cons.mp (I.stkSub a hm) with z | z
  · exact I.cne y a e' z
  · obtain ⟨_, o', ho', _⟩ := I.ok.funs.mem z
    exact absurd (Nat.lt_of_lt_of_le (Heap.lt_size ho') (I.ok.cab y a (hfn y) e')) (Nat.lt_irrefl _)
end
end
section
open PySem.Spec PySem.Calls PySem.W PyProof.Rows LamX NdefX
/-! ### an own exception whose __init__ begins with super().__init__(..) -/
section
variable {prog : Program} {w : World} {A : Around} {E : Value → Shared → Prop} {h : Heap} {g : Array GenState} {d : Drawn} {t : Nat} {os : OsState} {nm q : Str} {C N : Addr} {bs bm : List Value} {sn : List Str} {sub : List Value} {ab : Bool} {col : Option Bool} {dd : Option Addr} {k0 k1 k2 k3 k5 : Option Value}
theorem mw_check {M : Model} {e : Addr} {oe : Obj} {rest : List Value} {Q : Unit → Shared → Prop} (hC : h.get? C = some (excClassObj nm q C N bs bm true sn sub ab col dd k0 k1 k2 k3 k5 "ValueError.__new__")) (he : h.get? e = some oe) (hcls : oe.cls = .ref C) (hq : Q () ⟨h, g, d, t, os⟩) :
    wpAny M A (checkBoundCall "ValueError.__init__" ⟨.ref e :: rest, []⟩) Q E ⟨h, g, d, t, os⟩ := ESX.check_bound F.excBase_ValueError hC he hcls hq
/-- the wrapper is called: the args are laid anew -/
theorem mw_call {u e t0 : Addr} {rest : List Value} {Q : Value → Shared → Prop} (hC : h.get? C = some (excClassObj nm q C N bs bm true sn sub ab col dd k0 k1 k2 k3 k5 "ValueError.__new__")) (he : h.get? e = some (HandSPX.excO C t0)) (hu : h.get? u = some (kxs_mw "ValueError.__init__" e)) (hl : rest.length ≤ sizeLine)
    (hq : ∀ h' t1, (∀ b o, b ≠ e → h.get? b = some o → h'.get? b = some o) → h'.get? e = some (HandSPX.excO C t1) → Q .none ⟨h', g, d, t, os⟩) : wpAny (model prog w) A (call (.ref u) rest) Q E ⟨h, g, d, t, os⟩ := by
  apply wpAny_call
  apply codeAny_of_tree
  show wpAny _ A.in1 (callAny (.ref u) ⟨rest, []⟩) _ _ _
  simp only [callAny]
  apply wpAny_bind
  apply wpAny_load hu
  simp only [kxs_mw, show (Value.type "method-wrapper" == Value.type "method" || Value.type "method-wrapper" == Value.type "builtin_function_or_method" || Value.type "method-wrapper" == Value.type "method-wrapper") = true by decide, if_true]
  refine KFB.if_so (by decide) ?_
  refine wpAny_bind (mw_check hC he rfl ?_)
  refine wpAny_bind (wpAny_pure (wpAny_pure ?_))
  refine ⟨Code.quiet_builtin _ (by decide +kernel), codeAny_builtin F.excBase_ValueError.initEntry ?_⟩
  rw [Around.under_plainId F.excBase_ValueError.init.plain _]
  wp_walk
  refine hq _ h.objs.size (fun b o hb ho => ?_) ?_
  · rw [Heap.get?_update_other _ _ (fun z => hb z.symm)]
    exact Heap.get?_push_of_some _ ho
  · rw [Heap.get?_update_self _ (Heap.get?_push_of_some _ he) rfl]
    rfl
end
/-- such a def of the class at D, its cell at cc -/
structure ProgOk (P : Program) (file : Str) : Prop where
  file_ : ((P.main.file : Str) == file) = true
  top_ : (P.main.scope.names.lookup ("super" : Str)).isSome = false
structure FunS (K : Frag) (file : Str) (x qual : Str) (st : Stmt) (D cc : Addr) (f : Addr) (fd : FuncData) : Prop where
  ex : ∃ (oc : Value) (od : Option Addr) (kV doc pm : Value) (an : Option Addr) (cda : Addr) (ct : Value) (osl : Array (Option Value)) (cl : Value) (cdd : Option Addr) (vs : Array Value) (csl : Array (Option Value)) (tf : Tok) (ec : Value) (ed : Option Addr) (es : Array (Option Value)),
    fd = ksFn x qual (defArgs st) (defBody st) (defScope st) .none kV doc pm an (.ref cda) ct cc ∧ K.lookup f = some ⟨oc, od, .func fd, osl⟩ ∧ codeIn K (.ref cda) qual = true ∧ K.lookup cda = some ⟨cl, cdd, .fields vs, csl⟩ ∧ vs[2]? = some (.str file tf) ∧ K.lookup cc = some ⟨ec, ed, .cell (some (.ref D)), es⟩
  kp : keepIn K (.ref f) = true
section
variable {P : Program} {w : World} {K : Frag} {mg : Str → Option Value} {base : Heap}
theorem FunS.ok {CX : CXT} {x qual : Str} {st : Stmt} {D cc f : Addr} {fd : FuncData} {N ps : List Str} {k : Nat} {sp : Sp} {ar : Arg} {e : Expr} {rest : List Stmt} {p0 p1 apos pos epos : Pos} {file : Str} (HP : ProgOk P file) (F : FunS K file x qual st D cc f fd) (S : NScope N ps ["__class__"] (defScope st)) (len : ∀ vs H Q E, sp vs H Q E → vs.length = ps.length)
    (hst : defBody st = .Expr (.Call (.Attribute (.Call (.Name "super" p0) [] [] p1) "__init__" apos) [e] [] pos) epos :: rest) (hks : (defScope st).names.lookup ("super" : Str) = some .globalImplicit) (hint : ∀ env : Env, env.scope = defScope st → interactive env = false) (pl : Env → Sem Bool)
    (hev : ∀ env : Env, eval (.Call (.Attribute (.Call (.Name "super" p0) [] [] p1) "__init__" apos) [e] [] pos) env = (do
      let ov ← attributeBase (.Call (.Name "super" p0) [] [] p1) "__init__" env (eval (.Call (.Name "super" p0) [] [] p1) env)
      standAt apos.atName
      let (f, first) ← holding [ov] (getMethod ov "__init__" (pl env))
      callWith pos f first (backTo pos (starEach [e] env)) [])) (hse : ∀ env : Env, starEach [e] env = [(false, eval e env)]) (har : ((defArgs st).posonlyargs ++ (defArgs st).args).head? = some ar) (hp0 : ps.head? = some ar.arg)
    (hms : mg "super" = none) (hthird : nsIn K cStatics "thirdparty.any" = some none)
    (hbody : ∀ (F' : NF) (A : Around) (outer : List Env) (s : Shared) (H : Hp) (vs : List V) (Q : VK) (E : XK), F'.scope = defScope st → Room k (A.deeper (envF F' f s.heap.objs.size)) → sp vs H Q E →
      ∃ (te : TE) (tb : TS) (a C : Addr) (z : V), vs.head? = some (.ref a) ∧ H a = some (exo a C none) ∧ OexC K C ∧ (∃ cdD, clsIn K D = some cdD) ∧ mroIn K C (.ref D) = some true ∧ ks_superIn K C D "__init__" = some (some (.builtin "ValueError.__init__")) ∧ subIn K (.ref C) (.type "ValueError") = some true ∧
        PE (ncx CX P w K mg base N F' f A outer s H E) e te ∧ PSs (ncx CX P w K mg base N F' f A outer s H E) rest tb ∧ (∀ Q' : VK, Q' z H → te (startF N vs [none]) H Q') ∧ tb { nx := fun _ H' => Q .non H', rt := Q } (startF N vs [none]) H) :
    FnOk P w K mg base CX (k + 1) f fd ps sp := by
  obtain ⟨oc, od, kV, doc, pm, an, cda, ct, osl, cl, cdd, vs2, csl, tf, ec, ed, es, rfl, lk, hcd, lcd, h2, lcc⟩ := F.ex
  obtain ⟨hfile, htop⟩ := HP
  refine ⟨len, fun A outer s H args us vs Q E hr e0 hb r hsp => ?_⟩
  have hl := len _ _ _ _ hsp
  have KX : K.In s.heap := e0.mod.kin.keeps fun b o e => (e0.bs b o e).1
  have lim : s.heap.NoLimit := e0.mod.nolimit.keeps fun b o e => (e0.bs b o e).1
  let F' : NF := ⟨x, qual, defArgs st, defBody st, defScope st, [("__class__", cc)], cda⟩
  obtain ⟨te, tb, a, C, z, hva, ha, T, ⟨cdD, hD⟩, hmro, hsup, hVE, he, hrest, hte, htb⟩ := hbody F' A outer s H vs Q E rfl (hr.deeper _) hsp
  refine codeAny_call_function hr.depth (KX _ _ lk) rfl S.co S.gen rfl (codeRec_of KX hcd) (hb _ _ _ _ ?_)
  refine wpAny_newFunctionEnv S.nocell (fun ⟨n, _⟩ hy => S.par n (List.of_mem_zip hy).1) (fun h₁ hns hsb => ⟨lim.fresh _ hsb, ?_⟩) S.kind
  show codeAny _ _ (.func (defBody st) (envF F' f s.heap.objs.size)) _ _
  refine ks_codeAny_funcAt ?_
  have kp : ∀ b o, s.heap.get? b = some o → h₁.get? b = some o := fun b o e => hsb.extBut b o (Nat.ne_of_lt (Heap.lt_size e)) (Heap.get?_push_of_some _ e)
  have CA : CellsAt F'.cl ["__class__"] [none] s.heap H := by
    have lk1 : ∀ y c, F'.cl.lookup y = some c → y = "__class__" ∧ c = cc := fun y c e => by
      have e' : ([("__class__", cc)] : List (Str × Addr)).lookup y = some c := e
      by_cases hy : y = "__class__"
      · rw [hy] at e'
        exact ⟨hy, (Option.some.inj e').symm⟩
      · have hb : (y == ("__class__" : Str)) = false := beq_eq_false_iff_ne.mpr hy
        simp only [List.lookup, hb] at e'
        cases e'
    refine ⟨rfl, fun y c e => ?_, fun y1 y2 c e1 e2 => by rw [(lk1 y1 c e1).1, (lk1 y2 c e2).1], fun i y hy => ⟨cc, ?_, fun v hv => ?_⟩⟩
    · rw [(lk1 y c e).2]
      exact ⟨(e0.bs cc _ (e0.mod.kin _ _ lcc)).2, _, _, KX _ _ lcc, rfl⟩
    · cases i with
      | zero => cases hy; rfl
      | succ n => simp at hy
    · cases i with
      | zero => cases hv
      | succ n => simp at hv
  have I : Inv (ncx CX P w K mg base N F' f A outer s H E) [] (startF N vs [none]) H { s with heap := h₁, toks := s.toks + (ps.zip us).length } := inv_startN S hr.hd e0 hl r CA hns kp
  rw [hst]
  refine ks_wpAt_execs_cons (ks_wpAt_Expr_any (ks_wpAt_MethodCall (pl := pl _) ?_ (hev _)) (hint _ rfl))
  have hk0 : (defScope st).names.lookup ar.arg = some .local := S.par _ (List.mem_of_head? hp0)
  have hkc : (defScope st).names.lookup ("__class__" : Str) = some .free := S.frk _ List.mem_cons_self
  have K1 : K.In h₁ := fun b o e => kp b o (KX b o e)
  obtain ⟨oD, hD1, hD2⟩ : ∃ oD, h₁.get? D = some oD ∧ oD.data = .cls cdD := by
    unfold clsIn at hD
    split at hD
    · rename_i c0 d0 cd' sl ho
      cases hD
      exact ⟨_, K1 _ _ ho, rfl⟩
    · cases hD
  obtain ⟨t0, hea⟩ := exo_at I.hok ha
  obtain ⟨cd, hcl⟩ : ∃ cd, clsIn K C = some cd := by
    unfold ks_superIn at hsup
    cases hc : clsIn K C with
    | none => rw [hc] at hsup; cases hsup
    | some cd => exact ⟨cd, rfl⟩
  have hal : alongIn K "__init__" ((cd.mro.dropWhile (· != .ref D)).drop 1) = some (some (.builtin "ValueError.__init__")) := by
    unfold ks_superIn at hsup
    rw [hcl] at hsup
    exact hsup
  have hself : (ps.zip us).reverse.lookup ar.arg = some (.ref a) := by
    have ndP : ps.Nodup := (List.nodup_append.mp (S.pre ▸ S.nd.sublist (List.take_sublist (ps.length + 1) N))).1
    have hps : ps[0]? = some ar.arg := by rw [← List.head?_eq_getElem?]; exact hp0
    have hvs0 : vs[0]? = some (.ref a) := by rw [← List.head?_eq_getElem?]; exact hva
    obtain ⟨u, hu, ru⟩ := r.get hvs0
    obtain rfl : u = Value.ref a := ru
    exact zip_look ndP hps hu
  obtain ⟨mb, hb1, hb2⟩ := I.mod.blt
  refine ks_wpAt_super_base (prog := P) (w := w) (env := envF F' f s.heap.objs.size) hks hkc (by decide) rfl (K1 _ _ lk) rfl har rfl (K1 _ _ lcd) rfl h2 hfile htop ?_
  refine ks_loadName_global S.kind hks (loadGlobal_builtin (env := envF F' f s.heap.objs.size) (I.mod.glob.keeps I.bk) hms (hb1.keeps I.bk) ((hb2 _ (by decide)).trans (by first | boot_by_name | rfl | kernel_rfl)) ⟨rfl, ?_⟩)
  refine wpAny_loadName_free (env := envF F' f s.heap.objs.size) S.kind hkc rfl ⟨_, K1 _ _ lcc, rfl⟩ ?_
  refine wpAny_loadName_local (env := envF F' f s.heap.objs.size) S.kind hk0 hns hself ?_
  refine ks_wpAny_isType_cls hD1 hD2 ⟨rfl, ?_⟩
  refine ks_wpAny_call_super hD1 hD2 hea rfl (fun c z => by cases z) (looks_mroIn K1 hmro) (fun h2' eso k2 => ?_)
  have K2 : K.In h2' := fun b o e => k2 b o (K1 b o e)
  have Ia : Inv (ncx CX P w K mg base N F' f A outer s H E) [] (startF N vs [none]) H { s with heap := h2', toks := s.toks + (ps.zip us).length } := I.kept k2
  have hea2 := k2 _ _ hea
  have hne : a ≠ C := fun z => by
    have hC0 : ∃ o cd', h2'.get? C = some o ∧ o.data = .cls cd' := by
      unfold clsIn at hcl
      split at hcl
      · rename_i c0 d0 cd' sl ho
        exact ⟨_, _, K2 _ _ ho, rfl⟩
      · cases hcl
    obtain ⟨o, cd', e1, e2⟩ := hC0
    rw [← z, hea2] at e1
    cases e1
    cases e2
  have tyA : Looks (model P w) h2' (typeOf (.ref a)) (.ref C) := fun A Q E s k q => wpAny_typeOf_ref (k _ _ hea2) q
  refine kxs_getMethod (h := h2') kxs_ValueError eso (looks_opaque K2 hthird) (l₀ := cd.mro) (fun A Q E s k q => wpAny_bind ((looks_clsIn K2 hcl) A _ E s k (wpAny_pure q))) rfl K2 hal (tyA.andThen (looks_subIn K2 hVE)) hne (by decide) ?_
  have I2 := ClX.pin_new (a := h2'.objs.size) (o := kxs_mw "ValueError.__init__" a) (h' := h2'.push (kxs_mw "ValueError.__init__" a)) (t' := s.toks + (ps.zip us).length + 1) Ia (fun b u z => Heap.get?_push_of_some _ z) (Nat.le_refl _) (Heap.get?_push_size _ rfl) (fun v z => nomatch z)
  have hpa : PA (ncx CX P w K mg base N F' f A outer s H E) [e] (tCons te tNil) := pa_cons he pa_nil (by rw [show starEach [e] (ncx CX P w K mg base N F' f A outer s H E).env = _ from hse _]; rfl)
  refine kxs_callWith (i := "ValueError.__init__") (x := a) (by rw [hse]; rfl) ?_
  have hrun := hpa.run pos _ _ _ _ (fun xs H1 => xs = [z] ∧ H1 = H) I2 (hte _ ⟨rfl, rfl⟩)
  have est : backTo pos (starEach [e] (envF F' f s.heap.objs.size)) = [(false, eval e (envF F' f s.heap.objs.size))] := by
    rw [hse]
    rfl
  rw [est]
  refine evalArgs_plain (thn (show wpAny _ _ (spliced [(false, eval e (envF F' f s.heap.objs.size))]) _ _ _ from est ▸ hrun) fun xs s3 h3 => ?_)
  obtain ⟨zs, H3, I3, rv, ezs, eH⟩ := h3
  subst ezs
  rw [eH] at I3
  refine ⟨(I3.pin _ (List.mem_append_right _ List.mem_cons_self)).1, ?_⟩
  obtain ⟨nmC, qC, NC, bsC, bmC, snC, subC, abC, colC, ddC, c0, c1, c2, c3, c5, hC, hbm⟩ := T.cls
  obtain ⟨t3, he3⟩ := exo_at I3.hok ha
  have hu3 := (I3.pin _ (List.mem_append_right _ List.mem_cons_self)).1
  have hlx : xs.length ≤ sizeLine := by
    have := Paired.length rv
    simp at this
    rw [← this]
    exact sz_le (by decide)
  obtain ⟨hp3, g3, d3, tk3, os3⟩ := s3
  show wpAny _ _ (call (.ref h2'.objs.size) ([] ++ xs)) _ _ _
  refine mw_call (I3.kIn _ _ hC) he3 hu3 hlx (fun h4 t4 k4 he4 => ?_)
  have J := (ClX.unpin I3).write (t' := tk3) (x := a) (e := a) (o := exo a C none) (by rw [ha]; exact True.intro) (.inl rfl) k4 ⟨_, he4⟩ (exo_ok he4)
  have eu : upd H a (exo a C none) = H := by
    funext b
    by_cases hb : b = a
    · rw [hb, upd_same, ha]
    · rw [upd_ne hb]
  rw [eu] at J
  refine wpAt_of_wpAny (wpAny_mono (hrest.run [] _ _ _ _ J htb) (fun fl s' hs => ?_) fun e s' hs => hs)
  have fin : ∀ {σ' : L2.St} {H' : Hp} {v : V} {u : Value}, Inv (ncx CX P w K mg base N F' f A outer s H E) [] σ' H' s' → L2.RelV v u → Q v H' → CE outer P w H s Q u s' :=
    fun {σ' H' v u} J rv q => ⟨v, H', J.os, J.bare, J.base, J.hok, rv, q⟩
  cases fl with
  | ret u =>
    obtain ⟨v, σ', H', J, rv, q⟩ := hs
    exact fin J rv q
  | next =>
    obtain ⟨σ', H', J, q⟩ := hs
    exact fin (v := V.non) (u := Value.none) J rfl q
  | brk =>
    obtain ⟨_, _, _, q⟩ := hs
    exact False.elim q
  | cont =>
    obtain ⟨_, _, _, q⟩ := hs
    exact False.elim q
end
end
section
open PySem.Spec PySem.Calls PySem.W PyProof.Rows LamX NdefX
/-! ### an own exception made, its context None -/
section
variable {X : Cx} {e : Expr} {es : List Expr} {ta : TA} {p pos : Pos}
theorem pmkN {CX : CXT} {x : Str} {C fI : Addr} {k : Nat} {fd : FuncData} {ps : List Str} {sp : Sp} (T : OexC X.K C) (iC : findIn X.K (.ref C) "__init__" = some (some (.ref fI))) (tI : typeIn X.K (.ref fI) = some (.type "function")) (F1 : FnOk X.prog X.w X.K X.mg X.base CX k fI fd ps sp) (hr : Room (k + 1) X.A)
    (hb : Binds X.K fd ps []) (hx : Passes CX X (fun _ _ _ => False)) (hg : Gl X x) (hm : X.mg x = some (.ref C)) (ha : PA X (e :: es) ta) (hdb : (x == ("__debug__" : Str)) = false := by decide) (he : starEach (e :: es) X.env = (false, eval e X.env) :: starEach es X.env := by rfl)
    (hpl : (backTo pos (starEach es X.env)).any (·.1) = false := by rfl) : L2N.PMk X (.Call (.Name x p) (e :: es) [] pos) (tMkO C sp [] ta) := by
  intro pins s σ H Q I h
  obtain ⟨nm, q, N, bs, bm, sn, sub, ab, col, dd, k0, k1, k2, k3, k5, hC, hbm⟩ := T.cls
  refine wpAny_Call_Name_kw (ld_glob I hg hm ?_ hdb)
  refine PySem.W.callWith_K (h₀ := X.base) I.ok.mod.kin T.kC (thn (ha.run pos pins s σ H _ I h) fun us s1 hh => ?_) he hpl
  obtain ⟨vs, H1, I1, r1, hz, q1⟩ := hh
  refine ⟨I1.kIn, ?_⟩
  obtain ⟨hp, g, dr, tk, os⟩ := s1
  let a : Addr := hp.objs.size + 1
  let h2 : Heap := (hp.push (kdv_tup us)).push (HandSPX.excO C hp.objs.size)
  have hsz : hp.objs.size ≤ a := Nat.le_succ _
  have hq := q1 a (I1.hok.fresh hsz)
  rw [List.append_nil] at hq
  have kk : ∀ b o, hp.get? b = some o → h2.get? b = some o := fun b o z => Heap.get?_push_of_some _ (Heap.get?_push_of_some _ z)
  have hget : h2.get? a = some (HandSPX.excO C hp.objs.size) := by
    show ((hp.push (kdv_tup us)).push (HandSPX.excO C hp.objs.size)).get? (hp.objs.size + 1) = _
    heap_get
  have I2 : Inv X pins σ (upd H1 a (exo a C none)) ⟨h2, g, dr, tk, os⟩ := I1.laid (t' := tk) (a := a) (o := exo a C none) (h' := h2) kk hsz (exo_ok hget)
  have hus : us.length ≤ sizeLine := by
    rw [← Paired.length r1, sizeLine_eq]
    omega
  have hl : (Value.ref a :: us).length = ps.length := by
    have z := F1.len _ _ _ _ hq
    rw [← z]
    show us.length + 1 = vs.length + 1
    rw [r1.length]
  have b2 := hb ⟨h2, g, dr, tk, os⟩ (Value.ref a :: us) I2.kIn (by rw [List.append_nil]; exact hl)
  rw [List.append_nil] at b2
  apply wpAny_call
  refine HandSPX.call_own F.excBase_ValueError (fun Y => HandSPX.refsVE_contains Y bm hbm) (I1.kIn _ _ hC) (looks_findIn I1.kIn iC) (fun self => bind_fn I1.kIn self tI) hus ?_
  refine codeAny_mono (F1.run _ X.stack _ _ ⟨Value.ref a :: us, []⟩ (Value.ref a :: us) (V.ref a :: vs) _ (fun _ _ _ => False) (hr.make C us []) (I2.env0.make C us []) b2 (.cons rfl r1) hq) fun r s' hq' => ?_
  match r, hq' with
  | .error er, hq' => exact hx pins σ _ _ er s' I2 hq'
  | .ok .next, hq' => exact False.elim hq'
  | .ok .brk, hq' => exact False.elim hq'
  | .ok .cont, hq' => exact False.elim hq'
  | .ok (.ret u), hq' =>
    obtain ⟨v, H2, os2, bare2, un2, hok2, rv, ev, d, fs, ea, ed, hd1, q2⟩ := hq'
    subst ev
    obtain ⟨h3, g2, d2, t2, os'⟩ := s'
    obtain ⟨t0, G, J, kG, ge, hoe, na⟩ := mk_end0 (d2 := d2) (t2 := t2) I1 hsz kk un2 hok2 os2 bare2 ea ed hd1
    exact ⟨rv, a, _, _, ⟨G, g2, d2, t2, os'⟩, _, .ref C, some d, rfl, J, kG, ge, hoe, ⟨rfl, rfl, fun ws z => by cases z; rfl⟩, rfl, rfl, na, rfl, bare2, raises_own T.exC T.tyC, q2⟩
end
/-- nothing leaves, seen from a place whence something may -/
theorem passN {X : Cx} : Passes C8.CX0 X (fun _ _ _ => False) := fun _ _ _ _ _ _ _ h => h.elim
section
variable {P : Program} {w : World} {K : Frag} {mg : Str → Option Value} {base : Heap}
/-- a def of the text by its body, whatever it may let out -/
theorem FunOkC {CX : CXT} {x qual : Str} {st : Stmt} {f : Addr} {fd : FuncData} {N ps : List Str} {k : Nat} {sp : Sp} (F : L2.Fun K x qual st f fd) (S : FnScope N ps (defScope st)) (len : ∀ vs H Q E, sp vs H Q E → vs.length = ps.length)
    (hbody : ∀ (cdv : Value) (A : Around) (outer : List Env) (s : Shared) (H : Hp) (vs : List V) (Q : VK) (E : XK), Room k (A.deeper (envOfC qual (defScope st) s.heap.objs.size f cdv)) → sp vs H Q E →
      ∃ t, PSs (cxOf CX P w K mg base N qual (defScope st) f cdv A outer s H E) (defBody st) t ∧ t { nx := fun _ H' => Q .non H', rt := Q } (L2.start N vs) H) : FnOk P w K mg base CX (k + 1) f fd ps sp := by
  obtain ⟨oc, od, kV, doc, pm, an, cdv, ct, osl, rfl, lk, hcd⟩ := F.ex
  exact fn_of lk hcd S len fun A outer s H vs Q E hr hsp => hbody cdv A outer s H vs Q E hr hsp
/-! ### a promise of the very state -/
abbrev SpS := List V → List Env → Shared → Hp → VK → XK → Prop
structure FnS (P : Program) (w : World) (K : Frag) (mg : Str → Option Value) (base : Heap) (CX : CXT) (k : Nat) (f : Addr) (ps : List Str) (sp : SpS) : Prop where
  len : ∀ vs o s H Q E, sp vs o s H Q E → vs.length = ps.length
  run : ∀ (A : Around) (outer : List Env) (s : Shared) (H : Hp) (us : List Value) (vs : List V) (Q : VK) (E : XK), Room k A → Env0 P w K mg base A outer s H → Vals vs us → sp vs outer s H Q E → codeAny (model P w) A (.call (.ref f) ⟨us, []⟩) (CR CX outer P w H s Q E) s
theorem FunOkS {CX : CXT} {x qual : Str} {st : Stmt} {f : Addr} {fd : FuncData} {N ps : List Str} {k : Nat} {sp : SpS} (F : L2.Fun K x qual st f fd) (hb : Binds K fd ps []) (S : FnScope N ps (defScope st)) (len : ∀ vs o s H Q E, sp vs o s H Q E → vs.length = ps.length)
    (hbody : ∀ (cdv : Value) (A : Around) (outer : List Env) (s : Shared) (H : Hp) (vs : List V) (Q : VK) (E : XK), Room k (A.deeper (envOfC qual (defScope st) s.heap.objs.size f cdv)) → sp vs outer s H Q E →
      ∃ t, PSs (cxOf CX P w K mg base N qual (defScope st) f cdv A outer s H E) (defBody st) t ∧ t { nx := fun _ H' => Q .non H', rt := Q } (L2.start N vs) H) : FnS P w K mg base CX (k + 1) f ps sp := by
  obtain ⟨oc, od, kV, doc, pm, an, cdv, ct, osl, rfl, lk, hcd⟩ := F.ex
  refine ⟨len, fun A outer s H us vs Q E hr e0 r hsp => ?_⟩
  have hl := len _ _ _ _ _ _ hsp
  have KX : K.In s.heap := e0.mod.kin.keeps fun b o z => (e0.bs b o z).1
  have b2 := hb s us KX (by rw [List.append_nil, ← hl]; exact r.length.symm)
  rw [List.append_nil] at b2
  exact run_ofS (us := us) (vs := vs) lk hcd S hr e0 b2 r hl fun hr' => hbody cdv A outer s H vs Q E hr' hsp
end
section
variable {X : Cx} {CX : CXT} {k i : Nat} {f g : Addr} {ps fr : List Str} {F : LF} {ws : List (Option V)} {sp : SpS} {E : XK} {x a : Str} {p p1 p2 pos : Pos} {e : Expr} {es : List Expr} {t : TA} {lp : List (Option V) → Hp → VK → XK → Prop}
theorem pe_callS (G : FnS X.prog X.w X.K X.mg X.base CX k g ps sp) (hr : Room k X.A) (hg : Gl X x) (hm : X.mg x = some (.ref g)) (hk : keepIn X.K (.ref g) = true) (hx : Passes CX X E) (ha : PA X (e :: es) t) (hdb : (x == ("__debug__" : Str)) = false := by decide)
    (he : starEach (e :: es) X.env = (false, eval e X.env) :: starEach es X.env := by rfl) (hpl : (backTo pos (starEach es X.env)).any (·.1) = false := by rfl) :
    PE X (.Call (.Name x p) (e :: es) [] pos) (fun σ H Q => t σ H fun vs H1 => ∀ pins s1, Inv X pins σ H1 s1 → sp vs X.stack s1 H1 Q E) := by
  refine ⟨fun pins s σ H Q I h => ?_⟩
  refine wpAny_Call_Name_kw (ld_glob I hg hm ?_ hdb)
  refine callWith_K (h₀ := X.base) I.ok.mod.kin hk (thn (ha.run pos pins s σ H _ I h) fun us s1 hh => ?_) he hpl
  obtain ⟨vs, H1, I1, r, q⟩ := hh
  refine ⟨I1.kIn, wpAny_call (codeAny_mono (G.run X.A X.stack s1 H1 us vs Q E hr I1.env0 r (q pins s1 I1)) fun r s' hq => ?_)⟩
  match r, hq with
  | .error er, hq => exact hx pins σ H1 s1 er s' I1 hq
  | .ok (.ret u), hq => exact I1.after hq
  | .ok .next, hq => exact False.elim hq
  | .ok .brk, hq => exact False.elim hq
  | .ok .cont, hq => exact False.elim hq
/-- a(), a the slot that holds the lambda -/
theorem pe_act {E : L2.St → XK} (L : LOk X.prog X.w X.K X.mg X.base CX k f F fr lp) (A0 : Act f F fr ws X.fs X.s_0 X.H_0) (hex : X.ex = []) (hr : Room k X.A) (hx : ∀ σ, PassesAt CX X σ (E σ)) (hN : X.N[i]? = some a) (hv : Vis X.env.scope a) (hd : (a == ("__debug__" : Str)) = false := by decide) (hcd : (a == ("__classdict__" : Str)) = false := by decide) :
    PE X (.Call (.Name a p1) [] [] p2) (fun σ H Q => σ[i]? = some (some (.ref f)) ∧ Lv f F H ∧ lp ws H Q (E σ)) := by
  refine ⟨fun pins s σ H Q I h => ?_⟩
  obtain ⟨hs, lv, hq⟩ := h
  refine wpAny_Call_Name_kw (thn ((pe_var (pos := p1) (i := i) hN hv hd hcd).run pins s σ H (fun v H1 => v = .ref f ∧ H1 = H) I ⟨.ref f, hs, rfl, rfl⟩) fun u s1 hh => ?_)
  obtain ⟨v, H1, I1, r1, ev, eH⟩ := hh
  subst ev
  rw [eH] at I1
  cases r1
  obtain ⟨od, sl, pm, ct, ho⟩ := LamO.at_ I1.hok lv.fn
  refine callWith_F0 ⟨_, _, _, _, ho⟩ (wpAny_call (codeAny_mono (L X.A X.stack s1 H ws Q (E σ) hr I1.env0 lv (A0.later hex I1 lv).cells hq) fun r s' hq' => ?_))
  match r, hq' with
  | .error er, hq' => exact hx σ pins H s1 er s' I1 hq'
  | .ok (.ret u), hq' => exact I1.after hq'
  | .ok .next, hq' => exact False.elim hq'
  | .ok .brk, hq' => exact False.elim hq'
  | .ok .cont, hq' => exact False.elim hq'
end
end
section
open PySem.Spec PySem.Calls PySem.W PyProof.Rows LamX NdefX
/-! ### the caught exception, where it is pinned -/
/-- it stands at a, of the class at D, its fields fs -/
structure Cgt (X : Cx) (D a : Addr) (oe : Obj) (d : Option Addr) : Prop where
  mem : (a, oe) ∈ X.pn
  zn : L2N.Zn (.ref D) d oe
  fl : ∃ vs, oe.data = .fields vs
def FldsAt (H : Hp) (d : Option Addr) (fs : List (Str × V)) : Prop := match d with
  | none => fs = []
  | some dd => H dd = some (.xd fs)
theorem FldsAt.keep {H H' : Hp} {S : List Addr} {d : Option Addr} {fs : List (Str × V)} (h : FldsAt H d fs) (f : Fr S H H') (n : ∀ b ∈ S, ∀ fs, H b ≠ some (.xd fs)) : FldsAt H' d fs := by
  cases d with
  | none => exact h
  | some dd => exact f dd _ h fun hb => n dd hb fs h
section
variable {X : Cx} {D a : Addr} {oe : Obj} {d : Option Addr} {pins : List (Addr × Obj)} {σ : L2.St} {H : Hp} {s : Shared} {fs : List (Str × V)}
theorem Cgt.inst (c : Cgt X D a oe d) (I : Inv X pins σ H s) (hf : FldsAt H d fs) : ∃ od, InstAt s.heap a oe D od ∧ (∀ o, od = some o → ∃ mA : Str → Option Value, (∀ n, lookIn n o = some (mA n)) ∧ ∀ n, RelO (fs.lookup n) (mA n)) ∧ (od = none ↔ d = none) := by
  obtain ⟨hget, _⟩ := I.pin (a, oe) (List.mem_append_left _ c.mem)
  obtain ⟨vs, hv⟩ := c.fl
  obtain ⟨z1, z2, _⟩ := c.zn
  cases d with
  | none =>
    refine ⟨none, ⟨hget, z1, ?_, ?_⟩, (fun o z => by cases z), by simp⟩
    · unfold notCls
      rw [hv] <;> rfl
    · rw [z2]
      trivial
  | some dd =>
    have hx : ObjOk X.prog X.w H s.heap dd (.xd fs) := I.hok dd _ hf
    obtain ⟨mA, hns, hr⟩ := hx
    obtain ⟨od, ho, hl⟩ := lookIn_ns hns
    refine ⟨some od, ⟨hget, z1, ?_, ?_⟩, fun o z => by cases z; exact ⟨mA, hl, hr⟩, by simp⟩
    · unfold notCls
      rw [hv] <;> rfl
    · rw [z2]
      exact ho
/-- isinstance(e, c) -/
def rIsC (K : Frag) (D a : Addr) (d : Option Addr) : List V → Hp → VK → Prop := fun xs H Q => ∃ (c : V) (cv : Value) (b : Bool) (fs : List (Str × V)), xs = [.ref a, c] ∧ FldsAt H d fs ∧ (∀ u, RelV c u → u = cv) ∧ kitOne K (.ref D) cv = some b ∧ Q (.bl b) H
theorem call_isC (C : ExcC X.K D) (c : Cgt X D a oe d) : CallR X (.builtin "isinstance") (rIsC X.K D a d) := by
  intro pins s σ H xs us Q I r h
  obtain ⟨cl, cv, b, fs, rfl, hf, hcv, e, q⟩ := h
  cases r with
  | cons rx rr =>
    cases rr with
    | cons rt rr =>
      cases rr
      cases rx
      cases hcv _ rt
      obtain ⟨od, J, _⟩ := c.inst I hf
      have hcl : (clsIn X.K D).isSome = true := by
        obtain ⟨cd, z, _⟩ := any_some C.hd
        rw [z]
        rfl
      exact kia_one (kitx_exc hcl C.hg C.hk C.hs C.ha C.hn C.ht C.hm) I.kIn J e (fun z => nomatch z) fun tk => ⟨.bl b, H, I.kept (t' := tk) fun _ _ z => z, rfl, q⟩
/-- e.n -/
def tFldC (D a : Addr) (d : Option Addr) (n : Str) (te : TE) : TE := fun σ H Q => te σ H fun x H1 => x = .ref a ∧ ∃ (fs : List (Str × V)) (v : V), d ≠ none ∧ FldsAt H1 d fs ∧ fs.lookup n = some v ∧ Q v H1
theorem pe_fldC {e : Expr} {te : TE} {pos : Pos} {n : Str} (T : XfC X.K D) (hno : findIn X.K (.ref D) n = some none) (c : Cgt X D a oe d) (he : PE X e te) (hb : attributeBase e n X.env (eval e X.env) = eval e X.env := by rfl) : PE X (.Attribute e n pos) (tFldC D a d n te) := by
  refine ⟨fun pins s σ H Q I h => ?_⟩
  refine attr_of hb (thn (he.run pins s σ H _ I h) fun u s1 hh => ?_)
  obtain ⟨x, H1, I1, rx, ex, fs, v, hd, hf, l, q⟩ := hh
  subst ex
  obtain rfl : u = Value.ref a := rx
  obtain ⟨od, J, hA, hn⟩ := c.inst I1 hf
  cases od with
  | none => exact absurd (hn.mp rfl) hd
  | some o =>
    obtain ⟨mA, hl, hr⟩ := hA o rfl
    obtain ⟨w, hw, rw'⟩ := RelO.some_of (v := v) (o := mA n) (by rw [← l]; exact hr n)
    exact HandSPX.exc_get I1.kIn J T.ga T.gg T.exC (findObj_own T.hdC hno rfl (by rw [hl, hw])) (handed_of rw') ⟨v, H1, I1.tok _, rw', q⟩
end
/-! ### defs called while the exception p is handled -/
def FnP (P : Program) (w : World) (K : Frag) (mg : Str → Option Value) (base : Heap) (CX : CXT) (k : Nat) (f : Addr) (p : Addr × Obj) (sp : Sp) : Prop :=
  ∀ (A : Around) (outer : List Env) (s : Shared) (H : Hp) (us : List Value) (vs : List V) (Q : VK) (E : XK), L2H.RoomH k A → L2H.Hot1 A p → L2H.PinOk outer H s p → Env0 P w K mg base A outer s H → Vals vs us → sp vs H Q E → codeAny (model P w) A (.call (.ref f) ⟨us, []⟩) (CR CX outer P w H s Q E) s
section
variable {P : Program} {w : World} {K : Frag} {mg : Str → Option Value} {base : Heap}
theorem FunOkP {CX : CXT} {x qual : Str} {st : Stmt} {f : Addr} {fd : FuncData} {N ps : List Str} {k : Nat} {sp : Sp} {p : Addr × Obj} (F : L2.Fun K x qual st f fd) (hb : Binds K fd ps []) (S : FnScope N ps (defScope st)) (len : ∀ vs H Q E, sp vs H Q E → vs.length = ps.length)
    (hbody : ∀ (cdv : Value) (A : Around) (outer : List Env) (s : Shared) (H : Hp) (vs : List V) (Q : VK) (E : XK), L2H.RoomH k (A.deeper (envOfC qual (defScope st) s.heap.objs.size f cdv)) → sp vs H Q E →
      ∃ t, PSs (L2H.cxH CX P w K mg base N qual (defScope st) f cdv A outer s H E p) (defBody st) t ∧ t { nx := fun _ H' => Q .non H', rt := Q } (L2.start N vs) H) : FnP P w K mg base CX (k + 1) f p sp := by
  obtain ⟨oc, od, kV, doc, pm, an, cdv, ct, osl, rfl, lk, hcd⟩ := F.ex
  intro A outer s H us vs Q E hr hot hpin e0 r hsp
  have hl := len _ _ _ _ hsp
  have KX : K.In s.heap := e0.mod.kin.keeps fun b o z => (e0.bs b o z).1
  have lim : s.heap.NoLimit := e0.mod.nolimit.keeps fun b o z => (e0.bs b o z).1
  have b2 := hb s us KX (by rw [List.append_nil, ← hl]; exact r.length.symm)
  rw [List.append_nil] at b2
  have hkind : ∀ y ∈ ps.zip us, (defScope st).names.lookup y.1 = some .local ∨ ((defScope st).names.lookup y.1 = some .cell ∧ ((cellsFrom (s.heap.objs.size + 1) (defScope st).names []).lookup y.1).isSome = true) := fun ⟨n, v⟩ hy =>
    (S.par n (List.of_mem_zip hy).1).elim .inl fun z => .inr ⟨z, cellsFrom_some _ _ _ (.inl z)⟩
  refine codeAny_call_function hr.depth (KX _ _ lk) rfl S.co S.gen rfl (codeRec_of KX hcd) (b2 _ _ _ _ ?_)
  refine wpAny_newFunctionEnv_cells S.kind hkind fun env he s1 x => ?_
  subst he
  refine ⟨lim.keeps x.toInCall.keep, codeAny_func ?_⟩
  obtain ⟨t, ht, hq⟩ := hbody cdv A outer s H vs Q E (hr.deeper _) hsp
  refine wpAny_mono (ht.run [] s1 (L2.start N vs) H _ (L2H.inv_startH S hpin e0 hl r x) hq) (fun fl s' hs => ?_) fun e s' hs => hs
  match fl, hs with
  | .ret u, hs =>
    obtain ⟨v, σ', H', J, rv, q⟩ := hs
    exact ⟨v, H', J.os, J.bare, J.base, J.hok, rv, q⟩
  | .next, hs =>
    obtain ⟨σ', H', J, q⟩ := hs
    exact ⟨.non, H', J.os, J.bare, J.base, J.hok, rfl, q⟩
  | .brk, hs =>
    obtain ⟨_, _, _, q⟩ := hs
    exact False.elim q
  | .cont, hs =>
    obtain ⟨_, _, _, q⟩ := hs
    exact False.elim q
end
section
variable {X : Cx} {k : Nat} {f : Addr} {p : Addr × Obj} {sp : Sp} {E : XK} {x : Str} {q pos : Pos} {e : Expr} {es : List Expr} {t : TA}
theorem pe_callP (F : FnP X.prog X.w X.K X.mg X.base C8.CX0 k f p sp) (hr : L2H.RoomH k X.A) (hot : L2H.Hot1 X.A p) (hp : p ∈ X.pn) (hg : Gl X x) (hm : X.mg x = some (.ref f)) (hk : keepIn X.K (.ref f) = true) (ha : PA X (e :: es) t) (hdb : (x == ("__debug__" : Str)) = false := by decide)
    (he : starEach (e :: es) X.env = (false, eval e X.env) :: starEach es X.env := by rfl) (hpl : (backTo pos (starEach es X.env)).any (·.1) = false := by rfl) : PE X (.Call (.Name x q) (e :: es) [] pos) (tCall sp [] C8.E0 t) := by
  refine ⟨fun pins s σ H Q I h => ?_⟩
  refine wpAny_Call_Name_kw (ld_glob I hg hm ?_ hdb)
  refine callWith_K (h₀ := X.base) I.ok.mod.kin hk (thn (ha.run pos pins s σ H _ I h) fun us s1 hh => ?_) he hpl
  obtain ⟨vs, H1, I1, r, q1⟩ := hh
  rw [List.append_nil] at q1
  have P1 := I1.pin p (List.mem_append_left _ hp)
  have hpin : L2H.PinOk X.stack H1 s1 p := ⟨P1.1, P1.2.1, fun hm => (List.mem_cons.mp (I1.stkSub p.1 hm)).elim P1.2.2.1 P1.2.2.2.1, P1.2.2.2.2⟩
  refine ⟨I1.kIn, wpAny_call (codeAny_mono (F X.A X.stack s1 H1 us vs Q C8.E0 hr hot hpin I1.env0 r q1) fun r s' hq => ?_)⟩
  match r, hq with
  | .error er, hq => exact False.elim hq
  | .ok (.ret u), hq => exact I1.after hq
  | .ok .next, hq => exact False.elim hq
  | .ok .brk, hq => exact False.elim hq
  | .ok .cont, hq => exact False.elim hq
theorem any_eqU_n {x : V} : ∀ {xs : List V} {us : List Value}, Vals xs us → xs.all flatV = true → us.countP (eqU x) = xs.countP fun y => eqV y x
  | _, _, .nil, _ => rfl
  | y :: xs, u :: us, .cons r t, f => by
    rw [List.all_cons, Bool.and_eq_true] at f
    rw [List.countP_cons, List.countP_cons, any_eqU_n t f.2, eqU_of r f.1]
def rCntV (K : Frag) : V → List V → Hp → VK → Prop := fun x xs H Q => ∃ (p : Addr) (ys : List V) (y : V), x = .ref p ∧ xs = [y] ∧ SqL K H p ys ∧ flatV y = true ∧ ys.all flatV = true ∧ Q (.int (ys.countP (fun z => eqV z y) : Nat)) H
theorem mt_lcountV : MtR X "list.count" (rCntV X.K) := by
  intro pins s σ H x xs v us Q I rx rxs h
  obtain ⟨p, ys, y, rfl, rfl, hs, fy, fys, q⟩ := h
  cases rx
  obtain ⟨u, rfl, ru⟩ := rxs.one
  obtain ⟨its, rv, ⟨⟨cls, dd, data, sl⟩, n, ho, hc, hdn, hd⟩, hlen⟩ := I.list hs
  simp only at hc hd
  subst hc hd
  refine call_meets PySem.F.slot_list_count ⟨_, ho, rfl⟩ PySem.F.entry_list_count (PySem.F.args_list_count_2 _ _) (SeqAt.list_countAt p its.toArray n dd sl u (eqU y)) ⟨ho, fun z hz => mem_eqAt ru fy rv fys z (by simpa using hz), ?_⟩
  have ec : its.toArray.toList.countP (eqU y) = ys.countP fun z => eqV z y := by
    rw [show its.toArray.toList = its from rfl]
    exact any_eqU_n rv fys
  refine ⟨.int (ys.countP (fun z => eqV z y) : Nat), H, I.tok _, ⟨s.toks, ?_⟩, q⟩
  show Value.int ((its.toArray.toList.countP (eqU y) : Nat) : Int) s.toks = _
  rw [ec]
end
end
section
open PySem.Spec PySem.Calls PySem.W PyProof.Rows LamX NdefX
/-! ### the law's row, where the law makes lambdas -/
section
open Att
theorem tabIn_of {K : Frag} {x : Str} {f c P : Addr} {oc : Value} {od : Option Addr} {fd : FuncData} {sl : Array (Option Value)} {cl : Value} {cdd : Option Addr} {vs : Array Value} {csl : Array (Option Value)} (a : nsIn K mainGlobals x = some (some (.ref f))) (l : K.lookup f = some ⟨oc, od, .func fd, sl⟩) (hc : fd.code = .ref c)
    (lc : K.lookup c = some ⟨cl, cdd, .fields vs, csl⟩) (tp : (vs[11]? : Option Value) = some (.ref P)) : tabIn K x = some (c, P) := by
  unfold tabIn
  rw [a]
  simp only [l, hc, lc, tp]
theorem lawat {l : OpenLaw} {w : World} {K : Frag} {q : Program} {loose : List Str} {mean : ExcName → Option Value} {d : DefRec} {h : Heap} {mg mb : Str → Option Value} {fa c P : Addr} {fd : FuncData} {k n : Nat} {x : Str} {sp : Sp} (TT : Top q loose mean mg mb h) (X : K.In h) (nt : noTabs K = true)
    (hrec : (recsOf q).find? (fun e => e.name == ("law" : Str)) = some d) (ti : tabIn K "law" = some (c, P)) (hb : ∀ (s : Shared) (u : Value), BindsTo s fd ⟨[u], []⟩ [(x, u)]) (F : ∀ base : Heap, K.In base → base.Ns mainGlobals mg → TabB base mg c P → FnOk l.prog w K mg base C8.CX0 k fa fd [x] sp)
    (hsp : ∀ (H : Hp) (a : Addr) (ns : List Int), ns.length ≤ n → H P = some (.tbl #[]) → SqL K H a (ns.map V.int) → sp [.ref a] H (fun v _ => v = .bl true) fun _ _ _ => False) : LawAtS l w K C8.CX0 k n x mg fa h := by
  obtain ⟨C, hT⟩ := tab_of TT X hrec ti
  have one : ∀ {α : Prop} {p : Addr × Addr}, p ∈ [(c, P)] → ((p = (c, P)) → α) → α := fun hp f => f (List.mem_singleton.mp hp)
  refine ⟨fd, [(c, P)], sp, fun p hp => by rw [List.mem_singleton.mp hp]; exact hT, fun p hp => ?_, fun p hp => by rw [List.mem_singleton.mp hp]; exact C, hb, fun H a ns hl _ hH hS => hsp H a ns hl (hH (c, P) (List.mem_singleton.mpr rfl)) hS, fun base KB GB hTB => F base KB GB (hTB (c, P) (List.mem_singleton.mpr rfl))⟩
  rw [List.mem_singleton.mp hp]
  show K.lookup P = none
  cases hk : K.lookup P with
  | none => rfl
  | some o =>
    have e := X _ _ hk
    rw [hT] at e
    cases e
    unfold noTabs at nt
    have z := List.all_eq_true.mp nt _ (mem_of_lookupK hk)
    simp [tabObj] at z
theorem lawat2 {l : OpenLaw} {w : World} {K : Frag} {q : Program} {loose : List Str} {mean : ExcName → Option Value} {d d2 : DefRec} {h : Heap} {mg mb : Str → Option Value} {fa c P c2 P2 : Addr} {fd : FuncData} {k n : Nat} {x x2 : Str} {sp : Sp} (TT : Top q loose mean mg mb h) (X : K.In h) (nt : noTabs K = true)
    (hrec : (recsOf q).find? (fun e => e.name == ("law" : Str)) = some d) (ti : tabIn K "law" = some (c, P)) (hrec2 : (recsOf q).find? (fun e => e.name == x2) = some d2) (ti2 : tabIn K x2 = some (c2, P2)) (hb : ∀ (s : Shared) (u : Value), BindsTo s fd ⟨[u], []⟩ [(x, u)]) (F : ∀ base : Heap, K.In base → base.Ns mainGlobals mg → TabB base mg c P → TabB base mg c2 P2 → FnOk l.prog w K mg base C8.CX0 k fa fd [x] sp)
    (hsp : ∀ (H : Hp) (a : Addr) (ns : List Int), ns.length ≤ n → H P = some (.tbl #[]) → H P2 = some (.tbl #[]) → SqL K H a (ns.map V.int) → sp [.ref a] H (fun v _ => v = .bl true) fun _ _ _ => False) : LawAtS l w K C8.CX0 k n x mg fa h := by
  obtain ⟨C, hT⟩ := tab_of TT X hrec ti
  obtain ⟨C2, hT2⟩ := tab_of TT X hrec2 ti2
  have none_of : ∀ {c P : Addr}, h.get? P = some { cls := .none, data := .fields #[] } → K.lookup P = none := fun {c P} hT => by
    cases hk : K.lookup P with
    | none => rfl
    | some o =>
      have e := X _ _ hk
      rw [hT] at e
      cases e
      unfold noTabs at nt
      have z := List.all_eq_true.mp nt _ (mem_of_lookupK hk)
      simp [tabObj] at z
  have two : ∀ {R : Addr × Addr → Prop}, R (c, P) → R (c2, P2) → ∀ p ∈ [(c, P), (c2, P2)], R p := fun r1 r2 p hp => by
    rcases List.mem_cons.mp hp with e | hp
    · rw [e]; exact r1
    · rw [List.mem_singleton.mp hp]; exact r2
  exact ⟨fd, [(c, P), (c2, P2)], sp, two (R := fun p => h.get? p.2 = some { cls := .none, data := .fields #[] }) hT hT2, two (R := fun p => K.lookup p.2 = none) (none_of (c := c) hT) (none_of (c := c) hT2), two (R := fun p => CodeHd h p.1 p.2) C C2, hb,
    fun H a ns hl _ hH hS => hsp H a ns hl (hH (c, P) (List.mem_cons_self)) (hH (c2, P2) (List.mem_cons_of_mem _ (List.mem_singleton.mpr rfl))) hS, fun base KB GB hTB => F base KB GB (hTB (c, P) (List.mem_cons_self)) (hTB (c2, P2) (List.mem_cons_of_mem _ (List.mem_singleton.mpr rfl)))⟩
theorem walk_lam {l : OpenLaw} {n k : Nat} {q : Program} {loose : List Str} {XP : (Str → Option Value) → Heap → Prop} {YP : World → Heap → Prop} {d : DefRec} {K : Params → Frag} {x : Str} (hn : l.most = some n) (hn2 : n ≤ sizeLine) (hdf : d.params.defaults = []) (hr : Room k callerA) (hY : ∀ (w : World) (h : Heap), YP w h → (K w.params).In h)
    (F : ∀ (w : World) (lo : List Str) (mean : ExcName → Option Value) (mg mb : Str → Option Value) (fa : Addr) (h : Heap), (K w.params).In h → Top q lo mean mg mb h → mg d.name = some (.ref fa) → LawAtS l w (K w.params) C8.CX0 k n x mg fa h) : WalkO q loose XP YP l.row.toRowW d [] (fun f vs => PySem.call f vs) := by
  refine attach_callB hn hdf fun w s₀ s₁ mg mb fa o pm cd doc a vs ns G Y ho hd hcd hmg hobj hints hlen hbits hg => ?_
  have KX := hY w _ Y
  obtain ⟨fd, cs, sp, hT, nT, C, hb, hsp, hF⟩ := F w _ _ mg mb fa _ KX G.T hmg
  exact law_callTs KX G.T.g G.T.b G.T.builtins G.T.nolimit hg hT nT C G.T.bmain hobj hints (Nat.le_trans hlen hn2) hr hF hb (fun H hH hS => hsp H a ns hlen hbits hH hS) fun H e s' z => z
end
end
def top (i : Nat) : Stmt := PySem.Challenge.pw_keepbefore_k50_whole_failures_beyond_the.main.body.getD i (.Pass ⟨0, 0, 0, 0⟩)
abbrev s_is_number : Stmt := top 17
theorem sc_is_number : FnScope ["thing"] ["thing"] (defScope s_is_number) := ⟨rfl, rfl, rfl, by decide +kernel, rfl, by decide +kernel, by decide +kernel⟩
abbrev s_is_number_from : Stmt := top 18
theorem sc_is_number_from : FnScope ["thing", "least", "most"] ["thing", "least", "most"] (defScope s_is_number_from) := ⟨rfl, rfl, rfl, by decide +kernel, rfl, by decide +kernel, by decide +kernel⟩
abbrev s_check_blocks : Stmt := top 19
theorem sc_check_blocks : FnScope ["blocks", "most"] ["blocks", "most"] (defScope s_check_blocks) := ⟨rfl, rfl, rfl, by decide +kernel, rfl, by decide +kernel, by decide +kernel⟩
abbrev s_check_slots : Stmt := top 20
theorem sc_check_slots : FnScope ["slots", "most"] ["slots", "most"] (defScope s_check_slots) := ⟨rfl, rfl, rfl, by decide +kernel, rfl, by decide +kernel, by decide +kernel⟩
abbrev s_Disk___init__ : Stmt := inClass (top 23) 0
theorem sc_Disk___init__ : FnScope ["self", "cells", "content"] ["self", "cells", "content"] (defScope s_Disk___init__) := ⟨rfl, rfl, rfl, by decide +kernel, rfl, by decide +kernel, by decide +kernel⟩
abbrev s_Disk_read : Stmt := inClass (top 23) 2
theorem sc_Disk_read : FnScope ["self", "cell"] ["self", "cell"] (defScope s_Disk_read) := ⟨rfl, rfl, rfl, by decide +kernel, rfl, by decide +kernel, by decide +kernel⟩
abbrev s_Disk_write : Stmt := inClass (top 23) 3
theorem sc_Disk_write : FnScope ["self", "cell", "content"] ["self", "cell", "content"] (defScope s_Disk_write) := ⟨rfl, rfl, rfl, by decide +kernel, rfl, by decide +kernel, by decide +kernel⟩
abbrev s_Disk_sync : Stmt := inClass (top 23) 4
theorem sc_Disk_sync : FnScope ["self"] ["self"] (defScope s_Disk_sync) := ⟨rfl, rfl, rfl, by decide +kernel, rfl, by decide +kernel, by decide +kernel⟩
abbrev s_Disk_fail : Stmt := inClass (top 23) 5
theorem sc_Disk_fail : FnScope ["self", "kept", "number", "cell", "content"] ["self", "kept"] (defScope s_Disk_fail) := ⟨rfl, rfl, rfl, by decide +kernel, rfl, by decide +kernel, by decide +kernel⟩
abbrev s_Disk_pending : Stmt := inClass (top 23) 8
theorem sc_Disk_pending : FnScope ["self"] ["self"] (defScope s_Disk_pending) := ⟨rfl, rfl, rfl, by decide +kernel, rfl, by decide +kernel, by decide +kernel⟩
abbrev s_Disk_counts : Stmt := inClass (top 23) 9
theorem sc_Disk_counts : FnScope ["self"] ["self"] (defScope s_Disk_counts) := ⟨rfl, rfl, rfl, by decide +kernel, rfl, by decide +kernel, by decide +kernel⟩
abbrev s_Disk__check_cell : Stmt := inClass (top 23) 10
theorem sc_Disk__check_cell : FnScope ["self", "cell"] ["self", "cell"] (defScope s_Disk__check_cell) := ⟨rfl, rfl, rfl, by decide +kernel, rfl, by decide +kernel, by decide +kernel⟩
abbrev s_are_kept : Stmt := top 24
theorem sc_are_kept : FnScope ["kept", "many", "least", "number"] ["kept", "many"] (defScope s_are_kept) := ⟨rfl, rfl, rfl, by decide +kernel, rfl, by decide +kernel, by decide +kernel⟩
abbrev s_cleaned : Stmt := top 30
theorem sc_cleaned : FnScope ["record", "block", "value", "turn", "_"] ["record"] (defScope s_cleaned) := ⟨rfl, rfl, rfl, by decide +kernel, rfl, by decide +kernel, by decide +kernel⟩
abbrev s_KnownSlot___init__ : Stmt := inClass (top 33) 0
theorem sc_KnownSlot___init__ : FnScope ["self", "record", "request"] ["self", "record", "request"] (defScope s_KnownSlot___init__) := ⟨rfl, rfl, rfl, by decide +kernel, rfl, by decide +kernel, by decide +kernel⟩
abbrev s_Memory___init__ : Stmt := inClass (top 34) 0
theorem sc_Memory___init__ : FnScope ["self", "slots"] ["self", "slots"] (defScope s_Memory___init__) := ⟨rfl, rfl, rfl, by decide +kernel, rfl, by decide +kernel, by decide +kernel⟩
abbrev s_Memory_records : Stmt := inClass (top 34) 1
theorem sc_Memory_records : FnScope ["self", "slot"] ["self"] (defScope s_Memory_records) := ⟨rfl, rfl, rfl, by decide +kernel, rfl, by decide +kernel, by decide +kernel⟩
abbrev s_Memory_slot_of : Stmt := inClass (top 34) 2
theorem sc_Memory_slot_of : FnScope ["self", "block", "slot", "known"] ["self", "block"] (defScope s_Memory_slot_of) := ⟨rfl, rfl, rfl, by decide +kernel, rfl, by decide +kernel, by decide +kernel⟩
abbrev s_Memory_record_in : Stmt := inClass (top 34) 3
theorem sc_Memory_record_in : FnScope ["self", "slot"] ["self", "slot"] (defScope s_Memory_record_in) := ⟨rfl, rfl, rfl, by decide +kernel, rfl, by decide +kernel, by decide +kernel⟩
abbrev s_Memory_use : Stmt := inClass (top 34) 4
theorem sc_Memory_use : FnScope ["self", "slot", "request", "known"] ["self", "slot", "request"] (defScope s_Memory_use) := ⟨rfl, rfl, rfl, by decide +kernel, rfl, by decide +kernel, by decide +kernel⟩
abbrev s_Memory_learn : Stmt := inClass (top 34) 5
theorem sc_Memory_learn : FnScope ["self", "slot", "record", "request", "known"] ["self", "slot", "record", "request"] (defScope s_Memory_learn) := ⟨rfl, rfl, rfl, by decide +kernel, rfl, by decide +kernel, by decide +kernel⟩
abbrev s_Memory_learn_clean : Stmt := inClass (top 34) 6
theorem sc_Memory_learn_clean : FnScope ["self", "slot", "known"] ["self", "slot"] (defScope s_Memory_learn_clean) := ⟨rfl, rfl, rfl, by decide +kernel, rfl, by decide +kernel, by decide +kernel⟩
abbrev s_Memory_forget : Stmt := inClass (top 34) 7
theorem sc_Memory_forget : FnScope ["self", "slot"] ["self", "slot"] (defScope s_Memory_forget) := ⟨rfl, rfl, rfl, by decide +kernel, rfl, by decide +kernel, by decide +kernel⟩
abbrev s_Memory_dirty_slots : Stmt := inClass (top 34) 8
theorem sc_Memory_dirty_slots : FnScope ["self", "records", "turns", "slot", "_"] ["self"] (defScope s_Memory_dirty_slots) := ⟨rfl, rfl, rfl, by decide +kernel, rfl, by decide +kernel, by decide +kernel⟩
abbrev s_Memory_slot_to_take : Stmt := inClass (top 34) 10
theorem sc_Memory_slot_to_take : FnScope ["self", "choice", "slot", "ranks", "known"] ["self", "choice"] (defScope s_Memory_slot_to_take) := ⟨rfl, rfl, rfl, by decide +kernel, rfl, by decide +kernel, by decide +kernel⟩
abbrev s__rank : Stmt := top 35
theorem sc__rank : FnScope ["known", "choice"] ["known", "choice"] (defScope s__rank) := ⟨rfl, rfl, rfl, by decide +kernel, rfl, by decide +kernel, by decide +kernel⟩
abbrev s_Rules___init__ : Stmt := inClass (top 44) 0
theorem sc_Rules___init__ : FnScope ["self", "writing", "reading", "choice", "bound", "words", "part", "allowed"] ["self", "writing", "reading", "choice", "bound"] (defScope s_Rules___init__) := ⟨rfl, rfl, rfl, by decide +kernel, rfl, by decide +kernel, by decide +kernel⟩
abbrev s_Rules_writing : Stmt := inClass (top 44) 2
theorem sc_Rules_writing : FnScope ["self"] ["self"] (defScope s_Rules_writing) := ⟨rfl, rfl, rfl, by decide +kernel, rfl, by decide +kernel, by decide +kernel⟩
abbrev s_Rules_reading : Stmt := inClass (top 44) 3
theorem sc_Rules_reading : FnScope ["self"] ["self"] (defScope s_Rules_reading) := ⟨rfl, rfl, rfl, by decide +kernel, rfl, by decide +kernel, by decide +kernel⟩
abbrev s_Rules_choice : Stmt := inClass (top 44) 4
theorem sc_Rules_choice : FnScope ["self"] ["self"] (defScope s_Rules_choice) := ⟨rfl, rfl, rfl, by decide +kernel, rfl, by decide +kernel, by decide +kernel⟩
abbrev s_Rules_bound : Stmt := inClass (top 44) 5
theorem sc_Rules_bound : FnScope ["self"] ["self"] (defScope s_Rules_bound) := ⟨rfl, rfl, rfl, by decide +kernel, rfl, by decide +kernel, by decide +kernel⟩
abbrev s_Recipes___init__ : Stmt := inClass (top 45) 0
theorem sc_Recipes___init__ : FnScope ["self", "through", "back", "around", "clean", "allowed", "part", "recipe", "place"] ["self", "through", "back", "around", "clean"] (defScope s_Recipes___init__) := ⟨rfl, rfl, rfl, by decide +kernel, rfl, by decide +kernel, by decide +kernel⟩
abbrev s_Recipes_safe : Stmt := inClass (top 45) 2
theorem sc_Recipes_safe : FnScope ["cls"] ["cls"] (defScope s_Recipes_safe) := ⟨rfl, rfl, rfl, by decide +kernel, rfl, by decide +kernel, by decide +kernel⟩
abbrev s_Recipes_through : Stmt := inClass (top 45) 3
theorem sc_Recipes_through : FnScope ["self"] ["self"] (defScope s_Recipes_through) := ⟨rfl, rfl, rfl, by decide +kernel, rfl, by decide +kernel, by decide +kernel⟩
abbrev s_Recipes_back : Stmt := inClass (top 45) 4
theorem sc_Recipes_back : FnScope ["self"] ["self"] (defScope s_Recipes_back) := ⟨rfl, rfl, rfl, by decide +kernel, rfl, by decide +kernel, by decide +kernel⟩
abbrev s_Recipes_around : Stmt := inClass (top 45) 5
theorem sc_Recipes_around : FnScope ["self"] ["self"] (defScope s_Recipes_around) := ⟨rfl, rfl, rfl, by decide +kernel, rfl, by decide +kernel, by decide +kernel⟩
abbrev s_Recipes_clean : Stmt := inClass (top 45) 6
theorem sc_Recipes_clean : FnScope ["self"] ["self"] (defScope s_Recipes_clean) := ⟨rfl, rfl, rfl, by decide +kernel, rfl, by decide +kernel, by decide +kernel⟩
abbrev s__invalid_place : Stmt := top 46
theorem sc__invalid_place : FnScope ["recipe", "allowed", "place", "word"] ["recipe", "allowed"] (defScope s__invalid_place) := ⟨rfl, rfl, rfl, by decide +kernel, rfl, by decide +kernel, by decide +kernel⟩
abbrev s_Pair___init__ : Stmt := inClass (top 50) 0
theorem sc_Pair___init__ : FnScope ["self", "blocks", "slots", "rules", "recipes"] ["self", "blocks", "slots", "rules", "recipes"] (defScope s_Pair___init__) := ⟨rfl, rfl, rfl, by decide +kernel, rfl, by decide +kernel, by decide +kernel⟩
abbrev s_Pair_read : Stmt := inClass (top 50) 1
theorem sc_Pair_read : FnScope ["self", "block", "own", "value", "slot"] ["self", "block"] (defScope s_Pair_read) := ⟨rfl, rfl, rfl, by decide +kernel, rfl, by decide +kernel, by decide +kernel⟩
abbrev s_Pair_write : Stmt := inClass (top 50) 2
theorem sc_Pair_write : FnScope ["self", "block", "value", "own", "turn", "target", "stale", "record", "word"] ["self", "block", "value"] (defScope s_Pair_write) := ⟨rfl, rfl, rfl, by decide +kernel, rfl, by decide +kernel, by decide +kernel⟩
abbrev s_Pair_forget : Stmt := inClass (top 50) 5
theorem sc_Pair_forget : FnScope ["self", "block", "own"] ["self", "block"] (defScope s_Pair_forget) := ⟨rfl, rfl, rfl, by decide +kernel, rfl, by decide +kernel, by decide +kernel⟩
abbrev s_Pair_fail_at : Stmt := inClass (top 50) 7
theorem sc_Pair_fail_at : FnScope ["self", "steps"] ["self", "steps"] (defScope s_Pair_fail_at) := ⟨rfl, rfl, rfl, by decide +kernel, rfl, by decide +kernel, by decide +kernel⟩
abbrev s_Pair_known : Stmt := inClass (top 50) 15
theorem sc_Pair_known : FnScope ["self"] ["self"] (defScope s_Pair_known) := ⟨rfl, rfl, rfl, by decide +kernel, rfl, by decide +kernel, by decide +kernel⟩
abbrev s_Pair_dirty : Stmt := inClass (top 50) 16
theorem sc_Pair_dirty : FnScope ["self", "record"] ["self"] (defScope s_Pair_dirty) := ⟨rfl, rfl, rfl, by decide +kernel, rfl, by decide +kernel, by decide +kernel⟩
abbrev s_Pair_requests : Stmt := inClass (top 50) 18
theorem sc_Pair_requests : FnScope ["self"] ["self"] (defScope s_Pair_requests) := ⟨rfl, rfl, rfl, by decide +kernel, rfl, by decide +kernel, by decide +kernel⟩
abbrev s_Pair_rules : Stmt := inClass (top 50) 19
theorem sc_Pair_rules : FnScope ["self"] ["self"] (defScope s_Pair_rules) := ⟨rfl, rfl, rfl, by decide +kernel, rfl, by decide +kernel, by decide +kernel⟩
abbrev s_Pair_counts : Stmt := inClass (top 50) 20
theorem sc_Pair_counts : FnScope ["self", "fast_counts", "living", "dead", "count"] ["self"] (defScope s_Pair_counts) := ⟨rfl, rfl, rfl, by decide +kernel, rfl, by decide +kernel, by decide +kernel⟩
abbrev s_Pair_pending : Stmt := inClass (top 50) 21
theorem sc_Pair_pending : FnScope ["self"] ["self"] (defScope s_Pair_pending) := ⟨rfl, rfl, rfl, by decide +kernel, rfl, by decide +kernel, by decide +kernel⟩
abbrev s_Pair_is_on : Stmt := inClass (top 50) 23
theorem sc_Pair_is_on : FnScope ["self"] ["self"] (defScope s_Pair_is_on) := ⟨rfl, rfl, rfl, by decide +kernel, rfl, by decide +kernel, by decide +kernel⟩
abbrev s_Pair__check_on : Stmt := inClass (top 50) 24
theorem sc_Pair__check_on : FnScope ["self"] ["self"] (defScope s_Pair__check_on) := ⟨rfl, rfl, rfl, by decide +kernel, rfl, by decide +kernel, by decide +kernel⟩
abbrev s_Pair__check_block : Stmt := inClass (top 50) 25
theorem sc_Pair__check_block : FnScope ["self", "block"] ["self", "block"] (defScope s_Pair__check_block) := ⟨rfl, rfl, rfl, by decide +kernel, rfl, by decide +kernel, by decide +kernel⟩
abbrev s_Pair__begin_request : Stmt := inClass (top 50) 26
theorem sc_Pair__begin_request : FnScope ["self", "block", "own"] ["self", "block"] (defScope s_Pair__begin_request) := ⟨rfl, rfl, rfl, by decide +kernel, rfl, by decide +kernel, by decide +kernel⟩
abbrev s_Pair__take_slot : Stmt := inClass (top 50) 27
theorem sc_Pair__take_slot : FnScope ["self", "slot"] ["self"] (defScope s_Pair__take_slot) := ⟨rfl, rfl, rfl, by decide +kernel, rfl, by decide +kernel, by decide +kernel⟩
abbrev s_Pair__choose_slots : Stmt := inClass (top 50) 28
theorem sc_Pair__choose_slots : FnScope ["self", "own", "writing", "taken"] ["self", "own"] (defScope s_Pair__choose_slots) := ⟨rfl, rfl, rfl, by decide +kernel, rfl, by decide +kernel, by decide +kernel⟩
abbrev s_Pair__recipe_for_writing : Stmt := inClass (top 50) 29
theorem sc_Pair__recipe_for_writing : FnScope ["self", "writing"] ["self"] (defScope s_Pair__recipe_for_writing) := ⟨rfl, rfl, rfl, by decide +kernel, rfl, by decide +kernel, by decide +kernel⟩
abbrev s_Pair__carry_out : Stmt := inClass (top 50) 30
theorem sc_Pair__carry_out : FnScope ["self", "word", "record", "target", "stale"] ["self", "word", "record", "target", "stale"] (defScope s_Pair__carry_out) := ⟨rfl, rfl, rfl, by decide +kernel, rfl, by decide +kernel, by decide +kernel⟩
abbrev s_Pair__clean_least_turns : Stmt := inClass (top 50) 31
theorem sc_Pair__clean_least_turns : FnScope ["self", "count", "slots", "slot"] ["self", "count"] (defScope s_Pair__clean_least_turns) := ⟨rfl, rfl, rfl, by decide +kernel, rfl, by decide +kernel, by decide +kernel⟩
abbrev s_Pair__clean_slot : Stmt := inClass (top 50) 32
theorem sc_Pair__clean_slot : FnScope ["self", "slot", "record", "word"] ["self", "slot"] (defScope s_Pair__clean_slot) := ⟨rfl, rfl, rfl, by decide +kernel, rfl, by decide +kernel, by decide +kernel⟩
abbrev s_Pair__begin_step : Stmt := inClass (top 50) 33
theorem sc_Pair__begin_step : FnScope ["self", "is_done"] ["self"] (defScope s_Pair__begin_step) := ⟨rfl, rfl, rfl, by decide +kernel, rfl, by decide +kernel, by decide +kernel⟩
abbrev s_Pair__write_slow : Stmt := inClass (top 50) 34
theorem sc_Pair__write_slow : FnScope ["self", "record"] ["self", "record"] (defScope s_Pair__write_slow) := ⟨rfl, rfl, rfl, by decide +kernel, rfl, by decide +kernel, by decide +kernel⟩
abbrev s_Pair__sync_slow : Stmt := inClass (top 50) 35
theorem sc_Pair__sync_slow : FnScope ["self"] ["self"] (defScope s_Pair__sync_slow) := ⟨rfl, rfl, rfl, by decide +kernel, rfl, by decide +kernel, by decide +kernel⟩
abbrev s_Pair__write_fast : Stmt := inClass (top 50) 36
theorem sc_Pair__write_fast : FnScope ["self", "slot", "content"] ["self", "slot", "content"] (defScope s_Pair__write_fast) := ⟨rfl, rfl, rfl, by decide +kernel, rfl, by decide +kernel, by decide +kernel⟩
abbrev s_Pair__write_record : Stmt := inClass (top 50) 37
theorem sc_Pair__write_record : FnScope ["self", "slot", "record"] ["self", "slot", "record"] (defScope s_Pair__write_record) := ⟨rfl, rfl, rfl, by decide +kernel, rfl, by decide +kernel, by decide +kernel⟩
abbrev s_Pair__sync_fast : Stmt := inClass (top 50) 38
theorem sc_Pair__sync_fast : FnScope ["self"] ["self"] (defScope s_Pair__sync_fast) := ⟨rfl, rfl, rfl, by decide +kernel, rfl, by decide +kernel, by decide +kernel⟩
abbrev s_Pair__turn_off : Stmt := inClass (top 50) 39
theorem sc_Pair__turn_off : FnScope ["self"] ["self"] (defScope s_Pair__turn_off) := ⟨rfl, rfl, rfl, by decide +kernel, rfl, by decide +kernel, by decide +kernel⟩
abbrev s_Pair__put_in_fast : Stmt := inClass (top 50) 40
theorem sc_Pair__put_in_fast : FnScope ["self", "slots"] ["self", "slots"] (defScope s_Pair__put_in_fast) := ⟨rfl, rfl, rfl, by decide +kernel, rfl, by decide +kernel, by decide +kernel⟩
abbrev s__law_random : Stmt := top 52
theorem sc__law_random : FnScope ["_law_script", "_law_salt", "_law_seed", "_law_cell"] ["_law_script", "_law_salt"] (defScope s__law_random) := ⟨rfl, rfl, rfl, by decide +kernel, rfl, by decide +kernel, by decide +kernel⟩
abbrev s__law_below : Stmt := top 53
theorem sc__law_below : FnScope ["_law_d", "_law_limit", "_law_result"] ["_law_d", "_law_limit"] (defScope s__law_below) := ⟨rfl, rfl, rfl, by decide +kernel, rfl, by decide +kernel, by decide +kernel⟩
abbrev s__law_rules : Stmt := top 54
theorem sc__law_rules : FnScope ["_law_d", "_law_limit", "_law_writing", "_law_reading"] ["_law_d", "_law_limit"] (defScope s__law_rules) := ⟨rfl, rfl, rfl, by decide +kernel, rfl, by decide +kernel, by decide +kernel⟩
abbrev s__law_pair : Stmt := top 56
theorem sc__law_pair : FnScope ["_law_blocks", "_law_slots", "_law_rules_here", "_law_orders", "_law_told"] ["_law_blocks", "_law_slots", "_law_rules_here", "_law_orders"] (defScope s__law_pair) := ⟨rfl, rfl, rfl, by decide +kernel, rfl, by decide +kernel, by decide +kernel⟩
abbrev s__law_safe : Stmt := top 57
theorem sc__law_safe : FnScope ["_law_found"] [] (defScope s__law_safe) := ⟨rfl, rfl, rfl, by decide +kernel, rfl, by decide +kernel, by decide +kernel⟩
abbrev s__law_do : Stmt := top 58
theorem sc__law_do : FnScope ["_law_pair_here", "_law_request_here"] ["_law_pair_here", "_law_request_here"] (defScope s__law_do) := ⟨rfl, rfl, rfl, by decide +kernel, rfl, by decide +kernel, by decide +kernel⟩
abbrev s__law_request : Stmt := top 55
theorem sc__law_request : FnScope ["_law_d", "_law_blocks", "_law_block", "_law_value"] ["_law_d", "_law_blocks"] (defScope s__law_request) := ⟨rfl, rfl, rfl, by decide +kernel, rfl, by decide +kernel, by decide +kernel⟩
abbrev s__law_power_of : Stmt := top 59
theorem sc__law_power_of : FnScope ["_law_call", "e"] ["_law_call"] (defScope s__law_power_of) := ⟨rfl, rfl, rfl, by decide +kernel, rfl, by decide +kernel, by decide +kernel⟩
abbrev s_law : Stmt := top 60
theorem sc_law : FnScope ["_law_script", "_law_d", "_law_blocks", "_law_slots", "_law_parts", "_law_requests", "_law_many", "_law_at", "_law_pairs", "_law_request_here", "_law_k"] ["_law_script"] (defScope s_law) := ⟨rfl, rfl, rfl, by decide +kernel, rfl, by decide +kernel, by decide +kernel⟩
abbrev s_PowerFailed___init__ : Stmt := inClass (top 11) 0
theorem sc_PowerFailed___init__ : NdefX.NScope ["self", "is_done", "__class__"] ["self", "is_done"] ["__class__"] (defScope s_PowerFailed___init__) := NdefX.nscope_by (by decide +kernel)
/-- a written tuple -/
def TupK (K : PySem.W.Frag) (a : Addr) (xs : List V) : Prop := ∀ H : Hp, SqT K H a xs
theorem TupK.of {K : PySem.W.Frag} {a : Addr} {xs : List V} {od : Option Addr} {its : Array Value} {n : Nat} {sl : Array (Option Value)} (h : K.lookup a = some ⟨.type "tuple", od, .seq its n, sl⟩) (hz : its.size ≤ sizeLine) (r : Vals xs its.toList) : TupK K a xs :=
  fun _ => .inr ⟨_, its, n, h, rfl, rfl, hz, r⟩
structure Gx (K : PySem.W.Frag) (mg : Str → Option Value) where
  C_Disk : Addr
  cl_Disk : Cls K C_Disk
  gC_Disk : mg "Disk" = some (.ref C_Disk)
  n_Disk__contents : NoAttr K C_Disk "_contents"
  n_Disk__lasting : NoAttr K C_Disk "_lasting"
  n_Disk__pending : NoAttr K C_Disk "_pending"
  n_Disk__reads : NoAttr K C_Disk "_reads"
  n_Disk__writes : NoAttr K C_Disk "_writes"
  n_Disk__syncs : NoAttr K C_Disk "_syncs"
  C_KnownSlot : Addr
  cl_KnownSlot : Cls K C_KnownSlot
  gC_KnownSlot : mg "KnownSlot" = some (.ref C_KnownSlot)
  n_KnownSlot_record : NoAttr K C_KnownSlot "record"
  n_KnownSlot_came : NoAttr K C_KnownSlot "came"
  n_KnownSlot_used : NoAttr K C_KnownSlot "used"
  n_KnownSlot_uses : NoAttr K C_KnownSlot "uses"
  C_Memory : Addr
  cl_Memory : Cls K C_Memory
  gC_Memory : mg "Memory" = some (.ref C_Memory)
  n_Memory__slots : NoAttr K C_Memory "_slots"
  n_Memory__known : NoAttr K C_Memory "_known"
  C_Rules : Addr
  cl_Rules : Cls K C_Rules
  gC_Rules : mg "Rules" = some (.ref C_Rules)
  n_Rules__writing : NoAttr K C_Rules "_writing"
  n_Rules__reading : NoAttr K C_Rules "_reading"
  n_Rules__choice : NoAttr K C_Rules "_choice"
  n_Rules__bound : NoAttr K C_Rules "_bound"
  C_Recipes : Addr
  cl_Recipes : Cls K C_Recipes
  gC_Recipes : mg "Recipes" = some (.ref C_Recipes)
  n_Recipes__through : NoAttr K C_Recipes "_through"
  n_Recipes__back : NoAttr K C_Recipes "_back"
  n_Recipes__around : NoAttr K C_Recipes "_around"
  n_Recipes__clean : NoAttr K C_Recipes "_clean"
  C_Pair : Addr
  cl_Pair : Cls K C_Pair
  gC_Pair : mg "Pair" = some (.ref C_Pair)
  n_Pair__blocks : NoAttr K C_Pair "_blocks"
  n_Pair__rules : NoAttr K C_Pair "_rules"
  n_Pair__recipes : NoAttr K C_Pair "_recipes"
  n_Pair__slow : NoAttr K C_Pair "_slow"
  n_Pair__fast : NoAttr K C_Pair "_fast"
  n_Pair__memory : NoAttr K C_Pair "_memory"
  n_Pair__counts_of_dead : NoAttr K C_Pair "_counts_of_dead"
  n_Pair__requests : NoAttr K C_Pair "_requests"
  n_Pair__hits : NoAttr K C_Pair "_hits"
  n_Pair__next_turn : NoAttr K C_Pair "_next_turn"
  n_Pair__steps_left : NoAttr K C_Pair "_steps_left"
  n_Pair__is_on : NoAttr K C_Pair "_is_on"
  n_Pair__is_done : NoAttr K C_Pair "_is_done"
  f_is_number : Addr
  fd_is_number : FuncData
  F_is_number : Fun K "is_number" "is_number" s_is_number f_is_number fd_is_number
  g_is_number : mg "is_number" = some (.ref f_is_number)
  f_is_number_from : Addr
  fd_is_number_from : FuncData
  F_is_number_from : Fun K "is_number_from" "is_number_from" s_is_number_from f_is_number_from fd_is_number_from
  g_is_number_from : mg "is_number_from" = some (.ref f_is_number_from)
  f_check_blocks : Addr
  fd_check_blocks : FuncData
  F_check_blocks : FunD K "check_blocks" "check_blocks" (defArgs s_check_blocks) (defBody s_check_blocks) (defScope s_check_blocks) [.int 16] [] f_check_blocks fd_check_blocks
  g_check_blocks : mg "check_blocks" = some (.ref f_check_blocks)
  f_check_slots : Addr
  fd_check_slots : FuncData
  F_check_slots : FunD K "check_slots" "check_slots" (defArgs s_check_slots) (defBody s_check_slots) (defScope s_check_slots) [.int 8] [] f_check_slots fd_check_slots
  g_check_slots : mg "check_slots" = some (.ref f_check_slots)
  f_Disk___init__ : Addr
  fd_Disk___init__ : FuncData
  F_Disk___init__ : FunD K "__init__" "Disk.__init__" (defArgs s_Disk___init__) (defBody s_Disk___init__) (defScope s_Disk___init__) [] [("content", .int 0)] f_Disk___init__ fd_Disk___init__
  M_Disk___init__ : Mk K C_Disk f_Disk___init__
  f_Disk_read : Addr
  fd_Disk_read : FuncData
  F_Disk_read : Fun K "read" "Disk.read" s_Disk_read f_Disk_read fd_Disk_read
  m_Disk_read : Meth K C_Disk "read" f_Disk_read
  f_Disk_write : Addr
  fd_Disk_write : FuncData
  F_Disk_write : Fun K "write" "Disk.write" s_Disk_write f_Disk_write fd_Disk_write
  m_Disk_write : Meth K C_Disk "write" f_Disk_write
  f_Disk_sync : Addr
  fd_Disk_sync : FuncData
  F_Disk_sync : Fun K "sync" "Disk.sync" s_Disk_sync f_Disk_sync fd_Disk_sync
  m_Disk_sync : Meth K C_Disk "sync" f_Disk_sync
  f_Disk_fail : Addr
  fd_Disk_fail : FuncData
  F_Disk_fail : Fun K "fail" "Disk.fail" s_Disk_fail f_Disk_fail fd_Disk_fail
  m_Disk_fail : Meth K C_Disk "fail" f_Disk_fail
  f_Disk_pending : Addr
  fd_Disk_pending : FuncData
  F_Disk_pending : Fun K "pending" "Disk.pending" s_Disk_pending f_Disk_pending fd_Disk_pending
  p_Disk_pending : Addr
  P_Disk_pending : PropOf K C_Disk "pending" p_Disk_pending f_Disk_pending
  f_Disk_counts : Addr
  fd_Disk_counts : FuncData
  F_Disk_counts : Fun K "counts" "Disk.counts" s_Disk_counts f_Disk_counts fd_Disk_counts
  p_Disk_counts : Addr
  P_Disk_counts : PropOf K C_Disk "counts" p_Disk_counts f_Disk_counts
  f_Disk__check_cell : Addr
  fd_Disk__check_cell : FuncData
  F_Disk__check_cell : Fun K "_check_cell" "Disk._check_cell" s_Disk__check_cell f_Disk__check_cell fd_Disk__check_cell
  m_Disk__check_cell : Meth K C_Disk "_check_cell" f_Disk__check_cell
  f_are_kept : Addr
  fd_are_kept : FuncData
  F_are_kept : Fun K "are_kept" "are_kept" s_are_kept f_are_kept fd_are_kept
  g_are_kept : mg "are_kept" = some (.ref f_are_kept)
  f_cleaned : Addr
  fd_cleaned : FuncData
  F_cleaned : Fun K "cleaned" "cleaned" s_cleaned f_cleaned fd_cleaned
  g_cleaned : mg "cleaned" = some (.ref f_cleaned)
  f_KnownSlot___init__ : Addr
  fd_KnownSlot___init__ : FuncData
  F_KnownSlot___init__ : Fun K "__init__" "KnownSlot.__init__" s_KnownSlot___init__ f_KnownSlot___init__ fd_KnownSlot___init__
  M_KnownSlot___init__ : Mk K C_KnownSlot f_KnownSlot___init__
  f_Memory___init__ : Addr
  fd_Memory___init__ : FuncData
  F_Memory___init__ : Fun K "__init__" "Memory.__init__" s_Memory___init__ f_Memory___init__ fd_Memory___init__
  M_Memory___init__ : Mk K C_Memory f_Memory___init__
  f_Memory_records : Addr
  fd_Memory_records : FuncData
  F_Memory_records : Fun K "records" "Memory.records" s_Memory_records f_Memory_records fd_Memory_records
  m_Memory_records : Meth K C_Memory "records" f_Memory_records
  f_Memory_slot_of : Addr
  fd_Memory_slot_of : FuncData
  F_Memory_slot_of : Fun K "slot_of" "Memory.slot_of" s_Memory_slot_of f_Memory_slot_of fd_Memory_slot_of
  m_Memory_slot_of : Meth K C_Memory "slot_of" f_Memory_slot_of
  f_Memory_record_in : Addr
  fd_Memory_record_in : FuncData
  F_Memory_record_in : Fun K "record_in" "Memory.record_in" s_Memory_record_in f_Memory_record_in fd_Memory_record_in
  m_Memory_record_in : Meth K C_Memory "record_in" f_Memory_record_in
  f_Memory_use : Addr
  fd_Memory_use : FuncData
  F_Memory_use : Fun K "use" "Memory.use" s_Memory_use f_Memory_use fd_Memory_use
  m_Memory_use : Meth K C_Memory "use" f_Memory_use
  f_Memory_learn : Addr
  fd_Memory_learn : FuncData
  F_Memory_learn : Fun K "learn" "Memory.learn" s_Memory_learn f_Memory_learn fd_Memory_learn
  m_Memory_learn : Meth K C_Memory "learn" f_Memory_learn
  f_Memory_learn_clean : Addr
  fd_Memory_learn_clean : FuncData
  F_Memory_learn_clean : Fun K "learn_clean" "Memory.learn_clean" s_Memory_learn_clean f_Memory_learn_clean fd_Memory_learn_clean
  m_Memory_learn_clean : Meth K C_Memory "learn_clean" f_Memory_learn_clean
  f_Memory_forget : Addr
  fd_Memory_forget : FuncData
  F_Memory_forget : Fun K "forget" "Memory.forget" s_Memory_forget f_Memory_forget fd_Memory_forget
  m_Memory_forget : Meth K C_Memory "forget" f_Memory_forget
  f_Memory_dirty_slots : Addr
  fd_Memory_dirty_slots : FuncData
  F_Memory_dirty_slots : Fun K "dirty_slots" "Memory.dirty_slots" s_Memory_dirty_slots f_Memory_dirty_slots fd_Memory_dirty_slots
  m_Memory_dirty_slots : Meth K C_Memory "dirty_slots" f_Memory_dirty_slots
  f_Memory_slot_to_take : Addr
  fd_Memory_slot_to_take : FuncData
  F_Memory_slot_to_take : Fun K "slot_to_take" "Memory.slot_to_take" s_Memory_slot_to_take f_Memory_slot_to_take fd_Memory_slot_to_take
  m_Memory_slot_to_take : Meth K C_Memory "slot_to_take" f_Memory_slot_to_take
  f__rank : Addr
  fd__rank : FuncData
  F__rank : Fun K "_rank" "_rank" s__rank f__rank fd__rank
  g__rank : mg "_rank" = some (.ref f__rank)
  f_Rules___init__ : Addr
  fd_Rules___init__ : FuncData
  F_Rules___init__ : Fun K "__init__" "Rules.__init__" s_Rules___init__ f_Rules___init__ fd_Rules___init__
  M_Rules___init__ : Mk K C_Rules f_Rules___init__
  f_Rules_writing : Addr
  fd_Rules_writing : FuncData
  F_Rules_writing : Fun K "writing" "Rules.writing" s_Rules_writing f_Rules_writing fd_Rules_writing
  p_Rules_writing : Addr
  P_Rules_writing : PropOf K C_Rules "writing" p_Rules_writing f_Rules_writing
  f_Rules_reading : Addr
  fd_Rules_reading : FuncData
  F_Rules_reading : Fun K "reading" "Rules.reading" s_Rules_reading f_Rules_reading fd_Rules_reading
  p_Rules_reading : Addr
  P_Rules_reading : PropOf K C_Rules "reading" p_Rules_reading f_Rules_reading
  f_Rules_choice : Addr
  fd_Rules_choice : FuncData
  F_Rules_choice : Fun K "choice" "Rules.choice" s_Rules_choice f_Rules_choice fd_Rules_choice
  p_Rules_choice : Addr
  P_Rules_choice : PropOf K C_Rules "choice" p_Rules_choice f_Rules_choice
  f_Rules_bound : Addr
  fd_Rules_bound : FuncData
  F_Rules_bound : Fun K "bound" "Rules.bound" s_Rules_bound f_Rules_bound fd_Rules_bound
  p_Rules_bound : Addr
  P_Rules_bound : PropOf K C_Rules "bound" p_Rules_bound f_Rules_bound
  f_Recipes___init__ : Addr
  fd_Recipes___init__ : FuncData
  F_Recipes___init__ : Fun K "__init__" "Recipes.__init__" s_Recipes___init__ f_Recipes___init__ fd_Recipes___init__
  M_Recipes___init__ : Mk K C_Recipes f_Recipes___init__
  f_Recipes_safe : Addr
  fd_Recipes_safe : FuncData
  F_Recipes_safe : Fun K "safe" "Recipes.safe" s_Recipes_safe f_Recipes_safe fd_Recipes_safe
  p_Recipes_safe : Addr
  Y_Recipes_safe : ClX.CMet K C_Recipes (.type "type") "safe" p_Recipes_safe f_Recipes_safe
  R_Recipes_safe : ClX.CRead K C_Recipes (.type "type")
  f_Recipes_through : Addr
  fd_Recipes_through : FuncData
  F_Recipes_through : Fun K "through" "Recipes.through" s_Recipes_through f_Recipes_through fd_Recipes_through
  p_Recipes_through : Addr
  P_Recipes_through : PropOf K C_Recipes "through" p_Recipes_through f_Recipes_through
  f_Recipes_back : Addr
  fd_Recipes_back : FuncData
  F_Recipes_back : Fun K "back" "Recipes.back" s_Recipes_back f_Recipes_back fd_Recipes_back
  p_Recipes_back : Addr
  P_Recipes_back : PropOf K C_Recipes "back" p_Recipes_back f_Recipes_back
  f_Recipes_around : Addr
  fd_Recipes_around : FuncData
  F_Recipes_around : Fun K "around" "Recipes.around" s_Recipes_around f_Recipes_around fd_Recipes_around
  p_Recipes_around : Addr
  P_Recipes_around : PropOf K C_Recipes "around" p_Recipes_around f_Recipes_around
  f_Recipes_clean : Addr
  fd_Recipes_clean : FuncData
  F_Recipes_clean : Fun K "clean" "Recipes.clean" s_Recipes_clean f_Recipes_clean fd_Recipes_clean
  p_Recipes_clean : Addr
  P_Recipes_clean : PropOf K C_Recipes "clean" p_Recipes_clean f_Recipes_clean
  f__invalid_place : Addr
  fd__invalid_place : FuncData
  F__invalid_place : Fun K "_invalid_place" "_invalid_place" s__invalid_place f__invalid_place fd__invalid_place
  g__invalid_place : mg "_invalid_place" = some (.ref f__invalid_place)
  f_Pair___init__ : Addr
  fd_Pair___init__ : FuncData
  F_Pair___init__ : FunD K "__init__" "Pair.__init__" (defArgs s_Pair___init__) (defBody s_Pair___init__) (defScope s_Pair___init__) [] [("recipes", .non)] f_Pair___init__ fd_Pair___init__
  M_Pair___init__ : Mk K C_Pair f_Pair___init__
  f_Pair_read : Addr
  fd_Pair_read : FuncData
  F_Pair_read : Fun K "read" "Pair.read" s_Pair_read f_Pair_read fd_Pair_read
  m_Pair_read : Meth K C_Pair "read" f_Pair_read
  f_Pair_write : Addr
  fd_Pair_write : FuncData
  F_Pair_write : Fun K "write" "Pair.write" s_Pair_write f_Pair_write fd_Pair_write
  m_Pair_write : Meth K C_Pair "write" f_Pair_write
  f_Pair_forget : Addr
  fd_Pair_forget : FuncData
  F_Pair_forget : Fun K "forget" "Pair.forget" s_Pair_forget f_Pair_forget fd_Pair_forget
  m_Pair_forget : Meth K C_Pair "forget" f_Pair_forget
  f_Pair_fail_at : Addr
  fd_Pair_fail_at : FuncData
  F_Pair_fail_at : Fun K "fail_at" "Pair.fail_at" s_Pair_fail_at f_Pair_fail_at fd_Pair_fail_at
  m_Pair_fail_at : Meth K C_Pair "fail_at" f_Pair_fail_at
  f_Pair_known : Addr
  fd_Pair_known : FuncData
  F_Pair_known : Fun K "known" "Pair.known" s_Pair_known f_Pair_known fd_Pair_known
  p_Pair_known : Addr
  P_Pair_known : PropOf K C_Pair "known" p_Pair_known f_Pair_known
  f_Pair_dirty : Addr
  fd_Pair_dirty : FuncData
  F_Pair_dirty : Fun K "dirty" "Pair.dirty" s_Pair_dirty f_Pair_dirty fd_Pair_dirty
  p_Pair_dirty : Addr
  P_Pair_dirty : PropOf K C_Pair "dirty" p_Pair_dirty f_Pair_dirty
  f_Pair_requests : Addr
  fd_Pair_requests : FuncData
  F_Pair_requests : Fun K "requests" "Pair.requests" s_Pair_requests f_Pair_requests fd_Pair_requests
  p_Pair_requests : Addr
  P_Pair_requests : PropOf K C_Pair "requests" p_Pair_requests f_Pair_requests
  f_Pair_rules : Addr
  fd_Pair_rules : FuncData
  F_Pair_rules : Fun K "rules" "Pair.rules" s_Pair_rules f_Pair_rules fd_Pair_rules
  p_Pair_rules : Addr
  P_Pair_rules : PropOf K C_Pair "rules" p_Pair_rules f_Pair_rules
  f_Pair_counts : Addr
  fd_Pair_counts : FuncData
  F_Pair_counts : Fun K "counts" "Pair.counts" s_Pair_counts f_Pair_counts fd_Pair_counts
  p_Pair_counts : Addr
  P_Pair_counts : PropOf K C_Pair "counts" p_Pair_counts f_Pair_counts
  f_Pair_pending : Addr
  fd_Pair_pending : FuncData
  F_Pair_pending : Fun K "pending" "Pair.pending" s_Pair_pending f_Pair_pending fd_Pair_pending
  p_Pair_pending : Addr
  P_Pair_pending : PropOf K C_Pair "pending" p_Pair_pending f_Pair_pending
  f_Pair_is_on : Addr
  fd_Pair_is_on : FuncData
  F_Pair_is_on : Fun K "is_on" "Pair.is_on" s_Pair_is_on f_Pair_is_on fd_Pair_is_on
  p_Pair_is_on : Addr
  P_Pair_is_on : PropOf K C_Pair "is_on" p_Pair_is_on f_Pair_is_on
  f_Pair__check_on : Addr
  fd_Pair__check_on : FuncData
  F_Pair__check_on : Fun K "_check_on" "Pair._check_on" s_Pair__check_on f_Pair__check_on fd_Pair__check_on
  m_Pair__check_on : Meth K C_Pair "_check_on" f_Pair__check_on
  f_Pair__check_block : Addr
  fd_Pair__check_block : FuncData
  F_Pair__check_block : Fun K "_check_block" "Pair._check_block" s_Pair__check_block f_Pair__check_block fd_Pair__check_block
  m_Pair__check_block : Meth K C_Pair "_check_block" f_Pair__check_block
  f_Pair__begin_request : Addr
  fd_Pair__begin_request : FuncData
  F_Pair__begin_request : Fun K "_begin_request" "Pair._begin_request" s_Pair__begin_request f_Pair__begin_request fd_Pair__begin_request
  m_Pair__begin_request : Meth K C_Pair "_begin_request" f_Pair__begin_request
  f_Pair__take_slot : Addr
  fd_Pair__take_slot : FuncData
  F_Pair__take_slot : Fun K "_take_slot" "Pair._take_slot" s_Pair__take_slot f_Pair__take_slot fd_Pair__take_slot
  m_Pair__take_slot : Meth K C_Pair "_take_slot" f_Pair__take_slot
  f_Pair__choose_slots : Addr
  fd_Pair__choose_slots : FuncData
  F_Pair__choose_slots : Fun K "_choose_slots" "Pair._choose_slots" s_Pair__choose_slots f_Pair__choose_slots fd_Pair__choose_slots
  m_Pair__choose_slots : Meth K C_Pair "_choose_slots" f_Pair__choose_slots
  f_Pair__recipe_for_writing : Addr
  fd_Pair__recipe_for_writing : FuncData
  F_Pair__recipe_for_writing : Fun K "_recipe_for_writing" "Pair._recipe_for_writing" s_Pair__recipe_for_writing f_Pair__recipe_for_writing fd_Pair__recipe_for_writing
  m_Pair__recipe_for_writing : Meth K C_Pair "_recipe_for_writing" f_Pair__recipe_for_writing
  f_Pair__carry_out : Addr
  fd_Pair__carry_out : FuncData
  F_Pair__carry_out : Fun K "_carry_out" "Pair._carry_out" s_Pair__carry_out f_Pair__carry_out fd_Pair__carry_out
  m_Pair__carry_out : Meth K C_Pair "_carry_out" f_Pair__carry_out
  f_Pair__clean_least_turns : Addr
  fd_Pair__clean_least_turns : FuncData
  F_Pair__clean_least_turns : Fun K "_clean_least_turns" "Pair._clean_least_turns" s_Pair__clean_least_turns f_Pair__clean_least_turns fd_Pair__clean_least_turns
  m_Pair__clean_least_turns : Meth K C_Pair "_clean_least_turns" f_Pair__clean_least_turns
  f_Pair__clean_slot : Addr
  fd_Pair__clean_slot : FuncData
  F_Pair__clean_slot : Fun K "_clean_slot" "Pair._clean_slot" s_Pair__clean_slot f_Pair__clean_slot fd_Pair__clean_slot
  m_Pair__clean_slot : Meth K C_Pair "_clean_slot" f_Pair__clean_slot
  f_Pair__begin_step : Addr
  fd_Pair__begin_step : FuncData
  F_Pair__begin_step : Fun K "_begin_step" "Pair._begin_step" s_Pair__begin_step f_Pair__begin_step fd_Pair__begin_step
  m_Pair__begin_step : Meth K C_Pair "_begin_step" f_Pair__begin_step
  f_Pair__write_slow : Addr
  fd_Pair__write_slow : FuncData
  F_Pair__write_slow : Fun K "_write_slow" "Pair._write_slow" s_Pair__write_slow f_Pair__write_slow fd_Pair__write_slow
  m_Pair__write_slow : Meth K C_Pair "_write_slow" f_Pair__write_slow
  f_Pair__sync_slow : Addr
  fd_Pair__sync_slow : FuncData
  F_Pair__sync_slow : Fun K "_sync_slow" "Pair._sync_slow" s_Pair__sync_slow f_Pair__sync_slow fd_Pair__sync_slow
  m_Pair__sync_slow : Meth K C_Pair "_sync_slow" f_Pair__sync_slow
  f_Pair__write_fast : Addr
  fd_Pair__write_fast : FuncData
  F_Pair__write_fast : Fun K "_write_fast" "Pair._write_fast" s_Pair__write_fast f_Pair__write_fast fd_Pair__write_fast
  m_Pair__write_fast : Meth K C_Pair "_write_fast" f_Pair__write_fast
  f_Pair__write_record : Addr
  fd_Pair__write_record : FuncData
  F_Pair__write_record : Fun K "_write_record" "Pair._write_record" s_Pair__write_record f_Pair__write_record fd_Pair__write_record
  m_Pair__write_record : Meth K C_Pair "_write_record" f_Pair__write_record
  f_Pair__sync_fast : Addr
  fd_Pair__sync_fast : FuncData
  F_Pair__sync_fast : Fun K "_sync_fast" "Pair._sync_fast" s_Pair__sync_fast f_Pair__sync_fast fd_Pair__sync_fast
  m_Pair__sync_fast : Meth K C_Pair "_sync_fast" f_Pair__sync_fast
  f_Pair__turn_off : Addr
  fd_Pair__turn_off : FuncData
  F_Pair__turn_off : Fun K "_turn_off" "Pair._turn_off" s_Pair__turn_off f_Pair__turn_off fd_Pair__turn_off
  m_Pair__turn_off : Meth K C_Pair "_turn_off" f_Pair__turn_off
  f_Pair__put_in_fast : Addr
  fd_Pair__put_in_fast : FuncData
  F_Pair__put_in_fast : Fun K "_put_in_fast" "Pair._put_in_fast" s_Pair__put_in_fast f_Pair__put_in_fast fd_Pair__put_in_fast
  m_Pair__put_in_fast : Meth K C_Pair "_put_in_fast" f_Pair__put_in_fast
  f__law_random : Addr
  fd__law_random : FuncData
  F__law_random : Fun K "_law_random" "_law_random" s__law_random f__law_random fd__law_random
  g__law_random : mg "_law_random" = some (.ref f__law_random)
  f__law_below : Addr
  fd__law_below : FuncData
  F__law_below : Fun K "_law_below" "_law_below" s__law_below f__law_below fd__law_below
  g__law_below : mg "_law_below" = some (.ref f__law_below)
  f__law_rules : Addr
  fd__law_rules : FuncData
  F__law_rules : Fun K "_law_rules" "_law_rules" s__law_rules f__law_rules fd__law_rules
  g__law_rules : mg "_law_rules" = some (.ref f__law_rules)
  f__law_pair : Addr
  fd__law_pair : FuncData
  F__law_pair : Fun K "_law_pair" "_law_pair" s__law_pair f__law_pair fd__law_pair
  g__law_pair : mg "_law_pair" = some (.ref f__law_pair)
  f__law_safe : Addr
  fd__law_safe : FuncData
  F__law_safe : Fun K "_law_safe" "_law_safe" s__law_safe f__law_safe fd__law_safe
  g__law_safe : mg "_law_safe" = some (.ref f__law_safe)
  f__law_do : Addr
  fd__law_do : FuncData
  F__law_do : Fun K "_law_do" "_law_do" s__law_do f__law_do fd__law_do
  g__law_do : mg "_law_do" = some (.ref f__law_do)
  f__law_request : Addr
  fd__law_request : FuncData
  F__law_request : Fun K "_law_request" "_law_request" s__law_request f__law_request fd__law_request
  g__law_request : mg "_law_request" = some (.ref f__law_request)
  f__law_power_of : Addr
  fd__law_power_of : FuncData
  F__law_power_of : Fun K "_law_power_of" "_law_power_of" s__law_power_of f__law_power_of fd__law_power_of
  g__law_power_of : mg "_law_power_of" = some (.ref f__law_power_of)
  z_isinstance : mg "isinstance" = none
  z_int : mg "int" = none
  z_bool : mg "bool" = none
  z_str : mg "str" = none
  z_list : mg "list" = none
  z_tuple : mg "tuple" = none
  z_len : mg "len" = none
  z_abs : mg "abs" = none
  z_range : mg "range" = none
  z_enumerate : mg "enumerate" = none
  z_max : mg "max" = none
  z_min : mg "min" = none
  z_sorted : mg "sorted" = none
  z_zip : mg "zip" = none
  z_sum : mg "sum" = none
  z_all : mg "all" = none
  z_super : mg "super" = none
  z_ValueError : mg "ValueError" = none
  t_MOST_BLOCKS : Tok
  c_MOST_BLOCKS : mg "MOST_BLOCKS" = some (.int (16) t_MOST_BLOCKS)
  t_MOST_SLOTS : Tok
  c_MOST_SLOTS : mg "MOST_SLOTS" = some (.int (8) t_MOST_SLOTS)
  t_MOST_VALUE : Tok
  c_MOST_VALUE : mg "MOST_VALUE" = some (.int (999) t_MOST_VALUE)
  t_MOST_CELLS : Tok
  c_MOST_CELLS : mg "MOST_CELLS" = some (.int (64) t_MOST_CELLS)
  t_BLOCK : Tok
  c_BLOCK : mg "BLOCK" = some (.int (0) t_BLOCK)
  t_VALUE : Tok
  c_VALUE : mg "VALUE" = some (.int (1) t_VALUE)
  t_TURN : Tok
  c_TURN : mg "TURN" = some (.int (2) t_TURN)
  t_IS_DIRTY : Tok
  c_IS_DIRTY : mg "IS_DIRTY" = some (.int (3) t_IS_DIRTY)
  t_MOST_USES : Tok
  c_MOST_USES : mg "MOST_USES" = some (.int (9) t_MOST_USES)
  t_BOUND_PART : Tok
  c_BOUND_PART : mg "BOUND_PART" = some (.int (3) t_BOUND_PART)
  t_MOST_BOUND : Tok
  c_MOST_BOUND : mg "MOST_BOUND" = some (.int (8) t_MOST_BOUND)
  t_MOST_STEPS : Tok
  c_MOST_STEPS : mg "MOST_STEPS" = some (.int (8) t_MOST_STEPS)
  t_MOST_STEPS_AHEAD : Tok
  c_MOST_STEPS_AHEAD : mg "MOST_STEPS_AHEAD" = some (.int (999) t_MOST_STEPS_AHEAD)
  A_RULE_WORDS_0 : Addr
  k_RULE_WORDS_0 : TupK K A_RULE_WORDS_0 [.str "through", .str "back", .str "around"]
  A_RULE_WORDS_1 : Addr
  k_RULE_WORDS_1 : TupK K A_RULE_WORDS_1 [.str "keep", .str "pass"]
  A_RULE_WORDS_2 : Addr
  k_RULE_WORDS_2 : TupK K A_RULE_WORDS_2 [.str "used", .str "came", .str "rare"]
  A_RULE_WORDS : Addr
  g_RULE_WORDS : mg "RULE_WORDS" = some (.ref A_RULE_WORDS)
  k_RULE_WORDS : TupK K A_RULE_WORDS [.ref A_RULE_WORDS_0, .ref A_RULE_WORDS_1, .ref A_RULE_WORDS_2]
  A_WRITE_STEPS : Addr
  g_WRITE_STEPS : mg "WRITE_STEPS" = some (.ref A_WRITE_STEPS)
  k_WRITE_STEPS : TupK K A_WRITE_STEPS [.str "slow", .str "sync slow", .str "fast", .str "sync fast", .str "free", .str "done"]
  A_CLEAN_STEPS : Addr
  g_CLEAN_STEPS : mg "CLEAN_STEPS" = some (.ref A_CLEAN_STEPS)
  k_CLEAN_STEPS : TupK K A_CLEAN_STEPS [.str "slow", .str "sync slow", .str "mark", .str "sync fast"]
  A_SYNC_STEPS : Addr
  g_SYNC_STEPS : mg "SYNC_STEPS" = some (.ref A_SYNC_STEPS)
  k_SYNC_STEPS : TupK K A_SYNC_STEPS [.str "sync slow", .str "sync fast"]
  A_NO_COUNTS : Addr
  g_NO_COUNTS : mg "NO_COUNTS" = some (.ref A_NO_COUNTS)
  k_NO_COUNTS : TupK K A_NO_COUNTS [.int 0, .int 0, .int 0]
  file : Str
  third : PySem.W.nsIn K cStatics "thirdparty.any" = some none
  C_PowerFailed : Addr
  gC_PowerFailed : mg "PowerFailed" = some (.ref C_PowerFailed)
  ic_PowerFailed : PySem.W.isClsIn K C_PowerFailed = true
  ty_PowerFailed : PySem.W.typeIn K (.ref C_PowerFailed) = some (.type "type")
  C_PowerOff : Addr
  gC_PowerOff : mg "PowerOff" = some (.ref C_PowerOff)
  ic_PowerOff : PySem.W.isClsIn K C_PowerOff = true
  ty_PowerOff : PySem.W.typeIn K (.ref C_PowerOff) = some (.type "type")
  C_InvalidBlock : Addr
  gC_InvalidBlock : mg "InvalidBlock" = some (.ref C_InvalidBlock)
  ic_InvalidBlock : PySem.W.isClsIn K C_InvalidBlock = true
  ty_InvalidBlock : PySem.W.typeIn K (.ref C_InvalidBlock) = some (.type "type")
  C_InvalidValue : Addr
  gC_InvalidValue : mg "InvalidValue" = some (.ref C_InvalidValue)
  ic_InvalidValue : PySem.W.isClsIn K C_InvalidValue = true
  ty_InvalidValue : PySem.W.typeIn K (.ref C_InvalidValue) = some (.type "type")
  C_InvalidCount : Addr
  gC_InvalidCount : mg "InvalidCount" = some (.ref C_InvalidCount)
  ic_InvalidCount : PySem.W.isClsIn K C_InvalidCount = true
  ty_InvalidCount : PySem.W.typeIn K (.ref C_InvalidCount) = some (.type "type")
  C_InvalidKept : Addr
  gC_InvalidKept : mg "InvalidKept" = some (.ref C_InvalidKept)
  ic_InvalidKept : PySem.W.isClsIn K C_InvalidKept = true
  ty_InvalidKept : PySem.W.typeIn K (.ref C_InvalidKept) = some (.type "type")
  C_InvalidSize : Addr
  gC_InvalidSize : mg "InvalidSize" = some (.ref C_InvalidSize)
  ic_InvalidSize : PySem.W.isClsIn K C_InvalidSize = true
  ty_InvalidSize : PySem.W.typeIn K (.ref C_InvalidSize) = some (.type "type")
  C_PairError : Addr
  gC_PairError : mg "PairError" = some (.ref C_PairError)
  ic_PairError : PySem.W.isClsIn K C_PairError = true
  ty_PairError : PySem.W.typeIn K (.ref C_PairError) = some (.type "type")
  pb : PySem.W.subIn K (.ref C_PairError) (.type "BaseException") = some true
  ph : PySem.W.hasDictIn K C_PairError = true
  sb_PowerFailed_PowerFailed : PySem.W.subIn K (.ref C_PowerFailed) (.ref C_PowerFailed) = some true
  sb_PowerFailed_PowerOff : PySem.W.subIn K (.ref C_PowerFailed) (.ref C_PowerOff) = some false
  sb_PowerFailed_InvalidBlock : PySem.W.subIn K (.ref C_PowerFailed) (.ref C_InvalidBlock) = some false
  sb_PowerFailed_InvalidValue : PySem.W.subIn K (.ref C_PowerFailed) (.ref C_InvalidValue) = some false
  sb_PowerFailed_InvalidCount : PySem.W.subIn K (.ref C_PowerFailed) (.ref C_InvalidCount) = some false
  sb_PowerFailed_InvalidKept : PySem.W.subIn K (.ref C_PowerFailed) (.ref C_InvalidKept) = some false
  sb_PowerFailed_InvalidSize : PySem.W.subIn K (.ref C_PowerFailed) (.ref C_InvalidSize) = some false
  sb_PowerFailed_PairError : PySem.W.subIn K (.ref C_PowerFailed) (.ref C_PairError) = some true
  vb_PowerFailed : PySem.W.subIn K (.ref C_PowerFailed) (.type "ValueError") = some true
  E_PowerFailed : ExcC K C_PowerFailed
  kp_PowerFailed : PySem.W.keepIn K (.ref C_PowerFailed) = true
  f_PowerFailed___init__ : Addr
  fd_PowerFailed___init__ : FuncData
  cc_PowerFailed___init__ : Addr
  S_PowerFailed___init__ : FunS K file "__init__" "PowerFailed.__init__" s_PowerFailed___init__ C_PowerFailed cc_PowerFailed___init__ f_PowerFailed___init__ fd_PowerFailed___init__
  O_PowerFailed : OexC K C_PowerFailed
  iC_PowerFailed : PySem.W.findIn K (.ref C_PowerFailed) "__init__" = some (some (.ref f_PowerFailed___init__))
  tI_PowerFailed : PySem.W.typeIn K (.ref f_PowerFailed___init__) = some (.type "function")
  mr_PowerFailed : PySem.W.mroIn K C_PowerFailed (.ref C_PowerFailed) = some true
  su_PowerFailed : PySem.W.ks_superIn K C_PowerFailed C_PowerFailed "__init__" = some (some (.builtin "ValueError.__init__"))
  no_PowerFailed_is_done : PySem.W.findIn K (.ref C_PowerFailed) "is_done" = some none
  sb_PowerOff_PowerFailed : PySem.W.subIn K (.ref C_PowerOff) (.ref C_PowerFailed) = some false
  sb_PowerOff_PowerOff : PySem.W.subIn K (.ref C_PowerOff) (.ref C_PowerOff) = some true
  sb_PowerOff_InvalidBlock : PySem.W.subIn K (.ref C_PowerOff) (.ref C_InvalidBlock) = some false
  sb_PowerOff_InvalidValue : PySem.W.subIn K (.ref C_PowerOff) (.ref C_InvalidValue) = some false
  sb_PowerOff_InvalidCount : PySem.W.subIn K (.ref C_PowerOff) (.ref C_InvalidCount) = some false
  sb_PowerOff_InvalidKept : PySem.W.subIn K (.ref C_PowerOff) (.ref C_InvalidKept) = some false
  sb_PowerOff_InvalidSize : PySem.W.subIn K (.ref C_PowerOff) (.ref C_InvalidSize) = some false
  sb_PowerOff_PairError : PySem.W.subIn K (.ref C_PowerOff) (.ref C_PairError) = some true
  vb_PowerOff : PySem.W.subIn K (.ref C_PowerOff) (.type "ValueError") = some true
  E_PowerOff : ExcC K C_PowerOff
  kp_PowerOff : PySem.W.keepIn K (.ref C_PowerOff) = true
  pl_PowerOff : PySem.W.excIn K C_PowerOff PySem.HandSPX.veTail "ValueError.__new__" = true
  sb_InvalidBlock_PowerFailed : PySem.W.subIn K (.ref C_InvalidBlock) (.ref C_PowerFailed) = some false
  sb_InvalidBlock_PowerOff : PySem.W.subIn K (.ref C_InvalidBlock) (.ref C_PowerOff) = some false
  sb_InvalidBlock_InvalidBlock : PySem.W.subIn K (.ref C_InvalidBlock) (.ref C_InvalidBlock) = some true
  sb_InvalidBlock_InvalidValue : PySem.W.subIn K (.ref C_InvalidBlock) (.ref C_InvalidValue) = some false
  sb_InvalidBlock_InvalidCount : PySem.W.subIn K (.ref C_InvalidBlock) (.ref C_InvalidCount) = some false
  sb_InvalidBlock_InvalidKept : PySem.W.subIn K (.ref C_InvalidBlock) (.ref C_InvalidKept) = some false
  sb_InvalidBlock_InvalidSize : PySem.W.subIn K (.ref C_InvalidBlock) (.ref C_InvalidSize) = some false
  sb_InvalidBlock_PairError : PySem.W.subIn K (.ref C_InvalidBlock) (.ref C_PairError) = some true
  vb_InvalidBlock : PySem.W.subIn K (.ref C_InvalidBlock) (.type "ValueError") = some true
  E_InvalidBlock : ExcC K C_InvalidBlock
  kp_InvalidBlock : PySem.W.keepIn K (.ref C_InvalidBlock) = true
  pl_InvalidBlock : PySem.W.excIn K C_InvalidBlock PySem.HandSPX.veTail "ValueError.__new__" = true
  sb_InvalidValue_PowerFailed : PySem.W.subIn K (.ref C_InvalidValue) (.ref C_PowerFailed) = some false
  sb_InvalidValue_PowerOff : PySem.W.subIn K (.ref C_InvalidValue) (.ref C_PowerOff) = some false
  sb_InvalidValue_InvalidBlock : PySem.W.subIn K (.ref C_InvalidValue) (.ref C_InvalidBlock) = some false
  sb_InvalidValue_InvalidValue : PySem.W.subIn K (.ref C_InvalidValue) (.ref C_InvalidValue) = some true
  sb_InvalidValue_InvalidCount : PySem.W.subIn K (.ref C_InvalidValue) (.ref C_InvalidCount) = some false
  sb_InvalidValue_InvalidKept : PySem.W.subIn K (.ref C_InvalidValue) (.ref C_InvalidKept) = some false
  sb_InvalidValue_InvalidSize : PySem.W.subIn K (.ref C_InvalidValue) (.ref C_InvalidSize) = some false
  sb_InvalidValue_PairError : PySem.W.subIn K (.ref C_InvalidValue) (.ref C_PairError) = some true
  vb_InvalidValue : PySem.W.subIn K (.ref C_InvalidValue) (.type "ValueError") = some true
  E_InvalidValue : ExcC K C_InvalidValue
  kp_InvalidValue : PySem.W.keepIn K (.ref C_InvalidValue) = true
  pl_InvalidValue : PySem.W.excIn K C_InvalidValue PySem.HandSPX.veTail "ValueError.__new__" = true
  sb_InvalidCount_PowerFailed : PySem.W.subIn K (.ref C_InvalidCount) (.ref C_PowerFailed) = some false
  sb_InvalidCount_PowerOff : PySem.W.subIn K (.ref C_InvalidCount) (.ref C_PowerOff) = some false
  sb_InvalidCount_InvalidBlock : PySem.W.subIn K (.ref C_InvalidCount) (.ref C_InvalidBlock) = some false
  sb_InvalidCount_InvalidValue : PySem.W.subIn K (.ref C_InvalidCount) (.ref C_InvalidValue) = some false
  sb_InvalidCount_InvalidCount : PySem.W.subIn K (.ref C_InvalidCount) (.ref C_InvalidCount) = some true
  sb_InvalidCount_InvalidKept : PySem.W.subIn K (.ref C_InvalidCount) (.ref C_InvalidKept) = some false
  sb_InvalidCount_InvalidSize : PySem.W.subIn K (.ref C_InvalidCount) (.ref C_InvalidSize) = some false
  sb_InvalidCount_PairError : PySem.W.subIn K (.ref C_InvalidCount) (.ref C_PairError) = some true
  vb_InvalidCount : PySem.W.subIn K (.ref C_InvalidCount) (.type "ValueError") = some true
  E_InvalidCount : ExcC K C_InvalidCount
  kp_InvalidCount : PySem.W.keepIn K (.ref C_InvalidCount) = true
  pl_InvalidCount : PySem.W.excIn K C_InvalidCount PySem.HandSPX.veTail "ValueError.__new__" = true
  sb_InvalidKept_PowerFailed : PySem.W.subIn K (.ref C_InvalidKept) (.ref C_PowerFailed) = some false
  sb_InvalidKept_PowerOff : PySem.W.subIn K (.ref C_InvalidKept) (.ref C_PowerOff) = some false
  sb_InvalidKept_InvalidBlock : PySem.W.subIn K (.ref C_InvalidKept) (.ref C_InvalidBlock) = some false
  sb_InvalidKept_InvalidValue : PySem.W.subIn K (.ref C_InvalidKept) (.ref C_InvalidValue) = some false
  sb_InvalidKept_InvalidCount : PySem.W.subIn K (.ref C_InvalidKept) (.ref C_InvalidCount) = some false
  sb_InvalidKept_InvalidKept : PySem.W.subIn K (.ref C_InvalidKept) (.ref C_InvalidKept) = some true
  sb_InvalidKept_InvalidSize : PySem.W.subIn K (.ref C_InvalidKept) (.ref C_InvalidSize) = some false
  sb_InvalidKept_PairError : PySem.W.subIn K (.ref C_InvalidKept) (.ref C_PairError) = some true
  vb_InvalidKept : PySem.W.subIn K (.ref C_InvalidKept) (.type "ValueError") = some true
  E_InvalidKept : ExcC K C_InvalidKept
  kp_InvalidKept : PySem.W.keepIn K (.ref C_InvalidKept) = true
  pl_InvalidKept : PySem.W.excIn K C_InvalidKept PySem.HandSPX.veTail "ValueError.__new__" = true
  sb_InvalidSize_PowerFailed : PySem.W.subIn K (.ref C_InvalidSize) (.ref C_PowerFailed) = some false
  sb_InvalidSize_PowerOff : PySem.W.subIn K (.ref C_InvalidSize) (.ref C_PowerOff) = some false
  sb_InvalidSize_InvalidBlock : PySem.W.subIn K (.ref C_InvalidSize) (.ref C_InvalidBlock) = some false
  sb_InvalidSize_InvalidValue : PySem.W.subIn K (.ref C_InvalidSize) (.ref C_InvalidValue) = some false
  sb_InvalidSize_InvalidCount : PySem.W.subIn K (.ref C_InvalidSize) (.ref C_InvalidCount) = some false
  sb_InvalidSize_InvalidKept : PySem.W.subIn K (.ref C_InvalidSize) (.ref C_InvalidKept) = some false
  sb_InvalidSize_InvalidSize : PySem.W.subIn K (.ref C_InvalidSize) (.ref C_InvalidSize) = some true
  sb_InvalidSize_PairError : PySem.W.subIn K (.ref C_InvalidSize) (.ref C_PairError) = some true
  vb_InvalidSize : PySem.W.subIn K (.ref C_InvalidSize) (.type "ValueError") = some true
  E_InvalidSize : ExcC K C_InvalidSize
  kp_InvalidSize : PySem.W.keepIn K (.ref C_InvalidSize) = true
  pl_InvalidSize : PySem.W.excIn K C_InvalidSize PySem.HandSPX.veTail "ValueError.__new__" = true
section
variable {K : PySem.W.Frag} {mg : Str → Option Value}
theorem b_is_number (T : Gx K mg) : Binds K T.fd_is_number ["thing"] [] := T.F_is_number.binds (ps := ["thing"]) fun _ _ _ _ _ _ us hl => match us, hl with | [_], _ => rfl
theorem b_is_number_from (T : Gx K mg) : Binds K T.fd_is_number_from ["thing", "least", "most"] [] := T.F_is_number_from.binds (ps := ["thing", "least", "most"]) fun _ _ _ _ _ _ us hl => match us, hl with | [_, _, _], _ => rfl
theorem b_Disk_read (T : Gx K mg) : Binds K T.fd_Disk_read ["self", "cell"] [] := T.F_Disk_read.binds (ps := ["self", "cell"]) fun _ _ _ _ _ _ us hl => match us, hl with | [_, _], _ => rfl
theorem b_Disk_write (T : Gx K mg) : Binds K T.fd_Disk_write ["self", "cell", "content"] [] := T.F_Disk_write.binds (ps := ["self", "cell", "content"]) fun _ _ _ _ _ _ us hl => match us, hl with | [_, _, _], _ => rfl
theorem b_Disk_sync (T : Gx K mg) : Binds K T.fd_Disk_sync ["self"] [] := T.F_Disk_sync.binds (ps := ["self"]) fun _ _ _ _ _ _ us hl => match us, hl with | [_], _ => rfl
theorem b_Disk_fail (T : Gx K mg) : Binds K T.fd_Disk_fail ["self", "kept"] [] := T.F_Disk_fail.binds (ps := ["self", "kept"]) fun _ _ _ _ _ _ us hl => match us, hl with | [_, _], _ => rfl
theorem b_Disk_pending (T : Gx K mg) : Binds K T.fd_Disk_pending ["self"] [] := T.F_Disk_pending.binds (ps := ["self"]) fun _ _ _ _ _ _ us hl => match us, hl with | [_], _ => rfl
theorem b_Disk_counts (T : Gx K mg) : Binds K T.fd_Disk_counts ["self"] [] := T.F_Disk_counts.binds (ps := ["self"]) fun _ _ _ _ _ _ us hl => match us, hl with | [_], _ => rfl
theorem b_Disk__check_cell (T : Gx K mg) : Binds K T.fd_Disk__check_cell ["self", "cell"] [] := T.F_Disk__check_cell.binds (ps := ["self", "cell"]) fun _ _ _ _ _ _ us hl => match us, hl with | [_, _], _ => rfl
theorem b_are_kept (T : Gx K mg) : Binds K T.fd_are_kept ["kept", "many"] [] := T.F_are_kept.binds (ps := ["kept", "many"]) fun _ _ _ _ _ _ us hl => match us, hl with | [_, _], _ => rfl
theorem b_cleaned (T : Gx K mg) : Binds K T.fd_cleaned ["record"] [] := T.F_cleaned.binds (ps := ["record"]) fun _ _ _ _ _ _ us hl => match us, hl with | [_], _ => rfl
theorem b_KnownSlot___init__ (T : Gx K mg) : Binds K T.fd_KnownSlot___init__ ["self", "record", "request"] [] := T.F_KnownSlot___init__.binds (ps := ["self", "record", "request"]) fun _ _ _ _ _ _ us hl => match us, hl with | [_, _, _], _ => rfl
theorem b_Memory___init__ (T : Gx K mg) : Binds K T.fd_Memory___init__ ["self", "slots"] [] := T.F_Memory___init__.binds (ps := ["self", "slots"]) fun _ _ _ _ _ _ us hl => match us, hl with | [_, _], _ => rfl
theorem b_Memory_records (T : Gx K mg) : Binds K T.fd_Memory_records ["self"] [] := T.F_Memory_records.binds (ps := ["self"]) fun _ _ _ _ _ _ us hl => match us, hl with | [_], _ => rfl
theorem b_Memory_slot_of (T : Gx K mg) : Binds K T.fd_Memory_slot_of ["self", "block"] [] := T.F_Memory_slot_of.binds (ps := ["self", "block"]) fun _ _ _ _ _ _ us hl => match us, hl with | [_, _], _ => rfl
theorem b_Memory_record_in (T : Gx K mg) : Binds K T.fd_Memory_record_in ["self", "slot"] [] := T.F_Memory_record_in.binds (ps := ["self", "slot"]) fun _ _ _ _ _ _ us hl => match us, hl with | [_, _], _ => rfl
theorem b_Memory_use (T : Gx K mg) : Binds K T.fd_Memory_use ["self", "slot", "request"] [] := T.F_Memory_use.binds (ps := ["self", "slot", "request"]) fun _ _ _ _ _ _ us hl => match us, hl with | [_, _, _], _ => rfl
theorem b_Memory_learn (T : Gx K mg) : Binds K T.fd_Memory_learn ["self", "slot", "record", "request"] [] := T.F_Memory_learn.binds (ps := ["self", "slot", "record", "request"]) fun _ _ _ _ _ _ us hl => match us, hl with | [_, _, _, _], _ => rfl
theorem b_Memory_learn_clean (T : Gx K mg) : Binds K T.fd_Memory_learn_clean ["self", "slot"] [] := T.F_Memory_learn_clean.binds (ps := ["self", "slot"]) fun _ _ _ _ _ _ us hl => match us, hl with | [_, _], _ => rfl
theorem b_Memory_forget (T : Gx K mg) : Binds K T.fd_Memory_forget ["self", "slot"] [] := T.F_Memory_forget.binds (ps := ["self", "slot"]) fun _ _ _ _ _ _ us hl => match us, hl with | [_, _], _ => rfl
theorem b_Memory_dirty_slots (T : Gx K mg) : Binds K T.fd_Memory_dirty_slots ["self"] [] := T.F_Memory_dirty_slots.binds (ps := ["self"]) fun _ _ _ _ _ _ us hl => match us, hl with | [_], _ => rfl
theorem b_Memory_slot_to_take (T : Gx K mg) : Binds K T.fd_Memory_slot_to_take ["self", "choice"] [] := T.F_Memory_slot_to_take.binds (ps := ["self", "choice"]) fun _ _ _ _ _ _ us hl => match us, hl with | [_, _], _ => rfl
theorem b__rank (T : Gx K mg) : Binds K T.fd__rank ["known", "choice"] [] := T.F__rank.binds (ps := ["known", "choice"]) fun _ _ _ _ _ _ us hl => match us, hl with | [_, _], _ => rfl
theorem b_Rules___init__ (T : Gx K mg) : Binds K T.fd_Rules___init__ ["self", "writing", "reading", "choice", "bound"] [] := T.F_Rules___init__.binds (ps := ["self", "writing", "reading", "choice", "bound"]) fun _ _ _ _ _ _ us hl => match us, hl with | [_, _, _, _, _], _ => rfl
theorem b_Rules_writing (T : Gx K mg) : Binds K T.fd_Rules_writing ["self"] [] := T.F_Rules_writing.binds (ps := ["self"]) fun _ _ _ _ _ _ us hl => match us, hl with | [_], _ => rfl
theorem b_Rules_reading (T : Gx K mg) : Binds K T.fd_Rules_reading ["self"] [] := T.F_Rules_reading.binds (ps := ["self"]) fun _ _ _ _ _ _ us hl => match us, hl with | [_], _ => rfl
theorem b_Rules_choice (T : Gx K mg) : Binds K T.fd_Rules_choice ["self"] [] := T.F_Rules_choice.binds (ps := ["self"]) fun _ _ _ _ _ _ us hl => match us, hl with | [_], _ => rfl
theorem b_Rules_bound (T : Gx K mg) : Binds K T.fd_Rules_bound ["self"] [] := T.F_Rules_bound.binds (ps := ["self"]) fun _ _ _ _ _ _ us hl => match us, hl with | [_], _ => rfl
theorem b_Recipes___init__ (T : Gx K mg) : Binds K T.fd_Recipes___init__ ["self", "through", "back", "around", "clean"] [] := T.F_Recipes___init__.binds (ps := ["self", "through", "back", "around", "clean"]) fun _ _ _ _ _ _ us hl => match us, hl with | [_, _, _, _, _], _ => rfl
theorem b_Recipes_safe (T : Gx K mg) : Binds K T.fd_Recipes_safe ["cls"] [] := T.F_Recipes_safe.binds (ps := ["cls"]) fun _ _ _ _ _ _ us hl => match us, hl with | [_], _ => rfl
theorem b_Recipes_through (T : Gx K mg) : Binds K T.fd_Recipes_through ["self"] [] := T.F_Recipes_through.binds (ps := ["self"]) fun _ _ _ _ _ _ us hl => match us, hl with | [_], _ => rfl
theorem b_Recipes_back (T : Gx K mg) : Binds K T.fd_Recipes_back ["self"] [] := T.F_Recipes_back.binds (ps := ["self"]) fun _ _ _ _ _ _ us hl => match us, hl with | [_], _ => rfl
theorem b_Recipes_around (T : Gx K mg) : Binds K T.fd_Recipes_around ["self"] [] := T.F_Recipes_around.binds (ps := ["self"]) fun _ _ _ _ _ _ us hl => match us, hl with | [_], _ => rfl
theorem b_Recipes_clean (T : Gx K mg) : Binds K T.fd_Recipes_clean ["self"] [] := T.F_Recipes_clean.binds (ps := ["self"]) fun _ _ _ _ _ _ us hl => match us, hl with | [_], _ => rfl
theorem b__invalid_place (T : Gx K mg) : Binds K T.fd__invalid_place ["recipe", "allowed"] [] := T.F__invalid_place.binds (ps := ["recipe", "allowed"]) fun _ _ _ _ _ _ us hl => match us, hl with | [_, _], _ => rfl
theorem b_Pair_read (T : Gx K mg) : Binds K T.fd_Pair_read ["self", "block"] [] := T.F_Pair_read.binds (ps := ["self", "block"]) fun _ _ _ _ _ _ us hl => match us, hl with | [_, _], _ => rfl
theorem b_Pair_write (T : Gx K mg) : Binds K T.fd_Pair_write ["self", "block", "value"] [] := T.F_Pair_write.binds (ps := ["self", "block", "value"]) fun _ _ _ _ _ _ us hl => match us, hl with | [_, _, _], _ => rfl
theorem b_Pair_forget (T : Gx K mg) : Binds K T.fd_Pair_forget ["self", "block"] [] := T.F_Pair_forget.binds (ps := ["self", "block"]) fun _ _ _ _ _ _ us hl => match us, hl with | [_, _], _ => rfl
theorem b_Pair_fail_at (T : Gx K mg) : Binds K T.fd_Pair_fail_at ["self", "steps"] [] := T.F_Pair_fail_at.binds (ps := ["self", "steps"]) fun _ _ _ _ _ _ us hl => match us, hl with | [_, _], _ => rfl
theorem b_Pair_known (T : Gx K mg) : Binds K T.fd_Pair_known ["self"] [] := T.F_Pair_known.binds (ps := ["self"]) fun _ _ _ _ _ _ us hl => match us, hl with | [_], _ => rfl
theorem b_Pair_dirty (T : Gx K mg) : Binds K T.fd_Pair_dirty ["self"] [] := T.F_Pair_dirty.binds (ps := ["self"]) fun _ _ _ _ _ _ us hl => match us, hl with | [_], _ => rfl
theorem b_Pair_requests (T : Gx K mg) : Binds K T.fd_Pair_requests ["self"] [] := T.F_Pair_requests.binds (ps := ["self"]) fun _ _ _ _ _ _ us hl => match us, hl with | [_], _ => rfl
theorem b_Pair_rules (T : Gx K mg) : Binds K T.fd_Pair_rules ["self"] [] := T.F_Pair_rules.binds (ps := ["self"]) fun _ _ _ _ _ _ us hl => match us, hl with | [_], _ => rfl
theorem b_Pair_counts (T : Gx K mg) : Binds K T.fd_Pair_counts ["self"] [] := T.F_Pair_counts.binds (ps := ["self"]) fun _ _ _ _ _ _ us hl => match us, hl with | [_], _ => rfl
theorem b_Pair_pending (T : Gx K mg) : Binds K T.fd_Pair_pending ["self"] [] := T.F_Pair_pending.binds (ps := ["self"]) fun _ _ _ _ _ _ us hl => match us, hl with | [_], _ => rfl
theorem b_Pair_is_on (T : Gx K mg) : Binds K T.fd_Pair_is_on ["self"] [] := T.F_Pair_is_on.binds (ps := ["self"]) fun _ _ _ _ _ _ us hl => match us, hl with | [_], _ => rfl
theorem b_Pair__check_on (T : Gx K mg) : Binds K T.fd_Pair__check_on ["self"] [] := T.F_Pair__check_on.binds (ps := ["self"]) fun _ _ _ _ _ _ us hl => match us, hl with | [_], _ => rfl
theorem b_Pair__check_block (T : Gx K mg) : Binds K T.fd_Pair__check_block ["self", "block"] [] := T.F_Pair__check_block.binds (ps := ["self", "block"]) fun _ _ _ _ _ _ us hl => match us, hl with | [_, _], _ => rfl
theorem b_Pair__begin_request (T : Gx K mg) : Binds K T.fd_Pair__begin_request ["self", "block"] [] := T.F_Pair__begin_request.binds (ps := ["self", "block"]) fun _ _ _ _ _ _ us hl => match us, hl with | [_, _], _ => rfl
theorem b_Pair__take_slot (T : Gx K mg) : Binds K T.fd_Pair__take_slot ["self"] [] := T.F_Pair__take_slot.binds (ps := ["self"]) fun _ _ _ _ _ _ us hl => match us, hl with | [_], _ => rfl
theorem b_Pair__choose_slots (T : Gx K mg) : Binds K T.fd_Pair__choose_slots ["self", "own"] [] := T.F_Pair__choose_slots.binds (ps := ["self", "own"]) fun _ _ _ _ _ _ us hl => match us, hl with | [_, _], _ => rfl
theorem b_Pair__recipe_for_writing (T : Gx K mg) : Binds K T.fd_Pair__recipe_for_writing ["self"] [] := T.F_Pair__recipe_for_writing.binds (ps := ["self"]) fun _ _ _ _ _ _ us hl => match us, hl with | [_], _ => rfl
theorem b_Pair__carry_out (T : Gx K mg) : Binds K T.fd_Pair__carry_out ["self", "word", "record", "target", "stale"] [] := T.F_Pair__carry_out.binds (ps := ["self", "word", "record", "target", "stale"]) fun _ _ _ _ _ _ us hl => match us, hl with | [_, _, _, _, _], _ => rfl
theorem b_Pair__clean_least_turns (T : Gx K mg) : Binds K T.fd_Pair__clean_least_turns ["self", "count"] [] := T.F_Pair__clean_least_turns.binds (ps := ["self", "count"]) fun _ _ _ _ _ _ us hl => match us, hl with | [_, _], _ => rfl
theorem b_Pair__clean_slot (T : Gx K mg) : Binds K T.fd_Pair__clean_slot ["self", "slot"] [] := T.F_Pair__clean_slot.binds (ps := ["self", "slot"]) fun _ _ _ _ _ _ us hl => match us, hl with | [_, _], _ => rfl
theorem b_Pair__begin_step (T : Gx K mg) : Binds K T.fd_Pair__begin_step ["self"] [] := T.F_Pair__begin_step.binds (ps := ["self"]) fun _ _ _ _ _ _ us hl => match us, hl with | [_], _ => rfl
theorem b_Pair__write_slow (T : Gx K mg) : Binds K T.fd_Pair__write_slow ["self", "record"] [] := T.F_Pair__write_slow.binds (ps := ["self", "record"]) fun _ _ _ _ _ _ us hl => match us, hl with | [_, _], _ => rfl
theorem b_Pair__sync_slow (T : Gx K mg) : Binds K T.fd_Pair__sync_slow ["self"] [] := T.F_Pair__sync_slow.binds (ps := ["self"]) fun _ _ _ _ _ _ us hl => match us, hl with | [_], _ => rfl
theorem b_Pair__write_fast (T : Gx K mg) : Binds K T.fd_Pair__write_fast ["self", "slot", "content"] [] := T.F_Pair__write_fast.binds (ps := ["self", "slot", "content"]) fun _ _ _ _ _ _ us hl => match us, hl with | [_, _, _], _ => rfl
theorem b_Pair__write_record (T : Gx K mg) : Binds K T.fd_Pair__write_record ["self", "slot", "record"] [] := T.F_Pair__write_record.binds (ps := ["self", "slot", "record"]) fun _ _ _ _ _ _ us hl => match us, hl with | [_, _, _], _ => rfl
theorem b_Pair__sync_fast (T : Gx K mg) : Binds K T.fd_Pair__sync_fast ["self"] [] := T.F_Pair__sync_fast.binds (ps := ["self"]) fun _ _ _ _ _ _ us hl => match us, hl with | [_], _ => rfl
theorem b_Pair__turn_off (T : Gx K mg) : Binds K T.fd_Pair__turn_off ["self"] [] := T.F_Pair__turn_off.binds (ps := ["self"]) fun _ _ _ _ _ _ us hl => match us, hl with | [_], _ => rfl
theorem b_Pair__put_in_fast (T : Gx K mg) : Binds K T.fd_Pair__put_in_fast ["self", "slots"] [] := T.F_Pair__put_in_fast.binds (ps := ["self", "slots"]) fun _ _ _ _ _ _ us hl => match us, hl with | [_, _], _ => rfl
theorem b__law_random (T : Gx K mg) : Binds K T.fd__law_random ["_law_script", "_law_salt"] [] := T.F__law_random.binds (ps := ["_law_script", "_law_salt"]) fun _ _ _ _ _ _ us hl => match us, hl with | [_, _], _ => rfl
theorem b__law_below (T : Gx K mg) : Binds K T.fd__law_below ["_law_d", "_law_limit"] [] := T.F__law_below.binds (ps := ["_law_d", "_law_limit"]) fun _ _ _ _ _ _ us hl => match us, hl with | [_, _], _ => rfl
theorem b__law_rules (T : Gx K mg) : Binds K T.fd__law_rules ["_law_d", "_law_limit"] [] := T.F__law_rules.binds (ps := ["_law_d", "_law_limit"]) fun _ _ _ _ _ _ us hl => match us, hl with | [_, _], _ => rfl
theorem b__law_pair (T : Gx K mg) : Binds K T.fd__law_pair ["_law_blocks", "_law_slots", "_law_rules_here", "_law_orders"] [] := T.F__law_pair.binds (ps := ["_law_blocks", "_law_slots", "_law_rules_here", "_law_orders"]) fun _ _ _ _ _ _ us hl => match us, hl with | [_, _, _, _], _ => rfl
theorem b__law_safe (T : Gx K mg) : Binds K T.fd__law_safe [] [] := T.F__law_safe.binds (ps := []) fun _ _ _ _ _ _ us hl => match us, hl with | [], _ => rfl
theorem b__law_do (T : Gx K mg) : Binds K T.fd__law_do ["_law_pair_here", "_law_request_here"] [] := T.F__law_do.binds (ps := ["_law_pair_here", "_law_request_here"]) fun _ _ _ _ _ _ us hl => match us, hl with | [_, _], _ => rfl
theorem b__law_request (T : Gx K mg) : Binds K T.fd__law_request ["_law_d", "_law_blocks"] [] := T.F__law_request.binds (ps := ["_law_d", "_law_blocks"]) fun _ _ _ _ _ _ us hl => match us, hl with | [_, _], _ => rfl
theorem b__law_power_of (T : Gx K mg) : Binds K T.fd__law_power_of ["_law_call"] [] := T.F__law_power_of.binds (ps := ["_law_call"]) fun _ _ _ _ _ _ us hl => match us, hl with | [_], _ => rfl
end
section
open PySem PySem.W PySem.Calls PyProof.Rows
def hxn0 : List PySem.Str := ["_wall", "__name__", "PairError", "InvalidSize", "InvalidCell", "InvalidKept", "InvalidRules", "InvalidRecipes", "InvalidBlock", "InvalidValue", "InvalidCount", "PowerFailed"]
def hxn1 : List PySem.Str := ["PowerOff", "MOST_BLOCKS", "MOST_SLOTS", "MOST_VALUE", "is_number", "is_number_from", "check_blocks", "check_slots", "MOST_CELLS", "Disk", "are_kept", "BLOCK"]
def hxn2 : List PySem.Str := ["VALUE", "TURN", "IS_DIRTY", "cleaned", "MOST_USES", "KnownSlot", "Memory", "_rank", "RULE_WORDS", "BOUND_PART", "MOST_BOUND", "WRITE_STEPS"]
def hxn3 : List PySem.Str := ["CLEAN_STEPS", "SYNC_STEPS", "MOST_STEPS", "Rules", "Recipes", "_invalid_place", "MOST_STEPS_AHEAD", "NO_COUNTS", "Pair", "_law_random", "_law_below", "_law_rules"]
def hxn4 : List PySem.Str := ["_law_request", "_law_pair", "_law_safe", "_law_do", "_law_power_of"]
def hnames : List PySem.Str := hxn0 ++ hxn1 ++ hxn2 ++ hxn3 ++ hxn4
def hxd0 : List Hx.Df := [⟨.glo "is_number", "is_number", "is_number", s_is_number, [], [], false⟩,
  ⟨.glo "is_number_from", "is_number_from", "is_number_from", s_is_number_from, [], [], false⟩,
  ⟨.glo "check_blocks", "check_blocks", "check_blocks", s_check_blocks, [.int (16)], [], false⟩,
  ⟨.glo "check_slots", "check_slots", "check_slots", s_check_slots, [.int (8)], [], false⟩,
  ⟨.meth "Disk" "__init__", "__init__", "Disk.__init__", s_Disk___init__, [], [("content", .int (0))], false⟩,
  ⟨.meth "Disk" "read", "read", "Disk.read", s_Disk_read, [], [], false⟩,
  ⟨.meth "Disk" "write", "write", "Disk.write", s_Disk_write, [], [], false⟩,
  ⟨.meth "Disk" "sync", "sync", "Disk.sync", s_Disk_sync, [], [], false⟩,
  ⟨.meth "Disk" "fail", "fail", "Disk.fail", s_Disk_fail, [], [], false⟩,
  ⟨.prop "Disk" "pending", "pending", "Disk.pending", s_Disk_pending, [], [], false⟩,
  ⟨.prop "Disk" "counts", "counts", "Disk.counts", s_Disk_counts, [], [], false⟩,
  ⟨.meth "Disk" "_check_cell", "_check_cell", "Disk._check_cell", s_Disk__check_cell, [], [], false⟩,
  ⟨.glo "are_kept", "are_kept", "are_kept", s_are_kept, [], [], false⟩,
  ⟨.glo "cleaned", "cleaned", "cleaned", s_cleaned, [], [], false⟩,
  ⟨.meth "KnownSlot" "__init__", "__init__", "KnownSlot.__init__", s_KnownSlot___init__, [], [], false⟩,
  ⟨.meth "Memory" "__init__", "__init__", "Memory.__init__", s_Memory___init__, [], [], false⟩,
  ⟨.meth "Memory" "records", "records", "Memory.records", s_Memory_records, [], [], false⟩,
  ⟨.meth "Memory" "slot_of", "slot_of", "Memory.slot_of", s_Memory_slot_of, [], [], false⟩,
  ⟨.meth "Memory" "record_in", "record_in", "Memory.record_in", s_Memory_record_in, [], [], false⟩,
  ⟨.meth "Memory" "use", "use", "Memory.use", s_Memory_use, [], [], false⟩]
def hxd1 : List Hx.Df := [⟨.meth "Memory" "learn", "learn", "Memory.learn", s_Memory_learn, [], [], false⟩,
  ⟨.meth "Memory" "learn_clean", "learn_clean", "Memory.learn_clean", s_Memory_learn_clean, [], [], false⟩,
  ⟨.meth "Memory" "forget", "forget", "Memory.forget", s_Memory_forget, [], [], false⟩,
  ⟨.meth "Memory" "dirty_slots", "dirty_slots", "Memory.dirty_slots", s_Memory_dirty_slots, [], [], false⟩,
  ⟨.meth "Memory" "slot_to_take", "slot_to_take", "Memory.slot_to_take", s_Memory_slot_to_take, [], [], false⟩,
  ⟨.glo "_rank", "_rank", "_rank", s__rank, [], [], false⟩,
  ⟨.meth "Rules" "__init__", "__init__", "Rules.__init__", s_Rules___init__, [], [], false⟩,
  ⟨.prop "Rules" "writing", "writing", "Rules.writing", s_Rules_writing, [], [], false⟩,
  ⟨.prop "Rules" "reading", "reading", "Rules.reading", s_Rules_reading, [], [], false⟩,
  ⟨.prop "Rules" "choice", "choice", "Rules.choice", s_Rules_choice, [], [], false⟩,
  ⟨.prop "Rules" "bound", "bound", "Rules.bound", s_Rules_bound, [], [], false⟩,
  ⟨.meth "Recipes" "__init__", "__init__", "Recipes.__init__", s_Recipes___init__, [], [], false⟩,
  ⟨.clsm "Recipes" "safe", "safe", "Recipes.safe", s_Recipes_safe, [], [], false⟩,
  ⟨.prop "Recipes" "through", "through", "Recipes.through", s_Recipes_through, [], [], false⟩,
  ⟨.prop "Recipes" "back", "back", "Recipes.back", s_Recipes_back, [], [], false⟩,
  ⟨.prop "Recipes" "around", "around", "Recipes.around", s_Recipes_around, [], [], false⟩,
  ⟨.prop "Recipes" "clean", "clean", "Recipes.clean", s_Recipes_clean, [], [], false⟩,
  ⟨.glo "_invalid_place", "_invalid_place", "_invalid_place", s__invalid_place, [], [], false⟩,
  ⟨.meth "Pair" "__init__", "__init__", "Pair.__init__", s_Pair___init__, [], [("recipes", .non)], false⟩,
  ⟨.meth "Pair" "read", "read", "Pair.read", s_Pair_read, [], [], false⟩]
def hxd2 : List Hx.Df := [⟨.meth "Pair" "write", "write", "Pair.write", s_Pair_write, [], [], false⟩,
  ⟨.meth "Pair" "forget", "forget", "Pair.forget", s_Pair_forget, [], [], false⟩,
  ⟨.meth "Pair" "fail_at", "fail_at", "Pair.fail_at", s_Pair_fail_at, [], [], false⟩,
  ⟨.prop "Pair" "known", "known", "Pair.known", s_Pair_known, [], [], false⟩,
  ⟨.prop "Pair" "dirty", "dirty", "Pair.dirty", s_Pair_dirty, [], [], false⟩,
  ⟨.prop "Pair" "requests", "requests", "Pair.requests", s_Pair_requests, [], [], false⟩,
  ⟨.prop "Pair" "rules", "rules", "Pair.rules", s_Pair_rules, [], [], false⟩,
  ⟨.prop "Pair" "counts", "counts", "Pair.counts", s_Pair_counts, [], [], false⟩,
  ⟨.prop "Pair" "pending", "pending", "Pair.pending", s_Pair_pending, [], [], false⟩,
  ⟨.prop "Pair" "is_on", "is_on", "Pair.is_on", s_Pair_is_on, [], [], false⟩,
  ⟨.meth "Pair" "_check_on", "_check_on", "Pair._check_on", s_Pair__check_on, [], [], false⟩,
  ⟨.meth "Pair" "_check_block", "_check_block", "Pair._check_block", s_Pair__check_block, [], [], false⟩,
  ⟨.meth "Pair" "_begin_request", "_begin_request", "Pair._begin_request", s_Pair__begin_request, [], [], false⟩,
  ⟨.meth "Pair" "_take_slot", "_take_slot", "Pair._take_slot", s_Pair__take_slot, [], [], false⟩,
  ⟨.meth "Pair" "_choose_slots", "_choose_slots", "Pair._choose_slots", s_Pair__choose_slots, [], [], false⟩,
  ⟨.meth "Pair" "_recipe_for_writing", "_recipe_for_writing", "Pair._recipe_for_writing", s_Pair__recipe_for_writing, [], [], false⟩,
  ⟨.meth "Pair" "_carry_out", "_carry_out", "Pair._carry_out", s_Pair__carry_out, [], [], false⟩,
  ⟨.meth "Pair" "_clean_least_turns", "_clean_least_turns", "Pair._clean_least_turns", s_Pair__clean_least_turns, [], [], false⟩,
  ⟨.meth "Pair" "_clean_slot", "_clean_slot", "Pair._clean_slot", s_Pair__clean_slot, [], [], false⟩,
  ⟨.meth "Pair" "_begin_step", "_begin_step", "Pair._begin_step", s_Pair__begin_step, [], [], false⟩]
def hxd3 : List Hx.Df := [⟨.meth "Pair" "_write_slow", "_write_slow", "Pair._write_slow", s_Pair__write_slow, [], [], false⟩,
  ⟨.meth "Pair" "_sync_slow", "_sync_slow", "Pair._sync_slow", s_Pair__sync_slow, [], [], false⟩,
  ⟨.meth "Pair" "_write_fast", "_write_fast", "Pair._write_fast", s_Pair__write_fast, [], [], false⟩,
  ⟨.meth "Pair" "_write_record", "_write_record", "Pair._write_record", s_Pair__write_record, [], [], false⟩,
  ⟨.meth "Pair" "_sync_fast", "_sync_fast", "Pair._sync_fast", s_Pair__sync_fast, [], [], false⟩,
  ⟨.meth "Pair" "_turn_off", "_turn_off", "Pair._turn_off", s_Pair__turn_off, [], [], false⟩,
  ⟨.meth "Pair" "_put_in_fast", "_put_in_fast", "Pair._put_in_fast", s_Pair__put_in_fast, [], [], false⟩,
  ⟨.glo "_law_random", "_law_random", "_law_random", s__law_random, [], [], false⟩,
  ⟨.glo "_law_below", "_law_below", "_law_below", s__law_below, [], [], false⟩,
  ⟨.glo "_law_rules", "_law_rules", "_law_rules", s__law_rules, [], [], false⟩,
  ⟨.glo "_law_pair", "_law_pair", "_law_pair", s__law_pair, [], [], false⟩,
  ⟨.glo "_law_safe", "_law_safe", "_law_safe", s__law_safe, [], [], false⟩,
  ⟨.glo "_law_do", "_law_do", "_law_do", s__law_do, [], [], false⟩,
  ⟨.glo "_law_request", "_law_request", "_law_request", s__law_request, [], [], false⟩,
  ⟨.glo "_law_power_of", "_law_power_of", "_law_power_of", s__law_power_of, [], [], false⟩,
  ⟨.meth "PowerFailed" "__init__", "__init__", "PowerFailed.__init__", s_PowerFailed___init__, [], [], true⟩,
  ⟨.glo "law", "law", "law", s_law, [], [], false⟩]
def hdefs : List Hx.Df := hxd0 ++ hxd1 ++ hxd2 ++ hxd3
def hfile : PySem.Str := PySem.Challenge.pw_keepbefore_k50_whole_failures_beyond_the.main.file
def hxf0 (K : Frag) : List Bool := [(He.Fa.glo "Disk").ok K,
  (He.Fa.cls "Disk").ok K,
  (He.Fa.noat "Disk" "_contents").ok K,
  (He.Fa.noat "Disk" "_lasting").ok K,
  (He.Fa.noat "Disk" "_pending").ok K,
  (He.Fa.noat "Disk" "_reads").ok K,
  (He.Fa.noat "Disk" "_writes").ok K,
  (He.Fa.noat "Disk" "_syncs").ok K,
  (He.Fa.glo "KnownSlot").ok K,
  (He.Fa.cls "KnownSlot").ok K,
  (He.Fa.noat "KnownSlot" "record").ok K,
  (He.Fa.noat "KnownSlot" "came").ok K,
  (He.Fa.noat "KnownSlot" "used").ok K,
  (He.Fa.noat "KnownSlot" "uses").ok K,
  (He.Fa.glo "Memory").ok K,
  (He.Fa.cls "Memory").ok K,
  (He.Fa.noat "Memory" "_slots").ok K,
  (He.Fa.noat "Memory" "_known").ok K,
  (He.Fa.glo "Rules").ok K,
  (He.Fa.cls "Rules").ok K,
  (He.Fa.noat "Rules" "_writing").ok K,
  (He.Fa.noat "Rules" "_reading").ok K,
  (He.Fa.noat "Rules" "_choice").ok K,
  (He.Fa.noat "Rules" "_bound").ok K,
  (He.Fa.glo "Recipes").ok K,
  (He.Fa.cls "Recipes").ok K,
  (He.Fa.noat "Recipes" "_through").ok K,
  (He.Fa.noat "Recipes" "_back").ok K,
  (He.Fa.noat "Recipes" "_around").ok K,
  (He.Fa.noat "Recipes" "_clean").ok K,
  (He.Fa.glo "Pair").ok K,
  (He.Fa.cls "Pair").ok K,
  (He.Fa.noat "Pair" "_blocks").ok K,
  (He.Fa.noat "Pair" "_rules").ok K,
  (He.Fa.noat "Pair" "_recipes").ok K,
  (He.Fa.noat "Pair" "_slow").ok K,
  (He.Fa.noat "Pair" "_fast").ok K,
  (He.Fa.noat "Pair" "_memory").ok K,
  (He.Fa.noat "Pair" "_counts_of_dead").ok K,
  (He.Fa.noat "Pair" "_requests").ok K]
def hxf1 (K : Frag) : List Bool := [(He.Fa.noat "Pair" "_hits").ok K,
  (He.Fa.noat "Pair" "_next_turn").ok K,
  (He.Fa.noat "Pair" "_steps_left").ok K,
  (He.Fa.noat "Pair" "_is_on").ok K,
  (He.Fa.noat "Pair" "_is_done").ok K,
  (He.Fa.glo "is_number").ok K,
  (He.Fa.glo "is_number_from").ok K,
  (He.Fa.glo "check_blocks").ok K,
  (He.Fa.glo "check_slots").ok K,
  (He.Fa.mkr "Disk").ok K,
  (He.Fa.meth "Disk" "read").ok K,
  (He.Fa.meth "Disk" "write").ok K,
  (He.Fa.meth "Disk" "sync").ok K,
  (He.Fa.meth "Disk" "fail").ok K,
  decide (PySem.W.findIn K (.ref (He.ga K "Disk")) "pending" = some (some (.ref (He.ma K (He.ga K "Disk") "pending")))),
  decide (PySem.W.specialIn K (.ref (He.ma K (He.ga K "Disk") "pending")) "__get__" = some (some (.builtin "property.__get__"))),
  decide (PySem.W.takesIn K (.ref (He.ma K (He.ga K "Disk") "pending")) = some true),
  Hx.isRec K (He.ma K (He.ga K "Disk") "pending") "property",
  decide (PySem.W.findIn K (.ref (He.ga K "Disk")) "counts" = some (some (.ref (He.ma K (He.ga K "Disk") "counts")))),
  decide (PySem.W.specialIn K (.ref (He.ma K (He.ga K "Disk") "counts")) "__get__" = some (some (.builtin "property.__get__"))),
  decide (PySem.W.takesIn K (.ref (He.ma K (He.ga K "Disk") "counts")) = some true),
  Hx.isRec K (He.ma K (He.ga K "Disk") "counts") "property",
  (He.Fa.meth "Disk" "_check_cell").ok K,
  (He.Fa.glo "are_kept").ok K,
  (He.Fa.glo "cleaned").ok K,
  (He.Fa.mkr "KnownSlot").ok K,
  (He.Fa.mkr "Memory").ok K,
  (He.Fa.meth "Memory" "records").ok K,
  (He.Fa.meth "Memory" "slot_of").ok K,
  (He.Fa.meth "Memory" "record_in").ok K,
  (He.Fa.meth "Memory" "use").ok K,
  (He.Fa.meth "Memory" "learn").ok K,
  (He.Fa.meth "Memory" "learn_clean").ok K,
  (He.Fa.meth "Memory" "forget").ok K,
  (He.Fa.meth "Memory" "dirty_slots").ok K,
  (He.Fa.meth "Memory" "slot_to_take").ok K,
  (He.Fa.glo "_rank").ok K,
  (He.Fa.mkr "Rules").ok K,
  decide (PySem.W.findIn K (.ref (He.ga K "Rules")) "writing" = some (some (.ref (He.ma K (He.ga K "Rules") "writing")))),
  decide (PySem.W.specialIn K (.ref (He.ma K (He.ga K "Rules") "writing")) "__get__" = some (some (.builtin "property.__get__")))]
def hxf2 (K : Frag) : List Bool := [decide (PySem.W.takesIn K (.ref (He.ma K (He.ga K "Rules") "writing")) = some true),
  Hx.isRec K (He.ma K (He.ga K "Rules") "writing") "property",
  decide (PySem.W.findIn K (.ref (He.ga K "Rules")) "reading" = some (some (.ref (He.ma K (He.ga K "Rules") "reading")))),
  decide (PySem.W.specialIn K (.ref (He.ma K (He.ga K "Rules") "reading")) "__get__" = some (some (.builtin "property.__get__"))),
  decide (PySem.W.takesIn K (.ref (He.ma K (He.ga K "Rules") "reading")) = some true),
  Hx.isRec K (He.ma K (He.ga K "Rules") "reading") "property",
  decide (PySem.W.findIn K (.ref (He.ga K "Rules")) "choice" = some (some (.ref (He.ma K (He.ga K "Rules") "choice")))),
  decide (PySem.W.specialIn K (.ref (He.ma K (He.ga K "Rules") "choice")) "__get__" = some (some (.builtin "property.__get__"))),
  decide (PySem.W.takesIn K (.ref (He.ma K (He.ga K "Rules") "choice")) = some true),
  Hx.isRec K (He.ma K (He.ga K "Rules") "choice") "property",
  decide (PySem.W.findIn K (.ref (He.ga K "Rules")) "bound" = some (some (.ref (He.ma K (He.ga K "Rules") "bound")))),
  decide (PySem.W.specialIn K (.ref (He.ma K (He.ga K "Rules") "bound")) "__get__" = some (some (.builtin "property.__get__"))),
  decide (PySem.W.takesIn K (.ref (He.ma K (He.ga K "Rules") "bound")) = some true),
  Hx.isRec K (He.ma K (He.ga K "Rules") "bound") "property",
  (He.Fa.mkr "Recipes").ok K,
  Hx.isCl K (He.ga K "Recipes") "safe",
  Hx.isRec K (Hx.clAd K (He.ga K "Recipes") "safe") "classmethod",
  PySem.W.fnIn K (Hx.At.ad K (.clsm "Recipes" "safe")),
  PySem.W.readsIn K (He.ga K "Recipes") (.type "type"),
  decide (PySem.W.specialIn K (.ref (He.ga K "Recipes")) "__getattribute__" = some (some (.builtin "type.__getattribute__"))),
  decide (PySem.W.findIn K (.ref (He.ga K "Recipes")) "through" = some (some (.ref (He.ma K (He.ga K "Recipes") "through")))),
  decide (PySem.W.specialIn K (.ref (He.ma K (He.ga K "Recipes") "through")) "__get__" = some (some (.builtin "property.__get__"))),
  decide (PySem.W.takesIn K (.ref (He.ma K (He.ga K "Recipes") "through")) = some true),
  Hx.isRec K (He.ma K (He.ga K "Recipes") "through") "property",
  decide (PySem.W.findIn K (.ref (He.ga K "Recipes")) "back" = some (some (.ref (He.ma K (He.ga K "Recipes") "back")))),
  decide (PySem.W.specialIn K (.ref (He.ma K (He.ga K "Recipes") "back")) "__get__" = some (some (.builtin "property.__get__"))),
  decide (PySem.W.takesIn K (.ref (He.ma K (He.ga K "Recipes") "back")) = some true),
  Hx.isRec K (He.ma K (He.ga K "Recipes") "back") "property",
  decide (PySem.W.findIn K (.ref (He.ga K "Recipes")) "around" = some (some (.ref (He.ma K (He.ga K "Recipes") "around")))),
  decide (PySem.W.specialIn K (.ref (He.ma K (He.ga K "Recipes") "around")) "__get__" = some (some (.builtin "property.__get__"))),
  decide (PySem.W.takesIn K (.ref (He.ma K (He.ga K "Recipes") "around")) = some true),
  Hx.isRec K (He.ma K (He.ga K "Recipes") "around") "property",
  decide (PySem.W.findIn K (.ref (He.ga K "Recipes")) "clean" = some (some (.ref (He.ma K (He.ga K "Recipes") "clean")))),
  decide (PySem.W.specialIn K (.ref (He.ma K (He.ga K "Recipes") "clean")) "__get__" = some (some (.builtin "property.__get__"))),
  decide (PySem.W.takesIn K (.ref (He.ma K (He.ga K "Recipes") "clean")) = some true),
  Hx.isRec K (He.ma K (He.ga K "Recipes") "clean") "property",
  (He.Fa.glo "_invalid_place").ok K,
  (He.Fa.mkr "Pair").ok K,
  (He.Fa.meth "Pair" "read").ok K,
  (He.Fa.meth "Pair" "write").ok K]
def hxf3 (K : Frag) : List Bool := [(He.Fa.meth "Pair" "forget").ok K,
  (He.Fa.meth "Pair" "fail_at").ok K,
  decide (PySem.W.findIn K (.ref (He.ga K "Pair")) "known" = some (some (.ref (He.ma K (He.ga K "Pair") "known")))),
  decide (PySem.W.specialIn K (.ref (He.ma K (He.ga K "Pair") "known")) "__get__" = some (some (.builtin "property.__get__"))),
  decide (PySem.W.takesIn K (.ref (He.ma K (He.ga K "Pair") "known")) = some true),
  Hx.isRec K (He.ma K (He.ga K "Pair") "known") "property",
  decide (PySem.W.findIn K (.ref (He.ga K "Pair")) "dirty" = some (some (.ref (He.ma K (He.ga K "Pair") "dirty")))),
  decide (PySem.W.specialIn K (.ref (He.ma K (He.ga K "Pair") "dirty")) "__get__" = some (some (.builtin "property.__get__"))),
  decide (PySem.W.takesIn K (.ref (He.ma K (He.ga K "Pair") "dirty")) = some true),
  Hx.isRec K (He.ma K (He.ga K "Pair") "dirty") "property",
  decide (PySem.W.findIn K (.ref (He.ga K "Pair")) "requests" = some (some (.ref (He.ma K (He.ga K "Pair") "requests")))),
  decide (PySem.W.specialIn K (.ref (He.ma K (He.ga K "Pair") "requests")) "__get__" = some (some (.builtin "property.__get__"))),
  decide (PySem.W.takesIn K (.ref (He.ma K (He.ga K "Pair") "requests")) = some true),
  Hx.isRec K (He.ma K (He.ga K "Pair") "requests") "property",
  decide (PySem.W.findIn K (.ref (He.ga K "Pair")) "rules" = some (some (.ref (He.ma K (He.ga K "Pair") "rules")))),
  decide (PySem.W.specialIn K (.ref (He.ma K (He.ga K "Pair") "rules")) "__get__" = some (some (.builtin "property.__get__"))),
  decide (PySem.W.takesIn K (.ref (He.ma K (He.ga K "Pair") "rules")) = some true),
  Hx.isRec K (He.ma K (He.ga K "Pair") "rules") "property",
  decide (PySem.W.findIn K (.ref (He.ga K "Pair")) "counts" = some (some (.ref (He.ma K (He.ga K "Pair") "counts")))),
  decide (PySem.W.specialIn K (.ref (He.ma K (He.ga K "Pair") "counts")) "__get__" = some (some (.builtin "property.__get__"))),
  decide (PySem.W.takesIn K (.ref (He.ma K (He.ga K "Pair") "counts")) = some true),
  Hx.isRec K (He.ma K (He.ga K "Pair") "counts") "property",
  decide (PySem.W.findIn K (.ref (He.ga K "Pair")) "pending" = some (some (.ref (He.ma K (He.ga K "Pair") "pending")))),
  decide (PySem.W.specialIn K (.ref (He.ma K (He.ga K "Pair") "pending")) "__get__" = some (some (.builtin "property.__get__"))),
  decide (PySem.W.takesIn K (.ref (He.ma K (He.ga K "Pair") "pending")) = some true),
  Hx.isRec K (He.ma K (He.ga K "Pair") "pending") "property",
  decide (PySem.W.findIn K (.ref (He.ga K "Pair")) "is_on" = some (some (.ref (He.ma K (He.ga K "Pair") "is_on")))),
  decide (PySem.W.specialIn K (.ref (He.ma K (He.ga K "Pair") "is_on")) "__get__" = some (some (.builtin "property.__get__"))),
  decide (PySem.W.takesIn K (.ref (He.ma K (He.ga K "Pair") "is_on")) = some true),
  Hx.isRec K (He.ma K (He.ga K "Pair") "is_on") "property",
  (He.Fa.meth "Pair" "_check_on").ok K,
  (He.Fa.meth "Pair" "_check_block").ok K,
  (He.Fa.meth "Pair" "_begin_request").ok K,
  (He.Fa.meth "Pair" "_take_slot").ok K,
  (He.Fa.meth "Pair" "_choose_slots").ok K,
  (He.Fa.meth "Pair" "_recipe_for_writing").ok K,
  (He.Fa.meth "Pair" "_carry_out").ok K,
  (He.Fa.meth "Pair" "_clean_least_turns").ok K,
  (He.Fa.meth "Pair" "_clean_slot").ok K,
  (He.Fa.meth "Pair" "_begin_step").ok K]
def hxf4 (K : Frag) : List Bool := [(He.Fa.meth "Pair" "_write_slow").ok K,
  (He.Fa.meth "Pair" "_sync_slow").ok K,
  (He.Fa.meth "Pair" "_write_fast").ok K,
  (He.Fa.meth "Pair" "_write_record").ok K,
  (He.Fa.meth "Pair" "_sync_fast").ok K,
  (He.Fa.meth "Pair" "_turn_off").ok K,
  (He.Fa.meth "Pair" "_put_in_fast").ok K,
  (He.Fa.glo "_law_random").ok K,
  (He.Fa.glo "_law_below").ok K,
  (He.Fa.glo "_law_rules").ok K,
  (He.Fa.glo "_law_pair").ok K,
  (He.Fa.glo "_law_safe").ok K,
  (He.Fa.glo "_law_do").ok K,
  (He.Fa.glo "_law_request").ok K,
  (He.Fa.glo "_law_power_of").ok K,
  (He.Fa.free "isinstance").ok K,
  (He.Fa.free "int").ok K,
  (He.Fa.free "bool").ok K,
  (He.Fa.free "str").ok K,
  (He.Fa.free "list").ok K,
  (He.Fa.free "tuple").ok K,
  (He.Fa.free "len").ok K,
  (He.Fa.free "abs").ok K,
  (He.Fa.free "range").ok K,
  (He.Fa.free "enumerate").ok K,
  (He.Fa.free "max").ok K,
  (He.Fa.free "min").ok K,
  (He.Fa.free "sorted").ok K,
  (He.Fa.free "zip").ok K,
  (He.Fa.free "sum").ok K,
  (He.Fa.free "all").ok K,
  (He.Fa.free "super").ok K,
  (He.Fa.free "ValueError").ok K,
  (He.Fa.int "MOST_BLOCKS" (16)).ok K,
  (He.Fa.int "MOST_SLOTS" (8)).ok K,
  (He.Fa.int "MOST_VALUE" (999)).ok K,
  (He.Fa.int "MOST_CELLS" (64)).ok K,
  (He.Fa.int "BLOCK" (0)).ok K,
  (He.Fa.int "VALUE" (1)).ok K,
  (He.Fa.int "TURN" (2)).ok K]
def hxf5 (K : Frag) : List Bool := [(He.Fa.int "IS_DIRTY" (3)).ok K,
  (He.Fa.int "MOST_USES" (9)).ok K,
  (He.Fa.int "BOUND_PART" (3)).ok K,
  (He.Fa.int "MOST_BOUND" (8)).ok K,
  (He.Fa.int "MOST_STEPS" (8)).ok K,
  (He.Fa.int "MOST_STEPS_AHEAD" (999)).ok K,
  Hx.isTup K (Hx.itAd K (He.ga K "RULE_WORDS") 0) [.str "through", .str "back", .str "around"],
  Hx.isTup K (Hx.itAd K (He.ga K "RULE_WORDS") 1) [.str "keep", .str "pass"],
  Hx.isTup K (Hx.itAd K (He.ga K "RULE_WORDS") 2) [.str "used", .str "came", .str "rare"],
  Hx.isTup K (He.ga K "RULE_WORDS") [.ref (Hx.itAd K (He.ga K "RULE_WORDS") 0), .ref (Hx.itAd K (He.ga K "RULE_WORDS") 1), .ref (Hx.itAd K (He.ga K "RULE_WORDS") 2)],
  (He.Fa.glo "RULE_WORDS").ok K,
  Hx.isTup K (He.ga K "WRITE_STEPS") [.str "slow", .str "sync slow", .str "fast", .str "sync fast", .str "free", .str "done"],
  (He.Fa.glo "WRITE_STEPS").ok K,
  Hx.isTup K (He.ga K "CLEAN_STEPS") [.str "slow", .str "sync slow", .str "mark", .str "sync fast"],
  (He.Fa.glo "CLEAN_STEPS").ok K,
  Hx.isTup K (He.ga K "SYNC_STEPS") [.str "sync slow", .str "sync fast"],
  (He.Fa.glo "SYNC_STEPS").ok K,
  Hx.isTup K (He.ga K "NO_COUNTS") [.int 0, .int 0, .int 0],
  (He.Fa.glo "NO_COUNTS").ok K,
  decide (PySem.W.nsIn K cStatics "thirdparty.any" = some none),
  (He.Fa.glo "PowerFailed").ok K,
  PySem.W.isClsIn K (He.ga K "PowerFailed"),
  decide (PySem.W.typeIn K (.ref (He.ga K "PowerFailed")) = some (.type "type")),
  (He.Fa.glo "PowerOff").ok K,
  PySem.W.isClsIn K (He.ga K "PowerOff"),
  decide (PySem.W.typeIn K (.ref (He.ga K "PowerOff")) = some (.type "type")),
  (He.Fa.glo "InvalidBlock").ok K,
  PySem.W.isClsIn K (He.ga K "InvalidBlock"),
  decide (PySem.W.typeIn K (.ref (He.ga K "InvalidBlock")) = some (.type "type")),
  (He.Fa.glo "InvalidValue").ok K,
  PySem.W.isClsIn K (He.ga K "InvalidValue"),
  decide (PySem.W.typeIn K (.ref (He.ga K "InvalidValue")) = some (.type "type")),
  (He.Fa.glo "InvalidCount").ok K,
  PySem.W.isClsIn K (He.ga K "InvalidCount"),
  decide (PySem.W.typeIn K (.ref (He.ga K "InvalidCount")) = some (.type "type")),
  (He.Fa.glo "InvalidKept").ok K,
  PySem.W.isClsIn K (He.ga K "InvalidKept"),
  decide (PySem.W.typeIn K (.ref (He.ga K "InvalidKept")) = some (.type "type")),
  (He.Fa.glo "InvalidSize").ok K,
  PySem.W.isClsIn K (He.ga K "InvalidSize")]
def hxf6 (K : Frag) : List Bool := [decide (PySem.W.typeIn K (.ref (He.ga K "InvalidSize")) = some (.type "type")),
  (He.Fa.glo "PairError").ok K,
  PySem.W.isClsIn K (He.ga K "PairError"),
  decide (PySem.W.typeIn K (.ref (He.ga K "PairError")) = some (.type "type")),
  decide (PySem.W.subIn K (.ref (He.ga K "PairError")) (.type "BaseException") = some true),
  PySem.W.hasDictIn K (He.ga K "PairError"),
  decide (PySem.W.subIn K (.ref (He.ga K "PowerFailed")) (.ref (He.ga K "PowerFailed")) = some true),
  decide (PySem.W.subIn K (.ref (He.ga K "PowerFailed")) (.ref (He.ga K "PowerOff")) = some false),
  decide (PySem.W.subIn K (.ref (He.ga K "PowerFailed")) (.ref (He.ga K "InvalidBlock")) = some false),
  decide (PySem.W.subIn K (.ref (He.ga K "PowerFailed")) (.ref (He.ga K "InvalidValue")) = some false),
  decide (PySem.W.subIn K (.ref (He.ga K "PowerFailed")) (.ref (He.ga K "InvalidCount")) = some false),
  decide (PySem.W.subIn K (.ref (He.ga K "PowerFailed")) (.ref (He.ga K "InvalidKept")) = some false),
  decide (PySem.W.subIn K (.ref (He.ga K "PowerFailed")) (.ref (He.ga K "InvalidSize")) = some false),
  decide (PySem.W.subIn K (.ref (He.ga K "PowerFailed")) (.ref (He.ga K "PairError")) = some true),
  decide (PySem.W.subIn K (.ref (He.ga K "PowerFailed")) (.type "ValueError") = some true),
  decide (PySem.W.findIn K (.ref (He.ga K "PowerFailed")) "__getattribute__" = some (some (.builtin "BaseException.__getattribute__"))),
  decide (PySem.W.findIn K (.ref (He.ga K "PowerFailed")) "__getattr__" = some none),
  decide (PySem.W.subIn K (.ref (He.ga K "PowerFailed")) (.type "BaseException") = some true),
  PySem.W.hasDictIn K (He.ga K "PowerFailed"),
  decide (PySem.W.findIn K (.ref (He.ga K "PowerFailed")) "__class__" = some (some (.builtin "object.__class__"))),
  decide (PySem.W.specialIn K (.builtin "object.__class__") "__get__" = some (some (.builtin "getset_descriptor.__get__"))),
  decide (PySem.W.takesIn K (.builtin "object.__class__") = some true),
  decide (PySem.W.mroIn K (He.ga K "PowerFailed") (.type "object") = some true),
  PySem.W.keepIn K (.ref (He.ga K "PowerFailed")),
  Hx.isInit K (Hx.At.ad K (.meth "PowerFailed" "__init__")) (He.ga K "PowerFailed") hfile,
  Hx.isExc K (He.ga K "PowerFailed"),
  decide (PySem.W.findIn K (.ref (He.ga K "PowerFailed")) "__setattr__" = some (some (.builtin "object.__setattr__"))),
  decide (PySem.W.subIn K (.ref (He.ga K "PowerFailed")) (.type "BaseException") = some true),
  decide (PySem.W.typeIn K (.ref (He.ga K "PowerFailed")) = some (.type "type")),
  PySem.W.keepIn K (.ref (He.ga K "PowerFailed")),
  decide (PySem.W.findIn K (.ref (He.ga K "PowerFailed")) "__init__" = some (some (.ref (Hx.At.ad K (.meth "PowerFailed" "__init__"))))),
  decide (PySem.W.typeIn K (.ref (Hx.At.ad K (.meth "PowerFailed" "__init__"))) = some (.type "function")),
  decide (PySem.W.mroIn K (He.ga K "PowerFailed") (.ref (He.ga K "PowerFailed")) = some true),
  decide (PySem.W.ks_superIn K (He.ga K "PowerFailed") (He.ga K "PowerFailed") "__init__" = some (some (.builtin "ValueError.__init__"))),
  decide (PySem.W.findIn K (.ref (He.ga K "PowerFailed")) "is_done" = some none),
  decide (PySem.W.subIn K (.ref (He.ga K "PowerOff")) (.ref (He.ga K "PowerFailed")) = some false),
  decide (PySem.W.subIn K (.ref (He.ga K "PowerOff")) (.ref (He.ga K "PowerOff")) = some true),
  decide (PySem.W.subIn K (.ref (He.ga K "PowerOff")) (.ref (He.ga K "InvalidBlock")) = some false),
  decide (PySem.W.subIn K (.ref (He.ga K "PowerOff")) (.ref (He.ga K "InvalidValue")) = some false),
  decide (PySem.W.subIn K (.ref (He.ga K "PowerOff")) (.ref (He.ga K "InvalidCount")) = some false)]
def hxf7 (K : Frag) : List Bool := [decide (PySem.W.subIn K (.ref (He.ga K "PowerOff")) (.ref (He.ga K "InvalidKept")) = some false),
  decide (PySem.W.subIn K (.ref (He.ga K "PowerOff")) (.ref (He.ga K "InvalidSize")) = some false),
  decide (PySem.W.subIn K (.ref (He.ga K "PowerOff")) (.ref (He.ga K "PairError")) = some true),
  decide (PySem.W.subIn K (.ref (He.ga K "PowerOff")) (.type "ValueError") = some true),
  decide (PySem.W.findIn K (.ref (He.ga K "PowerOff")) "__getattribute__" = some (some (.builtin "BaseException.__getattribute__"))),
  decide (PySem.W.findIn K (.ref (He.ga K "PowerOff")) "__getattr__" = some none),
  decide (PySem.W.subIn K (.ref (He.ga K "PowerOff")) (.type "BaseException") = some true),
  PySem.W.hasDictIn K (He.ga K "PowerOff"),
  decide (PySem.W.findIn K (.ref (He.ga K "PowerOff")) "__class__" = some (some (.builtin "object.__class__"))),
  decide (PySem.W.specialIn K (.builtin "object.__class__") "__get__" = some (some (.builtin "getset_descriptor.__get__"))),
  decide (PySem.W.takesIn K (.builtin "object.__class__") = some true),
  decide (PySem.W.mroIn K (He.ga K "PowerOff") (.type "object") = some true),
  PySem.W.keepIn K (.ref (He.ga K "PowerOff")),
  PySem.W.excIn K (He.ga K "PowerOff") PySem.HandSPX.veTail "ValueError.__new__",
  decide (PySem.W.subIn K (.ref (He.ga K "InvalidBlock")) (.ref (He.ga K "PowerFailed")) = some false),
  decide (PySem.W.subIn K (.ref (He.ga K "InvalidBlock")) (.ref (He.ga K "PowerOff")) = some false),
  decide (PySem.W.subIn K (.ref (He.ga K "InvalidBlock")) (.ref (He.ga K "InvalidBlock")) = some true),
  decide (PySem.W.subIn K (.ref (He.ga K "InvalidBlock")) (.ref (He.ga K "InvalidValue")) = some false),
  decide (PySem.W.subIn K (.ref (He.ga K "InvalidBlock")) (.ref (He.ga K "InvalidCount")) = some false),
  decide (PySem.W.subIn K (.ref (He.ga K "InvalidBlock")) (.ref (He.ga K "InvalidKept")) = some false),
  decide (PySem.W.subIn K (.ref (He.ga K "InvalidBlock")) (.ref (He.ga K "InvalidSize")) = some false),
  decide (PySem.W.subIn K (.ref (He.ga K "InvalidBlock")) (.ref (He.ga K "PairError")) = some true),
  decide (PySem.W.subIn K (.ref (He.ga K "InvalidBlock")) (.type "ValueError") = some true),
  decide (PySem.W.findIn K (.ref (He.ga K "InvalidBlock")) "__getattribute__" = some (some (.builtin "BaseException.__getattribute__"))),
  decide (PySem.W.findIn K (.ref (He.ga K "InvalidBlock")) "__getattr__" = some none),
  decide (PySem.W.subIn K (.ref (He.ga K "InvalidBlock")) (.type "BaseException") = some true),
  PySem.W.hasDictIn K (He.ga K "InvalidBlock"),
  decide (PySem.W.findIn K (.ref (He.ga K "InvalidBlock")) "__class__" = some (some (.builtin "object.__class__"))),
  decide (PySem.W.specialIn K (.builtin "object.__class__") "__get__" = some (some (.builtin "getset_descriptor.__get__"))),
  decide (PySem.W.takesIn K (.builtin "object.__class__") = some true),
  decide (PySem.W.mroIn K (He.ga K "InvalidBlock") (.type "object") = some true),
  PySem.W.keepIn K (.ref (He.ga K "InvalidBlock")),
  PySem.W.excIn K (He.ga K "InvalidBlock") PySem.HandSPX.veTail "ValueError.__new__",
  decide (PySem.W.subIn K (.ref (He.ga K "InvalidValue")) (.ref (He.ga K "PowerFailed")) = some false),
  decide (PySem.W.subIn K (.ref (He.ga K "InvalidValue")) (.ref (He.ga K "PowerOff")) = some false),
  decide (PySem.W.subIn K (.ref (He.ga K "InvalidValue")) (.ref (He.ga K "InvalidBlock")) = some false),
  decide (PySem.W.subIn K (.ref (He.ga K "InvalidValue")) (.ref (He.ga K "InvalidValue")) = some true),
  decide (PySem.W.subIn K (.ref (He.ga K "InvalidValue")) (.ref (He.ga K "InvalidCount")) = some false),
  decide (PySem.W.subIn K (.ref (He.ga K "InvalidValue")) (.ref (He.ga K "InvalidKept")) = some false),
  decide (PySem.W.subIn K (.ref (He.ga K "InvalidValue")) (.ref (He.ga K "InvalidSize")) = some false)]
def hxf8 (K : Frag) : List Bool := [decide (PySem.W.subIn K (.ref (He.ga K "InvalidValue")) (.ref (He.ga K "PairError")) = some true),
  decide (PySem.W.subIn K (.ref (He.ga K "InvalidValue")) (.type "ValueError") = some true),
  decide (PySem.W.findIn K (.ref (He.ga K "InvalidValue")) "__getattribute__" = some (some (.builtin "BaseException.__getattribute__"))),
  decide (PySem.W.findIn K (.ref (He.ga K "InvalidValue")) "__getattr__" = some none),
  decide (PySem.W.subIn K (.ref (He.ga K "InvalidValue")) (.type "BaseException") = some true),
  PySem.W.hasDictIn K (He.ga K "InvalidValue"),
  decide (PySem.W.findIn K (.ref (He.ga K "InvalidValue")) "__class__" = some (some (.builtin "object.__class__"))),
  decide (PySem.W.specialIn K (.builtin "object.__class__") "__get__" = some (some (.builtin "getset_descriptor.__get__"))),
  decide (PySem.W.takesIn K (.builtin "object.__class__") = some true),
  decide (PySem.W.mroIn K (He.ga K "InvalidValue") (.type "object") = some true),
  PySem.W.keepIn K (.ref (He.ga K "InvalidValue")),
  PySem.W.excIn K (He.ga K "InvalidValue") PySem.HandSPX.veTail "ValueError.__new__",
  decide (PySem.W.subIn K (.ref (He.ga K "InvalidCount")) (.ref (He.ga K "PowerFailed")) = some false),
  decide (PySem.W.subIn K (.ref (He.ga K "InvalidCount")) (.ref (He.ga K "PowerOff")) = some false),
  decide (PySem.W.subIn K (.ref (He.ga K "InvalidCount")) (.ref (He.ga K "InvalidBlock")) = some false),
  decide (PySem.W.subIn K (.ref (He.ga K "InvalidCount")) (.ref (He.ga K "InvalidValue")) = some false),
  decide (PySem.W.subIn K (.ref (He.ga K "InvalidCount")) (.ref (He.ga K "InvalidCount")) = some true),
  decide (PySem.W.subIn K (.ref (He.ga K "InvalidCount")) (.ref (He.ga K "InvalidKept")) = some false),
  decide (PySem.W.subIn K (.ref (He.ga K "InvalidCount")) (.ref (He.ga K "InvalidSize")) = some false),
  decide (PySem.W.subIn K (.ref (He.ga K "InvalidCount")) (.ref (He.ga K "PairError")) = some true),
  decide (PySem.W.subIn K (.ref (He.ga K "InvalidCount")) (.type "ValueError") = some true),
  decide (PySem.W.findIn K (.ref (He.ga K "InvalidCount")) "__getattribute__" = some (some (.builtin "BaseException.__getattribute__"))),
  decide (PySem.W.findIn K (.ref (He.ga K "InvalidCount")) "__getattr__" = some none),
  decide (PySem.W.subIn K (.ref (He.ga K "InvalidCount")) (.type "BaseException") = some true),
  PySem.W.hasDictIn K (He.ga K "InvalidCount"),
  decide (PySem.W.findIn K (.ref (He.ga K "InvalidCount")) "__class__" = some (some (.builtin "object.__class__"))),
  decide (PySem.W.specialIn K (.builtin "object.__class__") "__get__" = some (some (.builtin "getset_descriptor.__get__"))),
  decide (PySem.W.takesIn K (.builtin "object.__class__") = some true),
  decide (PySem.W.mroIn K (He.ga K "InvalidCount") (.type "object") = some true),
  PySem.W.keepIn K (.ref (He.ga K "InvalidCount")),
  PySem.W.excIn K (He.ga K "InvalidCount") PySem.HandSPX.veTail "ValueError.__new__",
  decide (PySem.W.subIn K (.ref (He.ga K "InvalidKept")) (.ref (He.ga K "PowerFailed")) = some false),
  decide (PySem.W.subIn K (.ref (He.ga K "InvalidKept")) (.ref (He.ga K "PowerOff")) = some false),
  decide (PySem.W.subIn K (.ref (He.ga K "InvalidKept")) (.ref (He.ga K "InvalidBlock")) = some false),
  decide (PySem.W.subIn K (.ref (He.ga K "InvalidKept")) (.ref (He.ga K "InvalidValue")) = some false),
  decide (PySem.W.subIn K (.ref (He.ga K "InvalidKept")) (.ref (He.ga K "InvalidCount")) = some false),
  decide (PySem.W.subIn K (.ref (He.ga K "InvalidKept")) (.ref (He.ga K "InvalidKept")) = some true),
  decide (PySem.W.subIn K (.ref (He.ga K "InvalidKept")) (.ref (He.ga K "InvalidSize")) = some false),
  decide (PySem.W.subIn K (.ref (He.ga K "InvalidKept")) (.ref (He.ga K "PairError")) = some true),
  decide (PySem.W.subIn K (.ref (He.ga K "InvalidKept")) (.type "ValueError") = some true)]
def hxf9 (K : Frag) : List Bool := [decide (PySem.W.findIn K (.ref (He.ga K "InvalidKept")) "__getattribute__" = some (some (.builtin "BaseException.__getattribute__"))),
  decide (PySem.W.findIn K (.ref (He.ga K "InvalidKept")) "__getattr__" = some none),
  decide (PySem.W.subIn K (.ref (He.ga K "InvalidKept")) (.type "BaseException") = some true),
  PySem.W.hasDictIn K (He.ga K "InvalidKept"),
  decide (PySem.W.findIn K (.ref (He.ga K "InvalidKept")) "__class__" = some (some (.builtin "object.__class__"))),
  decide (PySem.W.specialIn K (.builtin "object.__class__") "__get__" = some (some (.builtin "getset_descriptor.__get__"))),
  decide (PySem.W.takesIn K (.builtin "object.__class__") = some true),
  decide (PySem.W.mroIn K (He.ga K "InvalidKept") (.type "object") = some true),
  PySem.W.keepIn K (.ref (He.ga K "InvalidKept")),
  PySem.W.excIn K (He.ga K "InvalidKept") PySem.HandSPX.veTail "ValueError.__new__",
  decide (PySem.W.subIn K (.ref (He.ga K "InvalidSize")) (.ref (He.ga K "PowerFailed")) = some false),
  decide (PySem.W.subIn K (.ref (He.ga K "InvalidSize")) (.ref (He.ga K "PowerOff")) = some false),
  decide (PySem.W.subIn K (.ref (He.ga K "InvalidSize")) (.ref (He.ga K "InvalidBlock")) = some false),
  decide (PySem.W.subIn K (.ref (He.ga K "InvalidSize")) (.ref (He.ga K "InvalidValue")) = some false),
  decide (PySem.W.subIn K (.ref (He.ga K "InvalidSize")) (.ref (He.ga K "InvalidCount")) = some false),
  decide (PySem.W.subIn K (.ref (He.ga K "InvalidSize")) (.ref (He.ga K "InvalidKept")) = some false),
  decide (PySem.W.subIn K (.ref (He.ga K "InvalidSize")) (.ref (He.ga K "InvalidSize")) = some true),
  decide (PySem.W.subIn K (.ref (He.ga K "InvalidSize")) (.ref (He.ga K "PairError")) = some true),
  decide (PySem.W.subIn K (.ref (He.ga K "InvalidSize")) (.type "ValueError") = some true),
  decide (PySem.W.findIn K (.ref (He.ga K "InvalidSize")) "__getattribute__" = some (some (.builtin "BaseException.__getattribute__"))),
  decide (PySem.W.findIn K (.ref (He.ga K "InvalidSize")) "__getattr__" = some none),
  decide (PySem.W.subIn K (.ref (He.ga K "InvalidSize")) (.type "BaseException") = some true),
  PySem.W.hasDictIn K (He.ga K "InvalidSize"),
  decide (PySem.W.findIn K (.ref (He.ga K "InvalidSize")) "__class__" = some (some (.builtin "object.__class__"))),
  decide (PySem.W.specialIn K (.builtin "object.__class__") "__get__" = some (some (.builtin "getset_descriptor.__get__"))),
  decide (PySem.W.takesIn K (.builtin "object.__class__") = some true),
  decide (PySem.W.mroIn K (He.ga K "InvalidSize") (.type "object") = some true),
  PySem.W.keepIn K (.ref (He.ga K "InvalidSize")),
  PySem.W.excIn K (He.ga K "InvalidSize") PySem.HandSPX.veTail "ValueError.__new__",
  (He.Fa.glo "law").ok K]
def hfacts (K : Frag) : List (List Bool) := [hxf0 K, hxf1 K, hxf2 K, hxf3 K, hxf4 K, hxf5 K, hxf6 K, hxf7 K, hxf8 K, hxf9 K]
abbrev hR : OpenRow := OpenLaw.row PySem.Challenge.rw_keepbefore_k50_whole_failures_beyond_the
def hex (K : Frag) : Bool := (hfacts K).all fun l => l.all id
abbrev htf : List Hx.At := [.glo "law"]
abbrev hk : Hook := Hx.hook 6 hdefs hex htf
theorem hrun (w : World) : HandSHeadRun.RunEq hR (view hR.prog [60]) hk (Hx.ob 6 hdefs hex htf) 40000 hnames w := by
  intro os
  kernel_rfl
end
theorem some_of {H H' : Hp} {S : List Addr} (f : Fr S H H') (hs : ∀ b ∈ S, ∃ o, H' b = some o) {p : Addr} (h : H' p = none) : H p = none := by
  cases e : H p with
  | none => rfl
  | some o =>
    by_cases hp : p ∈ S
    · obtain ⟨o', e'⟩ := hs p hp
      rw [e'] at h
      cases h
    · rw [f p o e hp] at h
      cases h
theorem pe_never {X : Cx} {e : Expr} : PE X e (fun _ _ _ => False) := ⟨fun _ _ _ _ _ _ h => h.elim⟩
theorem iteFb {A B : Prop} {b : Bool} (e : b = false) (h : B) : if b = true then A else B := by
  rw [if_neg (by rw [e]; simp)]
  exact h
theorem iteTb {A B : Prop} {b : Bool} (e : b = true) (h : A) : if b = true then A else B := by
  rw [if_pos e]
  exact h
/-! ### the law's random list -/
def Rnd (H : Hp) (r : Addr) : Prop := ∃ (a b : Int) (ns : List Int), H r = some (.lst (V.int a :: V.int b :: ns.map V.int))
def spBelow : Sp := fun vs H Q _ => ∃ (r : Addr) (lim : Nat), vs = [.ref r, .int (lim : Int)] ∧ Rnd H r ∧ 0 < lim ∧ lim < 1180591620717411303424 ∧ ∀ (z : Nat) (H' : Hp), z < lim → Fr [r] H H' → Rnd H' r → Q (.int (z : Int)) H'
theorem Rnd.put {H : Hp} {r : Addr} (a b : Int) (ns : List Int) : Rnd (upd H r (.lst (V.int a :: V.int b :: ns.map V.int))) r := ⟨a, b, ns, upd_same⟩
theorem Rnd.notup {H : Hp} {r : Addr} (h : Rnd H r) : ∀ b ∈ [r], ∀ xs, H b ≠ some (.tup xs) := by
  obtain ⟨a, b, ns, e⟩ := h
  intro b hb xs
  rw [List.mem_singleton.mp hb, e]
  simp
theorem Rnd.keep {H H' : Hp} {r : Addr} {S : List Addr} (h : Rnd H r) (f : Fr S H H') (n : r ∉ S) : Rnd H' r := by
  obtain ⟨a, b, ns, e⟩ := h
  exact ⟨a, b, ns, f _ _ e n⟩
section
variable {P : Program} {w : World} {K : PySem.W.Frag} {mg : Str → Option Value} {base : Heap}
theorem ok_below (T : Gx K mg) : FnOk P w K mg base CX0 1 T.f__law_below T.fd__law_below ["_law_d", "_law_limit"] spBelow := by
  refine T.F__law_below.ok sc__law_below (fun vs H Q E h => ?_) (fun cdv A outer s H vs Q E hr h => ?_)
  · obtain ⟨r, lim, rfl, _⟩ := h
    rfl
  · obtain ⟨r, lin, rfl, hR, h0', h1', k'⟩ := h
    obtain ⟨lim, hlim⟩ : ∃ lim : Int, lim = (lin : Int) := ⟨_, rfl⟩
    have h0 : 0 < lim := by omega
    have h1 : lim < 1180591620717411303424 := by omega
    have k : ∀ (z : Int) (H' : Hp), 0 ≤ z → z < lim → Fr [r] H H' → Rnd H' r → Q (.int z) H' := fun z H' a b f g => by
      obtain ⟨n, rfl⟩ := Int.eq_ofNat_of_zero_le a
      exact k' n H' (by omega) f g
    rw [← hlim]
    refine ⟨_, C8.pss_cut (ps_if (PW.pt (pw_and (pt_cmpR op_eq (pe_ix ix_list (pv 0) pe_int (fun _ _ => rfl)) pe_int (nomark _))
          (pw_and1 (pt_cmpR op_gt (pe_callB call_len_seq (by rfl) T.z_len PySem.boot_len (pa_cons (pv 0) pa_nil)) pe_int (nomark _)))))
        (pss_one (ps_asg (pe_bm PySem.F.plainAttrs_list PySem.F.slot_list_pop PySem.F.type_list_pop mt_popAt (pv 0) (pa_cons pe_int pa_nil)) (pg_sub (pv 0) pe_int set_list))) pss_nil)
      (pss_cons (ps_if (pt_cmpR op_gt (pe_ix ix_list (pv 0) pe_int (fun _ _ => rfl)) pe_int (nomark _))
        (pss_cons (ps_set (i := 2) sc__law_below.nd rfl (.inl rfl) (pe_op op_mod (pe_callTy call_int1 (by rfl) T.z_int (by decide +kernel) (pa_cons (pe_ix ix_list (pv 0) pe_int (fun _ _ => rfl)) pa_nil)) (pv 1)))
        (pss_cons (ps_asg (pe_op op_fdivW (pe_ix ix_list (pv 0) pe_int (fun _ _ => rfl)) (pv 1)) (pg_sub (pv 0) pe_int set_list))
        (pss_one (ps_ret (pv 2))))) pss_nil)
      (pss_cons (ps_asg (pe_op op_mod (pe_callTy call_int1 (by rfl) T.z_int (by decide +kernel) (pa_cons (pe_op op_add (pe_op op_mul (pe_ix ix_list (pv 0) pe_int (fun _ _ => rfl)) pe_int) pe_int) pa_nil)) pe_int) (pg_sub (pv 0) pe_int set_list))
      (pss_one (ps_ret (pe_op op_mod (pe_callTy call_int1 (by rfl) T.z_int (by decide +kernel) (pa_cons (pe_op op_fdiv (pe_ix ix_list (pv 0) pe_int (fun _ _ => rfl)) pe_int) pa_nil)) (pv 1)))))), ?_⟩
    refine ⟨fun σ H1 => σ = [some (.ref r), some (.int lim), none] ∧ Rnd H1 r ∧ Fr [r] H H1, ?_, ?_⟩
    · obtain ⟨a, b, ns, e⟩ := hR
      have hR0 : Rnd H r := ⟨a, b, ns, e⟩
      refine ⟨_, rfl, r, _, 1, .int b, rfl, rfl, SqL.of e, atI_nat (j := 1) rfl, rfl, _, rfl, ite2 (fun hb => ?_) (fun hb => ?_)⟩
      · refine ⟨_, rfl, r, _, rfl, .inl (SqL.of e), _, _, rfl, rfl, _, rfl, ite2 (fun hl => ?_) (fun hl => ?_)⟩
        · have hl' : (2 : Int) < ((V.int a :: V.int b :: ns.map V.int).length : Int) := of_decide_eq_true hl
          cases ns with
          | nil => exact absurd hl' (by simp)
          | cons c rest =>
            refine ⟨_, rfl, .inl ⟨rfl, _, SqL.of e⟩, r, _, 2, 2, .int c, rfl, rfl, e, by decide, by decide, ?_, rfl, ?_⟩
            · show seqIndex? 2 _ = some 2
              unfold seqIndex?
              rw [List.length_cons, List.length_cons, List.map_cons, List.length_cons]
              simp
              omega
            · refine ⟨_, rfl, r, _, 1, 1, rfl, rfl, upd_same, ?_, rfl, ?_, ?_⟩
              · exact ix_at 1 (by simp [List.length_eraseIdx])
              · rw [upd_upd]
                exact Rnd.put a c rest
              · rw [upd_upd]
                exact Fr.put (List.mem_singleton.mpr rfl)
        · exact ⟨rfl, hR0, Fr.refl _ _⟩
      · exact ⟨rfl, hR0, Fr.refl _ _⟩
    · rintro σ' H1 ⟨rfl, ⟨a, b, ns, e⟩, fr⟩
      refine ⟨_, rfl, r, _, 1, .int b, rfl, rfl, SqL.of e, atI_nat (j := 1) rfl, _, _, rfl, rfl, _, rfl, ite2 (fun hb => ?_) (fun hb => ?_)⟩
      · refine ⟨_, rfl, r, _, 1, .int b, rfl, rfl, SqL.of e, atI_nat (j := 1) rfl, .inl ⟨_, rfl, ?_⟩⟩
        refine ⟨_, rfl, _, _, rfl, rfl, h0, ?_⟩
        refine ⟨_, rfl, r, _, 1, .int b, rfl, rfl, SqL.of e, atI_nat (j := 1) rfl, _, rfl, _, _, rfl, rfl, wide_div (b := 70) h0 (by omega) (by decide) (by decide), ?_⟩
        refine ⟨_, rfl, r, _, 1, 1, rfl, rfl, e, ix_at 1 (by simp), ?_⟩
        refine ⟨_, rfl, k _ _ (Int.emod_nonneg _ (by omega)) (Int.emod_lt_of_pos _ h0) (fr.trans (Fr.put (List.mem_singleton.mpr rfl))) (Rnd.put a _ ns)⟩
      · refine ⟨_, rfl, r, _, 0, .int a, rfl, rfl, SqL.of e, atI_nat (j := 0) rfl, _, _, rfl, rfl, .inr (by decide), _, _, rfl, rfl, .inl ⟨_, rfl, _, _, rfl, rfl, (by show (0 : Int) < 2147483647; decide), ?_⟩⟩
        refine ⟨_, rfl, r, _, 0, 0, rfl, rfl, e, ix_at 0 (by simp), ?_⟩
        refine ⟨_, rfl, r, _, 0, _, rfl, rfl, SqL.of upd_same, atI_nat (j := 0) rfl, _, _, rfl, rfl, ⟨by decide, by decide⟩, .inl ⟨_, rfl, _, rfl, _, _, rfl, rfl, h0, ?_⟩⟩
        exact k _ _ (Int.emod_nonneg _ (by omega)) (Int.emod_lt_of_pos _ h0) (fr.trans (Fr.put (List.mem_singleton.mpr rfl))) (Rnd.put _ b ns)
end
def spRandom (K : PySem.W.Frag) : Sp := fun vs H Q _ => ∃ (a : Addr) (salt : Int) (ns : List Int), vs = [.ref a, .int salt] ∧ SqL K H a (ns.map V.int) ∧ ns.length ≤ 63 ∧ ∀ (r : Addr) (H' : Hp), H r = none → Fr [] H H' → Rnd H' r → Q (.ref r) H'
section
variable {P : Program} {w : World} {K : PySem.W.Frag} {mg : Str → Option Value} {base : Heap}
theorem ok_random (T : Gx K mg) : FnOk P w K mg base CX0 1 T.f__law_random T.fd__law_random ["_law_script", "_law_salt"] (spRandom K) := by
  refine T.F__law_random.ok sc__law_random (fun vs H Q E h => ?_) (fun cdv A outer s H vs Q E hr h => ?_)
  · obtain ⟨a, salt, ns, rfl, _⟩ := h
    rfl
  · obtain ⟨a, salt, ns, rfl, hS, hlen, k⟩ := h
    refine ⟨_, pss_cons (ps_set (i := 2) sc__law_random.nd rfl (.inl rfl) (pv 1))
      (pss_cons (ps_for PassesOwn.never rfl (pi_list (pv 0)) (pg_name (i := 3) sc__law_random.nd rfl (.inl rfl))
        (pss_one (ps_set (i := 2) sc__law_random.nd rfl (.inl rfl) (pe_op op_mod (pe_callTy call_int1 (by rfl) T.z_int (by decide +kernel) (pa_cons (pe_op op_add (pe_op op_mul (pv 2) pe_int) (pe_callB call_abs (by rfl) T.z_abs (by decide +kernel) (pa_cons (pv 3) pa_nil))) pa_nil)) pe_int))))
      (pss_one (ps_ret (pe_op op_cat (pe_lst (pa_cons (pv 2) (pa_cons pe_int pa_nil))) (pe_lc (own := [("_law_cell", 3)]) (g := gName 3) rfl sc__law_random.nd (pi_list (pv 0)) (blkOk_by (N := ["_law_script", "_law_salt", "_law_seed", "_law_cell"]) (sc := defScope s__law_random) (by decide +kernel)) (fun _ _ _ _ _ => pg_name (i := 3) sc__law_random.nd rfl (.inl rfl)) (fun _ _ _ _ _ => pts_one (pt_cmpR op_ge (pv 3) (pe_op op_pow pe_int pe_int) (nomark _))) (fun _ _ _ _ _ => pv 3)))))), ?_⟩
    refine ⟨_, rfl, _, rfl, a, rfl, ⟨_, hS⟩, for_list (K := K) (a := a) (xs := ns.map V.int) (fun i σ H' => H' = H ∧ ∃ (z : Int) (v : Option V), σ = [some (.ref a), some (.int salt), some (.int z), v]) ⟨rfl, salt, none, rfl⟩ (fun i σ H' _ e => by rw [e.1]; exact hS) ?_ ?_⟩
    · rintro i x σ H' hi ⟨rfl, z, v, rfl⟩
      obtain ⟨u, rfl, _⟩ := int_at hi
      exact ⟨_, rfl, _, _, rfl, rfl, .inr (by decide), _, rfl, _, rfl, _, _, rfl, rfl, .inl ⟨_, rfl, _, _, rfl, rfl, (by show (0 : Int) < 2147483647; decide), rfl, _, _, rfl⟩⟩
    · rintro σ H' ⟨rfl, z, v, rfl⟩
      refine ⟨_, rfl, sz_le (by simp), fun l hl => ?_⟩
      have sl : Fr [] H' (upd H' l (.lst [V.int z, V.int 0])) := Fr.new hl
      have hS1 : SqL K (upd H' l (.lst [V.int z, V.int 0])) a (ns.map V.int) := sl.seq (by simp) hS
      refine ⟨_, rfl, a, rfl, ⟨_, hS1⟩, fun D hD => ?_⟩
      have hDl := free_upd hD
      refine lc_list (K := K) (a := a) (xs := ns.map V.int) (fun i H2 => ∃ ms : List Int, ms.length ≤ i ∧ H2 = upd (upd H' l (.lst [V.int z, V.int 0])) D (.lst (ms.map V.int))) ⟨[], Nat.le_refl _, rfl⟩ ?_ ?_ ?_
      · rintro i H2 _ ⟨ms, _, rfl⟩
        exact (Fr.new (S := []) hD).seq (by simp) hS1
      · rintro i x H2 hi ⟨ms, hm, rfl⟩
        obtain ⟨u, rfl, _⟩ := int_at hi
        have li := lt_of_at hi
        rw [List.length_map] at li
        refine ⟨rfl, _, rfl, _, _, rfl, rfl, ⟨by decide, by decide, by decide⟩, _, _, rfl, rfl, _, rfl, ite2 (fun _ => ?_) (fun _ => ?_)⟩
        · refine ⟨_, rfl, _, upd_same, ?_, ms ++ [u], ?_, ?_⟩
          · rw [List.length_map]
            exact sz_lt (by omega)
          · rw [List.length_append, List.length_singleton]
            omega
          · rw [upd_upd, List.map_append]
            rfl
        · exact ⟨ms, by omega, rfl⟩
      · rintro H2 ⟨ms, hm, rfl⟩
        rw [List.length_map] at hm
        refine ⟨l, D, [V.int z, V.int 0], _, rfl, rfl, ?_, upd_same, ?_, fun p hp => ?_⟩
        · rw [upd_ne hDl.2.symm]
          exact upd_same
        · rw [List.length_map]
          exact sz_le (by simp; omega)
        · obtain ⟨hp1, _⟩ := free_upd hp
          obtain ⟨hp2, _⟩ := free_upd hp1
          exact k p _ hp2 ((sl.trans (Fr.new hD)).trans (Fr.new hp)) ⟨z, 0, ms, upd_same⟩
end
/-! ### what counts as a number -/
def spNum (K : PySem.W.Frag) : Sp := fun vs H Q _ => ∃ (v : V) (t : Value) (b1 b2 : Bool), vs = [v] ∧ TyX K H v t ∧ PySem.W.kitOne K t (.type "int") = some b1 ∧ PySem.W.kitOne K t (.type "bool") = some b2 ∧ Q (.bl (b1 && !b2)) H
def spNumFrom (K : PySem.W.Frag) : Sp := fun vs H Q _ => ∃ (v : V) (lo hi : Int), vs = [v, .int lo, .int hi] ∧
  ((∃ i : Int, v = .int i ∧ Q (.bl (decide (lo ≤ i) && decide (i ≤ hi))) H) ∨ ∃ (t : Value) (b1 b2 : Bool), TyX K H v t ∧ PySem.W.kitOne K t (.type "int") = some b1 ∧ PySem.W.kitOne K t (.type "bool") = some b2 ∧ (b1 && !b2) = false ∧ Q (.bl false) H)
section
variable {P : Program} {w : World} {K : PySem.W.Frag} {mg : Str → Option Value} {base : Heap}
theorem ok_num (T : Gx K mg) : FnOk P w K mg base CX0 1 T.f_is_number T.fd_is_number ["thing"] (spNum K) := by
  refine T.F_is_number.ok sc_is_number (fun vs H Q E h => ?_) (fun cdv A outer s H vs Q E hr h => ?_)
  · obtain ⟨v, t, b1, b2, rfl, _⟩ := h
    rfl
  · obtain ⟨v, t, b1, b2, rfl, ty, e1, e2, k⟩ := h
    refine ⟨_, pss_one (ps_ret (pe_and (pe_callB call_isi (by rfl) T.z_isinstance (by decide +kernel) (pa_cons (pv 0) (pa_cons (pe_bltn (v := .ty "int") (by rfl) T.z_int (by decide +kernel) rfl) pa_nil)))
      (pe_one (pe_not (pe_callB call_isi (by rfl) T.z_isinstance (by decide +kernel) (pa_cons (pv 0) (pa_cons (pe_bltn (v := .ty "bool") (by rfl) T.z_bool (by decide +kernel) rfl) pa_nil))))))), ?_⟩
    refine ⟨v, rfl, v, .ty "int", t, _, b1, rfl, ClsV.ty "int", ty, e1, b1, rfl, ?_⟩
    cases b1 with
    | false => exact iteF k
    | true => exact iteT ⟨v, rfl, v, .ty "bool", t, _, b2, rfl, ClsV.ty "bool", ty, e2, b2, rfl, k⟩
theorem ok_numFrom (T : Gx K mg) : FnOk P w K mg base CX0 2 T.f_is_number_from T.fd_is_number_from ["thing", "least", "most"] (spNumFrom K) := by
  have G1 : FnOk P w K mg base CX0 1 T.f_is_number T.fd_is_number ["thing"] (spNum K) := ok_num T
  refine T.F_is_number_from.ok sc_is_number_from (fun vs H Q E h => ?_) (fun cdv A outer s H vs Q E hr h => ?_)
  · obtain ⟨v, lo, hi, rfl, _⟩ := h
    rfl
  · obtain ⟨v, lo, hi, rfl, h⟩ := h
    refine ⟨_, pss_one (ps_ret (pe_and (pe_call G1 hr (by rfl) T.g_is_number T.F_is_number.kp (b_is_number T) .nil pass0 (pa_cons (pv 0) pa_nil)) (pe_one (pe_chain op_le op_le (pv 1) (pv 0) (pv 2))))), ?_⟩
    rcases h with ⟨i, rfl, k⟩ | ⟨t, b1, b2, ty, e1, e2, e3, k⟩
    · refine ⟨_, rfl, .int i, .type "int", true, false, rfl, .base (.int i), kit_ty (by decide +kernel), kit_ty (by decide +kernel), true, rfl, iteT ?_⟩
      refine ⟨_, rfl, _, rfl, _, _, rfl, rfl, _, rfl, ?_⟩
      by_cases hl : lo ≤ i
      · rw [decide_eq_true hl] at k ⊢
        exact iteT ⟨_, rfl, _, _, rfl, rfl, k⟩
      · rw [decide_eq_false hl] at k ⊢
        exact iteF k
    · refine ⟨_, rfl, v, t, b1, b2, rfl, ty, e1, e2, _, rfl, ?_⟩
      rw [e3]
      exact iteF k
end
/-! ### rules within a comprehension: what is written stands outside -/
theorem call_list_ofK {X : Cx} {K : PySem.W.Frag} (h : X.K = K) : CallR X (.type "list") (fun xs H Q => ∃ p ys, xs = [.ref p] ∧ (SqL K H p ys ∨ SqT K H p ys) ∧ ∀ l, H l = none → Q (.ref l) (upd H l (.lst ys))) := by
  subst h
  exact call_list_of
theorem call_tuple_ofK {X : Cx} {K : PySem.W.Frag} (h : X.K = K) : CallR X (.type "tuple") (fun xs H Q => ∃ p ys, xs = [.ref p] ∧ ((SqL K H p ys ∧ ∀ l, H l = none → Q (.ref l) (upd H l (.tup ys))) ∨ (SqT K H p ys ∧ Q (.ref p) H))) := by
  subst h
  exact call_tuple_of
theorem call_len_seqK {X : Cx} {K : PySem.W.Frag} (h : X.K = K) : CallR X (.builtin "len") (fun xs H Q => ∃ p ys, xs = [.ref p] ∧ (SqL K H p ys ∨ SqT K H p ys) ∧ Q (.int ys.length) H) := by
  subst h
  exact call_len_seq
theorem cr_sortedK {X : Cx} {K : PySem.W.Frag} (h : X.K = K) : CallR X (.builtin "sorted") (rSorted K) := by
  subst h
  exact cr_sorted
theorem sl_listK {X : Cx} {K : PySem.W.Frag} (h : X.K = K) : SlR X (rSlL K) := by
  subst h
  exact sl_list
theorem sl_tupK {X : Cx} {K : PySem.W.Frag} (h : X.K = K) : SlR X (rSlT K) := by
  subst h
  exact sl_tup
theorem op_notInK {X : Cx} {K : PySem.W.Frag} (h : X.K = K) : OpR X (compareOp .NotIn) (rIn K true) := by
  subst h
  exact op_notIn_seq
theorem op_inK {X : Cx} {K : PySem.W.Frag} (h : X.K = K) : OpR X (compareOp .In) (rIn K false) := by
  subst h
  exact op_in_seq
theorem op_eqDK {X : Cx} {K : PySem.W.Frag} (h : X.K = K) (hu : X.A.units + 64 < cLine) : OpR X (compareOp .Eq) (rEqD K) := by
  subst h
  exact op_eqD hu
theorem op_neDK2 {X : Cx} {K : PySem.W.Frag} (h : X.K = K) (hu : X.A.units + 64 < cLine) : OpR X (compareOp .NotEq) (rNeD K) := by
  subst h
  exact op_neD hu
/-! ### a disk's attributes -/
def dF (a b c d e f : V) : List (Str × V) := [("_contents", a), ("_lasting", b), ("_pending", c), ("_reads", d), ("_writes", e), ("_syncs", f)]
theorem nf01 : ¬ (("_contents" : Str) = "_lasting") := by decide +kernel
theorem bf01 : (("_contents" : Str) == "_lasting") = false := by decide +kernel
theorem nf02 : ¬ (("_contents" : Str) = "_pending") := by decide +kernel
theorem bf02 : (("_contents" : Str) == "_pending") = false := by decide +kernel
theorem nf03 : ¬ (("_contents" : Str) = "_reads") := by decide +kernel
theorem bf03 : (("_contents" : Str) == "_reads") = false := by decide +kernel
theorem nf04 : ¬ (("_contents" : Str) = "_writes") := by decide +kernel
theorem bf04 : (("_contents" : Str) == "_writes") = false := by decide +kernel
theorem nf05 : ¬ (("_contents" : Str) = "_syncs") := by decide +kernel
theorem bf05 : (("_contents" : Str) == "_syncs") = false := by decide +kernel
theorem nf10 : ¬ (("_lasting" : Str) = "_contents") := by decide +kernel
theorem bf10 : (("_lasting" : Str) == "_contents") = false := by decide +kernel
theorem nf12 : ¬ (("_lasting" : Str) = "_pending") := by decide +kernel
theorem bf12 : (("_lasting" : Str) == "_pending") = false := by decide +kernel
theorem nf13 : ¬ (("_lasting" : Str) = "_reads") := by decide +kernel
theorem bf13 : (("_lasting" : Str) == "_reads") = false := by decide +kernel
theorem nf14 : ¬ (("_lasting" : Str) = "_writes") := by decide +kernel
theorem bf14 : (("_lasting" : Str) == "_writes") = false := by decide +kernel
theorem nf15 : ¬ (("_lasting" : Str) = "_syncs") := by decide +kernel
theorem bf15 : (("_lasting" : Str) == "_syncs") = false := by decide +kernel
theorem nf20 : ¬ (("_pending" : Str) = "_contents") := by decide +kernel
theorem bf20 : (("_pending" : Str) == "_contents") = false := by decide +kernel
theorem nf21 : ¬ (("_pending" : Str) = "_lasting") := by decide +kernel
theorem bf21 : (("_pending" : Str) == "_lasting") = false := by decide +kernel
theorem nf23 : ¬ (("_pending" : Str) = "_reads") := by decide +kernel
theorem bf23 : (("_pending" : Str) == "_reads") = false := by decide +kernel
theorem nf24 : ¬ (("_pending" : Str) = "_writes") := by decide +kernel
theorem bf24 : (("_pending" : Str) == "_writes") = false := by decide +kernel
theorem nf25 : ¬ (("_pending" : Str) = "_syncs") := by decide +kernel
theorem bf25 : (("_pending" : Str) == "_syncs") = false := by decide +kernel
theorem nf30 : ¬ (("_reads" : Str) = "_contents") := by decide +kernel
theorem bf30 : (("_reads" : Str) == "_contents") = false := by decide +kernel
theorem nf31 : ¬ (("_reads" : Str) = "_lasting") := by decide +kernel
theorem bf31 : (("_reads" : Str) == "_lasting") = false := by decide +kernel
theorem nf32 : ¬ (("_reads" : Str) = "_pending") := by decide +kernel
theorem bf32 : (("_reads" : Str) == "_pending") = false := by decide +kernel
theorem nf34 : ¬ (("_reads" : Str) = "_writes") := by decide +kernel
theorem bf34 : (("_reads" : Str) == "_writes") = false := by decide +kernel
theorem nf35 : ¬ (("_reads" : Str) = "_syncs") := by decide +kernel
theorem bf35 : (("_reads" : Str) == "_syncs") = false := by decide +kernel
theorem nf40 : ¬ (("_writes" : Str) = "_contents") := by decide +kernel
theorem bf40 : (("_writes" : Str) == "_contents") = false := by decide +kernel
theorem nf41 : ¬ (("_writes" : Str) = "_lasting") := by decide +kernel
theorem bf41 : (("_writes" : Str) == "_lasting") = false := by decide +kernel
theorem nf42 : ¬ (("_writes" : Str) = "_pending") := by decide +kernel
theorem bf42 : (("_writes" : Str) == "_pending") = false := by decide +kernel
theorem nf43 : ¬ (("_writes" : Str) = "_reads") := by decide +kernel
theorem bf43 : (("_writes" : Str) == "_reads") = false := by decide +kernel
theorem nf45 : ¬ (("_writes" : Str) = "_syncs") := by decide +kernel
theorem bf45 : (("_writes" : Str) == "_syncs") = false := by decide +kernel
theorem nf50 : ¬ (("_syncs" : Str) = "_contents") := by decide +kernel
theorem bf50 : (("_syncs" : Str) == "_contents") = false := by decide +kernel
theorem nf51 : ¬ (("_syncs" : Str) = "_lasting") := by decide +kernel
theorem bf51 : (("_syncs" : Str) == "_lasting") = false := by decide +kernel
theorem nf52 : ¬ (("_syncs" : Str) = "_pending") := by decide +kernel
theorem bf52 : (("_syncs" : Str) == "_pending") = false := by decide +kernel
theorem nf53 : ¬ (("_syncs" : Str) = "_reads") := by decide +kernel
theorem bf53 : (("_syncs" : Str) == "_reads") = false := by decide +kernel
theorem nf54 : ¬ (("_syncs" : Str) = "_writes") := by decide +kernel
theorem bf54 : (("_syncs" : Str) == "_writes") = false := by decide +kernel
theorem bf00 : (("_contents" : Str) == "_contents") = true := by decide +kernel
theorem bf11 : (("_lasting" : Str) == "_lasting") = true := by decide +kernel
theorem bf22 : (("_pending" : Str) == "_pending") = true := by decide +kernel
theorem bf33 : (("_reads" : Str) == "_reads") = true := by decide +kernel
theorem bf44 : (("_writes" : Str) == "_writes") = true := by decide +kernel
theorem bf55 : (("_syncs" : Str) == "_syncs") = true := by decide +kernel
theorem dF_get0 {a b c d e f : V} : (dF a b c d e f).lookup ("_contents" : Str) = some a := by
  unfold dF
  simp only [List.lookup, bf00]
theorem dF_put0 {a b c d e f z : V} : putF "_contents" z (dF a b c d e f) = dF z b c d e f := by
  unfold dF
  simp only [putF, if_true, eq_self_iff_true]
theorem dF_get1 {a b c d e f : V} : (dF a b c d e f).lookup ("_lasting" : Str) = some b := by
  unfold dF
  simp only [List.lookup, bf10, bf11]
theorem dF_put1 {a b c d e f z : V} : putF "_lasting" z (dF a b c d e f) = dF a z c d e f := by
  unfold dF
  simp only [putF, if_neg nf01, if_true, eq_self_iff_true]
theorem dF_get2 {a b c d e f : V} : (dF a b c d e f).lookup ("_pending" : Str) = some c := by
  unfold dF
  simp only [List.lookup, bf20, bf21, bf22]
theorem dF_put2 {a b c d e f z : V} : putF "_pending" z (dF a b c d e f) = dF a b z d e f := by
  unfold dF
  simp only [putF, if_neg nf02, if_neg nf12, if_true, eq_self_iff_true]
theorem dF_get3 {a b c d e f : V} : (dF a b c d e f).lookup ("_reads" : Str) = some d := by
  unfold dF
  simp only [List.lookup, bf30, bf31, bf32, bf33]
theorem dF_put3 {a b c d e f z : V} : putF "_reads" z (dF a b c d e f) = dF a b c z e f := by
  unfold dF
  simp only [putF, if_neg nf03, if_neg nf13, if_neg nf23, if_true, eq_self_iff_true]
theorem dF_get4 {a b c d e f : V} : (dF a b c d e f).lookup ("_writes" : Str) = some e := by
  unfold dF
  simp only [List.lookup, bf40, bf41, bf42, bf43, bf44]
theorem dF_put4 {a b c d e f z : V} : putF "_writes" z (dF a b c d e f) = dF a b c d z f := by
  unfold dF
  simp only [putF, if_neg nf04, if_neg nf14, if_neg nf24, if_neg nf34, if_true, eq_self_iff_true]
theorem dF_get5 {a b c d e f : V} : (dF a b c d e f).lookup ("_syncs" : Str) = some f := by
  unfold dF
  simp only [List.lookup, bf50, bf51, bf52, bf53, bf54, bf55]
theorem dF_put5 {a b c d e f z : V} : putF "_syncs" z (dF a b c d e f) = dF a b c d e z := by
  unfold dF
  simp only [putF, if_neg nf05, if_neg nf15, if_neg nf25, if_neg nf35, if_neg nf45, if_true, eq_self_iff_true]
theorem dF_made {a b c d e f : V} : putF "_syncs" f (putF "_writes" e (putF "_reads" d (putF "_pending" c (putF "_lasting" b (putF "_contents" a []))))) = dF a b c d e f := by
  unfold dF
  simp only [putF, if_neg nf01, if_neg nf02, if_neg nf03, if_neg nf04, if_neg nf05, if_neg nf12, if_neg nf13, if_neg nf14, if_neg nf15, if_neg nf23, if_neg nf24, if_neg nf25, if_neg nf34, if_neg nf35, if_neg nf45]
theorem dF_no_write {a b c d e f : V} : (dF a b c d e f).lookup ("write" : Str) = none := by
  unfold dF
  simp only [List.lookup, (show (("write" : Str) == "_contents") = false by decide +kernel), (show (("write" : Str) == "_lasting") = false by decide +kernel), (show (("write" : Str) == "_pending") = false by decide +kernel), (show (("write" : Str) == "_reads") = false by decide +kernel), (show (("write" : Str) == "_writes") = false by decide +kernel), (show (("write" : Str) == "_syncs") = false by decide +kernel)]
theorem dF_no_sync {a b c d e f : V} : (dF a b c d e f).lookup ("sync" : Str) = none := by
  unfold dF
  simp only [List.lookup, (show (("sync" : Str) == "_contents") = false by decide +kernel), (show (("sync" : Str) == "_lasting") = false by decide +kernel), (show (("sync" : Str) == "_pending") = false by decide +kernel), (show (("sync" : Str) == "_reads") = false by decide +kernel), (show (("sync" : Str) == "_writes") = false by decide +kernel), (show (("sync" : Str) == "_syncs") = false by decide +kernel)]
theorem dF_no_fail {a b c d e f : V} : (dF a b c d e f).lookup ("fail" : Str) = none := by
  unfold dF
  simp only [List.lookup, (show (("fail" : Str) == "_contents") = false by decide +kernel), (show (("fail" : Str) == "_lasting") = false by decide +kernel), (show (("fail" : Str) == "_pending") = false by decide +kernel), (show (("fail" : Str) == "_reads") = false by decide +kernel), (show (("fail" : Str) == "_writes") = false by decide +kernel), (show (("fail" : Str) == "_syncs") = false by decide +kernel)]
theorem dF_no__check_cell {a b c d e f : V} : (dF a b c d e f).lookup ("_check_cell" : Str) = none := by
  unfold dF
  simp only [List.lookup, (show (("_check_cell" : Str) == "_contents") = false by decide +kernel), (show (("_check_cell" : Str) == "_lasting") = false by decide +kernel), (show (("_check_cell" : Str) == "_pending") = false by decide +kernel), (show (("_check_cell" : Str) == "_reads") = false by decide +kernel), (show (("_check_cell" : Str) == "_writes") = false by decide +kernel), (show (("_check_cell" : Str) == "_syncs") = false by decide +kernel)]
theorem dF_no_read {a b c d e f : V} : (dF a b c d e f).lookup ("read" : Str) = none := by
  unfold dF
  simp only [List.lookup, (show (("read" : Str) == "_contents") = false by decide +kernel), (show (("read" : Str) == "_lasting") = false by decide +kernel), (show (("read" : Str) == "_pending") = false by decide +kernel), (show (("read" : Str) == "_reads") = false by decide +kernel), (show (("read" : Str) == "_writes") = false by decide +kernel), (show (("read" : Str) == "_syncs") = false by decide +kernel)]
theorem dF_len {a b c d e f : V} : (dF a b c d e f).length < 1000 := by
  unfold dF
  simp
theorem putF_len (f : Str) (v : V) : ∀ fs : List (Str × V), (putF f v fs).length ≤ fs.length + 1
  | [] => Nat.le_refl _
  | (g, x) :: r => by
    show (if g = f then (g, v) :: r else (g, x) :: putF f v r).length ≤ r.length + 1 + 1
    split
    · simp
    · have := putF_len f v r
      simp only [List.length_cons]
      omega
/-! ### disks -/
structure Dk where
  p : Addr
  dx : Addr
  c : Addr
  l : Addr
  d : Addr
def Dk.own (D : Dk) : List Addr := [D.p, D.c, D.l, D.d]
def Pend (H : Hp) (ts : List Addr) (ps : List (Nat × V)) : Prop := ts.length = ps.length ∧ ∀ (i : Nat) (t : Addr) (q : Nat × V), ts[i]? = some t → ps[i]? = some q → H t = some (.tup [.int (q.1 : Int), q.2])
structure DiskAt (C : Addr) (H : Hp) (D : Dk) (cs ls : List V) (ps : List (Nat × V)) (r w s : Int) : Prop where
  ins : H D.p = some (.ins C D.dx (dF (.ref D.c) (.ref D.l) (.ref D.d) (.int r) (.int w) (.int s)))
  cs_ : H D.c = some (.lst cs)
  ls_ : H D.l = some (.lst ls)
  pend : ∃ ts : List Addr, H D.d = some (.lst (ts.map V.ref)) ∧ Pend H ts ps
  cl : D.c ≠ D.l
  cd : D.c ≠ D.d
  ld : D.l ≠ D.d
  len : cs.length = ls.length
  small : cs.length ≤ 64
  ok : ∀ q ∈ ps, q.1 < ls.length
theorem Pend.keep {H H' : Hp} {ts : List Addr} {ps : List (Nat × V)} {S : List Addr} (h : Pend H ts ps) (f : Fr S H H') (n : ∀ b ∈ S, ∀ xs, H b ≠ some (.tup xs)) : Pend H' ts ps :=
  ⟨h.1, fun i t q e1 e2 => f _ _ (h.2 i t q e1 e2) (fun z => n t z _ (h.2 i t q e1 e2))⟩
theorem Pend.snoc {H : Hp} {ts : List Addr} {ps : List (Nat × V)} {t : Addr} {i : Nat} {v : V} (h : Pend H ts ps) (e : H t = some (.tup [.int (i : Int), v])) : Pend H (ts ++ [t]) (ps ++ [(i, v)]) := by
  refine ⟨by rw [List.length_append, List.length_append, h.1]; rfl, fun j u q e1 e2 => ?_⟩
  by_cases hj : j < ts.length
  · rw [List.getElem?_append_left hj] at e1
    rw [List.getElem?_append_left (by rw [← h.1]; exact hj)] at e2
    exact h.2 j u q e1 e2
  · rw [List.getElem?_append_right (by omega)] at e1
    rw [List.getElem?_append_right (by rw [← h.1]; omega)] at e2
    rw [← h.1] at e2
    have hz : j - ts.length = 0 := by
      have := lt_of_at e1
      simp at this
      omega
    rw [hz] at e1 e2
    cases e1
    cases e2
    exact e
section
variable {C : Addr} {H H' : Hp} {D : Dk} {cs ls : List V} {ps : List (Nat × V)} {r w s : Int}
theorem DiskAt.there (h : DiskAt C H D cs ls ps r w s) : ∀ b ∈ D.own, ∃ o, H b = some o := by
  obtain ⟨ts, e, _⟩ := h.pend
  intro b hb
  simp only [Dk.own, List.mem_cons, List.not_mem_nil, or_false] at hb
  rcases hb with rfl | rfl | rfl | rfl
  · exact ⟨_, h.ins⟩
  · exact ⟨_, h.cs_⟩
  · exact ⟨_, h.ls_⟩
  · exact ⟨_, e⟩
theorem DiskAt.notup (h : DiskAt C H D cs ls ps r w s) : ∀ b ∈ D.own, ∀ xs, H b ≠ some (.tup xs) := by
  obtain ⟨ts, e, _⟩ := h.pend
  intro b hb xs
  simp only [Dk.own, List.mem_cons, List.not_mem_nil, or_false] at hb
  rcases hb with rfl | rfl | rfl | rfl
  · rw [h.ins]; simp
  · rw [h.cs_]; simp
  · rw [h.ls_]; simp
  · rw [e]; simp
theorem DiskAt.pc (h : DiskAt C H D cs ls ps r w s) : D.p ≠ D.c := ne_of h.ins h.cs_ (by simp)
theorem DiskAt.pl (h : DiskAt C H D cs ls ps r w s) : D.p ≠ D.l := ne_of h.ins h.ls_ (by simp)
theorem DiskAt.pd (h : DiskAt C H D cs ls ps r w s) : D.p ≠ D.d := by
  obtain ⟨ts, e, _⟩ := h.pend
  exact ne_of h.ins e (by simp)
/-- a disk stays where only what it does not own changes (and no tuple does) -/
theorem DiskAt.keep {S : List Addr} (h : DiskAt C H D cs ls ps r w s) (f : Fr S H H') (n : ∀ b ∈ D.own, b ∉ S) (m : ∀ b ∈ S, ∀ xs, H b ≠ some (.tup xs)) : DiskAt C H' D cs ls ps r w s := by
  obtain ⟨ts, e, pn⟩ := h.pend
  have hp : D.p ∉ S := n _ (by simp [Dk.own])
  have hc : D.c ∉ S := n _ (by simp [Dk.own])
  have hl : D.l ∉ S := n _ (by simp [Dk.own])
  have hd : D.d ∉ S := n _ (by simp [Dk.own])
  exact ⟨f _ _ h.ins hp, f _ _ h.cs_ hc, f _ _ h.ls_ hl, ⟨ts, f _ _ e hd, pn.keep f m⟩, h.cl, h.cd, h.ld, h.len, h.small, h.ok⟩
end
/-! ### the promises -/
def spCheck (C : Addr) : Sp := fun vs H Q _ => ∃ (D : Dk) (cs ls : List V) (ps : List (Nat × V)) (r w s i : Int), vs = [.ref D.p, .int i] ∧ DiskAt C H D cs ls ps r w s ∧ 0 ≤ i ∧ i < cs.length ∧ Q .non H
def spInit (C : Addr) : Sp := fun vs H Q _ => ∃ (p dx : Addr) (n : Nat) (v : V), vs = [.ref p, .int (n : Int), v] ∧ 1 ≤ n ∧ n ≤ 64 ∧ H p = some (.ins C dx []) ∧
  ∀ (D : Dk) (H' : Hp), D.p = p → Fr [p] H H' → DiskAt C H' D (List.replicate n v) (List.replicate n v) [] 0 0 0 → H D.c = none → H D.l = none → H D.d = none → Q .non H'
def spWrite (C : Addr) : Sp := fun vs H Q _ => ∃ (D : Dk) (cs ls : List V) (ps : List (Nat × V)) (r w s : Int) (i : Nat) (v : V), vs = [.ref D.p, .int (i : Int), v] ∧ DiskAt C H D cs ls ps r w s ∧ i < cs.length ∧ ps.length ≤ 1000 ∧
  ∀ H' : Hp, Fr D.own H H' → DiskAt C H' D (cs.set i v) ls (ps ++ [(i, v)]) r (w + 1) s → Q .non H'
def spSync (C : Addr) : Sp := fun vs H Q _ => ∃ (D : Dk) (cs ls : List V) (ps : List (Nat × V)) (r w s : Int), vs = [.ref D.p] ∧ DiskAt C H D cs ls ps r w s ∧
  ∀ (D' : Dk) (H' : Hp), D'.p = D.p → (∀ b ∈ D'.own, b ∈ D.own ∨ H b = none) → Fr D.own H H' → DiskAt C H' D' cs cs [] r w (s + 1) → Q .non H'
section
variable {P : Program} {w : World} {K : PySem.W.Frag} {mg : Str → Option Value} {base : Heap}
theorem ok_check (T : Gx K mg) : FnOk P w K mg base CX0 3 T.f_Disk__check_cell T.fd_Disk__check_cell ["self", "cell"] (spCheck T.C_Disk) := by
  have GN : FnOk P w K mg base CX0 2 T.f_is_number_from T.fd_is_number_from ["thing", "least", "most"] (spNumFrom K) := ok_numFrom T
  refine T.F_Disk__check_cell.ok sc_Disk__check_cell (fun vs H Q E h => ?_) (fun cdv A outer s H vs Q E hr h => ?_)
  · obtain ⟨D, cs, ls, ps, r, w', s', i, rfl, _⟩ := h
    rfl
  · obtain ⟨D, cs, ls, ps, r, w', s', i, rfl, hD, h0, h1, k⟩ := h
    refine ⟨_, pss_one (ps_if (pt_not (pt_val (pe_call GN hr (by rfl) T.g_is_number_from T.F_is_number_from.kp (b_is_number_from T) .nil pass0
      (pa_cons (pv 1) (pa_cons pe_int (pa_cons (pe_op op_sub (pe_callB call_len_seq (by rfl) T.z_len PySem.boot_len (pa_cons (pe_fld (pv 0) rfl) pa_nil)) pe_int) pa_nil)))))) (pss_one ps_never) pss_nil), ?_⟩
    refine ⟨_, rfl, _, rfl, D.p, T.C_Disk, _, _, _, rfl, hD.ins, T.cl_Disk, T.n_Disk__contents, dF_get0, D.c, cs, rfl, .inl (SqL.of hD.cs_), _, _, rfl, rfl, ?_⟩
    refine ⟨.int i, 0, _, rfl, .inl ⟨i, rfl, _, rfl, ?_⟩⟩
    have e : (decide ((0 : Int) ≤ i) && decide (i ≤ (cs.length : Int) - 1)) = true := by
      rw [Bool.and_eq_true, decide_eq_true_eq, decide_eq_true_eq]
      omega
    rw [e]
    exact iteF k
theorem ok_init (T : Gx K mg) : FnOk P w K mg base CX0 3 T.f_Disk___init__ T.fd_Disk___init__ ["self", "cells", "content"] (spInit T.C_Disk) := by
  have GN : FnOk P w K mg base CX0 2 T.f_is_number_from T.fd_is_number_from ["thing", "least", "most"] (spNumFrom K) := ok_numFrom T
  refine T.F_Disk___init__.ok sc_Disk___init__ (fun vs H Q E h => ?_) (fun cdv A outer s H vs Q E hr h => ?_)
  · obtain ⟨p, dx, n, v, rfl, _⟩ := h
    rfl
  · obtain ⟨p, dx, n, v, rfl, h1, h64, hp, k⟩ := h
    refine ⟨_, PSs.nox (pss_cons (ps_if (pt_not (pt_val (pe_call GN hr (by rfl) T.g_is_number_from T.F_is_number_from.kp (b_is_number_from T) .nil pass0
        (pa_cons (pv 1) (pa_cons pe_int (pa_cons (pe_glob (v := .int 64) (by rfl) T.c_MOST_CELLS ⟨_, rfl⟩) pa_nil)))))) (pss_one ps_never) pss_nil)
      (pss_cons (ps_fld (pv 0) (pe_op op_rep (pe_lst (pa_cons (pv 2) pa_nil)) (pv 1)) rfl)
      (pss_cons (ps_fld (pv 0) (pe_op op_rep (pe_lst (pa_cons (pv 2) pa_nil)) (pv 1)) rfl)
      (pss_cons (ps_fld (pv 0) (pe_lst pa_nil) rfl)
      (pss_cons (ps_fld (pv 0) pe_int rfl) (pss_cons (ps_fld (pv 0) pe_int rfl) (pss_one (ps_fld (pv 0) pe_int rfl)))))))), ?_⟩
    refine ⟨_, rfl, .int (n : Int), 1, 64, rfl, .inl ⟨n, rfl, _, rfl, ?_⟩⟩
    have e : (decide ((1 : Int) ≤ (n : Int)) && decide ((n : Int) ≤ 64)) = true := by
      rw [Bool.and_eq_true, decide_eq_true_eq, decide_eq_true_eq]
      omega
    rw [e]
    refine iteF ?_
    have fl : (List.replicate (n : Int).toNat [v]).flatten = List.replicate n v := by
      rw [Int.toNat_natCast]
      simp
    -- self._contents = [content] * cells
    refine ⟨_, rfl, sz_le (by simp), fun q1 hq1 => ⟨_, rfl, q1, n, [v], rfl, rfl, upd_same, by omega, by omega, sz_le (by simp; omega), fun c hc => ?_⟩⟩
    rw [fl]
    have hcq := free_upd hc
    have pq1 : p ≠ q1 := ne_of_none hp hq1
    have pc : p ≠ c := ne_of_none hp hcq.1
    refine ⟨_, rfl, p, T.C_Disk, dx, [], rfl, (by rw [upd_ne pc, upd_ne pq1]; exact hp), T.cl_Disk, T.n_Disk__contents, by simp, ?_⟩
    -- self._lasting = [content] * cells
    refine ⟨_, rfl, sz_le (by simp), fun q2 hq2 => ⟨_, rfl, q2, n, [v], rfl, rfl, upd_same, by omega, by omega, sz_le (by simp; omega), fun l hl => ?_⟩⟩
    rw [fl]
    have hq2' := free_upd hq2
    have hq2'' := free_upd hq2'.1
    have hlq := free_upd hl
    have hlq2 := free_upd hlq.1
    have hlq3 := free_upd hlq2.1
    have pq2 : p ≠ q2 := hq2'.2.symm
    have pl : p ≠ l := hlq2.2.symm
    refine ⟨_, rfl, p, T.C_Disk, dx, _, rfl, (by rw [upd_ne pl, upd_ne pq2]; exact upd_same), T.cl_Disk, T.n_Disk__lasting, Nat.lt_of_le_of_lt (putF_len _ _ _) (by simp), ?_⟩
    -- self._pending = []
    refine ⟨sz_le (by simp), fun d hd => ?_⟩
    have hd1 := free_upd hd
    have hd2 := free_upd hd1.1
    have hd3 := free_upd hd2.1
    have hd4 := free_upd hd3.1
    have hd5 := free_upd hd4.1
    have hd6 := free_upd hd5.1
    refine ⟨_, rfl, p, T.C_Disk, dx, _, rfl, (by rw [upd_ne hd1.2.symm]; exact upd_same), T.cl_Disk, T.n_Disk__pending, Nat.lt_of_le_of_lt (putF_len _ _ _) (Nat.lt_of_le_of_lt (Nat.succ_le_succ (putF_len _ _ _)) (by simp)), ?_⟩
    refine ⟨_, rfl, p, T.C_Disk, dx, _, rfl, upd_same, T.cl_Disk, T.n_Disk__reads, Nat.lt_of_le_of_lt (putF_len _ _ _) (Nat.lt_of_le_of_lt (Nat.succ_le_succ (Nat.le_trans (putF_len _ _ _) (Nat.succ_le_succ (putF_len _ _ _)))) (by simp)), ?_⟩
    refine ⟨_, rfl, p, T.C_Disk, dx, _, rfl, upd_same, T.cl_Disk, T.n_Disk__writes, Nat.lt_of_le_of_lt (putF_len _ _ _) (Nat.lt_of_le_of_lt (Nat.succ_le_succ (Nat.le_trans (putF_len _ _ _) (Nat.succ_le_succ (Nat.le_trans (putF_len _ _ _) (Nat.succ_le_succ (putF_len _ _ _)))))) (by simp)), ?_⟩
    refine ⟨_, rfl, p, T.C_Disk, dx, _, rfl, upd_same, T.cl_Disk, T.n_Disk__syncs, Nat.lt_of_le_of_lt (putF_len _ _ _) (Nat.lt_of_le_of_lt (Nat.succ_le_succ (Nat.le_trans (putF_len _ _ _) (Nat.succ_le_succ (Nat.le_trans (putF_len _ _ _) (Nat.succ_le_succ (Nat.le_trans (putF_len _ _ _) (Nat.succ_le_succ (putF_len _ _ _)))))))) (by simp)), ?_⟩
    rw [dF_made, upd_upd, upd_upd, upd_upd]
    refine k ⟨p, dx, c, l, d⟩ _ rfl ?_ ⟨upd_same, ?_, ?_, ⟨[], ?_, rfl, fun i t q e _ => by simp at e⟩, hlq3.2.symm, hd5.2.symm, hd2.2.symm, rfl, by simp; omega, fun q hq => by cases hq⟩ hcq.1 (free_upd hlq3.1).1 hd6.1
    · exact (((((((Fr.new hq1).trans (Fr.new hc)).trans (Fr.put (by simp))).trans (Fr.new hq2)).trans (Fr.new hl)).trans (Fr.put (by simp))).trans (Fr.new hd)).trans (Fr.put (by simp))
    · show (upd _ p _) c = _
      rw [upd_ne pc.symm, upd_ne hd5.2.symm, upd_ne pc.symm, upd_ne hlq3.2.symm, upd_ne hq2''.2.symm, upd_ne pc.symm]
      exact upd_same
    · show (upd _ p _) l = _
      rw [upd_ne pl.symm, upd_ne hd2.2.symm, upd_ne pl.symm]
      exact upd_same
    · show (upd _ p _) d = _
      rw [upd_ne hd1.2]
      exact upd_same
end
section
variable {P : Program} {w : World} {K : PySem.W.Frag} {mg : Str → Option Value} {base : Heap}
theorem ok_write (T : Gx K mg) : FnOk P w K mg base CX0 4 T.f_Disk_write T.fd_Disk_write ["self", "cell", "content"] (spWrite T.C_Disk) := by
  have GC : FnOk P w K mg base CX0 3 T.f_Disk__check_cell T.fd_Disk__check_cell ["self", "cell"] (spCheck T.C_Disk) := ok_check T
  refine T.F_Disk_write.ok sc_Disk_write (fun vs H Q E h => ?_) (fun cdv A outer s H vs Q E hr h => ?_)
  · obtain ⟨D, cs, ls, ps, r, w', s', i, v, rfl, _⟩ := h
    rfl
  · obtain ⟨D, cs, ls, ps, r, w', s', i, v, rfl, hD, hi, hp, k⟩ := h
    obtain ⟨ts, e, pn⟩ := hD.pend
    have pl := hD.pl
    have pc := hD.pc
    have pd := hD.pd
    refine ⟨_, pss_cons (ps_expr (pe_meth (pv 0) T.cl_Disk T.m_Disk__check_cell GC hr (b_Disk__check_cell T) .nil pass0 (pa_cons (pv 1) pa_nil)))
      (pss_cons (ps_fldaug (pv 0) pe_int in_add)
      (pss_cons (ps_asg (pv 2) (pg_sub (pe_fld (pv 0) rfl) (pv 1) set_list))
      (pss_one (ps_expr (pe_bm PySem.F.plainAttrs_list PySem.F.slot_list_append PySem.F.type_list_append mt_append (pe_fld (pv 0) rfl) (pa_cons (pe_tup (pa_cons (pv 1) (pa_cons (pv 2) pa_nil))) pa_nil)))))), ?_⟩
    refine ⟨_, rfl, D.p, D.dx, _, rfl, hD.ins, dF_no__check_cell, _, rfl, D, cs, ls, ps, r, w', s', i, rfl, hD, by omega, by omega, ?_⟩
    refine ⟨_, rfl, D.p, T.C_Disk, D.dx, _, _, rfl, hD.ins, T.cl_Disk, T.n_Disk__writes, dF_get4, _, _, rfl, rfl, D.dx, _, hD.ins, dF_len, ?_⟩
    rw [dF_put4]
    refine ⟨_, rfl, _, rfl, D.p, T.C_Disk, D.dx, _, _, rfl, upd_same, T.cl_Disk, T.n_Disk__contents, dF_get0, _, rfl, D.c, cs, (i : Int), i, rfl, rfl, (by rw [upd_ne pc.symm]; exact hD.cs_), ix_at i hi, ?_⟩
    refine ⟨_, rfl, D.p, T.C_Disk, D.dx, _, _, rfl, Eq.trans (upd_ne pc) upd_same, T.cl_Disk, T.n_Disk__pending, dF_get2, .inl ⟨rfl, _, SqL.of (xs := ts.map V.ref) ?_⟩, ?_⟩
    · rw [upd_ne hD.cd.symm, upd_ne pd.symm]
      exact e
    · refine ⟨_, rfl, _, rfl, sz_le (by simp), fun t ht => ?_⟩
      have t1 := free_upd ht
      have t2 := free_upd t1.1
      have dt : D.d ≠ t := ne_of_none e t2.1
      have pt : D.p ≠ t := t2.2.symm
      have ct : D.c ≠ t := t1.2.symm
      have lt : D.l ≠ t := ne_of_none hD.ls_ t2.1
      refine ⟨D.d, ts.map V.ref, .ref t, rfl, rfl, ?_, ?_, ?_⟩
      · rw [upd_ne dt, upd_ne hD.cd.symm, upd_ne pd.symm]
        exact e
      · rw [List.length_map, pn.1]
        exact sz_lt (by omega)
      · have f : Fr D.own H (upd (upd (upd (upd H D.p (.ins T.C_Disk D.dx (dF (.ref D.c) (.ref D.l) (.ref D.d) (.int r) (.int (w' + 1)) (.int s')))) D.c (.lst (cs.set i v))) t (.tup [.int (i : Int), v])) D.d (.lst (ts.map V.ref ++ [.ref t]))) :=
          (((Fr.put (by simp [Dk.own])).trans (Fr.put (by simp [Dk.own]))).trans (Fr.new ht)).trans (Fr.put (by simp [Dk.own]))
        refine k _ f ⟨?_, ?_, ?_, ⟨ts ++ [t], ?_, (pn.keep f hD.notup).snoc ?_⟩, hD.cl, hD.cd, hD.ld, by rw [List.length_set]; exact hD.len, by rw [List.length_set]; exact hD.small, fun q hq => ?_⟩
        · rw [upd_ne pd, upd_ne pt, upd_ne pc]
          exact upd_same
        · rw [upd_ne hD.cd, upd_ne ct]
          exact upd_same
        · rw [upd_ne hD.ld, upd_ne lt, upd_ne hD.cl.symm, upd_ne pl.symm]
          exact hD.ls_
        · rw [List.map_append]
          exact upd_same
        · rw [upd_ne dt.symm]
          exact upd_same
        · rcases List.mem_append.mp hq with z | z
          · exact hD.ok q z
          · rw [List.mem_singleton.mp z, ← hD.len]
            exact hi
end
section
variable {P : Program} {w : World} {K : PySem.W.Frag} {mg : Str → Option Value} {base : Heap}
theorem ok_sync (T : Gx K mg) : FnOk P w K mg base CX0 1 T.f_Disk_sync T.fd_Disk_sync ["self"] (spSync T.C_Disk) := by
  refine T.F_Disk_sync.ok sc_Disk_sync (fun vs H Q E h => ?_) (fun cdv A outer s H vs Q E hr h => ?_)
  · obtain ⟨D, cs, ls, ps, r, w', s', rfl, _⟩ := h
    rfl
  · obtain ⟨D, cs, ls, ps, r, w', s', rfl, hD, k⟩ := h
    obtain ⟨ts, e, pn⟩ := hD.pend
    have pc := hD.pc
    refine ⟨_, pss_cons (ps_fldaug (pv 0) pe_int in_add)
      (pss_cons (ps_fld (pv 0) (pe_callTy call_list_of (by rfl) T.z_list (by decide +kernel) (pa_cons (pe_fld (pv 0) rfl) pa_nil)) rfl)
      (pss_one (ps_fld (pv 0) (pe_lst pa_nil) rfl))), ?_⟩
    refine ⟨_, rfl, D.p, T.C_Disk, D.dx, _, _, rfl, hD.ins, T.cl_Disk, T.n_Disk__syncs, dF_get5, _, _, rfl, rfl, D.dx, _, hD.ins, dF_len, ?_⟩
    rw [dF_put5]
    have ec : (upd H D.p (.ins T.C_Disk D.dx (dF (.ref D.c) (.ref D.l) (.ref D.d) (.int r) (.int w') (.int (s' + 1))))) D.c = some (.lst cs) := by
      rw [upd_ne pc.symm]
      exact hD.cs_
    refine ⟨_, rfl, D.p, T.C_Disk, D.dx, _, _, rfl, upd_same, T.cl_Disk, T.n_Disk__contents, dF_get0, D.c, cs, rfl, .inl (SqL.of ec), fun l hl => ?_⟩
    have l1 := free_upd hl
    have pl : D.p ≠ l := l1.2.symm
    have cl : D.c ≠ l := ne_of_none hD.cs_ l1.1
    refine ⟨_, rfl, D.p, T.C_Disk, D.dx, _, rfl, Eq.trans (upd_ne pl) upd_same, T.cl_Disk, T.n_Disk__lasting, dF_len, ?_⟩
    rw [dF_put1]
    refine ⟨sz_le (by simp), fun d hd => ?_⟩
    have d1 := free_upd hd
    have d2 := free_upd d1.1
    have d3 := free_upd d2.1
    have cd : D.c ≠ d := ne_of_none hD.cs_ d3.1
    refine ⟨_, rfl, D.p, T.C_Disk, D.dx, _, rfl, Eq.trans (upd_ne d1.2.symm) upd_same, T.cl_Disk, T.n_Disk__pending, dF_len, ?_⟩
    rw [dF_put2]
    refine k ⟨D.p, D.dx, D.c, l, d⟩ _ rfl (fun b hb => ?_) ?_ ⟨upd_same, ?_, ?_, ⟨[], ?_, rfl, fun i t q e _ => by simp at e⟩, cl, cd, d2.2.symm, rfl, hD.small, fun q hq => by cases hq⟩
    · simp only [Dk.own, List.mem_cons, List.not_mem_nil, or_false] at hb ⊢
      rcases hb with z | z | z | z
      · exact .inl (.inl z)
      · exact .inl (.inr (.inl z))
      · rw [z]; exact .inr l1.1
      · rw [z]; exact .inr d3.1
    · exact ((((Fr.put (by simp [Dk.own])).trans (Fr.new hl)).trans (Fr.put (by simp [Dk.own]))).trans (Fr.new hd)).trans (Fr.put (by simp [Dk.own]))
    · show (upd _ D.p _) D.c = _
      rw [upd_ne pc.symm, upd_ne cd, upd_ne pc.symm, upd_ne cl, upd_ne pc.symm]
      exact hD.cs_
    · show (upd _ D.p _) l = _
      rw [upd_ne pl.symm, upd_ne d2.2.symm, upd_ne pl.symm]
      exact upd_same
    · show (upd _ D.p _) d = _
      rw [upd_ne d1.2]
      exact upd_same
end
def spRead (C : Addr) : Sp := fun vs H Q _ => ∃ (D : Dk) (cs ls : List V) (ps : List (Nat × V)) (r w s : Int) (i : Nat) (v : V), vs = [.ref D.p, .int (i : Int)] ∧ DiskAt C H D cs ls ps r w s ∧ cs[i]? = some v ∧
  ∀ H' : Hp, Fr D.own H H' → DiskAt C H' D cs ls ps (r + 1) w s → Q v H'
section
variable {P : Program} {w : World} {K : PySem.W.Frag} {mg : Str → Option Value} {base : Heap}
theorem ok_read (T : Gx K mg) : FnOk P w K mg base CX0 4 T.f_Disk_read T.fd_Disk_read ["self", "cell"] (spRead T.C_Disk) := by
  have G_Disk__check_cell : FnOk P w K mg base CX0 3 T.f_Disk__check_cell T.fd_Disk__check_cell ["self", "cell"] (spCheck T.C_Disk) := ok_check T
  refine T.F_Disk_read.ok sc_Disk_read (fun vs H Q E h => ?_) (fun cdv A outer s H vs Q E hr h => ?_)
  · obtain ⟨D, cs, ls, ps, r, w', s', i, v, rfl, _⟩ := h
    rfl
  · obtain ⟨D, cs, ls, ps, r, w', s', i, v, rfl, hD, hi, k⟩ := h
    obtain ⟨ts, e, pn⟩ := hD.pend
    have pl := hD.pl
    have pc := hD.pc
    have pd := hD.pd
    have hlt := lt_of_at hi
    refine ⟨_, (pss_cons (ps_expr (pe_meth (pv 0) T.cl_Disk T.m_Disk__check_cell G_Disk__check_cell (hr.mono (by first | decide | omega)) (b_Disk__check_cell T) .nil pass0 (pa_cons (pv 1) pa_nil)))
      (pss_cons (ps_fldaug (pv 0) pe_int in_add)
      (pss_one (ps_ret (pe_ix ix_list (pe_fld (pv 0) rfl) (pv 1) (fun _ _ => rfl)))))), ?_⟩
    refine ⟨_, rfl, D.p, D.dx, _, rfl, hD.ins, dF_no__check_cell, _, rfl, D, cs, ls, ps, r, w', s', i, rfl, hD, by omega, by omega, ?_⟩
    refine ⟨_, rfl, D.p, T.C_Disk, D.dx, _, _, rfl, hD.ins, T.cl_Disk, T.n_Disk__reads, dF_get3, _, _, rfl, rfl, D.dx, _, hD.ins, dF_len, ?_⟩
    rw [dF_put3]
    have f : Fr D.own H (upd H D.p (.ins T.C_Disk D.dx (dF (.ref D.c) (.ref D.l) (.ref D.d) (.int (r + 1)) (.int w') (.int s')))) := Fr.put (by simp [Dk.own])
    have hD' : DiskAt T.C_Disk (upd H D.p (.ins T.C_Disk D.dx (dF (.ref D.c) (.ref D.l) (.ref D.d) (.int (r + 1)) (.int w') (.int s')))) D cs ls ps (r + 1) w' s' :=
      ⟨upd_same, (upd_ne pc.symm).trans hD.cs_, (upd_ne pl.symm).trans hD.ls_, ⟨ts, (upd_ne pd.symm).trans e, pn.keep f hD.notup⟩, hD.cl, hD.cd, hD.ld, hD.len, hD.small, hD.ok⟩
    exact ⟨_, rfl, D.p, T.C_Disk, D.dx, _, _, rfl, hD'.ins, T.cl_Disk, T.n_Disk__contents, dF_get0, _, rfl, D.c, cs, (i : Int), v, rfl, rfl, SqL.of hD'.cs_, atI_nat hi, k _ f hD'⟩
end
/-! ### what is new stands apart -/
theorem made_fr {H H' : Hp} {p dx C : Addr} (hp : H p = none) (hdx : H dx = none) (f : Fr [p] (upd (upd H dx (.own p)) p (.ins C dx [])) H') : Fr [] H H' := fun b o e _ => by
  have n1 : b ≠ p := ne_of_none e hp
  have n2 : b ≠ dx := ne_of_none e hdx
  exact f b o (by rw [upd_ne n1, upd_ne n2]; exact e) (by simpa using n1)
/-! ### one change behind another -/
theorem Fr.nah {S : List Addr} {H H1 : Hp} {b : Addr} (f : Fr S H H1) (h : H1 b = none) : b ∈ S ∨ H b = none := by
  by_cases z : b ∈ S
  · exact .inl z
  · right
    cases e : H b with
    | none => rfl
    | some o =>
      rw [f b o e z] at h
      cases h
def Gw (S : List Addr) (H : Hp) (S' : List Addr) : Prop := ∀ b ∈ S', b ∈ S ∨ H b = none
theorem Fr.grow {S S1 : List Addr} {H H1 H2 : Hp} (f1 : Fr S H H1) (f2 : Fr S1 H1 H2) (g : Gw S H S1) : Fr S H H2 := fun b o e n => f2 b o (f1 b o e n) fun z => (g b z).elim n fun y => by
  rw [e] at y
  cases y
theorem Gw.trans {S S1 S2 : List Addr} {H H1 : Hp} (f : Fr S H H1) (g1 : Gw S H S1) (g2 : Gw S1 H1 S2) : Gw S H S2 := fun b hb => (g2 b hb).elim (g1 b) f.nah
theorem Gw.refl (S : List Addr) (H : Hp) : Gw S H S := fun _ h => .inl h
theorem for_enumL {K : PySem.W.Frag} {a : Addr} {xs : List V} {g : TG} {tb : TS} {D : Ends} {σ : L2.St} {H : Hp} (Pv : Nat → L2.St → Hp → Prop) (h0 : Pv 0 σ H) (hl : ∀ i σ H, i ≤ xs.length → Pv i σ H → SqL K H a xs)
    (hs : ∀ i x σ H T, xs[i]? = some x → Pv i σ H → H T = none → g (.ref T) σ (upd H T (.tup [.int (i : Nat), x])) fun σ2 H2 => tb { D with nx := Pv (i + 1), ct := Pv (i + 1), bk := D.nx } σ2 H2) (hd : ∀ σ H, Pv xs.length σ H → D.nx σ H) :
    ∃ W : Nat → Nat → L2.St → Hp → Prop, (∃ m, W 0 m σ H) ∧ ∀ i m σ H, W i m σ H →
      ((Ite K a).stop i H ∧ D.nx σ H) ∨ ((Ite K a).go i H ∧ ∃ N : L2.St → Hp → Prop, (∀ σ' H', N σ' H' → ∃ m', m' < m ∧ W (i + 1) m' σ' H') ∧ ∀ x H', (Ite K a).yld i H x H' → g x σ H' fun σ2 H2 => tb { D with nx := N, ct := N, bk := D.nx } σ2 H2) := by
  refine for_it (walk_enum (K := K) (a := a) (xs := xs)) Pv h0 hl (fun i x σ H H' hi p y => ?_) hd
  obtain ⟨T, x', y', rfl, hT, rfl, e1, e2⟩ := y
  cases e1
  exact hs i y' σ H T e2 p hT
/-! ### attributes -/
def mF (a b : V) : List (Str × V) := [("_slots", a), ("_known", b)]
theorem mnf0_1 : ¬ (("_slots" : Str) = "_known") := by decide +kernel
theorem mbf0_1 : (("_slots" : Str) == "_known") = false := by decide +kernel
theorem mnf1_0 : ¬ (("_known" : Str) = "_slots") := by decide +kernel
theorem mbf1_0 : (("_known" : Str) == "_slots") = false := by decide +kernel
theorem mbf0_0 : (("_slots" : Str) == "_slots") = true := by decide +kernel
theorem mbf1_1 : (("_known" : Str) == "_known") = true := by decide +kernel
theorem mF_get0 {a b : V} : (mF a b).lookup ("_slots" : Str) = some a := by
  unfold mF
  simp only [List.lookup, mbf0_0]
theorem mF_put0 {a b z : V} : putF "_slots" z (mF a b) = mF z b := by
  unfold mF
  simp only [putF, if_true, eq_self_iff_true]
theorem mF_get1 {a b : V} : (mF a b).lookup ("_known" : Str) = some b := by
  unfold mF
  simp only [List.lookup, mbf1_0, mbf1_1]
theorem mF_put1 {a b z : V} : putF "_known" z (mF a b) = mF a z := by
  unfold mF
  simp only [putF, if_neg mnf0_1, if_true, eq_self_iff_true]
theorem mF_made {a b : V} : (putF "_known" b (putF "_slots" a [])) = mF a b := by
  unfold mF
  simp only [putF, if_neg mnf0_1]
theorem mF_no_records {a b : V} : (mF a b).lookup ("records" : Str) = none := by
  unfold mF
  simp only [List.lookup, (show (("records" : Str) == "_slots") = false by decide +kernel), (show (("records" : Str) == "_known") = false by decide +kernel)]
theorem mF_no_slot_of {a b : V} : (mF a b).lookup ("slot_of" : Str) = none := by
  unfold mF
  simp only [List.lookup, (show (("slot_of" : Str) == "_slots") = false by decide +kernel), (show (("slot_of" : Str) == "_known") = false by decide +kernel)]
theorem mF_no_record_in {a b : V} : (mF a b).lookup ("record_in" : Str) = none := by
  unfold mF
  simp only [List.lookup, (show (("record_in" : Str) == "_slots") = false by decide +kernel), (show (("record_in" : Str) == "_known") = false by decide +kernel)]
theorem mF_no_use {a b : V} : (mF a b).lookup ("use" : Str) = none := by
  unfold mF
  simp only [List.lookup, (show (("use" : Str) == "_slots") = false by decide +kernel), (show (("use" : Str) == "_known") = false by decide +kernel)]
theorem mF_no_learn {a b : V} : (mF a b).lookup ("learn" : Str) = none := by
  unfold mF
  simp only [List.lookup, (show (("learn" : Str) == "_slots") = false by decide +kernel), (show (("learn" : Str) == "_known") = false by decide +kernel)]
theorem mF_no_learn_clean {a b : V} : (mF a b).lookup ("learn_clean" : Str) = none := by
  unfold mF
  simp only [List.lookup, (show (("learn_clean" : Str) == "_slots") = false by decide +kernel), (show (("learn_clean" : Str) == "_known") = false by decide +kernel)]
theorem mF_no_forget {a b : V} : (mF a b).lookup ("forget" : Str) = none := by
  unfold mF
  simp only [List.lookup, (show (("forget" : Str) == "_slots") = false by decide +kernel), (show (("forget" : Str) == "_known") = false by decide +kernel)]
theorem mF_no_dirty_slots {a b : V} : (mF a b).lookup ("dirty_slots" : Str) = none := by
  unfold mF
  simp only [List.lookup, (show (("dirty_slots" : Str) == "_slots") = false by decide +kernel), (show (("dirty_slots" : Str) == "_known") = false by decide +kernel)]
theorem mF_no_slot_to_take {a b : V} : (mF a b).lookup ("slot_to_take" : Str) = none := by
  unfold mF
  simp only [List.lookup, (show (("slot_to_take" : Str) == "_slots") = false by decide +kernel), (show (("slot_to_take" : Str) == "_known") = false by decide +kernel)]
def kF (a b c d : V) : List (Str × V) := [("record", a), ("came", b), ("used", c), ("uses", d)]
theorem knf0_1 : ¬ (("record" : Str) = "came") := by decide +kernel
theorem kbf0_1 : (("record" : Str) == "came") = false := by decide +kernel
theorem knf0_2 : ¬ (("record" : Str) = "used") := by decide +kernel
theorem kbf0_2 : (("record" : Str) == "used") = false := by decide +kernel
theorem knf0_3 : ¬ (("record" : Str) = "uses") := by decide +kernel
theorem kbf0_3 : (("record" : Str) == "uses") = false := by decide +kernel
theorem knf1_0 : ¬ (("came" : Str) = "record") := by decide +kernel
theorem kbf1_0 : (("came" : Str) == "record") = false := by decide +kernel
theorem knf1_2 : ¬ (("came" : Str) = "used") := by decide +kernel
theorem kbf1_2 : (("came" : Str) == "used") = false := by decide +kernel
theorem knf1_3 : ¬ (("came" : Str) = "uses") := by decide +kernel
theorem kbf1_3 : (("came" : Str) == "uses") = false := by decide +kernel
theorem knf2_0 : ¬ (("used" : Str) = "record") := by decide +kernel
theorem kbf2_0 : (("used" : Str) == "record") = false := by decide +kernel
theorem knf2_1 : ¬ (("used" : Str) = "came") := by decide +kernel
theorem kbf2_1 : (("used" : Str) == "came") = false := by decide +kernel
theorem knf2_3 : ¬ (("used" : Str) = "uses") := by decide +kernel
theorem kbf2_3 : (("used" : Str) == "uses") = false := by decide +kernel
theorem knf3_0 : ¬ (("uses" : Str) = "record") := by decide +kernel
theorem kbf3_0 : (("uses" : Str) == "record") = false := by decide +kernel
theorem knf3_1 : ¬ (("uses" : Str) = "came") := by decide +kernel
theorem kbf3_1 : (("uses" : Str) == "came") = false := by decide +kernel
theorem knf3_2 : ¬ (("uses" : Str) = "used") := by decide +kernel
theorem kbf3_2 : (("uses" : Str) == "used") = false := by decide +kernel
theorem kbf0_0 : (("record" : Str) == "record") = true := by decide +kernel
theorem kbf1_1 : (("came" : Str) == "came") = true := by decide +kernel
theorem kbf2_2 : (("used" : Str) == "used") = true := by decide +kernel
theorem kbf3_3 : (("uses" : Str) == "uses") = true := by decide +kernel
theorem kF_get0 {a b c d : V} : (kF a b c d).lookup ("record" : Str) = some a := by
  unfold kF
  simp only [List.lookup, kbf0_0]
theorem kF_put0 {a b c d z : V} : putF "record" z (kF a b c d) = kF z b c d := by
  unfold kF
  simp only [putF, if_true, eq_self_iff_true]
theorem kF_get1 {a b c d : V} : (kF a b c d).lookup ("came" : Str) = some b := by
  unfold kF
  simp only [List.lookup, kbf1_0, kbf1_1]
theorem kF_put1 {a b c d z : V} : putF "came" z (kF a b c d) = kF a z c d := by
  unfold kF
  simp only [putF, if_neg knf0_1, if_true, eq_self_iff_true]
theorem kF_get2 {a b c d : V} : (kF a b c d).lookup ("used" : Str) = some c := by
  unfold kF
  simp only [List.lookup, kbf2_0, kbf2_1, kbf2_2]
theorem kF_put2 {a b c d z : V} : putF "used" z (kF a b c d) = kF a b z d := by
  unfold kF
  simp only [putF, if_neg knf0_2, if_neg knf1_2, if_true, eq_self_iff_true]
theorem kF_get3 {a b c d : V} : (kF a b c d).lookup ("uses" : Str) = some d := by
  unfold kF
  simp only [List.lookup, kbf3_0, kbf3_1, kbf3_2, kbf3_3]
theorem kF_put3 {a b c d z : V} : putF "uses" z (kF a b c d) = kF a b c z := by
  unfold kF
  simp only [putF, if_neg knf0_3, if_neg knf1_3, if_neg knf2_3, if_true, eq_self_iff_true]
theorem kF_made {a b c d : V} : (putF "uses" d (putF "used" c (putF "came" b (putF "record" a [])))) = kF a b c d := by
  unfold kF
  simp only [putF, if_neg knf0_1, if_neg knf0_2, if_neg knf0_3, if_neg knf1_2, if_neg knf1_3, if_neg knf2_3]
theorem dU {k : Nat} {A : Around} (r : Room k A) : A.units + 1 < cLine := by
  have := r.un
  omega
/-! ### records, known slots, the memory -/
structure Rc where
  blk : Nat
  val : Nat
  turn : Nat
  dirty : Bool
def Rc.vs (r : Rc) : List V := [.int (r.blk : Int), .int (r.val : Int), .int (r.turn : Int), .bl r.dirty]
/-- a known slot: where its object and its record lie, and what they say -/
structure Kn where
  slot : Nat
  rc : Rc
  came : Int
  used : Int
  uses : Int
structure Kp extends Kn where
  ka : Addr
  kx : Addr
  kt : Addr
def Kp.kv (q : Kp) : Key × V := (Sum.inl (q.slot : Int), V.ref q.ka)
def Kp.ob (C : Addr) (q : Kp) : HO := .ins C q.kx (kF (.ref q.kt) (.int q.came) (.int q.used) (.int q.uses))
structure Mm where
  m : Addr
  x : Addr
  d : Addr
def Mm.own (M : Mm) (ks : List Kp) : List Addr := M.m :: M.d :: ks.map Kp.ka
structure MemAt (CM CK : Addr) (H : Hp) (M : Mm) (n : Nat) (ks : List Kp) : Prop where
  ins : H M.m = some (.ins CM M.x (mF (.int (n : Int)) (.ref M.d)))
  dct : H M.d = some (.dK (ks.map Kp.kv))
  one : ∀ q ∈ ks, H q.ka = some (q.ob CK)
  rcd : ∀ q ∈ ks, H q.kt = some (.tup q.rc.vs)
  dis : (ks.map Kp.ka).Nodup
  sl : (ks.map (fun q => q.slot)).Nodup
  lt : ∀ q ∈ ks, q.slot < n
  few : n ≤ 8
theorem mem_len {n : Nat} {l : List Nat} (h : l.Nodup) (b : ∀ x ∈ l, x < n) : l.length ≤ n := by
  induction n generalizing l with
  | zero =>
    cases l with
    | nil => exact Nat.le_refl _
    | cons a r => exact absurd (b a List.mem_cons_self) (by omega)
  | succ n ih =>
    have h1 := ih (l := l.erase n) (h.erase n) (fun x hx => by
      have h2 := (List.Nodup.mem_erase_iff h).mp hx
      have := b x h2.2
      have := h2.1
      omega)
    by_cases hn : n ∈ l
    · have := List.length_erase_of_mem hn
      have : 0 < l.length := List.length_pos_of_mem hn
      omega
    · rw [List.erase_of_not_mem hn] at h1
      omega
section
variable {CM CK : Addr} {H H' : Hp} {M : Mm} {n : Nat} {ks : List Kp}
theorem MemAt.there (h : MemAt CM CK H M n ks) : ∀ b ∈ M.own ks, ∃ o, H b = some o := by
  intro b hb
  simp only [Mm.own, List.mem_cons, List.mem_map] at hb
  rcases hb with rfl | rfl | ⟨q, hq, rfl⟩
  · exact ⟨_, h.ins⟩
  · exact ⟨_, h.dct⟩
  · exact ⟨_, h.one q hq⟩
theorem MemAt.notup (h : MemAt CM CK H M n ks) : ∀ b ∈ M.own ks, ∀ xs, H b ≠ some (.tup xs) := by
  intro b hb xs
  simp only [Mm.own, List.mem_cons, List.mem_map] at hb
  rcases hb with rfl | rfl | ⟨q, hq, rfl⟩
  · rw [h.ins]; simp
  · rw [h.dct]; simp
  · rw [h.one q hq]; simp [Kp.ob]
theorem MemAt.len (h : MemAt CM CK H M n ks) : ks.length ≤ 8 := by
  have := mem_len h.sl (fun x hx => by
    obtain ⟨q, hq, rfl⟩ := List.mem_map.mp hx
    exact h.lt q hq)
  rw [List.length_map] at this
  exact Nat.le_trans this h.few
theorem MemAt.md (h : MemAt CM CK H M n ks) : M.m ≠ M.d := ne_of h.ins h.dct (by simp)
theorem kF_mF {a b c d e f : V} : kF a b c d ≠ mF e f := by
  intro z
  unfold kF mF at z
  simp at z
theorem MemAt.qm (h : MemAt CM CK H M n ks) {q : Kp} (hq : q ∈ ks) : q.ka ≠ M.m := ne_of (h.one q hq) h.ins (by
  unfold Kp.ob
  intro z
  injection z with _ _ z
  exact kF_mF z)
theorem MemAt.qd (h : MemAt CM CK H M n ks) {q : Kp} (hq : q ∈ ks) : q.ka ≠ M.d := ne_of (h.one q hq) h.dct (by simp [Kp.ob])
/-- it stays where only what it does not own changes (and no tuple does) -/
theorem MemAt.keep {S : List Addr} (h : MemAt CM CK H M n ks) (f : Fr S H H') (a : ∀ b ∈ M.own ks, b ∉ S) (m : ∀ b ∈ S, ∀ xs, H b ≠ some (.tup xs)) : MemAt CM CK H' M n ks :=
  ⟨f _ _ h.ins (a _ (by simp [Mm.own])), f _ _ h.dct (a _ (by simp [Mm.own])), fun q hq => f _ _ (h.one q hq) (a _ (by simp only [Mm.own, List.mem_cons, List.mem_map]; exact .inr (.inr ⟨q, hq, rfl⟩))),
    fun q hq => f _ _ (h.rcd q hq) (fun z => m _ z _ (h.rcd q hq)), h.dis, h.sl, h.lt, h.few⟩
theorem MemAt.keep0 (h : MemAt CM CK H M n ks) (f : Fr [] H H') : MemAt CM CK H' M n ks := h.keep f (fun _ _ => by simp) (fun _ hb => by cases hb)
end
/-- what the dict says of a slot -/
def atSlot (ks : List Kp) (s : Nat) : Option Kp := ks.find? fun q => decide (q.slot = s)
theorem valV_kv (ks : List Kp) (s : Nat) : valV (ks.map Kp.kv) (Sum.inl (s : Int)) = (atSlot ks s).map fun q => V.ref q.ka := by
  unfold valV atSlot
  induction ks with
  | nil => rfl
  | cons q ks ih =>
    rw [List.map_cons, List.find?_cons, List.find?_cons]
    by_cases e : q.slot = s
    · have e1 : decide (q.slot = s) = true := decide_eq_true e
      have e2 : decide ((Kp.kv q).1 = Sum.inl (s : Int)) = true := decide_eq_true (by rw [← e]; rfl)
      rw [e1, e2]
      rfl
    · have e1 : decide (q.slot = s) = false := decide_eq_false e
      have e2 : decide ((Kp.kv q).1 = Sum.inl (s : Int)) = false := decide_eq_false (by
        intro z
        have : (q.slot : Int) = (s : Int) := Sum.inl.inj z
        omega)
      rw [e1, e2]
      exact ih
theorem atSlot_mem {ks : List Kp} {s : Nat} {q : Kp} (h : atSlot ks s = some q) : q ∈ ks ∧ q.slot = s :=
  ⟨List.mem_of_find?_eq_some h, of_decide_eq_true (List.find?_some (p := fun (q : Kp) => decide (q.slot = s)) h)⟩
theorem atSlot_none {ks : List Kp} {s : Nat} (h : atSlot ks s = none) : ∀ q ∈ ks, q.slot ≠ s := fun q hq e => by
  have := List.find?_eq_none.mp h q hq
  simp [e] at this
theorem atSlot_of {ks : List Kp} (nd : (ks.map (fun q => q.slot)).Nodup) {q : Kp} (hq : q ∈ ks) : atSlot ks q.slot = some q := by
  cases h : atSlot ks q.slot with
  | none => exact absurd rfl (atSlot_none h q hq)
  | some p =>
    obtain ⟨hp, e⟩ := atSlot_mem h
    have : p = q := by
      induction ks with
      | nil => cases hq
      | cons a r ih =>
        rw [List.map_cons, List.nodup_cons] at nd
        rcases List.mem_cons.mp hp with e1 | e1
        · rcases List.mem_cons.mp hq with e2 | e2
          · rw [e1, e2]
          · exact absurd (List.mem_map.mpr ⟨q, e2, by rw [← e, e1]⟩) nd.1
        · rcases List.mem_cons.mp hq with e2 | e2
          · exact absurd (List.mem_map.mpr ⟨p, e1, by rw [e, e2]⟩) nd.1
          · refine ih nd.2 e2 ?_ e1
            cases h' : atSlot r q.slot with
            | none => exact absurd e (atSlot_none h' p e1)
            | some p' =>
              unfold atSlot at h h'
              rw [List.find?_cons] at h
              have : decide (a.slot = q.slot) = false := decide_eq_false (fun z => nd.1 (List.mem_map.mpr ⟨q, e2, z.symm⟩))
              rw [this] at h
              simp only [] at h
              rw [h] at h'
              exact h'.symm
    rw [this]
def slV : Option Nat → V
  | some s => .int (s : Int)
  | none => .non
/-- the slot in which a block is known -/
def slotOf (ks : List Kp) (b : Nat) : Option Nat := (ks.find? fun q => decide (q.rc.blk = b)).map (fun q => q.slot)
theorem slotOf_at {ks : List Kp} {b i : Nat} (hi : i < ks.length) (nb : ∀ q ∈ ks.take i, q.rc.blk ≠ b) (e : ks[i].rc.blk = b) : slotOf ks b = some ks[i].slot := by
  unfold slotOf
  have : ks.find? (fun q => decide (q.rc.blk = b)) = some ks[i] := by
    rw [List.find?_eq_some_iff_getElem]
    refine ⟨decide_eq_true e, i, hi, rfl, fun j hj => ?_⟩
    have : ks[j] ∈ ks.take i := by
      rw [List.mem_take_iff_getElem]
      exact ⟨j, by omega, rfl⟩
    simpa using nb _ this
  rw [this]
  rfl
theorem slotOf_no {ks : List Kp} {b : Nat} (nb : ∀ q ∈ ks, q.rc.blk ≠ b) : slotOf ks b = none := by
  unfold slotOf
  rw [List.find?_eq_none.mpr (fun q hq => by simpa using nb q hq)]
  rfl
/-- unlocked again -/
theorem Fr.unlock {H H' : Hp} {d : Addr} {od : Obj} {u : HO} (e : H d = some u) (f : Fr [] (upd H d (.frz od u)) H') : H' d = some (.frz od u) ∧ Fr [] H (upd H' d u) := by
  refine ⟨f _ _ upd_same (by simp), fun b o hb _ => ?_⟩
  by_cases z : b = d
  · rw [z] at hb ⊢
    rw [e] at hb
    cases hb
    exact upd_same
  · rw [upd_ne z]
    exact f _ _ ((upd_ne z).trans hb) (by simp)
theorem iteB {A B : Prop} {b : Bool} (h1 : b = true → A) (h2 : b = false → B) : if b = true then A else B := by
  cases b with
  | true => exact iteT (h1 rfl)
  | false => exact iteF (h2 rfl)
def spKInit (C : Addr) : Sp := fun vs H Q _ => ∃ (p dx t : Addr) (r : Int), vs = [.ref p, .ref t, .int r] ∧ H p = some (.ins C dx []) ∧ ∀ H' : Hp, H' = upd H p (.ins C dx (kF (.ref t) (.int r) (.int r) (.int 1))) → Q .non H'
def spMInit (CM CK : Addr) : Sp := fun vs H Q _ => ∃ (p dx : Addr) (n : Nat), vs = [.ref p, .int (n : Int)] ∧ n ≤ 8 ∧ H p = some (.ins CM dx []) ∧ ∀ (d : Addr) (H' : Hp), H d = none → Fr [p] H H' → MemAt CM CK H' ⟨p, dx, d⟩ n [] → Q .non H'
def spSlotOf (CM CK : Addr) : Sp := fun vs H Q _ => ∃ (M : Mm) (n b : Nat) (ks : List Kp), vs = [.ref M.m, .int (b : Int)] ∧ MemAt CM CK H M n ks ∧ ∀ H' : Hp, Fr [] H H' → Q (slV (slotOf ks b)) H'
section
variable {P : Program} {w : World} {K : PySem.W.Frag} {mg : Str → Option Value} {base : Heap}
theorem ok_kInit (T : Gx K mg) : FnOk P w K mg base CX0 1 T.f_KnownSlot___init__ T.fd_KnownSlot___init__ ["self", "record", "request"] (spKInit T.C_KnownSlot) := by
  refine T.F_KnownSlot___init__.ok sc_KnownSlot___init__ (fun vs H Q E h => ?_) (fun cdv A outer s H vs Q E hr h => ?_)
  · obtain ⟨p, dx, t, r, rfl, _⟩ := h
    rfl
  · obtain ⟨p, dx, t, r, rfl, hp, k⟩ := h
    refine ⟨_, (pss_cons (ps_fld (pv 0) (pv 1) rfl)
      (pss_cons (ps_fld (pv 0) (pv 2) rfl)
      (pss_cons (ps_fld (pv 0) (pv 2) rfl)
      (pss_one (ps_fld (pv 0) pe_int rfl))))), ?_⟩
    refine ⟨_, rfl, _, rfl, p, T.C_KnownSlot, dx, _, rfl, hp, T.cl_KnownSlot, T.n_KnownSlot_record, by simp, ?_⟩
    refine ⟨_, rfl, _, rfl, p, T.C_KnownSlot, dx, _, rfl, upd_same, T.cl_KnownSlot, T.n_KnownSlot_came, Nat.lt_of_le_of_lt (putF_len _ _ _) (by simp), ?_⟩
    refine ⟨_, rfl, _, rfl, p, T.C_KnownSlot, dx, _, rfl, upd_same, T.cl_KnownSlot, T.n_KnownSlot_used, Nat.lt_of_le_of_lt (putF_len _ _ _) (Nat.lt_of_le_of_lt (Nat.succ_le_succ (putF_len _ _ _)) (by simp)), ?_⟩
    refine ⟨_, rfl, p, T.C_KnownSlot, dx, _, rfl, upd_same, T.cl_KnownSlot, T.n_KnownSlot_uses, Nat.lt_of_le_of_lt (putF_len _ _ _) (Nat.lt_of_le_of_lt (Nat.succ_le_succ (Nat.le_trans (putF_len _ _ _) (Nat.succ_le_succ (putF_len _ _ _)))) (by simp)), ?_⟩
    rw [kF_made, upd_upd, upd_upd, upd_upd]
    exact k _ rfl
theorem ok_mInit (T : Gx K mg) : FnOk P w K mg base CX0 1 T.f_Memory___init__ T.fd_Memory___init__ ["self", "slots"] (spMInit T.C_Memory T.C_KnownSlot) := by
  refine T.F_Memory___init__.ok sc_Memory___init__ (fun vs H Q E h => ?_) (fun cdv A outer s H vs Q E hr h => ?_)
  · obtain ⟨p, dx, n, rfl, _⟩ := h
    rfl
  · obtain ⟨p, dx, n, rfl, hn, hp, k⟩ := h
    refine ⟨_, (pss_cons (ps_fld (pv 0) (pv 1) rfl)
      (pss_one (ps_fld (pv 0) pe_dnewK rfl))), ?_⟩
    refine ⟨_, rfl, _, rfl, p, T.C_Memory, dx, _, rfl, hp, T.cl_Memory, T.n_Memory__slots, by simp, ?_⟩
    intro d hd
    have hd1 := free_upd hd
    refine ⟨_, rfl, p, T.C_Memory, dx, _, rfl, (upd_ne hd1.2.symm).trans upd_same, T.cl_Memory, T.n_Memory__known, Nat.lt_of_le_of_lt (putF_len _ _ _) (by simp), ?_⟩
    rw [mF_made]
    refine k d _ hd1.1 (((Fr.put (by simp)).trans (Fr.new hd)).trans (Fr.put (by simp))) ⟨upd_same, ?_, fun q hq => (by cases hq), fun q hq => (by cases hq), .nil, .nil, fun q hq => (by cases hq), hn⟩
    exact (upd_ne hd1.2).trans upd_same
theorem ok_slotOf (T : Gx K mg) : FnOk P w K mg base CX0 1 T.f_Memory_slot_of T.fd_Memory_slot_of ["self", "block"] (spSlotOf T.C_Memory T.C_KnownSlot) := by
  refine T.F_Memory_slot_of.ok sc_Memory_slot_of (fun vs H Q E h => ?_) (fun cdv A outer s H vs Q E hr h => ?_)
  · obtain ⟨M, n, b, ks, rfl, _⟩ := h
    rfl
  · obtain ⟨M, n, b, ks, rfl, hM, k⟩ := h
    refine ⟨_, (pss_cons (ps_lock (ps_for PassesOwn.never rfl (pi_items (pe_fld (pv 0) rfl)) (pg_tup (by rfl) (pgs_cons (pg_name (i := 2) sc_Memory_slot_of.nd rfl (.inl rfl)) (pgs_cons (pg_name (i := 3) sc_Memory_slot_of.nd rfl (.inl rfl)) pgs_nil))) (pss_one (ps_if (pt_cmpR op_eq (pe_ix ix_tup (pe_fld (pv 3) rfl) (pe_glob (v := .int (0)) (by rfl) T.c_BLOCK ⟨_, rfl⟩) (fun _ _ => rfl)) (pv 1) (nomark _)) (pss_one (ps_ret (pv 2))) pss_nil))))
      (pss_one (ps_ret pe_non))), ?_⟩
    refine ⟨M.d, _, hM.dct, trivial, fun od => ?_⟩
    have hM1 : ∀ a o, H a = some o → a ≠ M.d → (upd H M.d (.frz od (.dK (ks.map Kp.kv)))) a = some o := fun a o e z => (upd_ne z).trans e
    refine ⟨_, rfl, M.m, T.C_Memory, M.x, _, _, rfl, hM1 _ _ hM.ins hM.md, T.cl_Memory, T.n_Memory__known, mF_get1, M.d, od, _, rfl, upd_same, ?_⟩
    refine for_it (walk_items (d := M.d) (o := od) (kvs := ks.map Kp.kv)) (fun i σ H' => Fr [] (upd H M.d (.frz od (.dK (ks.map Kp.kv)))) H' ∧ (∀ q ∈ ks.take i, q.rc.blk ≠ b) ∧ ∃ v2 v3 : Option V, σ = [some (.ref M.m), some (.int (b : Int)), v2, v3]) ⟨Fr.refl _ _, by simp, none, none, rfl⟩ (fun i σ H' _ g => g.1 _ _ upd_same (by simp)) ?_ ?_
    · rintro i x σ H1 H2 hi ⟨f1, nb, v2, v3, rfl⟩ ⟨U, x1, y1, rfl, hU, rfl, e1, e2⟩
      have hi' : i < ks.length := by simpa using hi
      simp only [List.getElem?_map, List.getElem?_eq_getElem hi', Option.map_some, Option.some.injEq] at e1 e2
      cases e1
      cases e2
      have hq : ks[i] ∈ ks := List.getElem_mem hi'
      have f2 : Fr [] (upd H M.d (.frz od (.dK (ks.map Kp.kv)))) (upd H1 U (.tup [kV (Kp.kv ks[i]).1, (Kp.kv ks[i]).2])) := f1.trans (Fr.new hU)
      refine ⟨U, _, rfl, SqT.of upd_same, rfl, _, _, rfl, _, _, rfl, rfl, ?_⟩
      have h1 := f2 _ _ (hM1 _ _ (hM.one _ hq) (hM.qd hq)) (by simp)
      have h2 := f2 _ _ (hM1 _ _ (hM.rcd _ hq) (ne_of (hM.rcd _ hq) hM.dct (by simp))) (by simp)
      refine ⟨_, rfl, _, T.C_KnownSlot, _, _, _, rfl, h1, T.cl_KnownSlot, T.n_KnownSlot_record, kF_get0, _, _, (0 : Int), _, rfl, rfl, SqT.of h2, rfl, _, rfl, ?_⟩
      refine ⟨rfl, _, rfl, iteB (fun e => ?_) fun e => ?_⟩
      · have e' : ks[i].rc.blk = b := by
          have := of_decide_eq_true e
          injection this with this
          omega
        obtain ⟨g1, g2⟩ := Fr.unlock hM.dct f2
        refine ⟨_, rfl, g1, ?_⟩
        have := k _ g2
        rw [slotOf_at hi' nb e'] at this
        exact this
      · refine ⟨f2, fun q hq => ?_, _, _, rfl⟩
        rw [List.take_succ, List.getElem?_eq_getElem hi'] at hq
        rcases List.mem_append.mp hq with z | z
        · exact nb q z
        · have z' : q = ks[i] := by simpa using z
          rw [z']
          have := of_decide_eq_false e
          exact fun z2 => this (congrArg (fun (u : Nat) => V.int (u : Int)) z2)
    · rintro σ H1 ⟨f1, nb, v2, v3, rfl⟩
      obtain ⟨g1, g2⟩ := Fr.unlock hM.dct f1
      refine ⟨g1, ?_⟩
      have := k _ g2
      rw [slotOf_no (by simpa using nb)] at this
      exact this
end
/-! ### what changes a memory -/
def putN (kn : List Kn) (q : Kn) : List Kn := if (kn.any fun p => decide (p.slot = q.slot)) = true then kn.map (fun p => if p.slot = q.slot then q else p) else kn ++ [q]
def forgetN (s : Nat) (kn : List Kn) : List Kn := kn.filter fun p => decide (p.slot ≠ s)
def useN (s : Nat) (r : Int) (kn : List Kn) : List Kn := kn.map fun p => if p.slot = s then { p with used := r, uses := if 9 < p.uses + 1 then 9 else p.uses + 1 } else p
def atN (kn : List Kn) (s : Nat) : Option Kn := kn.find? fun p => decide (p.slot = s)
def recN (s : Nat) (rc : Rc) (kn : List Kn) : List Kn := kn.map fun p => if p.slot = s then { p with rc := rc } else p
def learnN (s : Nat) (rc : Rc) (r : Int) (kn : List Kn) : List Kn := match atN kn s with
  | some p => if p.rc.blk = rc.blk then recN s rc kn else putN kn ⟨s, rc, r, r, 1⟩
  | none => putN kn ⟨s, rc, r, r, 1⟩
abbrev kns (ks : List Kp) : List Kn := ks.map Kp.toKn
theorem atN_kns (ks : List Kp) (s : Nat) : atN (kns ks) s = (atSlot ks s).map Kp.toKn := by
  unfold atN kns atSlot
  rw [List.find?_map]
  rfl
def setP (ks : List Kp) (q' : Kp) : List Kp := ks.map fun p => if p.slot = q'.slot then q' else p
theorem setP_kns (ks : List Kp) (q' : Kp) : kns (setP ks q') = (kns ks).map fun p => if p.slot = q'.slot then q'.toKn else p := by
  unfold kns setP
  rw [List.map_map, List.map_map]
  refine List.map_congr_left fun p _ => ?_
  show Kp.toKn (if p.slot = q'.slot then q' else p) = if p.slot = q'.slot then q'.toKn else p.toKn
  split <;> rfl
theorem setP_slots (ks : List Kp) (q' : Kp) : (setP ks q').map (fun q => q.slot) = ks.map (fun q => q.slot) := by
  unfold setP
  rw [List.map_map]
  refine List.map_congr_left fun p _ => ?_
  show (if p.slot = q'.slot then q' else p).slot = p.slot
  split
  · rename_i h
    exact h.symm
  · rfl
theorem setP_mem {ks : List Kp} {q' p : Kp} (h : p ∈ setP ks q') : p = q' ∨ (p ∈ ks ∧ p.slot ≠ q'.slot) := by
  obtain ⟨a, ha, e⟩ := List.mem_map.mp h
  by_cases z : a.slot = q'.slot
  · rw [if_pos z] at e
    exact .inl e.symm
  · rw [if_neg z] at e
    exact .inr ⟨e ▸ ha, e ▸ z⟩
theorem slot_inj {ks : List Kp} (nd : (ks.map (fun q => q.slot)).Nodup) {p q : Kp} (hp : p ∈ ks) (hq : q ∈ ks) (e : p.slot = q.slot) : p = q := by
  have h1 := atSlot_of nd hp
  have h2 := atSlot_of nd hq
  rw [e, h2] at h1
  cases h1
  rfl
theorem ka_inj {ks : List Kp} (nd : (ks.map Kp.ka).Nodup) : ∀ {p q : Kp}, p ∈ ks → q ∈ ks → p.ka = q.ka → p = q := by
  induction ks with
  | nil => intro p q hp; cases hp
  | cons a r ih =>
    intro p q hp hq e
    rw [List.map_cons, List.nodup_cons] at nd
    rcases List.mem_cons.mp hp with e1 | e1
    · rcases List.mem_cons.mp hq with e2 | e2
      · rw [e1, e2]
      · exact absurd (List.mem_map.mpr ⟨q, e2, by rw [← e, e1]⟩) nd.1
    · rcases List.mem_cons.mp hq with e2 | e2
      · exact absurd (List.mem_map.mpr ⟨p, e1, by rw [e, e2]⟩) nd.1
      · exact ih nd.2 e1 e2 e
section
variable {CM CK : Addr} {H H' : Hp} {M : Mm} {n : Nat} {ks : List Kp}
theorem MemAt.setq (h : MemAt CM CK H M n ks) {q q' : Kp} (hq : q ∈ ks) (es : q'.slot = q.slot) (ea : q'.ka = q.ka ∨ H q'.ka = none) (f : Fr [q.ka, M.d] H H') (e1 : H' M.d = some (.dK ((setP ks q').map Kp.kv)))
    (e2 : H' q'.ka = some (q'.ob CK)) (e3 : H' q'.kt = some (.tup q'.rc.vs)) : MemAt CM CK H' M n (setP ks q') := by
  have nt : ∀ b ∈ [q.ka, M.d], ∀ xs, H b ≠ some (.tup xs) := by
    intro b hb xs
    simp only [List.mem_cons, List.not_mem_nil, or_false] at hb
    rcases hb with rfl | rfl
    · rw [h.one q hq]; simp [Kp.ob]
    · rw [h.dct]; simp
  have ne : ∀ p ∈ ks, p.slot ≠ q'.slot → p.ka ≠ q.ka := fun p hp z e => z (by rw [ka_inj h.dis hp hq e, es])
  refine ⟨f _ _ h.ins ?_, e1, fun p hp => ?_, fun p hp => ?_, ?_, ?_, fun p hp => ?_, h.few⟩
  · simp only [List.mem_cons, List.not_mem_nil, or_false, not_or]
    exact ⟨(h.qm hq).symm, h.md⟩
  · rcases setP_mem hp with rfl | ⟨hp, z⟩
    · exact e2
    · refine f _ _ (h.one p hp) ?_
      simp only [List.mem_cons, List.not_mem_nil, or_false, not_or]
      exact ⟨ne p hp z, h.qd hp⟩
  · rcases setP_mem hp with rfl | ⟨hp, z⟩
    · exact e3
    · exact f _ _ (h.rcd p hp) (fun y => nt _ y _ (h.rcd p hp))
  · unfold setP List.Nodup
    rw [List.map_map, List.pairwise_map]
    have h1 : ks.Pairwise (fun a b => a.ka ≠ b.ka) := List.pairwise_map.mp h.dis
    have h2 : ks.Pairwise (fun a b => a.slot ≠ b.slot) := List.pairwise_map.mp h.sl
    refine List.Pairwise.imp_of_mem ?_ (h1.and h2)
    intro a b ha hb ⟨z1, z2⟩
    have fr : ∀ p ∈ ks, p.slot ≠ q'.slot → p.ka ≠ q'.ka := fun p hp z => by
      rcases ea with e | e
      · rw [e]; exact ne p hp z
      · exact ne_of_none (h.one p hp) e
    show (if a.slot = q'.slot then q' else a).ka ≠ (if b.slot = q'.slot then q' else b).ka
    by_cases za : a.slot = q'.slot
    · rw [if_pos za, if_neg (fun zb => z2 (za.trans zb.symm))]
      exact (fr b hb (fun zb => z2 (za.trans zb.symm))).symm
    · rw [if_neg za]
      by_cases zb : b.slot = q'.slot
      · rw [if_pos zb]
        exact fr a ha za
      · rw [if_neg zb]
        exact z1
  · rw [setP_slots]
    exact h.sl
  · rcases setP_mem hp with rfl | ⟨hp, z⟩
    · rw [es]
      exact h.lt q hq
    · exact h.lt p hp
theorem MemAt.app (h : MemAt CM CK H M n ks) {q' : Kp} (hs : ∀ q ∈ ks, q.slot ≠ q'.slot) (hn : q'.slot < n) (ea : H q'.ka = none) (f : Fr [M.d] H H') (e1 : H' M.d = some (.dK ((ks ++ [q']).map Kp.kv)))
    (e2 : H' q'.ka = some (q'.ob CK)) (e3 : H' q'.kt = some (.tup q'.rc.vs)) : MemAt CM CK H' M n (ks ++ [q']) := by
  refine ⟨f _ _ h.ins (by simpa using h.md), e1, fun p hp => ?_, fun p hp => ?_, ?_, ?_, fun p hp => ?_, h.few⟩
  · rcases List.mem_append.mp hp with z | z
    · exact f _ _ (h.one p z) (by simpa using h.qd z)
    · rw [List.mem_singleton.mp z]
      exact e2
  · rcases List.mem_append.mp hp with z | z
    · refine f _ _ (h.rcd p z) ?_
      rw [List.mem_singleton]
      exact ne_of (h.rcd p z) h.dct (by simp)
    · rw [List.mem_singleton.mp z]
      exact e3
  · rw [List.map_append, List.nodup_append]
    refine ⟨h.dis, by simp, fun a ha b hb => ?_⟩
    obtain ⟨p, hp, rfl⟩ := List.mem_map.mp ha
    have hb' : b = q'.ka := by simpa using hb
    rw [hb']
    exact ne_of_none (h.one p hp) ea
  · rw [List.map_append, List.nodup_append]
    refine ⟨h.sl, by simp, fun a ha b hb => ?_⟩
    obtain ⟨p, hp, rfl⟩ := List.mem_map.mp ha
    have hb' : b = q'.slot := by simpa using hb
    rw [hb']
    exact hs p hp
  · rcases List.mem_append.mp hp with z | z
    · exact h.lt p z
    · rw [List.mem_singleton.mp z]
      exact hn
theorem MemAt.filt (h : MemAt CM CK H M n ks) {g : Kp → Bool} (f : Fr [M.d] H H') (e1 : H' M.d = some (.dK ((ks.filter g).map Kp.kv))) : MemAt CM CK H' M n (ks.filter g) := by
  have sub : ∀ p ∈ ks.filter g, p ∈ ks := fun p hp => (List.mem_filter.mp hp).1
  refine ⟨f _ _ h.ins (by simpa using h.md), e1, fun p hp => f _ _ (h.one p (sub p hp)) (by simpa using h.qd (sub p hp)), fun p hp => f _ _ (h.rcd p (sub p hp)) ?_, ?_, ?_, fun p hp => h.lt p (sub p hp), h.few⟩
  · rw [List.mem_singleton]
    exact ne_of (h.rcd p (sub p hp)) h.dct (by simp)
  · exact h.dis.sublist (List.Sublist.map _ List.filter_sublist)
  · exact h.sl.sublist (List.Sublist.map _ List.filter_sublist)
end
theorem setP_kv (ks : List Kp) {q q' : Kp} (nd : (ks.map (fun q => q.slot)).Nodup) (hq : q ∈ ks) (es : q'.slot = q.slot) (ea : q'.ka = q.ka) : (setP ks q').map Kp.kv = ks.map Kp.kv := by
  unfold setP
  rw [List.map_map]
  refine List.map_congr_left fun p hp => ?_
  show Kp.kv (if p.slot = q'.slot then q' else p) = Kp.kv p
  by_cases z : p.slot = q'.slot
  · rw [if_pos z, slot_inj nd hp hq (z.trans es)]
    unfold Kp.kv
    rw [es, ea]
  · rw [if_neg z]
theorem any_kv (ks : List Kp) (s : Nat) : ((ks.map Kp.kv).any fun kv => decide (kv.1 = Sum.inl (s : Int))) = ks.any fun q => decide (q.slot = s) := by
  rw [List.any_map]
  refine congrArg (fun f => ks.any f) (funext fun q => ?_)
  refine decide_eq_decide.mpr ⟨fun z => ?_, fun z => ?_⟩
  · have : (q.slot : Int) = (s : Int) := Sum.inl.inj z
    omega
  · rw [← z]
    rfl
theorem putK_kv (ks : List Kp) (q' : Kp) : putK (ks.map Kp.kv) (Sum.inl (q'.slot : Int)) (.ref q'.ka) = (if (ks.any fun p => decide (p.slot = q'.slot)) = true then setP ks q' else ks ++ [q']).map Kp.kv := by
  unfold putK
  rw [any_kv]
  by_cases z : (ks.any fun p => decide (p.slot = q'.slot)) = true
  · rw [if_pos z, if_pos z]
    unfold setP
    rw [List.map_map, List.map_map]
    refine List.map_congr_left fun p _ => ?_
    show (if (Kp.kv p).1 = Sum.inl (q'.slot : Int) then ((Kp.kv p).1, V.ref q'.ka) else Kp.kv p) = Kp.kv (if p.slot = q'.slot then q' else p)
    by_cases e : p.slot = q'.slot
    · rw [if_pos e, if_pos (by rw [← e]; rfl)]
      show ((Sum.inl (p.slot : Int) : Key), V.ref q'.ka) = (Sum.inl (q'.slot : Int), V.ref q'.ka)
      rw [e]
    · rw [if_neg e, if_neg]
      intro z
      have : (p.slot : Int) = (q'.slot : Int) := Sum.inl.inj z
      omega
  · rw [if_neg z, if_neg z, List.map_append]
    rfl
theorem dropK_kv (ks : List Kp) (s : Nat) : dropK (ks.map Kp.kv) (Sum.inl (s : Int)) = (ks.filter fun p => decide (p.slot ≠ s)).map Kp.kv := by
  unfold dropK
  rw [List.filter_map]
  refine congrArg (List.map Kp.kv) (congrArg (fun f => ks.filter f) (funext fun p => ?_))
  show decide ((Kp.kv p).1 ≠ Sum.inl (s : Int)) = decide (p.slot ≠ s)
  refine decide_eq_decide.mpr ⟨fun z e => z (by rw [← e]; rfl), fun z e => z ?_⟩
  have : (p.slot : Int) = (s : Int) := Sum.inl.inj e
  omega
/-! ### the defs that change a memory -/
def Chg (CM CK : Addr) (H : Hp) (M : Mm) (n : Nat) (ks : List Kp) (kn' : List Kn) (Q : VK) : Prop :=
  ∀ (H' : Hp) (ks' : List Kp), Fr (M.own ks) H H' → MemAt CM CK H' M n ks' → kns ks' = kn' → (∀ b ∈ M.own ks', b ∈ M.own ks ∨ H b = none) → Q .non H'
def spUse (CM CK : Addr) : Sp := fun vs H Q _ => ∃ (M : Mm) (n s : Nat) (r : Int) (ks : List Kp), vs = [.ref M.m, .int (s : Int), .int r] ∧ MemAt CM CK H M n ks ∧ (atN (kns ks) s).isSome = true ∧ Chg CM CK H M n ks (useN s r (kns ks)) Q
def spForgetM (CM CK : Addr) : Sp := fun vs H Q _ => ∃ (M : Mm) (n s : Nat) (ks : List Kp), vs = [.ref M.m, .int (s : Int)] ∧ MemAt CM CK H M n ks ∧ Chg CM CK H M n ks (forgetN s (kns ks)) Q
def spLearn (CM CK : Addr) : Sp := fun vs H Q _ => ∃ (M : Mm) (n s : Nat) (t : Addr) (rc : Rc) (r : Int) (ks : List Kp), vs = [.ref M.m, .int (s : Int), .ref t, .int r] ∧ MemAt CM CK H M n ks ∧ s < n ∧ H t = some (.tup rc.vs) ∧ Chg CM CK H M n ks (learnN s rc r (kns ks)) Q
def spRecIn (CM CK : Addr) : Sp := fun vs H Q _ => ∃ (M : Mm) (n s : Nat) (ks : List Kp) (q : Kp), vs = [.ref M.m, .int (s : Int)] ∧ MemAt CM CK H M n ks ∧ atSlot ks s = some q ∧ Q (.ref q.kt) H
theorem own_sub {M : Mm} {ks ks' : List Kp} {H : Hp} (h : ∀ p ∈ ks', p.ka ∈ ks.map Kp.ka ∨ H p.ka = none) : ∀ b ∈ M.own ks', b ∈ M.own ks ∨ H b = none := by
  intro b hb
  unfold Mm.own at hb ⊢
  rcases List.mem_cons.mp hb with rfl | hb
  · exact .inl List.mem_cons_self
  · rcases List.mem_cons.mp hb with rfl | hb
    · exact .inl (List.mem_cons_of_mem _ List.mem_cons_self)
    · obtain ⟨p, hp, rfl⟩ := List.mem_map.mp hb
      rcases h p hp with z | z
      · exact .inl (List.mem_cons_of_mem _ (List.mem_cons_of_mem _ z))
      · exact .inr z
theorem own_d {M : Mm} {ks : List Kp} : M.d ∈ M.own ks := by simp [Mm.own]
theorem own_q {M : Mm} {ks : List Kp} {q : Kp} (h : q ∈ ks) : q.ka ∈ M.own ks := List.mem_cons_of_mem _ (List.mem_cons_of_mem _ (List.mem_map_of_mem h))
theorem setP_own {M : Mm} {ks : List Kp} {H : Hp} {q q' : Kp} (hq : q ∈ ks) (ea : q'.ka = q.ka ∨ H q'.ka = none) : ∀ b ∈ M.own (setP ks q'), b ∈ M.own ks ∨ H b = none :=
  own_sub fun p hp => by
    rcases setP_mem hp with rfl | ⟨z, _⟩
    · rcases ea with e | e
      · exact .inl (by rw [e]; exact List.mem_map_of_mem hq)
      · exact .inr e
    · exact .inl (List.mem_map_of_mem z)
theorem useN_set {ks : List Kp} {q : Kp} (nd : (ks.map (fun q => q.slot)).Nodup) (hq : q ∈ ks) (r : Int) :
    kns (setP ks { q with used := r, uses := if 9 < q.uses + 1 then 9 else q.uses + 1 }) = useN q.slot r (kns ks) := by
  unfold kns setP useN
  rw [List.map_map, List.map_map]
  refine List.map_congr_left fun p hp => ?_
  show Kp.toKn (if p.slot = q.slot then _ else p) = if p.slot = q.slot then _ else p.toKn
  by_cases z : p.slot = q.slot
  · rw [if_pos z, if_pos z, slot_inj nd hp hq z]
  · rw [if_neg z, if_neg z]
theorem recN_set {ks : List Kp} {q : Kp} (nd : (ks.map (fun q => q.slot)).Nodup) (hq : q ∈ ks) (rc : Rc) (t : Addr) : kns (setP ks { q with rc := rc, kt := t }) = recN q.slot rc (kns ks) := by
  unfold kns setP recN
  rw [List.map_map, List.map_map]
  refine List.map_congr_left fun p hp => ?_
  show Kp.toKn (if p.slot = q.slot then _ else p) = if p.slot = q.slot then _ else p.toKn
  by_cases z : p.slot = q.slot
  · rw [if_pos z, if_pos z, slot_inj nd hp hq z]
  · rw [if_neg z, if_neg z]
theorem filt_kns (ks : List Kp) (s : Nat) : kns (ks.filter fun p => decide (p.slot ≠ s)) = forgetN s (kns ks) := by
  unfold kns forgetN
  rw [List.filter_map]
  rfl
theorem forgetN_no {kn : List Kn} {s : Nat} (h : atN kn s = none) : forgetN s kn = kn := by
  unfold forgetN
  rw [List.filter_eq_self]
  intro p hp
  have := List.find?_eq_none.mp h p hp
  simpa using this
section
variable {P : Program} {w : World} {K : PySem.W.Frag} {mg : Str → Option Value} {base : Heap}
theorem ok_use (T : Gx K mg) : FnOk P w K mg base CX0 1 T.f_Memory_use T.fd_Memory_use ["self", "slot", "request"] (spUse T.C_Memory T.C_KnownSlot) := by
  refine T.F_Memory_use.ok sc_Memory_use (fun vs H Q E h => ?_) (fun cdv A outer s H vs Q E hr h => ?_)
  · obtain ⟨M, n, s, r, ks, rfl, _⟩ := h
    rfl
  · obtain ⟨M, n, s, r, ks, rfl, hM, hs, k⟩ := h
    rw [atN_kns, Option.isSome_map] at hs
    obtain ⟨q, eq⟩ := Option.isSome_iff_exists.mp hs
    obtain ⟨hq, es⟩ := atSlot_mem eq
    have hv : valV (ks.map Kp.kv) (Sum.inl (s : Int)) = some (.ref q.ka) := by rw [valV_kv, eq]; rfl
    have g := DGet.k (k := Sum.inl (s : Int)) hM.dct
    rw [hv] at g
    have hqo := hM.one q hq
    refine ⟨_, (pss_cons (ps_set (i := 3) sc_Memory_use.nd rfl (.inl rfl) (pe_dget (dU hr) (pe_fld (pv 0) rfl) (pv 1) (fun _ _ => rfl)))
      (pss_cons (ps_fld (pv 3) (pv 2) rfl)
      (pss_one (ps_fld (pv 3) (pe_callB (call_min2 rfl) (by rfl) T.z_min (by decide +kernel) (pa_cons (pe_op op_add (pe_fld (pv 3) rfl) pe_int) (pa_cons (pe_glob (v := .int (9)) (by rfl) T.c_MOST_USES ⟨_, rfl⟩) pa_nil))) rfl)))), ?_⟩
    refine ⟨_, rfl, M.m, T.C_Memory, M.x, _, _, rfl, hM.ins, T.cl_Memory, T.n_Memory__known, mF_get1, _, rfl, M.d, _, rfl, g, ?_⟩
    refine ⟨_, rfl, _, rfl, q.ka, T.C_KnownSlot, q.kx, _, rfl, hqo, T.cl_KnownSlot, T.n_KnownSlot_used, by simp [kF], ?_⟩
    rw [kF_put2]
    refine ⟨_, rfl, q.ka, T.C_KnownSlot, q.kx, _, _, rfl, upd_same, T.cl_KnownSlot, T.n_KnownSlot_uses, kF_get3, _, _, rfl, rfl, _, _, rfl, ?_⟩
    refine ⟨_, rfl, q.ka, T.C_KnownSlot, q.kx, _, rfl, upd_same, T.cl_KnownSlot, T.n_KnownSlot_uses, by simp [kF], ?_⟩
    rw [kF_put3, upd_upd]
    have f : Fr [q.ka] H (upd H q.ka (.ins T.C_KnownSlot q.kx (kF (.ref q.kt) (.int q.came) (.int r) (.int (if 9 < q.uses + 1 then 9 else q.uses + 1))))) := Fr.put (by simp)
    subst es
    refine k _ (setP ks { q with used := r, uses := if 9 < q.uses + 1 then 9 else q.uses + 1 }) (f.mono (fun b hb => by rw [List.mem_singleton.mp hb]; exact own_q hq)) (hM.setq hq rfl (.inl rfl) (f.mono (by simp)) ?_ upd_same ?_) (useN_set hM.sl hq r) (setP_own hq (.inl rfl))
    · rw [setP_kv ks (q' := { q with used := r, uses := if 9 < q.uses + 1 then 9 else q.uses + 1 }) hM.sl hq rfl rfl]
      exact f _ _ hM.dct (by simpa using (hM.qd hq).symm)
    · exact f _ _ (hM.rcd q hq) (by rw [List.mem_singleton]; exact ne_of (hM.rcd q hq) hqo (by simp [Kp.ob]))
theorem ok_forgetM (T : Gx K mg) : FnOk P w K mg base CX0 1 T.f_Memory_forget T.fd_Memory_forget ["self", "slot"] (spForgetM T.C_Memory T.C_KnownSlot) := by
  refine T.F_Memory_forget.ok sc_Memory_forget (fun vs H Q E h => ?_) (fun cdv A outer s H vs Q E hr h => ?_)
  · obtain ⟨M, n, s, ks, rfl, _⟩ := h
    rfl
  · obtain ⟨M, n, s, ks, rfl, hM, k⟩ := h
    refine ⟨_, (pss_one (ps_if (pt_cmp (pc_din (dU hr) (pv 1) (pe_fld (pv 0) rfl)) (by rfl)) (pss_one (ps_ddel (pe_fld (pv 0) rfl) (pv 1))) pss_nil)), ?_⟩
    refine ⟨_, rfl, _, rfl, M.m, T.C_Memory, M.x, _, _, rfl, hM.ins, T.cl_Memory, T.n_Memory__known, mF_get1, M.d, _, rfl, DGet.k (k := Sum.inl (s : Int)) hM.dct, _, rfl, ?_⟩
    refine iteB (fun e => ?_) fun e => ?_
    · refine ⟨_, rfl, M.m, T.C_Memory, M.x, _, _, rfl, hM.ins, T.cl_Memory, T.n_Memory__known, mF_get1, _, rfl, M.d, _, Sum.inl (s : Int), rfl, hM.dct, rfl, e, ?_⟩
      rw [dropK_kv]
      have f : Fr [M.d] H (upd H M.d (.dK ((ks.filter fun p => decide (p.slot ≠ s)).map Kp.kv))) := Fr.put (by simp)
      exact k _ _ (f.mono (fun b hb => by rw [List.mem_singleton.mp hb]; exact own_d)) (hM.filt f upd_same) (filt_kns ks s) (own_sub fun p hp => .inl (List.mem_map_of_mem (List.mem_filter.mp hp).1))
    · refine k H ks (Fr.refl _ _) hM ?_ (fun b hb => .inl hb)
      rw [forgetN_no]
      rw [atN_kns]
      rw [valV_kv] at e
      cases h : atSlot ks s with
      | none => rfl
      | some q => rw [h] at e; cases e
theorem ok_recIn (T : Gx K mg) : FnOk P w K mg base CX0 1 T.f_Memory_record_in T.fd_Memory_record_in ["self", "slot"] (spRecIn T.C_Memory T.C_KnownSlot) := by
  refine T.F_Memory_record_in.ok sc_Memory_record_in (fun vs H Q E h => ?_) (fun cdv A outer s H vs Q E hr h => ?_)
  · obtain ⟨M, n, s, ks, q, rfl, _⟩ := h
    rfl
  · obtain ⟨M, n, s, ks, q, rfl, hM, eq, k⟩ := h
    obtain ⟨hq, es⟩ := atSlot_mem eq
    have hv : valV (ks.map Kp.kv) (Sum.inl (s : Int)) = some (.ref q.ka) := by rw [valV_kv, eq]; rfl
    have g := DGet.k (k := Sum.inl (s : Int)) hM.dct
    rw [hv] at g
    refine ⟨_, (pss_one (ps_ret (pe_fld (pe_dget (dU hr) (pe_fld (pv 0) rfl) (pv 1) (fun _ _ => rfl)) rfl))), ?_⟩
    exact ⟨_, rfl, M.m, T.C_Memory, M.x, _, _, rfl, hM.ins, T.cl_Memory, T.n_Memory__known, mF_get1, _, rfl, M.d, _, rfl, g, q.ka, T.C_KnownSlot, q.kx, _, _, rfl, hM.one q hq, T.cl_KnownSlot, T.n_KnownSlot_record, kF_get0, k⟩
end
theorem putN_kns (ks : List Kp) (q' : Kp) : kns (if (ks.any fun p => decide (p.slot = q'.slot)) = true then setP ks q' else ks ++ [q']) = putN (kns ks) q'.toKn := by
  unfold putN
  have e : ((kns ks).any fun p => decide (p.slot = q'.toKn.slot)) = (ks.any fun p => decide (p.slot = q'.slot)) := by
    unfold kns
    rw [List.any_map]
    rfl
  rw [e]
  by_cases z : (ks.any fun p => decide (p.slot = q'.slot)) = true
  · rw [if_pos z, if_pos z, setP_kns]
  · rw [if_neg z, if_neg z]
    unfold kns
    rw [List.map_append]
    rfl
section
variable {P : Program} {w : World} {K : PySem.W.Frag} {mg : Str → Option Value} {base : Heap}
theorem ok_learn (T : Gx K mg) : FnOk P w K mg base CX0 3 T.f_Memory_learn T.fd_Memory_learn ["self", "slot", "record", "request"] (spLearn T.C_Memory T.C_KnownSlot) := by
  have G_KnownSlot___init__ : FnOk P w K mg base CX0 1 T.f_KnownSlot___init__ T.fd_KnownSlot___init__ ["self", "record", "request"] (spKInit T.C_KnownSlot) := ok_kInit T
  refine T.F_Memory_learn.ok sc_Memory_learn (fun vs H Q E h => ?_) (fun cdv A outer s H vs Q E hr h => ?_)
  · obtain ⟨M, n, s, t, rc, r, ks, rfl, _⟩ := h
    rfl
  · obtain ⟨M, n, s, t, rc, r, ks, rfl, hM, hn, ht, k⟩ := h
    refine ⟨_, (pss_cons (ps_set (i := 4) sc_Memory_learn.nd rfl (.inl rfl) (pe_dget1 (dU hr) (pe_fld (pv 0) rfl) (pv 1) ⟨rfl, rfl, rfl, rfl⟩))
      (pss_one (ps_if (PW.pt (pw_and (pt_cmpR op_notN (pv 4) pe_non (nomark _)) (pw_and1 (pt_cmpR op_eq (pe_ix ix_tup (pe_fld (pv 4) rfl) (pe_glob (v := .int (0)) (by rfl) T.c_BLOCK ⟨_, rfl⟩) (fun _ _ => rfl)) (pe_ix ix_tup (pv 2) (pe_glob (v := .int (0)) (by rfl) T.c_BLOCK ⟨_, rfl⟩) (fun _ _ => rfl)) (nomark _))))) (pss_one (ps_fld (pv 4) (pv 2) rfl)) (pss_one (ps_asg (pe_make T.M_KnownSlot___init__ G_KnownSlot___init__ (hr.mono (by first | decide | omega)) (by rfl) T.gC_KnownSlot (b_KnownSlot___init__ T) .nil pass0 (pa_cons (pv 2) (pa_cons (pv 3) pa_nil))) (pg_sub (pe_fld (pv 0) rfl) (pv 1) (set_dict (dU hr)))))))), ?_⟩
    refine ⟨_, rfl, M.m, T.C_Memory, M.x, _, _, rfl, hM.ins, T.cl_Memory, T.n_Memory__known, mF_get1, M.d, rfl, .inl ⟨_, .inl hM.dct⟩, _, rfl, _, DGet.k (k := Sum.inl (s : Int)) hM.dct, ?_⟩
    rw [valV_kv]
    -- a new object for the slot
    have fresh : ∀ (Q' : VK), (∀ (H' : Hp) (ks' : List Kp), Fr (M.own ks) H H' → MemAt T.C_Memory T.C_KnownSlot H' M n ks' → kns ks' = putN (kns ks) ⟨s, rc, r, r, 1⟩ → (∀ b ∈ M.own ks', b ∈ M.own ks ∨ H b = none) → Q' .non H') →
        ∀ (p px : Addr) (H1 : Hp), H p = none → Fr [] H H1 → H1 p = some (.ins T.C_KnownSlot px (kF (.ref t) (.int r) (.int r) (.int 1))) →
        Q' .non (upd H1 M.d (.dK (putK (ks.map Kp.kv) (Sum.inl (s : Int)) (.ref p)))) := by
      intro Q' k' p px H1 hp f1 e1
      have pd : p ≠ M.d := (ne_of_none hM.dct hp).symm
      have f2 : Fr [M.d] H (upd H1 M.d (.dK (putK (ks.map Kp.kv) (Sum.inl (s : Int)) (.ref p)))) := (f1.mono (by simp)).trans (Fr.put (by simp))
      have td : t ∉ [M.d] := by
        rw [List.mem_singleton]
        exact ne_of ht hM.dct (by simp)
      have ek := putK_kv ks ⟨⟨s, rc, r, r, 1⟩, p, px, t⟩
      have en := putN_kns ks ⟨⟨s, rc, r, r, 1⟩, p, px, t⟩
      by_cases z : (ks.any fun q => decide (q.slot = s)) = true
      · rw [if_pos z] at ek en
        obtain ⟨q, hq, es⟩ := List.any_eq_true.mp z
        refine k' _ _ (f2.mono (fun b hb => by rw [List.mem_singleton.mp hb]; exact own_d)) (hM.setq hq (of_decide_eq_true es).symm (.inr hp) (f2.mono (by simp)) ?_ ?_ (f2 _ _ ht td)) en (setP_own hq (.inr hp))
        · rw [← ek]
          exact upd_same
        · exact (upd_ne pd).trans e1
      · rw [if_neg z] at ek en
        refine k' _ _ (f2.mono (fun b hb => by rw [List.mem_singleton.mp hb]; exact own_d)) (hM.app (fun q hq e => z (List.any_eq_true.mpr ⟨q, hq, decide_eq_true e⟩)) hn hp f2 ?_ ?_ (f2 _ _ ht td)) en (own_sub fun q hq => ?_)
        · rw [← ek]
          exact upd_same
        · exact (upd_ne pd).trans e1
        · rcases List.mem_append.mp hq with y | y
          · exact .inl (List.mem_map_of_mem y)
          · rw [List.mem_singleton.mp y]
            exact .inr hp
    cases eq : atSlot ks s with
    | none =>
      refine ⟨_, rfl, rfl, _, rfl, iteF (iteF ?_)⟩
      have e0 : learnN s rc r (kns ks) = putN (kns ks) ⟨s, rc, r, r, 1⟩ := by
        unfold learnN
        rw [atN_kns, eq]
        rfl
      rw [e0] at k
      refine ⟨_, rfl, _, rfl, ?_⟩
      intro p px hp hpx npx
      refine ⟨p, px, t, r, rfl, upd_same, fun H2 e2 => ⟨rfl, ?_⟩⟩
      rw [upd_upd] at e2
      have f2 : Fr [] H H2 := by
        rw [e2]
        exact (Fr.new hpx).trans (Fr.new (by rw [upd_ne npx.symm]; exact hp))
      refine ⟨_, rfl, M.m, T.C_Memory, M.x, _, _, rfl, f2 _ _ hM.ins (by simp), T.cl_Memory, T.n_Memory__known, mF_get1, _, rfl, M.d, _, rfl, DPut.k (k := Sum.inl (s : Int)) (f2 _ _ hM.dct (by simp)) (sz_lt (by rw [List.length_map]; have := hM.len; omega)), ?_⟩
      exact fresh Q k p px H2 hp f2 (by rw [e2]; exact upd_same)
    | some q =>
      obtain ⟨hq, es⟩ := atSlot_mem eq
      have hqo := hM.one q hq
      refine ⟨_, rfl, rfl, _, rfl, iteT ?_⟩
      refine ⟨_, rfl, q.ka, T.C_KnownSlot, q.kx, _, _, rfl, hqo, T.cl_KnownSlot, T.n_KnownSlot_record, kF_get0, _, _, (0 : Int), _, rfl, rfl, SqT.of (hM.rcd q hq), rfl, _, rfl, _, _, (0 : Int), _, rfl, rfl, SqT.of ht, rfl, rfl, _, rfl, ?_⟩
      subst es
      refine iteB (fun e => ?_) fun e => ?_
      · have eb : q.rc.blk = rc.blk := by
          have := of_decide_eq_true e
          injection this with this
          omega
        have e0 : learnN q.slot rc r (kns ks) = recN q.slot rc (kns ks) := by
          unfold learnN
          rw [atN_kns, eq]
          exact if_pos eb
        rw [e0] at k
        refine ⟨_, rfl, _, rfl, q.ka, T.C_KnownSlot, q.kx, _, rfl, hqo, T.cl_KnownSlot, T.n_KnownSlot_record, by simp [kF], ?_⟩
        rw [kF_put0]
        have f : Fr [q.ka] H (upd H q.ka (.ins T.C_KnownSlot q.kx (kF (.ref t) (.int q.came) (.int q.used) (.int q.uses)))) := Fr.put (by simp)
        refine k _ (setP ks { q with rc := rc, kt := t }) (f.mono (fun b hb => by rw [List.mem_singleton.mp hb]; exact own_q hq)) (hM.setq hq rfl (.inl rfl) (f.mono (by simp)) ?_ upd_same ?_) (recN_set hM.sl hq rc t) (setP_own hq (.inl rfl))
        · rw [setP_kv ks (q' := { q with rc := rc, kt := t }) hM.sl hq rfl rfl]
          exact f _ _ hM.dct (by simpa using (hM.qd hq).symm)
        · exact f _ _ ht (by rw [List.mem_singleton]; exact ne_of ht hqo (by simp [Kp.ob]))
      have e0 : learnN q.slot rc r (kns ks) = putN (kns ks) ⟨q.slot, rc, r, r, 1⟩ := by
        unfold learnN
        rw [atN_kns, eq]
        refine if_neg (fun z => of_decide_eq_false e ?_)
        rw [show q.rc.blk = rc.blk from z]
      rw [e0] at k
      refine ⟨_, rfl, _, rfl, ?_⟩
      intro p px hp hpx npx
      refine ⟨p, px, t, r, rfl, upd_same, fun H2 e2 => ⟨rfl, ?_⟩⟩
      rw [upd_upd] at e2
      have f2 : Fr [] H H2 := by
        rw [e2]
        exact (Fr.new hpx).trans (Fr.new (by rw [upd_ne npx.symm]; exact hp))
      refine ⟨_, rfl, M.m, T.C_Memory, M.x, _, _, rfl, f2 _ _ hM.ins (by simp), T.cl_Memory, T.n_Memory__known, mF_get1, _, rfl, M.d, _, rfl, DPut.k (k := Sum.inl (q.slot : Int)) (f2 _ _ hM.dct (by simp)) (sz_lt (by rw [List.length_map]; have := hM.len; omega)), ?_⟩
      exact fresh Q k p px H2 hp f2 (by rw [e2]; exact upd_same)
end
/-! ### the least of pairs of a tuple of numbers and a number -/
section
open PySem PySem.Spec PyProof.Rows PySem.W
def rMinR (K : Frag) : List V → Hp → VK → Prop := fun xs H Q => ∃ (a : Addr) (ts : List Addr) (p : Tup Int × Int) (ps : List (Tup Int × Int)), xs = [.ref a] ∧ SqL K H a (ts.map V.ref) ∧ ts.length = ps.length + 1 ∧
  (∀ (i : Nat) (t : Addr) (q : Tup Int × Int), ts[i]? = some t → (p :: ps)[i]? = some q → ∃ r : Addr, SqT K H t [.ref r, .int q.2] ∧ SqT K H r (q.1.items.map V.int)) ∧
  ∀ (t r : Addr), SqT K H t [.ref r, .int (minOf p ps).2] → Q (.ref t) H
theorem dp_ints {K : Frag} {H : Hp} : ∀ is : List Int, DpAll K H (is.map V.int) (is.map Datum.toD)
  | [] => .nil
  | i :: is => .cons (.int i) (dp_ints is)
theorem dp_ranks {K : Frag} {H : Hp} : ∀ {ts : List Addr} {qs : List (Tup Int × Int)}, ts.length = qs.length → (∀ (i : Nat) (t : Addr) (q : Tup Int × Int), ts[i]? = some t → qs[i]? = some q → ∃ r : Addr, SqT K H t [.ref r, .int q.2] ∧ SqT K H r (q.1.items.map V.int)) → DpAll K H (ts.map V.ref) (qs.map Datum.toD)
  | [], [], _, _ => .nil
  | [], _ :: _, h, _ => by cases h
  | _ :: _, [], h, _ => by cases h
  | t :: ts, q :: qs, h, f => by
    obtain ⟨r, h1, h2⟩ := f 0 t q rfl rfl
    exact .cons (.tup h1 (.cons (.tup h2 (dp_ints _)) (.cons (.int _) .nil))) (dp_ranks (by simpa using h) fun i t q e1 e2 => f (i + 1) t q e1 e2)
theorem reads_snd {h : Heap} {t : Addr} {o : Obj} {vs : List Value} {n : Nat} {x : V} {b d : Int} {c : PyData} {as : List Addr} (ho : h.get? t = some o) (hd : o.data = .seq vs.toArray n) (hv : Vals [x, .int b] vs) (r : Reads h (.ref t) (.tuple [c, .int d]) as) : b = d := by
  cases r with
  | tuple ho2 _ hd2 ra =>
    rw [ho] at ho2
    cases ho2
    rw [hd] at hd2
    injection hd2 with e1 _
    subst e1
    match vs, hv with
    | [u, w], .cons ru (.cons rw' .nil) =>
      obtain ⟨tw, rfl⟩ := rw'
      simp only [] at ra
      cases ra with
      | cons r1 r2 =>
        cases r2 with
        | cons r2 r3 =>
          cases r2
          rfl
theorem vals_at {xs : List V} {us : List Value} (h : Vals xs us) : ∀ (i : Nat) (u : Value), us[i]? = some u → ∃ x, xs[i]? = some x ∧ RelV x u := by
  induction h with
  | nil => intro i u e; simp at e
  | cons r _ ih =>
    intro i u e
    cases i with
    | zero => cases e; exact ⟨_, rfl, r⟩
    | succ i => exact ih i u e
theorem cr_minR {X : Cx} (hc : X.calm = true) (hu : X.A.units + 65 < cLine) : CallR X (.builtin "min") (rMinR X.K) := by
  intro pins s σ H xs us Q I r h
  obtain ⟨a, ts, p, ps, rfl, ha, hl, ht, q⟩ := h
  obtain ⟨its, rv, pl, _⟩ := I.list ha
  rw [Vals.ref1 r]
  have hd : DpAll X.K H (ts.map V.ref) ((p :: ps).map Datum.toD) := dp_ranks (by rw [List.length_cons]; exact hl) ht
  have hold : HoldAll s.heap its.toArray.toList (p :: ps) := Dp.readsAll I _ _ _ hd (by simpa using rv)
  refine min_list_datum (I.ok.hd hc) pl.isList hold (by show X.A.units + 1 + 2 < cLine; omega) fun i v h' tk hi hv hk => ?_
  obtain ⟨x, ex, rx⟩ := vals_at rv i v (by simpa using hi)
  rw [List.getElem?_map] at ex
  cases et : ts[i]? with
  | none => rw [et] at ex; cases ex
  | some t =>
    rw [et] at ex
    cases ex
    cases rx
    have hil : i < (p :: ps).length := by
      have := lt_of_at et
      rw [List.length_cons]
      omega
    have eq := List.getElem?_eq_getElem hil
    obtain ⟨rr, h1, h2⟩ := ht i t _ et eq
    obtain ⟨ws, rw2, ⟨o, ho, _, n, hdat⟩, _⟩ := I.tuple h1
    obtain ⟨as, rd⟩ := hv
    have u2 := reads_snd (hk _ _ ho) hdat rw2 rd
    refine ⟨.ref t, H, I.kept hk, rfl, q t rr ?_⟩
    rw [← u2]
    exact h1
end
theorem roomU {k : Nat} {A : Around} (r : Room k A) : A.units + 65 < cLine := by
  have := r.un
  omega
theorem pe_fldK {X : Cx} {K : PySem.W.Frag} {e : Expr} {ta : TE} {f : Str} {pos : Pos} (h : X.K = K) (he : PE X e ta) (hb : attributeBase e f X.env (eval e X.env) = eval e X.env) : PE X (.Attribute e f pos) (tFld K ta f) := by
  subst h
  exact pe_fld he hb
theorem ix_listK {X : Cx} {K : PySem.W.Frag} (h : X.K = K) : IxR X (rIxL K) := by
  subst h
  exact ix_list
theorem ix_tupK {X : Cx} {K : PySem.W.Frag} (h : X.K = K) : IxR X (rIxT K) := by
  subst h
  exact ix_tup
theorem Fr.upd0 {H H1 : Hp} {D : Addr} {o : HO} (f : Fr [] H H1) (h : H D = none) : Fr [] H (upd H1 D o) := fun b u e n => by
  have hb : b ≠ D := fun z => by rw [z, h] at e; cases e
  rw [upd_ne hb]
  exact f b u e n
section
variable {J : It} {n : Nat} {G : Hp → Prop} {Y : Nat → Hp → V → Hp → Prop}
/-- a dict comprehension over a walk: Pv by the turn and the heap (the new dict at D within) -/
theorem dc_it (w : Walk J n G Y) {g : TG} {tt : TT} {tk tv : TE} {vs : List Nat} {σ : L2.St} {H1 : Hp} {D : Addr} {Qd : Hp → Prop} (Pv : Nat → Hp → Prop) (h0 : Pv 0 (upd H1 D (.dK []))) (hG : ∀ i H, i ≤ n → Pv i H → G H)
    (hs : ∀ i x H H', i < n → Pv i H → Y i H x H' → g x (wipe σ vs) H' fun σ2 H2 => wipe σ2 vs = wipe σ vs ∧ tt σ2 H2 fun b H3 =>
      if b = true then tk σ2 H3 fun y H4 => tv σ2 H4 fun z H5 => ∃ kvs k, y = kV k ∧ H5 D = some (.dK kvs) ∧ kvs.length < sizeLine ∧ Pv (i + 1) (upd H5 D (.dK (putK kvs k z))) else Pv (i + 1) H3) (hd : ∀ H, Pv n H → Qd H) :
    ∃ W : Nat → Nat → Hp → Prop, (∃ m, W 0 m (upd H1 D (.dK []))) ∧ ∀ i m H, W i m H →
      (J.stop i H ∧ Qd H) ∨ (J.go i H ∧ ∃ Nx : Hp → Prop, (∀ H', Nx H' → ∃ m', m' < m ∧ W (i + 1) m' H') ∧ ∀ x H', J.yld i H x H' → g x (wipe σ vs) H' fun σ2 H2 => wipe σ2 vs = wipe σ vs ∧ tt σ2 H2 fun b H3 =>
        if b = true then tk σ2 H3 fun y H4 => tv σ2 H4 fun z H5 => ∃ kvs k, y = kV k ∧ H5 D = some (.dK kvs) ∧ kvs.length < sizeLine ∧ Nx (upd H5 D (.dK (putK kvs k z))) else Nx H3) := by
  refine ⟨fun i m H => m = n - i ∧ i ≤ n ∧ Pv i H, ⟨n, by simp, Nat.zero_le _, h0⟩, ?_⟩
  rintro i m H ⟨rfl, hi, p⟩
  have q := hG i H hi p
  by_cases hlt : i < n
  · refine .inr ⟨w.goes i H hlt q, Pv (i + 1), fun H' p' => ⟨n - (i + 1), by omega, rfl, hlt, p'⟩, fun x H' y => hs i x H H' hlt p (w.yields i H x H' hlt q y)⟩
  · have e : i = n := by omega
    subst e
    exact .inl ⟨w.stops H q, hd H p⟩
end
/-! ### records, as a dict in the order of slots -/
def sortK (ks : List Kp) : List Kp := ks.mergeSort fun a b => decide (a.slot ≤ b.slot)
def sortN (kn : List Kn) : List Kn := kn.mergeSort fun a b => decide (a.slot ≤ b.slot)
theorem sortK_kns (ks : List Kp) : kns (sortK ks) = sortN (kns ks) := List.map_mergeSort fun _ _ _ _ => rfl
theorem sortK_perm (ks : List Kp) : (sortK ks).Perm ks := List.mergeSort_perm _ _
theorem sortK_mem {ks : List Kp} {q : Kp} : q ∈ sortK ks ↔ q ∈ ks := List.mem_mergeSort
theorem sortK_sorted (ks : List Kp) : (sortK ks).Pairwise fun a b => a.slot ≤ b.slot :=
  (List.pairwise_mergeSort (le := fun (a b : Kp) => decide (a.slot ≤ b.slot)) (fun a b c h1 h2 => decide_eq_true (Nat.le_trans (of_decide_eq_true h1) (of_decide_eq_true h2))) (fun a b => by
    rcases Nat.le_total a.slot b.slot with h | h
    · simp [h]
    · simp [h]) ks).imp fun h => of_decide_eq_true h
theorem sortK_slots {ks : List Kp} {ys : List Int} (hp : ys.Perm (ks.map fun q => (q.slot : Int))) (hs : ys.Pairwise (· ≤ ·)) : ys = (sortK ks).map fun q => (q.slot : Int) :=
  List.Perm.eq_of_pairwise (le := fun (a b : Int) => a ≤ b) (fun a b _ _ h1 h2 => Int.le_antisymm h1 h2) hs (List.pairwise_map.mpr ((sortK_sorted ks).imp fun h => Int.ofNat_le.mpr h)) (hp.trans ((sortK_perm ks).symm.map _))
def Kp.kr (q : Kp) : Key × V := (Sum.inl (q.slot : Int), V.ref q.kt)
def spRecords (CM CK : Addr) : Sp := fun vs H Q _ => ∃ (M : Mm) (n : Nat) (ks : List Kp), vs = [.ref M.m] ∧ MemAt CM CK H M n ks ∧ ∀ (D : Addr) (H' : Hp), H D = none → Fr [] H H' → H' D = some (.dK ((sortK ks).map Kp.kr)) → Q (.ref D) H'
theorem putK_kr {qs : List Kp} {q : Kp} (h : ∀ p ∈ qs, p.slot ≠ q.slot) : putK (qs.map Kp.kr) (Sum.inl (q.slot : Int)) (.ref q.kt) = (qs ++ [q]).map Kp.kr := by
  unfold putK
  rw [if_neg, List.map_append]
  · rfl
  · rw [List.any_map]
    intro z
    obtain ⟨p, hp, e⟩ := List.any_eq_true.mp z
    have : (p.slot : Int) = (q.slot : Int) := Sum.inl.inj (of_decide_eq_true e)
    exact h p hp (by omega)
section
variable {P : Program} {w : World} {K : PySem.W.Frag} {mg : Str → Option Value} {base : Heap}
theorem ok_records (T : Gx K mg) : FnOk P w K mg base CX0 1 T.f_Memory_records T.fd_Memory_records ["self"] (spRecords T.C_Memory T.C_KnownSlot) := by
  refine T.F_Memory_records.ok sc_Memory_records (fun vs H Q E h => ?_) (fun cdv A outer s H vs Q E hr h => ?_)
  · obtain ⟨M, n, ks, rfl, _⟩ := h
    rfl
  · obtain ⟨M, n, ks, rfl, hM, k⟩ := h
    refine ⟨_, (pss_one (ps_ret (pe_dc (own := [("slot", 1)]) (g := gName 1) rfl sc_Memory_records.nd (pi_list (pe_callB (call_sortedDI rfl) (by rfl) T.z_sorted (by decide +kernel) (pa_cons (pe_fld (pv 0) rfl) pa_nil))) (blkOk_by (N := ["self", "slot"]) (sc := defScope s_Memory_records) (by decide +kernel)) (fun _ _ _ _ _ => pg_name (i := 1) sc_Memory_records.nd rfl (.inl rfl)) (fun _ _ _ _ _ => pts_nil) (fun _ _ _ _ _ => (pv 1)) (fun _ _ _ _ _ => (pe_fldK (K := K) rfl (pe_dget (dU hr) (pe_fldK (K := K) rfl (pv 0) rfl) (pv 1) (fun _ _ => rfl)) rfl))))), ?_⟩
    refine ⟨_, rfl, M.m, T.C_Memory, M.x, _, _, rfl, hM.ins, T.cl_Memory, T.n_Memory__known, mF_get1, M.d, _, ks.map (fun q => (q.slot : Int)), rfl, .inl hM.dct, (by rw [List.map_map, List.map_map]; rfl), (by rw [List.length_map]; have := hM.len; omega), fun ys p hp hs hpn => ?_⟩
    have ey := sortK_slots hp hs
    subst ey
    refine ⟨p, rfl, ⟨_, SqL.of upd_same⟩, fun D hD => ?_⟩
    have hD1 := free_upd hD
    refine dc_it (walk_list (K := K) (a := p) (xs := ((sortK ks).map fun q => (q.slot : Int)).map V.int)) (fun i H' => Fr [] (upd H p (.lst (((sortK ks).map fun q => (q.slot : Int)).map V.int))) H' ∧ H' D = some (.dK (((sortK ks).take i).map Kp.kr))) ⟨Fr.new hD, upd_same⟩ (fun i H' _ g => SqL.of (g.1 _ _ upd_same (by simp))) ?_ ?_
    · rintro i x H1 H2 hi ⟨f1, e1⟩ ⟨rfl, ex⟩
      have hi' : i < (sortK ks).length := by simpa using hi
      have hx : x = .int ((sortK ks)[i].slot : Int) := by
        rw [List.getElem?_map, List.getElem?_map, List.getElem?_eq_getElem hi'] at ex
        cases ex
        rfl
      subst hx
      have hq : (sortK ks)[i] ∈ ks := sortK_mem.mp (List.getElem_mem hi')
      have f2 : Fr [] H H2 := (Fr.new hpn).trans f1
      have hv : valV (ks.map Kp.kv) (Sum.inl ((sortK ks)[i].slot : Int)) = some (.ref (sortK ks)[i].ka) := by rw [valV_kv, atSlot_of hM.sl hq]; rfl
      have g := DGet.k (k := Sum.inl ((sortK ks)[i].slot : Int)) (f2 _ _ hM.dct (by simp))
      rw [hv] at g
      refine ⟨rfl, ?_⟩
      unfold tYes
      refine iteT ?_
      refine ⟨_, rfl, _, rfl, M.m, T.C_Memory, M.x, _, _, rfl, f2 _ _ hM.ins (by simp), T.cl_Memory, T.n_Memory__known, mF_get1, _, rfl, M.d, _, rfl, g, _, T.C_KnownSlot, _, _, _, rfl, f2 _ _ (hM.one _ hq) (by simp), T.cl_KnownSlot, T.n_KnownSlot_record, kF_get0, _, Sum.inl ((sortK ks)[i].slot : Int), rfl, e1, sz_lt (by rw [List.length_map, List.length_take]; have := hM.len; rw [← (sortK_perm ks).length_eq] at this; omega), ?_, ?_⟩
      · refine f1.upd0 ?_
        exact hD
      · rw [putK_kr (q := (sortK ks)[i])]
        · rw [List.take_succ, List.getElem?_eq_getElem hi']
          exact upd_same
        · intro a ha e
          obtain ⟨j, hj, ej⟩ := List.mem_take_iff_getElem.mp ha
          have hj' : j < (sortK ks).length := by omega
          have nd : (sortK ks).Pairwise fun a b => a.slot ≠ b.slot := List.pairwise_map.mp (((sortK_perm ks).map (fun (q : Kp) => q.slot)).nodup_iff.mpr hM.sl)
          have := List.pairwise_iff_getElem.mp nd j i hj' hi' (by omega)
          rw [ej] at this
          exact this e
    · rintro H1 ⟨f1, e1⟩
      rw [List.length_map, List.length_map, List.take_length] at e1
      exact k D H1 hD1.1 ((Fr.new hpn).trans f1) e1
end
/-! ### the slot that is taken -/
def rankN (ch : Str) (q : Kn) : PySem.W.Tup Int := if V.str ch = V.str "used" then ⟨[q.used]⟩ else if V.str ch = V.str "came" then ⟨[q.came]⟩ else ⟨[q.uses, q.used]⟩
def ranksN (ch : Str) (kn : List Kn) : List (PySem.W.Tup Int × Int) := (kn.filter fun q => !q.rc.dirty).map fun q => (rankN ch q, (q.slot : Int))
def takeN (n : Nat) (ch : Str) (kn : List Kn) : V := match (List.range n).find? (fun s => !(atN kn s).isSome) with
  | some s => .int (s : Int)
  | none => match ranksN ch kn with
    | [] => .non
    | p :: ps => .int (PySem.W.minOf p ps).2
def spRank (C : Addr) : Sp := fun vs H Q _ => ∃ (q : Kp) (ch : Str), vs = [.ref q.ka, .str ch] ∧ H q.ka = some (q.ob C) ∧ ∀ t, H t = none → Q (.ref t) (upd H t (.tup ((rankN ch q.toKn).items.map V.int)))
def spTake (CM CK : Addr) : Sp := fun vs H Q _ => ∃ (M : Mm) (n : Nat) (ch : Str) (ks : List Kp), vs = [.ref M.m, .str ch] ∧ MemAt CM CK H M n ks ∧ ∀ H' : Hp, Fr [] H H' → Q (takeN n ch (kns ks)) H'
/-- tuples of a rank and a slot -/
def Rks (H : Hp) (ts : List Addr) (qs : List (PySem.W.Tup Int × Int)) : Prop := ts.length = qs.length ∧ ∀ (i : Nat) (t : Addr) (q : PySem.W.Tup Int × Int), ts[i]? = some t → qs[i]? = some q → ∃ r : Addr, H t = some (.tup [.ref r, .int q.2]) ∧ H r = some (.tup (q.1.items.map V.int))
theorem Rks.keep {S : List Addr} {H H' : Hp} {ts : List Addr} {qs : List (PySem.W.Tup Int × Int)} (h : Rks H ts qs) (f : Fr S H H') (m : ∀ b ∈ S, ∀ xs, H b ≠ some (.tup xs)) : Rks H' ts qs :=
  ⟨h.1, fun i t q e1 e2 => by
    obtain ⟨r, a, b⟩ := h.2 i t q e1 e2
    exact ⟨r, f _ _ a (fun z => m _ z _ a), f _ _ b (fun z => m _ z _ b)⟩⟩
theorem Rks.snoc {H : Hp} {ts : List Addr} {qs : List (PySem.W.Tup Int × Int)} {t r : Addr} {q : PySem.W.Tup Int × Int} (h : Rks H ts qs) (a : H t = some (.tup [.ref r, .int q.2])) (b : H r = some (.tup (q.1.items.map V.int))) : Rks H (ts ++ [t]) (qs ++ [q]) := by
  refine ⟨by rw [List.length_append, List.length_append, h.1]; rfl, fun j u p e1 e2 => ?_⟩
  by_cases hj : j < ts.length
  · rw [List.getElem?_append_left hj] at e1
    rw [List.getElem?_append_left (by rw [← h.1]; exact hj)] at e2
    exact h.2 j u p e1 e2
  · rw [List.getElem?_append_right (by omega)] at e1
    rw [List.getElem?_append_right (by rw [← h.1]; omega)] at e2
    rw [← h.1] at e2
    have hz : j - ts.length = 0 := by
      have := lt_of_at e1
      simp at this
      omega
    rw [hz] at e1 e2
    cases e1
    cases e2
    exact ⟨r, a, b⟩
theorem ranks_succ (ch : Str) (ks : List Kp) (i : Nat) (hi : i < ks.length) : ranksN ch (kns (ks.take (i + 1))) = ranksN ch (kns (ks.take i)) ++ (if ks[i].rc.dirty = true then [] else [(rankN ch ks[i].toKn, (ks[i].slot : Int))]) := by
  rw [List.take_succ, List.getElem?_eq_getElem hi]
  unfold ranksN kns
  rw [List.map_append, List.filter_append, List.map_append]
  refine congrArg _ ?_
  show ((List.filter (fun q => !q.rc.dirty) [ks[i].toKn]).map _) = _
  by_cases e : ks[i].rc.dirty = true
  · rw [if_pos e, List.filter_cons_of_neg (by rw [e]; simp)]
    rfl
  · rw [if_neg e, List.filter_cons_of_pos (by simp [e])]
    rfl
section
variable {P : Program} {w : World} {K : PySem.W.Frag} {mg : Str → Option Value} {base : Heap}
theorem ok_rank (T : Gx K mg) : FnOk P w K mg base CX0 1 T.f__rank T.fd__rank ["known", "choice"] (spRank T.C_KnownSlot) := by
  refine T.F__rank.ok sc__rank (fun vs H Q E h => ?_) (fun cdv A outer s H vs Q E hr h => ?_)
  · obtain ⟨q, ch, rfl, _⟩ := h
    rfl
  · obtain ⟨q, ch, rfl, hq, k⟩ := h
    unfold rankN at k
    refine ⟨_, (pss_cons (ps_if (pt_cmpR op_eq (pv 1) pe_str (nomark _)) (pss_one (ps_ret (pe_tup (pa_cons (pe_fld (pv 0) rfl) pa_nil)))) pss_nil)
      (pss_cons (ps_if (pt_cmpR op_eq (pv 1) pe_str (nomark _)) (pss_one (ps_ret (pe_tup (pa_cons (pe_fld (pv 0) rfl) pa_nil)))) pss_nil)
      (pss_one (ps_ret (pe_tup (pa_cons (pe_fld (pv 0) rfl) (pa_cons (pe_fld (pv 0) rfl) pa_nil))))))), ?_⟩
    refine ⟨_, rfl, rfl, _, rfl, iteB (fun e => ?_) fun e => ?_⟩
    · rw [if_pos (of_decide_eq_true e)] at k
      exact ⟨_, rfl, _, T.C_KnownSlot, _, _, _, rfl, hq, T.cl_KnownSlot, T.n_KnownSlot_used, kF_get2, sz_le (by simp), k⟩
    · rw [if_neg (of_decide_eq_false e)] at k
      refine ⟨_, rfl, rfl, _, rfl, iteB (fun e => ?_) fun e => ?_⟩
      · rw [if_pos (of_decide_eq_true e)] at k
        exact ⟨_, rfl, _, T.C_KnownSlot, _, _, _, rfl, hq, T.cl_KnownSlot, T.n_KnownSlot_came, kF_get1, sz_le (by simp), k⟩
      · rw [if_neg (of_decide_eq_false e)] at k
        exact ⟨_, rfl, _, T.C_KnownSlot, _, _, _, rfl, hq, T.cl_KnownSlot, T.n_KnownSlot_uses, kF_get3, _, rfl, _, T.C_KnownSlot, _, _, _, rfl, hq, T.cl_KnownSlot, T.n_KnownSlot_used, kF_get2, sz_le (by simp), k⟩
theorem ok_take (T : Gx K mg) : FnOk P w K mg base CX0 2 T.f_Memory_slot_to_take T.fd_Memory_slot_to_take ["self", "choice"] (spTake T.C_Memory T.C_KnownSlot) := by
  have G__rank : FnOk P w K mg base CX0 1 T.f__rank T.fd__rank ["known", "choice"] (spRank T.C_KnownSlot) := ok_rank T
  refine T.F_Memory_slot_to_take.ok sc_Memory_slot_to_take (fun vs H Q E h => ?_) (fun cdv A outer s H vs Q E hr h => ?_)
  · obtain ⟨M, n, ch, ks, rfl, _⟩ := h
    rfl
  · obtain ⟨M, n, ch, ks, rfl, hM, k⟩ := h
    refine ⟨_, (pss_cons (ps_for PassesOwn.never rfl (pi_range1 (by rfl) T.z_range (pa_cons (pe_fld (pv 0) rfl) pa_nil)) (pg_name (i := 2) sc_Memory_slot_to_take.nd rfl (.inl rfl)) (pss_one (ps_if (pt_cmp (pc_dnotin (dU hr) (pv 2) (pe_fld (pv 0) rfl)) (by rfl)) (pss_one (ps_ret (pv 2))) pss_nil)))
      (pss_cons (ps_lock (ps_setLc (i := 3) (own := [("slot", 2), ("known", 4)]) (g := gTup K 2 (gCons (gName 2) (gCons (gName 4) gNil))) rfl sc_Memory_slot_to_take.nd rfl rfl (sw_true rfl rfl rfl (by decide +kernel)) (pi_items (pe_fld (pv 0) rfl)) (blkOk_by (N := ["self", "choice", "slot", "ranks", "known"]) (sc := defScope s_Memory_slot_to_take) (by decide +kernel)) (fun _ _ _ _ _ => pg_tup (by rfl) (pgs_cons (pg_name (i := 2) sc_Memory_slot_to_take.nd rfl (.inl rfl)) (pgs_cons (pg_name (i := 4) sc_Memory_slot_to_take.nd rfl (.inl rfl)) pgs_nil))) (fun _ _ _ _ _ => (pts_one (pt_not (pt_val (pe_ix (ix_tupK (K := K) rfl) (pe_fldK (K := K) rfl (pv 4) rfl) (pe_glob (v := .int (3)) (by rfl) T.c_IS_DIRTY ⟨_, rfl⟩) (fun _ _ => rfl)))))) (fun _ _ _ _ _ => (pe_tup (pa_cons (pe_call G__rank (hr.mono (by first | decide | omega)) (by rfl) T.g__rank T.F__rank.kp (b__rank T) .nil pass0 (pa_cons (pv 4) (pa_cons (pv 1) pa_nil))) (pa_cons (pv 2) pa_nil))))))
      (pss_cons (ps_if (pt_not (pt_truth (pv 3) (fun _ => rfl))) (pss_one (ps_ret pe_non)) pss_nil)
      (pss_one (ps_ret (pe_ix ix_tup (pe_callB (cr_minR rfl (roomU hr)) (by rfl) T.z_min (by decide +kernel) (pa_cons (pv 3) pa_nil)) pe_int (fun _ _ => rfl))))))), ?_⟩
    refine ⟨_, rfl, M.m, T.C_Memory, M.x, _, _, rfl, hM.ins, T.cl_Memory, T.n_Memory__slots, mF_get0, n, rfl, by have := hM.few; omega, by have := hM.few; omega, ?_⟩
    refine for_range (lo := 0) (n := n) (fun i σ H' => Fr [] H H' ∧ (∀ j, j < i → (atN (kns ks) j).isSome = true) ∧ ∃ v2 : Option V, σ = [some (.ref M.m), some (.str ch), v2, none, none]) ⟨Fr.refl _ _, fun j hj => absurd hj (by omega), none, rfl⟩ ?_ ?_
    · rintro i σ H1 hi ⟨f1, all, v2, rfl⟩
      have hM1 := hM.keep0 f1
      rw [Int.zero_add]
      refine ⟨_, rfl, _, rfl, M.m, T.C_Memory, M.x, _, _, rfl, hM1.ins, T.cl_Memory, T.n_Memory__known, mF_get1, M.d, _, rfl, DGet.k (k := Sum.inl (i : Int)) hM1.dct, _, rfl, ?_⟩
      rw [valV_kv]
      have ea : (Option.map (fun q => V.ref q.ka) (atSlot ks i)).isSome = (atN (kns ks) i).isSome := by
        rw [atN_kns, Option.isSome_map, Option.isSome_map]
      rw [ea]
      refine iteB (fun e => ?_) fun e => ?_
      · refine ⟨_, rfl, ?_⟩
        have := k H1 f1
        unfold takeN at this
        have ef : (List.range n).find? (fun s => !(atN (kns ks) s).isSome) = some i := by
          rw [List.find?_range_eq_some]
          exact ⟨e, List.mem_range.mpr hi, fun j hj => by rw [all j hj]; rfl⟩
        rw [ef] at this
        exact this
      · refine ⟨f1, fun j hj => ?_, _, rfl⟩
        by_cases z : j < i
        · exact all j z
        · have : j = i := by omega
          subst this
          simpa using e
    · rintro σ H1 ⟨f1, all, v2, rfl⟩
      have hM1 := hM.keep0 f1
      have ef : (List.range n).find? (fun s => !(atN (kns ks) s).isSome) = none := by
        rw [List.find?_eq_none]
        intro j hj
        rw [all j (List.mem_range.mp hj)]
        simp
      have k1 : ∀ H' : Hp, Fr [] H H' → Q (match ranksN ch (kns ks) with
          | [] => .non
          | p :: ps => .int (PySem.W.minOf p ps).2) H' := fun H' f => by
        have := k H' f
        unfold takeN at this
        rw [ef] at this
        exact this
      refine ⟨M.d, _, hM1.dct, trivial, fun od => ?_⟩
      have hL : ∀ a o, H1 a = some o → a ≠ M.d → (upd H1 M.d (.frz od (.dK (ks.map Kp.kv)))) a = some o := fun a o e z => (upd_ne z).trans e
      refine ⟨_, rfl, M.m, T.C_Memory, M.x, _, _, rfl, hL _ _ hM1.ins hM1.md, T.cl_Memory, T.n_Memory__known, mF_get1, M.d, od, _, rfl, upd_same, fun D hD => ?_⟩
      have hD1 := free_upd hD
      refine lc_it (walk_items (d := M.d) (o := od) (kvs := ks.map Kp.kv)) (fun i H' => Fr [] (upd H1 M.d (.frz od (.dK (ks.map Kp.kv)))) H' ∧ ∃ ts : List Addr, H' D = some (.lst (ts.map V.ref)) ∧ Rks H' ts (ranksN ch (kns (ks.take i)))) ⟨Fr.new hD, [], upd_same, rfl, fun i t q e => by simp at e⟩ (fun i H' _ g => g.1 _ _ upd_same (by simp)) ?_ ?_
      · rintro i x H2 H3 hi ⟨f2, ts, e1, rk⟩ ⟨U, x1, y1, rfl, hU, rfl, e2, e3⟩
        have hi' : i < ks.length := by simpa using hi
        simp only [List.getElem?_map, List.getElem?_eq_getElem hi', Option.map_some, Option.some.injEq] at e2 e3
        subst e2 e3
        have hq : ks[i] ∈ ks := List.getElem_mem hi'
        have UD : U ≠ D := (ne_of_none e1 hU).symm
        have f3 : Fr [] (upd H1 M.d (.frz od (.dK (ks.map Kp.kv)))) (upd H2 U (.tup [kV (Kp.kv ks[i]).1, (Kp.kv ks[i]).2])) := f2.trans (Fr.new hU)
        have h1 := f3 _ _ (hL _ _ (hM1.one _ hq) (hM1.qd hq)) (by simp)
        have h2 := f3 _ _ (hL _ _ (hM1.rcd _ hq) (ne_of (hM1.rcd _ hq) hM1.dct (by simp))) (by simp)
        refine ⟨U, _, rfl, SqT.of upd_same, rfl, _, _, rfl, _, _, rfl, rfl, ?_⟩
        refine ⟨rfl, ?_⟩
        refine ⟨_, rfl, _, T.C_KnownSlot, _, _, _, rfl, h1, T.cl_KnownSlot, T.n_KnownSlot_record, kF_get0, _, _, (3 : Int), _, rfl, rfl, SqT.of h2, rfl, _, rfl, ?_⟩
        refine iteB (fun e => ?_) fun e => ?_
        · have nd : ¬ ks[i].rc.dirty = true := by
            intro z
            have e' : (!ks[i].rc.dirty) = true := e
            rw [z] at e'
            cases e'
          refine ⟨_, rfl, _, rfl, ks[i], ch, rfl, h1, fun r hr' => ⟨_, rfl, sz_le (by simp), fun t ht => ⟨ts.map V.ref, ?_, ?_, ?_, ts ++ [t], ?_, ?_⟩⟩⟩
          all_goals
            have hr1 := free_upd hr'
            have ht1 := free_upd ht
            have ht2 := free_upd ht1.1
            have n1 := ne_of_none e1 hU
            have n2 := ne_of_none e1 hr1.1
            have n3 := ne_of_none e1 ht2.1
            have g0 : Fr [] H2 (upd (upd (upd H2 U (.tup [kV (Kp.kv ks[i]).1, (Kp.kv ks[i]).2])) r (.tup ((rankN ch ks[i].toKn).items.map V.int))) t (.tup [.ref r, kV (Kp.kv ks[i]).1])) := ((Fr.new hU).trans (Fr.new hr')).trans (Fr.new ht)
          · exact g0 _ _ e1 (by simp)
          · rw [List.length_map, rk.1]
            refine sz_lt ?_
            unfold ranksN
            have q1 := List.length_filter_le (fun (q : Kn) => !q.rc.dirty) (kns (ks.take i))
            have q2 := List.length_take_le i ks
            have := hM.len
            simp only [List.length_map] at q1 ⊢
            omega
          · exact (f2.trans g0).upd0 hD
          · rw [List.map_append]
            exact upd_same
          · rw [ranks_succ ch ks i hi', if_neg nd]
            have g1 : Rks (upd (upd (upd H2 U (.tup [kV (Kp.kv ks[i]).1, (Kp.kv ks[i]).2])) r (.tup ((rankN ch ks[i].toKn).items.map V.int))) t (.tup [.ref r, kV (Kp.kv ks[i]).1])) (ts ++ [t]) (ranksN ch (kns (ks.take i)) ++ [(rankN ch ks[i].toKn, (ks[i].slot : Int))]) :=
              (rk.keep g0 (by simp)).snoc (r := r) upd_same ((upd_ne ht1.2.symm).trans upd_same)
            refine g1.keep (S := [D]) (Fr.put (by simp)) fun b hb xs => ?_
            rw [List.mem_singleton.mp hb, g0 _ _ e1 (by simp)]
            simp
        · have nd : ks[i].rc.dirty = true := by
            have e' : (!ks[i].rc.dirty) = false := e
            simpa using e'
          refine ⟨f3, ts, (upd_ne UD.symm).trans e1, ?_⟩
          rw [ranks_succ ch ks i hi', if_pos nd, List.append_nil]
          exact rk.keep (S := []) (Fr.new hU) (by simp)
      · rintro H2 ⟨f2, ts, e1, rk⟩
        obtain ⟨g1, g2⟩ := Fr.unlock hM1.dct f2
        refine ⟨g1, ?_⟩
        have DM : D ≠ M.d := hD1.2
        have e1' : (upd H2 M.d (.dK (ks.map Kp.kv))) D = some (.lst (ts.map V.ref)) := (upd_ne DM).trans e1
        have rk' : Rks (upd H2 M.d (.dK (ks.map Kp.kv))) ts (ranksN ch (kns ks)) := by
          have : ks.take (ks.map Kp.kv).length = ks := by rw [List.length_map, List.take_length]
          rw [this] at rk
          exact rk.keep (S := [M.d]) (Fr.put (by simp)) fun b hb xs => by
            rw [List.mem_singleton.mp hb, f2 _ _ upd_same (by simp)]
            simp
        have k2 := k1 _ (f1.trans g2)
        refine ⟨_, rfl, _, .inl ⟨_, SqL.of e1', rfl⟩, ?_⟩
        cases er : ranksN ch (kns ks) with
        | nil =>
          rw [er] at k2 rk'
          have : ts = [] := List.length_eq_zero_iff.mp rk'.1
          subst this
          exact iteT k2
        | cons p ps =>
          rw [er] at k2 rk'
          have l := rk'.1
          have : ts ≠ [] := by
            intro z
            rw [z] at l
            simp at l
          have z0 : (!!(ts.map V.ref).isEmpty) = false := by
            cases ts with
            | nil => exact absurd rfl this
            | cons a b => rfl
          rw [z0]
          refine iteF ?_
          refine ⟨_, rfl, D, ts, p, ps, rfl, SqL.of e1', by simpa using l, fun i t q a b => ?_, fun t r a => ⟨_, _, (1 : Int), _, rfl, rfl, a, rfl, k2⟩⟩
          obtain ⟨r, h1, h2⟩ := rk'.2 i t q a b
          exact ⟨r, SqT.of h1, SqT.of h2⟩
end
/-! ### clean records -/
def Rc.cln (r : Rc) : Rc := { r with dirty := false }
def cleanN (s : Nat) (kn : List Kn) : List Kn := kn.map fun p => if p.slot = s then { p with rc := p.rc.cln } else p
def spCleaned : Sp := fun vs H Q _ => ∃ (t : Addr) (rc : Rc), vs = [.ref t] ∧ H t = some (.tup rc.vs) ∧ ∀ t', H t' = none → Q (.ref t') (upd H t' (.tup rc.cln.vs))
def spLClean (CM CK : Addr) : Sp := fun vs H Q _ => ∃ (M : Mm) (n s : Nat) (ks : List Kp), vs = [.ref M.m, .int (s : Int)] ∧ MemAt CM CK H M n ks ∧ (atN (kns ks) s).isSome = true ∧ Chg CM CK H M n ks (cleanN s (kns ks)) Q
theorem cleanN_set {ks : List Kp} {q : Kp} (nd : (ks.map (fun q => q.slot)).Nodup) (hq : q ∈ ks) (t : Addr) : kns (setP ks { q with rc := q.rc.cln, kt := t }) = cleanN q.slot (kns ks) := by
  unfold kns setP cleanN
  rw [List.map_map, List.map_map]
  refine List.map_congr_left fun p hp => ?_
  show Kp.toKn (if p.slot = q.slot then _ else p) = if p.slot = q.slot then _ else p.toKn
  by_cases z : p.slot = q.slot
  · rw [if_pos z, if_pos z, slot_inj nd hp hq z]
  · rw [if_neg z, if_neg z]
section
variable {P : Program} {w : World} {K : PySem.W.Frag} {mg : Str → Option Value} {base : Heap}
theorem ok_cleaned (T : Gx K mg) : FnOk P w K mg base CX0 1 T.f_cleaned T.fd_cleaned ["record"] spCleaned := by
  refine T.F_cleaned.ok sc_cleaned (fun vs H Q E h => ?_) (fun cdv A outer s H vs Q E hr h => ?_)
  · obtain ⟨t, rc, rfl, _⟩ := h
    rfl
  · obtain ⟨t, rc, rfl, ht, k⟩ := h
    refine ⟨_, (pss_cons (ps_asg (pv 0) (pg_tup (by rfl) (pgs_cons (pg_name (i := 1) sc_cleaned.nd rfl (.inl rfl)) (pgs_cons (pg_name (i := 2) sc_cleaned.nd rfl (.inl rfl)) (pgs_cons (pg_name (i := 3) sc_cleaned.nd rfl (.inl rfl)) (pgs_cons (pg_name (i := 4) sc_cleaned.nd rfl (.inl rfl)) pgs_nil))))))
      (pss_one (ps_ret (pe_tup (pa_cons (pv 1) (pa_cons (pv 2) (pa_cons (pv 3) (pa_cons pe_bl pa_nil)))))))), ?_⟩
    exact ⟨_, rfl, t, _, rfl, SqT.of ht, rfl, _, _, rfl, _, _, rfl, _, _, rfl, _, _, rfl, rfl, _, rfl, _, rfl, _, rfl, sz_le (by simp), k⟩
theorem ok_lClean (T : Gx K mg) : FnOk P w K mg base CX0 2 T.f_Memory_learn_clean T.fd_Memory_learn_clean ["self", "slot"] (spLClean T.C_Memory T.C_KnownSlot) := by
  have G_cleaned : FnOk P w K mg base CX0 1 T.f_cleaned T.fd_cleaned ["record"] spCleaned := ok_cleaned T
  refine T.F_Memory_learn_clean.ok sc_Memory_learn_clean (fun vs H Q E h => ?_) (fun cdv A outer s H vs Q E hr h => ?_)
  · obtain ⟨M, n, s, ks, rfl, _⟩ := h
    rfl
  · obtain ⟨M, n, s, ks, rfl, hM, hs, k⟩ := h
    rw [atN_kns, Option.isSome_map] at hs
    obtain ⟨q, eq⟩ := Option.isSome_iff_exists.mp hs
    obtain ⟨hq, es⟩ := atSlot_mem eq
    have hv : valV (ks.map Kp.kv) (Sum.inl (s : Int)) = some (.ref q.ka) := by rw [valV_kv, eq]; rfl
    have g := DGet.k (k := Sum.inl (s : Int)) hM.dct
    rw [hv] at g
    have hqo := hM.one q hq
    refine ⟨_, (pss_cons (ps_set (i := 2) sc_Memory_learn_clean.nd rfl (.inl rfl) (pe_dget (dU hr) (pe_fld (pv 0) rfl) (pv 1) (fun _ _ => rfl)))
      (pss_one (ps_fld (pv 2) (pe_call G_cleaned (hr.mono (by first | decide | omega)) (by rfl) T.g_cleaned T.F_cleaned.kp (b_cleaned T) .nil pass0 (pa_cons (pe_fld (pv 2) rfl) pa_nil)) rfl))), ?_⟩
    refine ⟨_, rfl, M.m, T.C_Memory, M.x, _, _, rfl, hM.ins, T.cl_Memory, T.n_Memory__known, mF_get1, _, rfl, M.d, _, rfl, g, ?_⟩
    refine ⟨_, rfl, q.ka, T.C_KnownSlot, q.kx, _, _, rfl, hqo, T.cl_KnownSlot, T.n_KnownSlot_record, kF_get0, q.kt, q.rc, rfl, hM.rcd q hq, fun t ht => ?_⟩
    have f1 : Fr [] H (upd H t (.tup q.rc.cln.vs)) := Fr.new ht
    have hqo1 := f1 _ _ hqo (by simp)
    refine ⟨_, rfl, q.ka, T.C_KnownSlot, q.kx, _, rfl, hqo1, T.cl_KnownSlot, T.n_KnownSlot_record, by simp [kF], ?_⟩
    rw [kF_put0]
    have f2 : Fr [q.ka] (upd H t (.tup q.rc.cln.vs)) (upd (upd H t (.tup q.rc.cln.vs)) q.ka (.ins T.C_KnownSlot q.kx (kF (.ref t) (.int q.came) (.int q.used) (.int q.uses)))) := Fr.put (by simp)
    have f : Fr [q.ka] H (upd (upd H t (.tup q.rc.cln.vs)) q.ka (.ins T.C_KnownSlot q.kx (kF (.ref t) (.int q.came) (.int q.used) (.int q.uses)))) := (f1.mono (by simp)).trans f2
    subst es
    refine k _ (setP ks { q with rc := q.rc.cln, kt := t }) (f.mono (fun b hb => by rw [List.mem_singleton.mp hb]; exact own_q hq)) (hM.setq hq rfl (.inl rfl) (f.mono (by simp)) ?_ upd_same ?_) (cleanN_set hM.sl hq t) (setP_own hq (.inl rfl))
    · rw [setP_kv ks (q' := { q with rc := q.rc.cln, kt := t }) hM.sl hq rfl rfl]
      exact f _ _ hM.dct (by simpa using (hM.qd hq).symm)
    · exact (upd_ne (ne_of_none hqo ht).symm).trans upd_same
end
/-! ### the slots with dirty records, by their turns -/
def dirtyP (kn : List Kn) : List (Int × Int) := ((sortN kn).filter fun q => q.rc.dirty).map fun q => ((q.rc.turn : Int), (q.slot : Int))
def Lex (a b : Int × Int) : Prop := a.1 < b.1 ∨ (a.1 = b.1 ∧ a.2 ≤ b.2)
/-- these slots, in the order of turns -/
def DirtyL (kn : List Kn) (ps : List (Int × Int)) : Prop := ps.Perm (dirtyP kn) ∧ ps.Pairwise Lex
def spDirty (CM CK : Addr) : Sp := fun vs H Q _ => ∃ (M : Mm) (n : Nat) (ks : List Kp), vs = [.ref M.m] ∧ MemAt CM CK H M n ks ∧ ∀ (D : Addr) (ps : List (Int × Int)) (H' : Hp), H D = none → Fr [] H H' → H' D = some (.lst ((ps.map Prod.snd).map V.int)) → DirtyL (kns ks) ps → Q (.ref D) H'
/-- tuples of a turn and a slot -/
def Tp (H : Hp) (ts : List Addr) (ps : List (Int × Int)) : Prop := ts.length = ps.length ∧ ∀ (i : Nat) (t : Addr) (p : Int × Int), ts[i]? = some t → ps[i]? = some p → H t = some (.tup [.int p.1, .int p.2])
theorem dirty_succ (ks : List Kp) (i : Nat) (hi : i < (sortK ks).length) : ((((sortK ks).take (i + 1)).map Kp.toKn).filter fun q => q.rc.dirty).map (fun q => ((q.rc.turn : Int), (q.slot : Int))) =
    ((((sortK ks).take i).map Kp.toKn).filter fun q => q.rc.dirty).map (fun q => ((q.rc.turn : Int), (q.slot : Int))) ++ (if (sortK ks)[i].rc.dirty = true then [(((sortK ks)[i].rc.turn : Int), ((sortK ks)[i].slot : Int))] else []) := by
  rw [List.take_succ, List.getElem?_eq_getElem hi, List.map_append, List.filter_append, List.map_append]
  refine congrArg _ ?_
  show ((List.filter (fun q => q.rc.dirty) [(sortK ks)[i].toKn]).map _) = _
  by_cases e : (sortK ks)[i].rc.dirty = true
  · rw [if_pos e, List.filter_cons_of_pos (by simp [e])]
    rfl
  · rw [if_neg e, List.filter_cons_of_neg (by simp [e])]
    rfl
theorem valV_krR {qs : List Kp} {q : Kp} (nd : (qs.map fun q => q.slot).Nodup) (hq : q ∈ qs) : valV (qs.map Kp.kr) (Sum.inl (q.slot : Int)) = some (.ref q.kt) := by
  induction qs with
  | nil => cases hq
  | cons a r ih =>
    rw [List.map_cons, List.nodup_cons] at nd
    rw [List.map_cons]
    rcases List.mem_cons.mp hq with e | hq'
    · rw [e]
      exact valV_pos rfl
    · refine (valV_neg ?_).trans (ih nd.2 hq')
      intro z
      have : (a.slot : Int) = (q.slot : Int) := Sum.inl.inj z
      exact nd.1 (List.mem_map.mpr ⟨q, hq', by omega⟩)
theorem Tp.keep {S : List Addr} {H H' : Hp} {ts : List Addr} {qs : List (Int × Int)} (h : Tp H ts qs) (f : Fr S H H') (m : ∀ b ∈ S, ∀ xs, H b ≠ some (.tup xs)) : Tp H' ts qs :=
  ⟨h.1, fun i t q e1 e2 => f _ _ (h.2 i t q e1 e2) (fun z => m _ z _ (h.2 i t q e1 e2))⟩
theorem Tp.snoc {H : Hp} {ts : List Addr} {qs : List (Int × Int)} {t : Addr} {q : Int × Int} (h : Tp H ts qs) (a : H t = some (.tup [.int q.1, .int q.2])) : Tp H (ts ++ [t]) (qs ++ [q]) := by
  refine ⟨by rw [List.length_append, List.length_append, h.1]; rfl, fun j u p e1 e2 => ?_⟩
  by_cases hj : j < ts.length
  · rw [List.getElem?_append_left hj] at e1
    rw [List.getElem?_append_left (by rw [← h.1]; exact hj)] at e2
    exact h.2 j u p e1 e2
  · rw [List.getElem?_append_right (by omega)] at e1
    rw [List.getElem?_append_right (by rw [← h.1]; omega)] at e2
    rw [← h.1] at e2
    have hz : j - ts.length = 0 := by
      have := lt_of_at e1
      simp at this
      omega
    rw [hz] at e1 e2
    cases e1
    cases e2
    exact a
/-- what a tuple of two numbers says -/
def kf (H : Hp) (v : V) : Int × Int := match v with
  | .ref t => match H t with
    | some (.tup [.int a, .int b]) => (a, b)
    | _ => (0, 0)
  | _ => (0, 0)
theorem kf_at {H : Hp} {t : Addr} {a b : Int} (h : H t = some (.tup [.int a, .int b])) : kf H (.ref t) = (a, b) := by
  unfold kf
  simp only [h]
theorem Tp.map {H : Hp} {ts : List Addr} {qs : List (Int × Int)} (h : Tp H ts qs) : (ts.map V.ref).map (kf H) = qs := by
  refine List.ext_getElem? fun i => ?_
  rw [List.getElem?_map, List.getElem?_map]
  cases e : ts[i]? with
  | none =>
    have : ts.length ≤ i := List.getElem?_eq_none_iff.mp e
    rw [List.getElem?_eq_none (by rw [← h.1]; exact this)]
    rfl
  | some t =>
    have hi := lt_of_at e
    rw [h.1] at hi
    rw [List.getElem?_eq_getElem hi]
    show some (kf H (.ref t)) = _
    rw [kf_at (h.2 i t _ e (List.getElem?_eq_getElem hi))]
section
variable {P : Program} {w : World} {K : PySem.W.Frag} {mg : Str → Option Value} {base : Heap}
theorem ok_dirty (T : Gx K mg) : FnOk P w K mg base CX0 2 T.f_Memory_dirty_slots T.fd_Memory_dirty_slots ["self"] (spDirty T.C_Memory T.C_KnownSlot) := by
  have G_Memory_records : FnOk P w K mg base CX0 1 T.f_Memory_records T.fd_Memory_records ["self"] (spRecords T.C_Memory T.C_KnownSlot) := ok_records T
  refine T.F_Memory_dirty_slots.ok sc_Memory_dirty_slots (fun vs H Q E h => ?_) (fun cdv A outer s H vs Q E hr h => ?_)
  · obtain ⟨M, n, ks, rfl, _⟩ := h
    rfl
  · obtain ⟨M, n, ks, rfl, hM, k⟩ := h
    refine ⟨_, (pss_cons (ps_set (i := 1) sc_Memory_dirty_slots.nd rfl (.inr rfl) (pe_meth0 (pv 0) T.cl_Memory T.m_Memory_records G_Memory_records (hr.mono (by first | decide | omega)) (b_Memory_records T) .nil pass0))
      (pss_cons (ps_lock (ps_setLc (i := 2) (own := [("slot", 3)]) (g := gName 3) rfl sc_Memory_dirty_slots.nd rfl rfl (sw_true rfl rfl rfl (by decide +kernel)) (pi_keys (pv 1)) (blkOk_by (N := ["self", "records", "turns", "slot", "_"]) (sc := defScope s_Memory_dirty_slots) (by decide +kernel)) (fun _ _ _ _ _ => pg_name (i := 3) sc_Memory_dirty_slots.nd rfl (.inl rfl)) (fun _ _ _ _ _ => (pts_one (pt_val (pe_ix (ix_tupK (K := K) rfl) (pe_dget (dU hr) (pv 1) (pv 3) (fun _ _ => rfl)) (pe_glob (v := .int (3)) (by rfl) T.c_IS_DIRTY ⟨_, rfl⟩) (fun _ _ => rfl))))) (fun _ _ _ _ _ => (pe_tup (pa_cons (pe_ix (ix_tupK (K := K) rfl) (pe_dget (dU hr) (pv 1) (pv 3) (fun _ _ => rfl)) (pe_glob (v := .int (2)) (by rfl) T.c_TURN ⟨_, rfl⟩) (fun _ _ => rfl)) (pa_cons (pv 3) pa_nil))))))
      (pss_one (ps_ret (pe_lc (own := [("_", 4), ("slot", 3)]) (g := gTup K 2 (gCons (gName 4) (gCons (gName 3) gNil))) rfl sc_Memory_dirty_slots.nd (pi_list (pe_callB cr_sortedPO (by rfl) T.z_sorted (by decide +kernel) (pa_cons (pv 2) pa_nil))) (blkOk_by (N := ["self", "records", "turns", "slot", "_"]) (sc := defScope s_Memory_dirty_slots) (by decide +kernel)) (fun _ _ _ _ _ => pg_tup (by rfl) (pgs_cons (pg_name (i := 4) sc_Memory_dirty_slots.nd rfl (.inl rfl)) (pgs_cons (pg_name (i := 3) sc_Memory_dirty_slots.nd rfl (.inl rfl)) pgs_nil))) (fun _ _ _ _ _ => pts_nil) (fun _ _ _ _ _ => (pv 3))))))), ?_⟩
    refine ⟨_, rfl, M.m, M.x, _, rfl, hM.ins, mF_no_records, M, n, ks, rfl, hM, fun R H1 hR f1 e1 => ?_⟩
    have hM1 := hM.keep0 f1
    refine ⟨R, _, e1, trivial, fun od => ?_⟩
    have hL : ∀ a o, H1 a = some o → a ≠ R → (upd H1 R (.frz od (.dK ((sortK ks).map Kp.kr)))) a = some o := fun a o e z => (upd_ne z).trans e
    refine ⟨_, rfl, R, od, rfl, .inl ⟨_, upd_same, fun D hD => ?_⟩⟩
    refine lc_it (walk_keys (d := R) (o := od) (kvs := (sortK ks).map Kp.kr)) (fun i H' => Fr [] (upd H1 R (.frz od (.dK ((sortK ks).map Kp.kr)))) H' ∧ ∃ ts : List Addr, H' D = some (.lst (ts.map V.ref)) ∧ Tp H' ts (((((sortK ks).take i).map Kp.toKn).filter fun q => q.rc.dirty).map fun q => ((q.rc.turn : Int), (q.slot : Int)))) ⟨Fr.new hD, [], upd_same, rfl, fun i t p e => by simp at e⟩ (fun i H' _ g => g.1 _ _ upd_same (by simp)) ?_ ?_
    · rintro i x H2 H3 hi ⟨f2, ts, e2, tp⟩ ⟨rfl, ky, vy, ek, rfl⟩
      have hi' : i < (sortK ks).length := by simpa using hi
      rw [List.getElem?_map, List.getElem?_eq_getElem hi'] at ek
      cases ek
      have hq : (sortK ks)[i] ∈ sortK ks := List.getElem_mem hi'
      have hq' := sortK_mem.mp hq
      have nd : ((sortK ks).map (fun (q : Kp) => q.slot)).Nodup := ((sortK_perm ks).map (fun (q : Kp) => q.slot)).nodup_iff.mpr hM.sl
      have ng : R ≠ (sortK ks)[i].kt := (ne_of_none (hM.rcd _ hq') hR).symm
      have g : DGet H3 R (kV (Sum.inl ((sortK ks)[i].slot : Int))) (some (.ref (sortK ks)[i].kt)) := .inl ⟨_, Sum.inl ((sortK ks)[i].slot : Int), .inr ⟨od, f2 _ _ upd_same (by simp)⟩, rfl, (valV_krR nd hq).symm⟩
      have ht := f2 _ _ (hL _ _ (hM1.rcd _ hq') ng.symm) (by simp)
      refine ⟨rfl, _, rfl, _, rfl, R, _, rfl, g, _, _, (3 : Int), _, rfl, rfl, SqT.of ht, rfl, _, rfl, ?_⟩
      refine iteB (fun e => ?_) fun e => ?_
      · refine ⟨_, rfl, _, rfl, R, _, rfl, g, _, _, (2 : Int), _, rfl, rfl, SqT.of ht, rfl, _, rfl, sz_le (by simp), fun t htn => ?_⟩
        have ft : Fr [] H3 (upd H3 t (.tup [.int ((sortK ks)[i].rc.turn : Int), .int ((sortK ks)[i].slot : Int)])) := Fr.new htn
        have nD := ne_of_none e2 htn
        refine ⟨_, ft _ _ e2 (by simp), ?_, (f2.trans ft).upd0 hD, ts ++ [t], ?_, ?_⟩
        · rw [List.length_map, tp.1]
          refine sz_lt ?_
          have q1 := List.length_filter_le (fun (q : Kn) => q.rc.dirty) (((sortK ks).take i).map Kp.toKn)
          have q2 := List.length_take_le i (sortK ks)
          have := hM.len
          have := (sortK_perm ks).length_eq
          simp only [List.length_map] at q1 ⊢
          omega
        · rw [List.map_append]
          exact upd_same
        · rw [dirty_succ ks i hi', if_pos e]
          refine Tp.keep (S := [D]) ((tp.keep ft (by simp)).snoc (q := (((sortK ks)[i].rc.turn : Int), ((sortK ks)[i].slot : Int))) upd_same) (Fr.put (by simp)) fun b hb xs => ?_
          rw [List.mem_singleton.mp hb, ft _ _ e2 (by simp)]
          simp
      · refine ⟨f2, ts, e2, ?_⟩
        rw [dirty_succ ks i hi', if_neg (by rw [show (sortK ks)[i].rc.dirty = false from e]; simp), List.append_nil]
        exact tp
    · rintro H2 ⟨f2, ts, e2, tp⟩
      obtain ⟨g1, g2⟩ := Fr.unlock e1 f2
      refine ⟨g1, ?_⟩
      have hDR := (free_upd hD).2
      have eD : (upd H2 R (.dK ((sortK ks).map Kp.kr))) D = some (.lst (ts.map V.ref)) := (upd_ne hDR).trans e2
      have tp' : Tp (upd H2 R (.dK ((sortK ks).map Kp.kr))) ts (dirtyP (kns ks)) := by
        have e : (sortK ks).take ((sortK ks).map Kp.kr).length = sortK ks := by rw [List.length_map, List.take_length]
        rw [e] at tp
        unfold dirtyP
        rw [← sortK_kns]
        refine Tp.keep (S := [R]) tp (Fr.put (by simp)) fun b hb xs => ?_
        rw [List.mem_singleton.mp hb, g1]
        simp
      have fu : Fr [] H (upd H2 R (.dK ((sortK ks).map Kp.kr))) := f1.trans g2
      generalize (upd H2 R (.dK ((sortK ks).map Kp.kr))) = Hu at eD tp' fu ⊢
      have tat : ∀ y ∈ ts.map V.ref, ∃ t, y = V.ref t ∧ Hu t = some (.tup [.int (kf Hu y).1, .int (kf Hu y).2]) := fun y hy => by
        obtain ⟨t, ht, rfl⟩ := List.mem_map.mp hy
        obtain ⟨i, hi, e⟩ := List.mem_iff_getElem.mp ht
        have hi2 : i < (dirtyP (kns ks)).length := by rw [← tp'.1]; exact hi
        have z := tp'.2 i t _ (by rw [← e]; exact List.getElem?_eq_getElem hi) (List.getElem?_eq_getElem hi2)
        refine ⟨t, rfl, ?_⟩
        rw [kf_at z]
        exact z
      refine ⟨_, rfl, D, ts.map V.ref, kf Hu, rfl, SqL.of eD, tat, fun ys p hsd hst hp => ?_⟩
      have fp : Fr [] Hu (upd Hu p (.lst ys)) := Fr.new hp
      have hps : DirtyL (kns ks) (ys.map (kf Hu)) := by
        refine ⟨(hst.perm.map (kf Hu)).trans (List.Perm.of_eq tp'.map), List.pairwise_map.mpr (hsd.imp fun {a b} h => ?_)⟩
        unfold Lex
        have h' : ¬ ((kf Hu b).1 < (kf Hu a).1 ∨ ((kf Hu b).1 = (kf Hu a).1 ∧ (kf Hu b).2 < (kf Hu a).2)) := fun z => by
          have := SrtO.lexB_iff.mpr z
          rw [show SrtO.lexB (kf Hu b) (kf Hu a) = false from h] at this
          cases this
        omega
      refine ⟨p, rfl, ⟨_, SqL.of upd_same⟩, fun D2 hD2 => ?_⟩
      refine lc_it (walk_list (K := K) (a := p) (xs := ys)) (fun j H' => Fr [] (upd Hu p (.lst ys)) H' ∧ H' D2 = some (.lst ((((ys.take j).map (kf Hu)).map Prod.snd).map V.int))) ⟨Fr.new hD2, upd_same⟩ (fun j H' _ h => SqL.of (h.1 _ _ upd_same (by simp))) ?_ ?_
      · rintro j y H3 H4 hj ⟨f3, e3⟩ ⟨rfl, ey⟩
        obtain ⟨t, rfl, ht⟩ := tat y (hst.perm.mem_iff.mp (List.mem_of_getElem? ey))
        have ht4 := f3 _ _ (fp _ _ ht (by simp)) (by simp)
        refine ⟨t, _, rfl, SqT.of ht4, rfl, _, _, rfl, _, _, rfl, rfl, rfl, ?_⟩
        unfold tYes
        refine iteT ?_
        refine ⟨_, rfl, _, e3, ?_, f3.upd0 hD2, ?_⟩
        · rw [List.length_map, List.length_map, List.length_map, List.length_take]
          have q1 := hst.perm.length_eq
          rw [List.length_map, tp'.1] at q1
          unfold dirtyP at q1
          have q2 := List.length_filter_le (fun (q : Kn) => q.rc.dirty) (sortN (kns ks))
          have q3 : (sortN (kns ks)).length = ks.length := by
            unfold sortN
            rw [List.length_mergeSort, List.length_map]
          rw [List.length_map] at q1
          have := hM.len
          exact sz_lt (by omega)
        · rw [upd_same, List.take_succ, ey, List.map_append, List.map_append, List.map_append]
          rfl
      · rintro H3 ⟨f3, e3⟩
        rw [List.take_length] at e3
        exact k D2 (ys.map (kf Hu)) H3 ((fu.trans fp).nah hD2 |>.resolve_left (by simp)) ((fu.trans fp).trans f3) e3 hps
end
/-! ### attributes of pairs -/
def pF (a b c d e f g h i j k l m : V) : List (Str × V) := [("_blocks", a), ("_rules", b), ("_recipes", c), ("_slow", d), ("_fast", e), ("_memory", f), ("_counts_of_dead", g), ("_requests", h), ("_hits", i), ("_next_turn", j), ("_steps_left", k), ("_is_on", l), ("_is_done", m)]
theorem pnf0_1 : ¬ (("_blocks" : Str) = "_rules") := by decide +kernel
theorem pbf0_1 : (("_blocks" : Str) == "_rules") = false := by decide +kernel
theorem pnf0_2 : ¬ (("_blocks" : Str) = "_recipes") := by decide +kernel
theorem pbf0_2 : (("_blocks" : Str) == "_recipes") = false := by decide +kernel
theorem pnf0_3 : ¬ (("_blocks" : Str) = "_slow") := by decide +kernel
theorem pbf0_3 : (("_blocks" : Str) == "_slow") = false := by decide +kernel
theorem pnf0_4 : ¬ (("_blocks" : Str) = "_fast") := by decide +kernel
theorem pbf0_4 : (("_blocks" : Str) == "_fast") = false := by decide +kernel
theorem pnf0_5 : ¬ (("_blocks" : Str) = "_memory") := by decide +kernel
theorem pbf0_5 : (("_blocks" : Str) == "_memory") = false := by decide +kernel
theorem pnf0_6 : ¬ (("_blocks" : Str) = "_counts_of_dead") := by decide +kernel
theorem pbf0_6 : (("_blocks" : Str) == "_counts_of_dead") = false := by decide +kernel
theorem pnf0_7 : ¬ (("_blocks" : Str) = "_requests") := by decide +kernel
theorem pbf0_7 : (("_blocks" : Str) == "_requests") = false := by decide +kernel
theorem pnf0_8 : ¬ (("_blocks" : Str) = "_hits") := by decide +kernel
theorem pbf0_8 : (("_blocks" : Str) == "_hits") = false := by decide +kernel
theorem pnf0_9 : ¬ (("_blocks" : Str) = "_next_turn") := by decide +kernel
theorem pbf0_9 : (("_blocks" : Str) == "_next_turn") = false := by decide +kernel
theorem pnf0_10 : ¬ (("_blocks" : Str) = "_steps_left") := by decide +kernel
theorem pbf0_10 : (("_blocks" : Str) == "_steps_left") = false := by decide +kernel
theorem pnf0_11 : ¬ (("_blocks" : Str) = "_is_on") := by decide +kernel
theorem pbf0_11 : (("_blocks" : Str) == "_is_on") = false := by decide +kernel
theorem pnf0_12 : ¬ (("_blocks" : Str) = "_is_done") := by decide +kernel
theorem pbf0_12 : (("_blocks" : Str) == "_is_done") = false := by decide +kernel
theorem pnf1_0 : ¬ (("_rules" : Str) = "_blocks") := by decide +kernel
theorem pbf1_0 : (("_rules" : Str) == "_blocks") = false := by decide +kernel
theorem pnf1_2 : ¬ (("_rules" : Str) = "_recipes") := by decide +kernel
theorem pbf1_2 : (("_rules" : Str) == "_recipes") = false := by decide +kernel
theorem pnf1_3 : ¬ (("_rules" : Str) = "_slow") := by decide +kernel
theorem pbf1_3 : (("_rules" : Str) == "_slow") = false := by decide +kernel
theorem pnf1_4 : ¬ (("_rules" : Str) = "_fast") := by decide +kernel
theorem pbf1_4 : (("_rules" : Str) == "_fast") = false := by decide +kernel
theorem pnf1_5 : ¬ (("_rules" : Str) = "_memory") := by decide +kernel
theorem pbf1_5 : (("_rules" : Str) == "_memory") = false := by decide +kernel
theorem pnf1_6 : ¬ (("_rules" : Str) = "_counts_of_dead") := by decide +kernel
theorem pbf1_6 : (("_rules" : Str) == "_counts_of_dead") = false := by decide +kernel
theorem pnf1_7 : ¬ (("_rules" : Str) = "_requests") := by decide +kernel
theorem pbf1_7 : (("_rules" : Str) == "_requests") = false := by decide +kernel
theorem pnf1_8 : ¬ (("_rules" : Str) = "_hits") := by decide +kernel
theorem pbf1_8 : (("_rules" : Str) == "_hits") = false := by decide +kernel
theorem pnf1_9 : ¬ (("_rules" : Str) = "_next_turn") := by decide +kernel
theorem pbf1_9 : (("_rules" : Str) == "_next_turn") = false := by decide +kernel
theorem pnf1_10 : ¬ (("_rules" : Str) = "_steps_left") := by decide +kernel
theorem pbf1_10 : (("_rules" : Str) == "_steps_left") = false := by decide +kernel
theorem pnf1_11 : ¬ (("_rules" : Str) = "_is_on") := by decide +kernel
theorem pbf1_11 : (("_rules" : Str) == "_is_on") = false := by decide +kernel
theorem pnf1_12 : ¬ (("_rules" : Str) = "_is_done") := by decide +kernel
theorem pbf1_12 : (("_rules" : Str) == "_is_done") = false := by decide +kernel
theorem pnf2_0 : ¬ (("_recipes" : Str) = "_blocks") := by decide +kernel
theorem pbf2_0 : (("_recipes" : Str) == "_blocks") = false := by decide +kernel
theorem pnf2_1 : ¬ (("_recipes" : Str) = "_rules") := by decide +kernel
theorem pbf2_1 : (("_recipes" : Str) == "_rules") = false := by decide +kernel
theorem pnf2_3 : ¬ (("_recipes" : Str) = "_slow") := by decide +kernel
theorem pbf2_3 : (("_recipes" : Str) == "_slow") = false := by decide +kernel
theorem pnf2_4 : ¬ (("_recipes" : Str) = "_fast") := by decide +kernel
theorem pbf2_4 : (("_recipes" : Str) == "_fast") = false := by decide +kernel
theorem pnf2_5 : ¬ (("_recipes" : Str) = "_memory") := by decide +kernel
theorem pbf2_5 : (("_recipes" : Str) == "_memory") = false := by decide +kernel
theorem pnf2_6 : ¬ (("_recipes" : Str) = "_counts_of_dead") := by decide +kernel
theorem pbf2_6 : (("_recipes" : Str) == "_counts_of_dead") = false := by decide +kernel
theorem pnf2_7 : ¬ (("_recipes" : Str) = "_requests") := by decide +kernel
theorem pbf2_7 : (("_recipes" : Str) == "_requests") = false := by decide +kernel
theorem pnf2_8 : ¬ (("_recipes" : Str) = "_hits") := by decide +kernel
theorem pbf2_8 : (("_recipes" : Str) == "_hits") = false := by decide +kernel
theorem pnf2_9 : ¬ (("_recipes" : Str) = "_next_turn") := by decide +kernel
theorem pbf2_9 : (("_recipes" : Str) == "_next_turn") = false := by decide +kernel
theorem pnf2_10 : ¬ (("_recipes" : Str) = "_steps_left") := by decide +kernel
theorem pbf2_10 : (("_recipes" : Str) == "_steps_left") = false := by decide +kernel
theorem pnf2_11 : ¬ (("_recipes" : Str) = "_is_on") := by decide +kernel
theorem pbf2_11 : (("_recipes" : Str) == "_is_on") = false := by decide +kernel
theorem pnf2_12 : ¬ (("_recipes" : Str) = "_is_done") := by decide +kernel
theorem pbf2_12 : (("_recipes" : Str) == "_is_done") = false := by decide +kernel
theorem pnf3_0 : ¬ (("_slow" : Str) = "_blocks") := by decide +kernel
theorem pbf3_0 : (("_slow" : Str) == "_blocks") = false := by decide +kernel
theorem pnf3_1 : ¬ (("_slow" : Str) = "_rules") := by decide +kernel
theorem pbf3_1 : (("_slow" : Str) == "_rules") = false := by decide +kernel
theorem pnf3_2 : ¬ (("_slow" : Str) = "_recipes") := by decide +kernel
theorem pbf3_2 : (("_slow" : Str) == "_recipes") = false := by decide +kernel
theorem pnf3_4 : ¬ (("_slow" : Str) = "_fast") := by decide +kernel
theorem pbf3_4 : (("_slow" : Str) == "_fast") = false := by decide +kernel
theorem pnf3_5 : ¬ (("_slow" : Str) = "_memory") := by decide +kernel
theorem pbf3_5 : (("_slow" : Str) == "_memory") = false := by decide +kernel
theorem pnf3_6 : ¬ (("_slow" : Str) = "_counts_of_dead") := by decide +kernel
theorem pbf3_6 : (("_slow" : Str) == "_counts_of_dead") = false := by decide +kernel
theorem pnf3_7 : ¬ (("_slow" : Str) = "_requests") := by decide +kernel
theorem pbf3_7 : (("_slow" : Str) == "_requests") = false := by decide +kernel
theorem pnf3_8 : ¬ (("_slow" : Str) = "_hits") := by decide +kernel
theorem pbf3_8 : (("_slow" : Str) == "_hits") = false := by decide +kernel
theorem pnf3_9 : ¬ (("_slow" : Str) = "_next_turn") := by decide +kernel
theorem pbf3_9 : (("_slow" : Str) == "_next_turn") = false := by decide +kernel
theorem pnf3_10 : ¬ (("_slow" : Str) = "_steps_left") := by decide +kernel
theorem pbf3_10 : (("_slow" : Str) == "_steps_left") = false := by decide +kernel
theorem pnf3_11 : ¬ (("_slow" : Str) = "_is_on") := by decide +kernel
theorem pbf3_11 : (("_slow" : Str) == "_is_on") = false := by decide +kernel
theorem pnf3_12 : ¬ (("_slow" : Str) = "_is_done") := by decide +kernel
theorem pbf3_12 : (("_slow" : Str) == "_is_done") = false := by decide +kernel
theorem pnf4_0 : ¬ (("_fast" : Str) = "_blocks") := by decide +kernel
theorem pbf4_0 : (("_fast" : Str) == "_blocks") = false := by decide +kernel
theorem pnf4_1 : ¬ (("_fast" : Str) = "_rules") := by decide +kernel
theorem pbf4_1 : (("_fast" : Str) == "_rules") = false := by decide +kernel
theorem pnf4_2 : ¬ (("_fast" : Str) = "_recipes") := by decide +kernel
theorem pbf4_2 : (("_fast" : Str) == "_recipes") = false := by decide +kernel
theorem pnf4_3 : ¬ (("_fast" : Str) = "_slow") := by decide +kernel
theorem pbf4_3 : (("_fast" : Str) == "_slow") = false := by decide +kernel
theorem pnf4_5 : ¬ (("_fast" : Str) = "_memory") := by decide +kernel
theorem pbf4_5 : (("_fast" : Str) == "_memory") = false := by decide +kernel
theorem pnf4_6 : ¬ (("_fast" : Str) = "_counts_of_dead") := by decide +kernel
theorem pbf4_6 : (("_fast" : Str) == "_counts_of_dead") = false := by decide +kernel
theorem pnf4_7 : ¬ (("_fast" : Str) = "_requests") := by decide +kernel
theorem pbf4_7 : (("_fast" : Str) == "_requests") = false := by decide +kernel
theorem pnf4_8 : ¬ (("_fast" : Str) = "_hits") := by decide +kernel
theorem pbf4_8 : (("_fast" : Str) == "_hits") = false := by decide +kernel
theorem pnf4_9 : ¬ (("_fast" : Str) = "_next_turn") := by decide +kernel
theorem pbf4_9 : (("_fast" : Str) == "_next_turn") = false := by decide +kernel
theorem pnf4_10 : ¬ (("_fast" : Str) = "_steps_left") := by decide +kernel
theorem pbf4_10 : (("_fast" : Str) == "_steps_left") = false := by decide +kernel
theorem pnf4_11 : ¬ (("_fast" : Str) = "_is_on") := by decide +kernel
theorem pbf4_11 : (("_fast" : Str) == "_is_on") = false := by decide +kernel
theorem pnf4_12 : ¬ (("_fast" : Str) = "_is_done") := by decide +kernel
theorem pbf4_12 : (("_fast" : Str) == "_is_done") = false := by decide +kernel
theorem pnf5_0 : ¬ (("_memory" : Str) = "_blocks") := by decide +kernel
theorem pbf5_0 : (("_memory" : Str) == "_blocks") = false := by decide +kernel
theorem pnf5_1 : ¬ (("_memory" : Str) = "_rules") := by decide +kernel
theorem pbf5_1 : (("_memory" : Str) == "_rules") = false := by decide +kernel
theorem pnf5_2 : ¬ (("_memory" : Str) = "_recipes") := by decide +kernel
theorem pbf5_2 : (("_memory" : Str) == "_recipes") = false := by decide +kernel
theorem pnf5_3 : ¬ (("_memory" : Str) = "_slow") := by decide +kernel
theorem pbf5_3 : (("_memory" : Str) == "_slow") = false := by decide +kernel
theorem pnf5_4 : ¬ (("_memory" : Str) = "_fast") := by decide +kernel
theorem pbf5_4 : (("_memory" : Str) == "_fast") = false := by decide +kernel
theorem pnf5_6 : ¬ (("_memory" : Str) = "_counts_of_dead") := by decide +kernel
theorem pbf5_6 : (("_memory" : Str) == "_counts_of_dead") = false := by decide +kernel
theorem pnf5_7 : ¬ (("_memory" : Str) = "_requests") := by decide +kernel
theorem pbf5_7 : (("_memory" : Str) == "_requests") = false := by decide +kernel
theorem pnf5_8 : ¬ (("_memory" : Str) = "_hits") := by decide +kernel
theorem pbf5_8 : (("_memory" : Str) == "_hits") = false := by decide +kernel
theorem pnf5_9 : ¬ (("_memory" : Str) = "_next_turn") := by decide +kernel
theorem pbf5_9 : (("_memory" : Str) == "_next_turn") = false := by decide +kernel
theorem pnf5_10 : ¬ (("_memory" : Str) = "_steps_left") := by decide +kernel
theorem pbf5_10 : (("_memory" : Str) == "_steps_left") = false := by decide +kernel
theorem pnf5_11 : ¬ (("_memory" : Str) = "_is_on") := by decide +kernel
theorem pbf5_11 : (("_memory" : Str) == "_is_on") = false := by decide +kernel
theorem pnf5_12 : ¬ (("_memory" : Str) = "_is_done") := by decide +kernel
theorem pbf5_12 : (("_memory" : Str) == "_is_done") = false := by decide +kernel
theorem pnf6_0 : ¬ (("_counts_of_dead" : Str) = "_blocks") := by decide +kernel
theorem pbf6_0 : (("_counts_of_dead" : Str) == "_blocks") = false := by decide +kernel
theorem pnf6_1 : ¬ (("_counts_of_dead" : Str) = "_rules") := by decide +kernel
theorem pbf6_1 : (("_counts_of_dead" : Str) == "_rules") = false := by decide +kernel
theorem pnf6_2 : ¬ (("_counts_of_dead" : Str) = "_recipes") := by decide +kernel
theorem pbf6_2 : (("_counts_of_dead" : Str) == "_recipes") = false := by decide +kernel
theorem pnf6_3 : ¬ (("_counts_of_dead" : Str) = "_slow") := by decide +kernel
theorem pbf6_3 : (("_counts_of_dead" : Str) == "_slow") = false := by decide +kernel
theorem pnf6_4 : ¬ (("_counts_of_dead" : Str) = "_fast") := by decide +kernel
theorem pbf6_4 : (("_counts_of_dead" : Str) == "_fast") = false := by decide +kernel
theorem pnf6_5 : ¬ (("_counts_of_dead" : Str) = "_memory") := by decide +kernel
theorem pbf6_5 : (("_counts_of_dead" : Str) == "_memory") = false := by decide +kernel
theorem pnf6_7 : ¬ (("_counts_of_dead" : Str) = "_requests") := by decide +kernel
theorem pbf6_7 : (("_counts_of_dead" : Str) == "_requests") = false := by decide +kernel
theorem pnf6_8 : ¬ (("_counts_of_dead" : Str) = "_hits") := by decide +kernel
theorem pbf6_8 : (("_counts_of_dead" : Str) == "_hits") = false := by decide +kernel
theorem pnf6_9 : ¬ (("_counts_of_dead" : Str) = "_next_turn") := by decide +kernel
theorem pbf6_9 : (("_counts_of_dead" : Str) == "_next_turn") = false := by decide +kernel
theorem pnf6_10 : ¬ (("_counts_of_dead" : Str) = "_steps_left") := by decide +kernel
theorem pbf6_10 : (("_counts_of_dead" : Str) == "_steps_left") = false := by decide +kernel
theorem pnf6_11 : ¬ (("_counts_of_dead" : Str) = "_is_on") := by decide +kernel
theorem pbf6_11 : (("_counts_of_dead" : Str) == "_is_on") = false := by decide +kernel
theorem pnf6_12 : ¬ (("_counts_of_dead" : Str) = "_is_done") := by decide +kernel
theorem pbf6_12 : (("_counts_of_dead" : Str) == "_is_done") = false := by decide +kernel
theorem pnf7_0 : ¬ (("_requests" : Str) = "_blocks") := by decide +kernel
theorem pbf7_0 : (("_requests" : Str) == "_blocks") = false := by decide +kernel
theorem pnf7_1 : ¬ (("_requests" : Str) = "_rules") := by decide +kernel
theorem pbf7_1 : (("_requests" : Str) == "_rules") = false := by decide +kernel
theorem pnf7_2 : ¬ (("_requests" : Str) = "_recipes") := by decide +kernel
theorem pbf7_2 : (("_requests" : Str) == "_recipes") = false := by decide +kernel
theorem pnf7_3 : ¬ (("_requests" : Str) = "_slow") := by decide +kernel
theorem pbf7_3 : (("_requests" : Str) == "_slow") = false := by decide +kernel
theorem pnf7_4 : ¬ (("_requests" : Str) = "_fast") := by decide +kernel
theorem pbf7_4 : (("_requests" : Str) == "_fast") = false := by decide +kernel
theorem pnf7_5 : ¬ (("_requests" : Str) = "_memory") := by decide +kernel
theorem pbf7_5 : (("_requests" : Str) == "_memory") = false := by decide +kernel
theorem pnf7_6 : ¬ (("_requests" : Str) = "_counts_of_dead") := by decide +kernel
theorem pbf7_6 : (("_requests" : Str) == "_counts_of_dead") = false := by decide +kernel
theorem pnf7_8 : ¬ (("_requests" : Str) = "_hits") := by decide +kernel
theorem pbf7_8 : (("_requests" : Str) == "_hits") = false := by decide +kernel
theorem pnf7_9 : ¬ (("_requests" : Str) = "_next_turn") := by decide +kernel
theorem pbf7_9 : (("_requests" : Str) == "_next_turn") = false := by decide +kernel
theorem pnf7_10 : ¬ (("_requests" : Str) = "_steps_left") := by decide +kernel
theorem pbf7_10 : (("_requests" : Str) == "_steps_left") = false := by decide +kernel
theorem pnf7_11 : ¬ (("_requests" : Str) = "_is_on") := by decide +kernel
theorem pbf7_11 : (("_requests" : Str) == "_is_on") = false := by decide +kernel
theorem pnf7_12 : ¬ (("_requests" : Str) = "_is_done") := by decide +kernel
theorem pbf7_12 : (("_requests" : Str) == "_is_done") = false := by decide +kernel
theorem pnf8_0 : ¬ (("_hits" : Str) = "_blocks") := by decide +kernel
theorem pbf8_0 : (("_hits" : Str) == "_blocks") = false := by decide +kernel
theorem pnf8_1 : ¬ (("_hits" : Str) = "_rules") := by decide +kernel
theorem pbf8_1 : (("_hits" : Str) == "_rules") = false := by decide +kernel
theorem pnf8_2 : ¬ (("_hits" : Str) = "_recipes") := by decide +kernel
theorem pbf8_2 : (("_hits" : Str) == "_recipes") = false := by decide +kernel
theorem pnf8_3 : ¬ (("_hits" : Str) = "_slow") := by decide +kernel
theorem pbf8_3 : (("_hits" : Str) == "_slow") = false := by decide +kernel
theorem pnf8_4 : ¬ (("_hits" : Str) = "_fast") := by decide +kernel
theorem pbf8_4 : (("_hits" : Str) == "_fast") = false := by decide +kernel
theorem pnf8_5 : ¬ (("_hits" : Str) = "_memory") := by decide +kernel
theorem pbf8_5 : (("_hits" : Str) == "_memory") = false := by decide +kernel
theorem pnf8_6 : ¬ (("_hits" : Str) = "_counts_of_dead") := by decide +kernel
theorem pbf8_6 : (("_hits" : Str) == "_counts_of_dead") = false := by decide +kernel
theorem pnf8_7 : ¬ (("_hits" : Str) = "_requests") := by decide +kernel
theorem pbf8_7 : (("_hits" : Str) == "_requests") = false := by decide +kernel
theorem pnf8_9 : ¬ (("_hits" : Str) = "_next_turn") := by decide +kernel
theorem pbf8_9 : (("_hits" : Str) == "_next_turn") = false := by decide +kernel
theorem pnf8_10 : ¬ (("_hits" : Str) = "_steps_left") := by decide +kernel
theorem pbf8_10 : (("_hits" : Str) == "_steps_left") = false := by decide +kernel
theorem pnf8_11 : ¬ (("_hits" : Str) = "_is_on") := by decide +kernel
theorem pbf8_11 : (("_hits" : Str) == "_is_on") = false := by decide +kernel
theorem pnf8_12 : ¬ (("_hits" : Str) = "_is_done") := by decide +kernel
theorem pbf8_12 : (("_hits" : Str) == "_is_done") = false := by decide +kernel
theorem pnf9_0 : ¬ (("_next_turn" : Str) = "_blocks") := by decide +kernel
theorem pbf9_0 : (("_next_turn" : Str) == "_blocks") = false := by decide +kernel
theorem pnf9_1 : ¬ (("_next_turn" : Str) = "_rules") := by decide +kernel
theorem pbf9_1 : (("_next_turn" : Str) == "_rules") = false := by decide +kernel
theorem pnf9_2 : ¬ (("_next_turn" : Str) = "_recipes") := by decide +kernel
theorem pbf9_2 : (("_next_turn" : Str) == "_recipes") = false := by decide +kernel
theorem pnf9_3 : ¬ (("_next_turn" : Str) = "_slow") := by decide +kernel
theorem pbf9_3 : (("_next_turn" : Str) == "_slow") = false := by decide +kernel
theorem pnf9_4 : ¬ (("_next_turn" : Str) = "_fast") := by decide +kernel
theorem pbf9_4 : (("_next_turn" : Str) == "_fast") = false := by decide +kernel
theorem pnf9_5 : ¬ (("_next_turn" : Str) = "_memory") := by decide +kernel
theorem pbf9_5 : (("_next_turn" : Str) == "_memory") = false := by decide +kernel
theorem pnf9_6 : ¬ (("_next_turn" : Str) = "_counts_of_dead") := by decide +kernel
theorem pbf9_6 : (("_next_turn" : Str) == "_counts_of_dead") = false := by decide +kernel
theorem pnf9_7 : ¬ (("_next_turn" : Str) = "_requests") := by decide +kernel
theorem pbf9_7 : (("_next_turn" : Str) == "_requests") = false := by decide +kernel
theorem pnf9_8 : ¬ (("_next_turn" : Str) = "_hits") := by decide +kernel
theorem pbf9_8 : (("_next_turn" : Str) == "_hits") = false := by decide +kernel
theorem pnf9_10 : ¬ (("_next_turn" : Str) = "_steps_left") := by decide +kernel
theorem pbf9_10 : (("_next_turn" : Str) == "_steps_left") = false := by decide +kernel
theorem pnf9_11 : ¬ (("_next_turn" : Str) = "_is_on") := by decide +kernel
theorem pbf9_11 : (("_next_turn" : Str) == "_is_on") = false := by decide +kernel
theorem pnf9_12 : ¬ (("_next_turn" : Str) = "_is_done") := by decide +kernel
theorem pbf9_12 : (("_next_turn" : Str) == "_is_done") = false := by decide +kernel
theorem pnf10_0 : ¬ (("_steps_left" : Str) = "_blocks") := by decide +kernel
theorem pbf10_0 : (("_steps_left" : Str) == "_blocks") = false := by decide +kernel
theorem pnf10_1 : ¬ (("_steps_left" : Str) = "_rules") := by decide +kernel
theorem pbf10_1 : (("_steps_left" : Str) == "_rules") = false := by decide +kernel
theorem pnf10_2 : ¬ (("_steps_left" : Str) = "_recipes") := by decide +kernel
theorem pbf10_2 : (("_steps_left" : Str) == "_recipes") = false := by decide +kernel
theorem pnf10_3 : ¬ (("_steps_left" : Str) = "_slow") := by decide +kernel
theorem pbf10_3 : (("_steps_left" : Str) == "_slow") = false := by decide +kernel
theorem pnf10_4 : ¬ (("_steps_left" : Str) = "_fast") := by decide +kernel
theorem pbf10_4 : (("_steps_left" : Str) == "_fast") = false := by decide +kernel
theorem pnf10_5 : ¬ (("_steps_left" : Str) = "_memory") := by decide +kernel
theorem pbf10_5 : (("_steps_left" : Str) == "_memory") = false := by decide +kernel
theorem pnf10_6 : ¬ (("_steps_left" : Str) = "_counts_of_dead") := by decide +kernel
theorem pbf10_6 : (("_steps_left" : Str) == "_counts_of_dead") = false := by decide +kernel
theorem pnf10_7 : ¬ (("_steps_left" : Str) = "_requests") := by decide +kernel
theorem pbf10_7 : (("_steps_left" : Str) == "_requests") = false := by decide +kernel
theorem pnf10_8 : ¬ (("_steps_left" : Str) = "_hits") := by decide +kernel
theorem pbf10_8 : (("_steps_left" : Str) == "_hits") = false := by decide +kernel
theorem pnf10_9 : ¬ (("_steps_left" : Str) = "_next_turn") := by decide +kernel
theorem pbf10_9 : (("_steps_left" : Str) == "_next_turn") = false := by decide +kernel
theorem pnf10_11 : ¬ (("_steps_left" : Str) = "_is_on") := by decide +kernel
theorem pbf10_11 : (("_steps_left" : Str) == "_is_on") = false := by decide +kernel
theorem pnf10_12 : ¬ (("_steps_left" : Str) = "_is_done") := by decide +kernel
theorem pbf10_12 : (("_steps_left" : Str) == "_is_done") = false := by decide +kernel
theorem pnf11_0 : ¬ (("_is_on" : Str) = "_blocks") := by decide +kernel
theorem pbf11_0 : (("_is_on" : Str) == "_blocks") = false := by decide +kernel
theorem pnf11_1 : ¬ (("_is_on" : Str) = "_rules") := by decide +kernel
theorem pbf11_1 : (("_is_on" : Str) == "_rules") = false := by decide +kernel
theorem pnf11_2 : ¬ (("_is_on" : Str) = "_recipes") := by decide +kernel
theorem pbf11_2 : (("_is_on" : Str) == "_recipes") = false := by decide +kernel
theorem pnf11_3 : ¬ (("_is_on" : Str) = "_slow") := by decide +kernel
theorem pbf11_3 : (("_is_on" : Str) == "_slow") = false := by decide +kernel
theorem pnf11_4 : ¬ (("_is_on" : Str) = "_fast") := by decide +kernel
theorem pbf11_4 : (("_is_on" : Str) == "_fast") = false := by decide +kernel
theorem pnf11_5 : ¬ (("_is_on" : Str) = "_memory") := by decide +kernel
theorem pbf11_5 : (("_is_on" : Str) == "_memory") = false := by decide +kernel
theorem pnf11_6 : ¬ (("_is_on" : Str) = "_counts_of_dead") := by decide +kernel
theorem pbf11_6 : (("_is_on" : Str) == "_counts_of_dead") = false := by decide +kernel
theorem pnf11_7 : ¬ (("_is_on" : Str) = "_requests") := by decide +kernel
theorem pbf11_7 : (("_is_on" : Str) == "_requests") = false := by decide +kernel
theorem pnf11_8 : ¬ (("_is_on" : Str) = "_hits") := by decide +kernel
theorem pbf11_8 : (("_is_on" : Str) == "_hits") = false := by decide +kernel
theorem pnf11_9 : ¬ (("_is_on" : Str) = "_next_turn") := by decide +kernel
theorem pbf11_9 : (("_is_on" : Str) == "_next_turn") = false := by decide +kernel
theorem pnf11_10 : ¬ (("_is_on" : Str) = "_steps_left") := by decide +kernel
theorem pbf11_10 : (("_is_on" : Str) == "_steps_left") = false := by decide +kernel
theorem pnf11_12 : ¬ (("_is_on" : Str) = "_is_done") := by decide +kernel
theorem pbf11_12 : (("_is_on" : Str) == "_is_done") = false := by decide +kernel
theorem pnf12_0 : ¬ (("_is_done" : Str) = "_blocks") := by decide +kernel
theorem pbf12_0 : (("_is_done" : Str) == "_blocks") = false := by decide +kernel
theorem pnf12_1 : ¬ (("_is_done" : Str) = "_rules") := by decide +kernel
theorem pbf12_1 : (("_is_done" : Str) == "_rules") = false := by decide +kernel
theorem pnf12_2 : ¬ (("_is_done" : Str) = "_recipes") := by decide +kernel
theorem pbf12_2 : (("_is_done" : Str) == "_recipes") = false := by decide +kernel
theorem pnf12_3 : ¬ (("_is_done" : Str) = "_slow") := by decide +kernel
theorem pbf12_3 : (("_is_done" : Str) == "_slow") = false := by decide +kernel
theorem pnf12_4 : ¬ (("_is_done" : Str) = "_fast") := by decide +kernel
theorem pbf12_4 : (("_is_done" : Str) == "_fast") = false := by decide +kernel
theorem pnf12_5 : ¬ (("_is_done" : Str) = "_memory") := by decide +kernel
theorem pbf12_5 : (("_is_done" : Str) == "_memory") = false := by decide +kernel
theorem pnf12_6 : ¬ (("_is_done" : Str) = "_counts_of_dead") := by decide +kernel
theorem pbf12_6 : (("_is_done" : Str) == "_counts_of_dead") = false := by decide +kernel
theorem pnf12_7 : ¬ (("_is_done" : Str) = "_requests") := by decide +kernel
theorem pbf12_7 : (("_is_done" : Str) == "_requests") = false := by decide +kernel
theorem pnf12_8 : ¬ (("_is_done" : Str) = "_hits") := by decide +kernel
theorem pbf12_8 : (("_is_done" : Str) == "_hits") = false := by decide +kernel
theorem pnf12_9 : ¬ (("_is_done" : Str) = "_next_turn") := by decide +kernel
theorem pbf12_9 : (("_is_done" : Str) == "_next_turn") = false := by decide +kernel
theorem pnf12_10 : ¬ (("_is_done" : Str) = "_steps_left") := by decide +kernel
theorem pbf12_10 : (("_is_done" : Str) == "_steps_left") = false := by decide +kernel
theorem pnf12_11 : ¬ (("_is_done" : Str) = "_is_on") := by decide +kernel
theorem pbf12_11 : (("_is_done" : Str) == "_is_on") = false := by decide +kernel
theorem pbf0_0 : (("_blocks" : Str) == "_blocks") = true := by decide +kernel
theorem pbf1_1 : (("_rules" : Str) == "_rules") = true := by decide +kernel
theorem pbf2_2 : (("_recipes" : Str) == "_recipes") = true := by decide +kernel
theorem pbf3_3 : (("_slow" : Str) == "_slow") = true := by decide +kernel
theorem pbf4_4 : (("_fast" : Str) == "_fast") = true := by decide +kernel
theorem pbf5_5 : (("_memory" : Str) == "_memory") = true := by decide +kernel
theorem pbf6_6 : (("_counts_of_dead" : Str) == "_counts_of_dead") = true := by decide +kernel
theorem pbf7_7 : (("_requests" : Str) == "_requests") = true := by decide +kernel
theorem pbf8_8 : (("_hits" : Str) == "_hits") = true := by decide +kernel
theorem pbf9_9 : (("_next_turn" : Str) == "_next_turn") = true := by decide +kernel
theorem pbf10_10 : (("_steps_left" : Str) == "_steps_left") = true := by decide +kernel
theorem pbf11_11 : (("_is_on" : Str) == "_is_on") = true := by decide +kernel
theorem pbf12_12 : (("_is_done" : Str) == "_is_done") = true := by decide +kernel
theorem pF_get0 {a b c d e f g h i j k l m : V} : (pF a b c d e f g h i j k l m).lookup ("_blocks" : Str) = some a := by
  unfold pF
  simp only [List.lookup, pbf0_0]
theorem pF_put0 {a b c d e f g h i j k l m z : V} : putF "_blocks" z (pF a b c d e f g h i j k l m) = pF z b c d e f g h i j k l m := by
  unfold pF
  simp only [putF, if_true, eq_self_iff_true]
theorem pF_get1 {a b c d e f g h i j k l m : V} : (pF a b c d e f g h i j k l m).lookup ("_rules" : Str) = some b := by
  unfold pF
  simp only [List.lookup, pbf1_0, pbf1_1]
theorem pF_put1 {a b c d e f g h i j k l m z : V} : putF "_rules" z (pF a b c d e f g h i j k l m) = pF a z c d e f g h i j k l m := by
  unfold pF
  simp only [putF, if_neg pnf0_1, if_true, eq_self_iff_true]
theorem pF_get2 {a b c d e f g h i j k l m : V} : (pF a b c d e f g h i j k l m).lookup ("_recipes" : Str) = some c := by
  unfold pF
  simp only [List.lookup, pbf2_0, pbf2_1, pbf2_2]
theorem pF_put2 {a b c d e f g h i j k l m z : V} : putF "_recipes" z (pF a b c d e f g h i j k l m) = pF a b z d e f g h i j k l m := by
  unfold pF
  simp only [putF, if_neg pnf0_2, if_neg pnf1_2, if_true, eq_self_iff_true]
theorem pF_get3 {a b c d e f g h i j k l m : V} : (pF a b c d e f g h i j k l m).lookup ("_slow" : Str) = some d := by
  unfold pF
  simp only [List.lookup, pbf3_0, pbf3_1, pbf3_2, pbf3_3]
theorem pF_put3 {a b c d e f g h i j k l m z : V} : putF "_slow" z (pF a b c d e f g h i j k l m) = pF a b c z e f g h i j k l m := by
  unfold pF
  simp only [putF, if_neg pnf0_3, if_neg pnf1_3, if_neg pnf2_3, if_true, eq_self_iff_true]
theorem pF_get4 {a b c d e f g h i j k l m : V} : (pF a b c d e f g h i j k l m).lookup ("_fast" : Str) = some e := by
  unfold pF
  simp only [List.lookup, pbf4_0, pbf4_1, pbf4_2, pbf4_3, pbf4_4]
theorem pF_put4 {a b c d e f g h i j k l m z : V} : putF "_fast" z (pF a b c d e f g h i j k l m) = pF a b c d z f g h i j k l m := by
  unfold pF
  simp only [putF, if_neg pnf0_4, if_neg pnf1_4, if_neg pnf2_4, if_neg pnf3_4, if_true, eq_self_iff_true]
theorem pF_get5 {a b c d e f g h i j k l m : V} : (pF a b c d e f g h i j k l m).lookup ("_memory" : Str) = some f := by
  unfold pF
  simp only [List.lookup, pbf5_0, pbf5_1, pbf5_2, pbf5_3, pbf5_4, pbf5_5]
theorem pF_put5 {a b c d e f g h i j k l m z : V} : putF "_memory" z (pF a b c d e f g h i j k l m) = pF a b c d e z g h i j k l m := by
  unfold pF
  simp only [putF, if_neg pnf0_5, if_neg pnf1_5, if_neg pnf2_5, if_neg pnf3_5, if_neg pnf4_5, if_true, eq_self_iff_true]
theorem pF_get6 {a b c d e f g h i j k l m : V} : (pF a b c d e f g h i j k l m).lookup ("_counts_of_dead" : Str) = some g := by
  unfold pF
  simp only [List.lookup, pbf6_0, pbf6_1, pbf6_2, pbf6_3, pbf6_4, pbf6_5, pbf6_6]
theorem pF_put6 {a b c d e f g h i j k l m z : V} : putF "_counts_of_dead" z (pF a b c d e f g h i j k l m) = pF a b c d e f z h i j k l m := by
  unfold pF
  simp only [putF, if_neg pnf0_6, if_neg pnf1_6, if_neg pnf2_6, if_neg pnf3_6, if_neg pnf4_6, if_neg pnf5_6, if_true, eq_self_iff_true]
theorem pF_get7 {a b c d e f g h i j k l m : V} : (pF a b c d e f g h i j k l m).lookup ("_requests" : Str) = some h := by
  unfold pF
  simp only [List.lookup, pbf7_0, pbf7_1, pbf7_2, pbf7_3, pbf7_4, pbf7_5, pbf7_6, pbf7_7]
theorem pF_put7 {a b c d e f g h i j k l m z : V} : putF "_requests" z (pF a b c d e f g h i j k l m) = pF a b c d e f g z i j k l m := by
  unfold pF
  simp only [putF, if_neg pnf0_7, if_neg pnf1_7, if_neg pnf2_7, if_neg pnf3_7, if_neg pnf4_7, if_neg pnf5_7, if_neg pnf6_7, if_true, eq_self_iff_true]
theorem pF_get8 {a b c d e f g h i j k l m : V} : (pF a b c d e f g h i j k l m).lookup ("_hits" : Str) = some i := by
  unfold pF
  simp only [List.lookup, pbf8_0, pbf8_1, pbf8_2, pbf8_3, pbf8_4, pbf8_5, pbf8_6, pbf8_7, pbf8_8]
theorem pF_put8 {a b c d e f g h i j k l m z : V} : putF "_hits" z (pF a b c d e f g h i j k l m) = pF a b c d e f g h z j k l m := by
  unfold pF
  simp only [putF, if_neg pnf0_8, if_neg pnf1_8, if_neg pnf2_8, if_neg pnf3_8, if_neg pnf4_8, if_neg pnf5_8, if_neg pnf6_8, if_neg pnf7_8, if_true, eq_self_iff_true]
theorem pF_get9 {a b c d e f g h i j k l m : V} : (pF a b c d e f g h i j k l m).lookup ("_next_turn" : Str) = some j := by
  unfold pF
  simp only [List.lookup, pbf9_0, pbf9_1, pbf9_2, pbf9_3, pbf9_4, pbf9_5, pbf9_6, pbf9_7, pbf9_8, pbf9_9]
theorem pF_put9 {a b c d e f g h i j k l m z : V} : putF "_next_turn" z (pF a b c d e f g h i j k l m) = pF a b c d e f g h i z k l m := by
  unfold pF
  simp only [putF, if_neg pnf0_9, if_neg pnf1_9, if_neg pnf2_9, if_neg pnf3_9, if_neg pnf4_9, if_neg pnf5_9, if_neg pnf6_9, if_neg pnf7_9, if_neg pnf8_9, if_true, eq_self_iff_true]
theorem pF_get10 {a b c d e f g h i j k l m : V} : (pF a b c d e f g h i j k l m).lookup ("_steps_left" : Str) = some k := by
  unfold pF
  simp only [List.lookup, pbf10_0, pbf10_1, pbf10_2, pbf10_3, pbf10_4, pbf10_5, pbf10_6, pbf10_7, pbf10_8, pbf10_9, pbf10_10]
theorem pF_put10 {a b c d e f g h i j k l m z : V} : putF "_steps_left" z (pF a b c d e f g h i j k l m) = pF a b c d e f g h i j z l m := by
  unfold pF
  simp only [putF, if_neg pnf0_10, if_neg pnf1_10, if_neg pnf2_10, if_neg pnf3_10, if_neg pnf4_10, if_neg pnf5_10, if_neg pnf6_10, if_neg pnf7_10, if_neg pnf8_10, if_neg pnf9_10, if_true, eq_self_iff_true]
theorem pF_get11 {a b c d e f g h i j k l m : V} : (pF a b c d e f g h i j k l m).lookup ("_is_on" : Str) = some l := by
  unfold pF
  simp only [List.lookup, pbf11_0, pbf11_1, pbf11_2, pbf11_3, pbf11_4, pbf11_5, pbf11_6, pbf11_7, pbf11_8, pbf11_9, pbf11_10, pbf11_11]
theorem pF_put11 {a b c d e f g h i j k l m z : V} : putF "_is_on" z (pF a b c d e f g h i j k l m) = pF a b c d e f g h i j k z m := by
  unfold pF
  simp only [putF, if_neg pnf0_11, if_neg pnf1_11, if_neg pnf2_11, if_neg pnf3_11, if_neg pnf4_11, if_neg pnf5_11, if_neg pnf6_11, if_neg pnf7_11, if_neg pnf8_11, if_neg pnf9_11, if_neg pnf10_11, if_true, eq_self_iff_true]
theorem pF_get12 {a b c d e f g h i j k l m : V} : (pF a b c d e f g h i j k l m).lookup ("_is_done" : Str) = some m := by
  unfold pF
  simp only [List.lookup, pbf12_0, pbf12_1, pbf12_2, pbf12_3, pbf12_4, pbf12_5, pbf12_6, pbf12_7, pbf12_8, pbf12_9, pbf12_10, pbf12_11, pbf12_12]
theorem pF_put12 {a b c d e f g h i j k l m z : V} : putF "_is_done" z (pF a b c d e f g h i j k l m) = pF a b c d e f g h i j k l z := by
  unfold pF
  simp only [putF, if_neg pnf0_12, if_neg pnf1_12, if_neg pnf2_12, if_neg pnf3_12, if_neg pnf4_12, if_neg pnf5_12, if_neg pnf6_12, if_neg pnf7_12, if_neg pnf8_12, if_neg pnf9_12, if_neg pnf10_12, if_neg pnf11_12, if_true, eq_self_iff_true]
theorem pF_made {a b c d e f g h i j k l m : V} : (putF "_is_done" m (putF "_is_on" l (putF "_steps_left" k (putF "_next_turn" j (putF "_hits" i (putF "_requests" h (putF "_counts_of_dead" g (putF "_memory" f (putF "_fast" e (putF "_slow" d (putF "_recipes" c (putF "_rules" b (putF "_blocks" a []))))))))))))) = pF a b c d e f g h i j k l m := by
  unfold pF
  simp only [putF, if_neg pnf0_1, if_neg pnf0_2, if_neg pnf0_3, if_neg pnf0_4, if_neg pnf0_5, if_neg pnf0_6, if_neg pnf0_7, if_neg pnf0_8, if_neg pnf0_9, if_neg pnf0_10, if_neg pnf0_11, if_neg pnf0_12, if_neg pnf1_2, if_neg pnf1_3, if_neg pnf1_4, if_neg pnf1_5, if_neg pnf1_6, if_neg pnf1_7, if_neg pnf1_8, if_neg pnf1_9, if_neg pnf1_10, if_neg pnf1_11, if_neg pnf1_12, if_neg pnf2_3, if_neg pnf2_4, if_neg pnf2_5, if_neg pnf2_6, if_neg pnf2_7, if_neg pnf2_8, if_neg pnf2_9, if_neg pnf2_10, if_neg pnf2_11, if_neg pnf2_12, if_neg pnf3_4, if_neg pnf3_5, if_neg pnf3_6, if_neg pnf3_7, if_neg pnf3_8, if_neg pnf3_9, if_neg pnf3_10, if_neg pnf3_11, if_neg pnf3_12, if_neg pnf4_5, if_neg pnf4_6, if_neg pnf4_7, if_neg pnf4_8, if_neg pnf4_9, if_neg pnf4_10, if_neg pnf4_11, if_neg pnf4_12, if_neg pnf5_6, if_neg pnf5_7, if_neg pnf5_8, if_neg pnf5_9, if_neg pnf5_10, if_neg pnf5_11, if_neg pnf5_12, if_neg pnf6_7, if_neg pnf6_8, if_neg pnf6_9, if_neg pnf6_10, if_neg pnf6_11, if_neg pnf6_12, if_neg pnf7_8, if_neg pnf7_9, if_neg pnf7_10, if_neg pnf7_11, if_neg pnf7_12, if_neg pnf8_9, if_neg pnf8_10, if_neg pnf8_11, if_neg pnf8_12, if_neg pnf9_10, if_neg pnf9_11, if_neg pnf9_12, if_neg pnf10_11, if_neg pnf10_12, if_neg pnf11_12]
theorem pF_no_read {a b c d e f g h i j k l m : V} : (pF a b c d e f g h i j k l m).lookup ("read" : Str) = none := by
  unfold pF
  simp only [List.lookup, (show (("read" : Str) == "_blocks") = false by decide +kernel), (show (("read" : Str) == "_rules") = false by decide +kernel), (show (("read" : Str) == "_recipes") = false by decide +kernel), (show (("read" : Str) == "_slow") = false by decide +kernel), (show (("read" : Str) == "_fast") = false by decide +kernel), (show (("read" : Str) == "_memory") = false by decide +kernel), (show (("read" : Str) == "_counts_of_dead") = false by decide +kernel), (show (("read" : Str) == "_requests") = false by decide +kernel), (show (("read" : Str) == "_hits") = false by decide +kernel), (show (("read" : Str) == "_next_turn") = false by decide +kernel), (show (("read" : Str) == "_steps_left") = false by decide +kernel), (show (("read" : Str) == "_is_on") = false by decide +kernel), (show (("read" : Str) == "_is_done") = false by decide +kernel)]
theorem pF_no_write {a b c d e f g h i j k l m : V} : (pF a b c d e f g h i j k l m).lookup ("write" : Str) = none := by
  unfold pF
  simp only [List.lookup, (show (("write" : Str) == "_blocks") = false by decide +kernel), (show (("write" : Str) == "_rules") = false by decide +kernel), (show (("write" : Str) == "_recipes") = false by decide +kernel), (show (("write" : Str) == "_slow") = false by decide +kernel), (show (("write" : Str) == "_fast") = false by decide +kernel), (show (("write" : Str) == "_memory") = false by decide +kernel), (show (("write" : Str) == "_counts_of_dead") = false by decide +kernel), (show (("write" : Str) == "_requests") = false by decide +kernel), (show (("write" : Str) == "_hits") = false by decide +kernel), (show (("write" : Str) == "_next_turn") = false by decide +kernel), (show (("write" : Str) == "_steps_left") = false by decide +kernel), (show (("write" : Str) == "_is_on") = false by decide +kernel), (show (("write" : Str) == "_is_done") = false by decide +kernel)]
theorem pF_no_clean_up {a b c d e f g h i j k l m : V} : (pF a b c d e f g h i j k l m).lookup ("clean_up" : Str) = none := by
  unfold pF
  simp only [List.lookup, (show (("clean_up" : Str) == "_blocks") = false by decide +kernel), (show (("clean_up" : Str) == "_rules") = false by decide +kernel), (show (("clean_up" : Str) == "_recipes") = false by decide +kernel), (show (("clean_up" : Str) == "_slow") = false by decide +kernel), (show (("clean_up" : Str) == "_fast") = false by decide +kernel), (show (("clean_up" : Str) == "_memory") = false by decide +kernel), (show (("clean_up" : Str) == "_counts_of_dead") = false by decide +kernel), (show (("clean_up" : Str) == "_requests") = false by decide +kernel), (show (("clean_up" : Str) == "_hits") = false by decide +kernel), (show (("clean_up" : Str) == "_next_turn") = false by decide +kernel), (show (("clean_up" : Str) == "_steps_left") = false by decide +kernel), (show (("clean_up" : Str) == "_is_on") = false by decide +kernel), (show (("clean_up" : Str) == "_is_done") = false by decide +kernel)]
theorem pF_no_settle {a b c d e f g h i j k l m : V} : (pF a b c d e f g h i j k l m).lookup ("settle" : Str) = none := by
  unfold pF
  simp only [List.lookup, (show (("settle" : Str) == "_blocks") = false by decide +kernel), (show (("settle" : Str) == "_rules") = false by decide +kernel), (show (("settle" : Str) == "_recipes") = false by decide +kernel), (show (("settle" : Str) == "_slow") = false by decide +kernel), (show (("settle" : Str) == "_fast") = false by decide +kernel), (show (("settle" : Str) == "_memory") = false by decide +kernel), (show (("settle" : Str) == "_counts_of_dead") = false by decide +kernel), (show (("settle" : Str) == "_requests") = false by decide +kernel), (show (("settle" : Str) == "_hits") = false by decide +kernel), (show (("settle" : Str) == "_next_turn") = false by decide +kernel), (show (("settle" : Str) == "_steps_left") = false by decide +kernel), (show (("settle" : Str) == "_is_on") = false by decide +kernel), (show (("settle" : Str) == "_is_done") = false by decide +kernel)]
theorem pF_no_forget {a b c d e f g h i j k l m : V} : (pF a b c d e f g h i j k l m).lookup ("forget" : Str) = none := by
  unfold pF
  simp only [List.lookup, (show (("forget" : Str) == "_blocks") = false by decide +kernel), (show (("forget" : Str) == "_rules") = false by decide +kernel), (show (("forget" : Str) == "_recipes") = false by decide +kernel), (show (("forget" : Str) == "_slow") = false by decide +kernel), (show (("forget" : Str) == "_fast") = false by decide +kernel), (show (("forget" : Str) == "_memory") = false by decide +kernel), (show (("forget" : Str) == "_counts_of_dead") = false by decide +kernel), (show (("forget" : Str) == "_requests") = false by decide +kernel), (show (("forget" : Str) == "_hits") = false by decide +kernel), (show (("forget" : Str) == "_next_turn") = false by decide +kernel), (show (("forget" : Str) == "_steps_left") = false by decide +kernel), (show (("forget" : Str) == "_is_on") = false by decide +kernel), (show (("forget" : Str) == "_is_done") = false by decide +kernel)]
theorem pF_no_set_rules {a b c d e f g h i j k l m : V} : (pF a b c d e f g h i j k l m).lookup ("set_rules" : Str) = none := by
  unfold pF
  simp only [List.lookup, (show (("set_rules" : Str) == "_blocks") = false by decide +kernel), (show (("set_rules" : Str) == "_rules") = false by decide +kernel), (show (("set_rules" : Str) == "_recipes") = false by decide +kernel), (show (("set_rules" : Str) == "_slow") = false by decide +kernel), (show (("set_rules" : Str) == "_fast") = false by decide +kernel), (show (("set_rules" : Str) == "_memory") = false by decide +kernel), (show (("set_rules" : Str) == "_counts_of_dead") = false by decide +kernel), (show (("set_rules" : Str) == "_requests") = false by decide +kernel), (show (("set_rules" : Str) == "_hits") = false by decide +kernel), (show (("set_rules" : Str) == "_next_turn") = false by decide +kernel), (show (("set_rules" : Str) == "_steps_left") = false by decide +kernel), (show (("set_rules" : Str) == "_is_on") = false by decide +kernel), (show (("set_rules" : Str) == "_is_done") = false by decide +kernel)]
theorem pF_no_fail_at {a b c d e f g h i j k l m : V} : (pF a b c d e f g h i j k l m).lookup ("fail_at" : Str) = none := by
  unfold pF
  simp only [List.lookup, (show (("fail_at" : Str) == "_blocks") = false by decide +kernel), (show (("fail_at" : Str) == "_rules") = false by decide +kernel), (show (("fail_at" : Str) == "_recipes") = false by decide +kernel), (show (("fail_at" : Str) == "_slow") = false by decide +kernel), (show (("fail_at" : Str) == "_fast") = false by decide +kernel), (show (("fail_at" : Str) == "_memory") = false by decide +kernel), (show (("fail_at" : Str) == "_counts_of_dead") = false by decide +kernel), (show (("fail_at" : Str) == "_requests") = false by decide +kernel), (show (("fail_at" : Str) == "_hits") = false by decide +kernel), (show (("fail_at" : Str) == "_next_turn") = false by decide +kernel), (show (("fail_at" : Str) == "_steps_left") = false by decide +kernel), (show (("fail_at" : Str) == "_is_on") = false by decide +kernel), (show (("fail_at" : Str) == "_is_done") = false by decide +kernel)]
theorem pF_no_cut {a b c d e f g h i j k l m : V} : (pF a b c d e f g h i j k l m).lookup ("cut" : Str) = none := by
  unfold pF
  simp only [List.lookup, (show (("cut" : Str) == "_blocks") = false by decide +kernel), (show (("cut" : Str) == "_rules") = false by decide +kernel), (show (("cut" : Str) == "_recipes") = false by decide +kernel), (show (("cut" : Str) == "_slow") = false by decide +kernel), (show (("cut" : Str) == "_fast") = false by decide +kernel), (show (("cut" : Str) == "_memory") = false by decide +kernel), (show (("cut" : Str) == "_counts_of_dead") = false by decide +kernel), (show (("cut" : Str) == "_requests") = false by decide +kernel), (show (("cut" : Str) == "_hits") = false by decide +kernel), (show (("cut" : Str) == "_next_turn") = false by decide +kernel), (show (("cut" : Str) == "_steps_left") = false by decide +kernel), (show (("cut" : Str) == "_is_on") = false by decide +kernel), (show (("cut" : Str) == "_is_done") = false by decide +kernel)]
theorem pF_no_restart {a b c d e f g h i j k l m : V} : (pF a b c d e f g h i j k l m).lookup ("restart" : Str) = none := by
  unfold pF
  simp only [List.lookup, (show (("restart" : Str) == "_blocks") = false by decide +kernel), (show (("restart" : Str) == "_rules") = false by decide +kernel), (show (("restart" : Str) == "_recipes") = false by decide +kernel), (show (("restart" : Str) == "_slow") = false by decide +kernel), (show (("restart" : Str) == "_fast") = false by decide +kernel), (show (("restart" : Str) == "_memory") = false by decide +kernel), (show (("restart" : Str) == "_counts_of_dead") = false by decide +kernel), (show (("restart" : Str) == "_requests") = false by decide +kernel), (show (("restart" : Str) == "_hits") = false by decide +kernel), (show (("restart" : Str) == "_next_turn") = false by decide +kernel), (show (("restart" : Str) == "_steps_left") = false by decide +kernel), (show (("restart" : Str) == "_is_on") = false by decide +kernel), (show (("restart" : Str) == "_is_done") = false by decide +kernel)]
theorem pF_no_lose_fast {a b c d e f g h i j k l m : V} : (pF a b c d e f g h i j k l m).lookup ("lose_fast" : Str) = none := by
  unfold pF
  simp only [List.lookup, (show (("lose_fast" : Str) == "_blocks") = false by decide +kernel), (show (("lose_fast" : Str) == "_rules") = false by decide +kernel), (show (("lose_fast" : Str) == "_recipes") = false by decide +kernel), (show (("lose_fast" : Str) == "_slow") = false by decide +kernel), (show (("lose_fast" : Str) == "_fast") = false by decide +kernel), (show (("lose_fast" : Str) == "_memory") = false by decide +kernel), (show (("lose_fast" : Str) == "_counts_of_dead") = false by decide +kernel), (show (("lose_fast" : Str) == "_requests") = false by decide +kernel), (show (("lose_fast" : Str) == "_hits") = false by decide +kernel), (show (("lose_fast" : Str) == "_next_turn") = false by decide +kernel), (show (("lose_fast" : Str) == "_steps_left") = false by decide +kernel), (show (("lose_fast" : Str) == "_is_on") = false by decide +kernel), (show (("lose_fast" : Str) == "_is_done") = false by decide +kernel)]
theorem pF_no_give_fast {a b c d e f g h i j k l m : V} : (pF a b c d e f g h i j k l m).lookup ("give_fast" : Str) = none := by
  unfold pF
  simp only [List.lookup, (show (("give_fast" : Str) == "_blocks") = false by decide +kernel), (show (("give_fast" : Str) == "_rules") = false by decide +kernel), (show (("give_fast" : Str) == "_recipes") = false by decide +kernel), (show (("give_fast" : Str) == "_slow") = false by decide +kernel), (show (("give_fast" : Str) == "_fast") = false by decide +kernel), (show (("give_fast" : Str) == "_memory") = false by decide +kernel), (show (("give_fast" : Str) == "_counts_of_dead") = false by decide +kernel), (show (("give_fast" : Str) == "_requests") = false by decide +kernel), (show (("give_fast" : Str) == "_hits") = false by decide +kernel), (show (("give_fast" : Str) == "_next_turn") = false by decide +kernel), (show (("give_fast" : Str) == "_steps_left") = false by decide +kernel), (show (("give_fast" : Str) == "_is_on") = false by decide +kernel), (show (("give_fast" : Str) == "_is_done") = false by decide +kernel)]
theorem pF_no_lose_slow {a b c d e f g h i j k l m : V} : (pF a b c d e f g h i j k l m).lookup ("lose_slow" : Str) = none := by
  unfold pF
  simp only [List.lookup, (show (("lose_slow" : Str) == "_blocks") = false by decide +kernel), (show (("lose_slow" : Str) == "_rules") = false by decide +kernel), (show (("lose_slow" : Str) == "_recipes") = false by decide +kernel), (show (("lose_slow" : Str) == "_slow") = false by decide +kernel), (show (("lose_slow" : Str) == "_fast") = false by decide +kernel), (show (("lose_slow" : Str) == "_memory") = false by decide +kernel), (show (("lose_slow" : Str) == "_counts_of_dead") = false by decide +kernel), (show (("lose_slow" : Str) == "_requests") = false by decide +kernel), (show (("lose_slow" : Str) == "_hits") = false by decide +kernel), (show (("lose_slow" : Str) == "_next_turn") = false by decide +kernel), (show (("lose_slow" : Str) == "_steps_left") = false by decide +kernel), (show (("lose_slow" : Str) == "_is_on") = false by decide +kernel), (show (("lose_slow" : Str) == "_is_done") = false by decide +kernel)]
theorem pF_no__check_on {a b c d e f g h i j k l m : V} : (pF a b c d e f g h i j k l m).lookup ("_check_on" : Str) = none := by
  unfold pF
  simp only [List.lookup, (show (("_check_on" : Str) == "_blocks") = false by decide +kernel), (show (("_check_on" : Str) == "_rules") = false by decide +kernel), (show (("_check_on" : Str) == "_recipes") = false by decide +kernel), (show (("_check_on" : Str) == "_slow") = false by decide +kernel), (show (("_check_on" : Str) == "_fast") = false by decide +kernel), (show (("_check_on" : Str) == "_memory") = false by decide +kernel), (show (("_check_on" : Str) == "_counts_of_dead") = false by decide +kernel), (show (("_check_on" : Str) == "_requests") = false by decide +kernel), (show (("_check_on" : Str) == "_hits") = false by decide +kernel), (show (("_check_on" : Str) == "_next_turn") = false by decide +kernel), (show (("_check_on" : Str) == "_steps_left") = false by decide +kernel), (show (("_check_on" : Str) == "_is_on") = false by decide +kernel), (show (("_check_on" : Str) == "_is_done") = false by decide +kernel)]
theorem pF_no__check_block {a b c d e f g h i j k l m : V} : (pF a b c d e f g h i j k l m).lookup ("_check_block" : Str) = none := by
  unfold pF
  simp only [List.lookup, (show (("_check_block" : Str) == "_blocks") = false by decide +kernel), (show (("_check_block" : Str) == "_rules") = false by decide +kernel), (show (("_check_block" : Str) == "_recipes") = false by decide +kernel), (show (("_check_block" : Str) == "_slow") = false by decide +kernel), (show (("_check_block" : Str) == "_fast") = false by decide +kernel), (show (("_check_block" : Str) == "_memory") = false by decide +kernel), (show (("_check_block" : Str) == "_counts_of_dead") = false by decide +kernel), (show (("_check_block" : Str) == "_requests") = false by decide +kernel), (show (("_check_block" : Str) == "_hits") = false by decide +kernel), (show (("_check_block" : Str) == "_next_turn") = false by decide +kernel), (show (("_check_block" : Str) == "_steps_left") = false by decide +kernel), (show (("_check_block" : Str) == "_is_on") = false by decide +kernel), (show (("_check_block" : Str) == "_is_done") = false by decide +kernel)]
theorem pF_no__begin_request {a b c d e f g h i j k l m : V} : (pF a b c d e f g h i j k l m).lookup ("_begin_request" : Str) = none := by
  unfold pF
  simp only [List.lookup, (show (("_begin_request" : Str) == "_blocks") = false by decide +kernel), (show (("_begin_request" : Str) == "_rules") = false by decide +kernel), (show (("_begin_request" : Str) == "_recipes") = false by decide +kernel), (show (("_begin_request" : Str) == "_slow") = false by decide +kernel), (show (("_begin_request" : Str) == "_fast") = false by decide +kernel), (show (("_begin_request" : Str) == "_memory") = false by decide +kernel), (show (("_begin_request" : Str) == "_counts_of_dead") = false by decide +kernel), (show (("_begin_request" : Str) == "_requests") = false by decide +kernel), (show (("_begin_request" : Str) == "_hits") = false by decide +kernel), (show (("_begin_request" : Str) == "_next_turn") = false by decide +kernel), (show (("_begin_request" : Str) == "_steps_left") = false by decide +kernel), (show (("_begin_request" : Str) == "_is_on") = false by decide +kernel), (show (("_begin_request" : Str) == "_is_done") = false by decide +kernel)]
theorem pF_no__take_slot {a b c d e f g h i j k l m : V} : (pF a b c d e f g h i j k l m).lookup ("_take_slot" : Str) = none := by
  unfold pF
  simp only [List.lookup, (show (("_take_slot" : Str) == "_blocks") = false by decide +kernel), (show (("_take_slot" : Str) == "_rules") = false by decide +kernel), (show (("_take_slot" : Str) == "_recipes") = false by decide +kernel), (show (("_take_slot" : Str) == "_slow") = false by decide +kernel), (show (("_take_slot" : Str) == "_fast") = false by decide +kernel), (show (("_take_slot" : Str) == "_memory") = false by decide +kernel), (show (("_take_slot" : Str) == "_counts_of_dead") = false by decide +kernel), (show (("_take_slot" : Str) == "_requests") = false by decide +kernel), (show (("_take_slot" : Str) == "_hits") = false by decide +kernel), (show (("_take_slot" : Str) == "_next_turn") = false by decide +kernel), (show (("_take_slot" : Str) == "_steps_left") = false by decide +kernel), (show (("_take_slot" : Str) == "_is_on") = false by decide +kernel), (show (("_take_slot" : Str) == "_is_done") = false by decide +kernel)]
theorem pF_no__choose_slots {a b c d e f g h i j k l m : V} : (pF a b c d e f g h i j k l m).lookup ("_choose_slots" : Str) = none := by
  unfold pF
  simp only [List.lookup, (show (("_choose_slots" : Str) == "_blocks") = false by decide +kernel), (show (("_choose_slots" : Str) == "_rules") = false by decide +kernel), (show (("_choose_slots" : Str) == "_recipes") = false by decide +kernel), (show (("_choose_slots" : Str) == "_slow") = false by decide +kernel), (show (("_choose_slots" : Str) == "_fast") = false by decide +kernel), (show (("_choose_slots" : Str) == "_memory") = false by decide +kernel), (show (("_choose_slots" : Str) == "_counts_of_dead") = false by decide +kernel), (show (("_choose_slots" : Str) == "_requests") = false by decide +kernel), (show (("_choose_slots" : Str) == "_hits") = false by decide +kernel), (show (("_choose_slots" : Str) == "_next_turn") = false by decide +kernel), (show (("_choose_slots" : Str) == "_steps_left") = false by decide +kernel), (show (("_choose_slots" : Str) == "_is_on") = false by decide +kernel), (show (("_choose_slots" : Str) == "_is_done") = false by decide +kernel)]
theorem pF_no__recipe_for_writing {a b c d e f g h i j k l m : V} : (pF a b c d e f g h i j k l m).lookup ("_recipe_for_writing" : Str) = none := by
  unfold pF
  simp only [List.lookup, (show (("_recipe_for_writing" : Str) == "_blocks") = false by decide +kernel), (show (("_recipe_for_writing" : Str) == "_rules") = false by decide +kernel), (show (("_recipe_for_writing" : Str) == "_recipes") = false by decide +kernel), (show (("_recipe_for_writing" : Str) == "_slow") = false by decide +kernel), (show (("_recipe_for_writing" : Str) == "_fast") = false by decide +kernel), (show (("_recipe_for_writing" : Str) == "_memory") = false by decide +kernel), (show (("_recipe_for_writing" : Str) == "_counts_of_dead") = false by decide +kernel), (show (("_recipe_for_writing" : Str) == "_requests") = false by decide +kernel), (show (("_recipe_for_writing" : Str) == "_hits") = false by decide +kernel), (show (("_recipe_for_writing" : Str) == "_next_turn") = false by decide +kernel), (show (("_recipe_for_writing" : Str) == "_steps_left") = false by decide +kernel), (show (("_recipe_for_writing" : Str) == "_is_on") = false by decide +kernel), (show (("_recipe_for_writing" : Str) == "_is_done") = false by decide +kernel)]
theorem pF_no__carry_out {a b c d e f g h i j k l m : V} : (pF a b c d e f g h i j k l m).lookup ("_carry_out" : Str) = none := by
  unfold pF
  simp only [List.lookup, (show (("_carry_out" : Str) == "_blocks") = false by decide +kernel), (show (("_carry_out" : Str) == "_rules") = false by decide +kernel), (show (("_carry_out" : Str) == "_recipes") = false by decide +kernel), (show (("_carry_out" : Str) == "_slow") = false by decide +kernel), (show (("_carry_out" : Str) == "_fast") = false by decide +kernel), (show (("_carry_out" : Str) == "_memory") = false by decide +kernel), (show (("_carry_out" : Str) == "_counts_of_dead") = false by decide +kernel), (show (("_carry_out" : Str) == "_requests") = false by decide +kernel), (show (("_carry_out" : Str) == "_hits") = false by decide +kernel), (show (("_carry_out" : Str) == "_next_turn") = false by decide +kernel), (show (("_carry_out" : Str) == "_steps_left") = false by decide +kernel), (show (("_carry_out" : Str) == "_is_on") = false by decide +kernel), (show (("_carry_out" : Str) == "_is_done") = false by decide +kernel)]
theorem pF_no__clean_least_turns {a b c d e f g h i j k l m : V} : (pF a b c d e f g h i j k l m).lookup ("_clean_least_turns" : Str) = none := by
  unfold pF
  simp only [List.lookup, (show (("_clean_least_turns" : Str) == "_blocks") = false by decide +kernel), (show (("_clean_least_turns" : Str) == "_rules") = false by decide +kernel), (show (("_clean_least_turns" : Str) == "_recipes") = false by decide +kernel), (show (("_clean_least_turns" : Str) == "_slow") = false by decide +kernel), (show (("_clean_least_turns" : Str) == "_fast") = false by decide +kernel), (show (("_clean_least_turns" : Str) == "_memory") = false by decide +kernel), (show (("_clean_least_turns" : Str) == "_counts_of_dead") = false by decide +kernel), (show (("_clean_least_turns" : Str) == "_requests") = false by decide +kernel), (show (("_clean_least_turns" : Str) == "_hits") = false by decide +kernel), (show (("_clean_least_turns" : Str) == "_next_turn") = false by decide +kernel), (show (("_clean_least_turns" : Str) == "_steps_left") = false by decide +kernel), (show (("_clean_least_turns" : Str) == "_is_on") = false by decide +kernel), (show (("_clean_least_turns" : Str) == "_is_done") = false by decide +kernel)]
theorem pF_no__clean_slot {a b c d e f g h i j k l m : V} : (pF a b c d e f g h i j k l m).lookup ("_clean_slot" : Str) = none := by
  unfold pF
  simp only [List.lookup, (show (("_clean_slot" : Str) == "_blocks") = false by decide +kernel), (show (("_clean_slot" : Str) == "_rules") = false by decide +kernel), (show (("_clean_slot" : Str) == "_recipes") = false by decide +kernel), (show (("_clean_slot" : Str) == "_slow") = false by decide +kernel), (show (("_clean_slot" : Str) == "_fast") = false by decide +kernel), (show (("_clean_slot" : Str) == "_memory") = false by decide +kernel), (show (("_clean_slot" : Str) == "_counts_of_dead") = false by decide +kernel), (show (("_clean_slot" : Str) == "_requests") = false by decide +kernel), (show (("_clean_slot" : Str) == "_hits") = false by decide +kernel), (show (("_clean_slot" : Str) == "_next_turn") = false by decide +kernel), (show (("_clean_slot" : Str) == "_steps_left") = false by decide +kernel), (show (("_clean_slot" : Str) == "_is_on") = false by decide +kernel), (show (("_clean_slot" : Str) == "_is_done") = false by decide +kernel)]
theorem pF_no__begin_step {a b c d e f g h i j k l m : V} : (pF a b c d e f g h i j k l m).lookup ("_begin_step" : Str) = none := by
  unfold pF
  simp only [List.lookup, (show (("_begin_step" : Str) == "_blocks") = false by decide +kernel), (show (("_begin_step" : Str) == "_rules") = false by decide +kernel), (show (("_begin_step" : Str) == "_recipes") = false by decide +kernel), (show (("_begin_step" : Str) == "_slow") = false by decide +kernel), (show (("_begin_step" : Str) == "_fast") = false by decide +kernel), (show (("_begin_step" : Str) == "_memory") = false by decide +kernel), (show (("_begin_step" : Str) == "_counts_of_dead") = false by decide +kernel), (show (("_begin_step" : Str) == "_requests") = false by decide +kernel), (show (("_begin_step" : Str) == "_hits") = false by decide +kernel), (show (("_begin_step" : Str) == "_next_turn") = false by decide +kernel), (show (("_begin_step" : Str) == "_steps_left") = false by decide +kernel), (show (("_begin_step" : Str) == "_is_on") = false by decide +kernel), (show (("_begin_step" : Str) == "_is_done") = false by decide +kernel)]
theorem pF_no__write_slow {a b c d e f g h i j k l m : V} : (pF a b c d e f g h i j k l m).lookup ("_write_slow" : Str) = none := by
  unfold pF
  simp only [List.lookup, (show (("_write_slow" : Str) == "_blocks") = false by decide +kernel), (show (("_write_slow" : Str) == "_rules") = false by decide +kernel), (show (("_write_slow" : Str) == "_recipes") = false by decide +kernel), (show (("_write_slow" : Str) == "_slow") = false by decide +kernel), (show (("_write_slow" : Str) == "_fast") = false by decide +kernel), (show (("_write_slow" : Str) == "_memory") = false by decide +kernel), (show (("_write_slow" : Str) == "_counts_of_dead") = false by decide +kernel), (show (("_write_slow" : Str) == "_requests") = false by decide +kernel), (show (("_write_slow" : Str) == "_hits") = false by decide +kernel), (show (("_write_slow" : Str) == "_next_turn") = false by decide +kernel), (show (("_write_slow" : Str) == "_steps_left") = false by decide +kernel), (show (("_write_slow" : Str) == "_is_on") = false by decide +kernel), (show (("_write_slow" : Str) == "_is_done") = false by decide +kernel)]
theorem pF_no__sync_slow {a b c d e f g h i j k l m : V} : (pF a b c d e f g h i j k l m).lookup ("_sync_slow" : Str) = none := by
  unfold pF
  simp only [List.lookup, (show (("_sync_slow" : Str) == "_blocks") = false by decide +kernel), (show (("_sync_slow" : Str) == "_rules") = false by decide +kernel), (show (("_sync_slow" : Str) == "_recipes") = false by decide +kernel), (show (("_sync_slow" : Str) == "_slow") = false by decide +kernel), (show (("_sync_slow" : Str) == "_fast") = false by decide +kernel), (show (("_sync_slow" : Str) == "_memory") = false by decide +kernel), (show (("_sync_slow" : Str) == "_counts_of_dead") = false by decide +kernel), (show (("_sync_slow" : Str) == "_requests") = false by decide +kernel), (show (("_sync_slow" : Str) == "_hits") = false by decide +kernel), (show (("_sync_slow" : Str) == "_next_turn") = false by decide +kernel), (show (("_sync_slow" : Str) == "_steps_left") = false by decide +kernel), (show (("_sync_slow" : Str) == "_is_on") = false by decide +kernel), (show (("_sync_slow" : Str) == "_is_done") = false by decide +kernel)]
theorem pF_no__write_fast {a b c d e f g h i j k l m : V} : (pF a b c d e f g h i j k l m).lookup ("_write_fast" : Str) = none := by
  unfold pF
  simp only [List.lookup, (show (("_write_fast" : Str) == "_blocks") = false by decide +kernel), (show (("_write_fast" : Str) == "_rules") = false by decide +kernel), (show (("_write_fast" : Str) == "_recipes") = false by decide +kernel), (show (("_write_fast" : Str) == "_slow") = false by decide +kernel), (show (("_write_fast" : Str) == "_fast") = false by decide +kernel), (show (("_write_fast" : Str) == "_memory") = false by decide +kernel), (show (("_write_fast" : Str) == "_counts_of_dead") = false by decide +kernel), (show (("_write_fast" : Str) == "_requests") = false by decide +kernel), (show (("_write_fast" : Str) == "_hits") = false by decide +kernel), (show (("_write_fast" : Str) == "_next_turn") = false by decide +kernel), (show (("_write_fast" : Str) == "_steps_left") = false by decide +kernel), (show (("_write_fast" : Str) == "_is_on") = false by decide +kernel), (show (("_write_fast" : Str) == "_is_done") = false by decide +kernel)]
theorem pF_no__write_record {a b c d e f g h i j k l m : V} : (pF a b c d e f g h i j k l m).lookup ("_write_record" : Str) = none := by
  unfold pF
  simp only [List.lookup, (show (("_write_record" : Str) == "_blocks") = false by decide +kernel), (show (("_write_record" : Str) == "_rules") = false by decide +kernel), (show (("_write_record" : Str) == "_recipes") = false by decide +kernel), (show (("_write_record" : Str) == "_slow") = false by decide +kernel), (show (("_write_record" : Str) == "_fast") = false by decide +kernel), (show (("_write_record" : Str) == "_memory") = false by decide +kernel), (show (("_write_record" : Str) == "_counts_of_dead") = false by decide +kernel), (show (("_write_record" : Str) == "_requests") = false by decide +kernel), (show (("_write_record" : Str) == "_hits") = false by decide +kernel), (show (("_write_record" : Str) == "_next_turn") = false by decide +kernel), (show (("_write_record" : Str) == "_steps_left") = false by decide +kernel), (show (("_write_record" : Str) == "_is_on") = false by decide +kernel), (show (("_write_record" : Str) == "_is_done") = false by decide +kernel)]
theorem pF_no__sync_fast {a b c d e f g h i j k l m : V} : (pF a b c d e f g h i j k l m).lookup ("_sync_fast" : Str) = none := by
  unfold pF
  simp only [List.lookup, (show (("_sync_fast" : Str) == "_blocks") = false by decide +kernel), (show (("_sync_fast" : Str) == "_rules") = false by decide +kernel), (show (("_sync_fast" : Str) == "_recipes") = false by decide +kernel), (show (("_sync_fast" : Str) == "_slow") = false by decide +kernel), (show (("_sync_fast" : Str) == "_fast") = false by decide +kernel), (show (("_sync_fast" : Str) == "_memory") = false by decide +kernel), (show (("_sync_fast" : Str) == "_counts_of_dead") = false by decide +kernel), (show (("_sync_fast" : Str) == "_requests") = false by decide +kernel), (show (("_sync_fast" : Str) == "_hits") = false by decide +kernel), (show (("_sync_fast" : Str) == "_next_turn") = false by decide +kernel), (show (("_sync_fast" : Str) == "_steps_left") = false by decide +kernel), (show (("_sync_fast" : Str) == "_is_on") = false by decide +kernel), (show (("_sync_fast" : Str) == "_is_done") = false by decide +kernel)]
theorem pF_no__turn_off {a b c d e f g h i j k l m : V} : (pF a b c d e f g h i j k l m).lookup ("_turn_off" : Str) = none := by
  unfold pF
  simp only [List.lookup, (show (("_turn_off" : Str) == "_blocks") = false by decide +kernel), (show (("_turn_off" : Str) == "_rules") = false by decide +kernel), (show (("_turn_off" : Str) == "_recipes") = false by decide +kernel), (show (("_turn_off" : Str) == "_slow") = false by decide +kernel), (show (("_turn_off" : Str) == "_fast") = false by decide +kernel), (show (("_turn_off" : Str) == "_memory") = false by decide +kernel), (show (("_turn_off" : Str) == "_counts_of_dead") = false by decide +kernel), (show (("_turn_off" : Str) == "_requests") = false by decide +kernel), (show (("_turn_off" : Str) == "_hits") = false by decide +kernel), (show (("_turn_off" : Str) == "_next_turn") = false by decide +kernel), (show (("_turn_off" : Str) == "_steps_left") = false by decide +kernel), (show (("_turn_off" : Str) == "_is_on") = false by decide +kernel), (show (("_turn_off" : Str) == "_is_done") = false by decide +kernel)]
theorem pF_no__put_in_fast {a b c d e f g h i j k l m : V} : (pF a b c d e f g h i j k l m).lookup ("_put_in_fast" : Str) = none := by
  unfold pF
  simp only [List.lookup, (show (("_put_in_fast" : Str) == "_blocks") = false by decide +kernel), (show (("_put_in_fast" : Str) == "_rules") = false by decide +kernel), (show (("_put_in_fast" : Str) == "_recipes") = false by decide +kernel), (show (("_put_in_fast" : Str) == "_slow") = false by decide +kernel), (show (("_put_in_fast" : Str) == "_fast") = false by decide +kernel), (show (("_put_in_fast" : Str) == "_memory") = false by decide +kernel), (show (("_put_in_fast" : Str) == "_counts_of_dead") = false by decide +kernel), (show (("_put_in_fast" : Str) == "_requests") = false by decide +kernel), (show (("_put_in_fast" : Str) == "_hits") = false by decide +kernel), (show (("_put_in_fast" : Str) == "_next_turn") = false by decide +kernel), (show (("_put_in_fast" : Str) == "_steps_left") = false by decide +kernel), (show (("_put_in_fast" : Str) == "_is_on") = false by decide +kernel), (show (("_put_in_fast" : Str) == "_is_done") = false by decide +kernel)]
theorem pF_no__count_dead {a b c d e f g h i j k l m : V} : (pF a b c d e f g h i j k l m).lookup ("_count_dead" : Str) = none := by
  unfold pF
  simp only [List.lookup, (show (("_count_dead" : Str) == "_blocks") = false by decide +kernel), (show (("_count_dead" : Str) == "_rules") = false by decide +kernel), (show (("_count_dead" : Str) == "_recipes") = false by decide +kernel), (show (("_count_dead" : Str) == "_slow") = false by decide +kernel), (show (("_count_dead" : Str) == "_fast") = false by decide +kernel), (show (("_count_dead" : Str) == "_memory") = false by decide +kernel), (show (("_count_dead" : Str) == "_counts_of_dead") = false by decide +kernel), (show (("_count_dead" : Str) == "_requests") = false by decide +kernel), (show (("_count_dead" : Str) == "_hits") = false by decide +kernel), (show (("_count_dead" : Str) == "_next_turn") = false by decide +kernel), (show (("_count_dead" : Str) == "_steps_left") = false by decide +kernel), (show (("_count_dead" : Str) == "_is_on") = false by decide +kernel), (show (("_count_dead" : Str) == "_is_done") = false by decide +kernel)]
theorem pF_no__find_records {a b c d e f g h i j k l m : V} : (pF a b c d e f g h i j k l m).lookup ("_find_records" : Str) = none := by
  unfold pF
  simp only [List.lookup, (show (("_find_records" : Str) == "_blocks") = false by decide +kernel), (show (("_find_records" : Str) == "_rules") = false by decide +kernel), (show (("_find_records" : Str) == "_recipes") = false by decide +kernel), (show (("_find_records" : Str) == "_slow") = false by decide +kernel), (show (("_find_records" : Str) == "_fast") = false by decide +kernel), (show (("_find_records" : Str) == "_memory") = false by decide +kernel), (show (("_find_records" : Str) == "_counts_of_dead") = false by decide +kernel), (show (("_find_records" : Str) == "_requests") = false by decide +kernel), (show (("_find_records" : Str) == "_hits") = false by decide +kernel), (show (("_find_records" : Str) == "_next_turn") = false by decide +kernel), (show (("_find_records" : Str) == "_steps_left") = false by decide +kernel), (show (("_find_records" : Str) == "_is_on") = false by decide +kernel), (show (("_find_records" : Str) == "_is_done") = false by decide +kernel)]
/-! ### attributes -/
def rF (a b c d : V) : List (Str × V) := [("_writing", a), ("_reading", b), ("_choice", c), ("_bound", d)]
theorem rnf0_1 : ¬ (("_writing" : Str) = "_reading") := by decide +kernel
theorem rbf0_1 : (("_writing" : Str) == "_reading") = false := by decide +kernel
theorem rnf0_2 : ¬ (("_writing" : Str) = "_choice") := by decide +kernel
theorem rbf0_2 : (("_writing" : Str) == "_choice") = false := by decide +kernel
theorem rnf0_3 : ¬ (("_writing" : Str) = "_bound") := by decide +kernel
theorem rbf0_3 : (("_writing" : Str) == "_bound") = false := by decide +kernel
theorem rnf1_0 : ¬ (("_reading" : Str) = "_writing") := by decide +kernel
theorem rbf1_0 : (("_reading" : Str) == "_writing") = false := by decide +kernel
theorem rnf1_2 : ¬ (("_reading" : Str) = "_choice") := by decide +kernel
theorem rbf1_2 : (("_reading" : Str) == "_choice") = false := by decide +kernel
theorem rnf1_3 : ¬ (("_reading" : Str) = "_bound") := by decide +kernel
theorem rbf1_3 : (("_reading" : Str) == "_bound") = false := by decide +kernel
theorem rnf2_0 : ¬ (("_choice" : Str) = "_writing") := by decide +kernel
theorem rbf2_0 : (("_choice" : Str) == "_writing") = false := by decide +kernel
theorem rnf2_1 : ¬ (("_choice" : Str) = "_reading") := by decide +kernel
theorem rbf2_1 : (("_choice" : Str) == "_reading") = false := by decide +kernel
theorem rnf2_3 : ¬ (("_choice" : Str) = "_bound") := by decide +kernel
theorem rbf2_3 : (("_choice" : Str) == "_bound") = false := by decide +kernel
theorem rnf3_0 : ¬ (("_bound" : Str) = "_writing") := by decide +kernel
theorem rbf3_0 : (("_bound" : Str) == "_writing") = false := by decide +kernel
theorem rnf3_1 : ¬ (("_bound" : Str) = "_reading") := by decide +kernel
theorem rbf3_1 : (("_bound" : Str) == "_reading") = false := by decide +kernel
theorem rnf3_2 : ¬ (("_bound" : Str) = "_choice") := by decide +kernel
theorem rbf3_2 : (("_bound" : Str) == "_choice") = false := by decide +kernel
theorem rbf0_0 : (("_writing" : Str) == "_writing") = true := by decide +kernel
theorem rbf1_1 : (("_reading" : Str) == "_reading") = true := by decide +kernel
theorem rbf2_2 : (("_choice" : Str) == "_choice") = true := by decide +kernel
theorem rbf3_3 : (("_bound" : Str) == "_bound") = true := by decide +kernel
theorem rF_get0 {a b c d : V} : (rF a b c d).lookup ("_writing" : Str) = some a := by
  unfold rF
  simp only [List.lookup, rbf0_0]
theorem rF_put0 {a b c d z : V} : putF "_writing" z (rF a b c d) = rF z b c d := by
  unfold rF
  simp only [putF, if_true, eq_self_iff_true]
theorem rF_get1 {a b c d : V} : (rF a b c d).lookup ("_reading" : Str) = some b := by
  unfold rF
  simp only [List.lookup, rbf1_0, rbf1_1]
theorem rF_put1 {a b c d z : V} : putF "_reading" z (rF a b c d) = rF a z c d := by
  unfold rF
  simp only [putF, if_neg rnf0_1, if_true, eq_self_iff_true]
theorem rF_get2 {a b c d : V} : (rF a b c d).lookup ("_choice" : Str) = some c := by
  unfold rF
  simp only [List.lookup, rbf2_0, rbf2_1, rbf2_2]
theorem rF_put2 {a b c d z : V} : putF "_choice" z (rF a b c d) = rF a b z d := by
  unfold rF
  simp only [putF, if_neg rnf0_2, if_neg rnf1_2, if_true, eq_self_iff_true]
theorem rF_get3 {a b c d : V} : (rF a b c d).lookup ("_bound" : Str) = some d := by
  unfold rF
  simp only [List.lookup, rbf3_0, rbf3_1, rbf3_2, rbf3_3]
theorem rF_put3 {a b c d z : V} : putF "_bound" z (rF a b c d) = rF a b c z := by
  unfold rF
  simp only [putF, if_neg rnf0_3, if_neg rnf1_3, if_neg rnf2_3, if_true, eq_self_iff_true]
theorem rF_made {a b c d : V} : (putF "_bound" d (putF "_choice" c (putF "_reading" b (putF "_writing" a [])))) = rF a b c d := by
  unfold rF
  simp only [putF, if_neg rnf0_1, if_neg rnf0_2, if_neg rnf0_3, if_neg rnf1_2, if_neg rnf1_3, if_neg rnf2_3]
def qF (a b c d : V) : List (Str × V) := [("_through", a), ("_back", b), ("_around", c), ("_clean", d)]
theorem qnf0_1 : ¬ (("_through" : Str) = "_back") := by decide +kernel
theorem qbf0_1 : (("_through" : Str) == "_back") = false := by decide +kernel
theorem qnf0_2 : ¬ (("_through" : Str) = "_around") := by decide +kernel
theorem qbf0_2 : (("_through" : Str) == "_around") = false := by decide +kernel
theorem qnf0_3 : ¬ (("_through" : Str) = "_clean") := by decide +kernel
theorem qbf0_3 : (("_through" : Str) == "_clean") = false := by decide +kernel
theorem qnf1_0 : ¬ (("_back" : Str) = "_through") := by decide +kernel
theorem qbf1_0 : (("_back" : Str) == "_through") = false := by decide +kernel
theorem qnf1_2 : ¬ (("_back" : Str) = "_around") := by decide +kernel
theorem qbf1_2 : (("_back" : Str) == "_around") = false := by decide +kernel
theorem qnf1_3 : ¬ (("_back" : Str) = "_clean") := by decide +kernel
theorem qbf1_3 : (("_back" : Str) == "_clean") = false := by decide +kernel
theorem qnf2_0 : ¬ (("_around" : Str) = "_through") := by decide +kernel
theorem qbf2_0 : (("_around" : Str) == "_through") = false := by decide +kernel
theorem qnf2_1 : ¬ (("_around" : Str) = "_back") := by decide +kernel
theorem qbf2_1 : (("_around" : Str) == "_back") = false := by decide +kernel
theorem qnf2_3 : ¬ (("_around" : Str) = "_clean") := by decide +kernel
theorem qbf2_3 : (("_around" : Str) == "_clean") = false := by decide +kernel
theorem qnf3_0 : ¬ (("_clean" : Str) = "_through") := by decide +kernel
theorem qbf3_0 : (("_clean" : Str) == "_through") = false := by decide +kernel
theorem qnf3_1 : ¬ (("_clean" : Str) = "_back") := by decide +kernel
theorem qbf3_1 : (("_clean" : Str) == "_back") = false := by decide +kernel
theorem qnf3_2 : ¬ (("_clean" : Str) = "_around") := by decide +kernel
theorem qbf3_2 : (("_clean" : Str) == "_around") = false := by decide +kernel
theorem qbf0_0 : (("_through" : Str) == "_through") = true := by decide +kernel
theorem qbf1_1 : (("_back" : Str) == "_back") = true := by decide +kernel
theorem qbf2_2 : (("_around" : Str) == "_around") = true := by decide +kernel
theorem qbf3_3 : (("_clean" : Str) == "_clean") = true := by decide +kernel
theorem qF_get0 {a b c d : V} : (qF a b c d).lookup ("_through" : Str) = some a := by
  unfold qF
  simp only [List.lookup, qbf0_0]
theorem qF_put0 {a b c d z : V} : putF "_through" z (qF a b c d) = qF z b c d := by
  unfold qF
  simp only [putF, if_true, eq_self_iff_true]
theorem qF_get1 {a b c d : V} : (qF a b c d).lookup ("_back" : Str) = some b := by
  unfold qF
  simp only [List.lookup, qbf1_0, qbf1_1]
theorem qF_put1 {a b c d z : V} : putF "_back" z (qF a b c d) = qF a z c d := by
  unfold qF
  simp only [putF, if_neg qnf0_1, if_true, eq_self_iff_true]
theorem qF_get2 {a b c d : V} : (qF a b c d).lookup ("_around" : Str) = some c := by
  unfold qF
  simp only [List.lookup, qbf2_0, qbf2_1, qbf2_2]
theorem qF_put2 {a b c d z : V} : putF "_around" z (qF a b c d) = qF a b z d := by
  unfold qF
  simp only [putF, if_neg qnf0_2, if_neg qnf1_2, if_true, eq_self_iff_true]
theorem qF_get3 {a b c d : V} : (qF a b c d).lookup ("_clean" : Str) = some d := by
  unfold qF
  simp only [List.lookup, qbf3_0, qbf3_1, qbf3_2, qbf3_3]
theorem qF_put3 {a b c d z : V} : putF "_clean" z (qF a b c d) = qF a b c z := by
  unfold qF
  simp only [putF, if_neg qnf0_3, if_neg qnf1_3, if_neg qnf2_3, if_true, eq_self_iff_true]
theorem qF_made {a b c d : V} : (putF "_clean" d (putF "_around" c (putF "_back" b (putF "_through" a [])))) = qF a b c d := by
  unfold qF
  simp only [putF, if_neg qnf0_1, if_neg qnf0_2, if_neg qnf0_3, if_neg qnf1_2, if_neg qnf1_3, if_neg qnf2_3]
/-! ### enumerate over a tuple -/
section
open PyProof.Rows
variable {prog : Program} {w : World}
theorem et_next {A : Around} {E : Value → Shared → Prop} {s : Shared} {c t : Addr} {i : Nat} {us : Array Value} {u : Value} {Q : Value → Shared → Prop} (hc : IsTupIter s.heap c t i) (ht : IsTup s.heap t us) (hu : us[i]? = some u)
    (q : ∀ g, IsTupIter g c t (i + 1) → Heap.SameBut c s.heap g → Q u { s with heap := g }) : wpAny (model prog w) A (Builtin.SmallTypes.nextOf (.ref c)) Q E s := by
  unfold Builtin.SmallTypes.nextOf
  exact wpAny_bind (special_tup_item hc ht hu fun g a b => wpAny_pure (q g a b))
theorem et_draws {A : Around} (hh : A.handled = none) (c t : Addr) (hne : t ≠ c) (us : Array Value) : Draws prog w A c [c, t] us.size (fun i v => us[i]? = some v) (fun i h => IsTupIter h c t i ∧ IsTup h t us) where
  live := fun _ _ z => z.1.elim fun o q => ⟨o, q.1⟩
  frame := fun _ _ _ z hk => by
    obtain ⟨⟨o, q1, q2⟩, o', r1, r2⟩ := z
    exact ⟨⟨o, hk c (by simp) o q1, q2⟩, o', hk t (by simp) o' r1, r2⟩
  item := fun i s Q E hi z q => by
    refine et_next z.1 z.2 (u := us[i]) (by simp [hi]) fun g a b => ?_
    obtain ⟨o', r1, r2⟩ := z.2
    exact q _ g s.toks (by simp [hi]) ⟨a, o', (b.2 t hne).trans r1, r2⟩ b
  done := fun s Q E z q => by
    unfold Builtin.SmallTypes.nextOf
    refine wpAny_bind (special_tup_end hh z.1 z.2 (by simp) fun e g x b => ?_)
    obtain ⟨a, o, vs, rfl, h1, h2, _⟩ := x
    exact q g a b ⟨o, h1, h2⟩
theorem et_new (t : Addr) (us : Array Value) (n : Nat) (dct : Option Addr) (sl : Array (Option Value)) :
    Meets (Builtin.«enumerate.__new__» ⟨[.type "enumerate", .ref t], []⟩) (fun _ R s => s.heap.get? t = some { cls := .type "tuple", dict := dct, data := .seq us n, slots := sl } ∧
      R (.ok (.ret (.ref (s.heap.push { cls := .type "tuple_iterator", data := .fields #[.ref t, .int 0 0] }).objs.size)))
        { s with heap := (s.heap.push { cls := .type "tuple_iterator", data := .fields #[.ref t, .int 0 0] }).push { cls := .type "enumerate", data := .fields #[.none, .bool false, .ref s.heap.objs.size, rawInt 0, .none, .none] } }) :=
  .of_wp fun prog w A R s h => by
    obtain ⟨hp, gs, dr, tk, os⟩ := s
    obtain ⟨hl, h⟩ := h
    have sub := sub_enumerate
    have tup : Heap.IsTuple (Shared.heap ⟨hp, gs, dr, tk, os⟩) t us := ⟨_, hl, rfl, n, rfl⟩
    wp_walk using AutoSeq1.wpAny_loadPart' hl
    refine wpAny_stack_any fun st => wpAny_pure ?_
    split
    · rename_i k _ _ _ _ _
      cases (k == Value.type "enumerate") <;> (wp_walk using AutoSeq1.wpAny_loadPart' hl, wpAny_pyIter_tuple tup; exact ⟨_, rfl, h⟩)
    · wp_walk using AutoSeq1.wpAny_loadPart' hl, wpAny_pyIter_tuple tup
      exact ⟨_, rfl, h⟩
theorem et_call {A : Around} {E : Value → Shared → Prop} {s : Shared} {t : Addr} {us : Array Value} {Q : Value → Shared → Prop} (ht : IsTup s.heap t us)
    (q : ∀ g, IsEnum g (s.heap.objs.size + 1) s.heap.objs.size 0 .none → IsTupIter g s.heap.objs.size t 0 → (∀ b o, s.heap.get? b = some o → g.get? b = some o) → Q (.ref (s.heap.objs.size + 1)) { s with heap := g }) :
    wpAny (model prog w) A (call (.type "enumerate") [.ref t]) Q E s := by
  obtain ⟨⟨cl, dct, dt, sl⟩, hl, ec, n, ed⟩ := ht
  have ec' : cl = .type "tuple" := ec
  have ed' : dt = .seq us n := ed
  subst ec' ed'
  refine callType_new F.called_enumerate (by decide) (F.typeCall_enumerate_1 _) (F.newCall_enumerate_1 _) (fun o => F.args_object_init_2 o _) F.entry_enumerate_new (et_new t us n dct sl) ⟨hl, ?_⟩
  have z1 : (s.heap.push { cls := .type "tuple_iterator", data := .fields #[.ref t, .int 0 0] }).objs.size = s.heap.objs.size + 1 := Heap.size_push ..
  show _ ∧ _
  rw [z1]
  have e1 : IsEnum ((s.heap.push { cls := .type "tuple_iterator", data := .fields #[.ref t, .int 0 0] }).push { cls := .type "enumerate", data := .fields #[.none, .bool false, .ref s.heap.objs.size, rawInt 0, .none, .none] }) (s.heap.objs.size + 1) s.heap.objs.size 0 .none := by
    have z2 := Heap.get?_push_size (s.heap.push { cls := .type "tuple_iterator", data := .fields #[.ref t, .int 0 0] }) (o := { cls := .type "enumerate", data := .fields #[.none, .bool false, .ref s.heap.objs.size, rawInt 0, .none, .none] }) rfl
    rw [z1] at z2
    exact z2
  exact ⟨⟨_, e1, rfl⟩, q _ e1 ⟨_, Heap.get?_push_of_some _ (Heap.get?_push_size _ rfl), rfl, rfl⟩ fun b o x => Heap.get?_push_of_some _ (Heap.get?_push_of_some _ x)⟩
end
/-- the tuple at a as it stands at each turn, each item in a new pair -/
def Iet (K : PySem.W.Frag) (a : Addr) : It :=
  ⟨fun i H => ∃ (xs : List V) (x : V), SqT K H a xs ∧ xs[i]? = some x, fun i H v G => ∃ T x, v = .ref T ∧ H T = none ∧ G = upd H T (.tup [.int (i : Nat), x]) ∧ ∀ xs, SqT K H a xs → xs[i]? = some x, fun i H => ∃ xs : List V, SqT K H a xs ∧ xs.length ≤ i⟩
section
open PyProof.Rows
theorem turn_et {P : Program} {w : World} {K : PySem.W.Frag} {elts : List Expr} {kk : Nat} {tpos : Pos} (a e c : Addr) :
    Turn P w K (.Tuple elts kk tpos) (Iet K a) [e, c] e (fun i h => (∃ old, IsEnum h e c ((i : Nat) : Int) old) ∧ IsTupIter h c a i ∧ e ≠ c ∧ a ≠ c ∧ a ≠ e) where
  mem := by simp
  obj := fun i h z b hb => by
    obtain ⟨⟨old, he⟩, ⟨o, ho, _, hd⟩, _⟩ := z
    rcases (by simpa using hb : b = e ∨ b = c) with q | q
    · rw [q]; exact ⟨_, he, fun v r => nomatch r⟩
    · rw [q]; exact ⟨o, ho, fun v r => by rw [hd] at r; cases r⟩
  keep := fun i h g z k => by
    obtain ⟨⟨old, he⟩, ⟨o, ho, r⟩, n⟩ := z
    exact ⟨⟨old, k e (by simp) _ he⟩, ⟨o, k c (by simp) _ ho, r⟩, n⟩
  item := by
    intro X hP hw hK hc i pins s σ H E I hf z hg
    subst hP hw hK
    obtain ⟨⟨old, he⟩, hit, n1, n2, n3⟩ := z
    obtain ⟨xs, x, hq, hx⟩ := hg
    obtain ⟨its, rv, p, hz⟩ := I.tuple hq
    obtain ⟨u, hu, ru⟩ := rv.get hx
    have le : e < s.heap.objs.size := Heap.lt_size he
    have lc : c < s.heap.objs.size := hit.elim fun _ r => Heap.lt_size r.1
    have hlt : i < its.toArray.size := by
      have := lt_of_at hu
      simpa using this
    refine wpAny_pyNext_enum_itemD (et_draws (A := X.A.in1) (I.ok.hd hc) c a n2 its.toArray) he ⟨hit, p⟩ hlt n1 (fun y => (by simpa using y : e = c ∨ e = a).elim n1 (Ne.symm n3)) fun u' g tk hu' ho hit' hT _ hk => ?_
    have eu : u' = u := by
      have h1 : its.toArray[i]? = some u' := hu'
      rw [List.getElem?_toArray, hu] at h1
      exact (Option.some.inj h1).symm
    subst eu
    refine ⟨_, rfl, wpAny_letOwnedTupleGo_enum (s := { s with heap := g, toks := tk + 1 }) ho fun g2 he2 sb => ?_⟩
    have hT2 : g2.get? s.heap.objs.size = some { cls := .type "tuple", data := .seq #[.int i tk, u'] } := (sb.2 _ (Nat.ne_of_gt le)).trans hT
    have new : ObjOk X.prog X.w (upd H s.heap.objs.size (.tup [.int (i : Nat), x])) g2 s.heap.objs.size (.tup [.int (i : Nat), x]) :=
      ⟨by show 2 ≤ sizeLine; decide, [.int i tk, u'], .cons ⟨_, rfl⟩ (.cons ru .nil), ⟨_, hT2, rfl, _, rfl⟩⟩
    have J : Inv X pins σ (upd H s.heap.objs.size (.tup [.int (i : Nat), x])) { s with heap := g2, toks := tk + 1 } :=
      I.turnedNew (ch := [e, c]) (fun b ob hb q => (sb.2 b (fun y => hb (by simp [y]))).trans (hk b ob (fun y => hb (by simp [y])) (fun y => hb (by simp [y])) q)) hf (Nat.le_refl _) new
    refine ⟨.ref s.heap.objs.size, _, J, rfl, ⟨_, x, rfl, I.hok.fresh (Nat.le_refl _), rfl, fun ys hy => by rw [I.tuple_inj hy hq]; exact hx⟩, ⟨⟨u', ?_⟩, ?_, n1, n2, n3⟩, fun b hb => ?_⟩
    · rw [show ((i + 1 : Nat) : Int) = (i : Int) + 1 by omega]
      exact he2
    · obtain ⟨⟨o, q1, q2⟩, _⟩ := hit'
      exact ⟨o, (sb.2 c (Ne.symm n1)).trans q1, q2⟩
    · have lb : b < s.heap.objs.size := by
        rcases (by simpa using hb : b = e ∨ b = c) with q | q
        · rw [q]; exact le
        · rw [q]; exact lc
      rw [upd_ne (Nat.ne_of_lt lb)]
      exact (hf b hb).1
  done := by
    intro X hP hw hK hc i pins s σ H E I hf z hg
    subst hP hw hK
    obtain ⟨⟨old, he⟩, hit, n1, n2, n3⟩ := z
    obtain ⟨xs, hq, hx⟩ := hg
    obtain ⟨its, rv, p, hz⟩ := I.tuple hq
    obtain ⟨f0, f1, f2, f3, f4, f5⟩ := hf c (by simp)
    have hl := rv.length
    refine wpAny_pyNext_enum_endD (P := fun i v => its.toArray[i]? = some v) (n := i) (fp := [c, a]) (St := fun j h => IsTupIter h c a j ∧ IsTup h a its.toArray ∧ j = i) ?_ he ⟨hit, p, rfl⟩ fun g eb => ⟨rfl, I.turned (t' := s.toks) (fun b o hb q => eb b o hb q) f0 f1 f3 f4 f5⟩
    have D := et_draws (prog := X.prog) (w := X.w) (A := X.A.in1) (I.ok.hd hc) c a n2 its.toArray
    refine ⟨fun j h y => D.live j h ⟨y.1, y.2.1⟩, fun j h h' y k => ⟨(D.frame j h h' ⟨y.1, y.2.1⟩ k).1, (D.frame j h h' ⟨y.1, y.2.1⟩ k).2, y.2.2⟩, fun j s' Q' E' hj y q => ?_, fun s' Q' E' y q => ?_⟩
    · exact absurd hj (by have := y.2.2; omega)
    · unfold Builtin.SmallTypes.nextOf
      refine wpAny_bind (special_tup_end (I.ok.hd hc) y.1 y.2.1 (by simp; omega) fun v g x b => ?_)
      obtain ⟨b', o, vs, rfl, h1, h2, _⟩ := x
      exact q g b' b ⟨o, h1, h2⟩
  self := fun A i s Q E z h => let ⟨⟨_, he⟩, _⟩ := z; wpAny_pyIter_enum he h
def iEnumT (K : PySem.W.Frag) (ta : TA) : TI := fun σ H R => ta σ H fun vs H1 => ∃ a xs, vs = [.ref a] ∧ SqT K H1 a xs ∧ R (Iet K a) H1
theorem pi_enumT {X : Cx} {e : Expr} {ta : TA} {p pos tpos : Pos} {elts : List Expr} {kk : Nat} (hg : Gl X "enumerate") (hm : X.mg "enumerate" = none) (ha : PA X [e] ta) (hs : starEach [e] X.env = [(false, eval e X.env)] := by rfl) :
    PI X (.Tuple elts kk tpos) (.Call (.Name "enumerate" p) [e] [] pos) (iEnumT X.K ta) := by
  refine ⟨fun pins s σ H R I h => Call_ (ld_blt I hg hm boot_enumerate (PyProof.Rows.callWith_type1 (thn (ha.run pos pins s σ H _ I h) fun us s1 ⟨vs, H1, I1, r1, a, xs, ex, hq, q⟩ => ?_) hs rfl))⟩
  subst ex
  cases r1 with
  | cons r rr =>
    cases rr
    cases r
    obtain ⟨its, rv, p', hz⟩ := I1.tuple hq
    have la : a < s1.heap.objs.size := p'.elim fun _ z => Heap.lt_size z.1
    refine et_call p' fun g he hit hk => wpAny_pyIter_enum he ?_
    have I2 : Inv X pins σ H1 { s1 with heap := g } := I1.kept (t' := s1.toks) hk
    refine ⟨s1.heap.objs.size + 1, [s1.heap.objs.size + 1, s1.heap.objs.size], _, _, H1, rfl, I2, turn_et a (s1.heap.objs.size + 1) s1.heap.objs.size, ⟨⟨.none, he⟩, hit, Nat.succ_ne_self _, Nat.ne_of_lt la, Nat.ne_of_lt (Nat.lt_succ_of_lt la)⟩, fun b hb => ?_, q⟩
    have le : s1.heap.objs.size ≤ b := by
      rcases (by simpa using hb : b = s1.heap.objs.size + 1 ∨ b = s1.heap.objs.size) with z | z
      · exact Nat.le_trans (Nat.le_succ _) (Nat.le_of_eq z.symm)
      · exact Nat.le_of_eq z.symm
    exact I1.fpOk le (I1.hok.fresh le)
end
/-- a for over enumerate(t), t a tuple that the body leaves as it is -/
theorem for_enumT {K : PySem.W.Frag} {a : Addr} {xs : List V} {g : TG} {tb : TS} {D : Ends} {σ : L2.St} {H : Hp} (Pv : Nat → L2.St → Hp → Prop) (h0 : Pv 0 σ H) (hl : ∀ i σ H, i ≤ xs.length → Pv i σ H → SqT K H a xs)
    (hs : ∀ i x σ H T, xs[i]? = some x → Pv i σ H → H T = none → g (.ref T) σ (upd H T (.tup [.int (i : Nat), x])) fun σ2 H2 => tb { D with nx := Pv (i + 1), ct := Pv (i + 1), bk := D.nx } σ2 H2) (hd : ∀ σ H, Pv xs.length σ H → D.nx σ H) :
    ∃ W : Nat → Nat → L2.St → Hp → Prop, (∃ m, W 0 m σ H) ∧ ∀ i m σ H, W i m σ H →
      ((Iet K a).stop i H ∧ D.nx σ H) ∨ ((Iet K a).go i H ∧ ∃ N : L2.St → Hp → Prop, (∀ σ' H', N σ' H' → ∃ m', m' < m ∧ W (i + 1) m' σ' H') ∧ ∀ x H', (Iet K a).yld i H x H' → g x σ H' fun σ2 H2 => tb { D with nx := N, ct := N, bk := D.nx } σ2 H2) := by
  refine ⟨fun i m σ H => m = xs.length - i ∧ i ≤ xs.length ∧ Pv i σ H, ⟨xs.length, by simp, Nat.zero_le _, h0⟩, ?_⟩
  rintro i m σ H ⟨rfl, hi, p⟩
  have q := hl i σ H hi p
  by_cases hlt : i < xs.length
  · refine .inr ⟨⟨xs, xs[i], q, by simp [hlt]⟩, Pv (i + 1), fun σ' G p' => ⟨xs.length - (i + 1), by omega, rfl, hlt, p'⟩, fun x G y => ?_⟩
    obtain ⟨T, v, rfl, hT, rfl, hv⟩ := y
    exact hs i v σ H T (hv xs q) p hT
  · have e : i = xs.length := by omega
    subst e
    exact .inl ⟨⟨xs, q, Nat.le_refl _⟩, hd σ H p⟩
/-! ### rules -/
def W0 : List V := [.str "through", .str "back", .str "around"]
def W1 : List V := [.str "keep", .str "pass"]
def W2 : List V := [.str "used", .str "came", .str "rare"]
/-- a word of such a part -/
def WordOf (W : List V) (v : V) : Prop := ∃ z : Str, v = .str z ∧ inV (.str z) W = true
theorem WordOf.flat {W : List V} {v : V} (h : WordOf W v) : flatV v = true := by
  obtain ⟨z, rfl, _⟩ := h
  rfl
theorem WordOf.in_ {W : List V} {v : V} (h : WordOf W v) : inV v W = true := by
  obtain ⟨z, rfl, e⟩ := h
  exact e
def spRInit (C : Addr) : Sp := fun vs H Q _ => ∃ (p dx : Addr) (a b c : V) (n : Int), vs = [.ref p, a, b, c, .int n] ∧ H p = some (.ins C dx []) ∧ WordOf W0 a ∧ WordOf W1 b ∧ WordOf W2 c ∧ 0 ≤ n ∧ n ≤ 8 ∧
  ∀ H' : Hp, Fr [p] H H' → H' p = some (.ins C dx (rF a b c (.int n))) → Q .non H'
/-- an attribute read -/
def spGet (C : Addr) (f : Str) : Sp := fun vs H Q _ => ∃ (a dx : Addr) (fs : List (Str × V)) (v : V), vs = [.ref a] ∧ H a = some (.ins C dx fs) ∧ fs.lookup f = some v ∧ Q v H
section
variable {P : Program} {w : World} {K : PySem.W.Frag} {mg : Str → Option Value} {base : Heap}
theorem ok_rInit (T : Gx K mg) : FnOk P w K mg base CX0 3 T.f_Rules___init__ T.fd_Rules___init__ ["self", "writing", "reading", "choice", "bound"] (spRInit T.C_Rules) := by
  have G_is_number_from : FnOk P w K mg base CX0 2 T.f_is_number_from T.fd_is_number_from ["thing", "least", "most"] (spNumFrom K) := ok_numFrom T
  refine T.F_Rules___init__.ok sc_Rules___init__ (fun vs H Q E h => ?_) (fun cdv A outer s H vs Q E hr h => ?_)
  · obtain ⟨p, dx, a, b, c, n, rfl, _⟩ := h
    rfl
  · obtain ⟨p, dx, a, b, c, n, rfl, hp, ha, hb, hc, h0, h8, k⟩ := h
    refine ⟨_, (pss_cons (ps_set (i := 5) sc_Rules___init__.nd rfl (.inl rfl) (pe_tup (pa_cons (pv 1) (pa_cons (pv 2) (pa_cons (pv 3) pa_nil)))))
      (pss_cons (ps_for PassesOwn.never rfl (pi_enumT (by rfl) T.z_enumerate (pa_cons (pe_glob (v := .ref T.A_RULE_WORDS) (by rfl) T.g_RULE_WORDS rfl) pa_nil)) (pg_tup (by rfl) (pgs_cons (pg_name (i := 6) sc_Rules___init__.nd rfl (.inl rfl)) (pgs_cons (pg_name (i := 7) sc_Rules___init__.nd rfl (.inl rfl)) pgs_nil))) (pss_one (ps_if (pt_cmpR op_notIn_seq (pe_ix ix_tup (pv 5) (pv 6) (fun _ _ => rfl)) (pv 7) (by rfl)) (pss_one ps_never) pss_nil)))
      (pss_cons (ps_if (pt_not (pt_val (pe_call G_is_number_from (hr.mono (by first | decide | omega)) (by rfl) T.g_is_number_from T.F_is_number_from.kp (b_is_number_from T) .nil pass0 (pa_cons (pv 4) (pa_cons pe_int (pa_cons (pe_glob (v := .int (8)) (by rfl) T.c_MOST_BOUND ⟨_, rfl⟩) pa_nil)))))) (pss_one ps_never) pss_nil)
      (pss_cons (ps_fld (pv 0) (pv 1) rfl)
      (pss_cons (ps_fld (pv 0) (pv 2) rfl)
      (pss_cons (ps_fld (pv 0) (pv 3) rfl)
      (pss_one (ps_fld (pv 0) (pv 4) rfl)))))))), ?_⟩
    refine ⟨_, rfl, _, rfl, _, rfl, sz_le (by simp), fun t ht => ?_⟩
    have pt : p ≠ t := ne_of_none hp ht
    refine ⟨T.A_RULE_WORDS, _, rfl, T.k_RULE_WORDS _, for_enumT (K := K) (a := T.A_RULE_WORDS) (xs := [.ref T.A_RULE_WORDS_0, .ref T.A_RULE_WORDS_1, .ref T.A_RULE_WORDS_2]) (fun i σ H' => Fr [] H H' ∧ H' t = some (.tup [a, b, c]) ∧ ∃ v6 v7 : Option V, σ = [some (.ref p), some a, some b, some c, some (.int n), some (.ref t), v6, v7])
      ⟨Fr.new ht, upd_same, none, none, rfl⟩ (fun _ _ H' _ _ => T.k_RULE_WORDS H') ?_ ?_⟩
    · rintro i x σ H1 U hx ⟨f1, e1, v6, v7, rfl⟩ hU
      have e2 : (upd H1 U (.tup [.int (i : Nat), x])) t = some (.tup [a, b, c]) := (upd_ne (ne_of_none e1 hU)).trans e1
      have f2 : Fr [] H (upd H1 U (.tup [.int (i : Nat), x])) := f1.trans (Fr.new hU)
      refine ⟨U, _, rfl, SqT.of upd_same, rfl, _, _, rfl, _, _, rfl, rfl, ?_⟩
      obtain ⟨v, W, B, hv, hxB, hW, hvW⟩ : ∃ (v : V) (W : List V) (B : Addr), ([a, b, c] : List V)[i]? = some v ∧ x = .ref B ∧ (∀ H', SqT K H' B W ∧ W.all flatV = true) ∧ (flatV v = true ∧ inV v W = true) := by
        match i, hx with
        | 0, hx => cases hx; exact ⟨a, _, _, rfl, rfl, fun H' => ⟨T.k_RULE_WORDS_0 H', rfl⟩, ha.flat, ha.in_⟩
        | 1, hx => cases hx; exact ⟨b, _, _, rfl, rfl, fun H' => ⟨T.k_RULE_WORDS_1 H', rfl⟩, hb.flat, hb.in_⟩
        | 2, hx => cases hx; exact ⟨c, _, _, rfl, rfl, fun H' => ⟨T.k_RULE_WORDS_2 H', rfl⟩, hc.flat, hc.in_⟩
        | i + 3, hx => simp at hx
      subst hxB
      refine ⟨_, rfl, _, rfl, t, _, (i : Int), v, rfl, rfl, SqT.of e2, atI_nat hv, _, rfl, B, W, rfl, .inr (hW _).1, hvW.1, (hW H).2, _, rfl, ?_⟩
      rw [hvW.2]
      exact iteF ⟨f2, e2, _, _, rfl⟩
    · rintro σ H1 ⟨f1, e1, v6, v7, rfl⟩
      refine ⟨_, rfl, .int n, 0, 8, rfl, .inl ⟨n, rfl, _, rfl, ?_⟩⟩
      have e : (decide ((0 : Int) ≤ n) && decide (n ≤ 8)) = true := by
        rw [Bool.and_eq_true, decide_eq_true_eq, decide_eq_true_eq]
        omega
      rw [e]
      refine iteF ?_
      have hp1 := f1 _ _ hp (by simp)
      refine ⟨_, rfl, _, rfl, p, T.C_Rules, dx, [], rfl, hp1, T.cl_Rules, T.n_Rules__writing, by simp, ?_⟩
      refine ⟨_, rfl, _, rfl, p, T.C_Rules, dx, _, rfl, upd_same, T.cl_Rules, T.n_Rules__reading, Nat.lt_of_le_of_lt (putF_len _ _ _) (by simp), ?_⟩
      refine ⟨_, rfl, _, rfl, p, T.C_Rules, dx, _, rfl, upd_same, T.cl_Rules, T.n_Rules__choice, Nat.lt_of_le_of_lt (putF_len _ _ _) (Nat.lt_of_le_of_lt (Nat.succ_le_succ (putF_len _ _ _)) (by simp)), ?_⟩
      refine ⟨_, rfl, _, rfl, p, T.C_Rules, dx, _, rfl, upd_same, T.cl_Rules, T.n_Rules__bound, Nat.lt_of_le_of_lt (putF_len _ _ _) (Nat.lt_of_le_of_lt (Nat.succ_le_succ (Nat.le_trans (putF_len _ _ _) (Nat.succ_le_succ (putF_len _ _ _)))) (by simp)), ?_⟩
      rw [rF_made, upd_upd, upd_upd, upd_upd]
      exact k _ (fun b o e nb => by rw [upd_ne (by simpa using nb)]; exact f1 b o e (by simp)) upd_same
theorem ok_reading (T : Gx K mg) : FnOk P w K mg base CX0 1 T.f_Rules_reading T.fd_Rules_reading ["self"] (spGet T.C_Rules "_reading") := by
  refine T.F_Rules_reading.ok sc_Rules_reading (fun vs H Q E h => ?_) (fun cdv A outer s H vs Q E hr h => ?_)
  · obtain ⟨a, dx, fs, v, rfl, _⟩ := h
    rfl
  · obtain ⟨a, dx, fs, v, rfl, ha, hv, k⟩ := h
    refine ⟨_, (pss_one (ps_ret (pe_fld (pv 0) rfl))), ?_⟩
    exact ⟨_, rfl, a, T.C_Rules, _, _, _, rfl, ha, T.cl_Rules, T.n_Rules__reading, hv, k⟩
theorem ok_choice (T : Gx K mg) : FnOk P w K mg base CX0 1 T.f_Rules_choice T.fd_Rules_choice ["self"] (spGet T.C_Rules "_choice") := by
  refine T.F_Rules_choice.ok sc_Rules_choice (fun vs H Q E h => ?_) (fun cdv A outer s H vs Q E hr h => ?_)
  · obtain ⟨a, dx, fs, v, rfl, _⟩ := h
    rfl
  · obtain ⟨a, dx, fs, v, rfl, ha, hv, k⟩ := h
    refine ⟨_, (pss_one (ps_ret (pe_fld (pv 0) rfl))), ?_⟩
    exact ⟨_, rfl, a, T.C_Rules, _, _, _, rfl, ha, T.cl_Rules, T.n_Rules__choice, hv, k⟩
end
/-! ### tuples and lists of words, as data -/
def sV (zs : List Str) : List V := zs.map V.str
def sD (zs : List Str) : List PyData := zs.map PyData.str
theorem sV_len (zs : List Str) : (sV zs).length = zs.length := List.length_map _
theorem sV_flat (zs : List Str) : (sV zs).all flatV = true := by
  unfold sV
  rw [List.all_map]
  induction zs with
  | nil => rfl
  | cons z r ih =>
    rw [List.all_cons, ih]
    rfl
theorem inV_str (z : Str) (zs : List Str) : inV (.str z) (sV zs) = decide (z ∈ zs) := by
  unfold inV sV
  rw [List.any_map]
  induction zs with
  | nil => rfl
  | cons y r ih =>
    rw [List.any_cons, ih]
    show ((y == z) || decide (z ∈ r)) = decide (z ∈ y :: r)
    by_cases h : y = z
    · subst h
      simp
    · have h' : ¬ z = y := fun e => h e.symm
      have hb : (y == z) = false := beq_eq_false_iff_ne.mpr h
      rw [hb]
      simp [h']
theorem sV_at {zs : List Str} {i : Nat} {x : V} (h : (sV zs)[i]? = some x) : ∃ z, x = .str z ∧ zs[i]? = some z := by
  unfold sV at h
  rw [List.getElem?_map] at h
  cases e : zs[i]? with
  | none => rw [e] at h; cases h
  | some u =>
    rw [e] at h
    exact ⟨u, (Option.some.inj h).symm, rfl⟩
theorem dpAll_str {K : PySem.W.Frag} {H : Hp} : ∀ zs : List Str, DpAll K H (sV zs) (sD zs)
  | [] => .nil
  | z :: r => .cons (.str z) (dpAll_str r)
/-- words that a text can hold -/
def GoodW (zs : List Str) : Prop := ∀ z ∈ zs, PyData.strOk z = true
theorem lay_str : ∀ {zs : List Str}, GoodW zs → PyData.canLayAll0 (sD zs) = true
  | [], _ => rfl
  | z :: r, h => by
    show (PyData.canLay0 (.str z) && PyData.canLayAll0 (sD r)) = true
    rw [lay_str (fun y hy => h y (List.mem_cons_of_mem _ hy))]
    have := h z List.mem_cons_self
    simpa [PyData.canLay0] using this
theorem dep_str : ∀ zs : List Str, PyData.depthAll (sD zs) ≤ 1
  | [] => by simp [sD, PyData.depthAll]
  | z :: r => by
    have h := dep_str r
    show PyData.depthAll (PyData.str z :: sD r) ≤ 1
    simp only [PyData.depthAll]
    have hx : PyData.depth (.str z) ≤ 1 := by simp [PyData.depth]
    omega
theorem shaped_str {zs : List Str} (h : GoodW zs) : SeqAt.shaped (.tuple (sD zs)) = true := by
  unfold SeqAt.shaped
  rw [Bool.and_eq_true, decide_eq_true_eq]
  refine ⟨lay_str h, ?_⟩
  have := dep_str zs
  simp only [PyData.depth]
  omega
theorem shapedL_str {zs : List Str} (h : GoodW zs) : SeqAt.shaped (.list (sD zs)) = true := by
  unfold SeqAt.shaped
  rw [Bool.and_eq_true, decide_eq_true_eq]
  refine ⟨lay_str h, ?_⟩
  have := dep_str zs
  simp only [PyData.depth]
  omega
theorem eqvAll_str : ∀ a b : List Str, PyData.eqvAll (sD a) (sD b) = decide (a = b)
  | [], [] => by simp [sD, PyData.eqvAll]
  | [], _ :: _ => by simp [sD, PyData.eqvAll]
  | _ :: _, [] => by simp [sD, PyData.eqvAll]
  | x :: a, y :: b => by
    have ih := eqvAll_str a b
    show PyData.eqvAll (PyData.str x :: sD a) (PyData.str y :: sD b) = _
    simp only [PyData.eqvAll, ih, PyData.eqv]
    by_cases h1 : x = y
    · subst h1
      by_cases h2 : a = b <;> simp [h2]
    · have hb : (x == y) = false := beq_eq_false_iff_ne.mpr h1
      simp [h1, hb]
theorem eqv_str (a b : List Str) : PyData.eqv (.tuple (sD a)) (.tuple (sD b)) = decide (a = b) := by
  simp only [PyData.eqv]
  exact eqvAll_str a b
/-- a list of tuples of words -/
def tD (zss : List (List Str)) : List PyData := zss.map fun z => PyData.tuple (sD z)
theorem eqvAll_tD : ∀ a b : List (List Str), PyData.eqvAll (tD a) (tD b) = decide (a = b)
  | [], [] => by simp [tD, PyData.eqvAll]
  | [], _ :: _ => by simp [tD, PyData.eqvAll]
  | _ :: _, [] => by simp [tD, PyData.eqvAll]
  | x :: a, y :: b => by
    have ih := eqvAll_tD a b
    show PyData.eqvAll (PyData.tuple (sD x) :: tD a) (PyData.tuple (sD y) :: tD b) = _
    simp only [PyData.eqvAll, ih, eqv_str]
    by_cases h1 : x = y
    · subst h1
      by_cases h2 : a = b <;> simp [h2]
    · simp [h1]
theorem eqvL_tD (a b : List (List Str)) : PyData.eqv (.list (tD a)) (.list (tD b)) = decide (a = b) := by
  simp only [PyData.eqv]
  exact eqvAll_tD a b
theorem lay_tD : ∀ {zss : List (List Str)}, (∀ z ∈ zss, GoodW z) → PyData.canLayAll0 (tD zss) = true
  | [], _ => rfl
  | z :: r, h => by
    show (PyData.canLayAll0 (sD z) && PyData.canLayAll0 (tD r)) = true
    rw [lay_tD (fun y hy => h y (List.mem_cons_of_mem _ hy)), lay_str (h z List.mem_cons_self)]
    rfl
theorem dep_tD : ∀ zss : List (List Str), PyData.depthAll (tD zss) ≤ 2
  | [] => by simp [tD, PyData.depthAll]
  | z :: r => by
    have h := dep_tD r
    show PyData.depthAll (PyData.tuple (sD z) :: tD r) ≤ 2
    simp only [PyData.depthAll, PyData.depth]
    have := dep_str z
    omega
theorem shaped_tD {zss : List (List Str)} (h : ∀ z ∈ zss, GoodW z) : SeqAt.shaped (.list (tD zss)) = true := by
  unfold SeqAt.shaped
  rw [Bool.and_eq_true, decide_eq_true_eq]
  refine ⟨lay_tD h, ?_⟩
  have := dep_tD zss
  simp only [PyData.depth]
  omega
/-! ### recipes -/
def WS : List Str := ["slow", "sync slow", "fast", "sync fast", "free", "done"]
def KS : List Str := ["slow", "sync slow", "mark", "sync fast"]
def SS : List Str := ["sync slow", "sync fast"]
structure OkR (A zs : List Str) : Prop where
  len : zs.length ≤ 8
  mem : ∀ z ∈ zs, z ∈ A
  one : ∀ (i : Nat) (z : Str), zs[i]? = some z → z ∉ SS → z ∉ zs.take i
  dn : ("done" : Str) ∈ A → ("done" : Str) ∈ zs
def spPlace (K : PySem.W.Frag) : Sp := fun vs H Q _ => ∃ (t al : Addr) (A zs : List Str), vs = [.ref t, .ref al] ∧ H t = some (.tup (sV zs)) ∧ TupK K al (sV A) ∧ OkR A zs ∧ ∀ H', Fr [] H H' → Q .non H'
def spQInit (C : Addr) : Sp := fun vs H Q _ => ∃ (p dx a b c d : Addr) (za zb zc zd : List Str), vs = [.ref p, .ref a, .ref b, .ref c, .ref d] ∧ H p = some (.ins C dx []) ∧ H a = some (.tup (sV za)) ∧ H b = some (.tup (sV zb)) ∧ H c = some (.tup (sV zc)) ∧ H d = some (.tup (sV zd)) ∧
  OkR WS za ∧ OkR WS zb ∧ OkR WS zc ∧ OkR KS zd ∧ ∀ H' : Hp, Fr [p] H H' → H' p = some (.ins C dx (qF (.ref a) (.ref b) (.ref c) (.ref d))) → Q .non H'
/-- recipes stand at p -/
def RecAt (C : Addr) (H : Hp) (p : Addr) (z : List (List Str)) : Prop := ∃ (dx a b c d : Addr) (za zb zc zd : List Str), z = [za, zb, zc, zd] ∧ H p = some (.ins C dx (qF (.ref a) (.ref b) (.ref c) (.ref d))) ∧ H a = some (.tup (sV za)) ∧ H b = some (.tup (sV zb)) ∧ H c = some (.tup (sV zc)) ∧ H d = some (.tup (sV zd)) ∧ GoodW za ∧ GoodW zb ∧ GoodW zc ∧ GoodW zd
def spQEq (K : PySem.W.Frag) (C : Addr) : Sp := fun vs H Q _ => ∃ (p : Addr) (z : List (List Str)) (y : V), vs = [.ref p, y] ∧ RecAt C H p z ∧ ((∃ (q : Addr) (z' : List (List Str)), y = .ref q ∧ RecAt C H q z' ∧ Q (.bl (decide (z = z'))) H) ∨ ∃ tb : Value, TyX K H y tb ∧ PySem.W.kitOne K tb (.ref C) = some false ∧ Q (.bl false) H)
theorem cut_take {xs : List V} {i : Nat} (h : i ≤ xs.length) : cutV xs none (some (i : Int)) = xs.take i := by
  unfold cutV
  rw [HT.sIx_none, HT.sIx_nat, Nat.min_eq_left h]
  simp
section
variable {P : Program} {w : World} {K : PySem.W.Frag} {mg : Str → Option Value} {base : Heap}
theorem ok_place (T : Gx K mg) : FnOk P w K mg base CX0 1 T.f__invalid_place T.fd__invalid_place ["recipe", "allowed"] (spPlace K) := by
  refine T.F__invalid_place.ok sc__invalid_place (fun vs H Q E h => ?_) (fun cdv A outer s H vs Q E hr h => ?_)
  · obtain ⟨t, al, A, zs, rfl, _⟩ := h
    rfl
  · obtain ⟨t, al, AL, zs, rfl, ht, hal, ok, k⟩ := h
    refine ⟨_, (pss_cons (ps_if (pt_not (pt_val (pe_callB call_isi (by rfl) T.z_isinstance (by decide +kernel) (pa_cons (pv 0) (pa_cons (pe_bltn (v := .ty "tuple") (by rfl) T.z_tuple (by decide +kernel) rfl) pa_nil))))) (pss_one (ps_ret pe_int)) pss_nil)
      (pss_cons (ps_for PassesOwn.never rfl (pi_enumT (by rfl) T.z_enumerate (pa_cons (pv 0) pa_nil)) (pg_tup (by rfl) (pgs_cons (pg_name (i := 2) sc__invalid_place.nd rfl (.inl rfl)) (pgs_cons (pg_name (i := 3) sc__invalid_place.nd rfl (.inl rfl)) pgs_nil))) (pss_cons (ps_if (PW.pt (pw_or (pt_cmpR op_eq (pv 2) (pe_glob (v := .int (8)) (by rfl) T.c_MOST_STEPS ⟨_, rfl⟩) (nomark _)) (pw_or1 (pt_cmpR op_notIn_seq (pv 3) (pv 1) (by rfl))))) (pss_one (ps_ret (pv 2))) pss_nil)
      (pss_one (ps_if (PW.pt (pw_and (pt_cmpR op_notIn_seq (pv 3) (pe_glob (v := .ref T.A_SYNC_STEPS) (by rfl) T.g_SYNC_STEPS rfl) (by rfl)) (pw_and1 (pt_cmpR op_in_seq (pv 3) (pe_slice sl_tup (pv 0) po_none (po_some (pv 2))) (by rfl))))) (pss_one (ps_ret (pv 2))) pss_nil))))
      (pss_cons (ps_if (PW.pt (pw_and (pt_cmpR op_in_seq pe_str (pv 1) (by rfl)) (pw_and1 (pt_cmpR op_notIn_seq pe_str (pv 0) (by rfl))))) (pss_one (ps_ret (pe_callB call_len_seq (by rfl) T.z_len (by decide +kernel) (pa_cons (pv 0) pa_nil)))) pss_nil)
      (pss_one (ps_ret pe_non))))), ?_⟩
    refine ⟨_, rfl, _, .ty "tuple", .type "tuple", _, true, rfl, ClsV.ty "tuple", .base (.tup ht), kit_ty (by decide +kernel), _, rfl, iteF ?_⟩
    refine ⟨_, rfl, t, _, rfl, SqT.of ht, for_enumT (K := K) (a := t) (xs := sV zs) (fun i σ H' => Fr [] H H' ∧ ∃ v2 v3 : Option V, σ = [some (.ref t), some (.ref al), v2, v3]) ⟨Fr.refl _ _, none, none, rfl⟩ (fun i σ H' _ h => SqT.of (h.1 _ _ ht (by simp))) ?_ ?_⟩
    · rintro i x σ H1 U hx ⟨f1, v2, v3, rfl⟩ hU
      obtain ⟨z, rfl, hz⟩ := sV_at hx
      have hi := lt_of_at hz
      have zm := List.mem_of_getElem? hz
      have f2 : Fr [] H (upd H1 U (.tup [.int (i : Nat), .str z])) := f1.trans (Fr.new hU)
      refine ⟨U, _, rfl, SqT.of upd_same, rfl, _, _, rfl, _, _, rfl, rfl, ?_⟩
      refine ⟨_, rfl, rfl, _, rfl, ?_⟩
      have n8 : decide (V.int (i : Int) = V.int 8) = false := decide_eq_false (fun e => by
        have := V.int.inj e
        have := ok.len
        omega)
      rw [n8]
      refine iteF ⟨_, rfl, _, rfl, al, sV AL, rfl, .inr (hal _), rfl, sV_flat _, _, rfl, ?_⟩
      rw [inV_str, decide_eq_true (ok.mem z zm)]
      refine iteF ?_
      refine ⟨_, rfl, T.A_SYNC_STEPS, sV SS, rfl, .inr (T.k_SYNC_STEPS _), rfl, rfl, _, rfl, ?_⟩
      rw [inV_str]
      by_cases hs : z ∈ SS
      · rw [decide_eq_true hs]
        exact iteF (iteF ⟨f2, _, _, rfl⟩)
      · rw [decide_eq_false hs]
        refine iteT ?_
        refine ⟨_, rfl, _, rfl, _, rfl, (i : Int), rfl, t, sV zs, rfl, SqT.of (f2 _ _ ht (by simp)), ?_, fun g hg => ?_⟩
        · rintro ⟨_, e⟩
          rw [HT.sIx_nat, sV_len, Nat.min_eq_left (Nat.le_of_lt hi)] at e
          omega
        · have ec : cutV (sV zs) none (some (i : Int)) = sV (zs.take i) := by
            rw [cut_take (by rw [sV_len]; exact Nat.le_of_lt hi)]
            exact List.map_take.symm
          rw [ec]
          refine ⟨g, _, rfl, .inr (SqT.of upd_same), rfl, sV_flat _, _, rfl, ?_⟩
          rw [inV_str, decide_eq_false (ok.one i z hz hs)]
          exact iteF ⟨f2.trans (Fr.new hg), _, _, rfl⟩
    · rintro σ H1 ⟨f1, v2, v3, rfl⟩
      refine ⟨_, rfl, al, sV AL, rfl, .inr (hal _), rfl, sV_flat _, _, rfl, ?_⟩
      rw [inV_str]
      by_cases hd : ("done" : Str) ∈ AL
      · rw [decide_eq_true hd]
        refine iteT ⟨_, rfl, t, sV zs, rfl, .inr (SqT.of (f1 _ _ ht (by simp))), rfl, sV_flat _, _, rfl, ?_⟩
        rw [inV_str, decide_eq_true (ok.dn hd)]
        exact iteF (k _ f1)
      · rw [decide_eq_false hd]
        exact iteF (iteF (k _ f1))
theorem ok_qInit (T : Gx K mg) : FnOk P w K mg base CX0 2 T.f_Recipes___init__ T.fd_Recipes___init__ ["self", "through", "back", "around", "clean"] (spQInit T.C_Recipes) := by
  have G__invalid_place : FnOk P w K mg base CX0 1 T.f__invalid_place T.fd__invalid_place ["recipe", "allowed"] (spPlace K) := ok_place T
  refine T.F_Recipes___init__.ok sc_Recipes___init__ (fun vs H Q E h => ?_) (fun cdv A outer s H vs Q E hr h => ?_)
  · obtain ⟨p, dx, a, b, c, d, za, zb, zc, zd, rfl, _⟩ := h
    rfl
  · obtain ⟨p, dx, a, b, c, d, za, zb, zc, zd, rfl, hp, ha, hb, hc, hd, oa, ob, oc, od, k⟩ := h
    refine ⟨_, (pss_cons (ps_set (i := 5) sc_Recipes___init__.nd rfl (.inl rfl) (pe_tup (pa_cons (pe_glob (v := .ref T.A_WRITE_STEPS) (by rfl) T.g_WRITE_STEPS rfl) (pa_cons (pe_glob (v := .ref T.A_WRITE_STEPS) (by rfl) T.g_WRITE_STEPS rfl) (pa_cons (pe_glob (v := .ref T.A_WRITE_STEPS) (by rfl) T.g_WRITE_STEPS rfl) (pa_cons (pe_glob (v := .ref T.A_CLEAN_STEPS) (by rfl) T.g_CLEAN_STEPS rfl) pa_nil))))))
      (pss_cons (ps_for PassesOwn.never rfl (pi_enumT (by rfl) T.z_enumerate (pa_cons (pe_tup (pa_cons (pv 1) (pa_cons (pv 2) (pa_cons (pv 3) (pa_cons (pv 4) pa_nil))))) pa_nil)) (pg_tup (by rfl) (pgs_cons (pg_name (i := 6) sc_Recipes___init__.nd rfl (.inl rfl)) (pgs_cons (pg_name (i := 7) sc_Recipes___init__.nd rfl (.inl rfl)) pgs_nil))) (pss_cons (ps_set (i := 8) sc_Recipes___init__.nd rfl (.inl rfl) (pe_call G__invalid_place (hr.mono (by first | decide | omega)) (by rfl) T.g__invalid_place T.F__invalid_place.kp (b__invalid_place T) .nil pass0 (pa_cons (pv 7) (pa_cons (pe_ix ix_tup (pv 5) (pv 6) (fun _ _ => rfl)) pa_nil))))
      (pss_one (ps_if (pt_cmpR op_notN (pv 8) pe_non (nomark _)) (pss_one ps_never) pss_nil))))
      (pss_cons (ps_fld (pv 0) (pv 1) rfl)
      (pss_cons (ps_fld (pv 0) (pv 2) rfl)
      (pss_cons (ps_fld (pv 0) (pv 3) rfl)
      (pss_one (ps_fld (pv 0) (pv 4) rfl))))))), ?_⟩
    refine ⟨sz_le (by simp), fun t ht => ?_⟩
    refine ⟨_, rfl, _, rfl, _, rfl, _, rfl, sz_le (by simp), fun u hu => ?_⟩
    have et : (upd (upd H t (.tup [.ref T.A_WRITE_STEPS, .ref T.A_WRITE_STEPS, .ref T.A_WRITE_STEPS, .ref T.A_CLEAN_STEPS])) u (.tup [.ref a, .ref b, .ref c, .ref d])) t = some (.tup [.ref T.A_WRITE_STEPS, .ref T.A_WRITE_STEPS, .ref T.A_WRITE_STEPS, .ref T.A_CLEAN_STEPS]) := (upd_ne (free_upd hu).2.symm).trans upd_same
    refine ⟨u, _, rfl, SqT.of upd_same, for_enumT (K := K) (a := u) (xs := [.ref a, .ref b, .ref c, .ref d]) (fun i σ H' => Fr [] H H' ∧ H' t = some (.tup [.ref T.A_WRITE_STEPS, .ref T.A_WRITE_STEPS, .ref T.A_WRITE_STEPS, .ref T.A_CLEAN_STEPS]) ∧ H' u = some (.tup [.ref a, .ref b, .ref c, .ref d]) ∧
        ∃ v6 v7 v8 : Option V, σ = [some (.ref p), some (.ref a), some (.ref b), some (.ref c), some (.ref d), some (.ref t), v6, v7, v8])
      ⟨(Fr.new ht).trans (Fr.new hu), et, upd_same, none, none, none, rfl⟩ (fun i σ H' _ h => SqT.of h.2.2.1) ?_ ?_⟩
    · rintro i x σ H1 U hx ⟨f1, e1, e2, v6, v7, v8, rfl⟩ hU
      refine ⟨U, _, rfl, SqT.of upd_same, rfl, _, _, rfl, _, _, rfl, rfl, ?_⟩
      obtain ⟨x', al, AL, zs, rfl, hal, hK, hx', ok⟩ : ∃ (x' al : Addr) (AL zs : List Str), x = .ref x' ∧ ([.ref T.A_WRITE_STEPS, .ref T.A_WRITE_STEPS, .ref T.A_WRITE_STEPS, .ref T.A_CLEAN_STEPS] : List V)[i]? = some (.ref al) ∧ TupK K al (sV AL) ∧ H x' = some (.tup (sV zs)) ∧ OkR AL zs := by
        match i, hx with
        | 0, hx => cases hx; exact ⟨a, _, WS, za, rfl, rfl, T.k_WRITE_STEPS, ha, oa⟩
        | 1, hx => cases hx; exact ⟨b, _, WS, zb, rfl, rfl, T.k_WRITE_STEPS, hb, ob⟩
        | 2, hx => cases hx; exact ⟨c, _, WS, zc, rfl, rfl, T.k_WRITE_STEPS, hc, oc⟩
        | 3, hx => cases hx; exact ⟨d, _, KS, zd, rfl, rfl, T.k_CLEAN_STEPS, hd, od⟩
        | i + 4, hx => simp at hx
      have f2 : Fr [] H1 (upd H1 U (.tup [.int (i : Nat), .ref x'])) := Fr.new hU
      refine ⟨_, rfl, _, rfl, _, rfl, t, _, (i : Int), _, rfl, rfl, SqT.of (f2 _ _ e1 (by simp)), atI_nat hal, x', al, AL, zs, rfl, f2 _ _ (f1 _ _ hx' (by simp)) (by simp), hK, ok, fun H2 f3 => ?_⟩
      refine ⟨_, rfl, rfl, _, rfl, iteF ⟨(f1.trans f2).trans f3, f3 _ _ (f2 _ _ e1 (by simp)) (by simp), f3 _ _ (f2 _ _ e2 (by simp)) (by simp), _, _, _, rfl⟩⟩
    · rintro σ H1 ⟨f1, e1, e2, v6, v7, v8, rfl⟩
      have hp1 := f1 _ _ hp (by simp)
      refine ⟨_, rfl, _, rfl, p, T.C_Recipes, dx, [], rfl, hp1, T.cl_Recipes, T.n_Recipes__through, by simp, ?_⟩
      refine ⟨_, rfl, _, rfl, p, T.C_Recipes, dx, _, rfl, upd_same, T.cl_Recipes, T.n_Recipes__back, Nat.lt_of_le_of_lt (putF_len _ _ _) (by simp), ?_⟩
      refine ⟨_, rfl, _, rfl, p, T.C_Recipes, dx, _, rfl, upd_same, T.cl_Recipes, T.n_Recipes__around, Nat.lt_of_le_of_lt (putF_len _ _ _) (Nat.lt_of_le_of_lt (Nat.succ_le_succ (putF_len _ _ _)) (by simp)), ?_⟩
      refine ⟨_, rfl, _, rfl, p, T.C_Recipes, dx, _, rfl, upd_same, T.cl_Recipes, T.n_Recipes__clean, Nat.lt_of_le_of_lt (putF_len _ _ _) (Nat.lt_of_le_of_lt (Nat.succ_le_succ (Nat.le_trans (putF_len _ _ _) (Nat.succ_le_succ (putF_len _ _ _)))) (by simp)), ?_⟩
      rw [qF_made, upd_upd, upd_upd, upd_upd]
      exact k _ (fun b o e nb => by rw [upd_ne (by simpa using nb)]; exact f1 b o e (by simp)) upd_same
end
/-! ### a classmethod without arguments, a class called by a parameter that holds it -/
def tMakeL (i : Nat) (C : Addr) (sp : Sp) (E : XK) (t : TA) : TE := fun σ H Q => σ[i]? = some (some (.ref C)) ∧ tMake C sp [] E t σ H Q
section
variable {X : Cx} {CX : CXT} {k i : Nat} {C f p g : Addr} {mc : Value} {fd : FuncData} {ps : List Str} {sp : Sp} {E : XK} {x m : Str} {o e : Expr} {es : List Expr} {np pos apos : Pos} {ta : TE} {t : TA} {pl : Sem Bool}
theorem pe_makeL (M : Mk X.K C f) (F : FnOk X.prog X.w X.K X.mg X.base CX k f fd ps sp) (hr : Room (k + 1) X.A) (hN : X.N[i]? = some x) (hv : Vis X.env.scope x) (hb : Binds X.K fd ps []) (hx : Passes CX X E) (ha : PA X (e :: es) t)
    (hdb : (x == ("__debug__" : Str)) = false := by decide) (hcd : (x == ("__classdict__" : Str)) = false := by decide)
    (he : starEach (e :: es) X.env = (false, eval e X.env) :: starEach es X.env := by rfl) (hpl : (backTo pos (starEach es X.env)).any (·.1) = false := by rfl) : PE X (.Call (.Name x np) (e :: es) [] pos) (tMakeL i C sp E t) := by
  refine ⟨fun pins s σ H Q I h => ?_⟩
  obtain ⟨hs, ht⟩ := h
  refine wpAny_Call_Name_kw (thn ((pe_var (pos := np) hN hv hdb hcd).run pins s σ H (fun v H1 => v = .ref C ∧ H1 = H) I ⟨.ref C, hs, rfl, rfl⟩) fun u s1 ⟨v, H1, I1, r1, q1⟩ => ?_)
  obtain ⟨rfl, rfl⟩ := q1
  cases r1
  refine PySem.W.callWith_K (h₀ := X.base) I.ok.mod.kin M.kp (thn (ha.run pos pins s1 σ _ _ I1 ht) fun us s2 ⟨vs, H2, I2, r, q⟩ => ⟨I2.kIn, ?_⟩) he hpl
  exact run_make M F hr hb .nil hx I2 r q
theorem pe_cmeth0 (he : PE X o ta) (r : ClX.CRead X.K C mc) (c : ClX.CMet X.K C mc m p g) (F : FnR X.prog X.w X.K X.mg X.base CX k g sp) (hr : Room k X.A) (hx : Passes CX X E)
    (ht : eval (.Call (.Attribute o m apos) [] [] pos) X.env = (do
      let ov ← eval o X.env
      standAt apos.atName
      let (f, first) ← holding [ov] (getMethod ov m pl)
      callWith pos f first (backTo pos (starEach [] X.env)) (backToKw pos (keywordEach [] X.env))) := by rfl) :
    PE X (.Call (.Attribute o m apos) [] [] pos) (ClX.tCMeth C sp E ta tNil) := by
  refine ⟨fun pins s σ H Q I h => ?_⟩
  refine PySem.W.methodCall_KW (pl := pl) (thn (he.run pins s σ H _ I h) fun u s1 ⟨y, H1, I1, rx, ex, q⟩ => ?_) ht
  subst ex
  obtain rfl : u = Value.ref C := rx
  refine ClX.getmethcm_ok I1 r c fun s2 I2 => ?_
  exact PySem.W.callWith_M0 (first := []) ⟨ClX.pin_at I2, I2.kIn⟩ c.fi (ClX.run_cm F hr hx I2 .nil q)
end
/-! ### what recipes tell of themselves, and the safe ones -/
def SAFE : List (List Str) := [["slow", "sync slow", "fast", "sync fast", "done"], ["fast", "sync fast", "done", "free", "sync fast"], ["slow", "sync slow", "free", "sync fast", "done"], ["slow", "sync slow", "mark", "sync fast"]]
/-- a recipe, as a law can check it -/
def PV (A z : List Str) : Prop := z.length ≤ 8 ∧ (∀ w ∈ z, w ∈ A) ∧ (z.filter (fun w => decide (w ∉ SS))).Nodup ∧ (("done" : Str) ∈ A → ("done" : Str) ∈ z)
instance (A z : List Str) : Decidable (PV A z) := by
  unfold PV
  infer_instance
theorem PV.ok {A z : List Str} (h : PV A z) : OkR A z := by
  obtain ⟨h1, h2, h3, h4⟩ := h
  refine ⟨h1, h2, fun i w hi hw hm => ?_, h4⟩
  have e : z = z.take i ++ w :: z.drop (i + 1) := by
    have hlt := (List.getElem?_eq_some_iff.mp hi)
    obtain ⟨hl, he⟩ := hlt
    rw [← he, List.getElem_cons_drop hl, List.take_append_drop]
  rw [e, List.filter_append, List.nodup_append] at h3
  have hd := h3.2.2
  refine hd w ?_ w ?_ rfl
  · rw [List.mem_filter]
    exact ⟨hm, decide_eq_true hw⟩
  · rw [List.filter_cons]
    rw [if_pos (decide_eq_true hw)]
    exact List.mem_cons_self
theorem PV.perm {A z y : List Str} (h : PV A z) (p : y.Perm z) : PV A y := by
  obtain ⟨h1, h2, h3, h4⟩ := h
  exact ⟨by rw [p.length_eq]; exact h1, fun w hw => h2 w (p.mem_iff.mp hw), (p.filter _).nodup_iff.mpr h3, fun hA => p.mem_iff.mpr (h4 hA)⟩
/-- the words that a recipe may have -/
def AS (p : Nat) : List Str := if p < 3 then WS else KS
theorem pv_safe : ∀ p < 4, PV (AS p) (SAFE.getD p []) := by decide +kernel
theorem good_WS : ∀ z ∈ WS, PyData.strOk z = true := by decide +kernel
theorem good_KS : ∀ z ∈ KS, PyData.strOk z = true := by decide +kernel
theorem PV.good {p : Nat} {z : List Str} (h : PV (AS p) z) : GoodW z := fun w hw => by
  have := h.2.1 w hw
  unfold AS at this
  split at this
  · exact good_WS w this
  · exact good_KS w this
theorem RecAt.keep {C : Addr} {H H' : Hp} {S : List Addr} {p : Addr} {z : List (List Str)} (h : RecAt C H p z) (f : Fr S H H') (n : ∀ b ∈ S, H b = none ∨ ∃ xs, H b = some (.lst xs)) : RecAt C H' p z := by
  obtain ⟨dx, a, b, c, d, za, zb, zc, zd, rfl, hp, ha, hb, hc, hd, g⟩ := h
  have k : ∀ (x : Addr) (o : HO), H x = some o → (∀ xs, o ≠ .lst xs) → H' x = some o := fun x o e no => f x o e fun hx => by
    rcases n x hx with q | ⟨xs, q⟩
    · rw [q] at e; cases e
    · rw [q] at e; cases e; exact no xs rfl
  exact ⟨dx, a, b, c, d, za, zb, zc, zd, rfl, k _ _ hp (fun _ => by simp), k _ _ ha (fun _ => by simp), k _ _ hb (fun _ => by simp), k _ _ hc (fun _ => by simp), k _ _ hd (fun _ => by simp), g⟩
/-- made of four recipes -/
theorem mk_rec {C : Addr} {H : Hp} {Q : VK} {E : XK} {p dx a b c d : Addr} {za zb zc zd : List Str} (hp : H p = none) (hdx : H dx = none) (hpd : dx ≠ p) (ha : H a = some (.tup (sV za))) (hb : H b = some (.tup (sV zb))) (hc : H c = some (.tup (sV zc))) (hd : H d = some (.tup (sV zd)))
    (oa : PV (AS 0) za) (ob : PV (AS 1) zb) (oc : PV (AS 2) zc) (od : PV (AS 3) zd) (k : ∀ H', Fr [] H H' → RecAt C H' p [za, zb, zc, zd] → Q .non H') :
    spQInit C (.ref p :: ([.ref a, .ref b, .ref c, .ref d] ++ [])) (upd (upd H dx (.own p)) p (.ins C dx [])) Q E := by
  have f5 : Fr [] H (upd (upd H dx (.own p)) p (.ins C dx [])) := (Fr.new hdx).trans (Fr.new (by rw [upd_ne hpd.symm]; exact hp))
  refine ⟨p, dx, a, b, c, d, _, _, _, _, rfl, upd_same, f5 _ _ ha (by simp), f5 _ _ hb (by simp), f5 _ _ hc (by simp), f5 _ _ hd (by simp), oa.ok, ob.ok, oc.ok, od.ok, fun H6 f6 e6 => ?_⟩
  have f7 : Fr [] H H6 := made_fr hp hdx f6
  exact k H6 f7 ⟨dx, a, b, c, d, _, _, _, _, rfl, e6, f7 _ _ ha (by simp), f7 _ _ hb (by simp), f7 _ _ hc (by simp), f7 _ _ hd (by simp), oa.good, ob.good, oc.good, od.good⟩
def spSafeM (C : Addr) : Sp := fun vs H Q _ => vs = [.ref C] ∧ ∀ (p : Addr) (H' : Hp), H p = none → Fr [] H H' → RecAt C H' p SAFE → Q (.ref p) H'
section
variable {P : Program} {w : World} {K : PySem.W.Frag} {mg : Str → Option Value} {base : Heap}
theorem ok_qthrough (T : Gx K mg) : FnOk P w K mg base CX0 1 T.f_Recipes_through T.fd_Recipes_through ["self"] (spGet T.C_Recipes "_through") := by
  refine T.F_Recipes_through.ok sc_Recipes_through (fun vs H Q E h => ?_) (fun cdv A outer s H vs Q E hr h => ?_)
  · obtain ⟨a, dx, fs, v, rfl, _⟩ := h
    rfl
  · obtain ⟨a, dx, fs, v, rfl, ha, hv, k⟩ := h
    refine ⟨_, (pss_one (ps_ret (pe_fld (pv 0) rfl))), ?_⟩
    exact ⟨_, rfl, a, T.C_Recipes, _, _, _, rfl, ha, T.cl_Recipes, T.n_Recipes__through, hv, k⟩
theorem ok_qback (T : Gx K mg) : FnOk P w K mg base CX0 1 T.f_Recipes_back T.fd_Recipes_back ["self"] (spGet T.C_Recipes "_back") := by
  refine T.F_Recipes_back.ok sc_Recipes_back (fun vs H Q E h => ?_) (fun cdv A outer s H vs Q E hr h => ?_)
  · obtain ⟨a, dx, fs, v, rfl, _⟩ := h
    rfl
  · obtain ⟨a, dx, fs, v, rfl, ha, hv, k⟩ := h
    refine ⟨_, (pss_one (ps_ret (pe_fld (pv 0) rfl))), ?_⟩
    exact ⟨_, rfl, a, T.C_Recipes, _, _, _, rfl, ha, T.cl_Recipes, T.n_Recipes__back, hv, k⟩
theorem ok_qaround (T : Gx K mg) : FnOk P w K mg base CX0 1 T.f_Recipes_around T.fd_Recipes_around ["self"] (spGet T.C_Recipes "_around") := by
  refine T.F_Recipes_around.ok sc_Recipes_around (fun vs H Q E h => ?_) (fun cdv A outer s H vs Q E hr h => ?_)
  · obtain ⟨a, dx, fs, v, rfl, _⟩ := h
    rfl
  · obtain ⟨a, dx, fs, v, rfl, ha, hv, k⟩ := h
    refine ⟨_, (pss_one (ps_ret (pe_fld (pv 0) rfl))), ?_⟩
    exact ⟨_, rfl, a, T.C_Recipes, _, _, _, rfl, ha, T.cl_Recipes, T.n_Recipes__around, hv, k⟩
theorem ok_qclean (T : Gx K mg) : FnOk P w K mg base CX0 1 T.f_Recipes_clean T.fd_Recipes_clean ["self"] (spGet T.C_Recipes "_clean") := by
  refine T.F_Recipes_clean.ok sc_Recipes_clean (fun vs H Q E h => ?_) (fun cdv A outer s H vs Q E hr h => ?_)
  · obtain ⟨a, dx, fs, v, rfl, _⟩ := h
    rfl
  · obtain ⟨a, dx, fs, v, rfl, ha, hv, k⟩ := h
    refine ⟨_, (pss_one (ps_ret (pe_fld (pv 0) rfl))), ?_⟩
    exact ⟨_, rfl, a, T.C_Recipes, _, _, _, rfl, ha, T.cl_Recipes, T.n_Recipes__clean, hv, k⟩
theorem ok_safeM (T : Gx K mg) : FnOk P w K mg base CX0 4 T.f_Recipes_safe T.fd_Recipes_safe ["cls"] (spSafeM T.C_Recipes) := by
  have G_Recipes___init__ : FnOk P w K mg base CX0 2 T.f_Recipes___init__ T.fd_Recipes___init__ ["self", "through", "back", "around", "clean"] (spQInit T.C_Recipes) := ok_qInit T
  refine T.F_Recipes_safe.ok sc_Recipes_safe (fun vs H Q E h => ?_) (fun cdv A outer s H vs Q E hr h => ?_)
  · obtain ⟨rfl, _⟩ := h
    rfl
  · obtain ⟨rfl, k⟩ := h
    refine ⟨_, (pss_one (ps_ret (pe_makeL (i := 0) T.M_Recipes___init__ G_Recipes___init__ (hr.mono (by first | decide | omega)) (by rfl) (by first | exact Or.inl rfl | exact Or.inr (Or.inl rfl) | exact Or.inr (Or.inr rfl)) (b_Recipes___init__ T) pass0 (pa_cons (pe_tup (pa_cons pe_str (pa_cons pe_str (pa_cons pe_str (pa_cons pe_str (pa_cons pe_str pa_nil)))))) (pa_cons (pe_tup (pa_cons pe_str (pa_cons pe_str (pa_cons pe_str (pa_cons pe_str (pa_cons pe_str pa_nil)))))) (pa_cons (pe_tup (pa_cons pe_str (pa_cons pe_str (pa_cons pe_str (pa_cons pe_str (pa_cons pe_str pa_nil)))))) (pa_cons (pe_tup (pa_cons pe_str (pa_cons pe_str (pa_cons pe_str (pa_cons pe_str pa_nil))))) pa_nil))))))), ?_⟩
    refine ⟨rfl, ?_⟩
    refine ⟨sz_le (by simp), fun a ha => ?_⟩
    refine ⟨sz_le (by simp), fun b hb => ?_⟩
    refine ⟨sz_le (by simp), fun c hc => ?_⟩
    refine ⟨sz_le (by simp), fun d hd => ?_⟩
    refine fun p dx hp hdx hpd => ?_
    obtain ⟨hb1, ba⟩ := free_upd hb
    obtain ⟨hc1, cb⟩ := free_upd hc
    obtain ⟨hc2, ca⟩ := free_upd hc1
    obtain ⟨hd1, dc⟩ := free_upd hd
    obtain ⟨hd2, db⟩ := free_upd hd1
    obtain ⟨hd3, da⟩ := free_upd hd2
    have hp4 : H p = none := (free_upd (free_upd (free_upd (free_upd hp).1).1).1).1
    have f0 := (((Fr.new (S := []) (o := .tup (sV (SAFE.getD 0 []))) ha).trans (Fr.new (o := .tup (sV (SAFE.getD 1 []))) hb)).trans (Fr.new (o := .tup (sV (SAFE.getD 2 []))) hc)).trans (Fr.new (o := .tup (sV (SAFE.getD 3 []))) hd)
    refine mk_rec (za := SAFE.getD 0 []) (zb := SAFE.getD 1 []) (zc := SAFE.getD 2 []) (zd := SAFE.getD 3 []) hp hdx hpd ?_ ?_ ?_ ?_ (pv_safe 0 (by decide)) (pv_safe 1 (by decide)) (pv_safe 2 (by decide)) (pv_safe 3 (by decide)) fun H' f R => ⟨rfl, k p H' hp4 (f0.trans f) R⟩
    · rw [upd_ne da.symm, upd_ne ca.symm, upd_ne ba.symm, upd_same]
      rfl
    · rw [upd_ne db.symm, upd_ne cb.symm, upd_same]
      rfl
    · rw [upd_ne dc.symm, upd_same]
      rfl
    · rw [upd_same]
      rfl
end
/-! ### disks of values -/
structure DS (α : Type) where
  cs : List α
  ls : List α
  ps : List (Nat × α)
  r : Nat
  w : Nat
  s : Nat
def All2 {α : Type} (R : V → α → Prop) (vs : List V) (as : List α) : Prop := vs.length = as.length ∧ ∀ (i : Nat) (v : V) (a : α), vs[i]? = some v → as[i]? = some a → R v a
theorem All2.imp {α : Type} {R S : V → α → Prop} {vs : List V} {as : List α} (h : All2 R vs as) (f : ∀ v a, R v a → S v a) : All2 S vs as := ⟨h.1, fun i v a e1 e2 => f v a (h.2 i v a e1 e2)⟩
theorem All2.set {α : Type} {R : V → α → Prop} {vs : List V} {as : List α} (h : All2 R vs as) (j : Nat) {v : V} {a : α} (r : R v a) : All2 R (vs.set j v) (as.set j a) := by
  refine ⟨by rw [List.length_set, List.length_set]; exact h.1, fun i x y e1 e2 => ?_⟩
  rw [List.getElem?_set] at e1 e2
  by_cases z : j = i
  · rw [if_pos z] at e1 e2
    split at e1
    · split at e2
      · cases e1
        cases e2
        exact r
      · cases e2
    · cases e1
  · rw [if_neg z] at e1 e2
    exact h.2 i x y e1 e2
theorem All2.snoc {α : Type} {R : V → α → Prop} {vs : List V} {as : List α} (h : All2 R vs as) {v : V} {a : α} (r : R v a) : All2 R (vs ++ [v]) (as ++ [a]) := by
  refine ⟨by rw [List.length_append, List.length_append, h.1]; rfl, fun j u p e1 e2 => ?_⟩
  by_cases hj : j < vs.length
  · rw [List.getElem?_append_left hj] at e1
    rw [List.getElem?_append_left (by rw [← h.1]; exact hj)] at e2
    exact h.2 j u p e1 e2
  · rw [List.getElem?_append_right (by omega)] at e1
    rw [List.getElem?_append_right (by rw [← h.1]; omega)] at e2
    rw [← h.1] at e2
    have hz : j - vs.length = 0 := by
      have := lt_of_at e1
      simp at this
      omega
    rw [hz] at e1 e2
    cases e1
    cases e2
    exact r
theorem All2.at {α : Type} {R : V → α → Prop} {vs : List V} {as : List α} (h : All2 R vs as) {i : Nat} {a : α} (e : as[i]? = some a) : ∃ v, vs[i]? = some v ∧ R v a := by
  have l := lt_of_at e
  rw [← h.1] at l
  exact ⟨vs[i], List.getElem?_eq_getElem l, h.2 i _ a (List.getElem?_eq_getElem l) e⟩
theorem All2.rep {α : Type} {R : V → α → Prop} {v : V} {a : α} (n : Nat) (r : R v a) : All2 R (List.replicate n v) (List.replicate n a) := by
  refine ⟨by simp, fun i x y e1 e2 => ?_⟩
  rw [List.getElem?_replicate] at e1 e2
  split at e1
  · rename_i z
    rw [if_pos z] at e2
    cases e1
    cases e2
    exact r
  · cases e1
def SV : Hp → V → Nat → Prop := fun _ v n => v = .int (n : Int)
def RV : Hp → V → Option Rc → Prop := fun H v o => match o with
  | none => v = .non
  | some rc => ∃ t : Addr, v = .ref t ∧ H t = some (.tup rc.vs)
/-- what is said of values stays where no tuple changes -/
def Stays {α : Type} (R : Hp → V → α → Prop) : Prop := ∀ (S : List Addr) (H H' : Hp) (v : V) (a : α), R H v a → Fr S H H' → (∀ b ∈ S, ∀ xs, H b ≠ some (.tup xs)) → R H' v a
theorem stSV : Stays SV := fun _ _ _ _ _ h _ _ => h
theorem stRV : Stays RV := fun S H H' v a h f m => by
  cases a with
  | none => exact h
  | some rc =>
    obtain ⟨t, e, ht⟩ := h
    exact ⟨t, e, f _ _ ht (fun z => m _ z _ ht)⟩
def DiskR {α : Type} (C : Addr) (R : Hp → V → α → Prop) (H : Hp) (D : Dk) (d : DS α) : Prop := ∃ (cs ls : List V) (ps : List (Nat × V)), DiskAt C H D cs ls ps d.r d.w d.s ∧ All2 (R H) cs d.cs ∧ All2 (R H) ls d.ls ∧ All2 (R H) (ps.map Prod.snd) (d.ps.map Prod.snd) ∧ ps.map Prod.fst = d.ps.map Prod.fst ∧ d.ps.length ≤ d.w
section
variable {α : Type} {C : Addr} {R : Hp → V → α → Prop} {H H' : Hp} {D : Dk} {d : DS α}
theorem DiskR.notup (h : DiskR C R H D d) : ∀ b ∈ D.own, ∀ xs, H b ≠ some (.tup xs) := by
  obtain ⟨cs, ls, ps, h, _⟩ := h
  exact h.notup
theorem DiskR.there (h : DiskR C R H D d) : ∀ b ∈ D.own, ∃ o, H b = some o := by
  obtain ⟨cs, ls, ps, h, _⟩ := h
  exact h.there
theorem DiskR.keep (hR : Stays R) {S : List Addr} (h : DiskR C R H D d) (f : Fr S H H') (n : ∀ b ∈ D.own, b ∉ S) (m : ∀ b ∈ S, ∀ xs, H b ≠ some (.tup xs)) : DiskR C R H' D d := by
  obtain ⟨cs, ls, ps, h, a1, a2, a3, a4, a5⟩ := h
  have q : ∀ v a, R H v a → R H' v a := fun v a r => hR S H H' v a r f m
  exact ⟨cs, ls, ps, h.keep f n m, a1.imp q, a2.imp q, a3.imp q, a4, a5⟩
end
/-! ### a pair -/
theorem RecAt.fr {C : Addr} {H H' : Hp} {S : List Addr} {p : Addr} {z : List (List Str)} (h : RecAt C H p z) (f : Fr S H H') (n : p ∉ S) (m : ∀ b ∈ S, ∀ xs, H b ≠ some (.tup xs)) : RecAt C H' p z := by
  obtain ⟨dx, a, b, c, d, za, zb, zc, zd, e, e1, e2, e3, e4, e5, g⟩ := h
  exact ⟨dx, a, b, c, d, za, zb, zc, zd, e, f _ _ e1 n, f _ _ e2 (fun y => m _ y _ e2), f _ _ e3 (fun y => m _ y _ e3), f _ _ e4 (fun y => m _ y _ e4), f _ _ e5 (fun y => m _ y _ e5), g⟩
theorem RecAt.ex {C : Addr} {H : Hp} {p : Addr} {z : List (List Str)} (h : RecAt C H p z) : ∃ o, H p = some o := by
  obtain ⟨dx, a, b, c, d, za, zb, zc, zd, e, e1, _⟩ := h
  exact ⟨_, e1⟩
def DS.rd {α : Type} (d : DS α) : DS α := { d with r := d.r + 1 }
def DS.wri {α : Type} (d : DS α) (i : Nat) (a : α) : DS α := { d with cs := d.cs.set i a, ps := d.ps ++ [(i, a)], w := d.w + 1 }
def slotN (kn : List Kn) (b : Nat) : Option Nat := (kn.find? fun q => decide (q.rc.blk = b)).map fun q => q.slot
theorem slotN_kns (ks : List Kp) (b : Nat) : slotN (kns ks) b = slotOf ks b := by
  unfold slotN slotOf kns
  rw [List.find?_map, Option.map_map]
  rfl
theorem DiskR.wri {α : Type} {C : Addr} {R : Hp → V → α → Prop} (hR : Stays R) {H : Hp} {D : Dk} {d : DS α} {cs ls : List V} {ps : List (Nat × V)} {i : Nat} {v : V} {a : α} (h : DiskAt C H D cs ls ps d.r d.w d.s) (a1 : All2 (R H) cs d.cs) (a2 : All2 (R H) ls d.ls) (a3 : All2 (R H) (ps.map Prod.snd) (d.ps.map Prod.snd))
    (a4 : ps.map Prod.fst = d.ps.map Prod.fst) (a5 : d.ps.length ≤ d.w) (r : R H v a) {H' : Hp} (f : Fr D.own H H') (h' : DiskAt C H' D (cs.set i v) ls (ps ++ [(i, v)]) d.r (d.w + 1) d.s) : DiskR C R H' D (d.wri i a) := by
  have q : ∀ v a, R H v a → R H' v a := fun v a r => hR _ H H' v a r f h.notup
  refine ⟨_, _, _, h', (a1.set i r).imp q, a2.imp q, ?_, ?_, ?_⟩
  · show All2 (R H') ((ps ++ [(i, v)]).map Prod.snd) ((d.ps ++ [(i, a)]).map Prod.snd)
    rw [List.map_append, List.map_append]
    exact (a3.snoc r).imp q
  · show (ps ++ [(i, v)]).map Prod.fst = (d.ps ++ [(i, a)]).map Prod.fst
    rw [List.map_append, List.map_append, a4]
    rfl
  · show (d.ps ++ [(i, a)]).length ≤ d.w + 1
    rw [List.length_append]
    exact Nat.succ_le_succ a5
def DS.syn {α : Type} (d : DS α) : DS α := { d with ls := d.cs, ps := [], s := d.s + 1 }
/-! ### a pair that may be off, have no fast disk, fail -/
structure Cl where
  cP : Addr
  cD : Addr
  cM : Addr
  cK : Addr
  cR : Addr
  cQ : Addr
structure Pp where
  p : Addr
  px : Addr
  ru : Addr
  rx : Addr
  re : Addr
  S : Dk
  F : Option Dk
  M : Mm
  cd : Addr
def Pp.fo (P : Pp) : List Addr := match P.F with
  | none => []
  | some D => D.own
def Pp.fv (P : Pp) : V := match P.F with
  | none => .non
  | some D => .ref D.p
def Pp.own (P : Pp) (ks : List Kp) : List Addr := P.p :: (P.S.own ++ (P.fo ++ P.M.own ks))
structure PS where
  nb : Nat
  ms : Nat
  wr : Str
  rd : Str
  ch : Str
  bd : Int
  rcs : List (List Str)
  sl : DS Nat
  fa : Option (DS (Option Rc))
  dc : List Int
  reqs : Nat
  hits : Nat
  turn : Nat
  left : Option Nat
  on : Bool
  done : Bool
  kn : List Kn
def PS.fs (s : PS) (P : Pp) : List (Str × V) := pF (.int (s.nb : Int)) (.ref P.ru) (.ref P.re) (.ref P.S.p) P.fv (.ref P.M.m) (.ref P.cd) (.int (s.reqs : Int)) (.int (s.hits : Int)) (.int (s.turn : Int)) (slV s.left) (.bl s.on) (.bl s.done)
def FasAt (C : Addr) (H : Hp) : Option Dk → Option (DS (Option Rc)) → Prop
  | none, none => True
  | some D, some d => DiskR C RV H D d
  | _, _ => False
def foOf : Option Dk → List Addr
  | none => []
  | some D => D.own
theorem Pp.fo_eq (P : Pp) : P.fo = foOf P.F := by
  unfold Pp.fo foOf
  cases P.F <;> rfl
section
variable {C : Addr} {H H' : Hp} {F : Option Dk} {fa : Option (DS (Option Rc))}
theorem FasAt.notup (h : FasAt C H F fa) : ∀ b ∈ foOf F, ∀ xs, H b ≠ some (.tup xs) := by
  cases F with
  | none => exact fun b hb => by cases hb
  | some D =>
    cases fa with
    | none => exact h.elim
    | some d => exact DiskR.notup h
theorem FasAt.there (h : FasAt C H F fa) : ∀ b ∈ foOf F, ∃ o, H b = some o := by
  cases F with
  | none => exact fun b hb => by cases hb
  | some D =>
    cases fa with
    | none => exact h.elim
    | some d => exact DiskR.there h
theorem FasAt.keep {S : List Addr} (h : FasAt C H F fa) (f : Fr S H H') (n : ∀ b ∈ foOf F, b ∉ S) (m : ∀ b ∈ S, ∀ xs, H b ≠ some (.tup xs)) : FasAt C H' F fa := by
  cases F with
  | none =>
    cases fa with
    | none => trivial
    | some d => exact h.elim
  | some D =>
    cases fa with
    | none => exact h.elim
    | some d => exact DiskR.keep stRV h f n m
end
structure PairAt (c : Cl) (H : Hp) (P : Pp) (ks : List Kp) (s : PS) : Prop where
  ins : H P.p = some (.ins c.cP P.px (s.fs P))
  rul : H P.ru = some (.ins c.cR P.rx (rF (.str s.wr) (.str s.rd) (.str s.ch) (.int s.bd)))
  ded : H P.cd = some (.tup (s.dc.map V.int))
  slo : DiskR c.cD SV H P.S s.sl
  fas : FasAt c.cD H P.F s.fa
  mem : MemAt c.cM c.cK H P.M s.ms ks
  kno : kns ks = s.kn
  sSF : Sep P.S.own P.fo
  sSM : Sep P.S.own (P.M.own ks)
  sFM : Sep P.fo (P.M.own ks)
  pS : P.p ∉ P.S.own
  pF_ : P.p ∉ P.fo
  pM : P.p ∉ P.M.own ks
  rO : P.ru ∉ P.own ks
  rcp : RecAt c.cQ H P.re s.rcs
  qO : P.re ∉ P.own ks
section
variable {c : Cl} {H H' : Hp} {P : Pp} {ks : List Kp} {s : PS}
theorem own_p {P : Pp} {ks : List Kp} : P.p ∈ P.own ks := List.mem_cons_self
theorem own_S {P : Pp} {ks : List Kp} {b : Addr} (h : b ∈ P.S.own) : b ∈ P.own ks := List.mem_cons_of_mem _ (List.mem_append_left _ h)
theorem own_F {P : Pp} {ks : List Kp} {b : Addr} (h : b ∈ P.fo) : b ∈ P.own ks := List.mem_cons_of_mem _ (List.mem_append_right _ (List.mem_append_left _ h))
theorem own_M {P : Pp} {ks : List Kp} {b : Addr} (h : b ∈ P.M.own ks) : b ∈ P.own ks := List.mem_cons_of_mem _ (List.mem_append_right _ (List.mem_append_right _ h))
theorem own_cases {P : Pp} {ks : List Kp} {b : Addr} (h : b ∈ P.own ks) : b = P.p ∨ b ∈ P.S.own ∨ b ∈ P.fo ∨ b ∈ P.M.own ks := by
  rcases List.mem_cons.mp h with e | h
  · exact .inl e
  · rcases List.mem_append.mp h with e | h
    · exact .inr (.inl e)
    · rcases List.mem_append.mp h with e | h
      · exact .inr (.inr (.inl e))
      · exact .inr (.inr (.inr h))
theorem PairAt.fthere (h : PairAt c H P ks s) : ∀ b ∈ P.fo, ∃ o, H b = some o := by
  rw [P.fo_eq]
  exact h.fas.there
theorem PairAt.fnotup (h : PairAt c H P ks s) : ∀ b ∈ P.fo, ∀ xs, H b ≠ some (.tup xs) := by
  rw [P.fo_eq]
  exact h.fas.notup
theorem PairAt.there (h : PairAt c H P ks s) : ∀ b ∈ P.own ks, ∃ o, H b = some o := by
  intro b hb
  rcases own_cases hb with rfl | hb | hb | hb
  · exact ⟨_, h.ins⟩
  · exact h.slo.there b hb
  · exact h.fthere b hb
  · exact h.mem.there b hb
theorem PairAt.notup (h : PairAt c H P ks s) : ∀ b ∈ P.own ks, ∀ xs, H b ≠ some (.tup xs) := by
  intro b hb
  rcases own_cases hb with rfl | hb | hb | hb
  · rw [h.ins]; simp
  · exact h.slo.notup b hb
  · exact h.fnotup b hb
  · exact h.mem.notup b hb
theorem PairAt.keep {S : List Addr} (h : PairAt c H P ks s) (f : Fr S H H') (n : ∀ b ∈ P.own ks, b ∉ S) (r : P.ru ∉ S) (q : P.re ∉ S) (m : ∀ b ∈ S, ∀ xs, H b ≠ some (.tup xs)) : PairAt c H' P ks s :=
  ⟨f _ _ h.ins (n _ own_p), f _ _ h.rul r, f _ _ h.ded (fun z => m _ z _ h.ded), h.slo.keep stSV f (fun b hb => n b (own_S hb)) m, h.fas.keep f (fun b hb => n b (own_F (by rw [P.fo_eq]; exact hb))) m, h.mem.keep f (fun b hb => n b (own_M hb)) m, h.kno, h.sSF, h.sSM, h.sFM, h.pS, h.pF_, h.pM, h.rO, h.rcp.fr f q m, h.qO⟩
theorem PairAt.keep0 (h : PairAt c H P ks s) (f : Fr [] H H') : PairAt c H' P ks s := h.keep f (by simp) (by simp) (by simp) (by simp)
theorem out_of {S T : List Addr} {H : Hp} (g : Gw S H T) {b : Addr} {o : HO} (eb : H b = some o) (nb : b ∉ S) : b ∉ T := fun z => by
  rcases g b z with y | y
  · exact nb y
  · rw [eb] at y
    cases y
/-- the state but for what a change of one part may touch -/
structure Same1 (s' s : PS) : Prop where
  e1 : s'.wr = s.wr
  e2 : s'.rd = s.rd
  e3 : s'.ch = s.ch
  e4 : s'.bd = s.bd
  e5 : s'.rcs = s.rcs
/-- the pair's own object changes, and the slow disk -/
theorem PairAt.setS (h : PairAt c H P ks s) {D : Dk} {d : DS Nat} {s' : PS} (q : Same1 s' s) (e6 : s'.sl = d) (e7 : s'.fa = s.fa) (e8 : s'.ms = s.ms) (e9 : s'.kn = s.kn) (e0 : s'.dc = s.dc) (f : Fr (P.p :: P.S.own) H H') (ei : H' P.p = some (.ins c.cP P.px (s'.fs { P with S := D }))) (e : DiskR c.cD SV H' D d) (g : Gw P.S.own H D.own) : PairAt c H' { P with S := D } ks s' := by
  have m : ∀ b ∈ P.p :: P.S.own, ∀ xs, H b ≠ some (.tup xs) := fun b hb => h.notup b ((List.mem_cons.mp hb).elim (fun z => by rw [z]; exact own_p) own_S)
  have no : ∀ {b : Addr}, b ∉ P.own ks → b ∉ P.p :: P.S.own := fun nb z => nb ((List.mem_cons.mp z).elim (fun z => by rw [z]; exact own_p) own_S)
  have nF : ∀ b ∈ P.fo, b ∉ P.p :: P.S.own := fun b hb z => (List.mem_cons.mp z).elim (fun z => h.pF_ (by rw [← z]; exact hb)) fun z => h.sSF b z hb
  have nM : ∀ b ∈ P.M.own ks, b ∉ P.p :: P.S.own := fun b hb z => (List.mem_cons.mp z).elim (fun z => h.pM (by rw [← z]; exact hb)) fun z => h.sSM b z hb
  have oO : ∀ {b : Addr} {o : HO}, H b = some o → b ∉ P.own ks → b ∉ Pp.own { P with S := D } ks := fun eb nb z => by
    rcases own_cases z with y | y | y | y
    · exact nb (by rw [show _ = P.p from y]; exact own_p)
    · exact out_of g eb (fun z => nb (own_S z)) y
    · exact nb (own_F y)
    · exact nb (own_M y)
  obtain ⟨oR, eR⟩ := h.rcp.ex
  refine ⟨ei, ?_, ?_, ?_, ?_, ?_, h.kno.trans e9.symm, ?_, ?_, h.sFM, out_of g h.ins h.pS, h.pF_, h.pM, oO h.rul h.rO, ?_, oO eR h.qO⟩
  · rw [q.e1, q.e2, q.e3, q.e4]
    exact f _ _ h.rul (no h.rO)
  · rw [e0]
    exact f _ _ h.ded (fun z => m _ z _ h.ded)
  · rw [e6]; exact e
  · rw [e7]; exact h.fas.keep f (fun b hb => nF b (by rw [P.fo_eq]; exact hb)) m
  · rw [e8]; exact h.mem.keep f nM m
  · exact Sep.symm fun b hb => by
      obtain ⟨o, eo⟩ := h.fthere b hb
      exact out_of g eo (fun z => h.sSF b z hb)
  · exact Sep.symm fun b hb => by
      obtain ⟨o, eo⟩ := h.mem.there b hb
      exact out_of g eo (fun z => h.sSM b z hb)
  · rw [q.e5]; exact h.rcp.fr f (no h.qO) m
/-- .. and the fast disk -/
theorem PairAt.setF (h : PairAt c H P ks s) {F : Option Dk} {fa : Option (DS (Option Rc))} {s' : PS} (q : Same1 s' s) (e6 : s'.sl = s.sl) (e7 : s'.fa = fa) (e8 : s'.ms = s.ms) (e9 : s'.kn = s.kn) (e0 : s'.dc = s.dc) (f : Fr (P.p :: P.fo) H H') (ei : H' P.p = some (.ins c.cP P.px (s'.fs { P with F := F }))) (e : FasAt c.cD H' F fa) (g : Gw P.fo H (foOf F)) : PairAt c H' { P with F := F } ks s' := by
  have m : ∀ b ∈ P.p :: P.fo, ∀ xs, H b ≠ some (.tup xs) := fun b hb => h.notup b ((List.mem_cons.mp hb).elim (fun z => by rw [z]; exact own_p) own_F)
  have no : ∀ {b : Addr}, b ∉ P.own ks → b ∉ P.p :: P.fo := fun nb z => nb ((List.mem_cons.mp z).elim (fun z => by rw [z]; exact own_p) own_F)
  have nS : ∀ b ∈ P.S.own, b ∉ P.p :: P.fo := fun b hb z => (List.mem_cons.mp z).elim (fun z => h.pS (by rw [← z]; exact hb)) fun z => h.sSF b hb z
  have nM : ∀ b ∈ P.M.own ks, b ∉ P.p :: P.fo := fun b hb z => (List.mem_cons.mp z).elim (fun z => h.pM (by rw [← z]; exact hb)) fun z => h.sFM b z hb
  have eF : Pp.fo { P with F := F } = foOf F := Pp.fo_eq _
  have oO : ∀ {b : Addr} {o : HO}, H b = some o → b ∉ P.own ks → b ∉ Pp.own { P with F := F } ks := fun eb nb z => by
    rcases own_cases z with y | y | y | y
    · exact nb (by rw [show _ = P.p from y]; exact own_p)
    · exact nb (own_S y)
    · rw [eF] at y
      exact out_of g eb (fun z => nb (own_F z)) y
    · exact nb (own_M y)
  obtain ⟨oR, eR⟩ := h.rcp.ex
  refine ⟨ei, ?_, ?_, ?_, ?_, ?_, h.kno.trans e9.symm, ?_, h.sSM, ?_, h.pS, ?_, h.pM, oO h.rul h.rO, ?_, oO eR h.qO⟩
  · rw [q.e1, q.e2, q.e3, q.e4]
    exact f _ _ h.rul (no h.rO)
  · rw [e0]
    exact f _ _ h.ded (fun z => m _ z _ h.ded)
  · rw [e6]; exact h.slo.keep stSV f nS m
  · rw [e7]; exact e
  · rw [e8]; exact h.mem.keep f nM m
  · rw [eF]
    exact fun b hb => by
      obtain ⟨o, eo⟩ := h.slo.there b hb
      exact out_of g eo (fun z => h.sSF b hb z)
  · rw [eF]
    exact Sep.symm fun b hb => by
      obtain ⟨o, eo⟩ := h.mem.there b hb
      exact out_of g eo (fun z => h.sFM b z hb)
  · rw [eF]
    exact out_of g h.ins h.pF_
  · rw [q.e5]; exact h.rcp.fr f (no h.qO) m
/-- .. and the memory -/
theorem PairAt.setM (h : PairAt c H P ks s) {M : Mm} {ks' : List Kp} {s' : PS} (q : Same1 s' s) (e6 : s'.sl = s.sl) (e7 : s'.fa = s.fa) (e9 : s'.kn = kns ks') (e0 : s'.dc = s.dc) (f : Fr (P.p :: P.M.own ks) H H') (ei : H' P.p = some (.ins c.cP P.px (s'.fs { P with M := M }))) (e : MemAt c.cM c.cK H' M s'.ms ks') (g : Gw (P.M.own ks) H (M.own ks')) : PairAt c H' { P with M := M } ks' s' := by
  have m : ∀ b ∈ P.p :: P.M.own ks, ∀ xs, H b ≠ some (.tup xs) := fun b hb => h.notup b ((List.mem_cons.mp hb).elim (fun z => by rw [z]; exact own_p) own_M)
  have no : ∀ {b : Addr}, b ∉ P.own ks → b ∉ P.p :: P.M.own ks := fun nb z => nb ((List.mem_cons.mp z).elim (fun z => by rw [z]; exact own_p) own_M)
  have nS : ∀ b ∈ P.S.own, b ∉ P.p :: P.M.own ks := fun b hb z => (List.mem_cons.mp z).elim (fun z => h.pS (by rw [← z]; exact hb)) fun z => h.sSM b hb z
  have nF : ∀ b ∈ P.fo, b ∉ P.p :: P.M.own ks := fun b hb z => (List.mem_cons.mp z).elim (fun z => h.pF_ (by rw [← z]; exact hb)) fun z => h.sFM b hb z
  have oO : ∀ {b : Addr} {o : HO}, H b = some o → b ∉ P.own ks → b ∉ Pp.own { P with M := M } ks' := fun eb nb z => by
    rcases own_cases z with y | y | y | y
    · exact nb (by rw [show _ = P.p from y]; exact own_p)
    · exact nb (own_S y)
    · exact nb (own_F y)
    · exact out_of g eb (fun z => nb (own_M z)) y
  obtain ⟨oR, eR⟩ := h.rcp.ex
  refine ⟨ei, ?_, ?_, ?_, ?_, e, e9.symm, h.sSF, ?_, ?_, h.pS, h.pF_, out_of g h.ins h.pM, oO h.rul h.rO, ?_, oO eR h.qO⟩
  · rw [q.e1, q.e2, q.e3, q.e4]
    exact f _ _ h.rul (no h.rO)
  · rw [e0]
    exact f _ _ h.ded (fun z => m _ z _ h.ded)
  · rw [e6]; exact h.slo.keep stSV f nS m
  · rw [e7]; exact h.fas.keep f (fun b hb => nF b (by rw [P.fo_eq]; exact hb)) m
  · exact fun b hb => by
      obtain ⟨o, eo⟩ := h.slo.there b hb
      exact out_of g eo (fun z => h.sSM b hb z)
  · exact fun b hb => by
      obtain ⟨o, eo⟩ := h.fthere b hb
      exact out_of g eo (fun z => h.sFM b hb z)
  · rw [q.e5]; exact h.rcp.fr f (no h.qO) m
/-- .. alone; and the counts of dead disks -/
theorem PairAt.setP (h : PairAt c H P ks s) {cd : Addr} {s' : PS} (q : Same1 s' s) (e6 : s'.sl = s.sl) (e7 : s'.fa = s.fa) (e8 : s'.ms = s.ms) (e9 : s'.kn = s.kn) (f : Fr [P.p] H H') (ei : H' P.p = some (.ins c.cP P.px (s'.fs { P with cd := cd }))) (e0 : H' cd = some (.tup (s'.dc.map V.int))) : PairAt c H' { P with cd := cd } ks s' := by
  have m : ∀ b ∈ [P.p], ∀ xs, H b ≠ some (.tup xs) := fun b hb => h.notup b (by rw [List.mem_singleton.mp hb]; exact own_p)
  have no : ∀ {b : Addr}, b ∉ P.own ks → b ∉ [P.p] := fun nb z => nb (by rw [List.mem_singleton.mp z]; exact own_p)
  have n1 : ∀ T : List Addr, P.p ∉ T → ∀ b ∈ T, b ∉ [P.p] := fun T z b hb y => z (by rw [← List.mem_singleton.mp y]; exact hb)
  refine ⟨ei, ?_, e0, ?_, ?_, ?_, h.kno.trans e9.symm, h.sSF, h.sSM, h.sFM, h.pS, h.pF_, h.pM, h.rO, ?_, h.qO⟩
  · rw [q.e1, q.e2, q.e3, q.e4]
    exact f _ _ h.rul (no h.rO)
  · rw [e6]; exact h.slo.keep stSV f (n1 _ h.pS) m
  · rw [e7]; exact h.fas.keep f (fun b hb => n1 _ h.pF_ b (by rw [P.fo_eq]; exact hb)) m
  · rw [e8]; exact h.mem.keep f (n1 _ h.pM) m
  · rw [q.e5]; exact h.rcp.fr f (no h.qO) m
end
/-! ### one change behind another -/
structure Ch (c : Cl) (H : Hp) (P : Pp) (ks : List Kp) (H' : Hp) (P' : Pp) (ks' : List Kp) (s' : PS) : Prop where
  p : P'.p = P.p
  fr : Fr (P.own ks) H H'
  gw : Gw (P.own ks) H (P'.own ks')
  at_ : PairAt c H' P' ks' s'
section
variable {c : Cl} {H H1 H2 : Hp} {P P1 P2 : Pp} {ks ks1 ks2 : List Kp} {s s1 s2 : PS}
theorem Ch.refl (h : PairAt c H P ks s) : Ch c H P ks H P ks s := ⟨rfl, Fr.refl _ _, Gw.refl _ _, h⟩
theorem Ch.trans (a : Ch c H P ks H1 P1 ks1 s1) (b : Ch c H1 P1 ks1 H2 P2 ks2 s2) : Ch c H P ks H2 P2 ks2 s2 := ⟨b.p.trans a.p, a.fr.grow b.fr a.gw, Gw.trans a.fr a.gw b.gw, b.at_⟩
theorem Ch.keep0 (a : Ch c H P ks H1 P1 ks1 s1) (f : Fr [] H1 H2) : Ch c H P ks H2 P1 ks1 s1 := ⟨a.p, a.fr.trans (f.mono (by simp)), a.gw, a.at_.keep0 f⟩
/-- what was not tracked before stays so where nothing is owned -/
theorem Ch.none (a : Ch c H P ks H1 P1 ks1 s1) (hP : PairAt c H P ks s) {b : Addr} (h : H1 b = none) : H b = none ∨ b ∈ P.own ks := (a.fr.nah h).symm
end
/-! ### what a call gives: an answer, or the power fails -/
inductive Rs (α : Type) where
  | ok (a : α) (s : PS)
  | pf (b : Bool) (s : PS)
def Rs.bind {α β : Type} : Rs α → (α → PS → Rs β) → Rs β
  | .ok a s, f => f a s
  | .pf b s, _ => .pf b s
def offS (s : PS) : PS := { s with on := false, done := false, left := none, ms := 0, kn := [] }
def stepS (s : PS) : Rs Unit := match s.left with
  | none => .ok () s
  | some 0 => .pf s.done (offS s)
  | some (n + 1) => .ok () { s with left := some n }
def Go (c : Cl) (X : Addr) (H : Hp) (P : Pp) (ks : List Kp) (Q : VK) (E : XK) {α : Type} (R : α → Hp → Hp → V → Prop) : Rs α → Prop
  | .ok a s' => ∀ (H' : Hp) (P' : Pp) (ks' : List Kp) (v : V), Ch c H P ks H' P' ks' s' → R a H H' v → Q v H'
  | .pf b s' => ∀ (H' : Hp) (P' : Pp) (ks' : List Kp) (dx : Addr), Ch c H P ks H' P' ks' s' → H' dx = some (.xd [("is_done", .bl b)]) → E (.ref X) (some dx) H'
def RU : Unit → Hp → Hp → V → Prop := fun _ _ _ v => v = .non
abbrev clT {K : PySem.W.Frag} {mg : Str → Option Value} (T : Gx K mg) : Cl := ⟨T.C_Pair, T.C_Disk, T.C_Memory, T.C_KnownSlot, T.C_Rules, T.C_Recipes⟩
theorem Same1.rfl' {s : PS} : Same1 s s := ⟨rfl, rfl, rfl, rfl, rfl⟩
/-- the failure of a part is the failure of the whole -/
theorem Go.fail {c : Cl} {X : Addr} {H H1 : Hp} {P P1 : Pp} {ks ks1 : List Kp} {s0 s1 : PS} {Q : VK} {E : XK} {α : Type} {R : α → Hp → Hp → V → Prop} {b : Bool} (k : Go c X H P ks Q E R (.pf b s1)) (ch : Ch c H P ks H1 P1 ks1 s0) :
    ∀ (H' : Hp) (P' : Pp) (ks' : List Kp) (dx : Addr), Ch c H1 P1 ks1 H' P' ks' s1 → H' dx = some (.xd [("is_done", .bl b)]) → E (.ref X) (some dx) H' := fun H' P' ks' dx ch2 he => k H' P' ks' dx (ch.trans ch2) he
def spOff (c : Cl) : Sp := fun vs H Q _ => ∃ (P : Pp) (ks : List Kp) (s : PS), vs = [.ref P.p] ∧ PairAt c H P ks s ∧ ∀ (H' : Hp) (P' : Pp), Ch c H P ks H' P' [] (offS s) → Q .non H'
def spStep (c : Cl) (X : Addr) : Sp := fun vs H Q E => ∃ (P : Pp) (ks : List Kp) (s : PS), vs = [.ref P.p] ∧ PairAt c H P ks s ∧ Go c X H P ks Q E RU (stepS s)
theorem PairAt.setP0 {c : Cl} {H H' : Hp} {P : Pp} {ks : List Kp} {s s' : PS} (h : PairAt c H P ks s) (q : Same1 s' s) (e6 : s'.sl = s.sl) (e7 : s'.fa = s.fa) (e8 : s'.ms = s.ms) (e9 : s'.kn = s.kn) (e0 : s'.dc = s.dc) (f : Fr [P.p] H H') (ei : H' P.p = some (.ins c.cP P.px (s'.fs P))) : Ch c H P ks H' P ks s' := by
  have cdp : P.cd ∉ [P.p] := fun z => by
    have := h.ded
    rw [List.mem_singleton.mp z, h.ins] at this
    cases this
  exact ⟨rfl, f.mono (fun b hb => by rw [List.mem_singleton.mp hb]; exact own_p), Gw.refl _ _, h.setP (cd := P.cd) q e6 e7 e8 e9 f ei (by rw [e0]; exact f _ _ h.ded cdp)⟩
section
variable {P : Program} {w : World} {K : PySem.W.Frag} {mg : Str → Option Value} {base : Heap}
theorem ok_off (T : Gx K mg) : FnOk P w K mg base CX0 3 T.f_Pair__turn_off T.fd_Pair__turn_off ["self"] (spOff (clT T)) := by
  have G_Memory___init__ : FnOk P w K mg base CX0 1 T.f_Memory___init__ T.fd_Memory___init__ ["self", "slots"] (spMInit T.C_Memory T.C_KnownSlot) := ok_mInit T
  refine T.F_Pair__turn_off.ok sc_Pair__turn_off (fun vs H Q E h => ?_) (fun cdv A outer s H vs Q E hr h => ?_)
  · obtain ⟨P, ks, s, rfl, _⟩ := h
    rfl
  · obtain ⟨P, ks, s, rfl, hP, k⟩ := h
    refine ⟨_, (pss_cons (ps_fld (pv 0) pe_bl rfl)
      (pss_cons (ps_fld (pv 0) pe_bl rfl)
      (pss_cons (ps_fld (pv 0) pe_non rfl)
      (pss_one (ps_fld (pv 0) (pe_make T.M_Memory___init__ G_Memory___init__ (hr.mono (by first | decide | omega)) (by rfl) T.gC_Memory (b_Memory___init__ T) .nil pass0 (pa_cons pe_int pa_nil)) rfl))))), ?_⟩
    refine ⟨_, rfl, P.p, T.C_Pair, P.px, _, rfl, hP.ins, T.cl_Pair, T.n_Pair__is_on, by simp [PS.fs, pF], ?_⟩
    rw [PS.fs, pF_put11]
    refine ⟨_, rfl, P.p, T.C_Pair, P.px, _, rfl, upd_same, T.cl_Pair, T.n_Pair__is_done, by simp [pF], ?_⟩
    rw [pF_put12, upd_upd]
    refine ⟨_, rfl, P.p, T.C_Pair, P.px, _, rfl, upd_same, T.cl_Pair, T.n_Pair__steps_left, by simp [pF], ?_⟩
    rw [pF_put10, upd_upd]
    refine fun q qx hq hqx hne => ⟨q, qx, 0, rfl, Nat.zero_le _, upd_same, fun d H' hd f hM => ?_⟩
    refine ⟨rfl, ?_⟩
    have g := made_fr hq hqx f
    have hp' := g _ _ (upd_same (H := H) (a := P.p)) (by simp)
    refine ⟨_, rfl, P.p, T.C_Pair, P.px, _, rfl, hp', T.cl_Pair, T.n_Pair__memory, by simp [pF], ?_⟩
    rw [pF_put5]
    have hq0 := (free_upd hq)
    have hd0 := free_upd (free_upd (free_upd hd).1).1
    have f1 : Fr [P.p] H H' := (Fr.put (by simp)).trans (g.mono (by simp))
    have f2 : Fr [P.p] H (upd H' P.p (.ins T.C_Pair P.px (pF (.int (s.nb : Int)) (.ref P.ru) (.ref P.re) (.ref P.S.p) P.fv (.ref q) (.ref P.cd) (.int (s.reqs : Int)) (.int (s.hits : Int)) (.int (s.turn : Int)) .non (.bl false) (.bl false)))) := f1.trans (Fr.put (by simp))
    refine k _ { P with M := ⟨q, qx, d⟩ } ⟨rfl, f2.mono (fun b hb => by rw [List.mem_singleton.mp hb]; exact own_p), ?_, ?_⟩
    · intro b hb
      rcases own_cases hb with y | y | y | y
      · exact .inl (by rw [show b = P.p from y]; exact own_p)
      · exact .inl (own_S y)
      · exact .inl (own_F y)
      · simp only [Mm.own, List.map_nil, List.mem_cons, List.not_mem_nil, or_false] at y
        rcases y with rfl | rfl
        · exact .inr hq0.1
        · exact .inr hd0.1
    · refine hP.setM (M := ⟨q, qx, d⟩) (ks' := []) (s' := offS s) ⟨rfl, rfl, rfl, rfl, rfl⟩ rfl rfl rfl rfl (f2.mono (by simp)) upd_same ?_ ?_
      · refine hM.keep (S := [P.p]) (Fr.put (by simp)) (fun b hb => ?_) (fun b hb xs => by rw [List.mem_singleton.mp hb, hp']; simp)
        simp only [Mm.own, List.map_nil, List.mem_cons, List.not_mem_nil, or_false] at hb
        rw [List.mem_singleton]
        rcases hb with rfl | rfl
        · exact hq0.2
        · exact hd0.2
      · intro b hb
        simp only [Mm.own, List.map_nil, List.mem_cons, List.not_mem_nil, or_false] at hb
        rcases hb with rfl | rfl
        · exact .inr hq0.1
        · exact .inr hd0.1
end
/-! ### the power's own error -/
section
open PySem.Spec PySem.Calls PySem.W PyProof.Rows LamX NdefX
def tFmtB (te : TE) : TE := fun σ H Q => te σ H fun x H1 => ∃ b : Bool, x = .bl b ∧ Q (.str (if b then "True" else "False")) H1
theorem pe_fmtB {X : Cx} {e : Expr} {te : TE} {pos : Pos} (he : PE X e te) : PE X (.FormattedValue e (-1) none pos) (tFmtB te) := by
  refine ⟨fun pins s σ H Q I h => ?_⟩
  refine wpAny_FormattedValue_plain (thn (he.run pins s σ H _ I h) fun v s1 hv => ?_)
  obtain ⟨x, H1, J, r, b, rfl, q⟩ := hv
  cases r
  exact wpAny_formatField_bool ⟨.str (if b then "True" else "False"), H1, J.tok _, ⟨_, rfl⟩, q⟩
theorem cls_of_oexc {K : Frag} {C : Addr} (T : OexC K C) : ∃ cd, clsIn K C = some cd := by
  obtain ⟨nm, q, N, bs, bm, sn, sub, ab, col, dd, k0, k1, k2, k3, k5, hC, _⟩ := T.cls
  cases h : clsIn K C with
  | some cd => exact ⟨cd, rfl⟩
  | none =>
    unfold clsIn at h
    rw [hC] at h
    cases h
def spIB (C : Addr) : Sp := fun vs H Q _ => ∃ (a : Addr) (b : Bool), vs = [.ref a, .bl b] ∧ H a = some (exo a C none) ∧ ∀ dx, H dx = none → dx ≠ a → Q .non (upd (upd H dx (exd dx [("is_done", .bl b)])) a (exo a C (some dx)))
theorem len_pf : ∀ b : Bool, (Str.empty ++ ("the power failed, with a write done already: " : Str)).length ≤ sizeLine ∧ (Str.empty ++ ("the power failed, with a write done already: " : Str) ++ (if b then "True" else "False" : Str)).length ≤ sizeLine := by decide +kernel
variable {P : Program} {w : World} {K : Frag} {mg : Str → Option Value} {base : Heap} {file : Str}
theorem bi_PowerFailed (T : Gx K mg) : Binds K T.fd_PowerFailed___init__ ["self", "is_done"] [] := by
  obtain ⟨oc, od, kV, dc, pm, an, cda, ct, osl, cl, cdd, vs, csl, tf, ec, ed, es, e, _⟩ := T.S_PowerFailed___init__.ex
  rw [e]
  exact .all fun us hl => match us, hl with | [_, _], _ => rfl
theorem ok_i_PowerFailed (HP : ProgOk P file) (T : Gx K mg) (hf : file = T.file) : FnOk P w K mg base C8.CX0 1 T.f_PowerFailed___init__ T.fd_PowerFailed___init__ ["self", "is_done"] (spIB T.C_PowerFailed) := by
  subst hf
  refine FunS.ok HP T.S_PowerFailed___init__ sc_PowerFailed___init__ (fun vs H Q E h => by obtain ⟨a, i, rfl, _⟩ := h; rfl) rfl rfl (fun env e => by unfold PySem.interactive; rw [e]; rfl) _ (fun env => rfl) (fun env => rfl) rfl rfl T.z_super T.third (fun F' A outer s H vs Q E eF hr h => ?_)
  obtain ⟨a, b, rfl, ha, k⟩ := h
  obtain ⟨nm, q, pr, bd, sc, cl, c⟩ := F'
  have eF' : sc = defScope s_PowerFailed___init__ := eF
  subst eF'
  refine ⟨_, _, a, T.C_PowerFailed, .str (Str.empty ++ ("the power failed, with a write done already: " : Str) ++ (if b then "True" else "False" : Str)), rfl, ha, T.O_PowerFailed, cls_of_oexc T.O_PowerFailed, T.mr_PowerFailed, T.su_PowerFailed, T.vb_PowerFailed, pe_joined (.cons pe_str (.cons (pe_fmtB (pv 1)) .nil)), pss_one (ps_ost (pv 0) (pv 1)), fun Q' q => ?_, ?_⟩
  · exact ⟨_, rfl, (len_pf b).1, _, rfl, b, rfl, _, rfl, (len_pf b).2, q⟩
  · exact ⟨_, rfl, _, rfl, a, T.C_PowerFailed, rfl, T.O_PowerFailed, T.no_PowerFailed_is_done, .inl ⟨ha, fun dx hdx hne => k dx hdx hne⟩⟩
end
/-! ### a step begins, or the power fails -/
theorem raise_frG {H1 : Hp} {a dx : Addr} {o1 o2 o3 o4 : HO} (ha : H1 a = none) (hdx : H1 dx = none) : Fr [] H1 (upd (del (upd (upd (upd H1 a o1) dx o2) a o3) a) dx o4) := fun b u e _ => by
  have na := ne_of_none e ha
  have nd := ne_of_none e hdx
  rw [upd_ne nd, del_ne na, upd_ne na, upd_ne nd, upd_ne na]
  exact e
theorem dec_int {a b : Int} (h : a ≠ b) : decide (V.int a = V.int b) = false := decide_eq_false fun e => h (V.int.inj e)
section
variable {P : Program} {w : World} {K : PySem.W.Frag} {mg : Str → Option Value} {base : Heap} {file : Str}
theorem ok_step (HP : ProgOk P file) (T : Gx K mg) (hf : file = T.file) : FnOk P w K mg base (L2N.CX P w) 4 T.f_Pair__begin_step T.fd_Pair__begin_step ["self"] (spStep (clT T) T.C_PowerFailed) := by
  have G_PowerFailed___init__ := ok_i_PowerFailed (w := w) (base := base) HP T hf
  have G_Pair__turn_off : FnOk P w K mg base CX0 3 T.f_Pair__turn_off T.fd_Pair__turn_off ["self"] (spOff (clT T)) := ok_off T
  refine FunOkC T.F_Pair__begin_step sc_Pair__begin_step (fun vs H Q E h => ?_) (fun cdv A outer s H vs Q E hr h => ?_)
  · obtain ⟨P, ks, s, rfl, _⟩ := h
    rfl
  · obtain ⟨P, ks, s, rfl, hP, k⟩ := h
    refine ⟨_, (pss_cons (ps_if (pt_cmpR op_eq (pe_fld (pv 0) rfl) pe_int (nomark _)) (pss_cons (ps_set (i := 1) sc_Pair__begin_step.nd rfl (.inl rfl) (pe_fld (pv 0) rfl))
      (pss_cons (ps_expr (pe_meth0 (pv 0) T.cl_Pair T.m_Pair__turn_off G_Pair__turn_off (hr.mono (by first | decide | omega)) (b_Pair__turn_off T) .nil pass0))
      (pss_one (L2N.ps_raise rfl (L2N.takes_of rfl rfl rfl rfl) (pmkN T.O_PowerFailed T.iC_PowerFailed T.tI_PowerFailed G_PowerFailed___init__ (hr.mono (by first | decide | omega)) (bi_PowerFailed T) passN (by rfl) T.gC_PowerFailed (pa_cons (pv 1) pa_nil)))))) pss_nil)
      (pss_one (ps_if (pt_cmpR op_notN (pe_fld (pv 0) rfl) pe_non (nomark _)) (pss_one (ps_fldaug (pv 0) pe_int in_sub)) pss_nil))), ?_⟩
    obtain ⟨nb, ms, wr, rd, ch, bd, rcs, sl, fa, dc, reqs, hits, turn, left, on, done, kn⟩ := s
    cases left with
    | none =>
      refine ⟨_, rfl, P.p, T.C_Pair, P.px, _, _, rfl, hP.ins, T.cl_Pair, T.n_Pair__steps_left, pF_get10, rfl, _, rfl, iteF ?_⟩
      refine ⟨_, rfl, P.p, T.C_Pair, P.px, _, _, rfl, hP.ins, T.cl_Pair, T.n_Pair__steps_left, pF_get10, rfl, _, rfl, iteF ?_⟩
      exact k H P ks .non (Ch.refl hP) rfl
    | some n =>
      cases n with
      | zero =>
        refine ⟨_, rfl, P.p, T.C_Pair, P.px, _, _, rfl, hP.ins, T.cl_Pair, T.n_Pair__steps_left, pF_get10, rfl, _, rfl, iteT ?_⟩
        refine ⟨_, rfl, P.p, T.C_Pair, P.px, _, _, rfl, hP.ins, T.cl_Pair, T.n_Pair__is_done, pF_get12, ?_⟩
        refine ⟨_, rfl, P.p, P.px, _, rfl, hP.ins, pF_no__turn_off, P, ks, _, rfl, hP, fun H1 P1 c1 => ?_⟩
        refine ⟨_, rfl, by simp, fun q hq => ⟨q, done, rfl, upd_same, fun d hd hne => ⟨rfl, d, _, upd_same, (upd_ne hne).trans upd_same, (free_upd hd).1, ?_⟩⟩⟩
        exact k _ P1 [] d (c1.keep0 (raise_frG hq (free_upd hd).1)) upd_same
      | succ n =>
        refine ⟨_, rfl, P.p, T.C_Pair, P.px, _, _, rfl, hP.ins, T.cl_Pair, T.n_Pair__steps_left, pF_get10, rfl, _, rfl, iteFb (dec_int (by omega)) ?_⟩
        refine ⟨_, rfl, P.p, T.C_Pair, P.px, _, _, rfl, hP.ins, T.cl_Pair, T.n_Pair__steps_left, pF_get10, rfl, _, rfl, iteT ?_⟩
        refine ⟨_, rfl, P.p, T.C_Pair, P.px, _, _, rfl, hP.ins, T.cl_Pair, T.n_Pair__steps_left, pF_get10, _, _, rfl, rfl, P.px, _, hP.ins, by simp [PS.fs, pF], ?_⟩
        unfold PS.fs
        rw [pF_put10]
        have e1 : (((n + 1 : Nat) : Int) - 1) = (n : Int) := by omega
        refine k _ P ks .non (hP.setP0 ⟨rfl, rfl, rfl, rfl, rfl⟩ rfl rfl rfl rfl rfl (Fr.put (by simp)) ?_) rfl
        rw [upd_same]
        show some (HO.ins T.C_Pair P.px (pF _ _ _ _ _ _ _ _ _ _ (V.int (((n + 1 : Nat) : Int) - 1)) _ _)) = _
        rw [e1]
        rfl
end
/-! ### steps of the disks, or the power fails -/
theorem Go.seq {c : Cl} {X : Addr} {H : Hp} {P : Pp} {ks : List Kp} {Q Q1 : VK} {E : XK} {α β : Type} {R1 : α → Hp → Hp → V → Prop} {R : β → Hp → Hp → V → Prop} {r : Rs α} {f : α → PS → Rs β} (k : Go c X H P ks Q E R (r.bind f))
    (hk : ∀ a s1, r = .ok a s1 → Go c X H P ks Q E R (f a s1) → ∀ (H1 : Hp) (P1 : Pp) (ks1 : List Kp) (v : V), Ch c H P ks H1 P1 ks1 s1 → R1 a H H1 v → Q1 v H1) : Go c X H P ks Q1 E R1 r := by
  cases r with
  | ok a s1 => exact fun H1 P1 ks1 v ch hv => hk a s1 rfl k H1 P1 ks1 v ch hv
  | pf b s1 => exact k
theorem Go.from {c : Cl} {X : Addr} {H H1 : Hp} {P P1 : Pp} {ks ks1 : List Kp} {s0 : PS} {Q : VK} {E : XK} {α : Type} {R R' : α → Hp → Hp → V → Prop} {r : Rs α} (k : Go c X H P ks Q E R r) (ch : Ch c H P ks H1 P1 ks1 s0) (hR : ∀ a H' v, R' a H1 H' v → R a H H' v) : Go c X H1 P1 ks1 Q E R' r := by
  cases r with
  | ok a s1 => exact fun H' P' ks' v ch2 hv => k H' P' ks' v (ch.trans ch2) (hR _ _ _ hv)
  | pf b s1 => exact fun H' P' ks' dx ch2 he => k H' P' ks' dx (ch.trans ch2) he
theorem stepS_ok {s s1 : PS} {u : Unit} (h : stepS s = .ok u s1) : ∃ l, s1 = { s with left := l } := by
  unfold stepS at h
  split at h
  · rename_i e
    cases h
    exact ⟨none, by rw [← e]⟩
  · cases h
  · cases h
    exact ⟨_, rfl⟩
section
variable {c : Cl} {H H' : Hp} {P : Pp} {ks : List Kp} {s : PS}
theorem PairAt.slowC (h : PairAt c H P ks s) {D : Dk} {d : DS Nat} (ep : D.p = P.S.p) (f : Fr P.S.own H H') (e : DiskR c.cD SV H' D d) (g : Gw P.S.own H D.own) : Ch c H P ks H' { P with S := D } ks { s with sl := d } := by
  refine ⟨rfl, f.mono fun b hb => own_S hb, fun b hb => ?_, h.setS ⟨rfl, rfl, rfl, rfl, rfl⟩ rfl rfl rfl rfl rfl (f.mono fun b hb => List.mem_cons_of_mem _ hb) ?_ e g⟩
  · rcases own_cases hb with y | y | y | y
    · exact .inl (by rw [show b = P.p from y]; exact own_p)
    · exact (g b y).imp own_S id
    · exact .inl (own_F y)
    · exact .inl (own_M y)
  · have := f _ _ h.ins h.pS
    unfold PS.fs at this ⊢
    rw [← ep] at this
    exact this
theorem PairAt.fastC (h : PairAt c H P ks s) {D0 D : Dk} {d : DS (Option Rc)} (e0 : P.F = some D0) (ep : D.p = D0.p) (f : Fr D0.own H H') (e : DiskR c.cD RV H' D d) (g : Gw D0.own H D.own) : Ch c H P ks H' { P with F := some D } ks { s with fa := some d } := by
  have efo : P.fo = D0.own := by rw [P.fo_eq, e0]; rfl
  refine ⟨rfl, f.mono fun b hb => own_F (by rw [efo]; exact hb), fun b hb => ?_, h.setF (F := some D) (fa := some d) ⟨rfl, rfl, rfl, rfl, rfl⟩ rfl rfl rfl rfl rfl (by rw [efo]; exact f.mono fun b hb => List.mem_cons_of_mem _ hb) ?_ e (by rw [efo]; exact g)⟩
  · rcases own_cases hb with y | y | y | y
    · exact .inl (by rw [show b = P.p from y]; exact own_p)
    · exact .inl (own_S y)
    · exact (g b y).imp (fun z => own_F (by rw [efo]; exact z)) id
    · exact .inl (own_M y)
  · have := f _ _ h.ins (by rw [← efo]; exact h.pF_)
    have ev : Pp.fv { P with F := some D } = P.fv := by
      unfold Pp.fv
      rw [e0]
      show V.ref D.p = V.ref D0.p
      rw [ep]
    unfold PS.fs at this ⊢
    rw [ev]
    exact this
theorem PairAt.fast (h : PairAt c H P ks s) {d : DS (Option Rc)} (e : s.fa = some d) : ∃ D, P.F = some D ∧ DiskR c.cD RV H D d := by
  have hf := h.fas
  rw [e] at hf
  cases eF : P.F with
  | none => rw [eF] at hf; exact hf.elim
  | some D => rw [eF] at hf; exact ⟨D, rfl, hf⟩
theorem PairAt.nofast (h : PairAt c H P ks s) (e : s.fa = none) : P.F = none := by
  have hf := h.fas
  rw [e] at hf
  cases eF : P.F with
  | none => rfl
  | some D => rw [eF] at hf; exact hf.elim
theorem fv_some {D : Dk} (e : P.F = some D) : P.fv = .ref D.p := by unfold Pp.fv; rw [e]
theorem fv_none (e : P.F = none) : P.fv = .non := by unfold Pp.fv; rw [e]
end
def wSlow (rc : Rc) (s : PS) : Rs Unit := (stepS s).bind fun _ s1 => .ok () { s1 with sl := s1.sl.wri rc.blk rc.val }
def ySlow (s : PS) : Rs Unit := (stepS s).bind fun _ s1 => .ok () { s1 with sl := s1.sl.syn }
def wFast (i : Nat) (o : Option Rc) (s : PS) : Rs Unit := (stepS s).bind fun _ s1 => .ok () { s1 with fa := s1.fa.map fun d => d.wri i o }
def yFast (s : PS) : Rs Unit := match s.fa with
  | none => .ok () s
  | some _ => (stepS s).bind fun _ s1 => .ok () { s1 with fa := s1.fa.map DS.syn }
def spWriteS (c : Cl) (X : Addr) : Sp := fun vs H Q E => ∃ (P : Pp) (ks : List Kp) (s : PS) (t : Addr) (rc : Rc), vs = [.ref P.p, .ref t] ∧ PairAt c H P ks s ∧ H t = some (.tup rc.vs) ∧ rc.blk < s.sl.cs.length ∧ s.sl.w ≤ 900 ∧ Go c X H P ks Q E RU (wSlow rc s)
def spSyncS (c : Cl) (X : Addr) : Sp := fun vs H Q E => ∃ (P : Pp) (ks : List Kp) (s : PS), vs = [.ref P.p] ∧ PairAt c H P ks s ∧ Go c X H P ks Q E RU (ySlow s)
def spWriteF (c : Cl) (X : Addr) : Sp := fun vs H Q E => ∃ (P : Pp) (ks : List Kp) (s : PS) (d : DS (Option Rc)) (i : Nat) (v : V) (o : Option Rc), vs = [.ref P.p, .int (i : Int), v] ∧ PairAt c H P ks s ∧ s.fa = some d ∧ RV H v o ∧ i < d.cs.length ∧ d.w ≤ 900 ∧ Go c X H P ks Q E RU (wFast i o s)
def spSyncF (c : Cl) (X : Addr) : Sp := fun vs H Q E => ∃ (P : Pp) (ks : List Kp) (s : PS), vs = [.ref P.p] ∧ PairAt c H P ks s ∧ Go c X H P ks Q E RU (yFast s)
section
variable {P : Program} {w : World} {K : PySem.W.Frag} {mg : Str → Option Value} {base : Heap} {file : Str}
theorem ok_writeS (HP : ProgOk P file) (T : Gx K mg) (hf : file = T.file) : FnOk P w K mg base (L2N.CX P w) 5 T.f_Pair__write_slow T.fd_Pair__write_slow ["self", "record"] (spWriteS (clT T) T.C_PowerFailed) := by
  have G_Disk_write : FnOk P w K mg base CX0 4 T.f_Disk_write T.fd_Disk_write ["self", "cell", "content"] (spWrite T.C_Disk) := ok_write T
  have G_Pair__begin_step := ok_step (w := w) (base := base) HP T hf
  refine FunOkC T.F_Pair__write_slow sc_Pair__write_slow (fun vs H Q E h => ?_) (fun cdv A outer s H vs Q E hr h => ?_)
  · obtain ⟨P, ks, s, t, rc, rfl, _⟩ := h
    rfl
  · obtain ⟨P, ks, s, t, rc, rfl, hP, ht, hi, hw, k⟩ := h
    refine ⟨_, (pss_cons (ps_expr (pe_meth0 (pv 0) T.cl_Pair T.m_Pair__begin_step G_Pair__begin_step (hr.mono (by first | decide | omega)) (b_Pair__begin_step T) .nil (L2N.passes_call (L2N.takes_of rfl rfl rfl rfl) (fun _ _ _ _ h => h))))
      (pss_one (ps_expr (pe_meth (pe_fld (pv 0) rfl) T.cl_Disk T.m_Disk_write G_Disk_write (hr.mono (by first | decide | omega)) (b_Disk_write T) .nil pass0 (pa_cons (pe_ix ix_tup (pv 1) (pe_glob (v := .int (0)) (by rfl) T.c_BLOCK ⟨_, rfl⟩) (fun _ _ => rfl)) (pa_cons (pe_ix ix_tup (pv 1) (pe_glob (v := .int (1)) (by rfl) T.c_VALUE ⟨_, rfl⟩) (fun _ _ => rfl)) pa_nil)))))), ?_⟩
    refine ⟨_, rfl, P.p, P.px, _, rfl, hP.ins, pF_no__begin_step, P, ks, s, rfl, hP, Go.seq k fun u s1 e1 k1 H1 P1 ks1 v c1 _ => ?_⟩
    obtain ⟨l, rfl⟩ := stepS_ok e1
    have hP1 := c1.at_
    have ht1 := c1.fr _ _ ht (fun z => hP.notup _ z _ ht)
    rw [← c1.p]
    obtain ⟨cs, ls, ps, hD, a1, a2, a3, a4, a5⟩ := hP1.slo
    refine ⟨_, rfl, P1.p, T.C_Pair, P1.px, _, _, rfl, hP1.ins, T.cl_Pair, T.n_Pair__slow, pF_get3, P1.S.p, P1.S.dx, _, rfl, hD.ins, dF_no_write, _, rfl, _, _, (0 : Int), _, rfl, rfl, SqT.of ht1, rfl, _, rfl, _, _, (1 : Int), _, rfl, rfl, SqT.of ht1, rfl, P1.S, cs, ls, ps, s.sl.r, s.sl.w, s.sl.s, rc.blk, _, rfl, hD, (by rw [a1.1]; exact hi), ?_, fun H2 f2 h2 => ?_⟩
    · have := congrArg List.length a4
      simp only [List.length_map] at this
      have a5' : s.sl.ps.length ≤ s.sl.w := a5
      omega
    · have h3 : DiskR T.C_Disk SV H2 P1.S (s.sl.wri rc.blk rc.val) := DiskR.wri stSV hD a1 a2 a3 a4 a5 rfl f2 h2
      exact k1 H2 P1 ks1 .non (c1.trans (hP1.slowC rfl f2 h3 (Gw.refl _ _))) rfl
theorem ok_syncS (HP : ProgOk P file) (T : Gx K mg) (hf : file = T.file) : FnOk P w K mg base (L2N.CX P w) 5 T.f_Pair__sync_slow T.fd_Pair__sync_slow ["self"] (spSyncS (clT T) T.C_PowerFailed) := by
  have G_Disk_sync : FnOk P w K mg base CX0 1 T.f_Disk_sync T.fd_Disk_sync ["self"] (spSync T.C_Disk) := ok_sync T
  have G_Pair__begin_step := ok_step (w := w) (base := base) HP T hf
  refine FunOkC T.F_Pair__sync_slow sc_Pair__sync_slow (fun vs H Q E h => ?_) (fun cdv A outer s H vs Q E hr h => ?_)
  · obtain ⟨P, ks, s, rfl, _⟩ := h
    rfl
  · obtain ⟨P, ks, s, rfl, hP, k⟩ := h
    refine ⟨_, (pss_cons (ps_expr (pe_meth0 (pv 0) T.cl_Pair T.m_Pair__begin_step G_Pair__begin_step (hr.mono (by first | decide | omega)) (b_Pair__begin_step T) .nil (L2N.passes_call (L2N.takes_of rfl rfl rfl rfl) (fun _ _ _ _ h => h))))
      (pss_one (ps_expr (pe_meth0 (pe_fld (pv 0) rfl) T.cl_Disk T.m_Disk_sync G_Disk_sync (hr.mono (by first | decide | omega)) (b_Disk_sync T) .nil pass0)))), ?_⟩
    refine ⟨_, rfl, P.p, P.px, _, rfl, hP.ins, pF_no__begin_step, P, ks, s, rfl, hP, Go.seq k fun u s1 e1 k1 H1 P1 ks1 v c1 _ => ?_⟩
    obtain ⟨l, rfl⟩ := stepS_ok e1
    have hP1 := c1.at_
    rw [← c1.p]
    obtain ⟨cs, ls, ps, hD, a1, a2, a3, a4, a5⟩ := hP1.slo
    refine ⟨_, rfl, P1.p, T.C_Pair, P1.px, _, _, rfl, hP1.ins, T.cl_Pair, T.n_Pair__slow, pF_get3, P1.S.p, P1.S.dx, _, rfl, hD.ins, dF_no_sync, P1.S, cs, ls, ps, s.sl.r, s.sl.w, s.sl.s, rfl, hD, fun D' H2 ep g2 f2 h2 => ?_⟩
    have h3 : DiskR T.C_Disk SV H2 D' s.sl.syn := ⟨cs, cs, [], h2, a1, a1, ⟨rfl, fun i v a e => by simp at e⟩, rfl, Nat.zero_le _⟩
    exact k1 H2 { P1 with S := D' } ks1 .non (c1.trans (hP1.slowC ep f2 h3 g2)) rfl
theorem ok_writeF (HP : ProgOk P file) (T : Gx K mg) (hf : file = T.file) : FnOk P w K mg base (L2N.CX P w) 5 T.f_Pair__write_fast T.fd_Pair__write_fast ["self", "slot", "content"] (spWriteF (clT T) T.C_PowerFailed) := by
  have G_Disk_write : FnOk P w K mg base CX0 4 T.f_Disk_write T.fd_Disk_write ["self", "cell", "content"] (spWrite T.C_Disk) := ok_write T
  have G_Pair__begin_step := ok_step (w := w) (base := base) HP T hf
  refine FunOkC T.F_Pair__write_fast sc_Pair__write_fast (fun vs H Q E h => ?_) (fun cdv A outer s H vs Q E hr h => ?_)
  · obtain ⟨P, ks, s, d, i, v, o, rfl, _⟩ := h
    rfl
  · obtain ⟨P, ks, s, d, i, v, o, rfl, hP, hd, hv, hi, hw, k⟩ := h
    refine ⟨_, (pss_cons (ps_expr (pe_meth0 (pv 0) T.cl_Pair T.m_Pair__begin_step G_Pair__begin_step (hr.mono (by first | decide | omega)) (b_Pair__begin_step T) .nil (L2N.passes_call (L2N.takes_of rfl rfl rfl rfl) (fun _ _ _ _ h => h))))
      (pss_one (ps_expr (pe_meth (pe_fld (pv 0) rfl) T.cl_Disk T.m_Disk_write G_Disk_write (hr.mono (by first | decide | omega)) (b_Disk_write T) .nil pass0 (pa_cons (pv 1) (pa_cons (pv 2) pa_nil)))))), ?_⟩
    refine ⟨_, rfl, P.p, P.px, _, rfl, hP.ins, pF_no__begin_step, P, ks, s, rfl, hP, Go.seq k fun u s1 e1 k1 H1 P1 ks1 v1 c1 _ => ?_⟩
    obtain ⟨l, rfl⟩ := stepS_ok e1
    have hP1 := c1.at_
    have hv1 := stRV _ _ _ _ _ hv c1.fr hP.notup
    rw [← c1.p]
    obtain ⟨D, eD, hR⟩ := hP1.fast (d := d) hd
    obtain ⟨cs, ls, ps, hD, a1, a2, a3, a4, a5⟩ := hR
    refine ⟨_, rfl, P1.p, T.C_Pair, P1.px, _, _, rfl, hP1.ins, T.cl_Pair, T.n_Pair__fast, pF_get4, D.p, D.dx, _, fv_some eD, hD.ins, dF_no_write, _, rfl, _, rfl, D, cs, ls, ps, d.r, d.w, d.s, i, v, by rw [fv_some eD]; rfl, hD, (by rw [a1.1]; exact hi), ?_, fun H2 f2 h2 => ?_⟩
    · have := congrArg List.length a4
      simp only [List.length_map] at this
      omega
    · have h3 : DiskR T.C_Disk RV H2 D (d.wri i o) := DiskR.wri stRV hD a1 a2 a3 a4 a5 hv1 f2 h2
      refine k1 H2 { P1 with F := some D } ks1 .non ?_ rfl
      show Ch _ H P ks H2 { P1 with F := some D } ks1 { { s with left := l } with fa := s.fa.map fun d => d.wri i o }
      rw [hd]
      exact c1.trans (hP1.fastC eD rfl f2 h3 (Gw.refl _ _))
theorem ok_syncF (HP : ProgOk P file) (T : Gx K mg) (hf : file = T.file) : FnOk P w K mg base (L2N.CX P w) 5 T.f_Pair__sync_fast T.fd_Pair__sync_fast ["self"] (spSyncF (clT T) T.C_PowerFailed) := by
  have G_Disk_sync : FnOk P w K mg base CX0 1 T.f_Disk_sync T.fd_Disk_sync ["self"] (spSync T.C_Disk) := ok_sync T
  have G_Pair__begin_step := ok_step (w := w) (base := base) HP T hf
  refine FunOkC T.F_Pair__sync_fast sc_Pair__sync_fast (fun vs H Q E h => ?_) (fun cdv A outer s H vs Q E hr h => ?_)
  · obtain ⟨P, ks, s, rfl, _⟩ := h
    rfl
  · obtain ⟨P, ks, s, rfl, hP, k⟩ := h
    refine ⟨_, (pss_one (ps_if (pt_cmpR op_notN (pe_fld (pv 0) rfl) pe_non (nomark _)) (pss_cons (ps_expr (pe_meth0 (pv 0) T.cl_Pair T.m_Pair__begin_step G_Pair__begin_step (hr.mono (by first | decide | omega)) (b_Pair__begin_step T) .nil (L2N.passes_call (L2N.takes_of rfl rfl rfl rfl) (fun _ _ _ _ h => h))))
      (pss_one (ps_expr (pe_meth0 (pe_fld (pv 0) rfl) T.cl_Disk T.m_Disk_sync G_Disk_sync (hr.mono (by first | decide | omega)) (b_Disk_sync T) .nil pass0)))) pss_nil)), ?_⟩
    refine ⟨_, rfl, P.p, T.C_Pair, P.px, _, _, rfl, hP.ins, T.cl_Pair, T.n_Pair__fast, pF_get4, rfl, _, rfl, ?_⟩
    cases hd : s.fa with
    | none =>
      unfold yFast at k
      rw [hd] at k
      rw [fv_none (hP.nofast hd)]
      exact iteF (k H P ks .non (Ch.refl hP) rfl)
    | some d =>
      unfold yFast at k
      rw [hd] at k
      obtain ⟨D0, eD0, _⟩ := hP.fast hd
      rw [fv_some eD0]
      refine iteT ⟨_, rfl, P.p, P.px, _, rfl, hP.ins, pF_no__begin_step, P, ks, s, rfl, hP, Go.seq k fun u s1 e1 k1 H1 P1 ks1 v1 c1 _ => ?_⟩
      obtain ⟨l, rfl⟩ := stepS_ok e1
      have hP1 := c1.at_
      rw [← c1.p]
      obtain ⟨D, eD, hR⟩ := hP1.fast (d := d) hd
      obtain ⟨cs, ls, ps, hD, a1, a2, a3, a4, a5⟩ := hR
      refine ⟨_, rfl, P1.p, T.C_Pair, P1.px, _, _, rfl, hP1.ins, T.cl_Pair, T.n_Pair__fast, pF_get4, D.p, D.dx, _, fv_some eD, hD.ins, dF_no_sync, D, cs, ls, ps, d.r, d.w, d.s, by rw [fv_some eD]; rfl, hD, fun D' H2 ep g2 f2 h2 => ?_⟩
      have q : ∀ v a, RV H1 v a → RV H2 v a := fun v a r => stRV _ H1 H2 v a r f2 hD.notup
      have h3 : DiskR T.C_Disk RV H2 D' d.syn := ⟨cs, cs, [], h2, a1.imp q, a1.imp q, ⟨rfl, fun i v a e => by simp at e⟩, rfl, Nat.zero_le _⟩
      refine k1 H2 { P1 with F := some D' } ks1 .non ?_ rfl
      show Ch _ H P ks H2 { P1 with F := some D' } ks1 { { s with left := l } with fa := s.fa.map DS.syn }
      rw [hd]
      exact c1.trans (hP1.fastC eD ep f2 h3 g2)
end
/-! ### a record is written, a record is cleaned -/
theorem PairAt.memC {c : Cl} {H H' : Hp} {P : Pp} {ks : List Kp} {s : PS} (h : PairAt c H P ks s) {ks' : List Kp} {kn' : List Kn} (f : Fr (P.M.own ks) H H') (m : MemAt c.cM c.cK H' P.M s.ms ks') (e : kns ks' = kn') (g : ∀ b ∈ P.M.own ks', b ∈ P.M.own ks ∨ H b = none) : Ch c H P ks H' P ks' { s with kn := kn' } := by
  refine ⟨rfl, f.mono fun b hb => own_M hb, fun b hb => ?_, h.setM (M := P.M) (ks' := ks') (s' := { s with kn := kn' }) ⟨rfl, rfl, rfl, rfl, rfl⟩ rfl rfl e.symm rfl (f.mono fun b hb => List.mem_cons_of_mem _ hb) (f _ _ h.ins h.pM) m g⟩
  rcases own_cases hb with y | y | y | y
  · exact .inl (by rw [show b = P.p from y]; exact own_p)
  · exact .inl (own_S y)
  · exact .inl (own_F y)
  · exact (g b y).imp own_M id
/-- how the fast disk may change in j steps -/
def Fst (j : Nat) : Option (DS (Option Rc)) → Option (DS (Option Rc)) → Prop
  | none, none => True
  | some d, some d' => d'.cs.length = d.cs.length ∧ d'.w ≤ d.w + j
  | _, _ => False
theorem Fst.rfl' {j : Nat} : ∀ {a : Option (DS (Option Rc))}, Fst j a a
  | none => trivial
  | some _ => ⟨rfl, Nat.le_add_right _ _⟩
theorem Fst.trans {i j : Nat} : ∀ {a b c : Option (DS (Option Rc))}, Fst i a b → Fst j b c → Fst (i + j) a c
  | none, none, none, _, _ => trivial
  | some _, some _, some _, h, g => ⟨g.1.trans h.1, by have := h.2; have := g.2; omega⟩
  | none, none, some _, _, g => g.elim
  | none, some _, _, h, _ => h.elim
  | some _, none, _, h, _ => h.elim
  | some _, some _, none, _, g => g.elim
theorem Fst.some' {j : Nat} {a b : Option (DS (Option Rc))} {d : DS (Option Rc)} (h : Fst j a b) (e : a = some d) : ∃ d', b = some d' ∧ d'.cs.length = d.cs.length ∧ d'.w ≤ d.w + j := by
  subst e
  cases b with
  | none => exact h.elim
  | some d' => exact ⟨d', rfl, h⟩
theorem Fst.wri {a : Option (DS (Option Rc))} {i : Nat} {o : Option Rc} : Fst 1 a (a.map fun d => d.wri i o) := by
  cases a with
  | none => trivial
  | some d => exact ⟨List.length_set, Nat.le_refl _⟩
theorem Fst.syn {a : Option (DS (Option Rc))} : Fst 1 a (a.map DS.syn) := by
  cases a with
  | none => trivial
  | some d => exact ⟨rfl, Nat.le_succ _⟩
/-- what j steps of the disks change -/
structure Stp (j : Nat) (s s1 : PS) : Prop where
  ex : ∃ l sl fa, s1 = { s with left := l, sl := sl, fa := fa }
  sc : s1.sl.cs.length = s.sl.cs.length
  sw : s1.sl.w ≤ s.sl.w + j
  fs : Fst j s.fa s1.fa
theorem Stp.refl (s : PS) : Stp 0 s s := ⟨⟨_, _, _, rfl⟩, rfl, Nat.le_refl _, Fst.rfl'⟩
theorem Stp.trans {i j : Nat} {s a b : PS} (h : Stp i s a) (g : Stp j a b) : Stp (i + j) s b := by
  obtain ⟨l1, s1, f1, e1⟩ := h.ex
  obtain ⟨l2, s2, f2, e2⟩ := g.ex
  refine ⟨⟨l2, s2, f2, by rw [e2, e1]⟩, g.sc.trans h.sc, ?_, h.fs.trans g.fs⟩
  have := h.sw
  have := g.sw
  omega
theorem Stp.kn {j : Nat} {s a : PS} (h : Stp j s a) : a.kn = s.kn ∧ a.ms = s.ms ∧ a.rcs = s.rcs ∧ a.reqs = s.reqs ∧ a.nb = s.nb ∧ a.wr = s.wr ∧ a.bd = s.bd := by
  obtain ⟨l1, s1, f1, e1⟩ := h.ex
  rw [e1]
  exact ⟨rfl, rfl, rfl, rfl, rfl, rfl, rfl⟩
theorem wSlow_ok {rc : Rc} {s s1 : PS} {u : Unit} (h : wSlow rc s = .ok u s1) : Stp 1 s s1 := by
  unfold wSlow at h
  cases e : stepS s with
  | pf b a => rw [e] at h; cases h
  | ok v a =>
    obtain ⟨l, rfl⟩ := stepS_ok e
    rw [e] at h
    cases h
    exact ⟨⟨_, _, _, rfl⟩, List.length_set, Nat.le_refl _, Fst.rfl'⟩
theorem ySlow_ok {s s1 : PS} {u : Unit} (h : ySlow s = .ok u s1) : Stp 1 s s1 := by
  unfold ySlow at h
  cases e : stepS s with
  | pf b a => rw [e] at h; cases h
  | ok v a =>
    obtain ⟨l, rfl⟩ := stepS_ok e
    rw [e] at h
    cases h
    exact ⟨⟨_, _, _, rfl⟩, rfl, Nat.le_succ _, Fst.rfl'⟩
theorem wFast_ok {i : Nat} {o : Option Rc} {s s1 : PS} {u : Unit} (h : wFast i o s = .ok u s1) : Stp 1 s s1 := by
  unfold wFast at h
  cases e : stepS s with
  | pf b a => rw [e] at h; cases h
  | ok v a =>
    obtain ⟨l, rfl⟩ := stepS_ok e
    rw [e] at h
    cases h
    exact ⟨⟨_, _, _, rfl⟩, rfl, Nat.le_succ _, Fst.wri⟩
theorem yFast_ok {s s1 : PS} {u : Unit} (h : yFast s = .ok u s1) : Stp 1 s s1 := by
  unfold yFast at h
  split at h
  · cases h
    exact ⟨⟨_, _, _, rfl⟩, rfl, Nat.le_succ _, Fst.rfl'⟩
  · cases e : stepS s with
    | pf b a => rw [e] at h; cases h
    | ok v a =>
      obtain ⟨l, rfl⟩ := stepS_ok e
      rw [e] at h
      cases h
      exact ⟨⟨_, _, _, rfl⟩, rfl, Nat.le_succ _, Fst.syn⟩
def wRec (i : Nat) (rc : Rc) (s : PS) : Rs Unit := (wFast i (some rc) s).bind fun _ s1 => .ok () { s1 with kn := learnN i rc ((s1.reqs : Int) - 1) s1.kn }
def spWriteR (c : Cl) (X : Addr) : Sp := fun vs H Q E => ∃ (P : Pp) (ks : List Kp) (s : PS) (d : DS (Option Rc)) (i : Nat) (t : Addr) (rc : Rc), vs = [.ref P.p, .int (i : Int), .ref t] ∧ PairAt c H P ks s ∧ s.fa = some d ∧ H t = some (.tup rc.vs) ∧ i < d.cs.length ∧ i < s.ms ∧ d.w ≤ 900 ∧ Go c X H P ks Q E RU (wRec i rc s)
def cW (i : Nat) (rc : Rc) (z : Str) (s : PS) : Rs Unit := if V.str z = V.str "slow" then wSlow rc s else if V.str z = V.str "sync slow" then ySlow s else if V.str z = V.str "mark" then wFast i (some rc.cln) s else yFast s
theorem cW_ok {i : Nat} {rc : Rc} {z : Str} {s s1 : PS} {u : Unit} (h : cW i rc z s = .ok u s1) : Stp 1 s s1 := by
  unfold cW at h
  split at h
  · exact wSlow_ok h
  · split at h
    · exact ySlow_ok h
    · split at h
      · exact wFast_ok h
      · exact yFast_ok h
def cAll (i : Nat) (rc : Rc) : List Str → PS → Rs Unit
  | [], s => .ok () s
  | z :: zs, s => (cW i rc z s).bind fun _ s1 => cAll i rc zs s1
def cSlot (i : Nat) (rc : Rc) (zs : List Str) (s : PS) : Rs Unit := (cAll i rc zs s).bind fun _ s1 => .ok () { s1 with kn := cleanN i s1.kn }
theorem Rs.assoc {α β γ : Type} (r : Rs α) (f : α → PS → Rs β) (g : β → PS → Rs γ) : (r.bind f).bind g = r.bind fun a s => (f a s).bind g := by
  cases r <;> rfl
def spCleanSl (c : Cl) (X : Addr) : Sp := fun vs H Q E => ∃ (P : Pp) (ks : List Kp) (s : PS) (d : DS (Option Rc)) (i : Nat) (q : Kn), vs = [.ref P.p, .int (i : Int)] ∧ PairAt c H P ks s ∧ atN s.kn i = some q ∧ q.rc.blk < s.sl.cs.length ∧ s.fa = some d ∧ i < d.cs.length ∧ s.sl.w ≤ 890 ∧ d.w ≤ 890 ∧ (s.rcs.getD 3 []).length ≤ 8 ∧
  Go c X H P ks Q E RU (cSlot i q.rc (s.rcs.getD 3 []) s)
section
variable {P : Program} {w : World} {K : PySem.W.Frag} {mg : Str → Option Value} {base : Heap} {file : Str}
theorem ok_writeR (HP : ProgOk P file) (T : Gx K mg) (hf : file = T.file) : FnOk P w K mg base (L2N.CX P w) 6 T.f_Pair__write_record T.fd_Pair__write_record ["self", "slot", "record"] (spWriteR (clT T) T.C_PowerFailed) := by
  have G_Memory_learn : FnOk P w K mg base CX0 3 T.f_Memory_learn T.fd_Memory_learn ["self", "slot", "record", "request"] (spLearn T.C_Memory T.C_KnownSlot) := ok_learn T
  have G_Pair__write_fast := ok_writeF (w := w) (base := base) HP T hf
  refine FunOkC T.F_Pair__write_record sc_Pair__write_record (fun vs H Q E h => ?_) (fun cdv A outer s H vs Q E hr h => ?_)
  · obtain ⟨P, ks, s, d, i, t, rc, rfl, _⟩ := h
    rfl
  · obtain ⟨P, ks, s, d, i, t, rc, rfl, hP, hd, ht, hi, hn, hw, k⟩ := h
    refine ⟨_, (pss_cons (ps_expr (pe_meth (pv 0) T.cl_Pair T.m_Pair__write_fast G_Pair__write_fast (hr.mono (by first | decide | omega)) (b_Pair__write_fast T) .nil (L2N.passes_call (L2N.takes_of rfl rfl rfl rfl) (fun _ _ _ _ h => h)) (pa_cons (pv 1) (pa_cons (pv 2) pa_nil))))
      (pss_one (ps_expr (pe_meth (pe_fld (pv 0) rfl) T.cl_Memory T.m_Memory_learn G_Memory_learn (hr.mono (by first | decide | omega)) (b_Memory_learn T) .nil pass0 (pa_cons (pv 1) (pa_cons (pv 2) (pa_cons (pe_op op_sub (pe_fld (pv 0) rfl) pe_int) pa_nil))))))), ?_⟩
    refine ⟨_, rfl, P.p, P.px, _, rfl, hP.ins, pF_no__write_fast, _, rfl, _, rfl, P, ks, s, d, i, .ref t, some rc, rfl, hP, hd, ⟨t, rfl, ht⟩, hi, hw, Go.seq k fun u s1 e1 k1 H1 P1 ks1 v1 c1 _ => ?_⟩
    have st := wFast_ok e1
    obtain ⟨q1, q2, _, _⟩ := st.kn
    have hP1 := c1.at_
    have ht1 := c1.fr _ _ ht (fun z => hP.notup _ z _ ht)
    rw [← c1.p]
    refine ⟨_, rfl, P1.p, T.C_Pair, P1.px, _, _, rfl, hP1.ins, T.cl_Pair, T.n_Pair__memory, pF_get5, P1.M.m, P1.M.x, _, rfl, hP1.mem.ins, mF_no_learn, _, rfl, _, rfl, _, rfl, P1.p, T.C_Pair, P1.px, _, _, rfl, hP1.ins, T.cl_Pair, T.n_Pair__requests, pF_get7, _, _, rfl, rfl, P1.M, s1.ms, i, t, rc, _, ks1, rfl, hP1.mem, (by rw [q2]; exact hn), ht1, fun H2 ks2 f2 m2 e2 g2 => ?_⟩
    rw [hP1.kno] at e2
    exact k1 H2 P1 ks2 .non (c1.trans (hP1.memC f2 m2 e2 g2)) rfl
theorem ok_cleanSl (HP : ProgOk P file) (T : Gx K mg) (hf : file = T.file) : FnOk P w K mg base (L2N.CX P w) 6 T.f_Pair__clean_slot T.fd_Pair__clean_slot ["self", "slot"] (spCleanSl (clT T) T.C_PowerFailed) := by
  have G_Memory_record_in : FnOk P w K mg base CX0 1 T.f_Memory_record_in T.fd_Memory_record_in ["self", "slot"] (spRecIn T.C_Memory T.C_KnownSlot) := ok_recIn T
  have G_Recipes_clean : FnOk P w K mg base CX0 1 T.f_Recipes_clean T.fd_Recipes_clean ["self"] (spGet T.C_Recipes "_clean") := ok_qclean T
  have G_cleaned : FnOk P w K mg base CX0 1 T.f_cleaned T.fd_cleaned ["record"] spCleaned := ok_cleaned T
  have G_Memory_learn_clean : FnOk P w K mg base CX0 2 T.f_Memory_learn_clean T.fd_Memory_learn_clean ["self", "slot"] (spLClean T.C_Memory T.C_KnownSlot) := ok_lClean T
  have G_Pair__write_slow := ok_writeS (w := w) (base := base) HP T hf
  have G_Pair__sync_slow := ok_syncS (w := w) (base := base) HP T hf
  have G_Pair__write_fast := ok_writeF (w := w) (base := base) HP T hf
  have G_Pair__sync_fast := ok_syncF (w := w) (base := base) HP T hf
  refine FunOkC T.F_Pair__clean_slot sc_Pair__clean_slot (fun vs H Q E h => ?_) (fun cdv A outer s H vs Q E hr h => ?_)
  · obtain ⟨P, ks, s, d, i, q, rfl, _⟩ := h
    rfl
  · obtain ⟨P, ks, s, fd, i, q, rfl, hP, hq, hb, hd, hi, h1, h2, hz, k⟩ := h
    obtain ⟨dx, a, b, c, d, za, zb, zc, zd, ez, e0, ea, eb, ec, ed, _⟩ := hP.rcp
    have e3 : s.rcs.getD 3 [] = zd := by rw [ez]; rfl
    rw [e3] at hz k
    have hqk := hq
    rw [← hP.kno, atN_kns] at hqk
    obtain ⟨qp, eqp, eqn⟩ := Option.map_eq_some_iff.mp hqk
    have hrc : qp.rc = q.rc := by rw [← eqn]
    have ht := hP.mem.rcd qp (atSlot_mem eqp).1
    rw [hrc] at ht
    refine ⟨_, (pss_cons (ps_set (i := 2) sc_Pair__clean_slot.nd rfl (.inl rfl) (pe_meth (pe_fld (pv 0) rfl) T.cl_Memory T.m_Memory_record_in G_Memory_record_in (hr.mono (by first | decide | omega)) (b_Memory_record_in T) .nil pass0 (pa_cons (pv 1) pa_nil)))
      (pss_cons (ps_for PassesOwn.leaving rfl (pi_tup (pe_prop (pe_fld (pv 0) rfl) T.cl_Recipes T.P_Recipes_clean G_Recipes_clean (hr.mono (by first | decide | omega)) (b_Recipes_clean T) .nil pass0 rfl)) (pg_name (i := 3) sc_Pair__clean_slot.nd rfl (.inl rfl)) (pss_one (ps_if (pt_cmpR op_eq (pv 3) pe_str (nomark _)) (pss_one (ps_expr (pe_meth (pv 0) T.cl_Pair T.m_Pair__write_slow G_Pair__write_slow (hr.mono (by first | decide | omega)) (b_Pair__write_slow T) .nil (L2N.passes_call (L2N.takes_of rfl rfl rfl rfl) (fun _ _ _ _ h => h)) (pa_cons (pv 2) pa_nil)))) (pss_one (ps_if (pt_cmpR op_eq (pv 3) pe_str (nomark _)) (pss_one (ps_expr (pe_meth0 (pv 0) T.cl_Pair T.m_Pair__sync_slow G_Pair__sync_slow (hr.mono (by first | decide | omega)) (b_Pair__sync_slow T) .nil (L2N.passes_call (L2N.takes_of rfl rfl rfl rfl) (fun _ _ _ _ h => h))))) (pss_one (ps_if (pt_cmpR op_eq (pv 3) pe_str (nomark _)) (pss_one (ps_expr (pe_meth (pv 0) T.cl_Pair T.m_Pair__write_fast G_Pair__write_fast (hr.mono (by first | decide | omega)) (b_Pair__write_fast T) .nil (L2N.passes_call (L2N.takes_of rfl rfl rfl rfl) (fun _ _ _ _ h => h)) (pa_cons (pv 1) (pa_cons (pe_call G_cleaned (hr.mono (by first | decide | omega)) (by rfl) T.g_cleaned T.F_cleaned.kp (b_cleaned T) .nil pass0 (pa_cons (pv 2) pa_nil)) pa_nil))))) (pss_one (ps_expr (pe_meth0 (pv 0) T.cl_Pair T.m_Pair__sync_fast G_Pair__sync_fast (hr.mono (by first | decide | omega)) (b_Pair__sync_fast T) .nil (L2N.passes_call (L2N.takes_of rfl rfl rfl rfl) (fun _ _ _ _ h => h))))))))))))
      (pss_one (ps_expr (pe_meth (pe_fld (pv 0) rfl) T.cl_Memory T.m_Memory_learn_clean G_Memory_learn_clean (hr.mono (by first | decide | omega)) (b_Memory_learn_clean T) .nil pass0 (pa_cons (pv 1) pa_nil)))))), ?_⟩
    refine ⟨_, rfl, P.p, T.C_Pair, P.px, _, _, rfl, hP.ins, T.cl_Pair, T.n_Pair__memory, pF_get5, P.M.m, P.M.x, _, rfl, hP.mem.ins, mF_no_record_in, _, rfl, P.M, s.ms, i, ks, qp, rfl, hP.mem, eqp, ?_⟩
    refine ⟨_, rfl, P.p, T.C_Pair, P.px, _, _, rfl, hP.ins, T.cl_Pair, T.n_Pair__recipes, pF_get2, P.re, dx, _, rfl, e0, P.re, dx, _, _, rfl, e0, qF_get3, d, rfl, ⟨_, SqT.of ed⟩, ?_⟩
    refine for_it (walk_tup (K := K) (a := d) (xs := sV zd)) (fun j σ' H' => ∃ (P' : Pp) (ks' : List Kp) (s1 : PS) (v3 : Option V), σ' = [some (.ref P.p), some (.int (i : Int)), some (.ref qp.kt), v3] ∧ Ch (clT T) H P ks H' P' ks' s1 ∧ Stp j s s1 ∧ Go (clT T) T.C_PowerFailed H P ks Q E RU (cSlot i q.rc (zd.drop j) s1))
      ⟨P, ks, s, none, rfl, Ch.refl hP, Stp.refl s, k⟩ (fun j σ' H' _ h => by
        obtain ⟨_, _, _, _, _, ch, _⟩ := h
        exact SqT.of (ch.fr _ _ ed (fun z => hP.notup _ z _ ed))) ?_ ?_
    · rintro j y σ1 H1 H2 hj ⟨P', ks', s1, v3, rfl, ch, st, k1⟩ ⟨rfl, ey⟩
      obtain ⟨z, rfl, hz1⟩ := sV_at ey
      have hjl : j < zd.length := lt_of_at hz1
      have ezj : zd[j] = z := by
        rw [List.getElem?_eq_getElem hjl] at hz1
        exact Option.some.inj hz1
      rw [List.drop_eq_getElem_cons hjl, ezj] at k1
      unfold cSlot at k1
      rw [show cAll i q.rc (z :: zd.drop (j + 1)) s1 = (cW i q.rc z s1).bind fun _ s2 => cAll i q.rc (zd.drop (j + 1)) s2 from rfl, Rs.assoc] at k1
      have hP1 := ch.at_
      have ht1 := ch.fr _ _ ht (fun z => hP.notup _ z _ ht)
      obtain ⟨fd1, hd1, l2, l4⟩ := st.fs.some' hd
      have l1 := st.sc
      have l3 := st.sw
      have fin : ∀ (r : Rs Unit), cW i q.rc z s1 = r → Go (clT T) T.C_PowerFailed H P ks Q E RU (r.bind fun _ s2 => (cAll i q.rc (zd.drop (j + 1)) s2).bind fun _ s3 => .ok () { s3 with kn := cleanN i s3.kn }) → ∀ H3 : Hp, ∀ P2 : Pp, ∀ ks2 : List Kp, Ch (clT T) H P ks H3 P2 ks2 s1 → ∀ v : Option V, Go (clT T) T.C_PowerFailed H3 P2 ks2 (fun _ H4 => ∃ (P' : Pp) (ks' : List Kp) (s1 : PS) (v3 : Option V), [some (.ref P.p), some (.int (i : Int)), some (.ref qp.kt), v] = [some (.ref P.p), some (.int (i : Int)), some (.ref qp.kt), v3] ∧ Ch (clT T) H P ks H4 P' ks' s1 ∧ Stp (j + 1) s s1 ∧ Go (clT T) T.C_PowerFailed H P ks Q E RU (cSlot i q.rc (zd.drop (j + 1)) s1)) E RU r := fun r er kr H3 P2 ks2 c2 v => by
        cases r with
        | ok a s2 => exact fun H4 P4 ks4 _ c4 _ => ⟨P4, ks4, s2, v, rfl, c2.trans c4, st.trans (cW_ok er), kr⟩
        | pf b s2 => exact fun H4 P4 ks4 dx4 c4 e4 => kr H4 P4 ks4 dx4 (c2.trans c4) e4
      have fin0 := fin _ rfl k1
      rw [← ch.p]
      rw [← ch.p] at fin0
      unfold cW at fin0
      refine ⟨_, rfl, rfl, _, rfl, iteB (fun e => ?_) fun e => ?_⟩
      · rw [if_pos (of_decide_eq_true e)] at fin0
        exact ⟨_, rfl, P'.p, P'.px, _, rfl, hP1.ins, pF_no__write_slow, _, rfl, P', ks', s1, qp.kt, q.rc, rfl, hP1, ht1, by omega, by omega, fin0 H2 P' ks' ch _⟩
      rw [if_neg (of_decide_eq_false e)] at fin0
      refine ⟨_, rfl, rfl, _, rfl, iteB (fun e => ?_) fun e => ?_⟩
      · rw [if_pos (of_decide_eq_true e)] at fin0
        exact ⟨_, rfl, P'.p, P'.px, _, rfl, hP1.ins, pF_no__sync_slow, P', ks', s1, rfl, hP1, fin0 H2 P' ks' ch _⟩
      rw [if_neg (of_decide_eq_false e)] at fin0
      refine ⟨_, rfl, rfl, _, rfl, iteB (fun e => ?_) fun e => ?_⟩
      · rw [if_pos (of_decide_eq_true e)] at fin0
        refine ⟨_, rfl, P'.p, P'.px, _, rfl, hP1.ins, pF_no__write_fast, _, rfl, _, rfl, qp.kt, q.rc, rfl, ht1, fun t2 ht2 => ?_⟩
        have ft : Fr [] H2 (upd H2 t2 (.tup q.rc.cln.vs)) := Fr.new ht2
        exact ⟨P', ks', s1, fd1, i, .ref t2, some q.rc.cln, rfl, hP1.keep0 ft, hd1, ⟨t2, rfl, upd_same⟩, by omega, by omega, fin0 _ P' ks' (ch.keep0 ft) _⟩
      · rw [if_neg (of_decide_eq_false e)] at fin0
        exact ⟨_, rfl, P'.p, P'.px, _, rfl, hP1.ins, pF_no__sync_fast, P', ks', s1, rfl, hP1, fin0 H2 P' ks' ch _⟩
    · rintro σ1 H1 ⟨P', ks', s1, v3, rfl, ch, st, k1⟩
      have el : (sV zd).length = zd.length := sV_len zd
      rw [el, List.drop_length] at k1
      obtain ⟨q1, q2, _⟩ := st.kn
      have hP1 := ch.at_
      rw [← ch.p]
      have hk' : (atN (kns ks') i).isSome = true := by
        rw [hP1.kno, q1, hq]
        rfl
      refine ⟨_, rfl, P'.p, T.C_Pair, P'.px, _, _, rfl, hP1.ins, T.cl_Pair, T.n_Pair__memory, pF_get5, P'.M.m, P'.M.x, _, rfl, hP1.mem.ins, mF_no_learn_clean, _, rfl, P'.M, _, i, ks', rfl, hP1.mem, hk', fun H2 ks2 f2 m2 e2 g2 => ?_⟩
      rw [hP1.kno] at e2
      exact k1 H2 P' ks2 .non (ch.trans (hP1.memC f2 m2 e2 g2)) rfl
end
/-! ### which slot is taken -/
theorem min_memG (p : PySem.W.Tup Int × Int) (ps : List (PySem.W.Tup Int × Int)) : PySem.W.minOf p ps ∈ p :: ps := by
  induction ps generalizing p with
  | nil => exact List.mem_cons_self
  | cons r ps ih =>
    show PySem.W.minOf (if PySem.W.DatumOrd.lt r p = true then r else p) ps ∈ p :: r :: ps
    rcases List.mem_cons.mp (ih (if PySem.W.DatumOrd.lt r p = true then r else p)) with h | h
    · rw [h]
      split
      · exact List.mem_cons_of_mem _ List.mem_cons_self
      · exact List.mem_cons_self
    · exact List.mem_cons_of_mem _ (List.mem_cons_of_mem _ h)
def lexB (a b : Int × Int) : Bool := decide (a.1 < b.1) || (decide (a.1 = b.1) && decide (a.2 ≤ b.2))
theorem lexB_iff {a b : Int × Int} : lexB a b = true ↔ Lex a b := by
  unfold lexB Lex
  rw [Bool.or_eq_true, Bool.and_eq_true, decide_eq_true_eq, decide_eq_true_eq, decide_eq_true_eq]
theorem lex_total (a b : Int × Int) : Lex a b ∨ Lex b a := by
  unfold Lex
  omega
theorem lex_trans {a b c : Int × Int} (h : Lex a b) (g : Lex b c) : Lex a c := by
  unfold Lex at *
  omega
theorem lex_anti {a b : Int × Int} (h : Lex a b) (g : Lex b a) : a = b := by
  unfold Lex at *
  exact Prod.ext (by omega) (by omega)
/-- the slots with dirty records, in the order of their turns -/
def dirtyN (kn : List Kn) : List Nat := ((dirtyP kn).mergeSort lexB).map fun p => p.2.toNat
theorem dirtyP_nat {kn : List Kn} {p : Int × Int} (h : p ∈ dirtyP kn) : ∃ q ∈ kn, q.rc.dirty = true ∧ p = ((q.rc.turn : Int), (q.slot : Int)) := by
  unfold dirtyP at h
  obtain ⟨q, hq, rfl⟩ := List.mem_map.mp h
  obtain ⟨h1, h2⟩ := List.mem_filter.mp hq
  exact ⟨q, List.mem_mergeSort.mp h1, h2, rfl⟩
theorem dirtyL_eq {kn : List Kn} {ps : List (Int × Int)} (h : DirtyL kn ps) : ps.map Prod.snd = (dirtyN kn).map fun n : Nat => (n : Int) := by
  have e : ps = (dirtyP kn).mergeSort lexB := by
    refine List.Perm.eq_of_pairwise (le := Lex) (fun a b _ _ h1 h2 => lex_anti h1 h2) h.2 ?_ (h.1.trans (List.mergeSort_perm _ _).symm)
    refine (List.pairwise_mergeSort (le := lexB) (fun a b c h1 h2 => lexB_iff.mpr (lex_trans (lexB_iff.mp h1) (lexB_iff.mp h2))) (fun a b => ?_) _).imp fun h => lexB_iff.mp h
    rw [Bool.or_eq_true]
    exact (lex_total a b).imp lexB_iff.mpr lexB_iff.mpr
  unfold dirtyN
  rw [e, List.map_map]
  refine List.map_congr_left fun p hp => ?_
  obtain ⟨q, _, _, rfl⟩ := dirtyP_nat (List.mem_mergeSort.mp hp)
  rfl
theorem dirtyN_mem {kn : List Kn} {i : Nat} (h : i ∈ dirtyN kn) : ∃ q ∈ kn, q.rc.dirty = true ∧ q.slot = i := by
  unfold dirtyN at h
  obtain ⟨p, hp, rfl⟩ := List.mem_map.mp h
  obtain ⟨q, h1, h2, rfl⟩ := dirtyP_nat (List.mem_mergeSort.mp hp)
  exact ⟨q, h1, h2, rfl⟩
theorem dirtyN_len (kn : List Kn) : (dirtyN kn).length ≤ kn.length := by
  unfold dirtyN dirtyP
  rw [List.length_map, List.length_mergeSort, List.length_map]
  refine Nat.le_trans (List.length_filter_le _ _) ?_
  unfold sortN
  rw [List.length_mergeSort]
  exact Nat.le_refl _
theorem dirtyN_has {kn : List Kn} {q : Kn} (h : q ∈ kn) (hd : q.rc.dirty = true) : q.slot ∈ dirtyN kn := by
  unfold dirtyN
  refine List.mem_map.mpr ⟨((q.rc.turn : Int), (q.slot : Int)), List.mem_mergeSort.mpr ?_, rfl⟩
  unfold dirtyP
  exact List.mem_map.mpr ⟨q, List.mem_filter.mpr ⟨List.mem_mergeSort.mpr h, hd⟩, rfl⟩
theorem atN_of {kn : List Kn} {i : Nat} (h : (atN kn i).isSome = true) : ∃ q, atN kn i = some q ∧ q ∈ kn ∧ q.slot = i := by
  obtain ⟨q, e⟩ := Option.isSome_iff_exists.mp h
  exact ⟨q, e, List.mem_of_find?_eq_some e, of_decide_eq_true (List.find?_some (p := fun (p : Kn) => decide (p.slot = i)) e)⟩
theorem atN_mem {kn : List Kn} {q : Kn} (h : q ∈ kn) : (atN kn q.slot).isSome = true := by
  unfold atN
  rw [List.find?_isSome]
  exact ⟨q, h, by simp⟩
/-- the slot that a choice takes of those that no dirty record holds -/
def takeO (n : Nat) (ch : Str) (kn : List Kn) : Option Nat := match (List.range n).find? (fun s => !(atN kn s).isSome) with
  | some s => some s
  | none => match ranksN ch kn with
    | [] => none
    | p :: ps => some (PySem.W.minOf p ps).2.toNat
theorem takeN_eq (n : Nat) (ch : Str) (kn : List Kn) : takeN n ch kn = slV (takeO n ch kn) := by
  unfold takeN takeO
  cases (List.range n).find? (fun s => !(atN kn s).isSome) with
  | some s => rfl
  | none =>
    cases e : ranksN ch kn with
    | nil => rfl
    | cons p ps =>
      have hm := min_memG p ps
      rw [← e] at hm
      unfold ranksN at hm
      obtain ⟨q, _, eq⟩ := List.mem_map.mp hm
      show V.int (PySem.W.minOf p ps).2 = V.int (((PySem.W.minOf p ps).2.toNat : Nat) : Int)
      rw [← eq]
      rfl
theorem takeO_lt {n : Nat} {ch : Str} {kn : List Kn} {i : Nat} (hk : ∀ q ∈ kn, q.slot < n) (h : takeO n ch kn = some i) : i < n := by
  unfold takeO at h
  cases e1 : (List.range n).find? (fun s => !(atN kn s).isSome) with
  | some s =>
    rw [e1] at h
    cases h
    exact List.mem_range.mp (List.mem_of_find?_eq_some e1)
  | none =>
    rw [e1] at h
    cases e : ranksN ch kn with
    | nil => rw [e] at h; cases h
    | cons p ps =>
      rw [e] at h
      have hm := min_memG p ps
      rw [← e] at hm
      unfold ranksN at hm
      obtain ⟨q, hq, eq⟩ := List.mem_map.mp hm
      cases h
      rw [← eq]
      exact hk q (List.mem_filter.mp hq).1
theorem takeO_none {n : Nat} {ch : Str} {kn : List Kn} (hn : 1 ≤ n) (h : takeO n ch kn = none) : ∃ i r, dirtyN kn = i :: r := by
  unfold takeO at h
  cases e1 : (List.range n).find? (fun s => !(atN kn s).isSome) with
  | some s => rw [e1] at h; cases h
  | none =>
    rw [e1] at h
    cases e : ranksN ch kn with
    | cons p ps => rw [e] at h; cases h
    | nil =>
      have h0 := List.find?_eq_none.mp e1 0 (List.mem_range.mpr hn)
      obtain ⟨q, _, hq, _⟩ := atN_of (kn := kn) (i := 0) (Option.isSome_iff_ne_none.mpr (by simpa using h0))
      have hd : q.rc.dirty = true := by
        cases ed : q.rc.dirty with
        | true => rfl
        | false =>
          have : (rankN ch q, (q.slot : Int)) ∈ ranksN ch kn := List.mem_map.mpr ⟨q, List.mem_filter.mpr ⟨hq, by rw [ed]; rfl⟩, rfl⟩
          rw [e] at this
          cases this
      have := dirtyN_has hq hd
      cases ed : dirtyN kn with
      | nil => rw [ed] at this; cases this
      | cons i r => exact ⟨i, r, rfl⟩
/-- what holds of a pair's state at all times -/
structure WF (s : PS) : Prop where
  sl : s.sl.cs.length = s.nb
  fa : ∀ d, s.fa = some d → d.cs.length = s.ms
  some1 : ∀ d, s.fa = some d → 1 ≤ s.ms
  few : s.ms ≤ 8
  kn : ∀ q ∈ s.kn, q.rc.blk < s.nb ∧ q.slot < s.ms
  cl : (s.rcs.getD 3 []).length ≤ 8
  nof : s.fa = none → s.kn = []
/-- so many writes are behind the disks at most -/
def Lim (n : Nat) (s : PS) : Prop := s.sl.w ≤ n ∧ ∀ d, s.fa = some d → d.w ≤ n
theorem Lim.up {m n : Nat} {s : PS} (h : Lim m s) (e : m ≤ n) : Lim n s := ⟨Nat.le_trans h.1 e, fun d z => Nat.le_trans (h.2 d z) e⟩
theorem Stp.wf {j : Nat} {s a : PS} (h : Stp j s a) (g : WF s) : WF a := by
  obtain ⟨q1, q2, q3, _, q5, _, _⟩ := h.kn
  have hf := h.fs
  refine ⟨by rw [h.sc, q5]; exact g.sl, fun d e => ?_, fun d e => ?_, by rw [q2]; exact g.few, by rw [q1, q2, q5]; exact g.kn, by rw [q3]; exact g.cl, fun e => ?_⟩
  · cases e0 : s.fa with
    | none => rw [e0, e] at hf; exact hf.elim
    | some d0 =>
      rw [e0, e] at hf
      rw [q2, hf.1]
      exact g.fa d0 e0
  · cases e0 : s.fa with
    | none => rw [e0, e] at hf; exact hf.elim
    | some d0 => rw [q2]; exact g.some1 d0 e0
  · cases e0 : s.fa with
    | none => rw [q1]; exact g.nof e0
    | some d0 => rw [e0, e] at hf; exact hf.elim
theorem Stp.lim {j n : Nat} {s a : PS} (h : Stp j s a) (g : Lim n s) : Lim (n + j) a := by
  have hf := h.fs
  refine ⟨Nat.le_trans h.sw (Nat.add_le_add_right g.1 _), fun d e => ?_⟩
  cases e0 : s.fa with
  | none => rw [e0, e] at hf; exact hf.elim
  | some d0 =>
    rw [e0, e] at hf
    exact Nat.le_trans hf.2 (Nat.add_le_add_right (g.2 d0 e0) _)
theorem cAll_ok {i : Nat} {rc : Rc} : ∀ {zs : List Str} {s s1 : PS} {u : Unit}, cAll i rc zs s = .ok u s1 → Stp zs.length s s1
  | [], s, s1, u, h => by
    cases h
    exact Stp.refl s
  | z :: zs, s, s1, u, h => by
    have h' : (cW i rc z s).bind (fun _ s2 => cAll i rc zs s2) = .ok u s1 := h
    cases e : cW i rc z s with
    | pf b a => rw [e] at h'; cases h'
    | ok v a =>
      rw [e] at h'
      have := (cW_ok e).trans (cAll_ok (zs := zs) h')
      rw [List.length_cons, Nat.add_comm]
      exact this
/-- a known slot is cleaned -/
def clSl (i : Nat) (s : PS) : Rs Unit := match atN s.kn i with
  | none => .ok () s
  | some q => cSlot i q.rc (s.rcs.getD 3 []) s
theorem cleanN_facts {i : Nat} {kn : List Kn} {q : Kn} (h : q ∈ cleanN i kn) : ∃ p ∈ kn, q.slot = p.slot ∧ q.rc.blk = p.rc.blk := by
  unfold cleanN at h
  obtain ⟨p, hp, rfl⟩ := List.mem_map.mp h
  refine ⟨p, hp, ?_⟩
  split
  · exact ⟨rfl, rfl⟩
  · exact ⟨rfl, rfl⟩
/-- a change of what is known, and steps of the disks -/
structure Mv (j : Nat) (s s1 : PS) : Prop where
  ex : ∃ l sl fa kn, s1 = { s with left := l, sl := sl, fa := fa, kn := kn }
  wf : WF s → WF s1
  lim : ∀ n, Lim n s → Lim (n + j) s1
  fs : s1.fa.isSome = s.fa.isSome
theorem Fst.isSome {j : Nat} : ∀ {a b : Option (DS (Option Rc))}, Fst j a b → b.isSome = a.isSome
  | none, none, _ => rfl
  | some _, some _, _ => rfl
  | none, some _, h => h.elim
  | some _, none, h => h.elim
theorem Mv.up {i j : Nat} {s a : PS} (h : Mv i s a) (e : i ≤ j) : Mv j s a := ⟨h.ex, h.wf, fun n l => (h.lim n l).up (Nat.add_le_add_left e _), h.fs⟩
theorem Mv.trans {i j : Nat} {s a b : PS} (h : Mv i s a) (g : Mv j a b) : Mv (i + j) s b := by
  obtain ⟨l1, s1, f1, k1, e1⟩ := h.ex
  obtain ⟨l2, s2, f2, k2, e2⟩ := g.ex
  exact ⟨⟨l2, s2, f2, k2, by rw [e2, e1]⟩, fun w => g.wf (h.wf w), fun n l => by rw [← Nat.add_assoc]; exact g.lim _ (h.lim n l), g.fs.trans h.fs⟩
theorem Stp.mv {j : Nat} {s a : PS} (h : Stp j s a) : Mv j s a := by
  obtain ⟨l1, s1, f1, e1⟩ := h.ex
  exact ⟨⟨l1, s1, f1, s.kn, e1⟩, h.wf, fun n => h.lim, h.fs.isSome⟩
theorem Mv.kn {s : PS} {kn : List Kn} (h : ∀ q ∈ kn, ∃ p ∈ s.kn, q.slot = p.slot ∧ q.rc.blk = p.rc.blk) : Mv 0 s { s with kn := kn } :=
  ⟨⟨_, _, _, kn, rfl⟩, fun g => ⟨g.sl, g.fa, g.some1, g.few, fun q hq => by
    obtain ⟨p, hp, e1, e2⟩ := h q hq
    rw [e1, e2]
    exact g.kn p hp, g.cl, fun e => by
    cases kn with
    | nil => rfl
    | cons q r =>
      obtain ⟨p, hp, _⟩ := h q List.mem_cons_self
      rw [g.nof e] at hp
      cases hp⟩, fun n l => l, rfl⟩
theorem clSl_ok {i : Nat} {s s1 : PS} {u : Unit} (hc : (s.rcs.getD 3 []).length ≤ 8) (h : clSl i s = .ok u s1) : Mv 8 s s1 := by
  unfold clSl at h
  split at h
  · cases h
    exact ⟨⟨_, _, _, _, rfl⟩, id, fun n l => l.up (Nat.le_add_right _ _), rfl⟩
  · rename_i q eq
    unfold cSlot at h
    cases e : cAll i q.rc (s.rcs.getD 3 []) s with
    | pf b a => rw [e] at h; cases h
    | ok v a =>
      rw [e] at h
      cases h
      have m := (cAll_ok e).mv.trans (Mv.kn (s := a) (kn := cleanN i a.kn) fun q hq => cleanN_facts hq)
      exact m.up (by omega)
def takeR (s : PS) : Rs Nat := match takeO s.ms s.ch s.kn with
  | some i => .ok i { s with kn := forgetN i s.kn }
  | none => (clSl ((dirtyN s.kn).headD 0) s).bind fun _ s1 => .ok ((dirtyN s.kn).headD 0) { s1 with kn := forgetN ((dirtyN s.kn).headD 0) s1.kn }
def RI : Nat → Hp → Hp → V → Prop := fun i _ _ v => v = .int (i : Int)
def spTakeS (c : Cl) (X : Addr) : Sp := fun vs H Q E => ∃ (P : Pp) (ks : List Kp) (s : PS) (d : DS (Option Rc)), vs = [.ref P.p] ∧ PairAt c H P ks s ∧ WF s ∧ s.fa = some d ∧ Lim 880 s ∧ Go c X H P ks Q E RI (takeR s)
theorem forgetN_facts {i : Nat} {kn : List Kn} {q : Kn} (h : q ∈ forgetN i kn) : ∃ p ∈ kn, q.slot = p.slot ∧ q.rc.blk = p.rc.blk := ⟨q, (List.mem_filter.mp h).1, rfl, rfl⟩
section
variable {P : Program} {w : World} {K : PySem.W.Frag} {mg : Str → Option Value} {base : Heap} {file : Str}
theorem ok_takeS (HP : ProgOk P file) (T : Gx K mg) (hf : file = T.file) : FnOk P w K mg base (L2N.CX P w) 7 T.f_Pair__take_slot T.fd_Pair__take_slot ["self"] (spTakeS (clT T) T.C_PowerFailed) := by
  have G_Memory_slot_to_take : FnOk P w K mg base CX0 2 T.f_Memory_slot_to_take T.fd_Memory_slot_to_take ["self", "choice"] (spTake T.C_Memory T.C_KnownSlot) := ok_take T
  have G_Memory_forget : FnOk P w K mg base CX0 1 T.f_Memory_forget T.fd_Memory_forget ["self", "slot"] (spForgetM T.C_Memory T.C_KnownSlot) := ok_forgetM T
  have G_Rules_choice : FnOk P w K mg base CX0 1 T.f_Rules_choice T.fd_Rules_choice ["self"] (spGet T.C_Rules "_choice") := ok_choice T
  have G_Memory_dirty_slots : FnOk P w K mg base CX0 2 T.f_Memory_dirty_slots T.fd_Memory_dirty_slots ["self"] (spDirty T.C_Memory T.C_KnownSlot) := ok_dirty T
  have G_Pair__clean_slot := ok_cleanSl (w := w) (base := base) HP T hf
  refine FunOkC T.F_Pair__take_slot sc_Pair__take_slot (fun vs H Q E h => ?_) (fun cdv A outer s H vs Q E hr h => ?_)
  · obtain ⟨P, ks, s, d, rfl, _⟩ := h
    rfl
  · obtain ⟨P, ks, s, d, rfl, hP, hw, hd, hl, k⟩ := h
    refine ⟨_, (pss_cons (ps_set (i := 1) sc_Pair__take_slot.nd rfl (.inl rfl) (pe_meth (pe_fld (pv 0) rfl) T.cl_Memory T.m_Memory_slot_to_take G_Memory_slot_to_take (hr.mono (by first | decide | omega)) (b_Memory_slot_to_take T) .nil pass0 (pa_cons (pe_prop (pe_fld (pv 0) rfl) T.cl_Rules T.P_Rules_choice G_Rules_choice (hr.mono (by first | decide | omega)) (b_Rules_choice T) .nil pass0 rfl) pa_nil)))
      (pss_cons (ps_if (pt_cmpR op_isN (pv 1) pe_non (nomark _)) (pss_cons (ps_set (i := 1) sc_Pair__take_slot.nd rfl (.inl rfl) (pe_ix ix_list (pe_meth0 (pe_fld (pv 0) rfl) T.cl_Memory T.m_Memory_dirty_slots G_Memory_dirty_slots (hr.mono (by first | decide | omega)) (b_Memory_dirty_slots T) .nil pass0) pe_int (fun _ _ => rfl)))
      (pss_one (ps_expr (pe_meth (pv 0) T.cl_Pair T.m_Pair__clean_slot G_Pair__clean_slot (hr.mono (by first | decide | omega)) (b_Pair__clean_slot T) .nil (L2N.passes_call (L2N.takes_of rfl rfl rfl rfl) (fun _ _ _ _ h => h)) (pa_cons (pv 1) pa_nil))))) pss_nil)
      (pss_cons (ps_expr (pe_meth (pe_fld (pv 0) rfl) T.cl_Memory T.m_Memory_forget G_Memory_forget (hr.mono (by first | decide | omega)) (b_Memory_forget T) .nil pass0 (pa_cons (pv 1) pa_nil)))
      (pss_one (ps_ret (pv 1)))))), ?_⟩
    refine ⟨_, rfl, P.p, T.C_Pair, P.px, _, _, rfl, hP.ins, T.cl_Pair, T.n_Pair__memory, pF_get5, P.M.m, P.M.x, _, rfl, hP.mem.ins, mF_no_slot_to_take, _, rfl, P.p, T.C_Pair, P.px, _, _, rfl, hP.ins, T.cl_Pair, T.n_Pair__rules, pF_get1, P.ru, P.rx, _, rfl, hP.rul, P.ru, P.rx, _, _, rfl, hP.rul, rF_get2, P.M, s.ms, s.ch, ks, rfl, hP.mem, fun H1 f1 => ?_⟩
    have c1 := (Ch.refl hP).keep0 f1
    have hP1 := c1.at_
    rw [hP.kno, takeN_eq]
    unfold takeR at k
    have tail : ∀ (i : Nat) (s2 : PS), Go (clT T) T.C_PowerFailed H P ks Q E RI (.ok i { s2 with kn := forgetN i s2.kn }) → ∀ (H2 : Hp) (P2 : Pp) (ks2 : List Kp), Ch (clT T) H P ks H2 P2 ks2 s2 → ∀ (H3 : Hp) (ks3 : List Kp), Fr (P2.M.own ks2) H2 H3 → MemAt T.C_Memory T.C_KnownSlot H3 P2.M s2.ms ks3 → kns ks3 = forgetN i (kns ks2) → (∀ b ∈ P2.M.own ks3, b ∈ P2.M.own ks2 ∨ H2 b = none) → Q (.int (i : Int)) H3 := fun i s2 k2 H2 P2 ks2 c2 H3 ks3 f3 m3 e3 g3 => by
      rw [c2.at_.kno] at e3
      exact k2 H3 P2 ks3 _ (c2.trans (c2.at_.memC f3 m3 e3 g3)) rfl
    cases et : takeO s.ms s.ch s.kn with
    | some i =>
      rw [et] at k
      refine ⟨_, rfl, rfl, _, rfl, iteF ?_⟩
      refine ⟨_, rfl, P.p, T.C_Pair, P.px, _, _, rfl, hP1.ins, T.cl_Pair, T.n_Pair__memory, pF_get5, P.M.m, P.M.x, _, rfl, hP1.mem.ins, mF_no_forget, _, rfl, P.M, s.ms, i, ks, rfl, hP1.mem, fun H2 ks2 f2 m2 e2 g2 => ?_⟩
      exact ⟨_, rfl, tail i s k H1 P ks c1 H2 ks2 f2 m2 e2 g2⟩
    | none =>
      rw [et] at k
      obtain ⟨i, ir, edn⟩ := takeO_none (hw.some1 d hd) et
      have ehd : (dirtyN s.kn).headD 0 = i := by rw [edn]; rfl
      rw [ehd] at k
      obtain ⟨q0, hq0, hdq, hsq⟩ := dirtyN_mem (kn := s.kn) (i := i) (by rw [edn]; exact List.mem_cons_self)
      obtain ⟨q, eq, hq, eqs⟩ := atN_of (kn := s.kn) (i := i) (by rw [← hsq]; exact atN_mem hq0)
      refine ⟨_, rfl, rfl, _, rfl, iteT ?_⟩
      refine ⟨_, rfl, P.p, T.C_Pair, P.px, _, _, rfl, hP1.ins, T.cl_Pair, T.n_Pair__memory, pF_get5, P.M.m, P.M.x, _, rfl, hP1.mem.ins, mF_no_dirty_slots, P.M, s.ms, ks, rfl, hP1.mem, fun D ps H2 hD f2 eD hL => ?_⟩
      have c2 := c1.keep0 f2
      have hP2 := c2.at_
      rw [hP.kno] at hL
      rw [dirtyL_eq hL, edn] at eD
      refine ⟨D, _, ((0 : Nat) : Int), _, rfl, rfl, SqL.of eD, atI_nat (j := 0) rfl, ?_⟩
      have hkq := hw.kn q hq
      have kcl : Go (clT T) T.C_PowerFailed H P ks Q E RI ((cSlot i q.rc (s.rcs.getD 3 []) s).bind fun _ s1 => .ok i { s1 with kn := forgetN i s1.kn }) := by
        have k0 := k
        unfold clSl at k0
        rw [eq] at k0
        exact k0
      refine ⟨_, rfl, P.p, P.px, _, rfl, hP2.ins, pF_no__clean_slot, _, rfl, P, ks, s, d, i, q, rfl, hP2, eq, by rw [hw.sl]; exact hkq.1, hd, by rw [hw.fa d hd, ← eqs]; exact hkq.2, by have := hl.1; omega, by have := hl.2 d hd; omega, hw.cl, ?_⟩
      refine Go.seq (kcl.from (R' := RI) c2 fun a H' v hv => hv) fun u s3 e3 k3 H3 P3 ks3 v3 c3 _ => ?_
      have c03 := c2.trans c3
      have hP3 := c3.at_
      rw [← c3.p]
      refine ⟨_, rfl, P3.p, T.C_Pair, P3.px, _, _, rfl, hP3.ins, T.cl_Pair, T.n_Pair__memory, pF_get5, P3.M.m, P3.M.x, _, rfl, hP3.mem.ins, mF_no_forget, _, rfl, P3.M, s3.ms, i, ks3, rfl, hP3.mem, fun H4 ks4 f4 m4 e4 g4 => ?_⟩
      refine ⟨_, rfl, ?_⟩
      rw [hP3.kno] at e4
      exact k3 H4 P3 ks4 _ (c3.trans (hP3.memC f4 m4 e4 g4)) rfl
end
section
variable {P : Program} {w : World} {K : PySem.W.Frag} {mg : Str → Option Value} {base : Heap}
theorem ok_writing (T : Gx K mg) : FnOk P w K mg base CX0 1 T.f_Rules_writing T.fd_Rules_writing ["self"] (spGet T.C_Rules "_writing") := by
  refine T.F_Rules_writing.ok sc_Rules_writing (fun vs H Q E h => ?_) (fun cdv A outer s H vs Q E hr h => ?_)
  · obtain ⟨a, dx, fs, v, rfl, _⟩ := h
    rfl
  · obtain ⟨a, dx, fs, v, rfl, ha, hv, k⟩ := h
    refine ⟨_, (pss_one (ps_ret (pe_fld (pv 0) rfl))), ?_⟩
    exact ⟨_, rfl, a, T.C_Rules, _, _, _, rfl, ha, T.cl_Rules, T.n_Rules__writing, hv, k⟩
theorem ok_bound (T : Gx K mg) : FnOk P w K mg base CX0 1 T.f_Rules_bound T.fd_Rules_bound ["self"] (spGet T.C_Rules "_bound") := by
  refine T.F_Rules_bound.ok sc_Rules_bound (fun vs H Q E h => ?_) (fun cdv A outer s H vs Q E hr h => ?_)
  · obtain ⟨a, dx, fs, v, rfl, _⟩ := h
    rfl
  · obtain ⟨a, dx, fs, v, rfl, ha, hv, k⟩ := h
    refine ⟨_, (pss_one (ps_ret (pe_fld (pv 0) rfl))), ?_⟩
    exact ⟨_, rfl, a, T.C_Rules, _, _, _, rfl, ha, T.cl_Rules, T.n_Rules__bound, hv, k⟩
end
/-! ### the slots of a write, and its words -/
def chooseR (own : Option Nat) (s : PS) : Rs (Option Nat × Option Nat) :=
  if s.fa = none then .ok (none, none) s
  else if V.str s.wr = V.str "through" then .ok (own, none) s
  else if V.str s.wr = V.str "around" then .ok (none, own) s
  else if (own.bind fun i => (atN s.kn i).map fun q => q.rc.dirty) = some false then .ok (own, none) s
  else (takeR s).bind fun t s1 => .ok (some t, if own = some t then none else own) s1
def RP : Option Nat × Option Nat → Hp → Hp → V → Prop := fun a _ H' v => ∃ t : Addr, v = .ref t ∧ H' t = some (.tup [slV a.1, slV a.2])
def spChoose (c : Cl) (X : Addr) : Sp := fun vs H Q E => ∃ (P : Pp) (ks : List Kp) (s : PS) (own : Option Nat), vs = [.ref P.p, slV own] ∧ PairAt c H P ks s ∧ WF s ∧ Lim 880 s ∧ (∀ i, own = some i → (atN s.kn i).isSome = true) ∧ Go c X H P ks Q E RP (chooseR own s)
def carryR (z : Str) (rc : Rc) (tg st : Option Nat) (s : PS) : Rs Unit :=
  if V.str z = V.str "slow" then wSlow rc s
  else if V.str z = V.str "sync slow" then ySlow s
  else if V.str z = V.str "sync fast" then yFast s
  else match (if V.str z = V.str "fast" then tg else none) with
    | some i => (wRec i rc s).bind fun _ s1 => .ok () { s1 with kn := match st with | none => s1.kn | some j => forgetN j s1.kn }
    | none => match (if V.str z = V.str "free" then st else none) with
      | some j => (wFast j none s).bind fun _ s1 => .ok () { s1 with kn := forgetN j s1.kn }
      | none => if V.str z = V.str "done" then .ok () { s with done := true } else .ok () s
def spCarry (c : Cl) (X : Addr) : Sp := fun vs H Q E => ∃ (P : Pp) (ks : List Kp) (s : PS) (z : Str) (t : Addr) (rc : Rc) (tg st : Option Nat), vs = [.ref P.p, .str z, .ref t, slV tg, slV st] ∧ PairAt c H P ks s ∧ WF s ∧ Lim 900 s ∧ H t = some (.tup rc.vs) ∧ rc.blk < s.nb ∧
  (∀ i, tg = some i → i < s.ms ∧ ∃ d, s.fa = some d) ∧ (∀ i, st = some i → i < s.ms ∧ ∃ d, s.fa = some d) ∧ Go c X H P ks Q E RU (carryR z rc tg st s)
section
variable {P : Program} {w : World} {K : PySem.W.Frag} {mg : Str → Option Value} {base : Heap} {file : Str}
theorem ok_choose (HP : ProgOk P file) (T : Gx K mg) (hf : file = T.file) : FnOk P w K mg base (L2N.CX P w) 8 T.f_Pair__choose_slots T.fd_Pair__choose_slots ["self", "own"] (spChoose (clT T) T.C_PowerFailed) := by
  have G_Memory_record_in : FnOk P w K mg base CX0 1 T.f_Memory_record_in T.fd_Memory_record_in ["self", "slot"] (spRecIn T.C_Memory T.C_KnownSlot) := ok_recIn T
  have G_Rules_writing : FnOk P w K mg base CX0 1 T.f_Rules_writing T.fd_Rules_writing ["self"] (spGet T.C_Rules "_writing") := ok_writing T
  have G_Pair__take_slot := ok_takeS (w := w) (base := base) HP T hf
  refine FunOkC T.F_Pair__choose_slots sc_Pair__choose_slots (fun vs H Q E h => ?_) (fun cdv A outer s H vs Q E hr h => ?_)
  · obtain ⟨P, ks, s, own, rfl, _⟩ := h
    rfl
  · obtain ⟨P, ks, s, own, rfl, hP, hw, hl, ho, k⟩ := h
    refine ⟨_, (pss_cons (ps_set (i := 2) sc_Pair__choose_slots.nd rfl (.inl rfl) (pe_prop (pe_fld (pv 0) rfl) T.cl_Rules T.P_Rules_writing G_Rules_writing (hr.mono (by first | decide | omega)) (b_Rules_writing T) .nil pass0 rfl))
      (pss_cons (ps_if (pt_cmpR op_isN (pe_fld (pv 0) rfl) pe_non (nomark _)) (pss_one (ps_ret (pe_tup (pa_cons pe_non (pa_cons pe_non pa_nil))))) pss_nil)
      (pss_cons (ps_if (pt_cmpR op_eq (pv 2) pe_str (nomark _)) (pss_one (ps_ret (pe_tup (pa_cons (pv 1) (pa_cons pe_non pa_nil))))) pss_nil)
      (pss_cons (ps_if (pt_cmpR op_eq (pv 2) pe_str (nomark _)) (pss_one (ps_ret (pe_tup (pa_cons pe_non (pa_cons (pv 1) pa_nil))))) pss_nil)
      (pss_cons (ps_if (PW.pt (pw_and (pt_cmpR op_notN (pv 1) pe_non (nomark _)) (pw_and1 (pt_not (pt_val (pe_ix ix_tup (pe_meth (pe_fld (pv 0) rfl) T.cl_Memory T.m_Memory_record_in G_Memory_record_in (hr.mono (by first | decide | omega)) (b_Memory_record_in T) .nil pass0 (pa_cons (pv 1) pa_nil)) (pe_glob (v := .int (3)) (by rfl) T.c_IS_DIRTY ⟨_, rfl⟩) (fun _ _ => rfl))))))) (pss_one (ps_ret (pe_tup (pa_cons (pv 1) (pa_cons pe_non pa_nil))))) pss_nil)
      (pss_cons (ps_set (i := 3) sc_Pair__choose_slots.nd rfl (.inl rfl) (pe_meth0 (pv 0) T.cl_Pair T.m_Pair__take_slot G_Pair__take_slot (hr.mono (by first | decide | omega)) (b_Pair__take_slot T) .nil (L2N.passes_call (L2N.takes_of rfl rfl rfl rfl) (fun _ _ _ _ h => h))))
      (pss_one (ps_ret (pe_tup (pa_cons (pv 3) (pa_cons (pe_ifExp (pt_cmpR op_eq (pv 3) (pv 1) (nomark _)) pe_non (pv 1)) pa_nil))))))))))), ?_⟩
    refine ⟨_, rfl, P.p, T.C_Pair, P.px, _, _, rfl, hP.ins, T.cl_Pair, T.n_Pair__rules, pF_get1, P.ru, P.rx, _, rfl, hP.rul, P.ru, P.rx, _, _, rfl, hP.rul, rF_get0, ?_⟩
    refine ⟨_, rfl, P.p, T.C_Pair, P.px, _, _, rfl, hP.ins, T.cl_Pair, T.n_Pair__fast, pF_get4, rfl, _, rfl, ?_⟩
    unfold chooseR at k
    have ret : ∀ (a : Option Nat × Option Nat), Go (clT T) T.C_PowerFailed H P ks Q E RP (.ok a s) → ∀ t, H t = none → Q (.ref t) (upd H t (.tup [slV a.1, slV a.2])) := fun a ka t ht => ka _ P ks _ ((Ch.refl hP).keep0 (Fr.new ht)) ⟨t, rfl, upd_same⟩
    cases hd : s.fa with
    | none =>
      rw [if_pos hd] at k
      rw [fv_none (hP.nofast hd)]
      exact iteT ⟨sz_le (by simp), ret (none, none) k⟩
    | some d =>
      rw [if_neg (by rw [hd]; simp)] at k
      obtain ⟨D0, eD0, _⟩ := hP.fast hd
      rw [fv_some eD0]
      refine iteF ⟨_, rfl, rfl, _, rfl, iteB (fun e => ?_) fun e => ?_⟩
      · rw [if_pos (of_decide_eq_true e)] at k
        exact ⟨_, rfl, sz_le (by simp), ret (own, none) k⟩
      rw [if_neg (of_decide_eq_false e)] at k
      refine ⟨_, rfl, rfl, _, rfl, iteB (fun e => ?_) fun e => ?_⟩
      · rw [if_pos (of_decide_eq_true e)] at k
        exact ⟨_, rfl, sz_le (by simp), ret (none, own) k⟩
      rw [if_neg (of_decide_eq_false e)] at k
      have ps2 : ∀ (t : Nat), (if decide (V.int (t : Int) = slV own) = true then V.non else slV own) = slV (if own = some t then none else own) := fun t => by
        cases own with
        | none => rfl
        | some i =>
          by_cases e : i = t
          · subst e
            have h1 : decide (V.int (i : Int) = slV (some i)) = true := decide_eq_true rfl
            rw [if_pos h1, if_pos rfl]
            rfl
          · have h1 : decide (V.int (t : Int) = slV (some i)) = false := dec_int (by omega)
            rw [if_neg (by rw [h1]; simp), if_neg (fun z => e (Option.some.inj z))]
      refine ⟨_, rfl, rfl, _, rfl, ?_⟩
      cases ho' : own with
      | none =>
        subst ho'
        rw [if_neg (by simp)] at k
        refine iteF ?_
        refine ⟨_, rfl, P.p, P.px, _, rfl, hP.ins, pF_no__take_slot, P, ks, s, d, rfl, hP, hw, hd, hl, Go.seq k fun t s1 e1 k1 H1 P1 ks1 v c1 hv => ?_⟩
        subst hv
        rw [if_neg (by simp)] at k1
        refine ⟨_, rfl, _, rfl, _, rfl, rfl, _, rfl, iteF ⟨_, rfl, sz_le (by simp), fun p hp => k1 _ P1 ks1 _ (c1.keep0 (Fr.new hp)) ⟨p, rfl, upd_same⟩⟩⟩
      | some i =>
        subst ho'
        obtain ⟨q, eq, hq, eqs⟩ := atN_of (ho i rfl)
        have hqk := eq
        rw [← hP.kno, atN_kns] at hqk
        obtain ⟨qp, eqp, eqn⟩ := Option.map_eq_some_iff.mp hqk
        have hrc : qp.rc = q.rc := by rw [← eqn]
        have ht := hP.mem.rcd qp (atSlot_mem eqp).1
        rw [hrc] at ht
        have eb : ((some i).bind fun i => (atN s.kn i).map fun q => q.rc.dirty) = some q.rc.dirty := by
          show (atN s.kn i).map _ = _
          rw [eq]
          rfl
        rw [eb] at k
        refine iteT ⟨_, rfl, P.p, T.C_Pair, P.px, _, _, rfl, hP.ins, T.cl_Pair, T.n_Pair__memory, pF_get5, P.M.m, P.M.x, _, rfl, hP.mem.ins, mF_no_record_in, _, rfl, P.M, s.ms, i, ks, qp, rfl, hP.mem, eqp, qp.kt, _, (3 : Int), _, rfl, rfl, SqT.of ht, rfl, _, rfl, ?_⟩
        cases hdq : q.rc.dirty with
        | false =>
          rw [hdq, if_pos rfl] at k
          exact iteT ⟨_, rfl, sz_le (by simp), ret (some i, none) k⟩
        | true =>
          rw [hdq, if_neg (by simp)] at k
          refine iteF ⟨_, rfl, P.p, P.px, _, rfl, hP.ins, pF_no__take_slot, P, ks, s, d, rfl, hP, hw, hd, hl, Go.seq k fun t s1 e1 k1 H1 P1 ks1 v c1 hv => ?_⟩
          subst hv
          refine ⟨_, rfl, _, rfl, _, rfl, rfl, _, rfl, ?_⟩
          have fin : ∀ v, v = slV (if some i = some t then none else some i) → ∀ p, H1 p = none → Q (.ref p) (upd H1 p (.tup [.int (t : Int), v])) := fun v hv p hp => by
            subst hv
            exact k1 _ P1 ks1 _ (c1.keep0 (Fr.new hp)) ⟨p, rfl, upd_same⟩
          by_cases e : i = t
          · refine iteTb (decide_eq_true (by rw [e]; rfl)) ⟨sz_le (by simp), fin _ (by rw [if_pos (by rw [e])]; rfl)⟩
          · refine iteFb (dec_int (a := (t : Int)) (b := (i : Int)) (by omega)) ⟨_, rfl, sz_le (by simp), fin _ (by rw [if_neg (fun z => e (Option.some.inj z))])⟩
theorem ok_carry (HP : ProgOk P file) (T : Gx K mg) (hf : file = T.file) : FnOk P w K mg base (L2N.CX P w) 8 T.f_Pair__carry_out T.fd_Pair__carry_out ["self", "word", "record", "target", "stale"] (spCarry (clT T) T.C_PowerFailed) := by
  have G_Memory_forget : FnOk P w K mg base CX0 1 T.f_Memory_forget T.fd_Memory_forget ["self", "slot"] (spForgetM T.C_Memory T.C_KnownSlot) := ok_forgetM T
  have G_Pair__write_slow := ok_writeS (w := w) (base := base) HP T hf
  have G_Pair__sync_slow := ok_syncS (w := w) (base := base) HP T hf
  have G_Pair__write_fast := ok_writeF (w := w) (base := base) HP T hf
  have G_Pair__sync_fast := ok_syncF (w := w) (base := base) HP T hf
  have G_Pair__write_record := ok_writeR (w := w) (base := base) HP T hf
  refine FunOkC T.F_Pair__carry_out sc_Pair__carry_out (fun vs H Q E h => ?_) (fun cdv A outer s H vs Q E hr h => ?_)
  · obtain ⟨P, ks, s, z, t, rc, tg, st, rfl, _⟩ := h
    rfl
  · obtain ⟨P, ks, s, z, t, rc, tg, st, rfl, hP, hw, hl, ht, hb, htg, hst, k⟩ := h
    refine ⟨_, (pss_one (ps_if (pt_cmpR op_eq (pv 1) pe_str (nomark _)) (pss_one (ps_expr (pe_meth (pv 0) T.cl_Pair T.m_Pair__write_slow G_Pair__write_slow (hr.mono (by first | decide | omega)) (b_Pair__write_slow T) .nil (L2N.passes_call (L2N.takes_of rfl rfl rfl rfl) (fun _ _ _ _ h => h)) (pa_cons (pv 2) pa_nil)))) (pss_one (ps_if (pt_cmpR op_eq (pv 1) pe_str (nomark _)) (pss_one (ps_expr (pe_meth0 (pv 0) T.cl_Pair T.m_Pair__sync_slow G_Pair__sync_slow (hr.mono (by first | decide | omega)) (b_Pair__sync_slow T) .nil (L2N.passes_call (L2N.takes_of rfl rfl rfl rfl) (fun _ _ _ _ h => h))))) (pss_one (ps_if (pt_cmpR op_eq (pv 1) pe_str (nomark _)) (pss_one (ps_expr (pe_meth0 (pv 0) T.cl_Pair T.m_Pair__sync_fast G_Pair__sync_fast (hr.mono (by first | decide | omega)) (b_Pair__sync_fast T) .nil (L2N.passes_call (L2N.takes_of rfl rfl rfl rfl) (fun _ _ _ _ h => h))))) (pss_one (ps_if (PW.pt (pw_and (pt_cmpR op_eq (pv 1) pe_str (nomark _)) (pw_and1 (pt_cmpR op_notN (pv 3) pe_non (nomark _))))) (pss_cons (ps_expr (pe_meth (pv 0) T.cl_Pair T.m_Pair__write_record G_Pair__write_record (hr.mono (by first | decide | omega)) (b_Pair__write_record T) .nil (L2N.passes_call (L2N.takes_of rfl rfl rfl rfl) (fun _ _ _ _ h => h)) (pa_cons (pv 3) (pa_cons (pv 2) pa_nil))))
      (pss_one (ps_if (pt_cmpR op_notN (pv 4) pe_non (nomark _)) (pss_one (ps_expr (pe_meth (pe_fld (pv 0) rfl) T.cl_Memory T.m_Memory_forget G_Memory_forget (hr.mono (by first | decide | omega)) (b_Memory_forget T) .nil pass0 (pa_cons (pv 4) pa_nil)))) pss_nil))) (pss_one (ps_if (PW.pt (pw_and (pt_cmpR op_eq (pv 1) pe_str (nomark _)) (pw_and1 (pt_cmpR op_notN (pv 4) pe_non (nomark _))))) (pss_cons (ps_expr (pe_meth (pv 0) T.cl_Pair T.m_Pair__write_fast G_Pair__write_fast (hr.mono (by first | decide | omega)) (b_Pair__write_fast T) .nil (L2N.passes_call (L2N.takes_of rfl rfl rfl rfl) (fun _ _ _ _ h => h)) (pa_cons (pv 4) (pa_cons pe_non pa_nil))))
      (pss_one (ps_expr (pe_meth (pe_fld (pv 0) rfl) T.cl_Memory T.m_Memory_forget G_Memory_forget (hr.mono (by first | decide | omega)) (b_Memory_forget T) .nil pass0 (pa_cons (pv 4) pa_nil))))) (pss_one (ps_if (pt_cmpR op_eq (pv 1) pe_str (nomark _)) (pss_one (ps_fld (pv 0) pe_bl rfl)) pss_nil)))))))))))), ?_⟩
    have fgt : ∀ (j : Nat) (s1 : PS) (H1 : Hp) (P1 : Pp) (ks1 : List Kp), Ch (clT T) H P ks H1 P1 ks1 s1 → Go (clT T) T.C_PowerFailed H P ks Q E RU (.ok () { s1 with kn := forgetN j s1.kn }) → ∀ (H2 : Hp) (ks2 : List Kp), Fr (P1.M.own ks1) H1 H2 → MemAt T.C_Memory T.C_KnownSlot H2 P1.M s1.ms ks2 → kns ks2 = forgetN j (kns ks1) → (∀ b ∈ P1.M.own ks2, b ∈ P1.M.own ks1 ∨ H1 b = none) → Q .non H2 := fun j s1 H1 P1 ks1 c1 k1 H2 ks2 f2 m2 e2 g2 => by
      rw [c1.at_.kno] at e2
      exact k1 H2 P1 ks2 _ (c1.trans (c1.at_.memC f2 m2 e2 g2)) rfl
    unfold carryR at k
    refine ⟨_, rfl, rfl, _, rfl, iteB (fun e => ?_) fun e => ?_⟩
    · rw [if_pos (of_decide_eq_true e)] at k
      refine ⟨_, rfl, P.p, P.px, _, rfl, hP.ins, pF_no__write_slow, _, rfl, P, ks, s, t, rc, rfl, hP, ht, by rw [hw.sl]; exact hb, hl.1, ?_⟩
      cases er : wSlow rc s with
      | ok u s1 =>
        rw [er] at k
        exact fun H1 P1 ks1 v c1 hv => k H1 P1 ks1 .non c1 rfl
      | pf b s1 =>
        rw [er] at k
        exact k
    rw [if_neg (of_decide_eq_false e)] at k
    refine ⟨_, rfl, rfl, _, rfl, iteB (fun e => ?_) fun e => ?_⟩
    · rw [if_pos (of_decide_eq_true e)] at k
      refine ⟨_, rfl, P.p, P.px, _, rfl, hP.ins, pF_no__sync_slow, P, ks, s, rfl, hP, ?_⟩
      cases er : ySlow s with
      | ok u s1 =>
        rw [er] at k
        exact fun H1 P1 ks1 v c1 hv => k H1 P1 ks1 .non c1 rfl
      | pf b s1 =>
        rw [er] at k
        exact k
    rw [if_neg (of_decide_eq_false e)] at k
    refine ⟨_, rfl, rfl, _, rfl, iteB (fun e => ?_) fun e => ?_⟩
    · rw [if_pos (of_decide_eq_true e)] at k
      refine ⟨_, rfl, P.p, P.px, _, rfl, hP.ins, pF_no__sync_fast, P, ks, s, rfl, hP, ?_⟩
      cases er : yFast s with
      | ok u s1 =>
        rw [er] at k
        exact fun H1 P1 ks1 v c1 hv => k H1 P1 ks1 .non c1 rfl
      | pf b s1 =>
        rw [er] at k
        exact k
    rw [if_neg (of_decide_eq_false e)] at k
    refine ⟨_, rfl, rfl, _, rfl, ?_⟩
    by_cases hz : V.str z = V.str "fast"
    · rw [decide_eq_true hz]
      rw [if_pos hz] at k
      cases tg with
      | some i =>
        obtain ⟨hi, d, hd⟩ := htg i rfl
        refine iteT ⟨_, rfl, rfl, _, rfl, iteT ?_⟩
        refine ⟨_, rfl, P.p, P.px, _, rfl, hP.ins, pF_no__write_record, _, rfl, _, rfl, P, ks, s, d, i, t, rc, rfl, hP, hd, ht, by rw [hw.fa d hd]; exact hi, hi, hl.2 d hd, Go.seq k fun u s1 e1 k1 H1 P1 ks1 v c1 _ => ?_⟩
        cases st with
        | none => exact ⟨_, rfl, rfl, _, rfl, iteF (k1 H1 P1 ks1 .non c1 rfl)⟩
        | some j =>
          rw [← c1.p]
          have hP1 := c1.at_
          exact ⟨_, rfl, rfl, _, rfl, iteT ⟨_, rfl, P1.p, T.C_Pair, P1.px, _, _, rfl, hP1.ins, T.cl_Pair, T.n_Pair__memory, pF_get5, P1.M.m, P1.M.x, _, rfl, hP1.mem.ins, mF_no_forget, _, rfl, P1.M, s1.ms, j, ks1, rfl, hP1.mem, fgt j s1 H1 P1 ks1 c1 k1⟩⟩
      | none =>
        refine iteT ⟨_, rfl, rfl, _, rfl, iteF ?_⟩
        dsimp only at k
        refine ⟨_, rfl, rfl, _, rfl, ?_⟩
        have hz2 : ¬ V.str z = V.str "free" := fun y => by
          rw [hz] at y
          exact absurd (V.str.inj y) (by decide +kernel)
        have hz3 : ¬ V.str z = V.str "done" := fun y => by
          rw [hz] at y
          exact absurd (V.str.inj y) (by decide +kernel)
        rw [if_neg hz2] at k
        dsimp only at k
        rw [if_neg hz3] at k
        rw [decide_eq_false hz2]
        exact iteF ⟨_, rfl, rfl, _, rfl, iteFb (decide_eq_false hz3) (k H P ks .non (Ch.refl hP) rfl)⟩
    · rw [decide_eq_false hz]
      rw [if_neg hz] at k
      dsimp only at k
      refine iteF ⟨_, rfl, rfl, _, rfl, ?_⟩
      by_cases hz2 : V.str z = V.str "free"
      · rw [decide_eq_true hz2]
        rw [if_pos hz2] at k
        cases st with
        | some j =>
          obtain ⟨hj, d, hd⟩ := hst j rfl
          refine iteT ⟨_, rfl, rfl, _, rfl, iteT ?_⟩
          refine ⟨_, rfl, P.p, P.px, _, rfl, hP.ins, pF_no__write_fast, _, rfl, P, ks, s, d, j, .non, none, rfl, hP, hd, rfl, by rw [hw.fa d hd]; exact hj, hl.2 d hd, Go.seq k fun u s1 e1 k1 H1 P1 ks1 v c1 _ => ?_⟩
          rw [← c1.p]
          have hP1 := c1.at_
          exact ⟨_, rfl, P1.p, T.C_Pair, P1.px, _, _, rfl, hP1.ins, T.cl_Pair, T.n_Pair__memory, pF_get5, P1.M.m, P1.M.x, _, rfl, hP1.mem.ins, mF_no_forget, _, rfl, P1.M, s1.ms, j, ks1, rfl, hP1.mem, fgt j s1 H1 P1 ks1 c1 k1⟩
        | none =>
          dsimp only at k
          have hz3 : ¬ V.str z = V.str "done" := fun y => by
            rw [hz2] at y
            exact absurd (V.str.inj y) (by decide +kernel)
          rw [if_neg hz3] at k
          exact iteT ⟨_, rfl, rfl, _, rfl, iteF ⟨_, rfl, rfl, _, rfl, iteFb (decide_eq_false hz3) (k H P ks .non (Ch.refl hP) rfl)⟩⟩
      · rw [decide_eq_false hz2]
        rw [if_neg hz2] at k
        dsimp only at k
        refine iteF ⟨_, rfl, rfl, _, rfl, iteB (fun e => ?_) fun e => ?_⟩
        · rw [if_pos (of_decide_eq_true e)] at k
          refine ⟨_, rfl, P.p, T.C_Pair, P.px, _, rfl, hP.ins, T.cl_Pair, T.n_Pair__is_done, by simp [PS.fs, pF], ?_⟩
          rw [PS.fs, pF_put12]
          exact k _ P ks .non (hP.setP0 ⟨rfl, rfl, rfl, rfl, rfl⟩ rfl rfl rfl rfl rfl (Fr.put (by simp)) upd_same) rfl
        · rw [if_neg (of_decide_eq_false e)] at k
          exact k H P ks .non (Ch.refl hP) rfl
end
/-! ### records cleaned by their turns -/
def clMany : List Nat → PS → Rs Unit
  | [], s => .ok () s
  | i :: r, s => (clSl i s).bind fun _ s1 => clMany r s1
def blkOf (kn : List Kn) (i : Nat) : Nat := ((atN kn i).map fun q => q.rc.blk).getD 0
def cleanLT (n : Nat) (s : PS) : Rs (List Nat) := (clMany ((dirtyN s.kn).take n) s).bind fun _ s1 => .ok (((dirtyN s.kn).take n).map (blkOf s1.kn)) s1
def RL : List Nat → Hp → Hp → V → Prop := fun a _ H' v => ∃ l : Addr, v = .ref l ∧ H' l = some (.lst (a.map fun n : Nat => V.int (n : Int)))
def spLeast (c : Cl) (X : Addr) : Sp := fun vs H Q E => ∃ (P : Pp) (ks : List Kp) (s : PS) (n : Int), vs = [.ref P.p, .int n] ∧ PairAt c H P ks s ∧ WF s ∧ Lim 810 s ∧ Go c X H P ks Q E RL (cleanLT n.toNat s)
theorem cleanN_at {i j : Nat} {kn : List Kn} (h : (atN kn j).isSome = true) : (atN (cleanN i kn) j).isSome = true := by
  obtain ⟨q, _, hq, e⟩ := atN_of h
  have : (if q.slot = i then { q with rc := q.rc.cln } else q) ∈ cleanN i kn := List.mem_map.mpr ⟨q, hq, rfl⟩
  have h2 := atN_mem this
  have e2 : (if q.slot = i then { q with rc := q.rc.cln } else q).slot = j := by
    split
    · exact e
    · exact e
  rw [e2] at h2
  exact h2
theorem clSl_at {i j : Nat} {s s1 : PS} {u : Unit} (h : clSl i s = .ok u s1) (hj : (atN s.kn j).isSome = true) : (atN s1.kn j).isSome = true := by
  unfold clSl at h
  split at h
  · cases h
    exact hj
  · unfold cSlot at h
    rename_i q eq
    cases e : cAll i q.rc (s.rcs.getD 3 []) s with
    | pf b a => rw [e] at h; cases h
    | ok v a =>
      rw [e] at h
      cases h
      have := (cAll_ok e).kn.1
      exact cleanN_at (by rw [this]; exact hj)
theorem clSl_rcs {i : Nat} {s s1 : PS} {u : Unit} (h : clSl i s = .ok u s1) (hc : (s.rcs.getD 3 []).length ≤ 8) : s1.rcs = s.rcs ∧ s1.ms = s.ms ∧ s1.fa.isSome = s.fa.isSome := by
  have m := clSl_ok hc h
  obtain ⟨l, sl, fa, kn, e⟩ := m.ex
  refine ⟨by rw [e], by rw [e], ?_⟩
  unfold clSl at h
  split at h
  · cases h; rfl
  · unfold cSlot at h
    rename_i q eq
    cases e2 : cAll i q.rc (s.rcs.getD 3 []) s with
    | pf b a => rw [e2] at h; cases h
    | ok v a =>
      rw [e2] at h
      cases h
      have hf := (cAll_ok e2).fs
      show a.fa.isSome = s.fa.isSome
      cases e3 : s.fa with
      | none =>
        cases e4 : a.fa with
        | none => rfl
        | some d => rw [e3, e4] at hf; exact hf.elim
      | some d =>
        cases e4 : a.fa with
        | none => rw [e3, e4] at hf; exact hf.elim
        | some d => rfl
theorem cut_max {xs : List V} {n : Int} : cutV xs none (some (if (0 : Int) > n then 0 else n)) = xs.take n.toNat := by
  have e : (if (0 : Int) > n then 0 else n) = ((n.toNat : Nat) : Int) := by
    split
    · omega
    · omega
  rw [e]
  unfold cutV
  rw [HT.sIx_none, HT.sIx_nat]
  simp
section
variable {P : Program} {w : World} {K : PySem.W.Frag} {mg : Str → Option Value} {base : Heap} {file : Str}
theorem ok_least (HP : ProgOk P file) (T : Gx K mg) (hf : file = T.file) : FnOk P w K mg base (L2N.CX P w) 8 T.f_Pair__clean_least_turns T.fd_Pair__clean_least_turns ["self", "count"] (spLeast (clT T) T.C_PowerFailed) := by
  have G_Memory_record_in : FnOk P w K mg base CX0 1 T.f_Memory_record_in T.fd_Memory_record_in ["self", "slot"] (spRecIn T.C_Memory T.C_KnownSlot) := ok_recIn T
  have G_Memory_dirty_slots : FnOk P w K mg base CX0 2 T.f_Memory_dirty_slots T.fd_Memory_dirty_slots ["self"] (spDirty T.C_Memory T.C_KnownSlot) := ok_dirty T
  have G_Pair__clean_slot := ok_cleanSl (w := w) (base := base) HP T hf
  refine FunOkC T.F_Pair__clean_least_turns sc_Pair__clean_least_turns (fun vs H Q E h => ?_) (fun cdv A outer s H vs Q E hr h => ?_)
  · obtain ⟨P, ks, s, n, rfl, _⟩ := h
    rfl
  · obtain ⟨P, ks, s, n, rfl, hP, hw, hl, k⟩ := h
    refine ⟨_, (pss_cons (ps_set (i := 2) sc_Pair__clean_least_turns.nd rfl (.inl rfl) (pe_slice sl_list (pe_meth0 (pe_fld (pv 0) rfl) T.cl_Memory T.m_Memory_dirty_slots G_Memory_dirty_slots (hr.mono (by first | decide | omega)) (b_Memory_dirty_slots T) .nil pass0) po_none (po_some (pe_callB (call_max2 rfl) (by rfl) T.z_max (by decide +kernel) (pa_cons (pv 1) (pa_cons pe_int pa_nil))))))
      (pss_cons (ps_for PassesOwn.leaving rfl (pi_list (pv 2)) (pg_name (i := 3) sc_Pair__clean_least_turns.nd rfl (.inl rfl)) (pss_one (ps_expr (pe_meth (pv 0) T.cl_Pair T.m_Pair__clean_slot G_Pair__clean_slot (hr.mono (by first | decide | omega)) (b_Pair__clean_slot T) .nil (L2N.passes_call (L2N.takes_of rfl rfl rfl rfl) (fun _ _ _ _ h => h)) (pa_cons (pv 3) pa_nil)))))
      (pss_one (ps_ret (pe_lc (own := [("slot", 3)]) (g := gName 3) rfl sc_Pair__clean_least_turns.nd (pi_list (pv 2)) (blkOk_by (N := ["self", "count", "slots", "slot"]) (sc := defScope s_Pair__clean_least_turns) (by decide +kernel)) (fun _ _ _ _ _ => pg_name (i := 3) sc_Pair__clean_least_turns.nd rfl (.inl rfl)) (fun _ _ _ _ _ => pts_nil) (fun _ _ _ _ _ => (pe_ix (ix_tupK (K := K) rfl) (pe_meth (pe_fldK (K := K) rfl (pv 0) rfl) T.cl_Memory T.m_Memory_record_in G_Memory_record_in (hr.mono (by first | decide | omega)) (b_Memory_record_in T) .nil pass0 (pa_cons (pv 3) pa_nil)) (pe_glob (v := .int (0)) (by rfl) T.c_BLOCK ⟨_, rfl⟩) (fun _ _ => rfl)))))))), ?_⟩
    refine ⟨_, rfl, P.p, T.C_Pair, P.px, _, _, rfl, hP.ins, T.cl_Pair, T.n_Pair__memory, pF_get5, P.M.m, P.M.x, _, rfl, hP.mem.ins, mF_no_dirty_slots, P.M, s.ms, ks, rfl, hP.mem, fun D ps H1 hD f1 eD hL => ?_⟩
    rw [hP.kno] at hL
    rw [dirtyL_eq hL] at eD
    refine ⟨_, rfl, n, 0, rfl, _, rfl, D, _, rfl, SqL.of eD, fun Z hZ => ?_⟩
    rw [cut_max, List.map_map, ← List.map_take]
    have hzl : ((dirtyN s.kn).take n.toNat).length ≤ 8 := by
      have h1 := dirtyN_len s.kn
      have h2 := hP.mem.len
      have h3 := hP.mem.few
      have h4 := congrArg List.length hP.kno
      rw [List.length_map] at h4
      rw [List.length_take]
      omega
    unfold cleanLT at k
    have hza : ∀ i ∈ (dirtyN s.kn).take n.toNat, (atN s.kn i).isSome = true := fun i hi => by
      obtain ⟨q, hq, _, e⟩ := dirtyN_mem (List.mem_of_mem_take hi)
      rw [← e]
      exact atN_mem hq
    generalize hzs : (dirtyN s.kn).take n.toNat = zs at *
    have f2 := f1.trans (Fr.new (o := .lst (zs.map ((V.int ∘ fun n : Nat => (n : Int))))) hZ)
    have c2 := (Ch.refl hP).keep0 f2
    have eZ : (upd H1 Z (.lst (zs.map ((V.int ∘ fun n : Nat => (n : Int)))))) Z = some (.lst (zs.map ((V.int ∘ fun n : Nat => (n : Int))))) := upd_same
    have nZ : Z ∉ P.own ks := fun z => by
      obtain ⟨o, eo⟩ := (hP.keep0 f1).there Z z
      rw [eo] at hZ
      cases hZ
    generalize (upd H1 Z (.lst (zs.map ((V.int ∘ fun n : Nat => (n : Int)))))) = H2 at c2 eZ f2
    have k2 : Go (clT T) T.C_PowerFailed H2 P ks Q E RL ((clMany zs s).bind fun _ s1 => .ok (zs.map (blkOf s1.kn)) s1) := k.from c2 fun a H' v hv => hv
    have hP2 := c2.at_
    clear k c2 f2 f1 hD eD hL hZ
    refine ⟨_, rfl, Z, rfl, ⟨_, SqL.of eZ⟩, for_list (K := K) (a := Z) (xs := zs.map ((V.int ∘ fun n : Nat => (n : Int)))) (fun j σ' H' => ∃ (P' : Pp) (ks' : List Kp) (s1 : PS) (v3 : Option V), σ' = [some (.ref P.p), some (.int n), some (.ref Z), v3] ∧ Ch (clT T) H2 P ks H' P' ks' s1 ∧ Mv (8 * j) s s1 ∧ s1.fa.isSome = s.fa.isSome ∧ (∀ i ∈ zs, (atN s1.kn i).isSome = true) ∧ Go (clT T) T.C_PowerFailed H2 P ks Q E RL ((clMany (zs.drop j) s1).bind fun _ s2 => .ok (zs.map (blkOf s2.kn)) s2))
      ⟨P, ks, s, none, rfl, Ch.refl hP2, ⟨⟨_, _, _, _, rfl⟩, id, fun n l => l, rfl⟩, rfl, hza, k2⟩ (fun j σ' H' _ h => by
        obtain ⟨_, _, _, _, _, ch, _⟩ := h
        exact SqL.of (ch.fr _ _ eZ nZ)) ?_ ?_⟩
    · rintro j x σ1 H3 hx ⟨P', ks', s1, v3, rfl, ch, mv, hfs, hat, k1⟩
      have hj : j < zs.length := by
        have := lt_of_at hx
        rwa [List.length_map] at this
      obtain rfl : x = V.int ((zs[j] : Nat) : Int) := by
        rw [List.getElem?_map, List.getElem?_eq_getElem hj] at hx
        exact (Option.some.inj hx).symm
      rw [List.drop_eq_getElem_cons hj] at k1
      have hmem : zs[j] ∈ zs := List.getElem_mem hj
      generalize zs[j] = i at *
      obtain ⟨q, eq, hq, eqs⟩ := atN_of (hat i hmem)
      have hw1 := mv.wf hw
      have hl1 := mv.lim 810 hl
      have hP1 := ch.at_
      obtain ⟨d1, hd1⟩ : ∃ d, s1.fa = some d := by
        cases e : s1.fa with
        | none => rw [hw1.nof e] at hq; cases hq
        | some d => exact ⟨d, rfl⟩
      have hkq := hw1.kn q hq
      have k3 : Go (clT T) T.C_PowerFailed H2 P ks Q E RL ((clSl i s1).bind fun _ s2 => (clMany (zs.drop (j + 1)) s2).bind fun _ s2 => .ok (zs.map (blkOf s2.kn)) s2) := by
        rw [← Rs.assoc]
        exact k1
      have ecl : clSl i s1 = cSlot i q.rc (s1.rcs.getD 3 []) s1 := by
        unfold clSl
        rw [eq]
      have l1 := hl1.1
      have l2 := hl1.2 d1 hd1
      rw [← ch.p]
      refine ⟨_, rfl, P'.p, P'.px, _, rfl, hP1.ins, pF_no__clean_slot, _, rfl, P', ks', s1, d1, i, q, rfl, hP1, eq, by rw [hw1.sl]; exact hkq.1, hd1, by rw [hw1.fa d1 hd1, ← eqs]; exact hkq.2, by omega, by omega, hw1.cl, ?_⟩
      rw [← ecl]
      cases er : clSl i s1 with
      | ok u s2 =>
        rw [er] at k3
        refine fun H4 P4 ks4 v c4 _ => ⟨P4, ks4, s2, _, rfl, ch.trans c4, ?_, ((clSl_rcs er hw1.cl).2.2).trans hfs, fun a ha => clSl_at er (hat a ha), k3⟩
        rw [Nat.mul_succ]
        exact mv.trans (clSl_ok hw1.cl er)
      | pf b s2 =>
        rw [er] at k3
        exact fun H4 P4 ks4 dx c4 e4 => k3 H4 P4 ks4 dx (ch.trans c4) e4
    · rintro σ1 H3 ⟨P', ks', s1, v3, rfl, ch, mv, hfs, hat, k1⟩
      rw [List.length_map, List.drop_length] at k1
      have hP1 := ch.at_
      have eZ3 := ch.fr _ _ eZ nZ
      rw [← ch.p]
      refine ⟨_, rfl, Z, rfl, ⟨_, SqL.of eZ3⟩, fun D hD => ?_⟩
      refine lc_list (K := K) (a := Z) (xs := zs.map ((V.int ∘ fun n : Nat => (n : Int)))) (fun j H' => Fr [] H3 H' ∧ H' D = some (.lst ((zs.take j).map fun i => V.int ((blkOf s1.kn i : Nat) : Int)))) ⟨Fr.new hD, upd_same⟩ (fun i H' _ h => SqL.of (h.1 _ _ eZ3 (by simp))) ?_ ?_
      · rintro j x H4 hx ⟨f4, e4⟩
        have hj : j < zs.length := by
          have := lt_of_at hx
          rwa [List.length_map] at this
        obtain rfl : x = V.int ((zs[j] : Nat) : Int) := by
          rw [List.getElem?_map, List.getElem?_eq_getElem hj] at hx
          exact (Option.some.inj hx).symm
        have hmem : zs[j] ∈ zs := List.getElem_mem hj
        obtain ⟨q, eq, hq, eqs⟩ := atN_of (hat zs[j] hmem)
        have hP4 := hP1.keep0 f4
        have hqk := eq
        rw [← hP1.kno, atN_kns] at hqk
        obtain ⟨qp, eqp, eqn⟩ := Option.map_eq_some_iff.mp hqk
        have hrc : qp.rc = q.rc := by rw [← eqn]
        have ht := hP4.mem.rcd qp (atSlot_mem eqp).1
        rw [hrc] at ht
        refine ⟨rfl, _, rfl, P'.p, T.C_Pair, P'.px, _, _, rfl, hP4.ins, T.cl_Pair, T.n_Pair__memory, pF_get5, P'.M.m, P'.M.x, _, rfl, hP4.mem.ins, mF_no_record_in, _, rfl, P'.M, s1.ms, zs[j], ks', qp, rfl, hP4.mem, eqp, qp.kt, _, (0 : Int), _, rfl, rfl, SqT.of ht, rfl, _, e4, ?_, f4.upd0 hD, ?_⟩
        · rw [List.length_map, List.length_take]
          exact sz_lt (by omega)
        · rw [upd_same, List.take_succ, List.getElem?_eq_getElem hj, List.map_append]
          have eb : blkOf s1.kn zs[j] = q.rc.blk := by
            unfold blkOf
            rw [eq]
            rfl
          show some (HO.lst (_ ++ [V.int (q.rc.blk : Int)])) = some (HO.lst (_ ++ [V.int ((blkOf s1.kn zs[j] : Nat) : Int)]))
          rw [eb]
      · rintro H4 ⟨f4, e4⟩
        rw [List.length_map, List.take_length] at e4
        refine k1 H4 P' ks' _ (ch.keep0 f4) ⟨D, rfl, ?_⟩
        rw [e4, List.map_map]
        rfl
end
/-! ### a request begins; which recipe a write goes by -/
def beginS (b : Nat) (s : PS) : PS := match slotN s.kn b with
  | some i => { s with reqs := s.reqs + 1, hits := s.hits + 1, kn := useN i s.reqs s.kn }
  | none => { s with reqs := s.reqs + 1 }
theorem slotN_at {kn : List Kn} {b i : Nat} (h : slotN kn b = some i) : (atN kn i).isSome = true := by
  unfold slotN at h
  cases ef : kn.find? (fun q => decide (q.rc.blk = b)) with
  | none => rw [ef] at h; cases h
  | some q =>
    rw [ef] at h
    cases h
    exact atN_mem (List.mem_of_find?_eq_some ef)
theorem useN_facts {i : Nat} {r : Int} {kn : List Kn} {q : Kn} (h : q ∈ useN i r kn) : ∃ p ∈ kn, q.slot = p.slot ∧ q.rc = p.rc := by
  unfold useN at h
  obtain ⟨p, hp, rfl⟩ := List.mem_map.mp h
  refine ⟨p, hp, ?_⟩
  split
  · exact ⟨rfl, rfl⟩
  · exact ⟨rfl, rfl⟩
theorem useN_at {i j : Nat} {r : Int} {kn : List Kn} (h : (atN kn j).isSome = true) : (atN (useN i r kn) j).isSome = true := by
  obtain ⟨q, _, hq, e⟩ := atN_of h
  have : (if q.slot = i then { q with used := r, uses := if 9 < q.uses + 1 then 9 else q.uses + 1 } else q) ∈ useN i r kn := List.mem_map.mpr ⟨q, hq, rfl⟩
  have h2 := atN_mem this
  have e2 : (if q.slot = i then { q with used := r, uses := if 9 < q.uses + 1 then 9 else q.uses + 1 } else q).slot = j := by
    split
    · exact e
    · exact e
  rw [e2] at h2
  exact h2
theorem WF.kn' {s : PS} (g : WF s) {kn : List Kn} {r t : Nat} {hh : Nat} (h : ∀ q ∈ kn, ∃ p ∈ s.kn, q.slot = p.slot ∧ q.rc.blk = p.rc.blk) : WF { s with kn := kn, reqs := r, hits := hh, turn := t } := by
  have m := (Mv.kn h).wf g
  exact ⟨m.sl, m.fa, m.some1, m.few, m.kn, m.cl, m.nof⟩
theorem beginS_wf {b : Nat} {s : PS} (g : WF s) : WF (beginS b s) := by
  unfold beginS
  split
  · exact WF.kn' g (t := s.turn) fun q hq => by
      obtain ⟨p, hp, e1, e2⟩ := useN_facts hq
      exact ⟨p, hp, e1, by rw [e2]⟩
  · exact ⟨g.sl, g.fa, g.some1, g.few, g.kn, g.cl, g.nof⟩
def rcpOf (s : PS) : List Str := if V.str s.wr = V.str "around" then s.rcs.getD 2 [] else if V.str s.wr = V.str "back" ∧ s.fa.isSome = true then s.rcs.getD 1 [] else s.rcs.getD 0 []
def spOnG (c : Cl) : Sp := fun vs H Q _ => ∃ (P : Pp) (ks : List Kp) (s : PS), vs = [.ref P.p] ∧ PairAt c H P ks s ∧ s.on = true ∧ Q .non H
def spBlkG (c : Cl) : Sp := fun vs H Q _ => ∃ (P : Pp) (ks : List Kp) (s : PS) (b : Nat), vs = [.ref P.p, .int (b : Int)] ∧ PairAt c H P ks s ∧ b < s.nb ∧ Q .non H
def spBeginG (c : Cl) : Sp := fun vs H Q _ => ∃ (P : Pp) (ks : List Kp) (s : PS) (b : Nat), vs = [.ref P.p, .int (b : Int)] ∧ PairAt c H P ks s ∧ ∀ (H' : Hp) (ks' : List Kp), Ch c H P ks H' P ks' (beginS b s) → Q (slV (slotN s.kn b)) H'
def spRcpG (c : Cl) : Sp := fun vs H Q _ => ∃ (P : Pp) (ks : List Kp) (s : PS), vs = [.ref P.p] ∧ PairAt c H P ks s ∧ ∀ t, H t = some (.tup (sV (rcpOf s))) → Q (.ref t) H
section
variable {P : Program} {w : World} {K : PySem.W.Frag} {mg : Str → Option Value} {base : Heap}
theorem ok_onG (T : Gx K mg) : FnOk P w K mg base CX0 1 T.f_Pair__check_on T.fd_Pair__check_on ["self"] (spOnG (clT T)) := by
  refine T.F_Pair__check_on.ok sc_Pair__check_on (fun vs H Q E h => ?_) (fun cdv A outer s H vs Q E hr h => ?_)
  · obtain ⟨P, ks, s, rfl, _⟩ := h
    rfl
  · obtain ⟨P, ks, s, rfl, hP, ho, k⟩ := h
    refine ⟨_, (pss_one (ps_if (pt_not (pt_val (pe_fld (pv 0) rfl))) (pss_one ps_never) pss_nil)), ?_⟩
    refine ⟨_, rfl, P.p, T.C_Pair, P.px, _, _, rfl, hP.ins, T.cl_Pair, T.n_Pair__is_on, pF_get11, _, rfl, ?_⟩
    rw [ho]
    exact iteF k
theorem ok_blkG (T : Gx K mg) : FnOk P w K mg base CX0 3 T.f_Pair__check_block T.fd_Pair__check_block ["self", "block"] (spBlkG (clT T)) := by
  have G_is_number_from : FnOk P w K mg base CX0 2 T.f_is_number_from T.fd_is_number_from ["thing", "least", "most"] (spNumFrom K) := ok_numFrom T
  refine T.F_Pair__check_block.ok sc_Pair__check_block (fun vs H Q E h => ?_) (fun cdv A outer s H vs Q E hr h => ?_)
  · obtain ⟨P, ks, s, b, rfl, _⟩ := h
    rfl
  · obtain ⟨P, ks, s, b, rfl, hP, hb, k⟩ := h
    refine ⟨_, (pss_one (ps_if (pt_not (pt_val (pe_call G_is_number_from (hr.mono (by first | decide | omega)) (by rfl) T.g_is_number_from T.F_is_number_from.kp (b_is_number_from T) .nil pass0 (pa_cons (pv 1) (pa_cons pe_int (pa_cons (pe_op op_sub (pe_fld (pv 0) rfl) pe_int) pa_nil)))))) (pss_one ps_never) pss_nil)), ?_⟩
    refine ⟨_, rfl, _, rfl, P.p, T.C_Pair, P.px, _, _, rfl, hP.ins, T.cl_Pair, T.n_Pair__blocks, pF_get0, _, _, rfl, rfl, ?_⟩
    refine ⟨.int b, 0, _, rfl, .inl ⟨b, rfl, _, rfl, ?_⟩⟩
    have e : (decide ((0 : Int) ≤ (b : Int)) && decide ((b : Int) ≤ (s.nb : Int) - 1)) = true := by
      rw [Bool.and_eq_true, decide_eq_true_eq, decide_eq_true_eq]
      omega
    rw [e]
    exact iteF k
theorem ok_beginG (T : Gx K mg) : FnOk P w K mg base CX0 2 T.f_Pair__begin_request T.fd_Pair__begin_request ["self", "block"] (spBeginG (clT T)) := by
  have G_Memory_slot_of : FnOk P w K mg base CX0 1 T.f_Memory_slot_of T.fd_Memory_slot_of ["self", "block"] (spSlotOf T.C_Memory T.C_KnownSlot) := ok_slotOf T
  have G_Memory_use : FnOk P w K mg base CX0 1 T.f_Memory_use T.fd_Memory_use ["self", "slot", "request"] (spUse T.C_Memory T.C_KnownSlot) := ok_use T
  refine T.F_Pair__begin_request.ok sc_Pair__begin_request (fun vs H Q E h => ?_) (fun cdv A outer s H vs Q E hr h => ?_)
  · obtain ⟨P, ks, s, b, rfl, _⟩ := h
    rfl
  · obtain ⟨P, ks, s, b, rfl, hP, k⟩ := h
    refine ⟨_, (pss_cons (ps_set (i := 2) sc_Pair__begin_request.nd rfl (.inl rfl) (pe_meth (pe_fld (pv 0) rfl) T.cl_Memory T.m_Memory_slot_of G_Memory_slot_of (hr.mono (by first | decide | omega)) (b_Memory_slot_of T) .nil pass0 (pa_cons (pv 1) pa_nil)))
      (pss_cons (ps_if (pt_cmpR op_notN (pv 2) pe_non (nomark _)) (pss_cons (ps_fldaug (pv 0) pe_int in_add)
      (pss_one (ps_expr (pe_meth (pe_fld (pv 0) rfl) T.cl_Memory T.m_Memory_use G_Memory_use (hr.mono (by first | decide | omega)) (b_Memory_use T) .nil pass0 (pa_cons (pv 2) (pa_cons (pe_fld (pv 0) rfl) pa_nil)))))) pss_nil)
      (pss_cons (ps_fldaug (pv 0) pe_int in_add)
      (pss_one (ps_ret (pv 2)))))), ?_⟩
    refine ⟨_, rfl, P.p, T.C_Pair, P.px, _, _, rfl, hP.ins, T.cl_Pair, T.n_Pair__memory, pF_get5, P.M.m, P.M.x, _, rfl, hP.mem.ins, mF_no_slot_of, _, rfl, P.M, s.ms, b, ks, rfl, hP.mem, fun H1 f1 => ?_⟩
    have c1 := (Ch.refl hP).keep0 f1
    have hP1 := c1.at_
    refine ⟨_, rfl, rfl, _, rfl, ?_⟩
    rw [← slotN_kns, hP.kno]
    unfold beginS at k
    cases es : slotN s.kn b with
    | none =>
      rw [es] at k
      refine iteF ?_
      refine ⟨_, rfl, P.p, T.C_Pair, P.px, _, _, rfl, hP1.ins, T.cl_Pair, T.n_Pair__requests, pF_get7, _, _, rfl, rfl, P.px, _, hP1.ins, by simp [PS.fs, pF], ?_⟩
      unfold PS.fs
      rw [pF_put7]
      refine ⟨_, rfl, ?_⟩
      exact k _ ks (c1.trans (hP1.setP0 ⟨rfl, rfl, rfl, rfl, rfl⟩ rfl rfl rfl rfl rfl (Fr.put (by simp)) upd_same))
    | some i =>
      rw [es] at k
      refine iteT ?_
      refine ⟨_, rfl, P.p, T.C_Pair, P.px, _, _, rfl, hP1.ins, T.cl_Pair, T.n_Pair__hits, pF_get8, _, _, rfl, rfl, P.px, _, hP1.ins, by simp [PS.fs, pF], ?_⟩
      unfold PS.fs
      rw [pF_put8]
      have c2 : Ch (clT T) H P ks (upd H1 P.p (.ins T.C_Pair P.px (PS.fs { s with hits := s.hits + 1 } P))) P ks { s with hits := s.hits + 1 } := c1.trans (hP1.setP0 ⟨rfl, rfl, rfl, rfl, rfl⟩ rfl rfl rfl rfl rfl (Fr.put (by simp)) upd_same)
      have hP2 := c2.at_
      have hi : (atN (kns ks) i).isSome = true := by
        rw [hP.kno]
        exact slotN_at es
      refine ⟨_, rfl, P.p, T.C_Pair, P.px, _, _, rfl, hP2.ins, T.cl_Pair, T.n_Pair__memory, pF_get5, P.M.m, P.M.x, _, rfl, hP2.mem.ins, mF_no_use, _, rfl, _, rfl, P.p, T.C_Pair, P.px, _, _, rfl, hP2.ins, T.cl_Pair, T.n_Pair__requests, pF_get7, P.M, s.ms, i, s.reqs, ks, rfl, hP2.mem, hi, fun H3 ks' f3 m3 e3 g3 => ?_⟩
      rw [hP.kno] at e3
      have c3 := c2.trans (hP2.memC f3 m3 e3 g3)
      have hP3 := c3.at_
      refine ⟨_, rfl, P.p, T.C_Pair, P.px, _, _, rfl, hP3.ins, T.cl_Pair, T.n_Pair__requests, pF_get7, _, _, rfl, rfl, P.px, _, hP3.ins, by simp [PS.fs, pF], ?_⟩
      unfold PS.fs
      rw [pF_put7]
      refine ⟨_, rfl, ?_⟩
      exact k _ ks' (c3.trans (hP3.setP0 ⟨rfl, rfl, rfl, rfl, rfl⟩ rfl rfl rfl rfl rfl (Fr.put (by simp)) upd_same))
theorem ok_rcpG (T : Gx K mg) : FnOk P w K mg base CX0 3 T.f_Pair__recipe_for_writing T.fd_Pair__recipe_for_writing ["self"] (spRcpG (clT T)) := by
  have G_Rules_writing : FnOk P w K mg base CX0 1 T.f_Rules_writing T.fd_Rules_writing ["self"] (spGet T.C_Rules "_writing") := ok_writing T
  have G_Recipes_around : FnOk P w K mg base CX0 1 T.f_Recipes_around T.fd_Recipes_around ["self"] (spGet T.C_Recipes "_around") := ok_qaround T
  have G_Recipes_back : FnOk P w K mg base CX0 1 T.f_Recipes_back T.fd_Recipes_back ["self"] (spGet T.C_Recipes "_back") := ok_qback T
  have G_Recipes_through : FnOk P w K mg base CX0 1 T.f_Recipes_through T.fd_Recipes_through ["self"] (spGet T.C_Recipes "_through") := ok_qthrough T
  refine T.F_Pair__recipe_for_writing.ok sc_Pair__recipe_for_writing (fun vs H Q E h => ?_) (fun cdv A outer s H vs Q E hr h => ?_)
  · obtain ⟨P, ks, s, rfl, _⟩ := h
    rfl
  · obtain ⟨P, ks, s, rfl, hP, k⟩ := h
    obtain ⟨dx, a, b, c, d, za, zb, zc, zd, ez, e0, ea, eb, ec, ed, _⟩ := hP.rcp
    unfold rcpOf at k
    rw [ez] at k
    refine ⟨_, (pss_cons (ps_set (i := 1) sc_Pair__recipe_for_writing.nd rfl (.inl rfl) (pe_prop (pe_fld (pv 0) rfl) T.cl_Rules T.P_Rules_writing G_Rules_writing (hr.mono (by first | decide | omega)) (b_Rules_writing T) .nil pass0 rfl))
      (pss_cons (ps_if (pt_cmpR op_eq (pv 1) pe_str (nomark _)) (pss_one (ps_ret (pe_prop (pe_fld (pv 0) rfl) T.cl_Recipes T.P_Recipes_around G_Recipes_around (hr.mono (by first | decide | omega)) (b_Recipes_around T) .nil pass0 rfl))) pss_nil)
      (pss_cons (ps_if (PW.pt (pw_and (pt_cmpR op_eq (pv 1) pe_str (nomark _)) (pw_and1 (pt_cmpR op_notN (pe_fld (pv 0) rfl) pe_non (nomark _))))) (pss_one (ps_ret (pe_prop (pe_fld (pv 0) rfl) T.cl_Recipes T.P_Recipes_back G_Recipes_back (hr.mono (by first | decide | omega)) (b_Recipes_back T) .nil pass0 rfl))) pss_nil)
      (pss_one (ps_ret (pe_prop (pe_fld (pv 0) rfl) T.cl_Recipes T.P_Recipes_through G_Recipes_through (hr.mono (by first | decide | omega)) (b_Recipes_through T) .nil pass0 rfl)))))), ?_⟩
    refine ⟨_, rfl, P.p, T.C_Pair, P.px, _, _, rfl, hP.ins, T.cl_Pair, T.n_Pair__rules, pF_get1, P.ru, P.rx, _, rfl, hP.rul, P.ru, P.rx, _, _, rfl, hP.rul, rF_get0, ?_⟩
    refine ⟨_, rfl, rfl, _, rfl, iteB (fun z => ?_) fun z => ?_⟩
    · rw [if_pos (of_decide_eq_true z)] at k
      exact ⟨_, rfl, P.p, T.C_Pair, P.px, _, _, rfl, hP.ins, T.cl_Pair, T.n_Pair__recipes, pF_get2, P.re, dx, _, rfl, e0, P.re, dx, _, _, rfl, e0, qF_get2, k c ec⟩
    · rw [if_neg (of_decide_eq_false z)] at k
      refine ⟨_, rfl, rfl, _, rfl, ?_⟩
      by_cases zb' : V.str s.wr = V.str "back"
      · rw [decide_eq_true zb']
        refine iteT ?_
        refine ⟨_, rfl, P.p, T.C_Pair, P.px, _, _, rfl, hP.ins, T.cl_Pair, T.n_Pair__fast, pF_get4, rfl, _, rfl, ?_⟩
        cases hd : s.fa with
        | none =>
          rw [hd, if_neg (by simp)] at k
          rw [fv_none (hP.nofast hd)]
          exact iteF ⟨_, rfl, P.p, T.C_Pair, P.px, _, _, rfl, hP.ins, T.cl_Pair, T.n_Pair__recipes, pF_get2, P.re, dx, _, rfl, e0, P.re, dx, _, _, rfl, e0, qF_get0, k a ea⟩
        | some fd =>
          rw [hd, if_pos ⟨zb', rfl⟩] at k
          obtain ⟨D0, eD0, _⟩ := hP.fast hd
          rw [fv_some eD0]
          exact iteT ⟨_, rfl, P.p, T.C_Pair, P.px, _, _, rfl, hP.ins, T.cl_Pair, T.n_Pair__recipes, pF_get2, P.re, dx, _, rfl, e0, P.re, dx, _, _, rfl, e0, qF_get1, k b eb⟩
      · rw [if_neg (fun z => zb' z.1)] at k
        rw [decide_eq_false zb']
        refine iteF (iteF ?_)
        exact ⟨_, rfl, P.p, T.C_Pair, P.px, _, _, rfl, hP.ins, T.cl_Pair, T.n_Pair__recipes, pF_get2, P.re, dx, _, rfl, e0, P.re, dx, _, _, rfl, e0, qF_get0, k a ea⟩
end
/-! ### a block is written -/
theorem takeR_ok {s s1 : PS} {i : Nat} (hw : WF s) (hm : 1 ≤ s.ms) (h : takeR s = .ok i s1) : Mv 8 s s1 ∧ i < s.ms := by
  unfold takeR at h
  cases et : takeO s.ms s.ch s.kn with
  | some j =>
    rw [et] at h
    cases h
    exact ⟨(Mv.kn fun q hq => forgetN_facts hq).up (by omega), takeO_lt (fun q hq => (hw.kn q hq).2) et⟩
  | none =>
    rw [et] at h
    obtain ⟨j, r, ed⟩ := takeO_none hm et
    cases ec : clSl ((dirtyN s.kn).headD 0) s with
    | pf b a => rw [ec] at h; cases h
    | ok u a =>
      rw [ec] at h
      cases h
      refine ⟨(clSl_ok hw.cl ec).trans (Mv.kn (s := a) (kn := forgetN _ a.kn) fun q hq => forgetN_facts hq), ?_⟩
      rw [ed]
      obtain ⟨q, hq, _, e⟩ := dirtyN_mem (kn := s.kn) (i := j) (by rw [ed]; exact List.mem_cons_self)
      show j < s.ms
      rw [← e]
      exact (hw.kn q hq).2
theorem Mv.refl (s : PS) : Mv 0 s s := (Stp.refl s).mv
/-- what is chosen lies in the fast disk -/
def InF (s : PS) (o : Option Nat) : Prop := ∀ i, o = some i → i < s.ms ∧ ∃ d, s.fa = some d
theorem InF.mv {j : Nat} {s a : PS} {o : Option Nat} (h : InF s o) (m : Mv j s a) : InF a o := fun i e => by
  obtain ⟨h1, d, hd⟩ := h i e
  obtain ⟨l, sl, fa, kn, ea⟩ := m.ex
  refine ⟨by rw [ea]; exact h1, ?_⟩
  have := m.fs
  rw [hd] at this
  cases e2 : a.fa with
  | none => rw [e2] at this; cases this
  | some d => exact ⟨d, rfl⟩
theorem at_InF {s : PS} {i : Nat} (hw : WF s) (h : (atN s.kn i).isSome = true) : i < s.ms ∧ ∃ d, s.fa = some d := by
  obtain ⟨q, _, hq, e⟩ := atN_of h
  refine ⟨by rw [← e]; exact (hw.kn q hq).2, ?_⟩
  cases e2 : s.fa with
  | none => rw [hw.nof e2] at hq; cases hq
  | some d => exact ⟨d, rfl⟩
theorem chooseR_ok {s s1 : PS} {own : Option Nat} {ts : Option Nat × Option Nat} (hw : WF s) (ho : ∀ i, own = some i → (atN s.kn i).isSome = true) (h : chooseR own s = .ok ts s1) : Mv 8 s s1 ∧ InF s1 ts.1 ∧ InF s1 ts.2 := by
  have io : InF s own := fun i e => at_InF hw (ho i e)
  have no : InF s none := fun i e => by cases e
  have r0 : Mv 8 s s := (Mv.refl s).up (by omega)
  unfold chooseR at h
  split at h
  · cases h
    exact ⟨r0, no, no⟩
  · rename_i hf
    obtain ⟨d, hd⟩ : ∃ d, s.fa = some d := by
      cases e : s.fa with
      | none => exact absurd e hf
      | some d => exact ⟨d, rfl⟩
    split at h
    · cases h
      exact ⟨r0, io, no⟩
    · split at h
      · cases h
        exact ⟨r0, no, io⟩
      · split at h
        · cases h
          exact ⟨r0, io, no⟩
        · cases et : takeR s with
          | pf b a => rw [et] at h; cases h
          | ok t a =>
            rw [et] at h
            cases h
            obtain ⟨m, lt⟩ := takeR_ok hw (hw.some1 d hd) et
            refine ⟨m, InF.mv (s := s) (fun i e => ?_) m, InF.mv (s := s) (fun i e => ?_) m⟩
            · cases e
              exact ⟨lt, d, hd⟩
            · split at e
              · cases e
              · exact io i e
def wordsR (rc : Rc) (tg st : Option Nat) : List Str → PS → Rs Unit
  | [], s => .ok () s
  | z :: zs, s => (carryR z rc tg st s).bind fun _ s1 => wordsR rc tg st zs s1
/-- steps, and a flag -/
structure Mw (j : Nat) (s s1 : PS) : Prop where
  ex : ∃ l sl fa kn dn, s1 = { s with left := l, sl := sl, fa := fa, kn := kn, done := dn }
  wf : WF s → WF s1
  lim : ∀ n, Lim n s → Lim (n + j) s1
  fs : s1.fa.isSome = s.fa.isSome
theorem Mv.mw {j : Nat} {s a : PS} (h : Mv j s a) : Mw j s a := by
  obtain ⟨l1, s1, f1, k1, e1⟩ := h.ex
  exact ⟨⟨l1, s1, f1, k1, s.done, e1⟩, h.wf, h.lim, h.fs⟩
theorem Mw.up {i j : Nat} {s a : PS} (h : Mw i s a) (e : i ≤ j) : Mw j s a := ⟨h.ex, h.wf, fun n l => (h.lim n l).up (Nat.add_le_add_left e _), h.fs⟩
theorem Mw.trans {i j : Nat} {s a b : PS} (h : Mw i s a) (g : Mw j a b) : Mw (i + j) s b := by
  obtain ⟨l1, s1, f1, k1, d1, e1⟩ := h.ex
  obtain ⟨l2, s2, f2, k2, d2, e2⟩ := g.ex
  exact ⟨⟨l2, s2, f2, k2, d2, by rw [e2, e1]⟩, fun w => g.wf (h.wf w), fun n l => by rw [← Nat.add_assoc]; exact g.lim _ (h.lim n l), g.fs.trans h.fs⟩
theorem InF.mw {j : Nat} {s a : PS} {o : Option Nat} (h : InF s o) (m : Mw j s a) : InF a o := fun i e => by
  obtain ⟨h1, d, hd⟩ := h i e
  obtain ⟨l, sl, fa, kn, dn, ea⟩ := m.ex
  refine ⟨by rw [ea]; exact h1, ?_⟩
  have := m.fs
  rw [hd] at this
  cases e2 : a.fa with
  | none => rw [e2] at this; cases this
  | some d => exact ⟨d, rfl⟩
theorem recN_facts {i : Nat} {rc : Rc} {kn : List Kn} {q : Kn} (h : q ∈ recN i rc kn) : (q.slot = i ∧ q.rc = rc) ∨ q ∈ kn := by
  unfold recN at h
  obtain ⟨p, hp, rfl⟩ := List.mem_map.mp h
  by_cases e : p.slot = i
  · rw [if_pos e]
    exact .inl ⟨e, rfl⟩
  · rw [if_neg e]
    exact .inr hp
theorem wRec_wf {i : Nat} {rc : Rc} {r : Int} {s : PS} (hl : ∀ q ∈ learnN i rc r s.kn, (q.slot = i ∧ q.rc = rc) ∨ q ∈ s.kn) (hi : i < s.ms) (hb : rc.blk < s.nb) (hf : ∃ d, s.fa = some d) (g : WF s) : WF { s with kn := learnN i rc r s.kn } := by
  obtain ⟨d, hd⟩ := hf
  refine ⟨g.sl, g.fa, g.some1, g.few, fun q hq => ?_, g.cl, fun e => ?_⟩
  · rcases hl q hq with ⟨e1, e2⟩ | z
    · rw [e1, e2]
      exact ⟨hb, hi⟩
    · exact g.kn q z
  · have e' : s.fa = none := e
    rw [hd] at e'
    cases e'
theorem putN_facts {kn : List Kn} {q x : Kn} (h : x ∈ putN kn q) : x = q ∨ x ∈ kn := by
  unfold putN at h
  split at h
  · obtain ⟨p, hp, rfl⟩ := List.mem_map.mp h
    split
    · exact .inl rfl
    · exact .inr hp
  · rcases List.mem_append.mp h with z | z
    · exact .inr z
    · exact .inl (List.mem_singleton.mp z)
theorem learnN_facts {i : Nat} {rc : Rc} {r : Int} {kn : List Kn} {q : Kn} (h : q ∈ learnN i rc r kn) : (q.slot = i ∧ q.rc = rc) ∨ q ∈ kn := by
  unfold learnN at h
  split at h
  · split at h
    · exact recN_facts h
    · rcases putN_facts h with z | z
      · rw [z]; exact .inl ⟨rfl, rfl⟩
      · exact .inr z
  · rcases putN_facts h with z | z
    · rw [z]; exact .inl ⟨rfl, rfl⟩
    · exact .inr z
theorem wRec_ok {i : Nat} {rc : Rc} {s s1 : PS} {u : Unit} (hi : i < s.ms) (hb : rc.blk < s.nb) (hf : ∃ d, s.fa = some d) (h : wRec i rc s = .ok u s1) : Mv 1 s s1 := by
  unfold wRec at h
  cases e : wFast i (some rc) s with
  | pf b a => rw [e] at h; cases h
  | ok v a =>
    rw [e] at h
    cases h
    have st := wFast_ok e
    obtain ⟨l, sl, fa, ea⟩ := st.ex
    obtain ⟨d, hd⟩ := hf
    obtain ⟨d', hd', _⟩ := st.fs.some' hd
    refine ⟨⟨l, sl, fa, _, by rw [ea]⟩, fun g => wRec_wf (fun q hq => learnN_facts hq) (by rw [ea]; exact hi) (by rw [ea]; exact hb) ⟨d', hd'⟩ (st.wf g), fun n => st.lim, st.fs.isSome⟩
theorem carryR_ok {z : Str} {rc : Rc} {tg st : Option Nat} {s s1 : PS} {u : Unit} (hb : rc.blk < s.nb) (htg : InF s tg) (hst : InF s st) (h : carryR z rc tg st s = .ok u s1) : Mw 1 s s1 := by
  have r0 : Mw 1 s s := ((Mv.refl s).up (by omega)).mw
  unfold carryR at h
  split at h
  · exact (wSlow_ok h).mv.mw
  split at h
  · exact (ySlow_ok h).mv.mw
  split at h
  · exact (yFast_ok h).mv.mw
  split at h
  · rename_i i ei
    have ei' : tg = some i := by
      split at ei
      · exact ei
      · cases ei
    obtain ⟨hi, hf⟩ := htg i ei'
    cases e : wRec i rc s with
    | pf b a => rw [e] at h; cases h
    | ok v a =>
      rw [e] at h
      cases h
      have m := wRec_ok hi hb hf e
      cases st with
      | none =>
        exact m.mw
      | some j => exact (m.trans (Mv.kn (s := a) (kn := forgetN j a.kn) fun q hq => forgetN_facts hq)).mw
  · split at h
    · rename_i j ej
      cases e : wFast j none s with
      | pf b a => rw [e] at h; cases h
      | ok v a =>
        rw [e] at h
        cases h
        exact ((wFast_ok e).mv.trans (Mv.kn (s := a) (kn := forgetN j a.kn) fun q hq => forgetN_facts hq)).mw
    · split at h
      · cases h
        exact ⟨⟨_, _, _, _, true, rfl⟩, fun g => ⟨g.sl, g.fa, g.some1, g.few, g.kn, g.cl, g.nof⟩, fun n l => l.up (Nat.le_add_right _ _), rfl⟩
      · cases h
        exact r0
theorem wordsR_ok {rc : Rc} {tg st : Option Nat} : ∀ {zs : List Str} {s s1 : PS} {u : Unit}, rc.blk < s.nb → InF s tg → InF s st → wordsR rc tg st zs s = .ok u s1 → Mw zs.length s s1
  | [], s, s1, u, _, _, _, h => by
    cases h
    exact (Mv.refl s).mw
  | z :: zs, s, s1, u, hb, htg, hst, h => by
    have h' : (carryR z rc tg st s).bind (fun _ s2 => wordsR rc tg st zs s2) = .ok u s1 := h
    cases e : carryR z rc tg st s with
    | pf b a => rw [e] at h'; cases h'
    | ok v a =>
      rw [e] at h'
      have m := carryR_ok hb htg hst e
      obtain ⟨l, sl, fa, kn, dn, ea⟩ := m.ex
      have := m.trans (wordsR_ok (zs := zs) (by rw [ea]; exact hb) (htg.mw m) (hst.mw m) h')
      rw [List.length_cons, Nat.add_comm]
      exact this
def recS (b v turn : Nat) (s : PS) : Rc := ⟨b, v, turn, decide (V.str s.wr = V.str "back")⟩
def tailW (hit : Bool) (s : PS) : Rs Bool := (if V.str s.wr = V.str "back" then (cleanLT (((dirtyN s.kn).length : Int) - s.bd).toNat s).bind fun _ s4 => .ok () s4 else .ok () s).bind fun _ s4 => .ok hit { s4 with done := false }
def writeR (b v : Nat) (s : PS) : Rs Bool := (chooseR (slotN s.kn b) { beginS b s with turn := s.turn + 1 }).bind fun ts s2 => (wordsR (recS b v s.turn s2) ts.1 ts.2 (rcpOf s2) s2).bind fun _ s3 => tailW (slotN s.kn b).isSome s3
def RB : Bool → Hp → Hp → V → Prop := fun b _ _ v => v = .bl b
def spWriteP (c : Cl) (X : Addr) : Sp := fun vs H Q E => ∃ (P : Pp) (ks : List Kp) (s : PS) (b v : Nat), vs = [.ref P.p, .int (b : Int), .int (v : Int)] ∧ PairAt c H P ks s ∧ WF s ∧ s.on = true ∧ Lim 700 s ∧ b < s.nb ∧ v ≤ 999 ∧ (∀ z ∈ s.rcs, z.length ≤ 8) ∧ Go c X H P ks Q E RB (writeR b v s)
/-! ### an own exception without fields, its text written with values -/
section
open PySem PySem.Spec PySem.Calls PyProof.Rows L2
/-- the class called with one value, wherever that came from -/
theorem ownJ_end {X : Cx} {C : Addr} {bs : List Value} {B mk ini : String} {pins : List (Addr × Obj)} {σ : L2.St} {H : Hp} {s : Shared} {Q : XK} {u : Value} (fb : ExcBaseFacts B mk ini bs) (isx : PySem.W.excIn X.K C bs mk = true) (ra : Raises X (.ref C)) (J : Inv X pins σ H s) (q : Q (.ref C) none H) :
    wpAny (model X.prog X.w) X.A (call (.ref C) [u]) (L2N.MkP X pins σ Q) X.xe s := by
  obtain ⟨_, _, _, _, _, _, _, _, _, _, _, _, _, _, _, _, _, eC, eN, nN, tl⟩ := L2.exc_obj J.kIn isx
  have one : ([u] : List Value).length ≤ sizeLine := by
    rw [sizeLine_eq]
    exact Nat.succ_le_of_lt (by decide : 0 < 16777216)
  exact wpAny_call_exc_subT fb tl eC eN nN (fun hh e mh => L2N.mk_of J mh ra q (J.hok.gone mh.new)) one
theorem ownJ {X : Cx} {C : Addr} {bs : List Value} {B mk ini : String} {x : Str} {e : Expr} {ta : TE} {p pos : Pos} (fb : ExcBaseFacts B mk ini bs) (isx : PySem.W.excIn X.K C bs mk = true) (gC : X.mg x = some (.ref C)) (kC : PySem.W.keepIn X.K (.ref C) = true) (ra : Raises X (.ref C)) (hg : Gl X x)
    (he : PE X e ta) (hs : starEach [e] X.env = (false, eval e X.env) :: starEach [] X.env := by rfl) (hdb : (x == ("__debug__" : Str)) = false := by decide) :
    L2N.PMk X (.Call (.Name x p) [e] [] pos) (fun σ H Q => ta σ H fun _ H1 => Q (.ref C) none H1) := fun pins s σ H Q I h => by
  have args := he.run pins s σ H _ I h
  have tail : wpAny (model X.prog X.w) X.A (spliced (backTo pos (starEach [e] X.env))) (fun us s1 => X.K.In s1.heap ∧ wpAny (model X.prog X.w) X.A (call (.ref C) us) (L2N.MkP X pins σ Q) X.xe s1) X.xe s := by
    rw [hs]
    exact Calls.spliced_cons (thn args fun u s1 got => by
      obtain ⟨v, H1, J, _, q⟩ := got
      exact Calls.spliced_nil ⟨J.kIn, ownJ_end fb isx ra J q⟩)
  exact wpAny_Call_Name_kw (ld_glob I hg gC (PySem.W.callWith_K (h₀ := X.base) I.ok.mod.kin kC tail hs (by rfl)) hdb)
end
/-! ### a write -/
theorem beginS_same (b : Nat) (s : PS) : (beginS b s).turn = s.turn ∧ (beginS b s).nb = s.nb ∧ (beginS b s).ms = s.ms ∧ (beginS b s).rcs = s.rcs ∧ (beginS b s).wr = s.wr ∧ (beginS b s).bd = s.bd ∧ (beginS b s).sl = s.sl ∧ (beginS b s).fa = s.fa ∧ (beginS b s).on = s.on := by
  unfold beginS
  split <;> exact ⟨rfl, rfl, rfl, rfl, rfl, rfl, rfl, rfl, rfl⟩
theorem beginS_at {b i : Nat} {s : PS} (h : slotN s.kn b = some i) : (atN (beginS b s).kn i).isSome = true := by
  unfold beginS
  rw [h]
  exact useN_at (slotN_at h)
theorem beginW {b : Nat} {s : PS} (g : WF s) : WF { beginS b s with turn := s.turn + 1 } := by
  have h := beginS_wf (b := b) g
  exact ⟨h.sl, h.fa, h.some1, h.few, h.kn, h.cl, h.nof⟩
theorem rcpOf_len {s : PS} (h : ∀ z ∈ s.rcs, z.length ≤ 8) : (rcpOf s).length ≤ 8 := by
  have g : ∀ i, (s.rcs.getD i []).length ≤ 8 := fun i => by
    rw [List.getD_eq_getElem?_getD]
    cases e : s.rcs[i]? with
    | none => exact Nat.zero_le _
    | some z => exact h z (List.mem_of_getElem? e)
  unfold rcpOf
  split
  · exact g 2
  · split
    · exact g 1
    · exact g 0
section
variable {P : Program} {w : World} {K : PySem.W.Frag} {mg : Str → Option Value} {base : Heap} {file : Str}
theorem ok_writeP (HP : ProgOk P file) (T : Gx K mg) (hf : file = T.file) : FnOk P w K mg base (L2N.CX P w) 9 T.f_Pair_write T.fd_Pair_write ["self", "block", "value"] (spWriteP (clT T) T.C_PowerFailed) := by
  have G_is_number_from : FnOk P w K mg base CX0 2 T.f_is_number_from T.fd_is_number_from ["thing", "least", "most"] (spNumFrom K) := ok_numFrom T
  have G_Rules_writing : FnOk P w K mg base CX0 1 T.f_Rules_writing T.fd_Rules_writing ["self"] (spGet T.C_Rules "_writing") := ok_writing T
  have G_Rules_bound : FnOk P w K mg base CX0 1 T.f_Rules_bound T.fd_Rules_bound ["self"] (spGet T.C_Rules "_bound") := ok_bound T
  have G_Memory_dirty_slots : FnOk P w K mg base CX0 2 T.f_Memory_dirty_slots T.fd_Memory_dirty_slots ["self"] (spDirty T.C_Memory T.C_KnownSlot) := ok_dirty T
  have G_Pair__check_on : FnOk P w K mg base CX0 1 T.f_Pair__check_on T.fd_Pair__check_on ["self"] (spOnG (clT T)) := ok_onG T
  have G_Pair__check_block : FnOk P w K mg base CX0 3 T.f_Pair__check_block T.fd_Pair__check_block ["self", "block"] (spBlkG (clT T)) := ok_blkG T
  have G_Pair__begin_request : FnOk P w K mg base CX0 2 T.f_Pair__begin_request T.fd_Pair__begin_request ["self", "block"] (spBeginG (clT T)) := ok_beginG T
  have G_Pair__recipe_for_writing : FnOk P w K mg base CX0 3 T.f_Pair__recipe_for_writing T.fd_Pair__recipe_for_writing ["self"] (spRcpG (clT T)) := ok_rcpG T
  have G_Pair__choose_slots := ok_choose (w := w) (base := base) HP T hf
  have G_Pair__carry_out := ok_carry (w := w) (base := base) HP T hf
  have G_Pair__clean_least_turns := ok_least (w := w) (base := base) HP T hf
  refine FunOkC T.F_Pair_write sc_Pair_write (fun vs H Q E h => ?_) (fun cdv A outer s H vs Q E hr h => ?_)
  · obtain ⟨P, ks, s, b, v, rfl, _⟩ := h
    rfl
  · obtain ⟨P, ks, s, b, v, rfl, hP, hw, hon, hl, hb, hv, hrc, k⟩ := h
    refine ⟨_, (pss_cons (ps_expr (pe_meth0 (pv 0) T.cl_Pair T.m_Pair__check_on G_Pair__check_on (hr.mono (by first | decide | omega)) (b_Pair__check_on T) .nil pass0))
      (pss_cons (ps_expr (pe_meth (pv 0) T.cl_Pair T.m_Pair__check_block G_Pair__check_block (hr.mono (by first | decide | omega)) (b_Pair__check_block T) .nil pass0 (pa_cons (pv 1) pa_nil)))
      (pss_cons (ps_if (pt_not (pt_val (pe_call G_is_number_from (hr.mono (by first | decide | omega)) (by rfl) T.g_is_number_from T.F_is_number_from.kp (b_is_number_from T) .nil pass0 (pa_cons (pv 2) (pa_cons pe_int (pa_cons (pe_glob (v := .int (999)) (by rfl) T.c_MOST_VALUE ⟨_, rfl⟩) pa_nil)))))) (pss_one (L2N.ps_raise rfl (L2N.takes_of rfl rfl rfl rfl) (ownJ PySem.F.excBase_ValueError T.pl_InvalidValue T.gC_InvalidValue T.kp_InvalidValue (raises_own T.E_InvalidValue.hs T.ty_InvalidValue) (by rfl) (pe_joined (.cons pe_str (.cons (pe_fmt (pe_glob (v := .int (999)) (by rfl) T.c_MOST_VALUE ⟨_, rfl⟩)) .nil)))))) pss_nil)
      (pss_cons (ps_set (i := 3) sc_Pair_write.nd rfl (.inl rfl) (pe_meth (pv 0) T.cl_Pair T.m_Pair__begin_request G_Pair__begin_request (hr.mono (by first | decide | omega)) (b_Pair__begin_request T) .nil pass0 (pa_cons (pv 1) pa_nil)))
      (pss_cons (ps_set (i := 4) sc_Pair_write.nd rfl (.inl rfl) (pe_fld (pv 0) rfl))
      (pss_cons (ps_fldaug (pv 0) pe_int in_add)
      (pss_cons (ps_asg (pe_meth (pv 0) T.cl_Pair T.m_Pair__choose_slots G_Pair__choose_slots (hr.mono (by first | decide | omega)) (b_Pair__choose_slots T) .nil (L2N.passes_call (L2N.takes_of rfl rfl rfl rfl) (fun _ _ _ _ h => h)) (pa_cons (pv 3) pa_nil)) (pg_tup (by rfl) (pgs_cons (pg_name (i := 5) sc_Pair_write.nd rfl (.inl rfl)) (pgs_cons (pg_name (i := 6) sc_Pair_write.nd rfl (.inl rfl)) pgs_nil))))
      (pss_cons (ps_set (i := 7) sc_Pair_write.nd rfl (.inl rfl) (pe_tup (pa_cons (pv 1) (pa_cons (pv 2) (pa_cons (pv 4) (pa_cons (pe_cmpR op_eq (pe_prop (pe_fld (pv 0) rfl) T.cl_Rules T.P_Rules_writing G_Rules_writing (hr.mono (by first | decide | omega)) (b_Rules_writing T) .nil pass0 rfl) pe_str (nomark _)) pa_nil))))))
      (pss_cons (ps_for PassesOwn.leaving rfl (pi_tup (pe_meth0 (pv 0) T.cl_Pair T.m_Pair__recipe_for_writing G_Pair__recipe_for_writing (hr.mono (by first | decide | omega)) (b_Pair__recipe_for_writing T) .nil pass0)) (pg_name (i := 8) sc_Pair_write.nd rfl (.inl rfl)) (pss_one (ps_expr (pe_meth (pv 0) T.cl_Pair T.m_Pair__carry_out G_Pair__carry_out (hr.mono (by first | decide | omega)) (b_Pair__carry_out T) .nil (L2N.passes_call (L2N.takes_of rfl rfl rfl rfl) (fun _ _ _ _ h => h)) (pa_cons (pv 8) (pa_cons (pv 7) (pa_cons (pv 5) (pa_cons (pv 6) pa_nil))))))))
      (pss_cons (ps_if (pt_cmpR op_eq (pe_prop (pe_fld (pv 0) rfl) T.cl_Rules T.P_Rules_writing G_Rules_writing (hr.mono (by first | decide | omega)) (b_Rules_writing T) .nil pass0 rfl) pe_str (nomark _)) (pss_one (ps_expr (pe_meth (pv 0) T.cl_Pair T.m_Pair__clean_least_turns G_Pair__clean_least_turns (hr.mono (by first | decide | omega)) (b_Pair__clean_least_turns T) .nil (L2N.passes_call (L2N.takes_of rfl rfl rfl rfl) (fun _ _ _ _ h => h)) (pa_cons (pe_op op_sub (pe_callB call_len_seq (by rfl) T.z_len (by decide +kernel) (pa_cons (pe_meth0 (pe_fld (pv 0) rfl) T.cl_Memory T.m_Memory_dirty_slots G_Memory_dirty_slots (hr.mono (by first | decide | omega)) (b_Memory_dirty_slots T) .nil pass0) pa_nil)) (pe_prop (pe_fld (pv 0) rfl) T.cl_Rules T.P_Rules_bound G_Rules_bound (hr.mono (by first | decide | omega)) (b_Rules_bound T) .nil pass0 rfl)) pa_nil)))) pss_nil)
      (pss_cons (ps_fld (pv 0) pe_bl rfl)
      (pss_one (ps_ret (pe_cmpR op_notN (pv 3) pe_non (nomark _))))))))))))))), ?_⟩
    refine ⟨_, rfl, P.p, P.px, _, rfl, hP.ins, pF_no__check_on, P, ks, s, rfl, hP, hon, ?_⟩
    refine ⟨_, rfl, P.p, P.px, _, rfl, hP.ins, pF_no__check_block, _, rfl, P, ks, s, b, rfl, hP, hb, ?_⟩
    refine ⟨_, rfl, .int (v : Int), 0, 999, rfl, .inl ⟨(v : Int), rfl, _, rfl, ?_⟩⟩
    have ev : (decide ((0 : Int) ≤ (v : Int)) && decide ((v : Int) ≤ 999)) = true := by
      rw [Bool.and_eq_true, decide_eq_true_eq, decide_eq_true_eq]
      omega
    rw [ev]
    refine iteF ?_
    refine ⟨_, rfl, P.p, P.px, _, rfl, hP.ins, pF_no__begin_request, _, rfl, P, ks, s, b, rfl, hP, fun H1 ks1 c1 => ?_⟩
    have hP1 := c1.at_
    obtain ⟨q1, q2, q3, q4, q5, q6, q7, q8, q9⟩ := beginS_same b s
    refine ⟨_, rfl, P.p, T.C_Pair, P.px, _, _, rfl, hP1.ins, T.cl_Pair, T.n_Pair__next_turn, pF_get9, ?_⟩
    refine ⟨_, rfl, P.p, T.C_Pair, P.px, _, _, rfl, hP1.ins, T.cl_Pair, T.n_Pair__next_turn, pF_get9, _, _, rfl, rfl, P.px, _, hP1.ins, by simp [PS.fs, pF], ?_⟩
    unfold PS.fs
    rw [pF_put9]
    rw [q1]
    generalize hH2 : upd H1 P.p _ = H2
    have c2 : Ch (clT T) H P ks H2 P ks1 { beginS b s with turn := s.turn + 1 } := by
      rw [← hH2]
      exact c1.trans (hP1.setP0 ⟨rfl, rfl, rfl, rfl, rfl⟩ rfl rfl rfl rfl rfl (Fr.put (by simp)) upd_same)
    clear hH2
    have hP2 := c2.at_
    have k2 : Go (clT T) T.C_PowerFailed H2 P ks1 Q E RB (writeR b v s) := k.from (R' := RB) c2 fun a H' v hv => hv
    unfold writeR at k2
    have hat : ∀ i, slotN s.kn b = some i → (atN (beginS b s).kn i).isSome = true := fun i e => beginS_at e
    have w2 : WF { beginS b s with turn := s.turn + 1 } := beginW hw
    have l2 : Lim 700 { beginS b s with turn := s.turn + 1 } := ⟨by show (beginS b s).sl.w ≤ 700; rw [q7]; exact hl.1, fun d e => hl.2 d (by rw [← q8]; exact e)⟩
    have hb2 : b < (beginS b s).nb := by rw [q2]; exact hb
    have hr2 : ∀ z ∈ (beginS b s).rcs, z.length ≤ 8 := by rw [q4]; exact hrc
    clear c1 hP1 c2 k
    refine ⟨_, rfl, P.p, P.px, _, rfl, hP2.ins, pF_no__choose_slots, _, rfl, P, ks1, _, slotN s.kn b, rfl, hP2, w2, l2.up (by omega), hat, Go.seq k2 fun ts s2 e2 k3 H3 P3 ks3 v3 c3 hv3 => ?_⟩
    obtain ⟨t3, rfl, et3⟩ := hv3
    obtain ⟨m2, in1, in2⟩ := chooseR_ok w2 hat e2
    have hP3 := c3.at_
    refine ⟨t3, _, rfl, SqT.of et3, rfl, _, _, rfl, _, _, rfl, rfl, ?_⟩
    obtain ⟨l3, sl3, fa3, kn3, ex3⟩ := m2.ex
    have w3 := m2.wf w2
    have lim3 := m2.lim 700 l2
    have hb3 : b < s2.nb := by rw [ex3]; exact hb2
    have hr3 : ∀ z ∈ s2.rcs, z.length ≤ 8 := by rw [ex3]; exact hr2
    rw [← c3.p]
    refine ⟨_, rfl, _, rfl, _, rfl, _, rfl, P3.p, T.C_Pair, P3.px, _, _, rfl, hP3.ins, T.cl_Pair, T.n_Pair__rules, pF_get1, P3.ru, P3.rx, _, rfl, hP3.rul, P3.ru, P3.rx, _, _, rfl, hP3.rul, rF_get0, rfl, sz_le (by simp), fun t4 ht4 => ?_⟩
    generalize hH4 : upd H3 t4 _ = H4
    have ch4 : Ch (clT T) H3 P3 ks3 H4 P3 ks3 s2 := by
      rw [← hH4]
      exact (Ch.refl hP3).keep0 (Fr.new ht4)
    have e4 : H4 t4 = some (.tup (recS b v s.turn s2).vs) := by
      rw [← hH4]
      exact upd_same
    clear hH4 ht4
    have k4 := k3.from (R' := RB) (c3.trans ch4) fun a H' v hv => hv
    have hP4 := ch4.at_
    clear k3 c3 ch4 hP3 k2 hP2
    refine ⟨_, rfl, P3.p, P3.px, _, rfl, hP4.ins, pF_no__recipe_for_writing, P3, ks3, s2, rfl, hP4, fun tr etr => ?_⟩
    have hzl := rcpOf_len hr3
    generalize rcpOf s2 = zs at *
    have n4 : ∀ {H5 : Hp} {P5 : Pp} {ks5 : List Kp} {s5 : PS}, Ch (clT T) H4 P3 ks3 H5 P5 ks5 s5 → H5 t4 = some (.tup (recS b v s.turn s2).vs) ∧ H5 tr = some (.tup (sV zs)) := fun c => ⟨c.fr _ _ e4 (fun z => hP4.notup _ z _ e4), c.fr _ _ etr (fun z => hP4.notup _ z _ etr)⟩
    refine ⟨tr, rfl, ⟨_, SqT.of etr⟩, for_it (walk_tup (K := K) (a := tr) (xs := sV zs)) (fun j σ' H' => ∃ (P' : Pp) (ks' : List Kp) (s' : PS) (v8 : Option V), σ' = [some (.ref P3.p), some (.int (b : Int)), some (.int (v : Int)), some (slV (slotN s.kn b)), some (.int (s.turn : Int)), some (slV ts.1), some (slV ts.2), some (.ref t4), v8] ∧ Ch (clT T) H4 P3 ks3 H' P' ks' s' ∧ Mw j s2 s' ∧ Go (clT T) T.C_PowerFailed H4 P3 ks3 Q E RB ((wordsR (recS b v s.turn s2) ts.1 ts.2 (zs.drop j) s').bind fun _ s3 => tailW (slotN s.kn b).isSome s3))
      ⟨P3, ks3, s2, none, rfl, Ch.refl hP4, (Mv.refl s2).mw, k4⟩ (fun j σ' H' _ h => by
        obtain ⟨_, _, _, _, _, ch, _⟩ := h
        exact SqT.of (n4 ch).2) ?_ ?_⟩
    · rintro j y σ1 H5 H6 hj ⟨P', ks', s', v8, rfl, ch, mw, k5⟩ ⟨rfl, ey⟩
      obtain ⟨z, rfl, hz1⟩ := sV_at ey
      have hjl : j < zs.length := lt_of_at hz1
      have ezj : zs[j] = z := by
        rw [List.getElem?_eq_getElem hjl] at hz1
        exact Option.some.inj hz1
      rw [List.drop_eq_getElem_cons hjl, ezj] at k5
      rw [show wordsR (recS b v s.turn s2) ts.1 ts.2 (z :: zs.drop (j + 1)) s' = (carryR z (recS b v s.turn s2) ts.1 ts.2 s').bind fun _ s3 => wordsR (recS b v s.turn s2) ts.1 ts.2 (zs.drop (j + 1)) s3 from rfl, Rs.assoc] at k5
      have hP' := ch.at_
      have hw' := mw.wf w3
      have hl' := mw.lim _ lim3
      obtain ⟨l5, sl5, fa5, kn5, dn5, ex5⟩ := mw.ex
      have hb' : (recS b v s.turn s2).blk < s'.nb := by rw [ex5]; exact hb3
      have i1 := in1.mw mw
      have i2 := in2.mw mw
      rw [← ch.p]
      refine ⟨_, rfl, P'.p, P'.px, _, rfl, hP'.ins, pF_no__carry_out, _, rfl, _, rfl, _, rfl, _, rfl, P', ks', s', z, t4, recS b v s.turn s2, ts.1, ts.2, rfl, hP', hw', hl'.up (by omega), (n4 ch).1, hb', i1, i2, ?_⟩
      cases er : carryR z (recS b v s.turn s2) ts.1 ts.2 s' with
      | ok u s6 =>
        rw [er] at k5
        exact fun H7 P7 ks7 v7 c7 _ => ⟨P7, ks7, s6, _, rfl, ch.trans c7, mw.trans (carryR_ok hb' i1 i2 er), k5⟩
      | pf bb s6 =>
        rw [er] at k5
        exact fun H7 P7 ks7 dx c7 e7 => k5 H7 P7 ks7 dx (ch.trans c7) e7
    · rintro σ1 H5 ⟨P', ks', s', v8, rfl, ch, mw, k5⟩
      rw [sV_len, List.drop_length] at k5
      have hP' := ch.at_
      have hw' := mw.wf w3
      have hl' := mw.lim _ lim3
      rw [← ch.p]
      have k6 : Go (clT T) T.C_PowerFailed H4 P3 ks3 Q E RB (tailW (slotN s.kn b).isSome s') := k5
      unfold tailW at k6
      have eo : (!decide (slV (slotN s.kn b) = V.non)) = (slotN s.kn b).isSome := by cases slotN s.kn b <;> rfl
      have last : ∀ (H7 : Hp) (P7 : Pp) (ks7 : List Kp) (s7 : PS), Ch (clT T) H4 P3 ks3 H7 P7 ks7 s7 → Go (clT T) T.C_PowerFailed H4 P3 ks3 Q E RB (.ok (slotN s.kn b).isSome { s7 with done := false }) → Q (.bl (slotN s.kn b).isSome) (upd H7 P7.p (.ins T.C_Pair P7.px (PS.fs { s7 with done := false } P7))) := fun H7 P7 ks7 s7 c7 k7 => k7 _ P7 ks7 _ (c7.trans (c7.at_.setP0 ⟨rfl, rfl, rfl, rfl, rfl⟩ rfl rfl rfl rfl rfl (Fr.put (by simp)) upd_same)) rfl
      refine ⟨_, rfl, P'.p, T.C_Pair, P'.px, _, _, rfl, hP'.ins, T.cl_Pair, T.n_Pair__rules, pF_get1, P'.ru, P'.rx, _, rfl, hP'.rul, P'.ru, P'.rx, _, _, rfl, hP'.rul, rF_get0, rfl, _, rfl, iteB (fun e => ?_) fun e => ?_⟩
      · rw [if_pos (of_decide_eq_true e), Rs.assoc] at k6
        refine ⟨_, rfl, P'.p, P'.px, _, rfl, hP'.ins, pF_no__clean_least_turns, _, rfl, P'.p, T.C_Pair, P'.px, _, _, rfl, hP'.ins, T.cl_Pair, T.n_Pair__memory, pF_get5, P'.M.m, P'.M.x, _, rfl, hP'.mem.ins, mF_no_dirty_slots, P'.M, s'.ms, ks', rfl, hP'.mem, fun D ps H6 hD f6 eD hL => ?_⟩
        rw [hP'.kno] at hL
        have eDl := dirtyL_eq hL
        have hlen : (((ps.map Prod.snd).map V.int).length : Int) = ((dirtyN s'.kn).length : Int) := by
          rw [List.length_map, eDl, List.length_map]
        have ch6 := ch.keep0 f6
        have hP6 := ch6.at_
        refine ⟨D, _, rfl, .inl (SqL.of eD), ?_⟩
        rw [hlen]
        refine ⟨_, rfl, P'.p, T.C_Pair, P'.px, _, _, rfl, hP6.ins, T.cl_Pair, T.n_Pair__rules, pF_get1, P'.ru, P'.rx, _, rfl, hP6.rul, P'.ru, P'.rx, _, _, rfl, hP6.rul, rF_get3, _, _, rfl, rfl, P', ks', s', _, rfl, hP6, hw', hl'.up (by rw [sV_len]; omega), ?_⟩
        refine Go.seq ((k6.from (R' := RB) ch6 fun a H' v hv => hv)) fun u s7 e7 k7 H7 P7 ks7 v7 c7 _ => ?_
        have hP7 := c7.at_
        rw [← c7.p]
        refine ⟨_, rfl, P7.p, T.C_Pair, P7.px, _, rfl, hP7.ins, T.cl_Pair, T.n_Pair__is_done, by simp [PS.fs, pF], ?_⟩
        unfold PS.fs
        rw [pF_put12]
        refine ⟨_, rfl, rfl, ?_⟩
        show Q (.bl (!decide (slV (slotN s.kn b) = V.non))) _
        rw [eo]
        exact k7 _ P7 ks7 _ (c7.trans (hP7.setP0 ⟨rfl, rfl, rfl, rfl, rfl⟩ rfl rfl rfl rfl rfl (Fr.put (by simp)) upd_same)) rfl
      · rw [if_neg (of_decide_eq_false e)] at k6
        refine ⟨_, rfl, P'.p, T.C_Pair, P'.px, _, rfl, hP'.ins, T.cl_Pair, T.n_Pair__is_done, by simp [PS.fs, pF], ?_⟩
        unfold PS.fs
        rw [pF_put12]
        refine ⟨_, rfl, rfl, ?_⟩
        show Q (.bl (!decide (slV (slotN s.kn b) = V.non))) _
        rw [eo]
        exact last H5 P' ks' s' ch k6
end
def spCounts (C : Addr) : Sp := fun vs H Q _ => ∃ (D : Dk) (cs ls : List V) (ps : List (Nat × V)) (r w s : Int), vs = [.ref D.p] ∧ DiskAt C H D cs ls ps r w s ∧ ∀ t, H t = none → Q (.ref t) (upd H t (.tup [.int r, .int w, .int s]))
section
variable {P : Program} {w : World} {K : PySem.W.Frag} {mg : Str → Option Value} {base : Heap}
theorem ok_counts (T : Gx K mg) : FnOk P w K mg base CX0 1 T.f_Disk_counts T.fd_Disk_counts ["self"] (spCounts T.C_Disk) := by
  refine T.F_Disk_counts.ok sc_Disk_counts (fun vs H Q E h => ?_) (fun cdv A outer s H vs Q E hr h => ?_)
  · obtain ⟨D, cs, ls, ps, r, w', s', rfl, _⟩ := h
    rfl
  · obtain ⟨D, cs, ls, ps, r, w', s', rfl, hD, k⟩ := h
    refine ⟨_, (pss_one (ps_ret (pe_tup (pa_cons (pe_fld (pv 0) rfl) (pa_cons (pe_fld (pv 0) rfl) (pa_cons (pe_fld (pv 0) rfl) pa_nil)))))), ?_⟩
    exact ⟨_, rfl, D.p, T.C_Disk, _, _, _, rfl, hD.ins, T.cl_Disk, T.n_Disk__reads, dF_get3, _, rfl, D.p, T.C_Disk, _, _, _, rfl, hD.ins, T.cl_Disk, T.n_Disk__writes, dF_get4, _, rfl, D.p, T.C_Disk, _, _, _, rfl, hD.ins, T.cl_Disk, T.n_Disk__syncs, dF_get5, sz_le (by simp), k⟩
end
/-! ### what is no request -/
def settleR (s : PS) : Rs Unit := (ySlow s).bind fun _ s1 => yFast s1
def forgS (b : Nat) (s : PS) : Bool × PS := match slotN s.kn b with
  | none => (false, s)
  | some i => if ((atN s.kn i).map fun q => q.rc.dirty) = some false then (true, { s with kn := forgetN i s.kn }) else (false, s)
def spSettle (c : Cl) (X : Addr) : Sp := fun vs H Q E => ∃ (P : Pp) (ks : List Kp) (s : PS), vs = [.ref P.p] ∧ PairAt c H P ks s ∧ s.on = true ∧ Go c X H P ks Q E RU (settleR s)
def spForgP (c : Cl) : Sp := fun vs H Q _ => ∃ (P : Pp) (ks : List Kp) (s : PS) (b : Nat), vs = [.ref P.p, .int (b : Int)] ∧ PairAt c H P ks s ∧ s.on = true ∧ b < s.nb ∧ ∀ (H' : Hp) (ks' : List Kp), Ch c H P ks H' P ks' (forgS b s).2 → Q (.bl (forgS b s).1) H'
def spCleanUp (c : Cl) (X : Addr) : Sp := fun vs H Q E => ∃ (P : Pp) (ks : List Kp) (s : PS) (n : Nat), vs = [.ref P.p, .int (n : Int)] ∧ PairAt c H P ks s ∧ WF s ∧ s.on = true ∧ Lim 800 s ∧ n ≤ 8 ∧ Go c X H P ks Q E RL (cleanLT n s)
def spFailAt (c : Cl) : Sp := fun vs H Q _ => ∃ (P : Pp) (ks : List Kp) (s : PS) (o : Option Nat), vs = [.ref P.p, slV o] ∧ PairAt c H P ks s ∧ s.on = true ∧ (∀ n, o = some n → n ≤ 999) ∧ ∀ H' : Hp, Ch c H P ks H' P ks { s with left := o } → Q .non H'
def spCut (c : Cl) : Sp := fun vs H Q _ => ∃ (P : Pp) (ks : List Kp) (s : PS), vs = [.ref P.p] ∧ PairAt c H P ks s ∧ s.on = true ∧ ∀ (H' : Hp) (P' : Pp), Ch c H P ks H' P' [] (offS s) → Q .non H'
section
variable {P : Program} {w : World} {K : PySem.W.Frag} {mg : Str → Option Value} {base : Heap} {file : Str}
theorem ok_failAt (T : Gx K mg) : FnOk P w K mg base CX0 3 T.f_Pair_fail_at T.fd_Pair_fail_at ["self", "steps"] (spFailAt (clT T)) := by
  have G_is_number_from : FnOk P w K mg base CX0 2 T.f_is_number_from T.fd_is_number_from ["thing", "least", "most"] (spNumFrom K) := ok_numFrom T
  have G_Pair__check_on : FnOk P w K mg base CX0 1 T.f_Pair__check_on T.fd_Pair__check_on ["self"] (spOnG (clT T)) := ok_onG T
  refine T.F_Pair_fail_at.ok sc_Pair_fail_at (fun vs H Q E h => ?_) (fun cdv A outer s H vs Q E hr h => ?_)
  · obtain ⟨P, ks, s, o, rfl, _⟩ := h
    rfl
  · obtain ⟨P, ks, s, o, rfl, hP, hon, ho, k⟩ := h
    refine ⟨_, (pss_cons (ps_expr (pe_meth0 (pv 0) T.cl_Pair T.m_Pair__check_on G_Pair__check_on (hr.mono (by first | decide | omega)) (b_Pair__check_on T) .nil pass0))
      (pss_cons (ps_if (PW.pt (pw_and (pt_cmpR op_notN (pv 1) pe_non (nomark _)) (pw_and1 (pt_not (pt_val (pe_call G_is_number_from (hr.mono (by first | decide | omega)) (by rfl) T.g_is_number_from T.F_is_number_from.kp (b_is_number_from T) .nil pass0 (pa_cons (pv 1) (pa_cons pe_int (pa_cons (pe_glob (v := .int (999)) (by rfl) T.c_MOST_STEPS_AHEAD ⟨_, rfl⟩) pa_nil))))))))) (pss_one ps_never) pss_nil)
      (pss_one (ps_fld (pv 0) (pv 1) rfl)))), ?_⟩
    refine ⟨_, rfl, P.p, P.px, _, rfl, hP.ins, pF_no__check_on, P, ks, s, rfl, hP, hon, ?_⟩
    have fin : Q .non (upd H P.p (.ins T.C_Pair P.px (PS.fs { s with left := o } P))) := k _ (hP.setP0 ⟨rfl, rfl, rfl, rfl, rfl⟩ rfl rfl rfl rfl rfl (Fr.put (by simp)) upd_same)
    refine ⟨_, rfl, rfl, _, rfl, ?_⟩
    cases o with
    | none =>
      refine iteF ⟨_, rfl, _, rfl, P.p, T.C_Pair, P.px, _, rfl, hP.ins, T.cl_Pair, T.n_Pair__steps_left, by simp [PS.fs, pF], ?_⟩
      rw [PS.fs, pF_put10]
      exact fin
    | some n =>
      have hn := ho n rfl
      refine iteT ⟨_, rfl, .int (n : Int), 0, 999, rfl, .inl ⟨(n : Int), rfl, ?_⟩⟩
      have ev : (decide ((0 : Int) ≤ (n : Int)) && decide ((n : Int) ≤ 999)) = true := by
        rw [Bool.and_eq_true, decide_eq_true_eq, decide_eq_true_eq]
        omega
      rw [ev]
      refine ⟨_, rfl, iteF ⟨_, rfl, _, rfl, P.p, T.C_Pair, P.px, _, rfl, hP.ins, T.cl_Pair, T.n_Pair__steps_left, by simp [PS.fs, pF], ?_⟩⟩
      rw [PS.fs, pF_put10]
      exact fin
end
/-! ### a read -/
def slowV (b : Nat) (s : PS) : Nat := s.sl.cs.getD b 0
def cellV (i : Nat) (s : PS) : Nat := match s.fa with
  | none => 0
  | some d => match d.cs[i]? with
    | some (some rc) => rc.val
    | _ => 0
def keepR (b v : Nat) (s : PS) : Rs Nat := (takeR s).bind fun i s2 => (wRec i ⟨b, v, 0, false⟩ s2).bind fun _ s3 => .ok v s3
def readR (b : Nat) (s : PS) : Rs Nat := match slotN s.kn b with
  | some i => .ok (cellV i s) { beginS b s with fa := s.fa.map DS.rd }
  | none => if V.str s.rd = V.str "keep" ∧ s.fa.isSome = true then keepR b (slowV b s) { beginS b s with sl := s.sl.rd } else .ok (slowV b s) { beginS b s with sl := s.sl.rd }
/-- a known slot's cell holds a record -/
def Cel (s : PS) : Prop := ∀ q ∈ s.kn, ∀ d, s.fa = some d → ∃ rc : Rc, d.cs[q.slot]? = some (some rc) ∧ rc.blk = q.rc.blk ∧ rc.val = q.rc.val
def spReadP (c : Cl) (X : Addr) : Sp := fun vs H Q E => ∃ (P : Pp) (ks : List Kp) (s : PS) (b : Nat), vs = [.ref P.p, .int (b : Int)] ∧ PairAt c H P ks s ∧ WF s ∧ Cel s ∧ s.on = true ∧ Lim 800 s ∧ b < s.nb ∧ Go c X H P ks Q E RI (readR b s)
theorem slotN_in {kn : List Kn} {b i : Nat} (h : slotN kn b = some i) : ∃ q ∈ kn, q.slot = i ∧ q.rc.blk = b := by
  unfold slotN at h
  cases ef : kn.find? (fun q => decide (q.rc.blk = b)) with
  | none => rw [ef] at h; cases h
  | some q =>
    rw [ef] at h
    cases h
    exact ⟨q, List.mem_of_find?_eq_some ef, rfl, of_decide_eq_true (List.find?_some (p := fun (q : Kn) => decide (q.rc.blk = b)) ef)⟩
section
variable {P : Program} {w : World} {K : PySem.W.Frag} {mg : Str → Option Value} {base : Heap} {file : Str}
theorem ok_readP (HP : ProgOk P file) (T : Gx K mg) (hf : file = T.file) : FnOk P w K mg base (L2N.CX P w) 8 T.f_Pair_read T.fd_Pair_read ["self", "block"] (spReadP (clT T) T.C_PowerFailed) := by
  have G_Disk_read : FnOk P w K mg base CX0 4 T.f_Disk_read T.fd_Disk_read ["self", "cell"] (spRead T.C_Disk) := ok_read T
  have G_Rules_reading : FnOk P w K mg base CX0 1 T.f_Rules_reading T.fd_Rules_reading ["self"] (spGet T.C_Rules "_reading") := ok_reading T
  have G_Pair__check_on : FnOk P w K mg base CX0 1 T.f_Pair__check_on T.fd_Pair__check_on ["self"] (spOnG (clT T)) := ok_onG T
  have G_Pair__check_block : FnOk P w K mg base CX0 3 T.f_Pair__check_block T.fd_Pair__check_block ["self", "block"] (spBlkG (clT T)) := ok_blkG T
  have G_Pair__begin_request : FnOk P w K mg base CX0 2 T.f_Pair__begin_request T.fd_Pair__begin_request ["self", "block"] (spBeginG (clT T)) := ok_beginG T
  have G_Pair__take_slot := ok_takeS (w := w) (base := base) HP T hf
  have G_Pair__write_record := ok_writeR (w := w) (base := base) HP T hf
  refine FunOkC T.F_Pair_read sc_Pair_read (fun vs H Q E h => ?_) (fun cdv A outer s H vs Q E hr h => ?_)
  · obtain ⟨P, ks, s, b, rfl, _⟩ := h
    rfl
  · obtain ⟨P, ks, s, b, rfl, hP, hw, hc, hon, hl, hb, k⟩ := h
    refine ⟨_, (pss_cons (ps_expr (pe_meth0 (pv 0) T.cl_Pair T.m_Pair__check_on G_Pair__check_on (hr.mono (by first | decide | omega)) (b_Pair__check_on T) .nil pass0))
      (pss_cons (ps_expr (pe_meth (pv 0) T.cl_Pair T.m_Pair__check_block G_Pair__check_block (hr.mono (by first | decide | omega)) (b_Pair__check_block T) .nil pass0 (pa_cons (pv 1) pa_nil)))
      (pss_cons (ps_set (i := 2) sc_Pair_read.nd rfl (.inl rfl) (pe_meth (pv 0) T.cl_Pair T.m_Pair__begin_request G_Pair__begin_request (hr.mono (by first | decide | omega)) (b_Pair__begin_request T) .nil pass0 (pa_cons (pv 1) pa_nil)))
      (pss_cons (ps_if (pt_cmpR op_notN (pv 2) pe_non (nomark _)) (pss_one (ps_ret (pe_ix ix_tup (pe_meth (pe_fld (pv 0) rfl) T.cl_Disk T.m_Disk_read G_Disk_read (hr.mono (by first | decide | omega)) (b_Disk_read T) .nil pass0 (pa_cons (pv 2) pa_nil)) (pe_glob (v := .int (1)) (by rfl) T.c_VALUE ⟨_, rfl⟩) (fun _ _ => rfl)))) pss_nil)
      (pss_cons (ps_set (i := 3) sc_Pair_read.nd rfl (.inl rfl) (pe_meth (pe_fld (pv 0) rfl) T.cl_Disk T.m_Disk_read G_Disk_read (hr.mono (by first | decide | omega)) (b_Disk_read T) .nil pass0 (pa_cons (pv 1) pa_nil)))
      (pss_cons (ps_if (PW.pt (pw_and (pt_cmpR op_eq (pe_prop (pe_fld (pv 0) rfl) T.cl_Rules T.P_Rules_reading G_Rules_reading (hr.mono (by first | decide | omega)) (b_Rules_reading T) .nil pass0 rfl) pe_str (nomark _)) (pw_and1 (pt_cmpR op_notN (pe_fld (pv 0) rfl) pe_non (nomark _))))) (pss_cons (ps_set (i := 4) sc_Pair_read.nd rfl (.inl rfl) (pe_meth0 (pv 0) T.cl_Pair T.m_Pair__take_slot G_Pair__take_slot (hr.mono (by first | decide | omega)) (b_Pair__take_slot T) .nil (L2N.passes_call (L2N.takes_of rfl rfl rfl rfl) (fun _ _ _ _ h => h))))
      (pss_one (ps_expr (pe_meth (pv 0) T.cl_Pair T.m_Pair__write_record G_Pair__write_record (hr.mono (by first | decide | omega)) (b_Pair__write_record T) .nil (L2N.passes_call (L2N.takes_of rfl rfl rfl rfl) (fun _ _ _ _ h => h)) (pa_cons (pv 4) (pa_cons (pe_tup (pa_cons (pv 1) (pa_cons (pv 3) (pa_cons pe_int (pa_cons pe_bl pa_nil))))) pa_nil)))))) pss_nil)
      (pss_one (ps_ret (pv 3))))))))), ?_⟩
    refine ⟨_, rfl, P.p, P.px, _, rfl, hP.ins, pF_no__check_on, P, ks, s, rfl, hP, hon, ?_⟩
    refine ⟨_, rfl, P.p, P.px, _, rfl, hP.ins, pF_no__check_block, _, rfl, P, ks, s, b, rfl, hP, hb, ?_⟩
    refine ⟨_, rfl, P.p, P.px, _, rfl, hP.ins, pF_no__begin_request, _, rfl, P, ks, s, b, rfl, hP, fun H1 ks1 c1 => ?_⟩
    have hP1 := c1.at_
    obtain ⟨q1, q2, q3, q4, q5, q6, q7, q8, q9⟩ := beginS_same b s
    refine ⟨_, rfl, rfl, _, rfl, ?_⟩
    unfold readR at k
    cases es : slotN s.kn b with
    | some i =>
      rw [es] at k
      dsimp only at k
      refine iteT ?_
      obtain ⟨q, hq, eqs, eqb⟩ := slotN_in es
      obtain ⟨hi, d, hd⟩ := at_InF hw (slotN_at es)
      obtain ⟨rc, hrc, _, hrv⟩ := hc q hq d hd
      rw [eqs] at hrc
      have ecv : cellV i s = rc.val := by
        unfold cellV
        rw [hd]
        show (match d.cs[i]? with | some (some rc) => rc.val | _ => 0) = rc.val
        rw [hrc]
      obtain ⟨D, eD, hR⟩ := hP1.fast (d := d) (by rw [q8]; exact hd)
      obtain ⟨cs, ls, ps, hD, a1, a2, a3, a4, a5⟩ := hR
      obtain ⟨v, hv, t, rfl, ht⟩ := a1.at hrc
      refine ⟨_, rfl, P.p, T.C_Pair, P.px, _, _, rfl, hP1.ins, T.cl_Pair, T.n_Pair__fast, pF_get4, D.p, D.dx, _, fv_some eD, hD.ins, dF_no_read, _, rfl, D, cs, ls, ps, d.r, d.w, d.s, i, _, by rw [fv_some eD]; rfl, hD, hv, fun H2 f2 h2 => ?_⟩
      have ht2 := f2 _ _ ht (fun z => hD.notup _ z _ ht)
      refine ⟨_, _, (1 : Int), _, rfl, rfl, SqT.of ht2, rfl, ?_⟩
      have qq : ∀ v a, RV H1 v a → RV H2 v a := fun v a r => stRV _ H1 H2 v a r f2 hD.notup
      have hF2 : DiskR T.C_Disk RV H2 D d.rd := ⟨cs, ls, ps, h2, a1.imp qq, a2.imp qq, a3.imp qq, a4, a5⟩
      have c2 := c1.trans (hP1.fastC eD rfl f2 hF2 (Gw.refl _ _))
      rw [hd, ecv] at k
      exact k H2 _ ks1 _ c2 rfl
    | none =>
      rw [es] at k
      dsimp only at k
      refine iteF ?_
      obtain ⟨cs, ls, ps, hD, a1, a2, a3, a4, a5⟩ := hP1.slo
      rw [q7] at hD a1 a2 a3 a4 a5
      have hlt : b < s.sl.cs.length := by rw [hw.sl]; exact hb
      obtain ⟨v, hv, rfl⟩ := a1.at (List.getElem?_eq_getElem hlt)
      have ev : s.sl.cs[b] = slowV b s := by
        unfold slowV
        rw [List.getD_eq_getElem?_getD, List.getElem?_eq_getElem hlt]
        rfl
      rw [ev] at hv
      refine ⟨_, rfl, P.p, T.C_Pair, P.px, _, _, rfl, hP1.ins, T.cl_Pair, T.n_Pair__slow, pF_get3, P.S.p, P.S.dx, _, rfl, hD.ins, dF_no_read, _, rfl, P.S, cs, ls, ps, s.sl.r, s.sl.w, s.sl.s, b, _, rfl, hD, hv, fun H2 f2 h2 => ?_⟩
      have hS2 : DiskR T.C_Disk SV H2 P.S s.sl.rd := ⟨cs, ls, ps, h2, a1, a2, a3, a4, a5⟩
      have c2 := c1.trans (hP1.slowC rfl f2 hS2 (Gw.refl _ _))
      have hP2 := c2.at_
      have w2 : WF { beginS b s with sl := s.sl.rd } := by
        have g := beginS_wf (b := b) hw
        exact ⟨by show s.sl.cs.length = (beginS b s).nb; rw [q2]; exact hw.sl, g.fa, g.some1, g.few, g.kn, g.cl, g.nof⟩
      have l2 : Lim 800 { beginS b s with sl := s.sl.rd } := ⟨hl.1, fun d e => hl.2 d (by rw [← q8]; exact e)⟩
      have e8 : ({ beginS b s with sl := s.sl.rd } : PS).fa = s.fa := q8
      have e3 : ({ beginS b s with sl := s.sl.rd } : PS).rd = s.rd := by
        show (beginS b s).rd = s.rd
        unfold beginS
        rw [es]
      have e4 : ({ beginS b s with sl := s.sl.rd } : PS).nb = s.nb := q2
      generalize ({ beginS b s with sl := s.sl.rd } : PS) = s2 at *
      refine ⟨_, rfl, P.p, T.C_Pair, P.px, _, _, rfl, hP2.ins, T.cl_Pair, T.n_Pair__rules, pF_get1, P.ru, P.rx, _, rfl, hP2.rul, P.ru, P.rx, _, _, rfl, hP2.rul, rF_get1, rfl, _, rfl, ?_⟩
      rw [e3]
      by_cases hk : V.str s.rd = V.str "keep"
      · rw [decide_eq_true hk]
        refine iteT ⟨_, rfl, P.p, T.C_Pair, P.px, _, _, rfl, hP2.ins, T.cl_Pair, T.n_Pair__fast, pF_get4, rfl, _, rfl, ?_⟩
        cases hd : s.fa with
        | none =>
          rw [hd, if_neg (by simp)] at k
          rw [fv_none (hP2.nofast (e8.trans hd))]
          exact iteF ⟨_, rfl, k H2 _ ks1 _ c2 rfl⟩
        | some d =>
          rw [hd, if_pos ⟨hk, rfl⟩] at k
          obtain ⟨D0, eD0, _⟩ := hP2.fast (e8.trans hd)
          rw [fv_some eD0]
          refine iteT ?_
          have k2 := k.from (R' := RI) c2 fun a H' v hv => hv
          unfold keepR at k2
          refine ⟨_, rfl, P.p, P.px, _, rfl, hP2.ins, pF_no__take_slot, _, ks1, s2, d, rfl, hP2, w2, e8.trans hd, l2.up (by omega), Go.seq k2 fun i s3 e3' k3 H3 P3 ks3 v3 c3 hv3 => ?_⟩
          subst hv3
          obtain ⟨m3, hi3⟩ := takeR_ok w2 (w2.some1 d (e8.trans hd)) e3'
          obtain ⟨l3, sl3, fa3, kn3, ex3⟩ := m3.ex
          have w3 := m3.wf w2
          have lim3 := m3.lim 800 l2
          obtain ⟨_, d3, hd3⟩ := InF.mv (s := s2) (o := some i) (fun j e => by cases e; exact ⟨hi3, d, e8.trans hd⟩) m3 i rfl
          have hP3 := c3.at_
          have hp3 : P3.p = P.p := c3.p
          rw [← hp3]
          have hms : i < s3.ms := by rw [ex3]; exact hi3
          refine ⟨_, rfl, P3.p, P3.px, _, rfl, hP3.ins, pF_no__write_record, _, rfl, _, rfl, _, rfl, sz_le (by simp), fun t4 ht4 => ?_⟩
          have c4 := (Ch.refl hP3).keep0 (Fr.new (o := .tup [.int (b : Int), .int (slowV b s : Int), .int 0, .bl false]) ht4)
          refine ⟨P3, ks3, s3, d3, i, t4, ⟨b, slowV b s, 0, false⟩, rfl, c4.at_, hd3, upd_same, by rw [w3.fa d3 hd3]; exact hms, hms, by have := lim3.2 d3 hd3; omega, ?_⟩
          refine Go.seq (k3.from (R' := RI) (c3.trans c4) fun a H' v hv => hv) fun u s5 e5 k5 H5 P5 ks5 v5 c5 _ => ?_
          exact ⟨_, rfl, k5 H5 P5 ks5 _ c5 rfl⟩
      · rw [decide_eq_false hk]
        rw [if_neg (fun z => hk z.1)] at k
        exact iteF ⟨_, rfl, k H2 _ ks1 _ c2 rfl⟩
end
/-! ### values: what a pair by the safe recipes, with no failure ahead, stands for -/
structure Gd (s : PS) (val : List Nat) : Prop where
  wf : WF s
  on : s.on = true
  lf : s.left = none
  rc : s.rcs = SAFE
  vl : val.length = s.nb
  ns : (s.kn.map fun q => q.slot).Nodup
  nk : (s.kn.map fun q => q.rc.blk).Nodup
  ce : Cel s
  cl : ∀ q ∈ s.kn, q.rc.dirty = false → s.sl.cs[q.rc.blk]? = some q.rc.val
  vk : ∀ q ∈ s.kn, val[q.rc.blk]? = some q.rc.val
  vs : ∀ b, b < s.nb → (∀ q ∈ s.kn, q.rc.blk ≠ b) → s.sl.cs[b]? = val[b]?
theorem inj_of {β : Type} {f : Kn → β} : ∀ {kn : List Kn}, (kn.map f).Nodup → ∀ {p q : Kn}, p ∈ kn → q ∈ kn → f p = f q → p = q
  | [], _, p, _, hp, _, _ => by cases hp
  | a :: r, nd, p, q, hp, hq, e => by
    rw [List.map_cons, List.nodup_cons] at nd
    rcases List.mem_cons.mp hp with e1 | e1
    · rcases List.mem_cons.mp hq with e2 | e2
      · rw [e1, e2]
      · exact absurd (List.mem_map.mpr ⟨q, e2, by rw [← e, e1]⟩) nd.1
    · rcases List.mem_cons.mp hq with e2 | e2
      · exact absurd (List.mem_map.mpr ⟨p, e1, by rw [e, e2]⟩) nd.1
      · exact inj_of nd.2 e1 e2 e
theorem slotN_none {kn : List Kn} {b : Nat} : slotN kn b = none ↔ ∀ q ∈ kn, q.rc.blk ≠ b := by
  unfold slotN
  rw [Option.map_eq_none_iff, List.find?_eq_none]
  exact ⟨fun h q hq => by simpa using h q hq, fun h q hq => by simpa using h q hq⟩
theorem slotN_of {kn : List Kn} (nk : (kn.map fun q => q.rc.blk).Nodup) {q : Kn} (h : q ∈ kn) : slotN kn q.rc.blk = some q.slot := by
  cases e : slotN kn q.rc.blk with
  | none => exact absurd rfl (slotN_none.mp e q h)
  | some i =>
    obtain ⟨p, hp, e1, e2⟩ := slotN_in e
    rw [← e1, inj_of nk hp h e2]
theorem atN_none {kn : List Kn} {i : Nat} : atN kn i = none ↔ ∀ q ∈ kn, q.slot ≠ i := by
  unfold atN
  rw [List.find?_eq_none]
  exact ⟨fun h q hq => by simpa using h q hq, fun h q hq => by simpa using h q hq⟩
theorem atN_is {kn : List Kn} (ns : (kn.map fun q => q.slot).Nodup) {q : Kn} (h : q ∈ kn) : atN kn q.slot = some q := by
  obtain ⟨p, e, hp, es⟩ := atN_of (atN_mem h)
  rw [e, inj_of ns hp h es]
/-! steps that do not fail -/
theorem Rs.bind_ok {α β : Type} {a : α} {s : PS} {f : α → PS → Rs β} : (Rs.ok a s).bind f = f a s := rfl
theorem step0 {s : PS} (h : s.left = none) : stepS s = .ok () s := by unfold stepS; rw [h]
theorem wSlow0 {rc : Rc} {s : PS} (h : s.left = none) : wSlow rc s = .ok () { s with sl := s.sl.wri rc.blk rc.val } := by unfold wSlow; rw [step0 h]; rfl
theorem ySlow0 {s : PS} (h : s.left = none) : ySlow s = .ok () { s with sl := s.sl.syn } := by unfold ySlow; rw [step0 h]; rfl
theorem wFast0 {i : Nat} {o : Option Rc} {s : PS} (h : s.left = none) : wFast i o s = .ok () { s with fa := s.fa.map fun d => d.wri i o } := by unfold wFast; rw [step0 h]; rfl
theorem yFast0 {s : PS} (h : s.left = none) : yFast s = .ok () { s with fa := s.fa.map DS.syn } := by
  unfold yFast
  cases e : s.fa with
  | none =>
    show Rs.ok () s = Rs.ok () { s with fa := none }
    rw [← e]
  | some d =>
    show (stepS s).bind _ = _
    rw [step0 h]
    show Rs.ok () { s with fa := s.fa.map DS.syn } = _
    rw [e]
theorem cW_slow {i : Nat} {rc : Rc} {s : PS} : cW i rc "slow" s = wSlow rc s := if_pos rfl
theorem cW_ss {i : Nat} {rc : Rc} {s : PS} : cW i rc "sync slow" s = ySlow s := by
  unfold cW
  rw [if_neg (fun z => absurd (V.str.inj z) (by decide +kernel)), if_pos rfl]
theorem cW_mark {i : Nat} {rc : Rc} {s : PS} : cW i rc "mark" s = wFast i (some rc.cln) s := by
  unfold cW
  rw [if_neg (fun z => absurd (V.str.inj z) (by decide +kernel)), if_neg (fun z => absurd (V.str.inj z) (by decide +kernel)), if_pos rfl]
theorem cW_sf {i : Nat} {rc : Rc} {s : PS} : cW i rc "sync fast" s = yFast s := by
  unfold cW
  rw [if_neg (fun z => absurd (V.str.inj z) (by decide +kernel)), if_neg (fun z => absurd (V.str.inj z) (by decide +kernel)), if_neg (fun z => absurd (V.str.inj z) (by decide +kernel))]
/-- a slot that is cleaned by the safe recipe -/
def clnS (i : Nat) (rc : Rc) (s : PS) : PS := { s with sl := (s.sl.wri rc.blk rc.val).syn, fa := (s.fa.map fun d => d.wri i (some rc.cln)).map DS.syn, kn := cleanN i s.kn }
theorem cSlot0 {i : Nat} {rc : Rc} {s : PS} (h : s.left = none) (hr : s.rcs = SAFE) : cSlot i rc (s.rcs.getD 3 []) s = .ok () (clnS i rc s) := by
  rw [hr]
  show ((cW i rc "slow" s).bind fun _ s1 => (cW i rc "sync slow" s1).bind fun _ s2 => (cW i rc "mark" s2).bind fun _ s3 => (cW i rc "sync fast" s3).bind fun _ s4 => .ok () s4).bind (fun _ s1 => .ok () { s1 with kn := cleanN i s1.kn }) = _
  rw [cW_slow, wSlow0 h, Rs.bind_ok, cW_ss, ySlow0 (by exact h), Rs.bind_ok, cW_mark, wFast0 (by exact h), Rs.bind_ok, cW_sf, yFast0 (by exact h)]
  rfl
section
variable {s : PS} {val : List Nat}
theorem Gd.lt (g : Gd s val) {q : Kn} (h : q ∈ s.kn) : q.rc.blk < s.nb := (g.wf.kn q h).1
/-- the same records, the same cells -/
theorem Gd.same (g : Gd s val) {s' : PS} (e : s'.kn.map (fun q => (q.slot, q.rc)) = s.kn.map (fun q => (q.slot, q.rc))) (e1 : s'.sl.cs = s.sl.cs) (e2 : s'.fa.map (fun d => d.cs) = s.fa.map (fun d => d.cs)) (e3 : s'.nb = s.nb) (e4 : s'.ms = s.ms) (e5 : s'.rcs = s.rcs) (e6 : s'.on = s.on) (e7 : s'.left = s.left) : Gd s' val := by
  have m : ∀ q ∈ s'.kn, ∃ p ∈ s.kn, q.slot = p.slot ∧ q.rc = p.rc := fun q hq => by
    have : (q.slot, q.rc) ∈ s.kn.map (fun q => (q.slot, q.rc)) := by rw [← e]; exact List.mem_map.mpr ⟨q, hq, rfl⟩
    obtain ⟨p, hp, ep⟩ := List.mem_map.mp this
    exact ⟨p, hp, (congrArg Prod.fst ep).symm, (congrArg Prod.snd ep).symm⟩
  have m' : ∀ q ∈ s.kn, ∃ p ∈ s'.kn, p.rc = q.rc := fun q hq => by
    have : (q.slot, q.rc) ∈ s'.kn.map (fun q => (q.slot, q.rc)) := by rw [e]; exact List.mem_map.mpr ⟨q, hq, rfl⟩
    obtain ⟨p, hp, ep⟩ := List.mem_map.mp this
    exact ⟨p, hp, congrArg Prod.snd ep⟩
  have dd : ∀ d', s'.fa = some d' → ∃ d, s.fa = some d ∧ d'.cs = d.cs := fun d' e0 => by
    rw [e0] at e2
    cases ef : s.fa with
    | none => rw [ef] at e2; cases e2
    | some d => rw [ef] at e2; exact ⟨d, rfl, Option.some.inj e2⟩
  refine ⟨⟨by rw [e1, e3]; exact g.wf.sl, fun d' e0 => ?_, fun d' e0 => ?_, by rw [e4]; exact g.wf.few, fun q hq => ?_, by rw [e5]; exact g.wf.cl, fun e0 => ?_⟩, by rw [e6]; exact g.on, by rw [e7]; exact g.lf, by rw [e5]; exact g.rc, by rw [e3]; exact g.vl, ?_, ?_, fun q hq d' e0 => ?_, fun q hq hd => ?_, fun q hq => ?_, fun b hb hn => ?_⟩
  · obtain ⟨d, h1, h2⟩ := dd d' e0
    rw [h2, e4]
    exact g.wf.fa d h1
  · obtain ⟨d, h1, h2⟩ := dd d' e0
    rw [e4]
    exact g.wf.some1 d h1
  · obtain ⟨p, hp, h1, h2⟩ := m q hq
    rw [h1, h2, e3, e4]
    exact g.wf.kn p hp
  · have : s.fa = none := by
      rw [e0] at e2
      cases ef : s.fa with
      | none => rfl
      | some d => rw [ef] at e2; cases e2
    have h0 := g.wf.nof this
    rw [h0] at e
    exact List.map_eq_nil_iff.mp e
  · have : s'.kn.map (fun q => q.slot) = s.kn.map (fun q => q.slot) := by
      have := congrArg (List.map Prod.fst) e
      rw [List.map_map, List.map_map] at this
      exact this
    rw [this]
    exact g.ns
  · have : s'.kn.map (fun q => q.rc.blk) = s.kn.map (fun q => q.rc.blk) := by
      have := congrArg (List.map fun p : Nat × Rc => p.2.blk) e
      rw [List.map_map, List.map_map] at this
      exact this
    rw [this]
    exact g.nk
  · obtain ⟨p, hp, h1, h2⟩ := m q hq
    obtain ⟨d, h3, h4⟩ := dd d' e0
    rw [h1, h2, h4]
    exact g.ce p hp d h3
  · obtain ⟨p, hp, h1, h2⟩ := m q hq
    rw [e1, h2]
    rw [h2] at hd
    exact g.cl p hp hd
  · obtain ⟨p, hp, h1, h2⟩ := m q hq
    rw [h2]
    exact g.vk p hp
  · rw [e1]
    refine g.vs b (by rw [← e3]; exact hb) fun q hq => ?_
    obtain ⟨p, hp, h⟩ := m' q hq
    rw [← h]
    exact hn p hp
/-- a slot that is forgotten: its record is clean -/
theorem Gd.forget (g : Gd s val) {i : Nat} (h : ∀ q ∈ s.kn, q.slot = i → q.rc.dirty = false) : Gd { s with kn := forgetN i s.kn } val := by
  have m : ∀ q ∈ forgetN i s.kn, q ∈ s.kn := fun q hq => (List.mem_filter.mp hq).1
  refine ⟨(Mv.kn fun q hq => forgetN_facts hq).wf g.wf, g.on, g.lf, g.rc, g.vl, ?_, ?_, fun q hq => g.ce q (m q hq), fun q hq => g.cl q (m q hq), fun q hq => g.vk q (m q hq), fun b hb hn => ?_⟩
  · exact g.ns.sublist ((List.filter_sublist).map _)
  · exact g.nk.sublist ((List.filter_sublist).map _)
  · by_cases z : ∀ q ∈ s.kn, q.rc.blk ≠ b
    · exact g.vs b hb z
    · obtain ⟨q, hq, e⟩ : ∃ q ∈ s.kn, q.rc.blk = b := by
        refine Classical.byContradiction fun y => z fun q hq e => y ⟨q, hq, e⟩
      have es : q.slot = i := Classical.byContradiction fun y => hn q (List.mem_filter.mpr ⟨hq, decide_eq_true y⟩) e
      show s.sl.cs[b]? = val[b]?
      rw [← e, g.cl q hq (h q hq es), g.vk q hq]
/-- .. and one that is cleaned -/
theorem Gd.clean (g : Gd s val) {i : Nat} {q : Kn} (hq : q ∈ s.kn) (ei : q.slot = i) : Gd (clnS i q.rc s) val := by
  have hc : clSl i s = .ok () (clnS i q.rc s) := by
    unfold clSl
    rw [← ei, atN_is g.ns hq]
    exact cSlot0 g.lf g.rc
  have m : ∀ p ∈ cleanN i s.kn, ∃ p0 ∈ s.kn, p.slot = p0.slot ∧ p.rc.blk = p0.rc.blk ∧ p.rc.val = p0.rc.val ∧ (p0.slot = i ∨ p.rc.dirty = p0.rc.dirty) := fun p hp => by
    obtain ⟨p0, h0, rfl⟩ := List.mem_map.mp hp
    refine ⟨p0, h0, ?_⟩
    by_cases z : p0.slot = i
    · rw [if_pos z]
      exact ⟨rfl, rfl, rfl, .inl z⟩
    · rw [if_neg z]
      exact ⟨rfl, rfl, rfl, .inr rfl⟩
  have m' : ∀ p ∈ s.kn, ∃ p' ∈ cleanN i s.kn, p'.rc.blk = p.rc.blk := fun p hp => by
    refine ⟨_, List.mem_map.mpr ⟨p, hp, rfl⟩, ?_⟩
    split <;> rfl
  have eS : (cleanN i s.kn).map (fun q => q.slot) = s.kn.map fun q => q.slot := by
    unfold cleanN
    rw [List.map_map]
    refine List.map_congr_left fun p _ => ?_
    show (if p.slot = i then _ else p).slot = p.slot
    split <;> rfl
  have eB : (cleanN i s.kn).map (fun q => q.rc.blk) = s.kn.map fun q => q.rc.blk := by
    unfold cleanN
    rw [List.map_map]
    refine List.map_congr_left fun p _ => ?_
    show (if p.slot = i then _ else p).rc.blk = p.rc.blk
    split <;> rfl
  have hbl := g.lt hq
  refine ⟨(clSl_ok g.wf.cl hc).wf g.wf, g.on, g.lf, g.rc, g.vl, ?_, ?_, fun p hp d' e0 => ?_, fun p hp hd => ?_, fun p hp => ?_, fun b hb hn => ?_⟩
  · show ((cleanN i s.kn).map _).Nodup
    rw [eS]
    exact g.ns
  · show ((cleanN i s.kn).map _).Nodup
    rw [eB]
    exact g.nk
  · obtain ⟨p0, h0, h1, h2, h3, _⟩ := m p hp
    cases ef : s.fa with
    | none => rw [show (clnS i q.rc s).fa = (s.fa.map _).map _ from rfl, ef] at e0; cases e0
    | some d =>
      rw [show (clnS i q.rc s).fa = (s.fa.map _).map _ from rfl, ef] at e0
      cases e0
      show ∃ rc, (d.cs.set i (some q.rc.cln))[p.slot]? = some (some rc) ∧ _
      rw [h1, h2, h3]
      by_cases z : p0.slot = i
      · have e : p0 = q := inj_of g.ns h0 hq (z.trans ei.symm)
        rw [e, ei]
        refine ⟨q.rc.cln, List.getElem?_set_self ?_, rfl, rfl⟩
        rw [g.wf.fa d ef, ← ei]
        exact (g.wf.kn q hq).2
      · rw [List.getElem?_set_ne (Ne.symm z)]
        exact g.ce p0 h0 d ef
  · obtain ⟨p0, h0, h1, h2, h3, h4⟩ := m p hp
    show (s.sl.cs.set q.rc.blk q.rc.val)[p.rc.blk]? = _
    rw [h2, h3]
    by_cases z : p0.slot = i
    · have e : p0 = q := inj_of g.ns h0 hq (z.trans ei.symm)
      rw [e]
      exact List.getElem?_set_self (by rw [g.wf.sl]; exact hbl)
    · have hd0 : p0.rc.dirty = false := by
        rcases h4 with y | y
        · exact absurd y z
        · rw [← y]; exact hd
      have nb : q.rc.blk ≠ p0.rc.blk := fun y => z (by rw [← ei, inj_of g.nk hq h0 y])
      rw [List.getElem?_set_ne nb]
      exact g.cl p0 h0 hd0
  · obtain ⟨p0, h0, h1, h2, h3, h4⟩ := m p hp
    rw [h2, h3]
    exact g.vk p0 h0
  · have hn0 : ∀ p ∈ s.kn, p.rc.blk ≠ b := fun p hp e => by
      obtain ⟨p', hp', e'⟩ := m' p hp
      exact hn p' hp' (e'.trans e)
    show (s.sl.cs.set q.rc.blk q.rc.val)[b]? = _
    rw [List.getElem?_set_ne (hn0 q hq)]
    exact g.vs b hb hn0
theorem clSl0 (g : Gd s val) {i : Nat} {q : Kn} (hq : q ∈ s.kn) (ei : q.slot = i) : clSl i s = .ok () (clnS i q.rc s) := by
  unfold clSl
  rw [← ei, atN_is g.ns hq]
  exact cSlot0 g.lf g.rc
theorem Lim.cln {n i : Nat} {rc : Rc} (h : Lim n s) : Lim (n + 1) (clnS i rc s) := by
  refine ⟨Nat.succ_le_succ h.1, fun d' e => ?_⟩
  cases ef : s.fa with
  | none => rw [show (clnS i rc s).fa = (s.fa.map _).map _ from rfl, ef] at e; cases e
  | some d =>
    rw [show (clnS i rc s).fa = (s.fa.map _).map _ from rfl, ef] at e
    cases e
    exact Nat.succ_le_succ (h.2 d ef)
/-- which slots are known at all, and what they are called -/
def SB (kn : List Kn) : List (Nat × Nat) := kn.map fun q => (q.slot, q.rc.blk)
theorem cleanN_SB {i : Nat} {kn : List Kn} : SB (cleanN i kn) = SB kn := by
  unfold SB cleanN
  rw [List.map_map]
  refine List.map_congr_left fun p _ => ?_
  show ((if p.slot = i then _ else p).slot, (if p.slot = i then _ else p).rc.blk) = (p.slot, p.rc.blk)
  split <;> rfl
/-- some slots are cleaned -/
theorem clMany0 : ∀ (l : List Nat) {s : PS}, Gd s val → (∀ i ∈ l, ∃ q ∈ s.kn, q.slot = i) → ∃ s1, clMany l s = .ok () s1 ∧ Gd s1 val ∧ SB s1.kn = SB s.kn ∧ (∃ sl fa kn, s1 = { s with sl := sl, fa := fa, kn := kn }) ∧ s1.fa.isSome = s.fa.isSome ∧ ∀ n, Lim n s → Lim (n + l.length) s1
  | [], s, g, _ => ⟨s, rfl, g, rfl, ⟨_, _, _, rfl⟩, rfl, fun n h => h⟩
  | i :: r, s, g, hl => by
    obtain ⟨q, hq, ei⟩ := hl i List.mem_cons_self
    have g1 := g.clean hq ei
    have eSB : SB (clnS i q.rc s).kn = SB s.kn := cleanN_SB
    obtain ⟨s1, e1, g2, e2, ⟨sl, fa, kn, e3⟩, e4, l2⟩ := clMany0 r g1 fun j hj => by
      obtain ⟨p, hp, ep⟩ := hl j (List.mem_cons_of_mem _ hj)
      have : (p.slot, p.rc.blk) ∈ SB (clnS i q.rc s).kn := by rw [eSB]; exact List.mem_map.mpr ⟨p, hp, rfl⟩
      obtain ⟨p', hp', e'⟩ := List.mem_map.mp this
      exact ⟨p', hp', (congrArg Prod.fst e').trans ep⟩
    refine ⟨s1, ?_, g2, e2.trans eSB, ⟨sl, fa, kn, by rw [e3]; rfl⟩, ?_, fun n h => ?_⟩
    · show (clSl i s).bind _ = _
      rw [clSl0 g hq ei]
      exact e1
    · rw [e4]
      show ((s.fa.map _).map _).isSome = _
      cases s.fa <;> rfl
    · have := l2 (n + 1) h.cln
      rw [List.length_cons]
      rw [show n + (r.length + 1) = n + 1 + r.length by omega]
      exact this
end
/-! ### values through all requests -/
theorem takeO_cln {n : Nat} {ch : Str} {kn : List Kn} {i : Nat} (ns : (kn.map fun q => q.slot).Nodup) (h : takeO n ch kn = some i) : ∀ q ∈ kn, q.slot = i → q.rc.dirty = false := by
  intro q hq eq
  unfold takeO at h
  cases e1 : (List.range n).find? (fun s => !(atN kn s).isSome) with
  | some s =>
    rw [e1] at h
    cases h
    have := List.find?_some (p := fun s => !(atN kn s).isSome) e1
    have h2 := atN_mem hq
    rw [eq] at h2
    rw [h2] at this
    cases this
  | none =>
    rw [e1] at h
    cases e : ranksN ch kn with
    | nil => rw [e] at h; cases h
    | cons p ps =>
      rw [e] at h
      have hm := min_memG p ps
      rw [← e] at hm
      unfold ranksN at hm
      obtain ⟨p0, hp, ep⟩ := List.mem_map.mp hm
      cases h
      obtain ⟨hp1, hp2⟩ := List.mem_filter.mp hp
      have : q = p0 := inj_of ns hq hp1 (by rw [eq, ← ep]; rfl)
      rw [this]
      simpa using hp2
theorem SB_mem {kn : List Kn} {q : Kn} (h : q ∈ kn) : (q.slot, q.rc.blk) ∈ SB kn := List.mem_map.mpr ⟨q, h, rfl⟩
theorem SB_of {kn : List Kn} {p : Nat × Nat} (h : p ∈ SB kn) : ∃ q ∈ kn, q.slot = p.1 ∧ q.rc.blk = p.2 := by
  obtain ⟨q, hq, rfl⟩ := List.mem_map.mp h
  exact ⟨q, hq, rfl, rfl⟩
theorem take0 {s : PS} {val : List Nat} (g : Gd s val) {d : DS (Option Rc)} (hd : s.fa = some d) : ∃ i s1, takeR s = .ok i s1 ∧ Gd s1 val ∧ i < s.ms ∧ (∀ q ∈ s1.kn, q.slot ≠ i) ∧ (∀ p, p ∈ SB s1.kn ↔ p ∈ SB s.kn ∧ p.1 ≠ i) ∧ (∃ sl fa kn, s1 = { s with sl := sl, fa := fa, kn := kn }) ∧ s1.fa.isSome = s.fa.isSome ∧ ∀ n, Lim n s → Lim (n + 1) s1 := by
  have fin : ∀ (i : Nat) (s0 : PS) (p : Nat × Nat), p ∈ SB (forgetN i s0.kn) ↔ p ∈ SB s0.kn ∧ p.1 ≠ i := fun i s0 p => by
    refine ⟨fun h => ?_, fun h => ?_⟩
    · obtain ⟨q, hq, e1, e2⟩ := SB_of h
      obtain ⟨h1, h2⟩ := List.mem_filter.mp hq
      refine ⟨?_, by rw [← e1]; exact of_decide_eq_true h2⟩
      have := SB_mem h1
      rw [e1, e2] at this
      exact this
    · obtain ⟨q, hq, e1, e2⟩ := SB_of h.1
      have := SB_mem (kn := forgetN i s0.kn) (List.mem_filter.mpr ⟨hq, decide_eq_true (by rw [e1]; exact h.2)⟩)
      rw [e1, e2] at this
      exact this
  have gone : ∀ (i : Nat) (s0 : PS), ∀ q ∈ forgetN i s0.kn, q.slot ≠ i := fun i s0 q hq => of_decide_eq_true (List.mem_filter.mp hq).2
  unfold takeR
  cases et : takeO s.ms s.ch s.kn with
  | some i =>
    exact ⟨i, _, rfl, g.forget (takeO_cln g.ns et), takeO_lt (fun q hq => (g.wf.kn q hq).2) et, gone i s, fin i s, ⟨_, _, _, rfl⟩, rfl, fun n h => h.up (by omega)⟩
  | none =>
    obtain ⟨i, r, ed⟩ := takeO_none (g.wf.some1 d hd) et
    obtain ⟨q, hq, hqd, eq⟩ := dirtyN_mem (kn := s.kn) (i := i) (by rw [ed]; exact List.mem_cons_self)
    have e0 : (dirtyN s.kn).headD 0 = i := by rw [ed]; rfl
    rw [e0]
    have g1 := g.clean hq eq
    refine ⟨i, { clnS i q.rc s with kn := forgetN i (clnS i q.rc s).kn }, ?_, g1.forget (fun p hp ep => ?_), by rw [← eq]; exact (g.wf.kn q hq).2, gone i _, fun p => (fin i _ p).trans (by rw [show SB (clnS i q.rc s).kn = SB s.kn from cleanN_SB]), ⟨_, _, _, rfl⟩, ?_, fun n h => h.cln⟩
    · show (clSl i s).bind _ = _
      rw [clSl0 g hq eq]
      rfl
    · obtain ⟨p0, h0, rfl⟩ := List.mem_map.mp hp
      by_cases z : p0.slot = i
      · rw [if_pos z]
        rfl
      · rw [if_neg z] at ep
        exact absurd ep z
    · show ((s.fa.map _).map _).isSome = _
      cases s.fa <;> rfl
/-! what is known behind a record that is written -/
structure NewK (kn : List Kn) (b t : Nat) (rc : Rc) (kn' : List Kn) : Prop where
  mem : ∀ q ∈ kn', (q.slot = t ∧ q.rc = rc) ∨ (q.slot ≠ t ∧ q.rc.blk ≠ b ∧ ∃ p ∈ kn, q.slot = p.slot ∧ q.rc = p.rc)
  old : ∀ p ∈ kn, p.rc.blk ≠ b → ∃ q ∈ kn', q.rc = p.rc
  new : ∃ q ∈ kn', q.slot = t ∧ q.rc = rc
  ns : (kn'.map fun q => q.slot).Nodup
  nk : (kn'.map fun q => q.rc.blk).Nodup
theorem newK_own {kn : List Kn} {b : Nat} {rc : Rc} {r : Int} {q : Kn} (ns : (kn.map fun q => q.slot).Nodup) (nk : (kn.map fun q => q.rc.blk).Nodup) (hq : q ∈ kn) (eb : q.rc.blk = b) (er : rc.blk = b) : NewK kn b q.slot rc (learnN q.slot rc r kn) := by
  have e : learnN q.slot rc r kn = recN q.slot rc kn := by
    unfold learnN
    rw [atN_is ns hq]
    exact if_pos (by rw [eb, er])
  rw [e]
  have eS : (recN q.slot rc kn).map (fun q => q.slot) = kn.map fun q => q.slot := by
    unfold recN
    rw [List.map_map]
    refine List.map_congr_left fun p _ => ?_
    show (if p.slot = q.slot then _ else p).slot = p.slot
    split <;> rfl
  have eB : (recN q.slot rc kn).map (fun q => q.rc.blk) = kn.map fun q => q.rc.blk := by
    unfold recN
    rw [List.map_map]
    refine List.map_congr_left fun p hp => ?_
    show (if p.slot = q.slot then _ else p).rc.blk = p.rc.blk
    split
    · rename_i z
      show rc.blk = p.rc.blk
      rw [inj_of ns hp hq z, er, eb]
    · rfl
  refine ⟨fun p hp => ?_, fun p hp hb => ⟨p, List.mem_map.mpr ⟨p, hp, if_neg fun z => hb ?_⟩, rfl⟩, ⟨{ q with rc := rc }, List.mem_map.mpr ⟨q, hq, if_pos rfl⟩, rfl, rfl⟩, by rw [eS]; exact ns, by rw [eB]; exact nk⟩
  · obtain ⟨p0, h0, rfl⟩ := List.mem_map.mp hp
    by_cases z : p0.slot = q.slot
    · rw [if_pos z]
      exact .inl ⟨z, rfl⟩
    · rw [if_neg z]
      exact .inr ⟨z, fun y => z (by rw [inj_of nk h0 hq (y.trans eb.symm)]), p0, h0, rfl, rfl⟩
  · rw [inj_of ns hp hq z, eb]
theorem learn_new {kn : List Kn} {t : Nat} {rc : Rc} {r : Int} (h : ∀ q ∈ kn, q.slot ≠ t) : learnN t rc r kn = kn ++ [⟨t, rc, r, r, 1⟩] := by
  unfold learnN
  rw [atN_none.mpr h]
  show putN kn _ = _
  unfold putN
  rw [if_neg]
  intro z
  obtain ⟨p, hp, e⟩ := List.any_eq_true.mp z
  exact h p hp (of_decide_eq_true e)
theorem newK_app {kn kn0 : List Kn} {b t : Nat} {rc : Rc} {r : Int} (ns : (kn.map fun q => q.slot).Nodup) (nk : (kn.map fun q => q.rc.blk).Nodup) (hs : kn0.Sublist kn) (h : ∀ q ∈ kn, q.slot ≠ t) (hb : ∀ q ∈ kn0, q.rc.blk ≠ b) (ho : ∀ q ∈ kn, q.rc.blk ≠ b → q ∈ kn0) (er : rc.blk = b) : NewK kn b t rc (kn0 ++ [⟨t, rc, r, r, 1⟩]) := by
  refine ⟨fun q hq => ?_, fun p hp hb => ⟨p, List.mem_append_left _ (ho p hp hb), rfl⟩, ⟨_, List.mem_append_right _ List.mem_cons_self, rfl, rfl⟩, ?_, ?_⟩
  · rcases List.mem_append.mp hq with y | y
    · exact .inr ⟨h q (hs.subset y), hb q y, q, hs.subset y, rfl, rfl⟩
    · rw [List.mem_singleton.mp y]
      exact .inl ⟨rfl, rfl⟩
  · rw [List.map_append, List.nodup_append]
    refine ⟨ns.sublist (hs.map _), by simp, fun a ha c hc => ?_⟩
    obtain ⟨q, hq, rfl⟩ := List.mem_map.mp ha
    obtain ⟨p, hp, rfl⟩ := List.mem_map.mp hc
    rw [List.mem_singleton.mp hp]
    exact h q (hs.subset hq)
  · rw [List.map_append, List.nodup_append]
    refine ⟨nk.sublist (hs.map _), by simp, fun a ha c hc => ?_⟩
    obtain ⟨q, hq, rfl⟩ := List.mem_map.mp ha
    obtain ⟨p, hp, rfl⟩ := List.mem_map.mp hc
    rw [List.mem_singleton.mp hp]
    show q.rc.blk ≠ rc.blk
    rw [er]
    exact hb q hq
theorem newK_fresh {kn : List Kn} {b t : Nat} {rc : Rc} {r : Int} (ns : (kn.map fun q => q.slot).Nodup) (nk : (kn.map fun q => q.rc.blk).Nodup) (h : ∀ q ∈ kn, q.slot ≠ t) (hb : ∀ q ∈ kn, q.rc.blk ≠ b) (er : rc.blk = b) : NewK kn b t rc (learnN t rc r kn) := by
  rw [learn_new h]
  exact newK_app ns nk (List.Sublist.refl _) h hb (fun q hq _ => hq) er
theorem newK_stale {kn : List Kn} {b t j : Nat} {rc : Rc} {r : Int} (ns : (kn.map fun q => q.slot).Nodup) (nk : (kn.map fun q => q.rc.blk).Nodup) (h : ∀ q ∈ kn, q.slot ≠ t) (hj : slotN kn b = some j) (er : rc.blk = b) : NewK kn b t rc (forgetN j (forgetN j (learnN t rc r kn))) := by
  obtain ⟨q, hq, e1, e2⟩ := slotN_in hj
  have tj : t ≠ j := fun z => h q hq (e1.trans z.symm)
  have e : forgetN j (forgetN j (learnN t rc r kn)) = forgetN j kn ++ [⟨t, rc, r, r, 1⟩] := by
    rw [learn_new h]
    unfold forgetN
    rw [List.filter_filter, List.filter_append]
    congr 1
    · refine List.filter_congr fun p _ => ?_
      simp
    · simp [tj]
  rw [e]
  refine newK_app ns nk List.filter_sublist h (fun p hp y => ?_) (fun p hp y => List.mem_filter.mpr ⟨hp, decide_eq_true fun z => y ?_⟩) er
  · obtain ⟨h1, h2⟩ := List.mem_filter.mp hp
    exact of_decide_eq_true h2 (by rw [inj_of nk h1 hq (y.trans e2.symm), e1])
  · rw [inj_of ns hp hq (z.trans e1.symm), e2]
theorem Gd.newRec {s s' : PS} {val : List Nat} {b v t : Nat} {rc : Rc} (g : Gd s val) (hb : b < s.nb) (eb : rc.blk = b) (ev : rc.val = v) (k : NewK s.kn b t rc s'.kn) (w' : WF s') (on' : s'.on = true) (lf' : s'.left = none) (rc' : s'.rcs = SAFE) (nb' : s'.nb = s.nb)
    (fa' : ∀ d', s'.fa = some d' → ∃ d, s.fa = some d ∧ d'.cs[t]? = some (some rc) ∧ ∀ q ∈ s'.kn, q.slot ≠ t → d'.cs[q.slot]? = d.cs[q.slot]?)
    (sl' : (rc.dirty = true ∧ s'.sl.cs = s.sl.cs) ∨ s'.sl.cs = s.sl.cs.set b v) : Gd s' (val.set b v) := by
  have hlen : b < s.sl.cs.length := by rw [g.wf.sl]; exact hb
  have hvl : b < val.length := by rw [g.vl]; exact hb
  refine ⟨w', on', lf', rc', by rw [List.length_set, nb']; exact g.vl, k.ns, k.nk, fun q hq d' e0 => ?_, fun q hq hd => ?_, fun q hq => ?_, fun b' hb' hn => ?_⟩
  · obtain ⟨d, h1, h2, h3⟩ := fa' d' e0
    rcases k.mem q hq with ⟨e1, e2⟩ | ⟨e1, _, p, hp, e3, e4⟩
    · rw [e1, e2]
      exact ⟨rc, h2, rfl, rfl⟩
    · rw [h3 q hq e1, e3, e4]
      exact g.ce p hp d h1
  · rcases k.mem q hq with ⟨e1, e2⟩ | ⟨e1, e5, p, hp, e3, e4⟩
    · rw [e2] at hd ⊢
      rcases sl' with ⟨y, _⟩ | y
      · rw [hd] at y; cases y
      · rw [y, eb, ev]
        exact List.getElem?_set_self hlen
    · have h0 : s.sl.cs[q.rc.blk]? = some q.rc.val := by
        rw [e4] at hd ⊢
        exact g.cl p hp hd
      rcases sl' with ⟨_, y⟩ | y
      · rw [y]; exact h0
      · rw [y, List.getElem?_set_ne (Ne.symm e5)]
        exact h0
  · rcases k.mem q hq with ⟨e1, e2⟩ | ⟨e1, e5, p, hp, e3, e4⟩
    · rw [e2, eb, ev]
      exact List.getElem?_set_self hvl
    · rw [List.getElem?_set_ne (Ne.symm e5), e4]
      exact g.vk p hp
  · obtain ⟨q, hq, _, e2⟩ := k.new
    have ne : b ≠ b' := fun z => hn q hq (by rw [e2, eb, z])
    have h0 : s.sl.cs[b']? = val[b']? := g.vs b' (by rw [← nb']; exact hb') fun p hp y => by
      obtain ⟨q2, h2, e⟩ := k.old p hp (by rw [y]; exact ne.symm)
      exact hn q2 h2 (by rw [e, y])
    rw [List.getElem?_set_ne ne]
    rcases sl' with ⟨_, y⟩ | y
    · rw [y]; exact h0
    · rw [y, List.getElem?_set_ne ne]
      exact h0
/-- a block is written to the slow disk, and not known then -/
theorem Gd.slowW {s s' : PS} {val : List Nat} {b v : Nat} (g : Gd s val) (hb : b < s.nb) (w' : WF s') (on' : s'.on = true) (lf' : s'.left = none) (rc' : s'.rcs = SAFE) (nb' : s'.nb = s.nb) (ks : s'.kn.Sublist s.kn) (kb : ∀ q ∈ s'.kn, q.rc.blk ≠ b) (ko : ∀ q ∈ s.kn, q.rc.blk ≠ b → q ∈ s'.kn)
    (fa' : ∀ d', s'.fa = some d' → ∃ d, s.fa = some d ∧ ∀ q ∈ s'.kn, d'.cs[q.slot]? = d.cs[q.slot]?) (sl' : s'.sl.cs = s.sl.cs.set b v) : Gd s' (val.set b v) := by
  have hlen : b < s.sl.cs.length := by rw [g.wf.sl]; exact hb
  have hvl : b < val.length := by rw [g.vl]; exact hb
  refine ⟨w', on', lf', rc', by rw [List.length_set, nb']; exact g.vl, g.ns.sublist (ks.map _), g.nk.sublist (ks.map _), fun q hq d' e0 => ?_, fun q hq hd => ?_, fun q hq => ?_, fun b' hb' hn => ?_⟩
  · obtain ⟨d, h1, h2⟩ := fa' d' e0
    rw [h2 q hq]
    exact g.ce q (ks.subset hq) d h1
  · rw [sl', List.getElem?_set_ne (Ne.symm (kb q hq))]
    exact g.cl q (ks.subset hq) hd
  · rw [List.getElem?_set_ne (Ne.symm (kb q hq))]
    exact g.vk q (ks.subset hq)
  · rw [sl']
    by_cases z : b = b'
    · rw [← z, List.getElem?_set_self hlen, List.getElem?_set_self hvl]
    · rw [List.getElem?_set_ne z, List.getElem?_set_ne z]
      exact g.vs b' (by rw [← nb']; exact hb') fun p hp y => hn p (ko p hp (by rw [y]; exact Ne.symm z)) y
/-! ### .. and written, and read -/
section
variable {rc : Rc} {tg st : Option Nat} {s : PS}
theorem cr_slow : carryR "slow" rc tg st s = wSlow rc s := if_pos rfl
theorem cr_ss : carryR "sync slow" rc tg st s = ySlow s := by
  unfold carryR
  rw [if_neg (fun z => absurd (V.str.inj z) (by decide +kernel)), if_pos rfl]
theorem cr_sf : carryR "sync fast" rc tg st s = yFast s := by
  unfold carryR
  rw [if_neg (fun z => absurd (V.str.inj z) (by decide +kernel)), if_neg (fun z => absurd (V.str.inj z) (by decide +kernel)), if_pos rfl]
theorem cr_fast1 {i : Nat} : carryR "fast" rc (some i) st s = (wRec i rc s).bind fun _ s1 => .ok () { s1 with kn := match st with | none => s1.kn | some j => forgetN j s1.kn } := by
  unfold carryR
  rw [if_neg (fun z => absurd (V.str.inj z) (by decide +kernel)), if_neg (fun z => absurd (V.str.inj z) (by decide +kernel)), if_neg (fun z => absurd (V.str.inj z) (by decide +kernel)), if_pos rfl]
  all_goals rfl
theorem cr_fast0 : carryR "fast" rc none st s = .ok () s := by
  unfold carryR
  rw [if_neg (fun z => absurd (V.str.inj z) (by decide +kernel)), if_neg (fun z => absurd (V.str.inj z) (by decide +kernel)), if_neg (fun z => absurd (V.str.inj z) (by decide +kernel)), if_pos rfl]
  dsimp only
  rw [if_neg (fun z => absurd (V.str.inj z) (by decide +kernel))]
  dsimp only
  rw [if_neg (fun z => absurd (V.str.inj z) (by decide +kernel))]
theorem cr_free1 {j : Nat} : carryR "free" rc tg (some j) s = (wFast j none s).bind fun _ s1 => .ok () { s1 with kn := forgetN j s1.kn } := by
  unfold carryR
  rw [if_neg (fun z => absurd (V.str.inj z) (by decide +kernel)), if_neg (fun z => absurd (V.str.inj z) (by decide +kernel)), if_neg (fun z => absurd (V.str.inj z) (by decide +kernel)), if_neg (fun z => absurd (V.str.inj z) (by decide +kernel))]
  dsimp only
  rw [if_pos rfl]
  all_goals rfl
theorem cr_free0 : carryR "free" rc tg none s = .ok () s := by
  unfold carryR
  rw [if_neg (fun z => absurd (V.str.inj z) (by decide +kernel)), if_neg (fun z => absurd (V.str.inj z) (by decide +kernel)), if_neg (fun z => absurd (V.str.inj z) (by decide +kernel)), if_neg (fun z => absurd (V.str.inj z) (by decide +kernel))]
  dsimp only
  rw [if_pos rfl]
  dsimp only
  rw [if_neg (fun z => absurd (V.str.inj z) (by decide +kernel))]
theorem cr_done : carryR "done" rc tg st s = .ok () { s with done := true } := by
  unfold carryR
  rw [if_neg (fun z => absurd (V.str.inj z) (by decide +kernel)), if_neg (fun z => absurd (V.str.inj z) (by decide +kernel)), if_neg (fun z => absurd (V.str.inj z) (by decide +kernel)), if_neg (fun z => absurd (V.str.inj z) (by decide +kernel))]
  dsimp only
  rw [if_neg (fun z => absurd (V.str.inj z) (by decide +kernel))]
  dsimp only
  rw [if_pos rfl]
theorem wRec0 {i : Nat} (h : s.left = none) : wRec i rc s = .ok () { s with fa := s.fa.map fun d => d.wri i (some rc), kn := learnN i rc ((s.reqs : Int) - 1) s.kn } := by
  unfold wRec
  rw [wFast0 h]
  rfl
theorem words_cons {z : Str} {zs : List Str} : wordsR rc tg st (z :: zs) s = (carryR z rc tg st s).bind fun _ s1 => wordsR rc tg st zs s1 := rfl
def TH : List Str := ["slow", "sync slow", "fast", "sync fast", "done"]
def BK : List Str := ["fast", "sync fast", "done", "free", "sync fast"]
def AR : List Str := ["slow", "sync slow", "free", "sync fast", "done"]
theorem w_th0 (h : s.left = none) : wordsR rc none none TH s = .ok () { s with sl := (s.sl.wri rc.blk rc.val).syn, fa := s.fa.map DS.syn, done := true } := by
  unfold TH
  rw [words_cons, cr_slow, wSlow0 h, Rs.bind_ok, words_cons, cr_ss, ySlow0 (by exact h), Rs.bind_ok, words_cons, cr_fast0, Rs.bind_ok, words_cons, cr_sf, yFast0 (by exact h), Rs.bind_ok, words_cons, cr_done, Rs.bind_ok]
  rfl
theorem w_ar0 (h : s.left = none) : wordsR rc none none AR s = .ok () { s with sl := (s.sl.wri rc.blk rc.val).syn, fa := s.fa.map DS.syn, done := true } := by
  unfold AR
  rw [words_cons, cr_slow, wSlow0 h, Rs.bind_ok, words_cons, cr_ss, ySlow0 (by exact h), Rs.bind_ok, words_cons, cr_free0, Rs.bind_ok, words_cons, cr_sf, yFast0 (by exact h), Rs.bind_ok, words_cons, cr_done, Rs.bind_ok]
  rfl
theorem w_th1 {i : Nat} (h : s.left = none) : wordsR rc (some i) none TH s = .ok () { s with sl := (s.sl.wri rc.blk rc.val).syn, fa := (s.fa.map fun d => d.wri i (some rc)).map DS.syn, kn := learnN i rc ((s.reqs : Int) - 1) s.kn, done := true } := by
  unfold TH
  rw [words_cons, cr_slow, wSlow0 h, Rs.bind_ok, words_cons, cr_ss, ySlow0 (by exact h), Rs.bind_ok, words_cons, cr_fast1, wRec0 (by exact h), Rs.bind_ok, Rs.bind_ok, words_cons, cr_sf, yFast0 (by exact h), Rs.bind_ok, words_cons, cr_done, Rs.bind_ok]
  rfl
theorem w_ar1 {j : Nat} (h : s.left = none) : wordsR rc none (some j) AR s = .ok () { s with sl := (s.sl.wri rc.blk rc.val).syn, fa := (s.fa.map fun d => d.wri j none).map DS.syn, kn := forgetN j s.kn, done := true } := by
  unfold AR
  rw [words_cons, cr_slow, wSlow0 h, Rs.bind_ok, words_cons, cr_ss, ySlow0 (by exact h), Rs.bind_ok, words_cons, cr_free1, wFast0 (by exact h), Rs.bind_ok, Rs.bind_ok, words_cons, cr_sf, yFast0 (by exact h), Rs.bind_ok, words_cons, cr_done, Rs.bind_ok]
  rfl
theorem w_bk0 {i : Nat} (h : s.left = none) : wordsR rc (some i) none BK s = .ok () { s with fa := ((s.fa.map fun d => d.wri i (some rc)).map DS.syn).map DS.syn, kn := learnN i rc ((s.reqs : Int) - 1) s.kn, done := true } := by
  unfold BK
  rw [words_cons, cr_fast1, wRec0 h, Rs.bind_ok, Rs.bind_ok, words_cons, cr_sf, yFast0 (by exact h), Rs.bind_ok, words_cons, cr_done, Rs.bind_ok, words_cons, cr_free0, Rs.bind_ok, words_cons, cr_sf, yFast0 (by exact h), Rs.bind_ok]
  rfl
theorem w_bk1 {i j : Nat} (h : s.left = none) : wordsR rc (some i) (some j) BK s = .ok () { s with fa := (((s.fa.map fun d => d.wri i (some rc)).map DS.syn).map fun d => d.wri j none).map DS.syn, kn := forgetN j (forgetN j (learnN i rc ((s.reqs : Int) - 1) s.kn)), done := true } := by
  unfold BK
  rw [words_cons, cr_fast1, wRec0 h, Rs.bind_ok, Rs.bind_ok, words_cons, cr_sf, yFast0 (by exact h), Rs.bind_ok, words_cons, cr_done, Rs.bind_ok, words_cons, cr_free1, wFast0 (by exact h), Rs.bind_ok, Rs.bind_ok, words_cons, cr_sf, yFast0 (by exact h), Rs.bind_ok]
  rfl
end
def WrOk (s : PS) : Prop := V.str s.wr = V.str "through" ∨ V.str s.wr = V.str "back" ∨ V.str s.wr = V.str "around"
section
variable {s : PS} {val : List Nat}
theorem Gd.few (g : Gd s val) : s.kn.length ≤ 8 := by
  have := mem_len g.ns (fun x hx => by
    obtain ⟨q, hq, rfl⟩ := List.mem_map.mp hx
    exact (g.wf.kn q hq).2)
  rw [List.length_map] at this
  exact Nat.le_trans this g.wf.few
theorem cleanLT0 (g : Gd s val) (n : Nat) : ∃ l s1, cleanLT n s = .ok l s1 ∧ Gd s1 val ∧ (∃ sl fa kn, s1 = { s with sl := sl, fa := fa, kn := kn }) ∧ s1.fa.isSome = s.fa.isSome ∧ ∀ m, Lim m s → Lim (m + 8) s1 := by
  obtain ⟨s1, e1, g1, _, e3, e4, l1⟩ := clMany0 ((dirtyN s.kn).take n) g fun i hi => by
    obtain ⟨q, hq, _, e⟩ := dirtyN_mem (List.mem_of_mem_take hi)
    exact ⟨q, hq, e⟩
  refine ⟨_, s1, by unfold cleanLT; rw [e1]; rfl, g1, e3, e4, fun m h => (l1 m h).up ?_⟩
  have h1 := dirtyN_len s.kn
  have h2 := g.few
  rw [List.length_take]
  omega
theorem tail0 (g : Gd s val) (hit : Bool) : ∃ s1, tailW hit s = .ok hit s1 ∧ Gd s1 val ∧ s1.nb = s.nb ∧ s1.wr = s.wr ∧ s1.fa.isSome = s.fa.isSome ∧ ∀ m, Lim m s → Lim (m + 8) s1 := by
  unfold tailW
  by_cases e : V.str s.wr = V.str "back"
  · rw [if_pos e]
    obtain ⟨l, s1, e1, g1, ⟨sl, fa, kn, ex⟩, e4, l1⟩ := cleanLT0 g (((dirtyN s.kn).length : Int) - s.bd).toNat
    rw [e1]
    refine ⟨{ s1 with done := false }, rfl, g1.same rfl rfl rfl rfl rfl rfl rfl rfl, by rw [ex], by rw [ex], e4, l1⟩
  · rw [if_neg e]
    exact ⟨{ s with done := false }, rfl, g.same rfl rfl rfl rfl rfl rfl rfl rfl, rfl, rfl, rfl, fun m h => h.up (by omega)⟩
theorem choose0 (g : Gd s val) (hw : WrOk s) (b : Nat) : ∃ tg st s1, chooseR (slotN s.kn b) s = .ok (tg, st) s1 ∧ Gd s1 val ∧ (∃ sl fa kn, s1 = { s with sl := sl, fa := fa, kn := kn }) ∧ s1.fa.isSome = s.fa.isSome ∧ (∀ n, Lim n s → Lim (n + 1) s1) ∧
    ((s1.fa = none ∧ tg = none ∧ st = none ∧ slotN s1.kn b = none) ∨ (s1.fa.isSome = true ∧ V.str s1.wr = V.str "through" ∧ tg = slotN s1.kn b ∧ st = none) ∨ (s1.fa.isSome = true ∧ V.str s1.wr = V.str "around" ∧ tg = none ∧ st = slotN s1.kn b) ∨
      (s1.fa.isSome = true ∧ V.str s1.wr = V.str "back" ∧ ∃ t, tg = some t ∧ t < s1.ms ∧ ((slotN s1.kn b = some t ∧ st = none) ∨ ((∀ q ∈ s1.kn, q.slot ≠ t) ∧ st = slotN s1.kn b)))) := by
  unfold chooseR
  cases ef : s.fa with
  | none =>
    rw [if_pos rfl]
    exact ⟨none, none, s, rfl, g, ⟨_, _, _, rfl⟩, by rw [ef], fun n h => h.up (by omega), .inl ⟨ef, rfl, rfl, by rw [g.wf.nof ef]; rfl⟩⟩
  | some d =>
    rw [if_neg (by simp)]
    by_cases e1 : V.str s.wr = V.str "through"
    · rw [if_pos e1]
      exact ⟨_, none, s, rfl, g, ⟨_, _, _, rfl⟩, by rw [ef], fun n h => h.up (by omega), .inr (.inl ⟨by rw [ef]; rfl, e1, rfl, rfl⟩)⟩
    rw [if_neg e1]
    by_cases e2 : V.str s.wr = V.str "around"
    · rw [if_pos e2]
      exact ⟨none, _, s, rfl, g, ⟨_, _, _, rfl⟩, by rw [ef], fun n h => h.up (by omega), .inr (.inr (.inl ⟨by rw [ef]; rfl, e2, rfl, rfl⟩))⟩
    rw [if_neg e2]
    have e3 : V.str s.wr = V.str "back" := by
      rcases hw with y | y | y
      · exact absurd y e1
      · exact y
      · exact absurd y e2
    by_cases e4 : ((slotN s.kn b).bind fun i => (atN s.kn i).map fun q => q.rc.dirty) = some false
    · rw [if_pos e4]
      cases es : slotN s.kn b with
      | none => rw [es] at e4; cases e4
      | some i =>
        obtain ⟨q, hq, eq, _⟩ := slotN_in es
        exact ⟨some i, none, s, rfl, g, ⟨_, _, _, rfl⟩, by rw [ef], fun n h => h.up (by omega), .inr (.inr (.inr ⟨by rw [ef]; rfl, e3, i, rfl, by rw [← eq]; exact (g.wf.kn q hq).2, .inl ⟨es, rfl⟩⟩))⟩
    · rw [if_neg e4]
      obtain ⟨t, s1, e5, g1, ht, gone, hSB, ex, e6, l1⟩ := take0 g ef
      rw [e5]
      refine ⟨some t, if slotN s.kn b = some t then none else slotN s.kn b, s1, rfl, g1, ex, e6.trans (by rw [ef]), l1, .inr (.inr (.inr ⟨by rw [e6, ef]; rfl, by obtain ⟨_, _, _, rfl⟩ := ex; exact e3, t, rfl, by obtain ⟨_, _, _, rfl⟩ := ex; exact ht, .inr ⟨gone, ?_⟩⟩))⟩
      have sub : ∀ q ∈ s1.kn, ∃ p ∈ s.kn, p.slot = q.slot ∧ p.rc.blk = q.rc.blk := fun q hq => SB_of ((hSB _).mp (SB_mem hq)).1
      cases es : slotN s.kn b with
      | none =>
        rw [if_neg (by simp)]
        refine (slotN_none.mpr fun q hq e => ?_).symm
        obtain ⟨p, hp, h1, h2⟩ := sub q hq
        exact slotN_none.mp es p hp (h2.trans e)
      | some j =>
        obtain ⟨p, hp, h1, h2⟩ := slotN_in es
        by_cases z : j = t
        · rw [if_pos (by rw [z])]
          refine (slotN_none.mpr fun q hq e => ?_).symm
          obtain ⟨p2, hp2, h3, h4⟩ := sub q hq
          have : p2 = p := inj_of g.nk hp2 hp (h4.trans (e.trans h2.symm))
          exact gone q hq (by rw [← h3, this, h1, z])
        · rw [if_neg (fun y => z (Option.some.inj y))]
          have hm : (j, b) ∈ SB s1.kn := (hSB _).mpr ⟨by rw [← h1, ← h2]; exact SB_mem hp, z⟩
          obtain ⟨q, hq, h3, h4⟩ := SB_of hm
          have := slotN_of g1.nk hq
          rw [h4, h3] at this
          exact this.symm
theorem set_same {xs : List Nat} {b v : Nat} (h : xs[b]? = some v) : xs.set b v = xs := by
  refine List.ext_getElem? fun i => ?_
  rw [List.getElem?_set]
  split
  · rename_i z
    subst z
    rw [h]
    rw [if_pos (lt_of_at h)]
  · rfl
theorem begin0 (g : Gd s val) (b t : Nat) : Gd { beginS b s with turn := t } val ∧ slotN (beginS b s).kn b = slotN s.kn b := by
  have eSR : ∀ {i : Nat} {r : Int}, (useN i r s.kn).map (fun q => (q.slot, q.rc)) = s.kn.map (fun q => (q.slot, q.rc)) := fun {i r} => by
    unfold useN
    rw [List.map_map]
    refine List.map_congr_left fun p _ => ?_
    show ((if p.slot = i then _ else p).slot, (if p.slot = i then _ else p).rc) = _
    split <;> rfl
  unfold beginS
  cases es : slotN s.kn b with
  | none => exact ⟨g.same rfl rfl rfl rfl rfl rfl rfl rfl, es⟩
  | some i =>
    have g1 : Gd { s with reqs := s.reqs + 1, hits := s.hits + 1, kn := useN i s.reqs s.kn, turn := t } val := g.same eSR rfl rfl rfl rfl rfl rfl rfl
    refine ⟨g1, ?_⟩
    obtain ⟨q, hq, e1, e2⟩ := slotN_in es
    have : (q.slot, q.rc) ∈ (useN i (s.reqs : Int) s.kn).map (fun q => (q.slot, q.rc)) := by rw [eSR]; exact List.mem_map.mpr ⟨q, hq, rfl⟩
    obtain ⟨p, hp, ep⟩ := List.mem_map.mp this
    have := slotN_of g1.nk hp
    rw [show p.rc = q.rc from congrArg Prod.snd ep, show p.slot = q.slot from congrArg Prod.fst ep, e2, e1] at this
    exact this
end
theorem Lim.of {n j : Nat} {s s' : PS} (h : Lim n s) (e1 : s'.sl.w ≤ s.sl.w + j) (e2 : ∀ d', s'.fa = some d' → ∃ d, s.fa = some d ∧ d'.w ≤ d.w + j) : Lim (n + j) s' :=
  ⟨Nat.le_trans e1 (Nat.add_le_add_right h.1 _), fun d' e => by
    obtain ⟨d, h1, h2⟩ := e2 d' e
    exact Nat.le_trans h2 (Nat.add_le_add_right (h.2 d h1) _)⟩
theorem map_of {f : DS (Option Rc) → DS (Option Rc)} {o : Option (DS (Option Rc))} {d' : DS (Option Rc)} (h : o.map f = some d') : ∃ d, o = some d ∧ d' = f d := by
  cases o with
  | none => cases h
  | some d => cases h; exact ⟨d, rfl, rfl⟩
section
variable {s : PS} {val : List Nat}
theorem rcp_of (g : Gd s val) : rcpOf s = if V.str s.wr = V.str "around" then AR else if V.str s.wr = V.str "back" ∧ s.fa.isSome = true then BK else TH := by
  unfold rcpOf
  rw [g.rc]
  rfl
theorem words0 (g : Gd s val) (hw : WrOk s) {b v : Nat} {rc : Rc} (hb : b < s.nb) (rb : rc.blk = b) (rv : rc.val = v) (rd : rc.dirty = decide (V.str s.wr = V.str "back")) {tg st : Option Nat}
    (cs : (s.fa = none ∧ tg = none ∧ st = none ∧ slotN s.kn b = none) ∨ (s.fa.isSome = true ∧ V.str s.wr = V.str "through" ∧ tg = slotN s.kn b ∧ st = none) ∨ (s.fa.isSome = true ∧ V.str s.wr = V.str "around" ∧ tg = none ∧ st = slotN s.kn b) ∨
      (s.fa.isSome = true ∧ V.str s.wr = V.str "back" ∧ ∃ t, tg = some t ∧ t < s.ms ∧ ((slotN s.kn b = some t ∧ st = none) ∨ ((∀ q ∈ s.kn, q.slot ≠ t) ∧ st = slotN s.kn b)))) :
    ∃ s3, wordsR rc tg st (rcpOf s) s = .ok () s3 ∧ Gd s3 (val.set b v) ∧ s3.nb = s.nb ∧ s3.wr = s.wr ∧ s3.fa.isSome = s.fa.isSome ∧ ∀ n, Lim n s → Lim (n + 2) s3 := by
  have h0 := g.lf
  have hb' : rc.blk < s.nb := by rw [rb]; exact hb
  have noi : InF s none := fun i e => by cases e
  have ini : ∀ {i : Nat}, slotN s.kn b = some i → InF s (some i) := fun e j ej => by
    cases ej
    exact at_InF g.wf (slotN_at e)
  have slw : ∀ {d : DS Nat}, d = (s.sl.wri rc.blk rc.val).syn → d.cs = s.sl.cs.set b v := fun e => by rw [e, rb, rv]; rfl
  rcases cs with ⟨ef, rfl, rfl, es⟩ | ⟨ef, ew, rfl, rfl⟩ | ⟨ef, ew, rfl, rfl⟩ | ⟨ef, ew, t, rfl, ht, ho⟩
  · -- no fast disk
    have key : ∀ zs, wordsR rc none none zs s = .ok () { s with sl := (s.sl.wri rc.blk rc.val).syn, fa := s.fa.map DS.syn, done := true } → ∃ s3, wordsR rc none none zs s = .ok () s3 ∧ Gd s3 (val.set b v) ∧ s3.nb = s.nb ∧ s3.wr = s.wr ∧ s3.fa.isSome = s.fa.isSome ∧ ∀ n, Lim n s → Lim (n + 2) s3 := fun zs e => by
      refine ⟨_, e, g.slowW hb ((wordsR_ok hb' noi noi e).wf g.wf) g.on h0 g.rc rfl (List.Sublist.refl _) (slotN_none.mp es) (fun q hq _ => hq) (fun d' e' => ?_) (slw rfl), rfl, rfl, by rw [Option.isSome_map], fun n h => h.of (by show s.sl.w + 1 ≤ _; omega) fun d' e' => ?_⟩
      · rw [show ({ s with sl := (s.sl.wri rc.blk rc.val).syn, fa := s.fa.map DS.syn, done := true } : PS).fa = s.fa.map DS.syn from rfl, ef] at e'
        cases e'
      · rw [show ({ s with sl := (s.sl.wri rc.blk rc.val).syn, fa := s.fa.map DS.syn, done := true } : PS).fa = s.fa.map DS.syn from rfl, ef] at e'
        cases e'
    rw [rcp_of g]
    by_cases ea : V.str s.wr = V.str "around"
    · rw [if_pos ea]
      exact key _ (w_ar0 h0)
    · rw [if_neg ea, if_neg (by rw [ef]; simp)]
      exact key _ (w_th0 h0)
  · have er : rcpOf s = TH := by
      rw [rcp_of g, if_neg (by rw [ew]; exact fun z => absurd (V.str.inj z) (by decide +kernel)), if_neg (by rw [ew]; exact fun z => absurd (V.str.inj z.1) (by decide +kernel))]
    have hd : rc.dirty = false := by
      rw [rd, ew]
      exact decide_eq_false (fun z => absurd (V.str.inj z) (by decide +kernel))
    rw [er]
    cases es : slotN s.kn b with
    | none =>
      have e := w_th0 (rc := rc) h0
      refine ⟨_, e, g.slowW hb ((wordsR_ok hb' noi noi e).wf g.wf) g.on h0 g.rc rfl (List.Sublist.refl _) (slotN_none.mp es) (fun q hq _ => hq) (fun d' e' => ?_) (slw rfl), rfl, rfl, by rw [Option.isSome_map], fun n h => h.of (by show s.sl.w + 1 ≤ _; omega) fun d' e' => ?_⟩
      · obtain ⟨d, h1, rfl⟩ := map_of e'
        exact ⟨d, h1, fun q _ => rfl⟩
      · obtain ⟨d, h1, rfl⟩ := map_of e'
        exact ⟨d, h1, by show d.w ≤ _; omega⟩
    | some i =>
      obtain ⟨q, hq, eq, eqb⟩ := slotN_in es
      have e := w_th1 (rc := rc) (i := i) h0
      have ht := (g.wf.kn q hq).2
      rw [eq] at ht
      have k := newK_own (rc := rc) (r := (s.reqs : Int) - 1) g.ns g.nk hq eqb rb
      rw [eq] at k
      refine ⟨_, e, g.newRec hb rb rv k ((wordsR_ok hb' (ini es) noi e).wf g.wf) g.on h0 g.rc rfl (fun d' e' => ?_) (.inr (slw rfl)), rfl, rfl, by rw [Option.isSome_map, Option.isSome_map], fun n h => h.of (by show s.sl.w + 1 ≤ _; omega) fun d' e' => ?_⟩
      · obtain ⟨d1, h1, rfl⟩ := map_of e'
        obtain ⟨d, h2, rfl⟩ := map_of h1
        refine ⟨d, h2, List.getElem?_set_self (by rw [g.wf.fa d h2]; exact ht), fun p _ hp => List.getElem?_set_ne (Ne.symm hp)⟩
      · obtain ⟨d1, h1, rfl⟩ := map_of e'
        obtain ⟨d, h2, rfl⟩ := map_of h1
        exact ⟨d, h2, by show d.w + 1 ≤ _; omega⟩
  · have er : rcpOf s = AR := by rw [rcp_of g, if_pos ew]
    rw [er]
    cases es : slotN s.kn b with
    | none =>
      have e := w_ar0 (rc := rc) h0
      refine ⟨_, e, g.slowW hb ((wordsR_ok hb' noi noi e).wf g.wf) g.on h0 g.rc rfl (List.Sublist.refl _) (slotN_none.mp es) (fun q hq _ => hq) (fun d' e' => ?_) (slw rfl), rfl, rfl, by rw [Option.isSome_map], fun n h => h.of (by show s.sl.w + 1 ≤ _; omega) fun d' e' => ?_⟩
      · obtain ⟨d, h1, rfl⟩ := map_of e'
        exact ⟨d, h1, fun q _ => rfl⟩
      · obtain ⟨d, h1, rfl⟩ := map_of e'
        exact ⟨d, h1, by show d.w ≤ _; omega⟩
    | some j =>
      obtain ⟨q, hq, eq, eqb⟩ := slotN_in es
      have e := w_ar1 (rc := rc) (j := j) h0
      refine ⟨_, e, g.slowW hb ((wordsR_ok hb' noi (ini es) e).wf g.wf) g.on h0 g.rc rfl List.filter_sublist (fun p hp y => ?_) (fun p hp y => List.mem_filter.mpr ⟨hp, decide_eq_true fun z => y ?_⟩) (fun d' e' => ?_) (slw rfl), rfl, rfl, by rw [Option.isSome_map, Option.isSome_map], fun n h => h.of (by show s.sl.w + 1 ≤ _; omega) fun d' e' => ?_⟩
      · obtain ⟨h1, h2⟩ := List.mem_filter.mp hp
        exact of_decide_eq_true h2 (by rw [inj_of g.nk h1 hq (y.trans eqb.symm), eq])
      · rw [inj_of g.ns hp hq (z.trans eq.symm), eqb]
      · obtain ⟨d1, h1, rfl⟩ := map_of e'
        obtain ⟨d, h2, rfl⟩ := map_of h1
        exact ⟨d, h2, fun p hp => List.getElem?_set_ne (fun z => of_decide_eq_true (List.mem_filter.mp hp).2 z.symm)⟩
      · obtain ⟨d1, h1, rfl⟩ := map_of e'
        obtain ⟨d, h2, rfl⟩ := map_of h1
        exact ⟨d, h2, by show d.w + 1 ≤ _; omega⟩
  · have er : rcpOf s = BK := by
      rw [rcp_of g, if_neg (by rw [ew]; exact fun z => absurd (V.str.inj z) (by decide +kernel)), if_pos ⟨ew, ef⟩]
    have hd : rc.dirty = true := by
      rw [rd, ew]
      exact decide_eq_true rfl
    have int : InF s (some t) := fun i e => by
      cases e
      exact ⟨ht, Option.isSome_iff_exists.mp ef⟩
    rw [er]
    have one : st = none → NewK s.kn b t rc (learnN t rc ((s.reqs : Int) - 1) s.kn) → ∃ s3, wordsR rc (some t) st BK s = .ok () s3 ∧ Gd s3 (val.set b v) ∧ s3.nb = s.nb ∧ s3.wr = s.wr ∧ s3.fa.isSome = s.fa.isSome ∧ ∀ n, Lim n s → Lim (n + 2) s3 := fun e0 k => by
      subst e0
      have e := w_bk0 (rc := rc) (i := t) h0
      refine ⟨_, e, g.newRec hb rb rv k ((wordsR_ok hb' int noi e).wf g.wf) g.on h0 g.rc rfl (fun d' e' => ?_) (.inl ⟨hd, rfl⟩), rfl, rfl, by rw [Option.isSome_map, Option.isSome_map, Option.isSome_map], fun n h => h.of (by show s.sl.w ≤ _; omega) fun d' e' => ?_⟩
      · obtain ⟨d2, h3, rfl⟩ := map_of e'
        obtain ⟨d1, h1, rfl⟩ := map_of h3
        obtain ⟨d, h2, rfl⟩ := map_of h1
        refine ⟨d, h2, List.getElem?_set_self (by rw [g.wf.fa d h2]; exact ht), fun p _ hp => List.getElem?_set_ne (Ne.symm hp)⟩
      · obtain ⟨d2, h3, rfl⟩ := map_of e'
        obtain ⟨d1, h1, rfl⟩ := map_of h3
        obtain ⟨d, h2, rfl⟩ := map_of h1
        exact ⟨d, h2, by show d.w + 1 ≤ _; omega⟩
    rcases ho with ⟨es, e0⟩ | ⟨gone, e0⟩
    · obtain ⟨q, hq, eq, eqb⟩ := slotN_in es
      have k := newK_own (rc := rc) (r := (s.reqs : Int) - 1) g.ns g.nk hq eqb rb
      rw [eq] at k
      exact one e0 k
    · cases es : slotN s.kn b with
      | none =>
        rw [es] at e0
        exact one e0 (newK_fresh g.ns g.nk gone (slotN_none.mp es) rb)
      | some j =>
        rw [es] at e0
        subst e0
        have e := w_bk1 (rc := rc) (i := t) (j := j) h0
        have k := newK_stale (rc := rc) (r := (s.reqs : Int) - 1) g.ns g.nk gone es rb
        obtain ⟨q, hq, eq, eqb⟩ := slotN_in es
        have tj : t ≠ j := fun z => gone q hq (eq.trans z.symm)
        refine ⟨_, e, g.newRec hb rb rv k ((wordsR_ok hb' int (ini es) e).wf g.wf) g.on h0 g.rc rfl (fun d' e' => ?_) (.inl ⟨hd, rfl⟩), rfl, rfl, by rw [Option.isSome_map, Option.isSome_map, Option.isSome_map, Option.isSome_map], fun n h => h.of (by show s.sl.w ≤ _; omega) fun d' e' => ?_⟩
        · obtain ⟨d3, h4, rfl⟩ := map_of e'
          obtain ⟨d2, h3, rfl⟩ := map_of h4
          obtain ⟨d1, h1, rfl⟩ := map_of h3
          obtain ⟨d, h2, rfl⟩ := map_of h1
          refine ⟨d, h2, ?_, fun p hp hpt => ?_⟩
          · show ((d.cs.set t (some rc)).set j none)[t]? = _
            rw [List.getElem?_set_ne (Ne.symm tj)]
            exact List.getElem?_set_self (by rw [g.wf.fa d h2]; exact ht)
          · show ((d.cs.set t (some rc)).set j none)[p.slot]? = _
            rw [List.getElem?_set_ne (fun z => of_decide_eq_true (List.mem_filter.mp hp).2 z.symm), List.getElem?_set_ne (Ne.symm hpt)]
        · obtain ⟨d3, h4, rfl⟩ := map_of e'
          obtain ⟨d2, h3, rfl⟩ := map_of h4
          obtain ⟨d1, h1, rfl⟩ := map_of h3
          obtain ⟨d, h2, rfl⟩ := map_of h1
          exact ⟨d, h2, by show d.w + 1 + 1 ≤ _; omega⟩
theorem write0 (g : Gd s val) (hw : WrOk s) {b v : Nat} (hb : b < s.nb) : ∃ hit s1, writeR b v s = .ok hit s1 ∧ Gd s1 (val.set b v) ∧ s1.nb = s.nb ∧ s1.wr = s.wr ∧ s1.fa.isSome = s.fa.isSome ∧ ∀ n, Lim n s → Lim (n + 11) s1 := by
  obtain ⟨g1, eb⟩ := begin0 g b (s.turn + 1)
  obtain ⟨q1, q2, q3, q4, q5, q6, q7, q8, q9⟩ := beginS_same b s
  have hw1 : WrOk { beginS b s with turn := s.turn + 1 } := by
    unfold WrOk
    rw [show ({ beginS b s with turn := s.turn + 1 } : PS).wr = s.wr from q5]
    exact hw
  obtain ⟨tg, st, s2, e2, g2, ⟨sl, fa, kn, ex⟩, hf, l2, cs⟩ := choose0 g1 hw1 b
  rw [show slotN ({ beginS b s with turn := s.turn + 1 } : PS).kn b = slotN s.kn b from eb] at e2
  unfold writeR
  rw [e2, Rs.bind_ok]
  have en : s2.nb = s.nb := by rw [ex]; exact q2
  have ew : s2.wr = s.wr := by rw [ex]; exact q5
  have hw2 : WrOk s2 := by unfold WrOk; rw [ew]; exact hw
  obtain ⟨s3, e3, g3, n3, w3, f3, l3⟩ := words0 (rc := recS b v s.turn s2) (v := v) g2 hw2 (by rw [en]; exact hb) rfl rfl rfl cs
  rw [e3, Rs.bind_ok]
  obtain ⟨s4, e4, g4, n4, w4, f4, l4⟩ := tail0 g3 (slotN s.kn b).isSome
  refine ⟨_, s4, e4, g4, n4.trans (n3.trans en), w4.trans (w3.trans ew), f4.trans (f3.trans (hf.trans (by rw [q8]))), fun n h => ?_⟩
  have h1 : Lim n { beginS b s with turn := s.turn + 1 } := ⟨by rw [show ({ beginS b s with turn := s.turn + 1 } : PS).sl = s.sl from q7]; exact h.1, fun d e => h.2 d (by rw [← q8]; exact e)⟩
  exact l4 _ (l3 _ (l2 _ h1))
theorem read0 (g : Gd s val) {b : Nat} (hb : b < s.nb) : ∃ s1, readR b s = .ok (val.getD b 0) s1 ∧ Gd s1 val ∧ s1.nb = s.nb ∧ s1.wr = s.wr ∧ s1.fa.isSome = s.fa.isSome ∧ ∀ n, Lim n s → Lim (n + 2) s1 := by
  obtain ⟨g1, eb⟩ := begin0 g b (beginS b s).turn
  obtain ⟨q1, q2, q3, q4, q5, q6, q7, q8, q9⟩ := beginS_same b s
  cases es : slotN s.kn b with
  | some i =>
    have er : readR b s = .ok (cellV i s) { beginS b s with fa := s.fa.map DS.rd } := by
      unfold readR
      rw [es]
    obtain ⟨q, hq, e1, e2⟩ := slotN_in es
    have hv := g.vk q hq
    rw [e2] at hv
    obtain ⟨_, d, hd⟩ := at_InF g.wf (slotN_at es)
    obtain ⟨rc, h1, h2, h3⟩ := g.ce q hq d hd
    have ec : cellV i s = val.getD b 0 := by
      unfold cellV
      rw [hd]
      show (match d.cs[i]? with | some (some rc) => rc.val | _ => 0) = _
      rw [← e1, h1, List.getD_eq_getElem?_getD, hv]
      exact h3
    rw [er, ec]
    refine ⟨_, rfl, ?_, q2, q5, ?_, fun n h => ⟨by show (beginS b s).sl.w ≤ _; rw [q7]; exact Nat.le_trans h.1 (by omega), fun d' e => ?_⟩⟩
    · refine g1.same rfl rfl ?_ rfl rfl rfl rfl rfl
      show (s.fa.map DS.rd).map _ = (beginS b s).fa.map _
      rw [q8, Option.map_map]
      rfl
    · show (s.fa.map DS.rd).isSome = _
      rw [Option.isSome_map]
    · obtain ⟨d0, h4, rfl⟩ := map_of (o := s.fa) (f := DS.rd) e
      exact Nat.le_trans (h.2 d0 h4) (by omega)
  | none =>
    have nk : ∀ q ∈ s.kn, q.rc.blk ≠ b := slotN_none.mp es
    have hsv := g.vs b hb nk
    have hvl : b < val.length := by rw [g.vl]; exact hb
    have hv : val[b]? = some (val.getD b 0) := by rw [List.getD_eq_getElem?_getD, List.getElem?_eq_getElem hvl]; rfl
    have ev : slowV b s = val.getD b 0 := by
      unfold slowV
      rw [List.getD_eq_getElem?_getD, hsv, hv]
      rfl
    have er : readR b s = if V.str s.rd = V.str "keep" ∧ s.fa.isSome = true then keepR b (slowV b s) { beginS b s with sl := s.sl.rd } else .ok (slowV b s) { beginS b s with sl := s.sl.rd } := by
      unfold readR
      rw [es]
    rw [er, ev]
    have g2 : Gd { beginS b s with sl := s.sl.rd } val := g1.same rfl (by show s.sl.cs = (beginS b s).sl.cs; rw [q7]) rfl rfl rfl rfl rfl rfl
    have l2 : ∀ n, Lim n s → Lim n { beginS b s with sl := s.sl.rd } := fun n h => ⟨h.1, fun d e => h.2 d (by rw [← q8]; exact e)⟩
    by_cases hk : V.str s.rd = V.str "keep" ∧ s.fa.isSome = true
    · rw [if_pos hk]
      obtain ⟨d, hd⟩ := Option.isSome_iff_exists.mp hk.2
      obtain ⟨i, s3, e3, g3, hi, gone, hSB, ⟨sl, fa, kn, ex⟩, f3, l3⟩ := take0 g2 (d := d) (by show (beginS b s).fa = _; rw [q8]; exact hd)
      unfold keepR
      rw [e3, Rs.bind_ok]
      have h0 := g3.lf
      have e4 := wRec0 (i := i) (rc := (⟨b, val.getD b 0, 0, false⟩ : Rc)) h0
      rw [e4, Rs.bind_ok]
      have en : s3.nb = s.nb := by rw [ex]; exact q2
      have nk3 : ∀ q ∈ s3.kn, q.rc.blk ≠ b := fun q hq => by
        obtain ⟨p, hp, _, h2⟩ := SB_of ((hSB _).mp (SB_mem hq)).1
        rw [← show p.rc.blk = q.rc.blk from h2]
        exact slotN_none.mp (eb.trans es) p hp
      have hb3 : b < s3.nb := by rw [en]; exact hb
      have hms : i < s3.ms := by rw [ex]; exact hi
      have hfd : ∃ d, s3.fa = some d := Option.isSome_iff_exists.mp (by rw [f3]; show (beginS b s).fa.isSome = true; rw [q8]; exact hk.2)
      have h5 := g3.newRec (s' := { s3 with fa := s3.fa.map fun d => d.wri i (some (⟨b, val.getD b 0, 0, false⟩ : Rc)), kn := learnN i (⟨b, val.getD b 0, 0, false⟩ : Rc) ((s3.reqs : Int) - 1) s3.kn }) (b := b) (v := val.getD b 0) (t := i) (rc := (⟨b, val.getD b 0, 0, false⟩ : Rc)) hb3 rfl rfl (newK_fresh g3.ns g3.nk gone nk3 rfl) ((wRec_ok hms hb3 hfd e4).wf g3.wf) g3.on h0 g3.rc rfl (fun d' e' => by
        obtain ⟨d, h2, rfl⟩ := map_of e'
        exact ⟨d, h2, List.getElem?_set_self (by rw [g3.wf.fa d h2]; exact hms), fun p _ hp => List.getElem?_set_ne (Ne.symm hp)⟩) (.inr (set_same ((g3.vs b hb3 nk3).trans hv)).symm)
      rw [set_same hv] at h5
      refine ⟨_, rfl, h5, en, by rw [ex]; exact q5, ?_, fun n h => ?_⟩
      · show (s3.fa.map _).isSome = _
        rw [Option.isSome_map, f3]
        show (beginS b s).fa.isSome = _
        rw [q8]
      · refine (l3 _ (l2 n h)).of (j := 1) (Nat.le_succ _) fun d' e' => ?_
        obtain ⟨d, h2, rfl⟩ := map_of e'
        exact ⟨d, h2, Nat.le_refl _⟩
    · rw [if_neg hk]
      exact ⟨_, rfl, g2, q2, q5, by show (beginS b s).fa.isSome = _; rw [q8], fun n h => (l2 n h).up (by omega)⟩
theorem settle0 (g : Gd s val) : ∃ s1, settleR s = .ok () s1 ∧ Gd s1 val ∧ s1.nb = s.nb ∧ s1.wr = s.wr ∧ s1.fa.isSome = s.fa.isSome ∧ ∀ n, Lim n s → Lim n s1 := by
  unfold settleR
  rw [ySlow0 g.lf, Rs.bind_ok, yFast0 (by exact g.lf)]
  refine ⟨_, rfl, g.same rfl rfl ?_ rfl rfl rfl rfl rfl, rfl, rfl, ?_, fun n h => ⟨h.1, fun d e => ?_⟩⟩
  · show (s.fa.map DS.syn).map _ = _
    rw [Option.map_map]
    rfl
  · show (s.fa.map DS.syn).isSome = _
    rw [Option.isSome_map]
  · obtain ⟨d0, h4, rfl⟩ := map_of (o := s.fa) (f := DS.syn) e
    exact h.2 d0 h4
theorem forg0 (g : Gd s val) (b : Nat) : Gd (forgS b s).2 val ∧ (forgS b s).2.nb = s.nb ∧ (forgS b s).2.wr = s.wr ∧ (forgS b s).2.fa = s.fa ∧ ∀ n, Lim n s → Lim n (forgS b s).2 := by
  unfold forgS
  cases es : slotN s.kn b with
  | none => exact ⟨g, rfl, rfl, rfl, fun n h => h⟩
  | some i =>
    dsimp only
    by_cases e : ((atN s.kn i).map fun q => q.rc.dirty) = some false
    · rw [if_pos e]
      refine ⟨g.forget fun q hq eq => ?_, rfl, rfl, rfl, fun n h => h⟩
      rw [← eq, atN_is g.ns hq] at e
      exact Option.some.inj e
    · rw [if_neg e]
      exact ⟨g, rfl, rfl, rfl, fun n h => h⟩
theorem ruled0 (g : Gd s val) (wr rd ch : Str) (bd : Int) : Gd { s with wr := wr, rd := rd, ch := ch, bd := bd } val := g.same rfl rfl rfl rfl rfl rfl rfl rfl
end
/-! ### a new pair -/
def spChk : Sp := fun vs H Q _ => ∃ n m : Int, vs = [.int n, .int m] ∧ 1 ≤ n ∧ n ≤ m ∧ Q .non H
def spPutF (c : Cl) : Sp := fun vs H Q _ => ∃ (p px : Addr) (n : Nat) (fs : List (Str × V)), vs = [.ref p, .int (n : Int)] ∧ 1 ≤ n ∧ n ≤ 8 ∧ H p = some (.ins c.cP px fs) ∧ fs.length ≤ 20 ∧
  ∀ (H' : Hp) (F : Dk) (M : Mm), Fr [p] H H' → (∀ b ∈ F.own, H b = none) → (∀ b ∈ M.own [], H b = none) → Sep F.own (M.own []) → DiskAt c.cD H' F (List.replicate n .non) (List.replicate n .non) [] 0 0 0 → MemAt c.cM c.cK H' M n [] →
    H' p = some (.ins c.cP px (putF "_memory" (.ref M.m) (putF "_fast" (.ref F.p) fs))) → Q .non H'
theorem dk_new {H : Hp} {D : Dk} {p dx : Addr} {C : Addr} (hp : H p = none) (hdx : H dx = none) (e : D.p = p) (c0 : (upd (upd H dx (.own p)) p (.ins C dx [])) D.c = none) (l0 : (upd (upd H dx (.own p)) p (.ins C dx [])) D.l = none) (d0 : (upd (upd H dx (.own p)) p (.ins C dx [])) D.d = none) : ∀ b ∈ D.own, H b = none := fun b hb => by
  simp only [Dk.own, List.mem_cons, List.not_mem_nil, or_false] at hb
  rcases hb with rfl | rfl | rfl | rfl
  · rw [e]; exact hp
  · exact (free_upd (free_upd c0).1).1
  · exact (free_upd (free_upd l0).1).1
  · exact (free_upd (free_upd d0).1).1
section
variable {P : Program} {w : World} {K : PySem.W.Frag} {mg : Str → Option Value} {base : Heap}
theorem ok_chkB (T : Gx K mg) : FnOk P w K mg base CX0 3 T.f_check_blocks T.fd_check_blocks ["blocks", "most"] spChk := by
  have G_is_number_from : FnOk P w K mg base CX0 2 T.f_is_number_from T.fd_is_number_from ["thing", "least", "most"] (spNumFrom K) := ok_numFrom T
  refine T.F_check_blocks.ok sc_check_blocks (fun vs H Q E h => ?_) (fun cdv A outer s H vs Q E hr h => ?_)
  · obtain ⟨n, m, rfl, _⟩ := h
    rfl
  · obtain ⟨n, m, rfl, h1, h2, k⟩ := h
    refine ⟨_, (pss_one (ps_if (pt_not (pt_val (pe_call G_is_number_from (hr.mono (by first | decide | omega)) (by rfl) T.g_is_number_from T.F_is_number_from.kp (b_is_number_from T) .nil pass0 (pa_cons (pv 0) (pa_cons pe_int (pa_cons (pv 1) pa_nil)))))) (pss_one ps_never) pss_nil)), ?_⟩
    refine ⟨_, rfl, _, rfl, .int n, 1, m, rfl, .inl ⟨n, rfl, _, rfl, ?_⟩⟩
    have e : (decide ((1 : Int) ≤ n) && decide (n ≤ m)) = true := by
      rw [Bool.and_eq_true, decide_eq_true_eq, decide_eq_true_eq]
      omega
    rw [e]
    exact iteF k
theorem ok_chkS (T : Gx K mg) : FnOk P w K mg base CX0 3 T.f_check_slots T.fd_check_slots ["slots", "most"] spChk := by
  have G_is_number_from : FnOk P w K mg base CX0 2 T.f_is_number_from T.fd_is_number_from ["thing", "least", "most"] (spNumFrom K) := ok_numFrom T
  refine T.F_check_slots.ok sc_check_slots (fun vs H Q E h => ?_) (fun cdv A outer s H vs Q E hr h => ?_)
  · obtain ⟨n, m, rfl, _⟩ := h
    rfl
  · obtain ⟨n, m, rfl, h1, h2, k⟩ := h
    refine ⟨_, (pss_one (ps_if (pt_not (pt_val (pe_call G_is_number_from (hr.mono (by first | decide | omega)) (by rfl) T.g_is_number_from T.F_is_number_from.kp (b_is_number_from T) .nil pass0 (pa_cons (pv 0) (pa_cons pe_int (pa_cons (pv 1) pa_nil)))))) (pss_one ps_never) pss_nil)), ?_⟩
    refine ⟨_, rfl, _, rfl, .int n, 1, m, rfl, .inl ⟨n, rfl, _, rfl, ?_⟩⟩
    have e : (decide ((1 : Int) ≤ n) && decide (n ≤ m)) = true := by
      rw [Bool.and_eq_true, decide_eq_true_eq, decide_eq_true_eq]
      omega
    rw [e]
    exact iteF k
theorem ok_putInF (T : Gx K mg) : FnOk P w K mg base CX0 5 T.f_Pair__put_in_fast T.fd_Pair__put_in_fast ["self", "slots"] (spPutF (clT T)) := by
  have G_Disk___init__ : FnOk P w K mg base CX0 3 T.f_Disk___init__ T.fd_Disk___init__ ["self", "cells", "content"] (spInit T.C_Disk) := ok_init T
  have G_Memory___init__ : FnOk P w K mg base CX0 1 T.f_Memory___init__ T.fd_Memory___init__ ["self", "slots"] (spMInit T.C_Memory T.C_KnownSlot) := ok_mInit T
  obtain ⟨_, kb_Disk⟩ := T.F_Disk___init__.kbinds0 (ps := ["self", "cells", "content"]) 2 ["content"] [] (fun vs mz zs => vs ++ zs) (by simp) (by simp) (fun a _ b => a.append b)
    (fun D doc pm an cdv ct us mv ws hu hm hw => match us, hu, mv, hm, ws, hw with | [_, _], _, [], _, [_], _ => rfl)
  refine T.F_Pair__put_in_fast.ok sc_Pair__put_in_fast (fun vs H Q E h => ?_) (fun cdv A outer s H vs Q E hr h => ?_)
  · obtain ⟨p, px, n, fs, rfl, _⟩ := h
    rfl
  · obtain ⟨p, px, n, fs, rfl, h1, h8, hp, hl, k⟩ := h
    refine ⟨_, (pss_cons (ps_fld (pv 0) (pe_makeK T.M_Disk___init__ G_Disk___init__ (hr.mono (by first | decide | omega)) (by rfl) T.gC_Disk kb_Disk pass0 (pa_cons (pv 1) pa_nil) (pk_cons pe_non pk_nil)) rfl)
      (pss_one (ps_fld (pv 0) (pe_make T.M_Memory___init__ G_Memory___init__ (hr.mono (by first | decide | omega)) (by rfl) T.gC_Memory (b_Memory___init__ T) .nil pass0 (pa_cons (pv 1) pa_nil)) rfl))), ?_⟩
    refine ⟨_, rfl, rfl, rfl, fun q qx hq hqx hne => ⟨q, qx, n, .non, rfl, h1, by omega, upd_same, fun F H1 eF f1 hF c0 l0 d0 => ⟨rfl, ?_⟩⟩⟩
    have g1 : Fr [] H H1 := made_fr hq hqx f1
    have nF : ∀ b ∈ F.own, H b = none := dk_new hq hqx eF c0 l0 d0
    have hp1 := g1 _ _ hp (by simp)
    refine ⟨_, rfl, p, T.C_Pair, px, fs, rfl, hp1, T.cl_Pair, T.n_Pair__fast, by omega, ?_⟩
    have pF' : p ∉ F.own := fun z => by rw [nF p z] at hp; cases hp
    have hF2 : DiskAt T.C_Disk (upd H1 p (.ins T.C_Pair px (putF "_fast" (.ref q) fs))) F (List.replicate n .non) (List.replicate n .non) [] 0 0 0 := hF.keep (S := [p]) (Fr.put (by simp)) (fun b hb z => pF' (by rw [← List.mem_singleton.mp z]; exact hb)) (fun b hb xs => by rw [List.mem_singleton.mp hb, hp1]; simp)
    refine ⟨_, rfl, fun m mx hm hmx hnm => ⟨m, mx, n, rfl, by omega, upd_same, fun d H2 hd f2 hM => ⟨rfl, ?_⟩⟩⟩
    have g2 : Fr [] (upd H1 p (.ins T.C_Pair px (putF "_fast" (.ref q) fs))) H2 := made_fr hm hmx f2
    have hp2 := g2 _ _ upd_same (by simp)
    refine ⟨_, rfl, p, T.C_Pair, px, _, rfl, hp2, T.cl_Pair, T.n_Pair__memory, Nat.lt_of_le_of_lt (putF_len _ _ _) (by omega), ?_⟩
    rw [← eF] at hp2 ⊢
    have nM : ∀ b ∈ ({ m := m, x := mx, d := d } : Mm).own [], (upd H1 p (.ins T.C_Pair px (putF "_fast" (.ref q) fs))) b = none := fun b hb => by
      simp only [Mm.own, List.map_nil, List.mem_cons, List.not_mem_nil, or_false] at hb
      rcases hb with rfl | rfl
      · exact hm
      · exact (free_upd (free_upd hd).1).1
    have nM0 : ∀ b ∈ ({ m := m, x := mx, d := d } : Mm).own [], H b = none := fun b hb => some_of g1 (by simp) (free_upd (nM b hb)).1
    have hF3 := hF2.keep g2 (by simp) (by simp)
    have pM : p ∉ ({ m := m, x := mx, d := d } : Mm).own [] := fun z => by rw [nM0 p z] at hp; cases hp
    have S3 : Fr [p] H2 (upd H2 p (.ins T.C_Pair px (putF "_memory" (.ref m) (putF "_fast" (.ref F.p) fs)))) := Fr.put (by simp)
    have nt : ∀ b ∈ [p], ∀ xs, H2 b ≠ some (.tup xs) := fun b hb xs => by rw [List.mem_singleton.mp hb, hp2]; simp
    refine k _ F ⟨m, mx, d⟩ (((g1.mono (by simp)).trans (Fr.put (by simp))).trans ((g2.mono (by simp)).trans S3)) nF nM0 (fun b hb z => ?_) (hF3.keep S3 (fun b hb z => pF' (by rw [← List.mem_singleton.mp z]; exact hb)) nt) (hM.keep S3 (fun b hb z => pM (by rw [← List.mem_singleton.mp z]; exact hb)) nt) upd_same
    obtain ⟨o, eo⟩ := hF2.there b hb
    rw [nM b z] at eo
    cases eo
end
/-! ### a new pair of both disks, its recipes given -/
def initR (rcs : List (List Str)) (nb ns : Nat) (wr rd ch : Str) (bd : Int) : PS := ⟨nb, ns, wr, rd, ch, bd, rcs, ⟨List.replicate nb 0, List.replicate nb 0, [], 0, 0, 0⟩, some ⟨List.replicate ns none, List.replicate ns none, [], 0, 0, 0⟩, [0, 0, 0, 0, 0, 0], 0, 0, 1, none, true, false, []⟩
def spPInitR (c : Cl) : Sp := fun vs H Q _ => ∃ (p px ru rx re : Addr) (nb ns : Nat) (wr rd ch : Str) (bd : Int) (rcs : List (List Str)), vs = [.ref p, .int (nb : Int), .int (ns : Int), .ref ru, .ref re] ∧ RecAt c.cQ H re rcs ∧ re ≠ p ∧ 1 ≤ nb ∧ nb ≤ 16 ∧ 1 ≤ ns ∧ ns ≤ 8 ∧ H p = some (.ins c.cP px []) ∧ H ru = some (.ins c.cR rx (rF (.str wr) (.str rd) (.str ch) (.int bd))) ∧ p ≠ ru ∧
  ∀ (H' : Hp) (P : Pp), P.p = p → P.ru = ru → Fr [p] H H' → P.re = re → PairAt c H' P [] (initR rcs nb ns wr rd ch bd) → Gw [p] H (P.own []) → Q .non H'
theorem pl {f : Str} {v : V} {fs : List (Str × V)} {n : Nat} (h : fs.length ≤ n) : (putF f v fs).length ≤ n + 1 := Nat.le_trans (putF_len f v fs) (Nat.succ_le_succ h)
theorem pF4_no {a b c d : V} : (putF "_slow" d (putF "_recipes" c (putF "_rules" b (putF "_blocks" a [])))).lookup ("_put_in_fast" : Str) = none := by
  simp only [putF, if_neg pnf0_1, if_neg pnf0_2, if_neg pnf0_3, if_neg pnf1_2, if_neg pnf1_3, if_neg pnf2_3, List.lookup, (show (("_put_in_fast" : Str) == "_blocks") = false by decide +kernel), (show (("_put_in_fast" : Str) == "_rules") = false by decide +kernel), (show (("_put_in_fast" : Str) == "_recipes") = false by decide +kernel), (show (("_put_in_fast" : Str) == "_slow") = false by decide +kernel)]
section
variable {P : Program} {w : World} {K : PySem.W.Frag} {mg : Str → Option Value} {base : Heap}
theorem ok_pInitR (T : Gx K mg) : FnOk P w K mg base CX0 6 T.f_Pair___init__ T.fd_Pair___init__ ["self", "blocks", "slots", "rules", "recipes"] (spPInitR (clT T)) := by
  have G_check_slots : FnOk P w K mg base CX0 3 T.f_check_slots T.fd_check_slots ["slots", "most"] spChk := ok_chkS T
  have G_check_blocks : FnOk P w K mg base CX0 3 T.f_check_blocks T.fd_check_blocks ["blocks", "most"] spChk := ok_chkB T
  have G_Disk___init__ : FnOk P w K mg base CX0 3 T.f_Disk___init__ T.fd_Disk___init__ ["self", "cells", "content"] (spInit T.C_Disk) := ok_init T
  have G_Recipes_safe : FnOk P w K mg base CX0 4 T.f_Recipes_safe T.fd_Recipes_safe ["cls"] (spSafeM T.C_Recipes) := ok_safeM T
  have G_Pair__put_in_fast : FnOk P w K mg base CX0 5 T.f_Pair__put_in_fast T.fd_Pair__put_in_fast ["self", "slots"] (spPutF (clT T)) := ok_putInF T
  obtain ⟨dsB, rdB, bB⟩ := T.F_check_blocks.binds1 (ps := ["blocks", "most"]) 1 0 (by simp) rfl (fun U kV doc pm an cdv ct us its hu hi => match us, hu, its, hi with
    | [_], _, [_], _ => ⟨_, rfl, rfl⟩)
  obtain ⟨dsS, rdS, bS⟩ := T.F_check_slots.binds1 (ps := ["slots", "most"]) 1 0 (by simp) rfl (fun U kV doc pm an cdv ct us its hu hi => match us, hu, its, hi with
    | [_], _, [_], _ => ⟨_, rfl, rfl⟩)
  obtain ⟨ds, rd, bI⟩ := T.F_Disk___init__.binds0 (ps := ["self", "cells", "content"]) 2 (by simp) rfl (fun D doc pm an cdv ct us ks hu hk => match us, hu, ks, hk with
    | [_, _], _, [_], _ => ⟨_, _, _, _, _, _, rfl, rfl, rfl⟩)
  refine T.F_Pair___init__.ok sc_Pair___init__ (fun vs H Q E h => ?_) (fun cdv A outer s H vs Q E hr h => ?_)
  · obtain ⟨p, px, ru, rx, re, nb, ns, wr, rw_, ch, bd, rcs, rfl, _⟩ := h
    rfl
  · obtain ⟨p, px, ru, rx, re, nb, ns, wr, rw_, ch, bd, rcs, rfl, hR, rep, hb1, hb2, hs1, hs2, hp, hru, pru, k⟩ := h
    refine ⟨_, (pss_cons (ps_expr (pe_call G_check_blocks (hr.mono (by first | decide | omega)) (by rfl) T.g_check_blocks T.F_check_blocks.kp bB rdB pass0 (pa_cons (pv 1) pa_nil)))
      (pss_cons (ps_expr (pe_call G_check_slots (hr.mono (by first | decide | omega)) (by rfl) T.g_check_slots T.F_check_slots.kp bS rdS pass0 (pa_cons (pv 2) pa_nil)))
      (pss_cons (ps_if (pt_cmpR op_isN (pv 4) pe_non (nomark _)) (pss_one (ps_set (i := 4) sc_Pair___init__.nd rfl (.inl rfl) (pe_cmeth0 (pe_glob (v := .ref T.C_Recipes) (by rfl) T.gC_Recipes rfl) T.R_Recipes_safe T.Y_Recipes_safe (G_Recipes_safe.raw (b_Recipes_safe T) .nil) (hr.mono (by first | decide | omega)) pass0))) pss_nil)
      (pss_cons (ps_fld (pv 0) (pv 1) rfl)
      (pss_cons (ps_fld (pv 0) (pv 3) rfl)
      (pss_cons (ps_fld (pv 0) (pv 4) rfl)
      (pss_cons (ps_fld (pv 0) (pe_make T.M_Disk___init__ G_Disk___init__ (hr.mono (by first | decide | omega)) (by rfl) T.gC_Disk bI rd pass0 (pa_cons (pv 1) pa_nil)) rfl)
      (pss_cons (ps_expr (pe_meth (pv 0) T.cl_Pair T.m_Pair__put_in_fast G_Pair__put_in_fast (hr.mono (by first | decide | omega)) (b_Pair__put_in_fast T) .nil pass0 (pa_cons (pv 2) pa_nil)))
      (pss_cons (ps_fld (pv 0) (pe_tup (StX.pa_star (pe_glob (v := .ref T.A_NO_COUNTS) (by rfl) T.g_NO_COUNTS rfl) (StX.pa_star (pe_glob (v := .ref T.A_NO_COUNTS) (by rfl) T.g_NO_COUNTS rfl) pa_nil))) rfl)
      (pss_cons (ps_fld (pv 0) pe_int rfl)
      (pss_cons (ps_fld (pv 0) pe_int rfl)
      (pss_cons (ps_fld (pv 0) pe_int rfl)
      (pss_cons (ps_fld (pv 0) pe_non rfl)
      (pss_cons (ps_fld (pv 0) pe_bl rfl)
      (pss_one (ps_fld (pv 0) pe_bl rfl)))))))))))))))), ?_⟩
    refine ⟨_, rfl, (nb : Int), 16, rfl, by omega, by omega, ?_⟩
    refine ⟨_, rfl, (ns : Int), 8, rfl, by omega, by omega, ?_⟩
    refine ⟨_, rfl, rfl, _, rfl, iteF ?_⟩
    obtain ⟨H1, hH1⟩ : ∃ H1, H1 = H := ⟨H, rfl⟩
    have f1 : Fr [] H H1 := by rw [hH1]; exact Fr.refl _ _
    rw [← hH1] at hR
    have hp1 : H1 p = some (.ins T.C_Pair px []) := f1 _ _ hp (by simp)
    rw [show H = H1 from hH1.symm]
    refine ⟨_, rfl, _, rfl, p, T.C_Pair, px, [], rfl, hp1, T.cl_Pair, T.n_Pair__blocks, by simp, ?_⟩
    refine ⟨_, rfl, _, rfl, p, T.C_Pair, px, _, rfl, upd_same, T.cl_Pair, T.n_Pair__rules, Nat.lt_of_le_of_lt (putF_len _ _ _) (by simp), ?_⟩
    refine ⟨_, rfl, _, rfl, p, T.C_Pair, px, _, rfl, upd_same, T.cl_Pair, T.n_Pair__recipes, Nat.lt_of_le_of_lt (putF_len _ _ _) (Nat.lt_of_le_of_lt (Nat.succ_le_succ (putF_len _ _ _)) (by simp)), ?_⟩
    rw [upd_upd, upd_upd]
    refine ⟨_, rfl, fun q qx hq hqx hne => ⟨q, qx, nb, .int 0, rfl, hb1, by omega, upd_same, fun D H3 eD f3 hD c0 l0 d0 => ⟨rfl, ?_⟩⟩⟩
    have g3 := made_fr hq hqx f3
    have hp3 := g3 _ _ upd_same (by simp)
    have nD := dk_new hq hqx eD c0 l0 d0
    have f13' : Fr [p] H1 H3 := (Fr.put (by simp)).trans (g3.mono (by simp))
    have f13 : Fr [p] H H3 := ((f1.mono (by simp)).trans (Fr.put (by simp))).trans (g3.mono (by simp))
    refine ⟨_, rfl, p, T.C_Pair, px, _, rfl, hp3, T.cl_Pair, T.n_Pair__slow, Nat.lt_of_le_of_lt (pl (pl (pl (Nat.le_refl 0)))) (by decide), ?_⟩
    refine ⟨_, rfl, p, px, _, rfl, upd_same, pF4_no, _, rfl, p, px, ns, _, rfl, hs1, hs2, upd_same, Nat.le_trans (pl (pl (pl (pl (Nat.le_refl 0))))) (by decide), fun H4 F M f4 nF nM sFM hF hM hp4 => ?_⟩
    refine ⟨T.A_NO_COUNTS, _, rfl, .inl (T.k_NO_COUNTS _), T.A_NO_COUNTS, _, rfl, .inl (T.k_NO_COUNTS _), sz_le (by simp), fun cd hcd => ?_⟩
    have hp5 := (upd_ne (o := HO.tup [.int 0, .int 0, .int 0, .int 0, .int 0, .int 0]) (ne_of_none hp4 hcd)).trans hp4
    refine ⟨_, rfl, p, T.C_Pair, px, _, rfl, hp5, T.cl_Pair, T.n_Pair__counts_of_dead, Nat.lt_of_le_of_lt (pl (pl (pl (pl (pl (pl (Nat.le_refl 0))))))) (by decide), ?_⟩
    refine ⟨_, rfl, p, T.C_Pair, px, _, rfl, upd_same, T.cl_Pair, T.n_Pair__requests, Nat.lt_of_le_of_lt (pl (pl (pl (pl (pl (pl (pl (Nat.le_refl 0)))))))) (by decide), ?_⟩
    refine ⟨_, rfl, p, T.C_Pair, px, _, rfl, upd_same, T.cl_Pair, T.n_Pair__hits, Nat.lt_of_le_of_lt (pl (pl (pl (pl (pl (pl (pl (pl (Nat.le_refl 0))))))))) (by decide), ?_⟩
    refine ⟨_, rfl, p, T.C_Pair, px, _, rfl, upd_same, T.cl_Pair, T.n_Pair__next_turn, Nat.lt_of_le_of_lt (pl (pl (pl (pl (pl (pl (pl (pl (pl (Nat.le_refl 0)))))))))) (by decide), ?_⟩
    refine ⟨_, rfl, p, T.C_Pair, px, _, rfl, upd_same, T.cl_Pair, T.n_Pair__steps_left, Nat.lt_of_le_of_lt (pl (pl (pl (pl (pl (pl (pl (pl (pl (pl (Nat.le_refl 0))))))))))) (by decide), ?_⟩
    refine ⟨_, rfl, p, T.C_Pair, px, _, rfl, upd_same, T.cl_Pair, T.n_Pair__is_on, Nat.lt_of_le_of_lt (pl (pl (pl (pl (pl (pl (pl (pl (pl (pl (pl (Nat.le_refl 0)))))))))))) (by decide), ?_⟩
    refine ⟨_, rfl, p, T.C_Pair, px, _, rfl, upd_same, T.cl_Pair, T.n_Pair__is_done, Nat.lt_of_le_of_lt (pl (pl (pl (pl (pl (pl (pl (pl (pl (pl (pl (pl (Nat.le_refl 0))))))))))))) (by decide), ?_⟩
    rw [pF_made, upd_upd, upd_upd, upd_upd, upd_upd, upd_upd, upd_upd]
    rw [← eD]
    have nt3 : ∀ b ∈ [p], ∀ xs, H3 b ≠ some (.tup xs) := fun b hb xs => by rw [List.mem_singleton.mp hb, hp3]; simp
    have nD0 : ∀ b ∈ D.own, H b = none ∧ b ≠ p := fun b hb => by
      have z := free_upd (nD b hb)
      exact ⟨some_of f1 (by simp) z.1, z.2⟩
    have sing : ∀ S : List Addr, p ∉ S → ∀ b ∈ S, b ∉ [p] := fun S z b hb y => z (by rw [← List.mem_singleton.mp y]; exact hb)
    have pD : p ∉ D.own := fun z => (nD0 p z).2 rfl
    have nF0 : ∀ b ∈ F.own, H b = none ∧ b ≠ p := fun b hb => by
      have z := free_upd (nF b hb)
      exact ⟨(f13.nah z.1).resolve_left (by simpa using z.2), z.2⟩
    have nM0 : ∀ b ∈ M.own [], H b = none ∧ b ≠ p := fun b hb => by
      have z := free_upd (nM b hb)
      exact ⟨(f13.nah z.1).resolve_left (by simpa using z.2), z.2⟩
    have pF' : p ∉ F.own := fun z => (nF0 p z).2 rfl
    have pM : p ∉ M.own [] := fun z => (nM0 p z).2 rfl
    -- the slow disk until now
    have hD4 := (hD.keep (S := [p]) (H' := upd H3 p _) (Fr.put (o := .ins T.C_Pair px (putF "_slow" (.ref q) (putF "_recipes" (.ref re) (putF "_rules" (.ref ru) (putF "_blocks" (.int (nb : Int)) []))))) (by simp)) (sing _ pD) nt3).keep f4 (sing _ pD) (fun b hb xs => by rw [List.mem_singleton.mp hb, upd_same]; simp)
    have fin : ∀ {o : HO}, Fr [p] H4 (upd (upd H4 cd (.tup [.int 0, .int 0, .int 0, .int 0, .int 0, .int 0])) p o) := fun {o} => (Fr.new hcd).trans (Fr.put (by simp))
    have nt4 : ∀ b ∈ [p], ∀ xs, H4 b ≠ some (.tup xs) := fun b hb xs => by rw [List.mem_singleton.mp hb, hp4]; simp
    have pcd : cd ≠ p := (ne_of_none hp4 hcd).symm
    have f14 : Fr [p] H1 H4 := (f13'.trans (Fr.put (by simp))).trans f4
    have nt1 : ∀ b ∈ [p], ∀ xs, H1 b ≠ some (.tup xs) := fun b hb xs => by rw [List.mem_singleton.mp hb, hp1]; simp
    have nre : re ∉ [p] := by
      rw [List.mem_singleton]
      exact rep
    have f04 : Fr [p] H H4 := (f13.trans (Fr.put (by simp))).trans f4
    have sDF : Sep D.own F.own := fun b hb z => by
      obtain ⟨o, eo⟩ := hD.there b hb
      have y := (free_upd (nF b z)).1
      rw [eo] at y
      cases y
    have sDM : Sep D.own (M.own []) := fun b hb z => by
      obtain ⟨o, eo⟩ := hD.there b hb
      have y := (free_upd (nM b z)).1
      rw [eo] at y
      cases y
    have gw : Gw [p] H (Pp.own ⟨p, px, ru, rx, re, D, some F, M, cd⟩ []) := fun b hb => by
      rcases own_cases hb with rfl | hb | hb | hb
      · exact .inl (by simp)
      · exact .inr (nD0 b hb).1
      · exact .inr (nF0 b hb).1
      · exact .inr (nM0 b hb).1
    refine k _ ⟨p, px, ru, rx, re, D, some F, M, cd⟩ rfl rfl (f04.trans fin) rfl ⟨upd_same, ?_, (upd_ne pcd).trans upd_same, ?_, ?_, hM.keep fin (sing _ pM) nt4, rfl, sDF, sDM, sFM, pD, pF', pM, ?_, ?_, ?_⟩ gw
    · exact (f04.trans fin) _ _ hru (by simpa using pru.symm)
    · exact ⟨_, _, [], hD4.keep fin (sing _ pD) nt4, All2.rep nb rfl, All2.rep nb rfl, ⟨rfl, fun i v a e => by simp at e⟩, rfl, Nat.le_refl _⟩
    · exact ⟨_, _, [], hF.keep fin (sing _ pF') nt4, All2.rep ns rfl, All2.rep ns rfl, ⟨rfl, fun i v a e => by simp at e⟩, rfl, Nat.le_refl _⟩
    · intro z
      rcases gw _ z with y | y
      · exact pru (List.mem_singleton.mp y).symm
      · rw [hru] at y
        cases y
    · exact ((hR.fr f14 nre nt1).fr fin nre nt4)
    · intro z
      obtain ⟨o, eo⟩ := hR.ex
      rcases own_cases z with y | y | y | y
      · exact nre (by rw [show re = p from y]; exact List.mem_singleton.mpr rfl)
      · have w := nD re y
        rw [upd_ne (fun e => nre (by rw [e]; exact List.mem_singleton.mpr rfl)), eo] at w
        cases w
      · have w := (free_upd (nF re y)).1
        rw [f13' _ _ eo nre] at w
        cases w
      · have w := (free_upd (nM re y)).1
        rw [f13' _ _ eo nre] at w
        cases w
end
/-! ### for v in d.values(), d a dict that the expression itself makes -/
section
open PySem PySem.Spec PyProof.Rows PySem.W
def iValsN (td : TE) : TI := fun σ H R => td σ H fun x H1 => ∃ d kvs, x = .ref d ∧ H1 d = some (.dK kvs) ∧ ∀ o, R (Itd d o kvs) (upd H1 d (.frz o (.dK kvs)))
theorem pi_valuesN {X : Cx} {tg e : Expr} {td : TE} {apos cpos : Pos} (he : PE X e td) (hbase : attributeBase e "values" X.env (eval e X.env) = eval e X.env := by rfl) (hline : (apos.endLine == cpos.line) = true := by rfl) : PI X tg (.Call (.Attribute e "values" apos) [] [] cpos) (iValsN td) := by
  refine ⟨fun pins s σ H R I h => ?_⟩
  refine wpAny_Call_method (T := "dict") (id := "dict.values") hbase rfl hline F.plainAttrs_dict F.slot_dict_values F.type_dict_values (thn (he.run pins s σ H _ I h) fun u s1 ⟨x, H1, I1, rx, d, kvs, ex, hd, q⟩ => ?_)
  subst ex
  obtain rfl : u = Value.ref d := rx
  obtain ⟨od, I3⟩ := I1.lock hd trivial
  obtain ⟨hs, hgd, hx, es, ep, vs, hdt, hsz, kv, hm⟩ := I3.frzK upd_same
  have hl : kvs.length = vs.length := Paired.length kv
  refine ⟨hm.dictOf.typeIs, hm.dictOf.mapOf.noDict, ?_⟩
  have I2 : Inv X pins σ (upd H1 d (.frz od (.dK kvs))) { s1 with heap := s1.heap.push { cls := .type "dict_values", data := .fields #[.ref d] } } := I3.kept (t' := s1.toks) fun b ob q => Heap.get?_push_of_some _ q
  have fin : wpAny (model X.prog X.w) X.A (pyIter (.ref s1.heap.objs.size)) (PIE X pins σ tg R) X.xe { s1 with heap := s1.heap.push { cls := .type "dict_values", data := .fields #[.ref d] } } := by
    refine wpAny_pyIter_values (d := d) (knd := mixKind X.prog X.w) ⟨_, Heap.get?_push_size _ rfl, rfl, rfl⟩ (hm.push _) (pi_one (tk := s1.toks) I2 _ (turn_vals _ hdt) ⟨_, Heap.get?_push_size _ rfl, rfl, ?_⟩ (q od))
    rw [hl] <;> rfl
  show wpAny _ _ (callWith cpos (.builtin "dict.values") [.ref d] [] []) _ X.xe s1
  exact method_meetsIn F.slot_dict_values F.entry_dict_values rfl (PySem.evalArgs_none ⟨rfl, hm.dictOf.typeIs, F.args_dict_values_1 _, _, meets_dict_values (mixKind X.prog X.w) d hs, ⟨vs, hm.dictOf⟩, fin⟩)
end
/-! ### the values of all blocks -/
def bvals (s : PS) : List Nat := (sortN s.kn).foldl (fun vs q => vs.set q.rc.blk q.rc.val) s.sl.cs
def spContW (C : Addr) : Sp := fun vs H Q _ => ∃ (D : Dk) (cs ls : List V) (ps : List (Nat × V)) (r w s : Int), vs = [.ref D.p] ∧ DiskAt C H D cs ls ps r w s ∧ ∀ t, H t = none → Q (.ref t) (upd H t (.tup cs))
def spBlockV (c : Cl) : Sp := fun vs H Q _ => ∃ (P : Pp) (ks : List Kp) (s : PS), vs = [.ref P.p] ∧ PairAt c H P ks s ∧ WF s ∧ s.on = true ∧ ∀ (L : Addr) (H' : Hp), H L = none → Fr [] H H' → H' L = some (.lst ((bvals s).map fun n : Nat => V.int (n : Int))) → Q (.ref L) H'
theorem foldl_set_len (kn : List Kn) (vs : List Nat) : (kn.foldl (fun vs q => vs.set q.rc.blk q.rc.val) vs).length = vs.length := by
  induction kn generalizing vs with
  | nil => rfl
  | cons q r ih => rw [List.foldl_cons, ih, List.length_set]
/-! ### the values of all blocks, by the model -/
theorem fold_out {b : Nat} : ∀ {kn : List Kn} {cs : List Nat}, (∀ q ∈ kn, q.rc.blk ≠ b) → (kn.foldl (fun vs q => vs.set q.rc.blk q.rc.val) cs)[b]? = cs[b]?
  | [], _, _ => rfl
  | a :: r, cs, h => by
    rw [List.foldl_cons, fold_out (kn := r) (fun q hq => h q (List.mem_cons_of_mem _ hq)), List.getElem?_set_ne (h a List.mem_cons_self)]
theorem fold_in : ∀ {kn : List Kn} {cs : List Nat} {q : Kn}, (kn.map fun q => q.rc.blk).Nodup → q ∈ kn → q.rc.blk < cs.length → (kn.foldl (fun vs q => vs.set q.rc.blk q.rc.val) cs)[q.rc.blk]? = some q.rc.val
  | [], _, q, _, hq, _ => by cases hq
  | a :: r, cs, q, nd, hq, hl => by
    rw [List.map_cons, List.nodup_cons] at nd
    rw [List.foldl_cons]
    rcases List.mem_cons.mp hq with e | e
    · subst e
      rw [fold_out (kn := r) (fun p hp z => nd.1 (List.mem_map.mpr ⟨p, hp, z⟩)), List.getElem?_set_self hl]
    · exact fold_in nd.2 e (by rw [List.length_set]; exact hl)
theorem sortN_perm (kn : List Kn) : (sortN kn).Perm kn := List.mergeSort_perm _ _
theorem Gd.bvals {s : PS} {val : List Nat} (g : Gd s val) : bvals s = val := by
  have nd : ((sortN s.kn).map fun q => q.rc.blk).Nodup := ((sortN_perm s.kn).map fun q => q.rc.blk).nodup_iff.mpr g.nk
  refine List.ext_getElem? fun b => ?_
  unfold Kb.bvals
  by_cases hb : b < s.nb
  · by_cases h : ∀ q ∈ s.kn, q.rc.blk ≠ b
    · rw [fold_out fun q hq => h q ((sortN_perm s.kn).mem_iff.mp hq)]
      exact g.vs b hb h
    · obtain ⟨q, hq, e⟩ : ∃ q ∈ s.kn, q.rc.blk = b := Classical.byContradiction fun y => h fun q hq e => y ⟨q, hq, e⟩
      rw [← e, fold_in nd ((sortN_perm s.kn).mem_iff.mpr hq) (by rw [g.wf.sl]; exact g.lt hq), g.vk q hq]
  · rw [List.getElem?_eq_none (by rw [foldl_set_len, g.wf.sl]; omega), List.getElem?_eq_none (by rw [g.vl]; omega)]
theorem initG (nb ns : Nat) (wr rd ch : Str) (bd : Int) (h1 : 1 ≤ ns) (h2 : ns ≤ 8) : Gd (initR SAFE nb ns wr rd ch bd) (List.replicate nb 0) := by
  refine ⟨⟨by simp [initR], fun d e => ?_, fun d e => h1, h2, fun q hq => (by cases hq), (show (SAFE.getD 3 []).length ≤ 8 by decide), fun e => (by cases e)⟩, rfl, rfl, rfl, (by simp [initR]), List.nodup_nil, List.nodup_nil, fun q hq => (by cases hq), fun q hq => (by cases hq), fun q hq => (by cases hq), fun b hb _ => rfl⟩
  cases e
  simp [initR]
theorem initL (nb ns : Nat) (wr rd ch : Str) (bd : Int) : Lim 0 (initR SAFE nb ns wr rd ch bd) := ⟨Nat.le_refl _, fun d e => by cases e; exact Nat.le_refl _⟩
/-! ### what a pair shows -/
def spGetP (c : Cl) (f : PS → Pp → V) : Sp := fun vs H Q _ => ∃ (P : Pp) (ks : List Kp) (s : PS), vs = [.ref P.p] ∧ PairAt c H P ks s ∧ Q (f s P) H
def spKnownG (c : Cl) : Sp := fun vs H Q _ => ∃ (P : Pp) (ks : List Kp) (s : PS), vs = [.ref P.p] ∧ PairAt c H P ks s ∧ s.on = true ∧ ∀ (D : Addr) (H' : Hp), H D = none → Fr [] H H' → H' D = some (.dK ((sortK ks).map Kp.kr)) → Q (.ref D) H'
section
variable {P : Program} {w : World} {K : PySem.W.Frag} {mg : Str → Option Value} {base : Heap}
theorem ok_requestsG (T : Gx K mg) : FnOk P w K mg base CX0 1 T.f_Pair_requests T.fd_Pair_requests ["self"] (spGetP (clT T) fun s _ => .int (s.reqs : Int)) := by
  refine T.F_Pair_requests.ok sc_Pair_requests (fun vs H Q E h => ?_) (fun cdv A outer s H vs Q E hr h => ?_)
  · obtain ⟨P, ks, s, rfl, _⟩ := h
    rfl
  · obtain ⟨P, ks, s, rfl, hP, k⟩ := h
    refine ⟨_, (pss_one (ps_ret (pe_fld (pv 0) rfl))), ?_⟩
    exact ⟨_, rfl, P.p, T.C_Pair, P.px, _, _, rfl, hP.ins, T.cl_Pair, T.n_Pair__requests, pF_get7, k⟩
end
section
variable {P : Program} {w : World} {K : PySem.W.Frag} {mg : Str → Option Value} {base : Heap}
theorem ok_knownG (T : Gx K mg) : FnOk P w K mg base CX0 2 T.f_Pair_known T.fd_Pair_known ["self"] (spKnownG (clT T)) := by
  have G_Memory_records : FnOk P w K mg base CX0 1 T.f_Memory_records T.fd_Memory_records ["self"] (spRecords T.C_Memory T.C_KnownSlot) := ok_records T
  have G_Pair__check_on : FnOk P w K mg base CX0 1 T.f_Pair__check_on T.fd_Pair__check_on ["self"] (spOnG (clT T)) := ok_onG T
  refine T.F_Pair_known.ok sc_Pair_known (fun vs H Q E h => ?_) (fun cdv A outer s H vs Q E hr h => ?_)
  · obtain ⟨P, ks, s, rfl, _⟩ := h
    rfl
  · obtain ⟨P, ks, s, rfl, hP, hon, k⟩ := h
    refine ⟨_, (pss_cons (ps_expr (pe_meth0 (pv 0) T.cl_Pair T.m_Pair__check_on G_Pair__check_on (hr.mono (by first | decide | omega)) (b_Pair__check_on T) .nil pass0))
      (pss_one (ps_ret (pe_meth0 (pe_fld (pv 0) rfl) T.cl_Memory T.m_Memory_records G_Memory_records (hr.mono (by first | decide | omega)) (b_Memory_records T) .nil pass0)))), ?_⟩
    refine ⟨_, rfl, P.p, P.px, _, rfl, hP.ins, pF_no__check_on, P, ks, s, rfl, hP, hon, ?_⟩
    exact ⟨_, rfl, P.p, T.C_Pair, P.px, _, _, rfl, hP.ins, T.cl_Pair, T.n_Pair__memory, pF_get5, P.M.m, P.M.x, _, rfl, hP.mem.ins, mF_no_records, P.M, s.ms, ks, rfl, hP.mem, fun D H' hD f e => k D H' hD f e⟩
end
section
variable {P : Program} {w : World} {K : PySem.W.Frag} {mg : Str → Option Value} {base : Heap}
theorem ok_isOnG (T : Gx K mg) : FnOk P w K mg base CX0 1 T.f_Pair_is_on T.fd_Pair_is_on ["self"] (spGetP (clT T) fun s _ => .bl s.on) := by
  refine T.F_Pair_is_on.ok sc_Pair_is_on (fun vs H Q E h => ?_) (fun cdv A outer s H vs Q E hr h => ?_)
  · obtain ⟨P, ks, s, rfl, _⟩ := h
    rfl
  · obtain ⟨P, ks, s, rfl, hP, k⟩ := h
    refine ⟨_, (pss_one (ps_ret (pe_fld (pv 0) rfl))), ?_⟩
    exact ⟨_, rfl, P.p, T.C_Pair, P.px, _, _, rfl, hP.ins, T.cl_Pair, T.n_Pair__is_on, pF_get11, k⟩
end
/-! ### zip of two tuples in a comprehension -/
open RZ
theorem lc_zipT {K : PySem.W.Frag} {a b : Addr} {xs ys : List V} {g : TG} {tt : TT} {te : TE} {vs : List Nat} {σ : L2.St} {H1 : Hp} {D : Addr} {Qd : Hp → Prop} (hln : xs.length = ys.length) (Pv : Nat → Hp → Prop) (h0 : Pv 0 (upd H1 D (.lst []))) (hl : ∀ i H, i ≤ xs.length → Pv i H → SqT K H a xs ∧ SqT K H b ys)
    (hs : ∀ i x y T H, xs[i]? = some x → ys[i]? = some y → Pv i H → H T = none → g (.ref T) (wipe σ vs) (upd H T (.tup [x, y])) fun σ2 H2 => wipe σ2 vs = wipe σ vs ∧ tt σ2 H2 fun b H3 =>
      if b = true then te σ2 H3 fun y H4 => ∃ acc, H4 D = some (.lst acc) ∧ acc.length < sizeLine ∧ Pv (i + 1) (upd H4 D (.lst (acc ++ [y]))) else Pv (i + 1) H3) (hd : ∀ H, Pv xs.length H → Qd H) :
    ∃ W : Nat → Nat → Hp → Prop, (∃ m, W 0 m (upd H1 D (.lst []))) ∧ ∀ i m H, W i m H →
      ((ItzT K a b).stop i H ∧ Qd H) ∨ ((ItzT K a b).go i H ∧ ∃ Nx : Hp → Prop, (∀ H', Nx H' → ∃ m', m' < m ∧ W (i + 1) m' H') ∧ ∀ x H', (ItzT K a b).yld i H x H' → g x (wipe σ vs) H' fun σ2 H2 => wipe σ2 vs = wipe σ vs ∧ tt σ2 H2 fun b H3 =>
        if b = true then te σ2 H3 fun y H4 => ∃ acc, H4 D = some (.lst acc) ∧ acc.length < sizeLine ∧ Nx (upd H4 D (.lst (acc ++ [y]))) else Nx H3) := by
  refine ⟨fun i m H => m = xs.length - i ∧ i ≤ xs.length ∧ Pv i H, ⟨xs.length, by simp, Nat.zero_le _, h0⟩, ?_⟩
  rintro i m H ⟨rfl, hi, p⟩
  obtain ⟨qx, qy⟩ := hl i H hi p
  by_cases hlt : i < xs.length
  · have hx : xs[i]? = some xs[i] := List.getElem?_eq_getElem hlt
    have hlt2 : i < ys.length := by omega
    have hy : ys[i]? = some ys[i] := List.getElem?_eq_getElem hlt2
    refine .inr ⟨⟨xs, ys, _, _, qx, qy, hx, hy⟩, Pv (i + 1), fun H' p' => ⟨xs.length - (i + 1), by omega, rfl, hlt, p'⟩, fun v H' y => ?_⟩
    obtain ⟨T, x', y', rfl, hT, rfl, f1, f2⟩ := y
    exact hs i x' y' T H (f1 xs qx) (f2 ys qy) p hT
  · have e : i = xs.length := by omega
    subst e
    exact .inl ⟨⟨xs, ys, qx, qy, Or.inl (Nat.le_refl _)⟩, hd H p⟩
/-! ### the counts of a pair -/
def fcnt (s : PS) : List Int := match s.fa with
  | none => [0, 0, 0]
  | some d => [(d.r : Int), d.w, d.s]
theorem fcnt_len (s : PS) : (fcnt s).length = 3 := by
  unfold fcnt
  split <;> rfl
def cntS (s : PS) : List Int := List.zipWith (· + ·) s.dc ([(s.sl.r : Int), s.sl.w, s.sl.s] ++ fcnt s)
def spPCounts (c : Cl) : Sp := fun vs H Q _ => ∃ (P : Pp) (ks : List Kp) (s : PS), vs = [.ref P.p] ∧ PairAt c H P ks s ∧ s.dc.length = 6 ∧ ∀ (t : Addr) (H' : Hp), H t = none → Fr [] H H' → H' t = some (.tup ((cntS s).map V.int)) → Q (.ref t) H'
theorem sqt_fr {K : PySem.W.Frag} {H H' : Hp} {a : Addr} {xs : List V} (h : SqT K H a xs) (f : Fr [] H H') : SqT K H' a xs := by
  rcases h with h | h
  · refine .inl ?_
    rcases h with h | ⟨o, h⟩
    · exact .inl (f _ _ h (by simp))
    · exact .inr ⟨o, f _ _ h (by simp)⟩
  · exact .inr h
section
variable {P : Program} {w : World} {K : PySem.W.Frag} {mg : Str → Option Value} {base : Heap}
theorem ok_pCounts (T : Gx K mg) : FnOk P w K mg base CX0 3 T.f_Pair_counts T.fd_Pair_counts ["self"] (spPCounts (clT T)) := by
  have G_Disk_counts : FnOk P w K mg base CX0 1 T.f_Disk_counts T.fd_Disk_counts ["self"] (spCounts T.C_Disk) := ok_counts T
  refine T.F_Pair_counts.ok sc_Pair_counts (fun vs H Q E h => ?_) (fun cdv A outer s H vs Q E hr h => ?_)
  · obtain ⟨P, ks, s, rfl, _⟩ := h
    rfl
  · obtain ⟨P, ks, s, rfl, hP, hl, k⟩ := h
    refine ⟨_, (C8.pss_cut (ps_set (i := 1) sc_Pair_counts.nd rfl (.inl rfl) (pe_ifExp (pt_cmpR op_isN (pe_fld (pv 0) rfl) pe_non (nomark _)) (pe_glob (v := .ref T.A_NO_COUNTS) (by rfl) T.g_NO_COUNTS rfl) (pe_prop (pe_fld (pv 0) rfl) T.cl_Disk T.P_Disk_counts G_Disk_counts (hr.mono (by first | decide | omega)) (b_Disk_counts T) .nil pass0 rfl)))
      (pss_cons (ps_set (i := 2) sc_Pair_counts.nd rfl (.inl rfl) (pe_tup (StX.pa_star (pe_prop (pe_fld (pv 0) rfl) T.cl_Disk T.P_Disk_counts G_Disk_counts (hr.mono (by first | decide | omega)) (b_Disk_counts T) .nil pass0 rfl) (StX.pa_star (pv 1) pa_nil))))
      (pss_one (ps_ret (pe_callTy call_tuple_of (by rfl) T.z_tuple (by decide +kernel) (pa_cons (pe_lc (own := [("dead", 3), ("count", 4)]) (g := gTup K 2 (gCons (gName 3) (gCons (gName 4) gNil))) rfl sc_Pair_counts.nd (pi_zipA (by rfl) T.z_zip (pa_cons (pe_fld (pv 0) rfl) (pa_cons (pv 2) pa_nil))) (blkOk_by (N := ["self", "fast_counts", "living", "dead", "count"]) (sc := defScope s_Pair_counts) (by decide +kernel)) (fun _ _ _ _ _ => pg_tup (by rfl) (pgs_cons (pg_name (i := 3) sc_Pair_counts.nd rfl (.inl rfl)) (pgs_cons (pg_name (i := 4) sc_Pair_counts.nd rfl (.inl rfl)) pgs_nil))) (fun _ _ _ _ _ => pts_nil) (fun _ _ _ _ _ => (pe_op op_add (pv 3) (pv 4)))) pa_nil)))))), ?_⟩
    refine ⟨fun σ' H' => ∃ t1 : Addr, σ' = [some (.ref P.p), some (.ref t1), none, none, none] ∧ Fr [] H H' ∧ SqT K H' t1 ((fcnt s).map V.int), ?_, ?_⟩
    · refine ⟨_, rfl, P.p, T.C_Pair, P.px, _, _, rfl, hP.ins, T.cl_Pair, T.n_Pair__fast, pF_get4, rfl, _, rfl, ?_⟩
      cases hd : s.fa with
      | none =>
        rw [fv_none (hP.nofast hd)]
        refine iteT ⟨T.A_NO_COUNTS, rfl, Fr.refl _ _, ?_⟩
        unfold fcnt
        rw [hd]
        exact T.k_NO_COUNTS H
      | some d =>
        obtain ⟨D, eD, csF, lsF, psF, hF, _⟩ := hP.fast hd
        rw [fv_some eD]
        refine iteF ⟨_, rfl, P.p, T.C_Pair, P.px, _, _, rfl, hP.ins, T.cl_Pair, T.n_Pair__fast, pF_get4, D.p, D.dx, _, fv_some eD, hF.ins, D, _, _, _, _, _, _, rfl, hF, fun t1 ht1 => ⟨t1, rfl, Fr.new ht1, ?_⟩⟩
        unfold fcnt
        rw [hd]
        exact SqT.of upd_same
    rintro _ H1 ⟨t1, rfl, a1, e1⟩
    have hP1 := hP.keep0 a1
    obtain ⟨csS, lsS, psS, hS, _⟩ := hP1.slo
    refine ⟨_, rfl, P.p, T.C_Pair, P.px, _, _, rfl, hP1.ins, T.cl_Pair, T.n_Pair__slow, pF_get3, P.S.p, P.S.dx, _, rfl, hS.ins, P.S, _, _, _, _, _, _, rfl, hS, fun t2 ht2 => ?_⟩
    have e1' : SqT K (upd H1 t2 (.tup [.int (s.sl.r : Int), .int (s.sl.w : Int), .int (s.sl.s : Int)])) t1 ((fcnt s).map V.int) := sqt_fr e1 (Fr.new ht2)
    have hfl := fcnt_len s
    refine ⟨t2, _, rfl, .inl (SqT.of upd_same), _, rfl, t1, _, rfl, .inl e1', by simp only [List.length_append, List.length_map, List.length_cons, List.length_nil]; exact sz_le (by omega), fun t3 ht3 => ?_⟩
    have a2 := a1.trans (Fr.new (o := .tup [.int (s.sl.r : Int), .int (s.sl.w : Int), .int (s.sl.s : Int)]) ht2)
    have a3 := a2.trans (Fr.new (o := .tup ([.int (s.sl.r : Int), .int (s.sl.w : Int), .int (s.sl.s : Int)] ++ ((fcnt s).map V.int ++ []))) ht3)
    have hP3 := hP.keep0 a3
    have e3 : (upd (upd H1 t2 (.tup [.int (s.sl.r : Int), .int (s.sl.w : Int), .int (s.sl.s : Int)])) t3 (.tup ([.int (s.sl.r : Int), .int (s.sl.w : Int), .int (s.sl.s : Int)] ++ ((fcnt s).map V.int ++ [])))) t3 = some (.tup (([(s.sl.r : Int), s.sl.w, s.sl.s] ++ fcnt s).map V.int)) := by
      rw [upd_same, List.append_nil, List.map_append]
      rfl
    generalize (upd (upd H1 t2 (.tup [.int (s.sl.r : Int), .int (s.sl.w : Int), .int (s.sl.s : Int)])) t3 (.tup ([.int (s.sl.r : Int), .int (s.sl.w : Int), .int (s.sl.s : Int)] ++ ((fcnt s).map V.int ++ [])))) = H3 at a3 hP3 e3 ⊢
    have hyl : ([(s.sl.r : Int), s.sl.w, s.sl.s] ++ fcnt s).length = 6 := by rw [List.length_append, hfl]; rfl
    have ecs : cntS s = List.zipWith (· + ·) s.dc ([(s.sl.r : Int), s.sl.w, s.sl.s] ++ fcnt s) := rfl
    generalize ([(s.sl.r : Int), s.sl.w, s.sl.s] ++ fcnt s) = ys at *
    refine ⟨_, rfl, P.p, T.C_Pair, P.px, _, _, rfl, hP3.ins, T.cl_Pair, T.n_Pair__counts_of_dead, pF_get6, _, rfl, P.cd, t3, _, _, rfl, .inr ⟨SqT.of hP3.ded, SqT.of e3, fun D hD => ?_⟩⟩
    refine lc_zipT (K := K) (a := P.cd) (b := t3) (xs := s.dc.map V.int) (ys := ys.map V.int) (by rw [List.length_map, List.length_map, hl, hyl]) (fun i H' => Fr [] H3 H' ∧ H' D = some (.lst ((List.zipWith (· + ·) (s.dc.take i) (ys.take i)).map V.int))) ⟨Fr.new hD, upd_same⟩ (fun i H' _ h => ⟨SqT.of (h.1 _ _ hP3.ded (by simp)), SqT.of (h.1 _ _ e3 (by simp))⟩) ?_ ?_
    · rintro i x y U H4 hx hy ⟨f4, e4⟩ hU
      obtain ⟨u, rfl, hu⟩ := int_at hx
      obtain ⟨v, rfl, hv⟩ := int_at hy
      have hi := lt_of_at hu
      refine ⟨U, _, rfl, SqT.of upd_same, rfl, _, _, rfl, _, _, rfl, rfl, rfl, ?_⟩
      unfold tYes
      refine iteT ?_
      have eD := (upd_ne (o := .tup [.int u, .int v]) (ne_of_none e4 hU)).trans e4
      refine ⟨_, rfl, _, rfl, _, _, rfl, rfl, _, eD, ?_, ?_, ?_⟩
      · rw [List.length_map, List.length_zipWith, List.length_take, List.length_take]
        exact sz_lt (by omega)
      · exact (f4.trans (Fr.new hU)).upd0 hD
      · rw [upd_same, List.take_succ, List.take_succ, hu, hv]
        have l1 : (s.dc.take i).length = (ys.take i).length := by
          rw [List.length_take, List.length_take, hl, hyl]
        show some (HO.lst (List.map V.int _ ++ [V.int (u + v)])) = some (HO.lst (List.map V.int (List.zipWith (· + ·) (s.dc.take i ++ [u]) (ys.take i ++ [v]))))
        rw [List.zipWith_append l1, List.map_append]
        rfl
    · rintro H4 ⟨f4, e4⟩
      refine ⟨D, _, rfl, .inl ⟨SqL.of e4, fun t ht => ?_⟩⟩
      have e6 : List.zipWith (· + ·) (s.dc.take (s.dc.map V.int).length) (ys.take (s.dc.map V.int).length) = cntS s := by
        rw [List.length_map, List.take_length, hl, ← hyl, List.take_length, ecs]
      rw [e6]
      exact k t _ ((a3.trans (Fr.nil_of f4)).nah ht |>.resolve_left (by simp)) ((a3.trans f4).trans (Fr.new ht)) upd_same
end
/-! ### pairs whose records are all clean between requests -/
def ND (kn : List Kn) : Prop := ∀ q ∈ kn, q.rc.dirty = false
/-- where dirty records come from -/
def DFrom (rc : Option Rc) (kn kn' : List Kn) : Prop := ∀ q ∈ kn', q.rc.dirty = true → (∃ r, rc = some r ∧ q.rc = r) ∨ ∃ p ∈ kn, p.slot = q.slot ∧ p.rc = q.rc
theorem DFrom.refl {rc : Option Rc} {kn : List Kn} : DFrom rc kn kn := fun q hq _ => .inr ⟨q, hq, rfl, rfl⟩
theorem DFrom.trans {rc : Option Rc} {a b c : List Kn} (h : DFrom rc a b) (g : DFrom rc b c) : DFrom rc a c := fun q hq hd => by
  rcases g q hq hd with y | ⟨p, hp, e1, e2⟩
  · exact .inl y
  · rcases h p hp (by rw [e2]; exact hd) with ⟨r, h1, h2⟩ | ⟨p0, h0, e3, e4⟩
    · exact .inl ⟨r, h1, e2.symm.trans h2⟩
    · exact .inr ⟨p0, h0, e3.trans e1, e4.trans e2⟩
theorem DFrom.up {rc : Option Rc} {a b : List Kn} (h : DFrom none a b) : DFrom rc a b := fun q hq hd => by
  rcases h q hq hd with ⟨r, e, _⟩ | y
  · cases e
  · exact .inr y
theorem DFrom.forget {rc : Option Rc} {i : Nat} {kn : List Kn} : DFrom rc kn (forgetN i kn) := fun q hq _ => .inr ⟨q, (List.mem_filter.mp hq).1, rfl, rfl⟩
theorem DFrom.clean {rc : Option Rc} {i : Nat} {kn : List Kn} : DFrom rc kn (cleanN i kn) := fun q hq hd => by
  obtain ⟨p, hp, rfl⟩ := List.mem_map.mp hq
  by_cases z : p.slot = i
  · rw [if_pos z] at hd
    cases hd
  · rw [if_neg z]
    exact .inr ⟨p, hp, rfl, rfl⟩
theorem DFrom.use {rc : Option Rc} {i : Nat} {r : Int} {kn : List Kn} : DFrom rc kn (useN i r kn) := fun q hq hd => by
  obtain ⟨p, hp, e1, e2⟩ := useN_facts hq
  exact .inr ⟨p, hp, e1.symm, e2.symm⟩
theorem DFrom.put {rc : Rc} {kn : List Kn} {q0 : Kn} (e : q0.rc = rc) : DFrom (some rc) kn (putN kn q0) := fun q hq hd => by
  unfold putN at hq
  split at hq
  · obtain ⟨p, hp, rfl⟩ := List.mem_map.mp hq
    by_cases z : p.slot = q0.slot
    · rw [if_pos z]
      exact .inl ⟨rc, rfl, e⟩
    · rw [if_neg z]
      exact .inr ⟨p, hp, rfl, rfl⟩
  · rcases List.mem_append.mp hq with y | y
    · exact .inr ⟨q, y, rfl, rfl⟩
    · rw [List.mem_singleton.mp y]
      exact .inl ⟨rc, rfl, e⟩
theorem DFrom.learn {i : Nat} {rc : Rc} {r : Int} {kn : List Kn} : DFrom (some rc) kn (learnN i rc r kn) := by
  unfold learnN
  split
  · split
    · intro q hq hd
      obtain ⟨p, hp, rfl⟩ := List.mem_map.mp hq
      by_cases z : p.slot = i
      · rw [if_pos z]
        exact .inl ⟨rc, rfl, rfl⟩
      · rw [if_neg z]
        exact .inr ⟨p, hp, rfl, rfl⟩
    · exact DFrom.put rfl
  · exact DFrom.put rfl
section
variable {s s1 : PS}
theorem Stp.knE {j : Nat} (h : Stp j s s1) : s1.kn = s.kn := h.kn.1
theorem clSl_from {i : Nat} {u : Unit} (h : clSl i s = .ok u s1) : DFrom none s.kn s1.kn ∧ ∀ q ∈ s1.kn, q.slot = i → q.rc.dirty = false := by
  unfold clSl at h
  split at h
  · rename_i e
    cases h
    exact ⟨DFrom.refl, fun q hq eq => absurd eq (atN_none.mp e q hq)⟩
  · rename_i q eq
    unfold cSlot at h
    cases e : cAll i q.rc (s.rcs.getD 3 []) s with
    | pf b a => rw [e] at h; cases h
    | ok v a =>
      rw [e] at h
      cases h
      have ek := (cAll_ok e).knE
      refine ⟨by rw [← ek]; exact DFrom.clean, fun p hp ep => ?_⟩
      obtain ⟨p0, h0, rfl⟩ := List.mem_map.mp hp
      by_cases z : p0.slot = i
      · rw [if_pos z]
        rfl
      · rw [if_neg z] at ep
        exact absurd ep z
theorem clMany_from : ∀ (l : List Nat) {s s1 : PS} {u : Unit}, clMany l s = .ok u s1 → DFrom none s.kn s1.kn ∧ ∀ q ∈ s1.kn, q.slot ∈ l → q.rc.dirty = false
  | [], s, s1, u, h => by
    cases h
    exact ⟨DFrom.refl, fun q _ z => by cases z⟩
  | i :: r, s, s1, u, h => by
    have h' : (clSl i s).bind (fun _ a => clMany r a) = .ok u s1 := h
    cases e : clSl i s with
    | pf b a => rw [e] at h'; cases h'
    | ok v a =>
      rw [e] at h'
      obtain ⟨f1, c1⟩ := clSl_from e
      obtain ⟨f2, c2⟩ := clMany_from r h'
      refine ⟨f1.trans f2, fun q hq z => ?_⟩
      rcases List.mem_cons.mp z with y | y
      · cases hd : q.rc.dirty with
        | false => rfl
        | true =>
          rcases f2 q hq hd with ⟨r, e, _⟩ | ⟨p, hp, e1, e2⟩
          · cases e
          · have := c1 p hp (e1.trans y)
            rw [e2, hd] at this
            cases this
      · exact c2 q hq y
theorem takeR_from {i : Nat} (h : takeR s = .ok i s1) : DFrom none s.kn s1.kn := by
  unfold takeR at h
  split at h
  · cases h
    exact DFrom.forget
  · cases e : clSl ((dirtyN s.kn).headD 0) s with
    | pf b a => rw [e] at h; cases h
    | ok u a =>
      rw [e] at h
      cases h
      exact (clSl_from e).1.trans DFrom.forget
theorem chooseR_from {own : Option Nat} {ts : Option Nat × Option Nat} (h : chooseR own s = .ok ts s1) : DFrom none s.kn s1.kn := by
  unfold chooseR at h
  split at h
  · cases h; exact DFrom.refl
  · split at h
    · cases h; exact DFrom.refl
    · split at h
      · cases h; exact DFrom.refl
      · split at h
        · cases h; exact DFrom.refl
        · cases e : takeR s with
          | pf b a => rw [e] at h; cases h
          | ok t a =>
            rw [e] at h
            cases h
            exact takeR_from e
theorem wRec_from {i : Nat} {rc : Rc} {u : Unit} (h : wRec i rc s = .ok u s1) : DFrom (some rc) s.kn s1.kn := by
  unfold wRec at h
  cases e : wFast i (some rc) s with
  | pf b a => rw [e] at h; cases h
  | ok v a =>
    rw [e] at h
    cases h
    show DFrom _ s.kn (learnN i rc _ a.kn)
    rw [(wFast_ok e).knE]
    exact DFrom.learn
theorem carryR_from {z : Str} {rc : Rc} {tg st : Option Nat} {u : Unit} (h : carryR z rc tg st s = .ok u s1) : DFrom (some rc) s.kn s1.kn := by
  unfold carryR at h
  split at h
  · rw [(wSlow_ok h).knE]; exact DFrom.refl
  split at h
  · rw [(ySlow_ok h).knE]; exact DFrom.refl
  split at h
  · rw [(yFast_ok h).knE]; exact DFrom.refl
  split at h
  · rename_i i ei
    cases e : wRec i rc s with
    | pf b a => rw [e] at h; cases h
    | ok v a =>
      rw [e] at h
      cases h
      have f := wRec_from e
      cases st with
      | none => exact f
      | some j => exact f.trans DFrom.forget
  · split at h
    · rename_i j ej
      cases e : wFast j none s with
      | pf b a => rw [e] at h; cases h
      | ok v a =>
        rw [e] at h
        cases h
        show DFrom _ s.kn (forgetN j a.kn)
        rw [(wFast_ok e).knE]
        exact DFrom.forget
    · split at h
      · cases h; exact DFrom.refl
      · cases h; exact DFrom.refl
theorem wordsR_from {rc : Rc} {tg st : Option Nat} : ∀ {zs : List Str} {s s1 : PS} {u : Unit}, wordsR rc tg st zs s = .ok u s1 → DFrom (some rc) s.kn s1.kn
  | [], s, s1, u, h => by
    cases h
    exact DFrom.refl
  | z :: zs, s, s1, u, h => by
    have h' : (carryR z rc tg st s).bind (fun _ s2 => wordsR rc tg st zs s2) = .ok u s1 := h
    cases e : carryR z rc tg st s with
    | pf b a => rw [e] at h'; cases h'
    | ok v a =>
      rw [e] at h'
      exact (carryR_from e).trans (wordsR_from h')
end
/-- the parts that no request changes -/
def Fx (s s1 : PS) : Prop := ∃ l sl fa kn dn rq hi tu, s1 = { s with left := l, sl := sl, fa := fa, kn := kn, done := dn, reqs := rq, hits := hi, turn := tu }
theorem Fx.refl (s : PS) : Fx s s := ⟨_, _, _, _, _, _, _, _, rfl⟩
theorem Fx.trans {a b c : PS} (h : Fx a b) (g : Fx b c) : Fx a c := by
  obtain ⟨_, _, _, _, _, _, _, _, rfl⟩ := h
  obtain ⟨_, _, _, _, _, _, _, _, rfl⟩ := g
  exact ⟨_, _, _, _, _, _, _, _, rfl⟩
theorem Mv.fx {j : Nat} {s a : PS} (h : Mv j s a) : Fx s a := by
  obtain ⟨_, _, _, _, rfl⟩ := h.ex
  exact ⟨_, _, _, _, _, _, _, _, rfl⟩
theorem Mw.fx {j : Nat} {s a : PS} (h : Mw j s a) : Fx s a := by
  obtain ⟨_, _, _, _, _, rfl⟩ := h.ex
  exact ⟨_, _, _, _, _, _, _, _, rfl⟩
theorem Fx.begin (s : PS) (b t : Nat) : Fx s { beginS b s with turn := t } := by
  unfold beginS
  split <;> exact ⟨_, _, _, _, _, _, _, _, rfl⟩
section
variable {s s1 : PS} {val : List Nat}
theorem fx_clean (g : Gd s val) {l : List Nat} {u : Unit} (h : clMany l s = .ok u s1) (hl : ∀ i ∈ l, ∃ q ∈ s.kn, q.slot = i) : Fx s s1 := by
  obtain ⟨s2, e, _, _, ⟨sl, fa, kn, ex⟩, _⟩ := clMany0 l g hl
  rw [h] at e
  cases e
  exact ⟨_, _, _, _, _, _, _, _, ex⟩
theorem fx_lt (g : Gd s val) {n : Nat} {l : List Nat} (h : cleanLT n s = .ok l s1) : Fx s s1 := by
  obtain ⟨l2, s2, e, _, ⟨sl, fa, kn, ex⟩, _⟩ := cleanLT0 g n
  rw [h] at e
  cases e
  exact ⟨_, _, _, _, _, _, _, _, ex⟩
theorem tail_nd (g : Gd s val) {hit h2 : Bool} (h : tailW hit s = .ok h2 s1) : Fx s s1 ∧ DFrom none s.kn s1.kn ∧ (V.str s.wr = V.str "back" → s.bd = 0 → ND s1.kn) := by
  unfold tailW at h
  by_cases e : V.str s.wr = V.str "back"
  · rw [if_pos e] at h
    cases ec : cleanLT (((dirtyN s.kn).length : Int) - s.bd).toNat s with
    | pf b a => rw [ec] at h; cases h
    | ok l a =>
      rw [ec] at h
      cases h
      have fx := fx_lt g ec
      unfold cleanLT at ec
      cases em : clMany ((dirtyN s.kn).take (((dirtyN s.kn).length : Int) - s.bd).toNat) s with
      | pf b a => rw [em] at ec; cases ec
      | ok u a2 =>
        rw [em] at ec
        cases ec
        obtain ⟨f1, c1⟩ := clMany_from _ em
        refine ⟨fx.trans ⟨_, _, _, _, _, _, _, _, rfl⟩, f1, fun _ hbd q hq => ?_⟩
        rw [hbd, show (((dirtyN s.kn).length : Int) - 0).toNat = (dirtyN s.kn).length by omega, List.take_length] at c1
        cases hd : q.rc.dirty with
        | false => rfl
        | true =>
          rcases f1 q hq hd with ⟨r, e, _⟩ | ⟨p, hp, e1, e2⟩
          · cases e
          · have := c1 q hq (by rw [← e1]; exact dirtyN_has hp (by rw [e2]; exact hd))
            rw [hd] at this
            cases this
  · rw [if_neg e] at h
    cases h
    exact ⟨⟨_, _, _, _, _, _, _, _, rfl⟩, DFrom.refl, fun z => absurd z e⟩
theorem write_nd (g : Gd s val) (hw : WrOk s) {b v : Nat} {hit : Bool} (hb : b < s.nb) (h : writeR b v s = .ok hit s1) : Fx s s1 ∧ (s.bd = 0 → ND s.kn → ND s1.kn) := by
  obtain ⟨g1, eb⟩ := begin0 g b (s.turn + 1)
  have fb := Fx.begin s b (s.turn + 1)
  unfold writeR at h
  cases ec : chooseR (slotN s.kn b) { beginS b s with turn := s.turn + 1 } with
  | pf bb a => rw [ec] at h; cases h
  | ok ts s2 =>
    rw [ec, Rs.bind_ok] at h
    obtain ⟨q1, q2, q3, q4, q5, q6, q7, q8, q9⟩ := beginS_same b s
    have hw1 : WrOk { beginS b s with turn := s.turn + 1 } := by
      unfold WrOk
      rw [show ({ beginS b s with turn := s.turn + 1 } : PS).wr = s.wr from q5]
      exact hw
    obtain ⟨tg, st, s2', e2, g2, ⟨sl, fa, kn, ex⟩, hf, l2, cs⟩ := choose0 g1 hw1 b
    rw [show slotN ({ beginS b s with turn := s.turn + 1 } : PS).kn b = slotN s.kn b from eb, ec] at e2
    cases e2
    have hat : ∀ i, slotN s.kn b = some i → (atN (beginS b s).kn i).isSome = true := fun i e => beginS_at e
    obtain ⟨m2, in1, in2⟩ := chooseR_ok (beginW g.wf) hat ec
    have en : s2.nb = s.nb := by rw [ex]; exact q2
    have ew : s2.wr = s.wr := by rw [ex]; exact q5
    cases ew2 : wordsR (recS b v s.turn s2) tg st (rcpOf s2) s2 with
    | pf bb a => rw [ew2] at h; cases h
    | ok u s3 =>
      rw [ew2, Rs.bind_ok] at h
      have hw2 : WrOk s2 := by unfold WrOk; rw [ew]; exact hw
      obtain ⟨s3', e3, g3, n3, w3, f3, l3⟩ := words0 (rc := recS b v s.turn s2) (v := v) g2 hw2 (by rw [en]; exact hb) rfl rfl rfl cs
      rw [ew2] at e3
      cases e3
      have m3 := wordsR_ok (rc := recS b v s.turn s2) (by rw [en]; exact hb) in1 in2 ew2
      obtain ⟨fx4, f4, c4⟩ := tail_nd g3 h
      have fx3 := (fb.trans m2.fx).trans m3.fx
      refine ⟨fx3.trans fx4, fun hbd nd => ?_⟩
      have ebd : s3.bd = s.bd := by
        obtain ⟨_, _, _, _, _, _, _, _, e⟩ := fx3
        rw [e]
      by_cases ebk : V.str s3.wr = V.str "back"
      · exact c4 ebk (by rw [ebd]; exact hbd)
      · intro q hq
        cases hd : q.rc.dirty with
        | false => rfl
        | true =>
          have fb0 : DFrom none s.kn (beginS b s).kn := by
            unfold beginS
            split
            · exact DFrom.use
            · exact DFrom.refl
          have F : DFrom (some (recS b v s.turn s2)) s.kn s1.kn := (fb0.up.trans ((chooseR_from ec).up.trans (wordsR_from ew2))).trans f4.up
          rcases F q hq hd with ⟨r, e1, e2⟩ | ⟨p, hp, e1, e2⟩
          · cases e1
            rw [e2] at hd
            have : V.str s2.wr = V.str "back" := of_decide_eq_true hd
            rw [← w3] at this
            exact absurd this ebk
          · have := nd p hp
            rw [e2, hd] at this
            cases this
theorem read_nd (g : Gd s val) {b a : Nat} (hb : b < s.nb) (h : readR b s = .ok a s1) : Fx s s1 ∧ DFrom none s.kn s1.kn := by
  have fb := Fx.begin s b (beginS b s).turn
  have fb0 : DFrom none s.kn (beginS b s).kn := by
    unfold beginS
    split
    · exact DFrom.use
    · exact DFrom.refl
  obtain ⟨g1, eb⟩ := begin0 g b (beginS b s).turn
  obtain ⟨q1, q2, q3, q4, q5, q6, q7, q8, q9⟩ := beginS_same b s
  have g2 : Gd { beginS b s with sl := s.sl.rd } val := g1.same rfl (by show s.sl.cs = (beginS b s).sl.cs; rw [q7]) rfl rfl rfl rfl rfl rfl
  have fs : Fx s { beginS b s with sl := s.sl.rd } := Fx.trans fb ⟨_, _, _, _, _, _, _, _, rfl⟩
  unfold readR at h
  split at h
  · cases h
    exact ⟨Fx.trans fb ⟨_, _, _, _, _, _, _, _, rfl⟩, fb0⟩
  · split at h
    · rename_i hk
      obtain ⟨d, hd⟩ := Option.isSome_iff_exists.mp hk.2
      unfold keepR at h
      cases et : takeR { beginS b s with sl := s.sl.rd } with
      | pf bb a => rw [et] at h; cases h
      | ok i s3 =>
        rw [et, Rs.bind_ok] at h
        obtain ⟨m3, hi3⟩ := takeR_ok g2.wf (g2.wf.some1 d (by show (beginS b s).fa = _; rw [q8]; exact hd)) et
        cases ew : wRec i ⟨b, slowV b s, 0, false⟩ s3 with
        | pf bb a => rw [ew] at h; cases h
        | ok u s4 =>
          rw [ew, Rs.bind_ok] at h
          cases h
          have f4 := wRec_from ew
          have ft : DFrom none (beginS b s).kn s3.kn := takeR_from (s := { beginS b s with sl := s.sl.rd }) et
          obtain ⟨i1, s3', e3, _, hi, _, _, ⟨sl, fa, kn, ex⟩, hf3, _⟩ := take0 g2 (d := d) (by show (beginS b s).fa = _; rw [q8]; exact hd)
          rw [et] at e3
          cases e3
          have m4 := wRec_ok (by rw [ex]; exact hi3) (by rw [ex]; show b < (beginS b s).nb; rw [q2]; exact hb) (Option.isSome_iff_exists.mp (by rw [hf3]; show (beginS b s).fa.isSome = true; rw [q8]; exact hk.2)) ew
          refine ⟨(fs.trans m3.fx).trans m4.fx, fun q hq hdq => ?_⟩
          rcases f4 q hq hdq with ⟨r, e1, e2⟩ | ⟨p, hp, e1, e2⟩
          · cases e1
            rw [e2] at hdq
            cases hdq
          · rcases (fb0.trans ft) p hp (by rw [e2]; exact hdq) with ⟨r, e3, _⟩ | ⟨p0, h0, e3, e4⟩
            · cases e3
            · exact .inr ⟨p0, h0, e3.trans e1, e4.trans e2⟩
    · cases h
      exact ⟨fs, fb0⟩
theorem DFrom.nd {kn kn' : List Kn} (h : DFrom none kn kn') (n : ND kn) : ND kn' := fun q hq => by
  cases hd : q.rc.dirty with
  | false => rfl
  | true =>
    rcases h q hq hd with ⟨r, e, _⟩ | ⟨p, hp, e1, e2⟩
    · cases e
    · have := n p hp
      rw [e2, hd] at this
      cases this
end
/-! ### the dirty blocks -/
def blkD (kn : List Kn) : List Nat := (kn.filter fun q => q.rc.dirty).map fun q => q.rc.blk
theorem blkD_len (kn : List Kn) : (blkD kn).length ≤ kn.length := by
  unfold blkD
  rw [List.length_map]
  exact List.length_filter_le _ _
theorem blkD_succ (ks : List Kp) (i : Nat) (hi : i < (sortK ks).length) : blkD (((sortK ks).take (i + 1)).map Kp.toKn) = blkD (((sortK ks).take i).map Kp.toKn) ++ (if (sortK ks)[i].rc.dirty = true then [(sortK ks)[i].rc.blk] else []) := by
  unfold blkD
  rw [List.take_succ, List.getElem?_eq_getElem hi, List.map_append, List.filter_append, List.map_append]
  refine congrArg _ ?_
  show ((List.filter (fun q => q.rc.dirty) [(sortK ks)[i].toKn]).map _) = _
  by_cases e : (sortK ks)[i].rc.dirty = true
  · rw [if_pos e, List.filter_cons_of_pos (by simp [e])]
    rfl
  · rw [if_neg e, List.filter_cons_of_neg (by simp [e])]
    rfl
def dirtyB (s : PS) : List Nat := (blkD (sortN s.kn)).mergeSort fun a b => decide (a ≤ b)
def spDirtyP (c : Cl) : Sp := fun vs H Q _ => ∃ (P : Pp) (ks : List Kp) (s : PS), vs = [.ref P.p] ∧ PairAt c H P ks s ∧ s.on = true ∧ ∀ (L : Addr) (H' : Hp), H L = none → Fr [] H H' → H' L = some (.lst ((dirtyB s).map fun n : Nat => V.int (n : Int))) → Q (.ref L) H'
section
variable {P : Program} {w : World} {K : PySem.W.Frag} {mg : Str → Option Value} {base : Heap}
theorem ok_dirtyP (T : Gx K mg) : FnOk P w K mg base CX0 2 T.f_Pair_dirty T.fd_Pair_dirty ["self"] (spDirtyP (clT T)) := by
  have G_Memory_records : FnOk P w K mg base CX0 1 T.f_Memory_records T.fd_Memory_records ["self"] (spRecords T.C_Memory T.C_KnownSlot) := ok_records T
  have G_Pair__check_on : FnOk P w K mg base CX0 1 T.f_Pair__check_on T.fd_Pair__check_on ["self"] (spOnG (clT T)) := ok_onG T
  refine T.F_Pair_dirty.ok sc_Pair_dirty (fun vs H Q E h => ?_) (fun cdv A outer s H vs Q E hr h => ?_)
  · obtain ⟨P, ks, s, rfl, _⟩ := h
    rfl
  · obtain ⟨P, ks, s, rfl, hP, hon, k⟩ := h
    refine ⟨_, (pss_cons (ps_expr (pe_meth0 (pv 0) T.cl_Pair T.m_Pair__check_on G_Pair__check_on (hr.mono (by first | decide | omega)) (b_Pair__check_on T) .nil pass0))
      (pss_one (ps_ret (pe_callB cr_sorted (by rfl) T.z_sorted (by decide +kernel) (pa_cons (pe_lc (own := [("record", 1)]) (g := gName 1) rfl sc_Pair_dirty.nd (pi_valuesN (pe_meth0 (pe_fld (pv 0) rfl) T.cl_Memory T.m_Memory_records G_Memory_records (hr.mono (by first | decide | omega)) (b_Memory_records T) .nil pass0)) (blkOk_by (N := ["self", "record"]) (sc := defScope s_Pair_dirty) (by decide +kernel)) (fun _ _ _ _ _ => pg_name (i := 1) sc_Pair_dirty.nd rfl (.inl rfl)) (fun _ _ _ _ _ => (pts_one (pt_val (pe_ix (ix_tupK (K := K) rfl) (pv 1) (pe_glob (v := .int (3)) (by rfl) T.c_IS_DIRTY ⟨_, rfl⟩) (fun _ _ => rfl))))) (fun _ _ _ _ _ => (pe_ix (ix_tupK (K := K) rfl) (pv 1) (pe_glob (v := .int (0)) (by rfl) T.c_BLOCK ⟨_, rfl⟩) (fun _ _ => rfl)))) pa_nil))))), ?_⟩
    refine ⟨_, rfl, P.p, P.px, _, rfl, hP.ins, pF_no__check_on, P, ks, s, rfl, hP, hon, ?_⟩
    refine ⟨_, rfl, P.p, T.C_Pair, P.px, _, _, rfl, hP.ins, T.cl_Pair, T.n_Pair__memory, pF_get5, P.M.m, P.M.x, _, rfl, hP.mem.ins, mF_no_records, P.M, s.ms, ks, rfl, hP.mem, fun D H1 hD f1 eD => ⟨D, _, rfl, eD, fun od L hL => ?_⟩⟩
    have hD1 : ∀ a o, H a = some o → (upd H1 D (.frz od (.dK ((sortK ks).map Kp.kr)))) a = some o := fun a o e => by
      rw [upd_ne (ne_of_none e hD)]
      exact f1 _ _ e (by simp)
    refine lc_it (walk_values (d := D) (o := od) (kvs := (sortK ks).map Kp.kr)) (fun i H' => Fr [] (upd H1 D (.frz od (.dK ((sortK ks).map Kp.kr)))) H' ∧ H' L = some (.lst ((blkD (((sortK ks).take i).map Kp.toKn)).map fun n : Nat => V.int (n : Int)))) ⟨Fr.new hL, upd_same⟩ (fun i H' _ g => g.1 _ _ upd_same (by simp)) ?_ ?_
    · rintro i x H2 H3 hi ⟨f2, eL⟩ ⟨rfl, kk, ek⟩
      have hi' : i < (sortK ks).length := by simpa using hi
      rw [List.getElem?_map, List.getElem?_eq_getElem hi'] at ek
      cases ek
      have hq' := sortK_mem.mp (List.getElem_mem hi')
      have ht := f2 _ _ (hD1 _ _ (hP.mem.rcd _ hq')) (by simp)
      refine ⟨rfl, _, rfl, _, _, (3 : Int), _, rfl, rfl, SqT.of ht, rfl, _, rfl, ?_⟩
      refine iteB (fun e => ?_) fun e => ?_
      · refine ⟨_, rfl, _, _, (0 : Int), _, rfl, rfl, SqT.of ht, rfl, _, eL, ?_, f2.upd0 hL, ?_⟩
        · rw [List.length_map]
          refine sz_lt ?_
          have q1 := blkD_len (((sortK ks).take i).map Kp.toKn)
          have q2 := List.length_take_le i (sortK ks)
          have := hP.mem.len
          have := (sortK_perm ks).length_eq
          rw [List.length_map] at q1
          omega
        · rw [upd_same, blkD_succ ks i hi', if_pos e, List.map_append]
          rfl
      · refine ⟨f2, ?_⟩
        rw [blkD_succ ks i hi', if_neg (by rw [show (sortK ks)[i].rc.dirty = false from e]; simp), List.append_nil]
        exact eL
    · rintro H2 ⟨f2, eL⟩
      rw [List.length_map, List.take_length, show (sortK ks).map Kp.toKn = sortN s.kn from (sortK_kns ks).trans (by rw [hP.kno])] at eL
      have eL' : H2 L = some (.lst (((blkD (sortN s.kn)).map fun n : Nat => (n : Int)).map V.int)) := by rw [List.map_map]; exact eL
      have hlen : (blkD (sortN s.kn)).length < 64 := by
        have q1 := blkD_len (sortN s.kn)
        have := hP.mem.len
        have e2 := congrArg List.length hP.kno
        rw [List.length_map] at e2
        have e3 : (sortN s.kn).length = s.kn.length := (List.mergeSort_perm _ _).length_eq
        omega
      refine ⟨L, _, rfl, SqL.of eL', by rw [List.length_map]; exact hlen, fun ys Z hp hs hZ => ?_⟩
      have ey : ys = (dirtyB s).map fun n : Nat => (n : Int) := by
        refine List.Perm.eq_of_pairwise (le := fun (a b : Int) => a ≤ b) (fun a b _ _ h1 h2 => Int.le_antisymm h1 h2) hs ?_ (hp.trans ((List.mergeSort_perm _ _).symm.map _))
        exact List.pairwise_map.mpr ((List.pairwise_mergeSort (le := fun (a b : Nat) => decide (a ≤ b)) (fun a b c h1 h2 => decide_eq_true (Nat.le_trans (of_decide_eq_true h1) (of_decide_eq_true h2))) (fun a b => by
          rcases Nat.le_total a b with h | h
          · simp [h]
          · simp [h]) _).imp fun h => Int.ofNat_le.mpr (of_decide_eq_true h))
      rw [ey, List.map_map]
      have F : Fr [] H H2 := fun a o e _ => f2 _ _ (hD1 _ _ e) (by simp)
      refine k Z _ ((F.nah hZ).resolve_left (by simp)) (F.trans (Fr.new hZ)) upd_same
end
/-! ### what is kept -/
/-- strictly ascending, from lo on, below m -/
def Asc (m : Nat) : Nat → List Nat → Prop
  | _, [] => True
  | lo, k :: r => lo ≤ k ∧ k < m ∧ Asc m (k + 1) r
def stepK (ps : List (Nat × V)) (ls : List V) (k : Nat) : List V := match ps[k]? with
  | some q => ls.set q.1 q.2
  | none => ls
def applyK (ps : List (Nat × V)) (ls : List V) (ks : List Nat) : List V := ks.foldl (stepK ps) ls
theorem stepK_len (ps : List (Nat × V)) (ls : List V) (k : Nat) : (stepK ps ls k).length = ls.length := by
  unfold stepK
  split
  · exact List.length_set
  · rfl
theorem applyK_len (ps : List (Nat × V)) : ∀ (ks : List Nat) (ls : List V), (applyK ps ls ks).length = ls.length
  | [], _ => rfl
  | k :: r, ls => by
    show (applyK ps (stepK ps ls k) r).length = ls.length
    rw [applyK_len ps r, stepK_len]
theorem applyK_snoc (ps : List (Nat × V)) (ls : List V) (ks : List Nat) (k : Nat) : applyK ps ls (ks ++ [k]) = stepK ps (applyK ps ls ks) k := by
  unfold applyK
  rw [List.foldl_append]
  rfl
def kepV (ks : List Nat) : List V := ks.map fun (k : Nat) => V.int (k : Int)
theorem kV_at {ks : List Nat} {i : Nat} {x : V} (h : (kepV ks)[i]? = some x) : ∃ k : Nat, x = V.int (k : Int) ∧ ks[i]? = some k := by
  unfold kepV at h
  rw [List.getElem?_map] at h
  cases e : ks[i]? with
  | none =>
    rw [e] at h
    cases h
  | some u =>
    rw [e] at h
    exact ⟨u, (Option.some.inj h).symm, rfl⟩
theorem Asc.drop {m : Nat} : ∀ {lo : Nat} {ks : List Nat}, Asc m lo ks → ∀ (i k : Nat), ks[i]? = some k → ∃ lo', Asc m lo' (ks.drop i) ∧ lo' ≤ k
  | _, [], _, i, k, e => by simp at e
  | lo, a :: r, h, 0, k, e => by
    cases e
    exact ⟨lo, h, h.1⟩
  | lo, a :: r, h, i + 1, k, e => by
    obtain ⟨lo', h', hk⟩ := Asc.drop h.2.2 i k (by simpa using e)
    exact ⟨lo', h', hk⟩
theorem Asc.lt {m : Nat} : ∀ {lo : Nat} {ks : List Nat}, Asc m lo ks → ∀ (i k : Nat), ks[i]? = some k → k < m
  | _, [], _, i, k, e => by simp at e
  | lo, a :: r, h, 0, k, e => by
    cases e
    exact h.2.1
  | lo, a :: r, h, i + 1, k, e => Asc.lt h.2.2 i k (by simpa using e)
theorem Asc.len {m : Nat} : ∀ {lo : Nat} {ks : List Nat}, Asc m lo ks → lo ≤ m → ks.length + lo ≤ m
  | _, [], _, h => by simpa using h
  | lo, a :: r, h, _ => by
    have := Asc.len h.2.2 (by have := h.2.1; omega)
    have := h.1
    simp only [List.length_cons]
    omega
def spAreKept : Sp := fun vs H Q _ => ∃ (kt : Addr) (ks : List Nat) (m : Nat), vs = [.ref kt, .int (m : Int)] ∧ H kt = some (.tup (kepV ks)) ∧ Asc m 0 ks ∧ Q (.bl true) H
def spFail (C : Addr) : Sp := fun vs H Q _ => ∃ (D : Dk) (cs ls : List V) (ps : List (Nat × V)) (r w s : Int) (kt : Addr) (ks : List Nat), vs = [.ref D.p, .ref kt] ∧ DiskAt C H D cs ls ps r w s ∧ H kt = some (.tup (kepV ks)) ∧ Asc ps.length 0 ks ∧
  ∀ (D' : Dk) (H' : Hp), D'.p = D.p → (∀ b ∈ D'.own, b ∈ D.own ∨ H b = none) → Fr D.own H H' → DiskAt C H' D' (applyK ps ls ks) (applyK ps ls ks) [] r w s → Q .non H'
def spContents (C : Addr) : Sp := fun vs H Q _ => ∃ (D : Dk) (cs ls : List V) (ps : List (Nat × V)) (r w s : Int), vs = [.ref D.p] ∧ DiskAt C H D cs ls ps r w s ∧ ∀ t, H t = none → Q (.ref t) (upd H t (.tup cs))
def spLasting (C : Addr) : Sp := fun vs H Q _ => ∃ (D : Dk) (cs ls : List V) (ps : List (Nat × V)) (r w s : Int), vs = [.ref D.p] ∧ DiskAt C H D cs ls ps r w s ∧ ∀ t, H t = none → Q (.ref t) (upd H t (.tup ls))
def spPending (C : Addr) : Sp := fun vs H Q _ => ∃ (D : Dk) (cs ls : List V) (ps : List (Nat × V)) (r w s : Int), vs = [.ref D.p] ∧ DiskAt C H D cs ls ps r w s ∧ ∀ (t : Addr) (ts : List Addr), H t = none → Pend H ts ps → Q (.ref t) (upd H t (.lst (ts.map V.ref)))
section
variable {P : Program} {w : World} {K : PySem.W.Frag} {mg : Str → Option Value} {base : Heap}
theorem ok_areKept (T : Gx K mg) : FnOk P w K mg base CX0 3 T.f_are_kept T.fd_are_kept ["kept", "many"] spAreKept := by
  have GN : FnOk P w K mg base CX0 2 T.f_is_number_from T.fd_is_number_from ["thing", "least", "most"] (spNumFrom K) := ok_numFrom T
  refine T.F_are_kept.ok sc_are_kept (fun vs H Q E h => ?_) (fun cdv A outer s H vs Q E hr h => ?_)
  · obtain ⟨kt, ks, m, rfl, _⟩ := h
    rfl
  · obtain ⟨kt, ks, m, rfl, hK, ha, k⟩ := h
    refine ⟨_, pss_cons (ps_if (pt_not (pt_val (pe_callB call_isi (by rfl) T.z_isinstance (by decide +kernel) (pa_cons (pv 0) (pa_cons (pe_bltn (v := .ty "tuple") (by rfl) T.z_tuple (by decide +kernel) rfl) pa_nil))))) (pss_one (ps_ret pe_bl)) pss_nil)
      (pss_cons (ps_set (i := 2) sc_are_kept.nd rfl (.inl rfl) pe_int)
      (pss_cons (ps_for PassesOwn.never rfl (pi_tup (pv 0)) (pg_name (i := 3) sc_are_kept.nd rfl (.inl rfl))
        (pss_cons (ps_if (pt_not (pt_val (pe_call GN hr (by rfl) T.g_is_number_from T.F_is_number_from.kp (b_is_number_from T) .nil pass0 (pa_cons (pv 3) (pa_cons (pv 2) (pa_cons (pe_op op_sub (pv 1) pe_int) pa_nil)))))) (pss_one (ps_ret pe_bl)) pss_nil)
        (pss_one (ps_set (i := 2) sc_are_kept.nd rfl (.inl rfl) (pe_op op_add (pv 3) pe_int)))))
      (pss_one (ps_ret pe_bl)))), ?_⟩
    refine ⟨_, rfl, .ref kt, .ty "tuple", .type "tuple", _, true, rfl, ClsV.ty "tuple", .base (.tup hK), kit_ty (by decide +kernel), _, rfl, iteF ?_⟩
    refine ⟨_, rfl, kt, rfl, ⟨_, SqT.of hK⟩, for_tup (K := K) (a := kt) (xs := kepV ks) (fun i σ H' => H' = H ∧ ∃ (lo : Nat) (v : Option V), σ = [some (.ref kt), some (.int (m : Int)), some (.int (lo : Int)), v] ∧ Asc m lo (ks.drop i)) ⟨rfl, 0, none, rfl, ha⟩ (fun i σ H' _ e => by rw [e.1]; exact SqT.of hK) ?_ ?_⟩
    · rintro i x σ H' hi ⟨rfl, lo, v, rfl, hA⟩
      obtain ⟨kk, rfl, hk⟩ := kV_at hi
      have hd : ks.drop i = kk :: ks.drop (i + 1) := by
        rw [List.drop_eq_getElem_cons (lt_of_at hk)]
        congr 1
        rw [List.getElem?_eq_getElem (lt_of_at hk)] at hk
        exact Option.some.inj hk
      rw [hd] at hA
      obtain ⟨h1, h2, h3⟩ := hA
      refine ⟨_, rfl, _, rfl, _, rfl, _, _, rfl, rfl, .int (kk : Int), (lo : Int), _, rfl, .inl ⟨kk, rfl, _, rfl, ?_⟩⟩
      have e : (decide ((lo : Int) ≤ (kk : Int)) && decide ((kk : Int) ≤ (m : Int) - 1)) = true := by
        rw [Bool.and_eq_true, decide_eq_true_eq, decide_eq_true_eq]
        omega
      rw [e]
      refine iteF ⟨_, rfl, _, _, rfl, rfl, rfl, kk + 1, some (.int (kk : Int)), ?_, h3⟩
      rfl
    · rintro σ H' ⟨rfl, lo, v, rfl, _⟩
      exact k
theorem ok_fail (T : Gx K mg) : FnOk P w K mg base CX0 4 T.f_Disk_fail T.fd_Disk_fail ["self", "kept"] (spFail T.C_Disk) := by
  have GA : FnOk P w K mg base CX0 3 T.f_are_kept T.fd_are_kept ["kept", "many"] spAreKept := ok_areKept T
  refine T.F_Disk_fail.ok sc_Disk_fail (fun vs H Q E h => ?_) (fun cdv A outer s H vs Q E hr h => ?_)
  · obtain ⟨D, cs, ls, ps, r, w', s', kt, ks, rfl, _⟩ := h
    rfl
  · obtain ⟨D, cs, ls, ps, r, w', s', kt, ks, rfl, hD, hK, ha, k⟩ := h
    obtain ⟨ts, e, pn⟩ := hD.pend
    have pl := hD.pl
    have ktl : kt ≠ D.l := ne_of hK hD.ls_ (by simp)
    refine ⟨_, pss_cons (ps_if (pt_not (pt_val (pe_call GA hr (by rfl) T.g_are_kept T.F_are_kept.kp (b_are_kept T) .nil pass0 (pa_cons (pv 1) (pa_cons (pe_callB call_len_seq (by rfl) T.z_len PySem.boot_len (pa_cons (pe_fld (pv 0) rfl) pa_nil)) pa_nil))))) (pss_one ps_never) pss_nil)
      (pss_cons (ps_for PassesOwn.never rfl (pi_tup (pv 1)) (pg_name (i := 2) sc_Disk_fail.nd rfl (.inl rfl))
        (pss_cons (ps_asg (pe_ix ix_list (pe_fld (pv 0) rfl) (pv 2) (fun _ _ => rfl)) (pg_tup (by rfl) (pgs_cons (pg_name (i := 3) sc_Disk_fail.nd rfl (.inl rfl)) (pgs_cons (pg_name (i := 4) sc_Disk_fail.nd rfl (.inl rfl)) pgs_nil))))
        (pss_one (ps_asg (pv 4) (pg_sub (pe_fld (pv 0) rfl) (pv 3) set_list)))))
      (pss_cons (ps_fld (pv 0) (pe_callTy call_list_of (by rfl) T.z_list (by decide +kernel) (pa_cons (pe_fld (pv 0) rfl) pa_nil)) rfl)
      (pss_one (ps_fld (pv 0) (pe_lst pa_nil) rfl)))), ?_⟩
    refine ⟨_, rfl, _, rfl, D.p, T.C_Disk, _, _, _, rfl, hD.ins, T.cl_Disk, T.n_Disk__pending, dF_get2, D.d, ts.map V.ref, rfl, .inl (SqL.of e), kt, ks, ps.length, ?_, hK, ha, _, rfl, iteF ?_⟩
    · rw [List.length_map, pn.1]
      rfl
    refine ⟨_, rfl, kt, rfl, ⟨_, SqT.of hK⟩, for_tup (K := K) (a := kt) (xs := kepV ks) (fun i σ H' => Fr [D.l] H H' ∧ H' D.l = some (.lst (applyK ps ls (ks.take i))) ∧ ∃ (v2 v3 v4 : Option V), σ = [some (.ref D.p), some (.ref kt), v2, v3, v4]) ⟨Fr.refl _ _, hD.ls_, none, none, none, rfl⟩ (fun i σ H' _ e => SqT.of (e.1 _ _ hK (by simpa using ktl))) ?_ ?_⟩
    · rintro i x σ H' hi ⟨fr, el, v2, v3, v4, rfl⟩
      obtain ⟨kk, rfl, hk⟩ := kV_at hi
      have hlt : kk < ps.length := ha.lt i kk hk
      have ep : ps[kk]? = some ps[kk] := List.getElem?_eq_getElem hlt
      have et : ts[kk]? = some (ts[kk]'(by rw [pn.1]; exact hlt)) := List.getElem?_eq_getElem (by rw [pn.1]; exact hlt)
      have etup := pn.2 kk _ _ et ep
      have tl : ts[kk]'(by rw [pn.1]; exact hlt) ≠ D.l := ne_of etup hD.ls_ (by simp)
      have ei := fr _ _ hD.ins (by simpa using pl)
      have ed := fr _ _ e (by simpa using hD.ld.symm)
      have eu := fr _ _ etup (by simpa using tl)
      have hok : ps[kk].1 < (applyK ps ls (ks.take i)).length := by
        rw [applyK_len]
        exact hD.ok _ (List.getElem_mem hlt)
      refine ⟨_, rfl, D.p, T.C_Disk, _, _, _, rfl, ei, T.cl_Disk, T.n_Disk__pending, dF_get2, _, rfl, D.d, ts.map V.ref, (kk : Int), .ref (ts[kk]'(by rw [pn.1]; exact hlt)), rfl, rfl, SqL.of ed, atI_nat (by rw [List.getElem?_map, et]; rfl), ?_⟩
      refine ⟨_, _, rfl, SqT.of eu, rfl, _, _, rfl, _, _, rfl, rfl, ?_⟩
      refine ⟨_, rfl, _, rfl, D.p, T.C_Disk, _, _, _, rfl, ei, T.cl_Disk, T.n_Disk__lasting, dF_get1, _, rfl, D.l, _, (ps[kk].1 : Int), ps[kk].1, rfl, rfl, el, ix_at _ hok, ?_⟩
      refine ⟨fr.trans (Fr.put (by simp)), ?_, _, _, _, rfl⟩
      rw [upd_same, List.take_add_one, hk]
      show _ = some (HO.lst (applyK ps ls (ks.take i ++ [kk])))
      rw [applyK_snoc]
      unfold stepK
      rw [ep]
    · rintro σ H' ⟨fr, el, v2, v3, v4, rfl⟩
      have elen : (kepV ks).length = ks.length := List.length_map _
      rw [elen, List.take_length] at el
      have ei := fr _ _ hD.ins (by simpa using pl)
      have ec := fr _ _ hD.cs_ (by simpa using hD.cl)
      refine ⟨_, rfl, D.p, T.C_Disk, _, _, _, rfl, ei, T.cl_Disk, T.n_Disk__lasting, dF_get1, D.l, _, rfl, .inl (SqL.of el), fun c hc => ?_⟩
      have pc : D.p ≠ c := ne_of_none ei hc
      have lc : D.l ≠ c := ne_of_none el hc
      have c0 : H c = none := by
        cases q : H c with
        | none => rfl
        | some o =>
          rw [fr _ _ q (by simpa using lc.symm)] at hc
          cases hc
      refine ⟨_, rfl, D.p, T.C_Disk, D.dx, _, rfl, Eq.trans (upd_ne pc) ei, T.cl_Disk, T.n_Disk__contents, dF_len, ?_⟩
      rw [dF_put0]
      refine ⟨sz_le (by simp), fun d hd => ?_⟩
      have d1 := free_upd hd
      have d2 := free_upd d1.1
      have ld : D.l ≠ d := ne_of_none el d2.1
      have d0 : H d = none := by
        cases q : H d with
        | none => rfl
        | some o =>
          have := d2.1
          rw [fr _ _ q (by simpa using ld.symm)] at this
          cases this
      refine ⟨_, rfl, D.p, T.C_Disk, D.dx, _, rfl, Eq.trans (upd_ne d1.2.symm) upd_same, T.cl_Disk, T.n_Disk__pending, dF_len, ?_⟩
      rw [dF_put2]
      refine k ⟨D.p, D.dx, c, D.l, d⟩ _ rfl (fun b hb => ?_) ?_ ⟨upd_same, ?_, ?_, ⟨[], ?_, rfl, fun i t q e _ => by simp at e⟩, lc.symm, d2.2.symm, ld, rfl, by rw [applyK_len, ← hD.len]; exact hD.small, fun q hq => by cases hq⟩
      · simp only [Dk.own, List.mem_cons, List.not_mem_nil, or_false] at hb ⊢
        rcases hb with z | z | z | z
        · exact .inl (.inl z)
        · rw [z]; exact .inr c0
        · exact .inl (.inr (.inr (.inl z)))
        · rw [z]; exact .inr d0
      · exact ((((fr.mono (by simp [Dk.own])).trans (Fr.new hc)).trans (Fr.put (by simp [Dk.own]))).trans (Fr.new hd)).trans (Fr.put (by simp [Dk.own]))
      · show (upd _ D.p _) c = _
        rw [upd_ne pc.symm, upd_ne d2.2.symm, upd_ne pc.symm]
        exact upd_same
      · show (upd _ D.p _) D.l = _
        rw [upd_ne pl.symm, upd_ne ld, upd_ne pl.symm, upd_ne lc]
        exact el
      · show (upd _ D.p _) d = _
        rw [upd_ne d1.2]
        exact upd_same
theorem ok_pending (T : Gx K mg) : FnOk P w K mg base CX0 1 T.f_Disk_pending T.fd_Disk_pending ["self"] (spPending T.C_Disk) := by
  refine T.F_Disk_pending.ok sc_Disk_pending (fun vs H Q E h => ?_) (fun cdv A outer s H vs Q E hr h => ?_)
  · obtain ⟨D, cs, ls, ps, r, w', s', rfl, _⟩ := h
    rfl
  · obtain ⟨D, cs, ls, ps, r, w', s', rfl, hD, k⟩ := h
    obtain ⟨ts, e, pn⟩ := hD.pend
    refine ⟨_, pss_one (ps_ret (pe_callTy call_list_of (by rfl) T.z_list (by decide +kernel) (pa_cons (pe_fld (pv 0) rfl) pa_nil))), ?_⟩
    exact ⟨_, rfl, D.p, T.C_Disk, _, _, _, rfl, hD.ins, T.cl_Disk, T.n_Disk__pending, dF_get2, D.d, _, rfl, .inl (SqL.of e), fun t ht => k t ts ht pn⟩
end
/-! ### a disk of values fails -/
def stepG {α : Type} (ps : List (Nat × α)) (ls : List α) (k : Nat) : List α := match ps[k]? with
  | some q => ls.set q.1 q.2
  | none => ls
def applyG {α : Type} (ps : List (Nat × α)) (ls : List α) (ks : List Nat) : List α := ks.foldl (stepG ps) ls
def DS.fai {α : Type} (d : DS α) (ks : List Nat) : DS α := { d with cs := applyG d.ps d.ls ks, ls := applyG d.ps d.ls ks, ps := [] }
theorem applyG_len {α : Type} (ps : List (Nat × α)) : ∀ (ks : List Nat) (ls : List α), (applyG ps ls ks).length = ls.length
  | [], _ => rfl
  | k :: r, ls => by
    show (applyG ps (stepG ps ls k) r).length = ls.length
    rw [applyG_len ps r]
    unfold stepG
    split
    · exact List.length_set
    · rfl
theorem fst_at {α β : Type} {ps : List (Nat × α)} {qs : List (Nat × β)} (h : ps.map Prod.fst = qs.map Prod.fst) {k : Nat} {p : Nat × α} {q : Nat × β} (e1 : ps[k]? = some p) (e2 : qs[k]? = some q) : p.1 = q.1 := by
  have e3 := congrArg (fun l => l[k]?) h
  simp only [List.getElem?_map, e1, e2, Option.map_some] at e3
  exact Option.some.inj e3
theorem all2_apply {α : Type} {R : V → α → Prop} {ps : List (Nat × V)} {qs : List (Nat × α)} (a3 : All2 R (ps.map Prod.snd) (qs.map Prod.snd)) (a4 : ps.map Prod.fst = qs.map Prod.fst) : ∀ (ks : List Nat) {vs : List V} {as : List α}, All2 R vs as → All2 R (applyK ps vs ks) (applyG qs as ks)
  | [], _, _, h => h
  | k :: r, vs, as, h => by
    show All2 R (applyK ps (stepK ps vs k) r) (applyG qs (stepG qs as k) r)
    refine all2_apply a3 a4 r ?_
    have hl : ps.length = qs.length := by
      have := congrArg List.length a4
      simpa using this
    unfold stepK stepG
    cases e : ps[k]? with
    | none =>
      rw [List.getElem?_eq_none (by rw [← hl]; exact List.getElem?_eq_none_iff.mp e)]
      exact h
    | some p =>
      have lk := lt_of_at e
      rw [hl] at lk
      rw [List.getElem?_eq_getElem lk]
      have e2 := List.getElem?_eq_getElem lk
      show All2 R (vs.set p.1 p.2) (as.set qs[k].1 qs[k].2)
      rw [← fst_at a4 e e2]
      exact h.set _ (a3.2 k p.2 qs[k].2 (by rw [List.getElem?_map, e]; rfl) (by rw [List.getElem?_map, e2]; rfl))
theorem DiskR.fai {α : Type} {C : Addr} {R : Hp → V → α → Prop} (hR : Stays R) {H H' : Hp} {D D' : Dk} {d : DS α} {cs ls : List V} {ps : List (Nat × V)} {ks : List Nat} (a2 : All2 (R H) ls d.ls) (a3 : All2 (R H) (ps.map Prod.snd) (d.ps.map Prod.snd)) (a4 : ps.map Prod.fst = d.ps.map Prod.fst) (h : DiskAt C H D cs ls ps d.r d.w d.s) (f : Fr D.own H H') (h' : DiskAt C H' D' (applyK ps ls ks) (applyK ps ls ks) [] d.r d.w d.s) : DiskR C R H' D' (d.fai ks) := by
  have q : ∀ v a, R H v a → R H' v a := fun v a r => hR _ H H' v a r f h.notup
  have k := (all2_apply a3 a4 ks a2).imp q
  exact ⟨_, _, [], h', k, k, ⟨rfl, fun i v a e => by simp at e⟩, rfl, Nat.zero_le _⟩
/-! ### what is pending -/
def psF (s : PS) : Nat := match s.fa with
  | none => 0
  | some d => d.ps.length
def spPend (c : Cl) : Sp := fun vs H Q _ => ∃ (P : Pp) (ks : List Kp) (s : PS), vs = [.ref P.p] ∧ PairAt c H P ks s ∧ ∀ (t la lb : Addr) (xa xb : List V) (H' : Hp), H t = none → H la = none → H lb = none → la ≠ lb → Fr [] H H' → H' t = some (.tup [.ref la, .ref lb]) → H' la = some (.lst xa) → xa.length = s.sl.ps.length → H' lb = some (.lst xb) → xb.length = psF s → Q (.ref t) H'
section
variable {P : Program} {w : World} {K : PySem.W.Frag} {mg : Str → Option Value} {base : Heap} {file : Str}
theorem ok_pend (T : Gx K mg) : FnOk P w K mg base CX0 3 T.f_Pair_pending T.fd_Pair_pending ["self"] (spPend (clT T)) := by
  have G_Disk_pending : FnOk P w K mg base CX0 1 T.f_Disk_pending T.fd_Disk_pending ["self"] (spPending T.C_Disk) := ok_pending T
  refine T.F_Pair_pending.ok sc_Pair_pending (fun vs H Q E h => ?_) (fun cdv A outer s H vs Q E hr h => ?_)
  · obtain ⟨P, ks, s, rfl, _⟩ := h
    rfl
  · obtain ⟨P, ks, s, rfl, hP, k⟩ := h
    refine ⟨_, (pss_one (ps_ret (pe_tup (pa_cons (pe_prop (pe_fld (pv 0) rfl) T.cl_Disk T.P_Disk_pending G_Disk_pending (hr.mono (by first | decide | omega)) (b_Disk_pending T) .nil pass0 rfl) (pa_cons (pe_ifExp (pt_cmpR op_isN (pe_fld (pv 0) rfl) pe_non (nomark _)) (pe_lst pa_nil) (pe_prop (pe_fld (pv 0) rfl) T.cl_Disk T.P_Disk_pending G_Disk_pending (hr.mono (by first | decide | omega)) (b_Disk_pending T) .nil pass0 rfl)) pa_nil))))), ?_⟩
    obtain ⟨cs, ls, ps, hD, a1, a2, a3, a4, a5⟩ := id hP.slo
    have hpl : ps.length = s.sl.ps.length := by
      have := congrArg List.length a4
      simpa using this
    refine ⟨_, rfl, P.p, T.C_Pair, P.px, _, _, rfl, hP.ins, T.cl_Pair, T.n_Pair__slow, pF_get3, P.S.p, P.S.dx, _, rfl, hD.ins, P.S, cs, ls, ps, _, _, _, rfl, hD, fun la ts hla hp => ?_⟩
    have hlen : (ts.map V.ref).length = s.sl.ps.length := by rw [List.length_map, hp.1, hpl]
    have c1 := (Ch.refl hP).keep0 (Fr.new (o := .lst (ts.map V.ref)) hla)
    have hP1 := c1.at_
    have ela : (upd H la (.lst (ts.map V.ref))) la = some (.lst (ts.map V.ref)) := upd_same
    have f1 : Fr [] H (upd H la (.lst (ts.map V.ref))) := Fr.new hla
    have hb0 : ∀ {b : Addr}, (upd H la (.lst (ts.map V.ref))) b = none → H b = none ∧ b ≠ la := fun h => free_upd h
    generalize upd H la (.lst (ts.map V.ref)) = H1 at *
    refine ⟨_, rfl, P.p, T.C_Pair, P.px, _, _, rfl, hP1.ins, T.cl_Pair, T.n_Pair__fast, pF_get4, rfl, _, rfl, ?_⟩
    cases hd : s.fa with
    | none =>
      have e0 : psF s = 0 := by unfold psF; rw [hd]
      rw [fv_none (hP1.nofast hd)]
      refine iteT ⟨sz_le (by simp), fun lb hlb => ⟨sz_le (by simp), fun t ht => ?_⟩⟩
      have f2 : Fr [] H1 (upd (upd H1 lb (.lst [])) t (.tup [.ref la, .ref lb])) := (Fr.new hlb).trans (Fr.new ht)
      refine k t la lb _ [] _ (hb0 (free_upd ht).1).1 hla (hb0 hlb).1 (hb0 hlb).2.symm (f1.trans f2) upd_same (f2 _ _ ela (by simp)) hlen ((upd_ne (free_upd ht).2.symm).trans upd_same) (by rw [e0]; rfl)
    | some d =>
      have e0 : psF s = d.ps.length := by unfold psF; rw [hd]
      obtain ⟨D, eD, cs1, ls1, ps1, hF, b1, b2, b3, b4, b5⟩ := hP1.fast hd
      rw [fv_some eD]
      have hpl1 : ps1.length = d.ps.length := by
        have := congrArg List.length b4
        simpa using this
      refine iteF ⟨_, rfl, P.p, T.C_Pair, P.px, _, _, rfl, hP1.ins, T.cl_Pair, T.n_Pair__fast, pF_get4, D.p, D.dx, _, fv_some eD, hF.ins, D, cs1, ls1, ps1, _, _, _, (by first | rfl | rw [fv_some eD]), hF, fun lb ts1 hlb hp1 => ⟨sz_le (by simp), fun t ht => ?_⟩⟩
      have f2 : Fr [] H1 (upd (upd H1 lb (.lst (ts1.map V.ref))) t (.tup [.ref la, .ref lb])) := (Fr.new hlb).trans (Fr.new ht)
      refine k t la lb _ _ _ (hb0 (free_upd ht).1).1 hla (hb0 hlb).1 (hb0 hlb).2.symm (f1.trans f2) upd_same (f2 _ _ ela (by simp)) hlen ((upd_ne (free_upd ht).2.symm).trans upd_same) (by rw [e0, List.length_map, hp1.1, hpl1])
end
theorem psF_lim {c : Cl} {H : Hp} {P : Pp} {ks : List Kp} {s : PS} {n : Nat} (h : PairAt c H P ks s) (l : Lim n s) : psF s ≤ n := by
  unfold psF
  cases e : s.fa with
  | none => exact Nat.zero_le _
  | some d =>
    have hf := h.fas
    rw [e] at hf
    cases eF : P.F with
    | none => rw [eF] at hf; exact hf.elim
    | some D =>
      rw [eF] at hf
      obtain ⟨_, _, _, _, _, _, _, _, a5⟩ := id hf
      exact Nat.le_trans a5 (l.2 d e)
/-! ### what a pair that rests has on its disks: nothing of the slow one is pending, and a slot of the fast one that is known to be dirty is certain -/
def P3 {α : Type} (d : DS α) (i : Nat) (x : α) : Prop := d.cs[i]? = some x ∨ d.ls[i]? = some x ∨ (i, x) ∈ d.ps
structure RtF (fa : Option (DS (Option Rc))) (kn : List Kn) : Prop where
  a : ∀ d, fa = some d → ∀ i rc, P3 d i (some rc) → rc.dirty = true → ∃ q ∈ kn, q.slot = i ∧ q.rc = rc
  b : ∀ d, fa = some d → ∀ q ∈ kn, q.rc.dirty = true → ∀ x, P3 d q.slot x → x = some q.rc
  l : ∀ d, fa = some d → d.ls.length = d.cs.length
structure Rt (s : PS) : Prop where
  sp : s.sl.ps = []
  sl : s.sl.ls = s.sl.cs
  f : RtF s.fa s.kn
theorem p3_syn {α : Type} {d : DS α} {i : Nat} {x : α} (h : P3 d.syn i x) : d.cs[i]? = some x := by
  rcases h with h | h | h
  · exact h
  · exact h
  · cases h
theorem set_at {α : Type} {l : List α} {i j : Nat} {x y : α} (h : (l.set i x)[j]? = some y) : (j = i ∧ y = x) ∨ (j ≠ i ∧ l[j]? = some y) := by
  rw [List.getElem?_set] at h
  by_cases z : i = j
  · rw [if_pos z] at h
    split at h
    · cases h
      exact .inl ⟨z.symm, rfl⟩
    · cases h
  · rw [if_neg z] at h
    exact .inr ⟨Ne.symm z, h⟩
theorem p3_wri {α : Type} {d : DS α} {i j : Nat} {x y : α} (h : P3 (d.wri i x) j y) : (j = i ∧ y = x) ∨ P3 d j y := by
  rcases h with h | h | h
  · rcases set_at h with h | h
    · exact .inl h
    · exact .inr (.inl h.2)
  · exact .inr (.inr (.inl h))
  · rcases List.mem_append.mp h with h | h
    · exact .inr (.inr (.inr h))
    · have := List.mem_singleton.mp h
      exact .inl ⟨congrArg Prod.fst this, congrArg Prod.snd this⟩
section
variable {fa : Option (DS (Option Rc))} {kn kn' : List Kn}
theorem RtF.syn (h : RtF fa kn) : RtF (fa.map DS.syn) kn := by
  refine ⟨fun d' e i rc hp hd => ?_, fun d' e q hq hd x hp => ?_, fun d' e => ?_⟩
  · obtain ⟨d, e1, rfl⟩ := map_of e
    exact h.a d e1 i rc (.inl (p3_syn hp)) hd
  · obtain ⟨d, e1, rfl⟩ := map_of e
    exact h.b d e1 q hq hd x (.inl (p3_syn hp))
  · obtain ⟨d, e1, rfl⟩ := map_of e
    rfl
/-- the same dirty records -/
theorem RtF.same (h : RtF fa kn) (h1 : ∀ q ∈ kn, q.rc.dirty = true → ∃ q' ∈ kn', q'.slot = q.slot ∧ q'.rc = q.rc) (h2 : ∀ q ∈ kn', q.rc.dirty = true → ∃ q' ∈ kn, q'.slot = q.slot ∧ q'.rc = q.rc) : RtF fa kn' := by
  refine ⟨fun d e i rc hp hd => ?_, fun d e q hq hd x hp => ?_, h.l⟩
  · obtain ⟨q, hq, e1, e2⟩ := h.a d e i rc hp hd
    obtain ⟨q', hq', e3, e4⟩ := h1 q hq (by rw [e2]; exact hd)
    exact ⟨q', hq', e3.trans e1, e4.trans e2⟩
  · obtain ⟨p, hp', e1, e2⟩ := h2 q hq hd
    rw [← e2]
    exact h.b d e p hp' (by rw [e2]; exact hd) x (by rw [e1]; exact hp)
/-- a slot is written and synced -/
theorem RtF.ws (h : RtF fa kn) {i : Nat} {x : Option Rc} (hA : ∀ q ∈ kn, q.rc.dirty = true → q.slot ≠ i → ∃ q' ∈ kn', q'.slot = q.slot ∧ q'.rc = q.rc) (hx : ∀ rc, x = some rc → rc.dirty = true → ∃ q ∈ kn', q.slot = i ∧ q.rc = rc)
    (hB : ∀ q ∈ kn', q.rc.dirty = true → (q.slot = i ∧ x = some q.rc) ∨ (q.slot ≠ i ∧ ∃ p ∈ kn, p.slot = q.slot ∧ p.rc = q.rc)) : RtF ((fa.map fun d => d.wri i x).map DS.syn) kn' := by
  refine ⟨fun d' e j rc hp hd => ?_, fun d' e q hq hd y hp => ?_, fun d' e => ?_⟩
  · obtain ⟨d1, e1, rfl⟩ := map_of e
    obtain ⟨d, e2, rfl⟩ := map_of e1
    rcases set_at (p3_syn hp) with ⟨e3, e4⟩ | ⟨e3, e4⟩
    · obtain ⟨q, hq, e5, e6⟩ := hx rc e4.symm hd
      exact ⟨q, hq, e5.trans e3.symm, e6⟩
    · obtain ⟨q, hq, e5, e6⟩ := h.a d e2 j rc (.inl e4) hd
      obtain ⟨q', hq', e7, e8⟩ := hA q hq (by rw [e6]; exact hd) (by rw [e5]; exact e3)
      exact ⟨q', hq', e7.trans e5, e8.trans e6⟩
  · obtain ⟨d1, e1, rfl⟩ := map_of e
    obtain ⟨d, e2, rfl⟩ := map_of e1
    rcases hB q hq hd with ⟨e3, e4⟩ | ⟨e3, p, hp', e4, e5⟩
    · rcases set_at (p3_syn hp) with ⟨_, e6⟩ | ⟨e6, _⟩
      · rw [e6, e4]
      · exact absurd e3 e6
    · rcases set_at (p3_syn hp) with ⟨e6, _⟩ | ⟨_, e6⟩
      · exact absurd e6 e3
      · rw [← e5]
        exact h.b d e2 p hp' (by rw [e5]; exact hd) y (.inl (by rw [e4]; exact e6))
  · obtain ⟨d1, e1, rfl⟩ := map_of e
    rfl
theorem learnN_at {t : Nat} {rc : Rc} {r : Int} {q : Kn} (h : q ∈ learnN t rc r kn) : (q.slot = t ∧ q.rc = rc) ∨ (q.slot ≠ t ∧ q ∈ kn) := by
  have hp : ∀ {q : Kn}, q ∈ putN kn ⟨t, rc, r, r, 1⟩ → (q.slot = t ∧ q.rc = rc) ∨ (q.slot ≠ t ∧ q ∈ kn) := fun {q} h => by
    unfold putN at h
    split at h
    · obtain ⟨p, hp, rfl⟩ := List.mem_map.mp h
      by_cases z : p.slot = t
      · rw [if_pos z]; exact .inl ⟨rfl, rfl⟩
      · rw [if_neg z]; exact .inr ⟨z, hp⟩
    · rename_i hn
      rcases List.mem_append.mp h with y | y
      · refine .inr ⟨fun z => hn (List.any_eq_true.mpr ⟨q, y, decide_eq_true z⟩), y⟩
      · rw [List.mem_singleton.mp y]; exact .inl ⟨rfl, rfl⟩
  unfold learnN at h
  split at h
  · split at h
    · unfold recN at h
      obtain ⟨p, hp, rfl⟩ := List.mem_map.mp h
      by_cases z : p.slot = t
      · rw [if_pos z]; exact .inl ⟨z, rfl⟩
      · rw [if_neg z]; exact .inr ⟨z, hp⟩
    · exact hp h
  · exact hp h
theorem learnN_old {t : Nat} {rc : Rc} {r : Int} {q : Kn} (h : q ∈ kn) (n : q.slot ≠ t) : q ∈ learnN t rc r kn := by
  have hp : q ∈ putN kn ⟨t, rc, r, r, 1⟩ := by
    unfold putN
    split
    · exact List.mem_map.mpr ⟨q, h, if_neg n⟩
    · exact List.mem_append_left _ h
  unfold learnN
  split
  · split
    · exact List.mem_map.mpr ⟨q, h, if_neg n⟩
    · exact hp
  · exact hp
theorem learnN_new {t : Nat} {rc : Rc} {r : Int} : ∃ q ∈ learnN t rc r kn, q.slot = t ∧ q.rc = rc := by
  have hp : ∃ q ∈ putN kn ⟨t, rc, r, r, 1⟩, q.slot = t ∧ q.rc = rc := by
    unfold putN
    split
    · rename_i h
      obtain ⟨p, hp, e⟩ := List.any_eq_true.mp h
      exact ⟨_, List.mem_map.mpr ⟨p, hp, if_pos (of_decide_eq_true e)⟩, rfl, rfl⟩
    · exact ⟨_, List.mem_append_right _ List.mem_cons_self, rfl, rfl⟩
  unfold learnN
  split
  · rename_i p e
    split
    · obtain ⟨p', ep, hp', es⟩ := atN_of (kn := kn) (i := t) (by rw [e]; rfl)
      exact ⟨{ p' with rc := rc }, List.mem_map.mpr ⟨p', hp', if_pos es⟩, es, rfl⟩
    · exact hp
  · exact hp
theorem RtF.learn (h : RtF fa kn) (i : Nat) (rc : Rc) (r : Int) : RtF ((fa.map fun d => d.wri i (some rc)).map DS.syn) (learnN i rc r kn) := by
  refine h.ws (fun q hq _ n => ⟨q, learnN_old hq n, rfl, rfl⟩) (fun rc' e _ => by cases e; exact learnN_new) (fun q hq _ => ?_)
  rcases learnN_at hq with ⟨e1, e2⟩ | ⟨e1, e2⟩
  · exact .inl ⟨e1, by rw [e2]⟩
  · exact .inr ⟨e1, q, e2, rfl, rfl⟩
theorem RtF.free (h : RtF fa kn) (j : Nat) : RtF ((fa.map fun d => d.wri j none).map DS.syn) (forgetN j kn) := by
  refine h.ws (fun q hq _ n => ⟨q, List.mem_filter.mpr ⟨hq, decide_eq_true n⟩, rfl, rfl⟩) (fun rc' e _ => by cases e) (fun q hq _ => ?_)
  obtain ⟨h1, h2⟩ := List.mem_filter.mp hq
  exact .inr ⟨of_decide_eq_true h2, q, h1, rfl, rfl⟩
theorem RtF.clean (h : RtF fa kn) {i : Nat} {rc : Rc} : RtF ((fa.map fun d => d.wri i (some rc.cln)).map DS.syn) (cleanN i kn) := by
  refine h.ws (fun q hq _ n => ⟨q, List.mem_map.mpr ⟨q, hq, if_neg n⟩, rfl, rfl⟩) (fun rc' e hd => by cases e; cases hd) (fun q hq hd => ?_)
  obtain ⟨p, hp, rfl⟩ := List.mem_map.mp hq
  by_cases z : p.slot = i
  · rw [if_pos z] at hd
    cases hd
  · rw [if_neg z]
    exact .inr ⟨z, p, hp, rfl, rfl⟩
/-- a clean record is written, and not synced -/
theorem RtF.wr (h : RtF fa kn) {i : Nat} {rc : Rc} {r : Int} (hc : rc.dirty = false) (hi : ∀ q ∈ kn, q.rc.dirty = true → q.slot ≠ i) : RtF (fa.map fun d => d.wri i (some rc)) (learnN i rc r kn) := by
  refine ⟨fun d' e j rc' hp hd => ?_, fun d' e q hq hd y hp => ?_, fun d' e => ?_⟩
  · obtain ⟨d, e1, rfl⟩ := map_of e
    rcases p3_wri hp with ⟨_, e2⟩ | hp
    · cases e2
      rw [hc] at hd; cases hd
    · obtain ⟨q, hq, e3, e4⟩ := h.a d e1 j rc' hp hd
      exact ⟨q, learnN_old hq (hi q hq (by rw [e4]; exact hd)), e3, e4⟩
  · obtain ⟨d, e1, rfl⟩ := map_of e
    rcases learnN_at hq with ⟨_, e2⟩ | ⟨e2, e3⟩
    · rw [e2, hc] at hd; cases hd
    · rcases p3_wri hp with ⟨e4, _⟩ | hp
      · exact absurd e4 e2
      · exact h.b d e1 q e3 hd y hp
  · obtain ⟨d, e1, rfl⟩ := map_of e
    show d.ls.length = (d.cs.set _ _).length
    rw [List.length_set]
    exact h.l d e1
theorem RtF.forget (h : RtF fa kn) {i : Nat} (hi : ∀ q ∈ kn, q.slot = i → q.rc.dirty = false) : RtF fa (forgetN i kn) := by
  refine h.same (fun q hq hd => ⟨q, List.mem_filter.mpr ⟨hq, decide_eq_true fun z => ?_⟩, rfl, rfl⟩) fun q hq _ => ⟨q, (List.mem_filter.mp hq).1, rfl, rfl⟩
  have := hi q hq z
  rw [hd] at this
  cases this
theorem RtF.use (h : RtF fa kn) {i : Nat} {r : Int} : RtF fa (useN i r kn) := by
  refine h.same (fun q hq _ => ?_) fun q hq _ => ?_
  · refine ⟨_, List.mem_map.mpr ⟨q, hq, rfl⟩, ?_⟩
    split <;> exact ⟨rfl, rfl⟩
  · obtain ⟨p, hp, e1, e2⟩ := useN_facts hq
    exact ⟨p, hp, e1.symm, e2.symm⟩
end
section
variable {s s1 : PS} {val : List Nat}
theorem Rt.begin (h : Rt s) (b t : Nat) : Rt { beginS b s with turn := t } := by
  unfold beginS
  split
  · exact ⟨h.sp, h.sl, h.f.use⟩
  · exact ⟨h.sp, h.sl, h.f⟩
theorem Rt.clnS (h : Rt s) (i : Nat) (rc : Rc) : Rt (clnS i rc s) := ⟨rfl, rfl, h.f.clean⟩
theorem Rt.many : ∀ (l : List Nat) {s s1 : PS} {u : Unit}, Gd s val → (∀ i ∈ l, ∃ q ∈ s.kn, q.slot = i) → Rt s → clMany l s = .ok u s1 → Rt s1
  | [], s, s1, u, _, _, h, e => by cases e; exact h
  | i :: r, s, s1, u, g, hl, h, e => by
    obtain ⟨q, hq, ei⟩ := hl i List.mem_cons_self
    have e' : (clSl i s).bind (fun _ a => clMany r a) = .ok u s1 := e
    rw [clSl0 g hq ei] at e'
    refine Rt.many r (g.clean hq ei) (fun j hj => ?_) (h.clnS i q.rc) e'
    obtain ⟨p, hp, ep⟩ := hl j (List.mem_cons_of_mem _ hj)
    have : (p.slot, p.rc.blk) ∈ SB (Kb.clnS i q.rc s).kn := by rw [show SB (Kb.clnS i q.rc s).kn = SB s.kn from cleanN_SB]; exact SB_mem hp
    obtain ⟨p', hp', e1, _⟩ := SB_of this
    exact ⟨p', hp', e1.trans ep⟩
theorem Rt.least (h : Rt s) (g : Gd s val) {n : Nat} {l : List Nat} (e : cleanLT n s = .ok l s1) : Rt s1 := by
  unfold cleanLT at e
  cases em : clMany ((dirtyN s.kn).take n) s with
  | pf b a => rw [em] at e; cases e
  | ok u a =>
    rw [em] at e
    cases e
    refine Rt.many _ g (fun i hi => ?_) h em
    obtain ⟨q, hq, _, eq⟩ := dirtyN_mem (List.mem_of_mem_take hi)
    exact ⟨q, hq, eq⟩
theorem Rt.take (h : Rt s) (g : Gd s val) {d : DS (Option Rc)} (hd : s.fa = some d) {i : Nat} (e : takeR s = .ok i s1) : Rt s1 := by
  unfold takeR at e
  cases et : takeO s.ms s.ch s.kn with
  | some j =>
    rw [et] at e
    cases e
    exact ⟨h.sp, h.sl, h.f.forget (takeO_cln g.ns et)⟩
  | none =>
    rw [et] at e
    obtain ⟨j, r, ed⟩ := takeO_none (g.wf.some1 d hd) et
    obtain ⟨q, hq, hqd, eq⟩ := dirtyN_mem (kn := s.kn) (i := j) (by rw [ed]; exact List.mem_cons_self)
    have e0 : (dirtyN s.kn).headD 0 = j := by rw [ed]; rfl
    dsimp only at e
    rw [e0, clSl0 g hq eq] at e
    cases e
    have h1 := h.clnS i q.rc
    refine ⟨h1.sp, h1.sl, h1.f.forget fun p hp ep => ?_⟩
    obtain ⟨p0, h0, rfl⟩ := List.mem_map.mp hp
    by_cases z : p0.slot = i
    · rw [if_pos z]
      rfl
    · rw [if_neg z] at ep
      exact absurd ep z
theorem Rt.choose (h : Rt s) (g : Gd s val) {own : Option Nat} {ts : Option Nat × Option Nat} (e : chooseR own s = .ok ts s1) : Rt s1 := by
  unfold chooseR at e
  split at e
  · cases e; exact h
  · rename_i hf
    split at e
    · cases e; exact h
    · split at e
      · cases e; exact h
      · split at e
        · cases e; exact h
        · cases et : takeR s with
          | pf b a => rw [et] at e; cases e
          | ok t a =>
            rw [et] at e
            cases e
            cases hd : s.fa with
            | none => exact absurd hd hf
            | some d => exact h.take g hd et
theorem Rt.words (h : Rt s) (g : Gd s val) (hw : WrOk s) {b : Nat} {rc : Rc} {tg st : Option Nat} {u : Unit}
    (cs : (s.fa = none ∧ tg = none ∧ st = none ∧ slotN s.kn b = none) ∨ (s.fa.isSome = true ∧ V.str s.wr = V.str "through" ∧ tg = slotN s.kn b ∧ st = none) ∨ (s.fa.isSome = true ∧ V.str s.wr = V.str "around" ∧ tg = none ∧ st = slotN s.kn b) ∨
      (s.fa.isSome = true ∧ V.str s.wr = V.str "back" ∧ ∃ t, tg = some t ∧ t < s.ms ∧ ((slotN s.kn b = some t ∧ st = none) ∨ ((∀ q ∈ s.kn, q.slot ≠ t) ∧ st = slotN s.kn b)))) (e : wordsR rc tg st (rcpOf s) s = .ok u s1) : Rt s1 := by
  have h0 := g.lf
  have key0 : ∀ zs, zs = TH ∨ zs = AR → wordsR rc none none zs s = .ok u s1 → Rt s1 := fun zs hz ez => by
    rcases hz with rfl | rfl
    · rw [w_th0 h0] at ez
      cases ez
      exact ⟨rfl, rfl, h.f.syn⟩
    · rw [w_ar0 h0] at ez
      cases ez
      exact ⟨rfl, rfl, h.f.syn⟩
  rw [rcp_of g] at e
  rcases cs with ⟨ef, rfl, rfl, es⟩ | ⟨ef, ew, rfl, rfl⟩ | ⟨ef, ew, rfl, rfl⟩ | ⟨ef, ew, t, rfl, ht, ho⟩
  · by_cases ea : V.str s.wr = V.str "around"
    · rw [if_pos ea] at e
      exact key0 _ (.inr rfl) e
    · rw [if_neg ea, if_neg (by rw [ef]; simp)] at e
      exact key0 _ (.inl rfl) e
  · rw [if_neg (by rw [ew]; exact fun z => absurd (V.str.inj z) (by decide +kernel)), if_neg (by rw [ew]; exact fun z => absurd (V.str.inj z.1) (by decide +kernel))] at e
    cases es : slotN s.kn b with
    | none =>
      rw [es] at e
      exact key0 _ (.inl rfl) e
    | some i =>
      rw [es, w_th1 h0] at e
      cases e
      exact ⟨rfl, rfl, h.f.learn i rc _⟩
  · rw [if_pos ew] at e
    cases es : slotN s.kn b with
    | none =>
      rw [es] at e
      exact key0 _ (.inr rfl) e
    | some i =>
      rw [es, w_ar1 h0] at e
      cases e
      exact ⟨rfl, rfl, h.f.free i⟩
  · rw [if_neg (by rw [ew]; exact fun z => absurd (V.str.inj z) (by decide +kernel)), if_pos ⟨ew, ef⟩] at e
    cases es : st with
    | none =>
      rw [es, w_bk0 h0] at e
      cases e
      exact ⟨h.sp, h.sl, (h.f.learn t rc _).syn⟩
    | some j =>
      rw [es, w_bk1 h0] at e
      cases e
      refine ⟨h.sp, h.sl, ?_⟩
      have := (h.f.learn t rc ((s.reqs : Int) - 1)).free j
      refine this.same (fun q hq _ => ⟨q, List.mem_filter.mpr ⟨hq, (List.mem_filter.mp hq).2⟩, rfl, rfl⟩) fun q hq _ => ⟨q, (List.mem_filter.mp hq).1, rfl, rfl⟩
theorem Rt.write (h : Rt s) (g : Gd s val) (hw : WrOk s) {b v : Nat} {hit : Bool} (hb : b < s.nb) (e : writeR b v s = .ok hit s1) : Rt s1 := by
  obtain ⟨g1, eb⟩ := begin0 g b (s.turn + 1)
  unfold writeR at e
  cases ec : chooseR (slotN s.kn b) { beginS b s with turn := s.turn + 1 } with
  | pf bb a => rw [ec] at e; cases e
  | ok ts s2 =>
    rw [ec, Rs.bind_ok] at e
    obtain ⟨q1, q2, q3, q4, q5, q6, q7, q8, q9⟩ := beginS_same b s
    have hw1 : WrOk { beginS b s with turn := s.turn + 1 } := by
      unfold WrOk
      rw [show ({ beginS b s with turn := s.turn + 1 } : PS).wr = s.wr from q5]
      exact hw
    have r2 := (h.begin b (s.turn + 1)).choose g1 ec
    obtain ⟨tg, st, s2', e2, g2, ⟨sl, fa, kn, ex⟩, hf, l2, cs⟩ := choose0 g1 hw1 b
    rw [show slotN ({ beginS b s with turn := s.turn + 1 } : PS).kn b = slotN s.kn b from eb, ec] at e2
    cases e2
    have en : s2.nb = s.nb := by rw [ex]; exact q2
    have ew : s2.wr = s.wr := by rw [ex]; exact q5
    have hw2 : WrOk s2 := by unfold WrOk; rw [ew]; exact hw
    cases ew2 : wordsR (recS b v s.turn s2) tg st (rcpOf s2) s2 with
    | pf bb a => rw [ew2] at e; cases e
    | ok u s3 =>
      rw [ew2, Rs.bind_ok] at e
      obtain ⟨s3', e3, g3, n3, w3, f3, l3⟩ := words0 (rc := recS b v s.turn s2) (v := v) g2 hw2 (by rw [en]; exact hb) rfl rfl rfl cs
      rw [ew2] at e3
      cases e3
      have r3 := r2.words g2 hw2 cs ew2
      unfold tailW at e
      split at e
      · cases ec3 : cleanLT (((dirtyN s3.kn).length : Int) - s3.bd).toNat s3 with
        | pf bb a => rw [ec3] at e; cases e
        | ok l a =>
          rw [ec3] at e
          cases e
          have r4 := r3.least g3 ec3
          exact ⟨r4.sp, r4.sl, r4.f⟩
      · cases e
        exact ⟨r3.sp, r3.sl, r3.f⟩
theorem RtF.rd {fa : Option (DS (Option Rc))} {kn : List Kn} (h : RtF fa kn) : RtF (fa.map DS.rd) kn := by
  refine ⟨fun d' e i rc hp hd => ?_, fun d' e q hq hd x hp => ?_, fun d' e => ?_⟩
  · obtain ⟨d, e1, rfl⟩ := map_of e
    exact h.a d e1 i rc hp hd
  · obtain ⟨d, e1, rfl⟩ := map_of e
    exact h.b d e1 q hq hd x hp
  · obtain ⟨d, e1, rfl⟩ := map_of e
    exact h.l d e1
theorem Rt.read (h : Rt s) (g : Gd s val) {b a : Nat} (hb : b < s.nb) (e : readR b s = .ok a s1) : Rt s1 := by
  obtain ⟨g1, eb⟩ := begin0 g b (beginS b s).turn
  obtain ⟨q1, q2, q3, q4, q5, q6, q7, q8, q9⟩ := beginS_same b s
  have r1 := h.begin b (beginS b s).turn
  have g2 : Gd { beginS b s with sl := s.sl.rd } val := g1.same rfl (by show s.sl.cs = (beginS b s).sl.cs; rw [q7]) rfl rfl rfl rfl rfl rfl
  have r2 : Rt { beginS b s with sl := s.sl.rd } := ⟨h.sp, h.sl, r1.f⟩
  unfold readR at e
  split at e
  · cases e
    refine ⟨?_, ?_, ?_⟩
    · show (beginS b s).sl.ps = []
      rw [q7]; exact h.sp
    · show (beginS b s).sl.ls = (beginS b s).sl.cs
      rw [q7]; exact h.sl
    · show RtF (s.fa.map DS.rd) (beginS b s).kn
      rw [← q8]
      exact r1.f.rd
  · split at e
    · rename_i hk
      obtain ⟨d, hd⟩ := Option.isSome_iff_exists.mp hk.2
      have hd' : ({ beginS b s with sl := s.sl.rd } : PS).fa = some d := by show (beginS b s).fa = _; rw [q8]; exact hd
      unfold keepR at e
      cases et : takeR { beginS b s with sl := s.sl.rd } with
      | pf bb x => rw [et] at e; cases e
      | ok i s3 =>
        rw [et, Rs.bind_ok] at e
        have r3 := r2.take g2 hd' et
        obtain ⟨i1, s3', e3, g3, _, gone, _, _, _, _⟩ := take0 g2 hd'
        rw [et] at e3
        cases e3
        rw [wRec0 g3.lf, Rs.bind_ok] at e
        cases e
        exact ⟨r3.sp, r3.sl, r3.f.wr rfl fun q hq _ => gone q hq⟩
    · cases e
      exact r2
end
/-! ### pairs that rest: new, settled, forgetting -/
section
variable {s s1 : PS} {val : List Nat}
theorem initRt (rcs : List (List Str)) (nb ns : Nat) (wr rd ch : Str) (bd : Int) : Rt (initR rcs nb ns wr rd ch bd) := by
  have key : ∀ {i : Nat} {x : Option Rc}, P3 (⟨List.replicate ns none, List.replicate ns none, [], 0, 0, 0⟩ : DS (Option Rc)) i x → x = none := fun {i x} hp => by
    rcases hp with y | y | y
    · exact (List.mem_replicate.mp (List.mem_of_getElem? y)).2
    · exact (List.mem_replicate.mp (List.mem_of_getElem? y)).2
    · cases y
  refine ⟨rfl, rfl, ⟨fun d e i rc hp hd => ?_, fun d e q hq => (by cases hq), fun d e => ?_⟩⟩
  · cases e
    have := key hp
    cases this
  · cases e
    rfl
theorem Rt.settle (h : Rt s) (g : Gd s val) {u : Unit} (e : settleR s = .ok u s1) : Rt s1 := by
  unfold settleR at e
  rw [ySlow0 g.lf, Rs.bind_ok, yFast0 (by exact g.lf)] at e
  cases e
  exact ⟨rfl, rfl, h.f.syn⟩
theorem Rt.forg (h : Rt s) (g : Gd s val) (b : Nat) : Rt (forgS b s).2 := by
  unfold forgS
  cases es : slotN s.kn b with
  | none => exact h
  | some i =>
    dsimp only
    by_cases e : ((atN s.kn i).map fun q => q.rc.dirty) = some false
    · rw [if_pos e]
      refine ⟨h.sp, h.sl, h.f.forget fun q hq eq => ?_⟩
      rw [← eq, atN_is g.ns hq] at e
      exact Option.some.inj e
    · rw [if_neg e]
      exact h
end
/-! ### tuples of words that stand at addresses -/
def TupsAt (H : Hp) (ts : List Addr) (zss : List (List Str)) : Prop := ts.length = zss.length ∧ ∀ (i : Nat) (t : Addr) (z : List Str), ts[i]? = some t → zss[i]? = some z → H t = some (.tup (sV z))
theorem TupsAt.keep {H H' : Hp} {S : List Addr} {ts : List Addr} {zss : List (List Str)} (h : TupsAt H ts zss) (f : Fr S H H') (n : ∀ b ∈ S, ∀ xs, H b ≠ some (.tup xs)) : TupsAt H' ts zss := by
  obtain ⟨h1, h2⟩ := h
  exact ⟨h1, fun i t z a b => f _ _ (h2 i t z a b) fun hb => n t hb _ (h2 i t z a b)⟩
def TLAt (H : Hp) (l : Addr) (zss : List (List Str)) : Prop := ∃ ts : List Addr, H l = some (.lst (ts.map V.ref)) ∧ TupsAt H ts zss
theorem TLAt.keep {H H' : Hp} {S : List Addr} {l : Addr} {zss : List (List Str)} (h : TLAt H l zss) (f : Fr S H H') (n : ∀ b ∈ S, ∀ xs, H b ≠ some (.tup xs)) (nl : l ∉ S) : TLAt H' l zss := by
  obtain ⟨ts, h1, h2⟩ := h
  exact ⟨ts, f _ _ h1 nl, h2.keep f n⟩
theorem ref_at {ts : List Addr} {i : Nat} {x : V} (h : (ts.map V.ref)[i]? = some x) : ∃ t, x = .ref t ∧ ts[i]? = some t := by
  rw [List.getElem?_map] at h
  cases e : ts[i]? with
  | none => rw [e] at h; cases h
  | some u =>
    rw [e] at h
    exact ⟨u, (Option.some.inj h).symm, rfl⟩
theorem TupsAt.four {H : Hp} {a b c d : Addr} {za zb zc zd : List Str} (ha : H a = some (.tup (sV za))) (hb : H b = some (.tup (sV zb))) (hc : H c = some (.tup (sV zc))) (hd : H d = some (.tup (sV zd))) : TupsAt H [a, b, c, d] [za, zb, zc, zd] := by
  refine ⟨rfl, fun i t z h1 h2 => ?_⟩
  match i, h1, h2 with
  | 0, h1, h2 => cases h1; cases h2; exact ha
  | 1, h1, h2 => cases h1; cases h2; exact hb
  | 2, h1, h2 => cases h1; cases h2; exact hc
  | 3, h1, h2 => cases h1; cases h2; exact hd
  | i + 4, h1, h2 => simp at h1
def spSafeL : Sp := fun vs H Q _ => vs = [] ∧ ∀ (l : Addr) (H' : Hp), H l = none → Fr [] H H' → TLAt H' l SAFE → Q (.ref l) H'
section
variable {P : Program} {w : World} {K : PySem.W.Frag} {mg : Str → Option Value} {base : Heap}
theorem ok_safeL (T : Gx K mg) : FnOk P w K mg base CX0 1 T.f__law_safe T.fd__law_safe [] spSafeL := by
  refine T.F__law_safe.ok sc__law_safe (fun vs H Q E h => ?_) (fun cdv A outer s H vs Q E hr h => ?_)
  · obtain ⟨rfl, _⟩ := h
    rfl
  · obtain ⟨rfl, k⟩ := h
    refine ⟨_, (pss_cons (ps_set (i := 0) sc__law_safe.nd rfl (.inl rfl) (pe_lst (pa_cons (pe_tup (pa_cons pe_str (pa_cons pe_str (pa_cons pe_str (pa_cons pe_str (pa_cons pe_str pa_nil)))))) (pa_cons (pe_tup (pa_cons pe_str (pa_cons pe_str (pa_cons pe_str (pa_cons pe_str (pa_cons pe_str pa_nil)))))) pa_nil))))
      (pss_cons (ps_expr (pe_bm PySem.F.plainAttrs_list PySem.F.slot_list_append PySem.F.type_list_append mt_append (pv 0) (pa_cons (pe_tup (pa_cons pe_str (pa_cons pe_str (pa_cons pe_str (pa_cons pe_str (pa_cons pe_str pa_nil)))))) pa_nil)))
      (pss_one (ps_ret (pe_op op_cat (pv 0) (pe_lst (pa_cons (pe_tup (pa_cons pe_str (pa_cons pe_str (pa_cons pe_str (pa_cons pe_str pa_nil))))) pa_nil))))))), ?_⟩
    refine ⟨sz_le (by simp), fun a ha => ?_⟩
    refine ⟨sz_le (by simp), fun b hb => ?_⟩
    refine ⟨sz_le (by simp), fun l hl => ?_⟩
    refine ⟨_, rfl, .inl ⟨rfl, _, SqL.of upd_same⟩, sz_le (by simp), fun c hc => ?_⟩
    refine ⟨l, _, _, rfl, rfl, (upd_ne (free_upd hc).2.symm).trans upd_same, sz_lt (by simp), ?_⟩
    refine ⟨_, rfl, sz_le (by simp), fun d hd => ?_⟩
    refine ⟨sz_le (by simp), fun m hm => ?_⟩
    have ba := (free_upd hb).2
    obtain ⟨hl1, lb⟩ := free_upd hl
    obtain ⟨hl2, la⟩ := free_upd hl1
    obtain ⟨hc1, cl⟩ := free_upd hc
    obtain ⟨hc2, cb⟩ := free_upd hc1
    obtain ⟨hc3, ca⟩ := free_upd hc2
    obtain ⟨hd1, dl⟩ := free_upd hd
    obtain ⟨hd2, dc⟩ := free_upd hd1
    obtain ⟨hd3, _⟩ := free_upd hd2
    obtain ⟨hd4, db⟩ := free_upd hd3
    obtain ⟨hd5, da⟩ := free_upd hd4
    obtain ⟨hm1, md⟩ := free_upd hm
    obtain ⟨hm2, ml⟩ := free_upd hm1
    obtain ⟨hm3, mc⟩ := free_upd hm2
    obtain ⟨hm4, _⟩ := free_upd hm3
    obtain ⟨hm5, mb⟩ := free_upd hm4
    obtain ⟨hm6, ma⟩ := free_upd hm5
    refine ⟨l, m, _, _, rfl, rfl, (upd_ne ml.symm).trans ((upd_ne dl.symm).trans upd_same), upd_same, sz_le (by simp), fun q hq => ?_⟩
    obtain ⟨hq1, qm⟩ := free_upd hq
    obtain ⟨hq2, qd⟩ := free_upd hq1
    obtain ⟨hq3, ql⟩ := free_upd hq2
    obtain ⟨hq4, qc⟩ := free_upd hq3
    obtain ⟨hq5, _⟩ := free_upd hq4
    obtain ⟨hq6, qb⟩ := free_upd hq5
    obtain ⟨hq7, qa⟩ := free_upd hq6
    refine k q _ hq7 (fun x o e _ => ?_) ⟨[a, b, c, d], upd_same, TupsAt.four ?_ ?_ ?_ ?_⟩
    · have na := ne_of_none e ha
      have nb := ne_of_none e (free_upd hb).1
      have nl := ne_of_none e hl2
      have nc := ne_of_none e hc3
      have nd := ne_of_none e hd5
      have nm := ne_of_none e hm6
      have nq := ne_of_none e hq7
      rw [upd_ne nq, upd_ne nm, upd_ne nd, upd_ne nl, upd_ne nc, upd_ne nl, upd_ne nb, upd_ne na]
      exact e
    · rw [upd_ne qa.symm, upd_ne ma.symm, upd_ne da.symm, upd_ne la.symm, upd_ne ca.symm, upd_ne la.symm, upd_ne ba.symm, upd_same]
      rfl
    · rw [upd_ne qb.symm, upd_ne mb.symm, upd_ne db.symm, upd_ne lb.symm, upd_ne cb.symm, upd_ne lb.symm, upd_same]
      rfl
    · rw [upd_ne qc.symm, upd_ne mc.symm, upd_ne dc.symm, upd_ne cl, upd_same]
      rfl
    · rw [upd_ne qd.symm, upd_ne md.symm, upd_same]
      rfl
end
/-- rules drawn: a tuple of three words and a bound -/
def WordIn (z : Str) (W : List V) : Prop := inV (.str z) W = true
instance (z : Str) (W : List V) : Decidable (WordIn z W) := by
  unfold WordIn
  infer_instance
def spRules : Sp := fun vs H Q _ => ∃ (r : Addr) (lim : Nat), vs = [.ref r, .int (lim : Int)] ∧ Rnd H r ∧ lim ≤ 8 ∧ ∀ (t : Addr) (w y c : Str) (n : Nat) (H' : Hp), H t = none → Fr [r] H H' → Rnd H' r → H' t = some (.tup [.str w, .str y, .str c, .int (n : Int)]) →
  WordIn w W0 → WordIn y W1 → WordIn c W2 → n ≤ lim → Q (.ref t) H'
theorem Rnd.fresh {H H' : Hp} {r p : Addr} (f : Fr [r] H H') (R : Rnd H' r) (h : H' p = none) : H p = none := some_of f (fun b hb => by
  obtain ⟨a, c, ns, e⟩ := R
  rw [List.mem_singleton.mp hb]
  exact ⟨_, e⟩) h
theorem words_at {W : List V} (A : List Str) (h : ∀ z ∈ A, WordIn z W) {i : Nat} (hi : i < A.length) : ∃ z, atI (A.map V.str) (i : Int) = some (.str z) ∧ WordIn z W := by
  refine ⟨A[i], atI_nat ?_, h _ (List.getElem_mem hi)⟩
  rw [List.getElem?_map, List.getElem?_eq_getElem hi]
  rfl
section
variable {P : Program} {w : World} {K : PySem.W.Frag} {mg : Str → Option Value} {base : Heap}
theorem ok_rules (T : Gx K mg) : FnOk P w K mg base CX0 2 T.f__law_rules T.fd__law_rules ["_law_d", "_law_limit"] spRules := by
  have G__law_below : FnOk P w K mg base CX0 1 T.f__law_below T.fd__law_below ["_law_d", "_law_limit"] spBelow := ok_below T
  refine T.F__law_rules.ok sc__law_rules (fun vs H Q E h => ?_) (fun cdv A outer s H vs Q E hr h => ?_)
  · obtain ⟨r, lim, rfl, _⟩ := h
    rfl
  · obtain ⟨r, lim, rfl, hR, hl, k⟩ := h
    refine ⟨_, (pss_cons (ps_par (i := 2) (j := 3) (by rfl) sc__law_rules.nd rfl rfl (by decide) rfl rfl (pa_cons (pe_ix ix_list (pe_lst (pa_cons pe_str (pa_cons pe_str (pa_cons pe_str (pa_cons pe_str pa_nil))))) (pe_call G__law_below (hr.mono (by first | decide | omega)) (by rfl) T.g__law_below T.F__law_below.kp (b__law_below T) .nil pass0 (pa_cons (pv 0) (pa_cons pe_int pa_nil))) (fun _ _ => rfl)) (pa_cons (pe_ix ix_list (pe_lst (pa_cons pe_str (pa_cons pe_str pa_nil))) (pe_call G__law_below (hr.mono (by first | decide | omega)) (by rfl) T.g__law_below T.F__law_below.kp (b__law_below T) .nil pass0 (pa_cons (pv 0) (pa_cons pe_int pa_nil))) (fun _ _ => rfl)) pa_nil)) (by rfl))
      (pss_one (ps_ret (pe_tup (pa_cons (pv 2) (pa_cons (pv 3) (pa_cons (pe_ix ix_list (pe_lst (pa_cons pe_str (pa_cons pe_str (pa_cons pe_str pa_nil)))) (pe_call G__law_below (hr.mono (by first | decide | omega)) (by rfl) T.g__law_below T.F__law_below.kp (b__law_below T) .nil pass0 (pa_cons (pv 0) (pa_cons pe_int pa_nil))) (fun _ _ => rfl)) (pa_cons (pe_call G__law_below (hr.mono (by first | decide | omega)) (by rfl) T.g__law_below T.F__law_below.kp (b__law_below T) .nil pass0 (pa_cons (pv 0) (pa_cons (pe_op op_add (pv 1) pe_int) pa_nil))) pa_nil)))))))), ?_⟩
    refine ⟨sz_le (by simp), fun p hp => ?_⟩
    have R1 := hR.keep (S := []) (Fr.new (o := .lst ((["through", "back", "back", "around"] : List Str).map V.str)) hp) (by simp)
    have rp : p ≠ r := fun e => by
      obtain ⟨a, b, ns, e2⟩ := hR
      rw [e, e2] at hp
      cases hp
    refine ⟨_, rfl, r, 4, rfl, R1, by decide, by decide, fun z1 H2 hz1 f2 R2 => ?_⟩
    obtain ⟨w1, a1, m1⟩ := words_at (W := W0) ["through", "back", "back", "around"] (by decide +kernel) hz1
    refine ⟨p, _, (z1 : Int), .str w1, rfl, rfl, SqL.of (f2 _ _ upd_same (by simpa using rp)), a1, ?_⟩
    have f02 : Fr [r] H H2 := (Fr.new hp).trans f2
    refine ⟨sz_le (by simp), fun q hq => ?_⟩
    have R3 := R2.keep (S := []) (Fr.new (o := .lst ((["keep", "pass"] : List Str).map V.str)) hq) (by simp)
    have rq : q ≠ r := fun e => by
      obtain ⟨a, b, ns, e2⟩ := R2
      rw [e, e2] at hq
      cases hq
    refine ⟨_, rfl, r, 2, rfl, R3, by decide, by decide, fun z2 H4 hz2 f4 R4 => ?_⟩
    obtain ⟨w2, a2, m2⟩ := words_at (W := W1) ["keep", "pass"] (by decide +kernel) hz2
    refine ⟨q, _, (z2 : Int), .str w2, rfl, rfl, SqL.of (f4 _ _ upd_same (by simpa using rq)), a2, _, _, rfl, ?_⟩
    have f04 : Fr [r] H H4 := (f02.trans (Fr.new hq)).trans f4
    refine ⟨_, rfl, _, rfl, sz_le (by simp), fun q2 hq2 => ?_⟩
    have R5 := R4.keep (S := []) (Fr.new (o := .lst ((["used", "came", "rare"] : List Str).map V.str)) hq2) (by simp)
    have rq2 : q2 ≠ r := fun e => by
      obtain ⟨a, b, ns, e2⟩ := R4
      rw [e, e2] at hq2
      cases hq2
    refine ⟨_, rfl, r, 3, rfl, R5, by decide, by decide, fun z3 H6 hz3 f6 R6 => ?_⟩
    obtain ⟨w3, a3, m3⟩ := words_at (W := W2) ["used", "came", "rare"] (by decide +kernel) hz3
    refine ⟨q2, _, (z3 : Int), .str w3, rfl, rfl, SqL.of (f6 _ _ upd_same (by simpa using rq2)), a3, ?_⟩
    have f06 : Fr [r] H H6 := (f04.trans (Fr.new hq2)).trans f6
    refine ⟨_, rfl, _, rfl, _, _, rfl, rfl, r, lim + 1, rfl, R6, by omega, by omega, fun z4 H7 hz4 f7 R7 => ?_⟩
    refine ⟨sz_le (by simp), fun t ht => ?_⟩
    have f07 : Fr [r] H H7 := f06.trans f7
    exact k t w1 w2 w3 z4 _ (R7.fresh f07 ht) (f07.trans (Fr.new ht)) (R7.keep (S := []) (Fr.new ht) (by simp)) upd_same m1 m2 m3 (by omega)
end
/-! ### a new pair, by rules and recipes that a law has -/
def OkRs (z : List (List Str)) : Prop := ∃ za zb zc zd, z = [za, zb, zc, zd] ∧ PV (AS 0) za ∧ PV (AS 1) zb ∧ PV (AS 2) zc ∧ PV (AS 3) zd
theorem safeOk : OkRs SAFE := ⟨_, _, _, _, rfl, by decide +kernel, by decide +kernel, by decide +kernel, by decide +kernel⟩
def spLPair (c : Cl) : Sp := fun vs H Q _ => ∃ (rt lo : Addr) (nb ns : Nat) (wr rd ch : Str) (bd : Nat) (rcs : List (List Str)), vs = [.int (nb : Int), .int (ns : Int), .ref rt, .ref lo] ∧ 1 ≤ nb ∧ nb ≤ 16 ∧ 1 ≤ ns ∧ ns ≤ 8 ∧ H rt = some (.tup [.str wr, .str rd, .str ch, .int (bd : Int)]) ∧ WordIn wr W0 ∧ WordIn rd W1 ∧ WordIn ch W2 ∧ bd ≤ 8 ∧ TLAt H lo rcs ∧ OkRs rcs ∧
  ∀ (H' : Hp) (P : Pp), Fr [] H H' → PairAt c H' P [] (initR rcs nb ns wr rd ch (bd : Int)) → Gw [] H (P.own []) → H P.ru = none → H P.re = none → Q (.ref P.p) H'
section
variable {P : Program} {w : World} {K : PySem.W.Frag} {mg : Str → Option Value} {base : Heap}
theorem ok_lpair (T : Gx K mg) : FnOk P w K mg base CX0 8 T.f__law_pair T.fd__law_pair ["_law_blocks", "_law_slots", "_law_rules_here", "_law_orders"] (spLPair (clT T)) := by
  have G_Recipes___init__ : FnOk P w K mg base CX0 2 T.f_Recipes___init__ T.fd_Recipes___init__ ["self", "through", "back", "around", "clean"] (spQInit T.C_Recipes) := ok_qInit T
  have G_Rules___init__ : FnOk P w K mg base CX0 3 T.f_Rules___init__ T.fd_Rules___init__ ["self", "writing", "reading", "choice", "bound"] (spRInit T.C_Rules) := ok_rInit T
  have G_Pair___init__ : FnOk P w K mg base CX0 6 T.f_Pair___init__ T.fd_Pair___init__ ["self", "blocks", "slots", "rules", "recipes"] (spPInitR (clT T)) := ok_pInitR T
  obtain ⟨_, kb_Pair⟩ := T.F_Pair___init__.kbinds0 (ps := ["self", "blocks", "slots", "rules", "recipes"]) 4 ["recipes"] [] (fun vs mz zs => vs ++ zs) (by simp) (by simp) (fun a _ b => a.append b)
    (fun D doc pm an cdv ct us mv ws hu hm hw => match us, hu, mv, hm, ws, hw with | [_, _, _, _], _, [], _, [_], _ => rfl)
  refine T.F__law_pair.ok sc__law_pair (fun vs H Q E h => ?_) (fun cdv A outer s H vs Q E hr h => ?_)
  · obtain ⟨rt, lo, nb, ns, wr, rd, ch, bd, rcs, rfl, _⟩ := h
    rfl
  · obtain ⟨rt, lo, nb, ns, wr, rd, ch, bd, rcs, rfl, hb1, hb2, hs1, hs2, hrt, hw0, hw1, hw2, hbd, hlo, hok, k⟩ := h
    refine ⟨_, (pss_cons (ps_set (i := 4) sc__law_pair.nd rfl (.inl rfl) (pe_make T.M_Recipes___init__ G_Recipes___init__ (hr.mono (by first | decide | omega)) (by rfl) T.gC_Recipes (b_Recipes___init__ T) .nil pass0 (pa_cons (pe_ix ix_list (pv 3) pe_int (fun _ _ => rfl)) (pa_cons (pe_ix ix_list (pv 3) pe_int (fun _ _ => rfl)) (pa_cons (pe_ix ix_list (pv 3) pe_int (fun _ _ => rfl)) (pa_cons (pe_ix ix_list (pv 3) pe_int (fun _ _ => rfl)) pa_nil))))))
      (pss_one (ps_ret (pe_makeK T.M_Pair___init__ G_Pair___init__ (hr.mono (by first | decide | omega)) (by rfl) T.gC_Pair kb_Pair pass0 (pa_cons (pv 0) (pa_cons (pv 1) (pa_cons (pe_make T.M_Rules___init__ G_Rules___init__ (hr.mono (by first | decide | omega)) (by rfl) T.gC_Rules (b_Rules___init__ T) .nil pass0 (pa_cons (pe_ix ix_tup (pv 2) pe_int (fun _ _ => rfl)) (pa_cons (pe_ix ix_tup (pv 2) pe_int (fun _ _ => rfl)) (pa_cons (pe_ix ix_tup (pv 2) pe_int (fun _ _ => rfl)) (pa_cons (pe_ix ix_tup (pv 2) pe_int (fun _ _ => rfl)) pa_nil))))) pa_nil))) (pk_cons (pv 4) pk_nil))))), ?_⟩
    obtain ⟨za, zb, zc, zd, rfl, o0, o1, o2, o3⟩ := hok
    obtain ⟨ts, elo, tl, tg⟩ := hlo
    obtain ⟨a, b, c, d, rfl⟩ : ∃ a b c d, ts = [a, b, c, d] := match ts, tl with
      | [a, b, c, d], _ => ⟨a, b, c, d, rfl⟩
    have ha := tg 0 a za rfl rfl
    have hb := tg 1 b zb rfl rfl
    have hc := tg 2 c zc rfl rfl
    have hd := tg 3 d zd rfl rfl
    refine ⟨_, rfl, lo, _, (0 : Int), .ref a, rfl, rfl, SqL.of elo, rfl, _, rfl, lo, _, (1 : Int), .ref b, rfl, rfl, SqL.of elo, rfl, _, rfl, lo, _, (2 : Int), .ref c, rfl, rfl, SqL.of elo, rfl, _, rfl, lo, _, (3 : Int), .ref d, rfl, rfl, SqL.of elo, rfl, ?_⟩
    intro re dx hre hdx hpd
    refine mk_rec hre hdx hpd ha hb hc hd o0 o1 o2 o3 fun H1 f1 hR => ⟨rfl, ?_⟩
    have hrt1 := f1 _ _ hrt (by simp)
    refine ⟨_, rfl, _, rfl, _, rfl, rt, _, (0 : Int), _, rfl, rfl, SqT.of hrt1, rfl, _, rfl, rt, _, (1 : Int), _, rfl, rfl, SqT.of hrt1, rfl, _, rfl, rt, _, (2 : Int), _, rfl, rfl, SqT.of hrt1, rfl, _, rfl, rt, _, (3 : Int), _, rfl, rfl, SqT.of hrt1, rfl, ?_⟩
    intro ru rx hru hrx hrn
    refine ⟨ru, rx, _, _, _, (bd : Int), rfl, upd_same, ⟨wr, rfl, hw0⟩, ⟨rd, rfl, hw1⟩, ⟨ch, rfl, hw2⟩, by omega, by omega, fun H7 f7 e7 => ⟨rfl, ?_⟩⟩
    have g7 := made_fr hru hrx f7
    have R7 := hR.fr g7 (by simp) (by simp)
    refine ⟨_, rfl, rfl, rfl, fun p px hp hpx hne => ?_⟩
    have pru : p ≠ ru := (ne_of_none e7 hp).symm
    have f8 : Fr [] H7 (upd (upd H7 px (.own p)) p (.ins T.C_Pair px [])) := (Fr.new hpx).trans (Fr.new (by rw [upd_ne hne.symm]; exact hp))
    obtain ⟨oR, eR⟩ := R7.ex
    refine ⟨p, px, ru, rx, re, nb, ns, wr, rd, ch, (bd : Int), [za, zb, zc, zd], rfl, R7.fr f8 (by simp) (by simp), ne_of_none eR hp, hb1, hb2, hs1, hs2, upd_same, f8 _ _ e7 (by simp), pru, fun H8 Pr eP eRu f9 eRe hP gw => ⟨rfl, ?_⟩⟩
    have g8 := made_fr hp hpx f9
    have F0 : Fr [] H H7 := f1.trans g7
    have e2 : H ru = none := by
      cases e : H ru with
      | none => rfl
      | some o => rw [f1 _ _ e (by simp)] at hru; cases hru
    show Q (.ref p) H8
    rw [← eP]
    refine k H8 Pr (F0.trans g8) hP (fun y hy => .inr ?_) (by rw [eRu]; exact e2) (by rw [eRe]; exact hre)
    rcases gw y hy with z | z
    · rw [List.mem_singleton.mp z]
      exact (F0.nah hp).resolve_left (by simp)
    · exact (F0.nah ((f8.nah z).resolve_left (by simp))).resolve_left (by simp)
end
/-- what a call lets out, where nothing leaves it -/
theorem passF {P : Program} {w : World} {X : Cx} : Passes (L2N.CX P w) X (fun _ _ _ => False) := fun _ _ _ _ _ _ _ h => by
  obtain ⟨_, _, _, _, _, _, _, _, _, _, _, _, h⟩ := h
  exact h.elim
/-! ### what a law holds: the drawings, lists and tuples of its own -/
structure LW (H : Hp) (r : Addr) (os ts : List (Addr × List V)) : Prop where
  rnd : Rnd H r
  lst : ∀ p ∈ os, H p.1 = some (.lst p.2)
  tup : ∀ p ∈ ts, H p.1 = some (.tup p.2)
  nr : ∀ p ∈ os, p.1 ≠ r
theorem Rnd.ne {H : Hp} {r p : Addr} (R : Rnd H r) (h : H p = none) : p ≠ r := fun e => by
  obtain ⟨a, b, ns, e2⟩ := R
  rw [e, e2] at h
  cases h
section
variable {H H' : Hp} {r a : Addr} {os ts : List (Addr × List V)} {xs ys : List V}
theorem LW.start (R : Rnd H r) : LW H r [] [] := ⟨R, fun p h => (by cases h), fun p h => (by cases h), fun p h => (by cases h)⟩
theorem LW.keep0 (h : LW H r os ts) (f : Fr [] H H') : LW H' r os ts := ⟨h.rnd.keep f (by simp), fun p hp => f _ _ (h.lst p hp) (by simp), fun p hp => f _ _ (h.tup p hp) (by simp), h.nr⟩
theorem LW.draw (h : LW H r os ts) (f : Fr [r] H H') (R : Rnd H' r) : LW H' r os ts := ⟨R, fun p hp => f _ _ (h.lst p hp) (by simpa using h.nr p hp), fun p hp => f _ _ (h.tup p hp) (fun z => h.rnd.notup _ z _ (h.tup p hp)), h.nr⟩
theorem LW.out (h : LW H r os ts) (e : H a = none) : ∀ p ∈ os, p.1 ≠ a := fun p hp z => by
  have := h.lst p hp
  rw [z, e] at this
  cases this
theorem LW.add (h : LW H r os ts) (e : H a = none) : LW (upd H a (.lst xs)) r ((a, xs) :: os) ts := by
  have k := h.keep0 (Fr.new (o := .lst xs) e)
  refine ⟨k.rnd, fun p hp => ?_, k.tup, fun p hp => ?_⟩
  · rcases List.mem_cons.mp hp with z | z
    · rw [z]; exact upd_same
    · exact k.lst p z
  · rcases List.mem_cons.mp hp with z | z
    · rw [z]; exact h.rnd.ne e
    · exact h.nr p z
theorem LW.addT (h : LW H r os ts) (e : H a = none) : LW (upd H a (.tup xs)) r os ((a, xs) :: ts) := by
  have k := h.keep0 (Fr.new (o := .tup xs) e)
  refine ⟨k.rnd, k.lst, fun p hp => ?_, h.nr⟩
  rcases List.mem_cons.mp hp with z | z
  · rw [z]; exact upd_same
  · exact k.tup p z
theorem LW.has (h : LW H r os ts) (e : H a = some (.lst xs)) (n : a ≠ r) : LW H r ((a, xs) :: os) ts := by
  refine ⟨h.rnd, fun p hp => ?_, h.tup, fun p hp => ?_⟩
  · rcases List.mem_cons.mp hp with z | z
    · rw [z]; exact e
    · exact h.lst p z
  · rcases List.mem_cons.mp hp with z | z
    · rw [z]; exact n
    · exact h.nr p z
theorem LW.hasT (h : LW H r os ts) (e : H a = some (.tup xs)) : LW H r os ((a, xs) :: ts) := ⟨h.rnd, h.lst, fun p hp => by
  rcases List.mem_cons.mp hp with z | z
  · rw [z]; exact e
  · exact h.tup p z, h.nr⟩
theorem LW.sub {os' ts' : List (Addr × List V)} (h : LW H r os ts) (n : ∀ p ∈ os', p ∈ os) (m : ∀ p ∈ ts', p ∈ ts) : LW H r os' ts' := ⟨h.rnd, fun p hp => h.lst p (n p hp), fun p hp => h.tup p (m p hp), fun p hp => h.nr p (n p hp)⟩
theorem LW.hd (h : LW H r ((a, xs) :: os) ts) : H a = some (.lst xs) := h.lst (a, xs) List.mem_cons_self
theorem LW.tl (h : LW H r ((a, xs) :: os) ts) : LW H r os ts := h.sub (fun p hp => List.mem_cons_of_mem _ hp) fun p hp => hp
theorem LW.put (h : LW H r ((a, xs) :: os) ts) (n : ∀ p ∈ os, p.1 ≠ a) : LW (upd H a (.lst ys)) r ((a, ys) :: os) ts := by
  have e := h.hd
  refine ⟨h.rnd.keep (S := [a]) (Fr.put (by simp)) (by simpa using (h.nr _ List.mem_cons_self).symm), fun p hp => ?_, fun p hp => ?_, fun p hp => ?_⟩
  · rcases List.mem_cons.mp hp with z | z
    · rw [z]; exact upd_same
    · rw [upd_ne (n p z)]
      exact h.lst p (List.mem_cons_of_mem _ z)
  · have := h.tup p hp
    rw [upd_ne (ne_of this e (by simp))]
    exact this
  · rcases List.mem_cons.mp hp with z | z
    · rw [z]; exact h.nr (a, xs) List.mem_cons_self
    · exact h.nr p (List.mem_cons_of_mem _ z)
theorem LW.putG {os1 os2 : List (Addr × List V)} (h : LW H r (os1 ++ (a, xs) :: os2) ts) (n : ∀ p ∈ os1 ++ os2, p.1 ≠ a) : LW (upd H a (.lst ys)) r (os1 ++ (a, ys) :: os2) ts := by
  have h1 : LW H r ((a, xs) :: (os1 ++ os2)) ts := h.sub (fun p hp => List.perm_middle.mem_iff.mpr hp) fun p hp => hp
  exact (h1.put n).sub (fun p hp => List.perm_middle.mem_iff.mp hp) fun p hp => hp
end
/-- .. and a pair -/
structure LQ (c : Cl) (H : Hp) (r : Addr) (os ts : List (Addr × List V)) (P : Pp) (ks : List Kp) (s : PS) : Prop where
  w : LW H r os ts
  at_ : PairAt c H P ks s
  rO : r ∉ P.own ks
  oO : ∀ p ∈ os, p.1 ∉ P.own ks
section
variable {c : Cl} {H H' : Hp} {r a : Addr} {os ts : List (Addr × List V)} {xs ys : List V} {P P' : Pp} {ks ks' : List Kp} {s s' : PS}
theorem LQ.keep0 (h : LQ c H r os ts P ks s) (f : Fr [] H H') : LQ c H' r os ts P ks s := ⟨h.w.keep0 f, h.at_.keep0 f, h.rO, h.oO⟩
theorem PairAt.rune {H : Hp} {P : Pp} {ks : List Kp} {s : PS} (h : PairAt c H P ks s) {b : Addr} {zs : List V} (e : H b = some (.lst zs)) : P.ru ≠ b ∧ P.re ≠ b := by
  obtain ⟨dx, q1, q2, q3, q4, za, zb, zc, zd, _, eR, _⟩ := h.rcp
  exact ⟨ne_of h.rul e (by simp), ne_of eR e (by simp)⟩
theorem LQ.draw (h : LQ c H r os ts P ks s) (f : Fr [r] H H') (R : Rnd H' r) : LQ c H' r os ts P ks s := by
  obtain ⟨a, b', ns, er⟩ := id h.w.rnd
  refine ⟨h.w.draw f R, h.at_.keep f (fun b hb z => h.rO (by rw [← List.mem_singleton.mp z]; exact hb)) (by simpa using (h.at_.rune er).1) (by simpa using (h.at_.rune er).2) (fun b hb xs e => ?_), h.rO, h.oO⟩
  rw [List.mem_singleton.mp hb, er] at e
  cases e
theorem LQ.add (h : LQ c H r os ts P ks s) (e : H a = none) : LQ c (upd H a (.lst xs)) r ((a, xs) :: os) ts P ks s := by
  refine ⟨h.w.add e, h.at_.keep0 (Fr.new e), h.rO, fun p hp z => ?_⟩
  rcases List.mem_cons.mp hp with y | y
  · rw [y] at z
    obtain ⟨o, eo⟩ := h.at_.there a z
    rw [e] at eo
    cases eo
  · exact h.oO p y z
theorem LQ.addT (h : LQ c H r os ts P ks s) (e : H a = none) : LQ c (upd H a (.tup xs)) r os ((a, xs) :: ts) P ks s := ⟨h.w.addT e, h.at_.keep0 (Fr.new e), h.rO, h.oO⟩
theorem LQ.sub {os' ts' : List (Addr × List V)} (h : LQ c H r os ts P ks s) (n : ∀ p ∈ os', p ∈ os) (m : ∀ p ∈ ts', p ∈ ts) : LQ c H r os' ts' P ks s := ⟨h.w.sub n m, h.at_, h.rO, fun p hp => h.oO p (n p hp)⟩
theorem LQ.has (h : LQ c H r os ts P ks s) (e : H a = some (.lst xs)) (n : a ≠ r) (o : a ∉ P.own ks) : LQ c H r ((a, xs) :: os) ts P ks s := ⟨h.w.has e n, h.at_, h.rO, fun p hp => by
  rcases List.mem_cons.mp hp with y | y
  · rw [y]; exact o
  · exact h.oO p y⟩
theorem LQ.hasT (h : LQ c H r os ts P ks s) (e : H a = some (.tup xs)) : LQ c H r os ((a, xs) :: ts) P ks s := ⟨h.w.hasT e, h.at_, h.rO, h.oO⟩
theorem LQ.put (h : LQ c H r ((a, xs) :: os) ts P ks s) (n : ∀ p ∈ os, p.1 ≠ a) : LQ c (upd H a (.lst ys)) r ((a, ys) :: os) ts P ks s := by
  have e := h.w.hd
  have o := h.oO _ List.mem_cons_self
  refine ⟨h.w.put n, h.at_.keep (S := [a]) (Fr.put (by simp)) (fun b hb z => o (by rw [← List.mem_singleton.mp z]; exact hb)) (by simpa using (h.at_.rune e).1) (by simpa using (h.at_.rune e).2) (fun b hb xs e' => ?_), h.rO, fun p hp => ?_⟩
  · rw [List.mem_singleton.mp hb, e] at e'
    cases e'
  · rcases List.mem_cons.mp hp with y | y
    · rw [y]; exact o
    · exact h.oO p (List.mem_cons_of_mem _ y)
theorem LQ.ch (h : LQ c H r os ts P ks s) (e : Ch c H P ks H' P' ks' s') : LQ c H' r os ts P' ks' s' := by
  obtain ⟨a, b', ns, er⟩ := id h.w.rnd
  refine ⟨⟨h.w.rnd.keep e.fr h.rO, fun p hp => e.fr _ _ (h.w.lst p hp) (h.oO p hp), fun p hp => e.fr _ _ (h.w.tup p hp) (fun z => h.at_.notup _ z _ (h.w.tup p hp)), h.w.nr⟩, e.at_, fun z => ?_, fun p hp z => ?_⟩
  · rcases e.gw r z with y | y
    · exact h.rO y
    · rw [er] at y; cases y
  · rcases e.gw p.1 z with y | y
    · exact h.oO p hp y
    · rw [h.w.lst p hp] at y; cases y
theorem LQ.putG {os1 os2 : List (Addr × List V)} (h : LQ c H r (os1 ++ (a, xs) :: os2) ts P ks s) (n : ∀ p ∈ os1 ++ os2, p.1 ≠ a) : LQ c (upd H a (.lst ys)) r (os1 ++ (a, ys) :: os2) ts P ks s := by
  have h1 : LQ c H r ((a, xs) :: (os1 ++ os2)) ts P ks s := h.sub (fun p hp => List.perm_middle.mem_iff.mpr hp) fun p hp => hp
  exact (h1.put n).sub (fun p hp => List.perm_middle.mem_iff.mp hp) fun p hp => hp
/-- a pair that is made -/
theorem LW.pair (h : LW H r os ts) (f : Fr [] H H') (hP : PairAt c H' P ks s) (gw : Gw [] H (P.own ks)) : LQ c H' r os ts P ks s := by
  obtain ⟨a, b', ns, er⟩ := id h.rnd
  refine ⟨h.keep0 f, hP, fun z => ?_, fun p hp z => ?_⟩
  · rcases gw r z with y | y
    · cases y
    · rw [er] at y; cases y
  · rcases gw p.1 z with y | y
    · cases y
    · rw [h.lst p hp] at y; cases y
end
/-! ### lists of numbers as data -/
theorem dpAll_ints {K : PySem.W.Frag} {H : Hp} : ∀ zs : List Int, DpAll K H (zs.map V.int) (zs.map PyData.int)
  | [] => .nil
  | z :: r => .cons (.int z) (dpAll_ints r)
theorem lay_ints : ∀ zs : List Int, PyData.canLayAll0 (zs.map PyData.int) = true ∧ PyData.depthAll (zs.map PyData.int) ≤ 1
  | [] => ⟨rfl, Nat.zero_le _⟩
  | z :: r => by
    obtain ⟨h1, h2⟩ := lay_ints r
    refine ⟨?_, ?_⟩
    · show (PyData.canLay0 (.int z) && PyData.canLayAll0 (r.map PyData.int)) = true
      rw [h1]
      rfl
    · show PyData.depthAll (PyData.int z :: r.map PyData.int) ≤ 1
      simp only [PyData.depthAll, PyData.depth]
      omega
theorem shapedL_ints (zs : List Int) : SeqAt.shaped (.list (zs.map PyData.int)) = true := by
  obtain ⟨h1, h2⟩ := lay_ints zs
  unfold SeqAt.shaped
  rw [Bool.and_eq_true, decide_eq_true_eq]
  refine ⟨by simp only [PyData.canLay0, h1], ?_⟩
  simp only [PyData.depth]
  omega
theorem eqvL_ints (a b : List Int) : PyData.eqv (.list (a.map PyData.int)) (.list (b.map PyData.int)) = decide (a = b) := PySem.W.Datum.eqv (α := List Int) a b
def iD (zss : List (List Int)) : List PyData := zss.map fun z => PyData.list (z.map PyData.int)
theorem eqvL_iD (a b : List (List Int)) : PyData.eqv (.list (iD a)) (.list (iD b)) = decide (a = b) := PySem.W.Datum.eqv (α := List (List Int)) a b
theorem lay_iD : ∀ zss : List (List Int), PyData.canLayAll0 (iD zss) = true ∧ PyData.depthAll (iD zss) ≤ 2
  | [] => ⟨rfl, Nat.zero_le _⟩
  | z :: r => by
    obtain ⟨h1, h2⟩ := lay_iD r
    obtain ⟨h3, h4⟩ := lay_ints z
    refine ⟨?_, ?_⟩
    · show (PyData.canLay0 (.list (z.map PyData.int)) && PyData.canLayAll0 (iD r)) = true
      rw [h1, Bool.and_true]
      simp only [PyData.canLay0, h3]
    · show PyData.depthAll (PyData.list (z.map PyData.int) :: iD r) ≤ 2
      simp only [PyData.depthAll, PyData.depth]
      omega
theorem shapedL_iD (zss : List (List Int)) : SeqAt.shaped (.list (iD zss)) = true := by
  obtain ⟨h1, h2⟩ := lay_iD zss
  unfold SeqAt.shaped
  rw [Bool.and_eq_true, decide_eq_true_eq]
  refine ⟨by simp only [PyData.canLay0, h1], ?_⟩
  simp only [PyData.depth]
  omega
theorem dpAll_iD {K : PySem.W.Frag} {H : Hp} : ∀ {ws : List Addr} {zss : List (List Int)}, ws.length = zss.length → (∀ (j : Nat) (w : Addr) (ys : List Int), ws[j]? = some w → zss[j]? = some ys → H w = some (.lst (ys.map V.int))) → DpAll K H (ws.map V.ref) (iD zss)
  | [], [], _, _ => .nil
  | [], _ :: _, h, _ => by cases h
  | _ :: _, [], h, _ => by cases h
  | w :: ws, z :: zss, h, f => .cons (.lst (SqL.of (f 0 w z rfl rfl)) (dpAll_ints z)) (dpAll_iD (by simpa using h) fun j w ys a b => f (j + 1) w ys a b)
theorem inV_int (b : Int) : ∀ (xs : List Int), inV (.int b) (xs.map V.int) = decide (b ∈ xs)
  | [] => rfl
  | x :: r => by
    have ih := inV_int b r
    show (eqV (.int x) (.int b) || inV (.int b) (r.map V.int)) = decide (b ∈ x :: r)
    rw [ih]
    by_cases h : b = x
    · subst h
      simp [eqV]
    · have h' : ¬ x = b := fun e => h e.symm
      simp [eqV, h, h']
theorem flat_ints (ys : List Int) : (ys.map V.int).all flatV = true := by
  induction ys with
  | nil => rfl
  | cons y ys ih =>
    rw [List.map_cons, List.all_cons, ih]
    rfl
/-! ### tuples of numbers as data -/
theorem shapedT_ints (zs : List Int) : SeqAt.shaped (.tuple (zs.map PyData.int)) = true := by
  obtain ⟨h1, h2⟩ := lay_ints zs
  unfold SeqAt.shaped
  rw [Bool.and_eq_true, decide_eq_true_eq]
  refine ⟨by simp only [PyData.canLay0, h1], ?_⟩
  simp only [PyData.depth]
  omega
theorem eqvT_ints (a b : List Int) : PyData.eqv (.tuple (a.map PyData.int)) (.tuple (b.map PyData.int)) = decide (a = b) := by
  have h := PySem.W.Datum.eqv (α := PySem.W.Tup Int) ⟨a⟩ ⟨b⟩
  refine Eq.trans h ?_
  simp
/-! ### requests, as a law makes them -/
inductive Rq where
  | rd (b : Nat)
  | wr (b v : Nat)
def Rq.b : Rq → Nat
  | .rd b => b
  | .wr b _ => b
def rqV : Rq → List V
  | .rd b => [.str "read", .int (b : Int)]
  | .wr b v => [.str "write", .int (b : Int), .int (v : Int)]
def Rq.ok (n : Nat) : Rq → Prop
  | .rd b => b < n
  | .wr b v => b < n ∧ v ≤ 999
theorem Rq.ok.lt {n : Nat} : ∀ {q : Rq}, q.ok n → q.b < n
  | .rd _, h => h
  | .wr _ _, h => h.1
def spReq : Sp := fun vs H Q _ => ∃ (r : Addr) (nb : Nat), vs = [.ref r, .int (nb : Int)] ∧ Rnd H r ∧ 1 ≤ nb ∧ nb ≤ 16 ∧ ∀ (t : Addr) (q : Rq) (H' : Hp), H t = none → Fr [r] H H' → Rnd H' r → H' t = some (.tup (rqV q)) → q.ok nb → Q (.ref t) H'
section
variable {P : Program} {w : World} {K : PySem.W.Frag} {mg : Str → Option Value} {base : Heap}
theorem ok_req (T : Gx K mg) : FnOk P w K mg base CX0 2 T.f__law_request T.fd__law_request ["_law_d", "_law_blocks"] spReq := by
  have G__law_below : FnOk P w K mg base CX0 1 T.f__law_below T.fd__law_below ["_law_d", "_law_limit"] spBelow := ok_below T
  refine T.F__law_request.ok sc__law_request (fun vs H Q E h => ?_) (fun cdv A outer s H vs Q E hr h => ?_)
  · obtain ⟨r, nb, rfl, _⟩ := h
    rfl
  · obtain ⟨r, nb, rfl, hR, h1, h2, k⟩ := h
    refine ⟨_, (pss_cons (ps_par (i := 2) (j := 3) (by rfl) sc__law_request.nd rfl rfl (by decide) rfl rfl (pa_cons (pe_call G__law_below (hr.mono (by first | decide | omega)) (by rfl) T.g__law_below T.F__law_below.kp (b__law_below T) .nil pass0 (pa_cons (pv 0) (pa_cons (pv 1) pa_nil))) (pa_cons (pe_call G__law_below (hr.mono (by first | decide | omega)) (by rfl) T.g__law_below T.F__law_below.kp (b__law_below T) .nil pass0 (pa_cons (pv 0) (pa_cons (pe_ix ix_list (pe_lst (pa_cons pe_int (pa_cons pe_int pa_nil))) (pe_call G__law_below (hr.mono (by first | decide | omega)) (by rfl) T.g__law_below T.F__law_below.kp (b__law_below T) .nil pass0 (pa_cons (pv 0) (pa_cons pe_int pa_nil))) (fun _ _ => rfl)) pa_nil))) pa_nil)) (by rfl))
      (pss_one (ps_ret (pe_ifExp (pt_cmpR op_eq (pe_call G__law_below (hr.mono (by first | decide | omega)) (by rfl) T.g__law_below T.F__law_below.kp (b__law_below T) .nil pass0 (pa_cons (pv 0) (pa_cons pe_int pa_nil))) pe_int (nomark _)) (pe_tup (pa_cons pe_str (pa_cons (pv 2) pa_nil))) (pe_tup (pa_cons pe_str (pa_cons (pv 2) (pa_cons (pv 3) pa_nil)))))))), ?_⟩
    refine ⟨_, rfl, _, rfl, r, nb, rfl, hR, by omega, by omega, fun b H1 hb f1 R1 => ?_⟩
    refine ⟨_, rfl, sz_le (by simp), fun l hl => ?_⟩
    have R2 := R1.keep (S := []) (Fr.new (o := .lst [.int 9, .int 1000]) hl) (by simp)
    refine ⟨_, rfl, r, 2, rfl, R2, by decide, by decide, fun z H3 hz f3 R3 => ?_⟩
    have lr := R1.ne hl
    obtain ⟨lim, elim, hlim⟩ : ∃ lim : Nat, ([.int 9, .int 1000] : List V)[z]? = some (.int (lim : Int)) ∧ (lim = 9 ∨ lim = 1000) := match z, hz with
      | 0, _ => ⟨9, rfl, .inl rfl⟩
      | 1, _ => ⟨1000, rfl, .inr rfl⟩
    refine ⟨l, _, (z : Int), .int (lim : Int), rfl, rfl, SqL.of (f3 _ _ upd_same (by simpa using lr)), atI_nat elim, r, lim, rfl, R3, by omega, by omega, fun v H4 hv f4 R4 => ⟨_, _, rfl, ?_⟩⟩
    have f04 : Fr [r] H H4 := ((f1.trans (Fr.new hl)).trans f3).trans f4
    refine ⟨_, rfl, r, 2, rfl, R4, by decide, by decide, fun y H5 hy f5 R5 => ⟨rfl, _, rfl, iteB (fun e => ?_) fun e => ?_⟩⟩
    · refine ⟨_, rfl, sz_le (by simp), fun t ht => ?_⟩
      have f05 := f04.trans f5
      exact k t (.rd b) _ (R5.fresh f05 ht) (f05.trans (Fr.new ht)) (R5.keep (S := []) (Fr.new ht) (by simp)) upd_same hb
    · refine ⟨_, rfl, _, rfl, sz_le (by simp), fun t ht => ?_⟩
      have f05 := f04.trans f5
      exact k t (.wr b v) _ (R5.fresh f05 ht) (f05.trans (Fr.new ht)) (R5.keep (S := []) (Fr.new ht) (by simp)) upd_same ⟨hb, by omega⟩
end
/-! ### small facts for laws about pairs -/
theorem wrOk_of {w : Str} (h : WordIn w W0) : V.str w = V.str "through" ∨ V.str w = V.str "back" ∨ V.str w = V.str "around" := by
  unfold WordIn inV W0 at h
  simp only [List.any_cons, List.any_nil, Bool.or_false, Bool.or_eq_true, eqV, decide_eq_true_eq] at h
  rcases h with h | h | h
  · exact .inl (congrArg V.str (eq_of_beq h).symm)
  · exact .inr (.inl (congrArg V.str (eq_of_beq h).symm))
  · exact .inr (.inr (congrArg V.str (eq_of_beq h).symm))
theorem rep_flat (n : Nat) : (List.replicate (n : Int).toNat [V.int 0]).flatten = (List.replicate n 0).map fun n : Nat => V.int (n : Int) := by
  rw [Int.toNat_natCast]
  induction n with
  | zero => rfl
  | succ n ih => rw [List.replicate_succ, List.flatten_cons, ih, List.replicate_succ]; rfl
/-! ### a request, carried out -/
inductive Ans where
  | val (n : Nat)
  | hit (b : Bool)
def Ans.v : Ans → V
  | .val n => .int (n : Int)
  | .hit b => .bl b
def doR (q : Rq) (s : PS) : Rs Ans := match q with
  | .rd b => (readR b s).bind fun n s1 => .ok (.val n) s1
  | .wr b v => (writeR b v s).bind fun h s1 => .ok (.hit h) s1
theorem doR_rd (b : Nat) (s : PS) : doR (.rd b) s = (readR b s).bind fun n s1 => .ok (.val n) s1 := rfl
theorem doR_wr (b v : Nat) (s : PS) : doR (.wr b v) s = (writeR b v s).bind fun h s1 => .ok (.hit h) s1 := rfl
def spDo (c : Cl) : Sp := fun vs H Q _ => ∃ (P : Pp) (ks : List Kp) (s s1 : PS) (val : List Nat) (t : Addr) (q : Rq) (a : Ans), vs = [.ref P.p, .ref t] ∧ PairAt c H P ks s ∧ Gd s val ∧ H t = some (.tup (rqV q)) ∧ q.ok s.nb ∧ Lim 680 s ∧ doR q s = .ok a s1 ∧
  ∀ (H' : Hp) (P' : Pp) (ks' : List Kp), Ch c H P ks H' P' ks' s1 → Q a.v H'
def stepV (vs : List Nat) : Rq → List Nat
  | .rd _ => vs
  | .wr b v => vs.set b v
/-- what a request does, where nothing fails -/
theorem do0 {s : PS} {val : List Nat} (g : Gd s val) (hw : WrOk s) {q : Rq} (hq : q.ok s.nb) : ∃ a s1, doR q s = .ok a s1 ∧ Gd s1 (stepV val q) ∧ s1.nb = s.nb ∧ s1.wr = s.wr ∧ s1.fa.isSome = s.fa.isSome ∧ (∀ n, Lim n s → Lim (n + 11) s1) ∧ ∀ b, q = .rd b → a = .val (val.getD b 0) := by
  cases q with
  | rd b =>
    obtain ⟨s1, e, g1, n1, w1, f1, l1⟩ := read0 g (b := b) hq
    exact ⟨_, s1, by rw [doR_rd, e]; rfl, g1, n1, w1, f1, fun n h => (l1 n h).up (by omega), fun b' e => by cases e; rfl⟩
  | wr b v =>
    obtain ⟨hit, s1, e, g1, n1, w1, f1, l1⟩ := write0 g hw (b := b) (v := v) hq.1
    exact ⟨_, s1, by rw [doR_wr, e]; rfl, g1, n1, w1, f1, l1, fun b' e => by cases e⟩
section
variable {P : Program} {w : World} {K : PySem.W.Frag} {mg : Str → Option Value} {base : Heap}
theorem ok_do (T : Gx K mg) (HP : ProgOk P T.file) : FnOk P w K mg base CX0 10 T.f__law_do T.fd__law_do ["_law_pair_here", "_law_request_here"] (spDo (clT T)) := by
  have G_Pair_read := ok_readP (w := w) (base := base) HP T rfl
  have G_Pair_write := ok_writeP (w := w) (base := base) HP T rfl
  refine T.F__law_do.ok sc__law_do (fun vs H Q E h => ?_) (fun cdv A outer s H vs Q E hr h => ?_)
  · obtain ⟨P, ks, s, s1, val, t, q, a, rfl, _⟩ := h
    rfl
  · obtain ⟨P, ks, s, s1, val, t, q, a, rfl, hP, g, ht, hq, hl, e, k⟩ := h
    refine ⟨_, (pss_one (ps_ret (pe_ifExp (pt_cmpR op_eq (pe_ix ix_tup (pv 1) pe_int (fun _ _ => rfl)) pe_str (nomark _)) (pe_meth (pv 0) T.cl_Pair T.m_Pair_read G_Pair_read (hr.mono (by first | decide | omega)) (b_Pair_read T) .nil passF (pa_cons (pe_ix ix_tup (pv 1) pe_int (fun _ _ => rfl)) pa_nil)) (pe_meth (pv 0) T.cl_Pair T.m_Pair_write G_Pair_write (hr.mono (by first | decide | omega)) (b_Pair_write T) .nil passF (pa_cons (pe_ix ix_tup (pv 1) pe_int (fun _ _ => rfl)) (pa_cons (pe_ix ix_tup (pv 1) pe_int (fun _ _ => rfl)) pa_nil)))))), ?_⟩
    cases q with
    | rd b =>
      rw [doR_rd] at e
      cases er : readR b s with
      | pf bb z => rw [er] at e; cases e
      | ok n z =>
        rw [er] at e
        cases e
        refine ⟨_, rfl, _, _, (0 : Int), _, rfl, rfl, SqT.of ht, rfl, rfl, _, rfl, iteTb (decide_eq_true rfl) ?_⟩
        refine ⟨_, rfl, P.p, P.px, _, rfl, hP.ins, pF_no_read, _, rfl, _, _, (1 : Int), _, rfl, rfl, SqT.of ht, rfl, P, ks, s, b, rfl, hP, g.wf, g.ce, g.on, hl.up (by omega), hq, ?_⟩
        rw [er]
        rintro H8 P8 ks8 v8 c8 rfl
        exact k H8 P8 ks8 c8
    | wr b v =>
      rw [doR_wr] at e
      cases er : writeR b v s with
      | pf bb z => rw [er] at e; cases e
      | ok n z =>
        rw [er] at e
        cases e
        refine ⟨_, rfl, _, _, (0 : Int), _, rfl, rfl, SqT.of ht, rfl, rfl, _, rfl, iteFb (decide_eq_false (fun z => absurd (V.str.inj z) (by decide +kernel))) ?_⟩
        refine ⟨_, rfl, P.p, P.px, _, rfl, hP.ins, pF_no_write, _, rfl, _, _, (1 : Int), _, rfl, rfl, SqT.of ht, rfl, _, rfl, _, _, (2 : Int), _, rfl, rfl, SqT.of ht, rfl, P, ks, s, b, v, rfl, hP, g.wf, g.on, hl.up (by omega), hq.1, hq.2, by rw [g.rc]; decide, ?_⟩
        rw [er]
        rintro H8 P8 ks8 v8 c8 rfl
        exact k H8 P8 ks8 c8
end
/-! ### lists of numbers; requests leave a pair at rest -/
abbrev iV (vs : List Nat) : List V := vs.map fun n : Nat => V.int (n : Int)
theorem iV_ints (l : List Nat) : iV l = (l.map fun n : Nat => (n : Int)).map V.int := by rw [List.map_map]; rfl
theorem iV_snoc (l : List Nat) (x : Nat) : iV l ++ [V.int (x : Int)] = iV (l ++ [x]) := (List.map_append (f := fun n : Nat => V.int (n : Int)) (l₁ := l) (l₂ := [x])).symm
theorem flat_iV (l : List Nat) : (iV l).all flatV = true := by
  rw [List.all_map, List.all_eq_true]
  exact fun x _ => rfl
theorem in_iV (q : Nat) (l : List Nat) : inV (.int (0 + (q : Int))) (iV l) = decide (q ∈ l) := by
  rw [iV_ints, inV_int]
  refine decide_eq_decide.mpr ⟨fun h => ?_, fun h => List.mem_map.mpr ⟨q, h, by omega⟩⟩
  obtain ⟨x, hx, e⟩ := List.mem_map.mp h
  rw [show q = x by omega]
  exact hx
theorem sortedI_eq {ys : List Int} {zs : List Nat} (hs : ys.Pairwise (· ≤ ·)) (hz : zs.Pairwise (· ≤ ·)) (hp : ys.Perm (zs.map fun n : Nat => (n : Int))) : ys = zs.map fun n : Nat => (n : Int) :=
  List.Perm.eq_of_pairwise (le := fun (a b : Int) => a ≤ b) (fun a b _ _ h1 h2 => Int.le_antisymm h1 h2) hs (List.pairwise_map.mpr (hz.imp fun h => Int.ofNat_le.mpr h)) hp
theorem asc_range (m : Nat) : ∀ {j k : Nat}, j + k = m → Asc m j (List.range' j k)
  | _, 0, _ => trivial
  | j, k + 1, h => by
    rw [List.range'_succ]
    exact ⟨Nat.le_refl _, by omega, asc_range m (by omega)⟩
theorem asc_all (m : Nat) : Asc m 0 (List.range m) := by
  rw [List.range_eq_range']
  exact asc_range m (Nat.zero_add m)
theorem rgV_kept (n : Nat) : rgV 0 (n : Int) = kepV (List.range n) := by
  unfold rgV kepV
  rw [show ((n : Int) - 0).toNat = n by omega]
  refine List.map_congr_left fun i _ => ?_
  rw [Int.zero_add]
theorem iteN {α : Type} [DecidableEq α] {i : α} {p q : Prop} {b : Bool} (e : b = !decide (i = i)) (h : q) : (if b = true then p else q) := by
  rw [e, decide_eq_true rfl]
  exact iteF h
theorem iV_at {l : List Nat} {q : Nat} (h : q < l.length) : atI (iV l) (0 + (q : Int)) = some (.int ((l.getD q 0 : Nat) : Int)) := by
  rw [Int.zero_add]
  refine atI_nat ?_
  rw [List.getElem?_map, List.getD_eq_getElem?_getD, List.getElem?_eq_getElem h]
  rfl
theorem rep_flat1 (n : Nat) (v : V) : (List.replicate (n : Int).toNat [v]).flatten = List.replicate n v := by
  rw [Int.toNat_natCast]
  induction n with
  | zero => rfl
  | succ n ih => rw [List.replicate_succ, List.flatten_cons, ih, List.replicate_succ]; rfl
theorem do_rt {s : PS} {val : List Nat} (g : Gd s val) (hw : WrOk s) (h : Rt s) {q : Rq} (hq : q.ok s.nb) : ∃ a s1, doR q s = .ok a s1 ∧ Gd s1 (stepV val q) ∧ s1.fa.isSome = s.fa.isSome ∧ (∀ n, Lim n s → Lim (n + 11) s1) ∧ Fx s s1 ∧ Rt s1 := by
  obtain ⟨a, s1, e, g1, n1, w1, f1, l1, _⟩ := do0 g hw hq
  refine ⟨a, s1, e, g1, f1, l1, ?_⟩
  cases q with
  | rd b =>
    rw [doR_rd] at e
    cases er : readR b s with
    | pf bb z => rw [er] at e; cases e
    | ok n z =>
      rw [er] at e
      cases e
      exact ⟨(read_nd g (b := b) hq er).1, h.read g hq er⟩
  | wr b v =>
    rw [doR_wr] at e
    cases er : writeR b v s with
    | pf bb z => rw [er] at e; cases e
    | ok n z =>
      rw [er] at e
      cases e
      exact ⟨(write_nd g hw (b := b) (v := v) hq.1 er).1, h.write g hw hq.1 er⟩
/-! ### what holds between a pair and what it becomes, whatever it does -/
def Rs.st {α : Type} : Rs α → PS
  | .ok _ s => s
  | .pf _ s => s
structure Cls0 (R : PS → PS → Prop) : Prop where
  rf : ∀ s, R s s
  tr : ∀ {a b c}, R a b → R b c → R a c
  ch : ∀ s l kn dn, R s { s with left := l, kn := kn, done := dn }
  off : ∀ s, R s (offS s)
  wS : ∀ s i v, R s { s with sl := s.sl.wri i v }
  yS : ∀ s, R s { s with sl := s.sl.syn }
  rS : ∀ s, R s { s with sl := s.sl.rd }
  wF : ∀ s i o, R s { s with fa := s.fa.map fun d => d.wri i o }
  yF : ∀ s, R s { s with fa := s.fa.map DS.syn }
  rF : ∀ s, R s { s with fa := s.fa.map DS.rd }
structure Cls (R : PS → PS → Prop) : Prop extends Cls0 R where
  bg : ∀ s kn rq hi tu, R s { s with kn := kn, reqs := rq, hits := hi, turn := tu }
section
variable {R : PS → PS → Prop} {α β : Type} {s : PS}
theorem Cls0.bind (C : Cls0 R) {x : Rs α} {f : α → PS → Rs β} (h : R s x.st) (k : ∀ a s1, R s1 (f a s1).st) : R s (x.bind f).st := by
  cases x with
  | ok a s1 => exact C.tr h (k a s1)
  | pf b s1 => exact h
theorem Cls0.kn (C : Cls0 R) (s : PS) (kn : List Kn) : R s { s with kn := kn } := C.ch s s.left kn s.done
theorem Cls0.step (C : Cls0 R) : R s (stepS s).st := by
  unfold stepS
  cases h : s.left with
  | none => exact C.rf s
  | some n =>
    cases n with
    | zero => exact C.off s
    | succ n => exact C.ch s (some n) s.kn s.done
theorem Cls0.wSlow (C : Cls0 R) (rc : Rc) : R s (Kb.wSlow rc s).st := C.bind C.step fun _ s1 => C.wS s1 _ _
theorem Cls0.ySlow (C : Cls0 R) : R s (Kb.ySlow s).st := C.bind C.step fun _ s1 => C.yS s1
theorem Cls0.wFast (C : Cls0 R) (i : Nat) (o : Option Rc) : R s (Kb.wFast i o s).st := C.bind C.step fun _ s1 => C.wF s1 i o
theorem Cls0.yFast (C : Cls0 R) : R s (Kb.yFast s).st := by
  unfold Kb.yFast
  split
  · exact C.rf s
  · exact C.bind C.step fun _ s1 => C.yF s1
theorem Cls0.wRec (C : Cls0 R) (i : Nat) (rc : Rc) : R s (Kb.wRec i rc s).st := C.bind (C.wFast i _) fun _ s1 => C.kn s1 _
theorem Cls0.cW (C : Cls0 R) (i : Nat) (rc : Rc) (z : Str) : R s (Kb.cW i rc z s).st := by
  unfold Kb.cW
  split
  · exact C.wSlow rc
  · split
    · exact C.ySlow
    · split
      · exact C.wFast i _
      · exact C.yFast
theorem Cls0.cAll (C : Cls0 R) (i : Nat) (rc : Rc) : ∀ (zs : List Str) {s : PS}, R s (Kb.cAll i rc zs s).st
  | [], s => C.rf s
  | z :: zs, s => C.bind (C.cW i rc z) fun _ _ => Cls0.cAll C i rc zs
theorem Cls0.clSl (C : Cls0 R) (i : Nat) : R s (Kb.clSl i s).st := by
  unfold Kb.clSl
  split
  · exact C.rf s
  · exact C.bind (C.cAll i _ _) fun _ s1 => C.kn s1 _
theorem Cls0.clMany (C : Cls0 R) : ∀ (l : List Nat) {s : PS}, R s (Kb.clMany l s).st
  | [], s => C.rf s
  | i :: l, s => C.bind (C.clSl i) fun _ _ => Cls0.clMany C l
theorem Cls0.cleanLT (C : Cls0 R) (n : Nat) : R s (Kb.cleanLT n s).st := C.bind (C.clMany _) fun _ s1 => C.rf s1
theorem Cls0.takeR (C : Cls0 R) : R s (Kb.takeR s).st := by
  unfold Kb.takeR
  split
  · exact C.kn s _
  · exact C.bind (C.clSl _) fun _ s1 => C.kn s1 _
theorem Cls0.chooseR (C : Cls0 R) (own : Option Nat) : R s (Kb.chooseR own s).st := by
  unfold Kb.chooseR
  split
  · exact C.rf s
  · split
    · exact C.rf s
    · split
      · exact C.rf s
      · split
        · exact C.rf s
        · exact C.bind C.takeR fun _ s1 => C.rf s1
theorem Cls0.carryR (C : Cls0 R) (z : Str) (rc : Rc) (tg st : Option Nat) : R s (Kb.carryR z rc tg st s).st := by
  unfold Kb.carryR
  split
  · exact C.wSlow rc
  · split
    · exact C.ySlow
    · split
      · exact C.yFast
      · split
        · refine C.bind (C.wRec _ rc) fun _ s1 => ?_
          exact C.kn s1 _
        · split
          · exact C.bind (C.wFast _ _) fun _ s1 => C.kn s1 _
          · split
            · exact C.ch s s.left s.kn true
            · exact C.rf s
theorem Cls0.wordsR (C : Cls0 R) (rc : Rc) (tg st : Option Nat) : ∀ (zs : List Str) {s : PS}, R s (Kb.wordsR rc tg st zs s).st
  | [], s => C.rf s
  | z :: zs, s => C.bind (C.carryR z rc tg st) fun _ _ => Cls0.wordsR C rc tg st zs
theorem Cls0.tailW (C : Cls0 R) (h : Bool) : R s (Kb.tailW h s).st := by
  unfold Kb.tailW
  refine C.bind ?_ fun _ s1 => C.ch s1 s1.left s1.kn false
  split
  · exact C.bind (C.cleanLT _) fun _ s1 => C.rf s1
  · exact C.rf s
theorem Cls.beginT (C : Cls R) (b tu : Nat) : R s { beginS b s with turn := tu } := by
  unfold beginS
  cases slotN s.kn b with
  | none => exact C.bg s s.kn _ s.hits tu
  | some i => exact C.bg s _ _ _ tu
theorem Cls.writeR (C : Cls R) (b v : Nat) : R s (Kb.writeR b v s).st := by
  refine C.tr (C.beginT b (s.turn + 1)) ?_
  unfold Kb.writeR
  exact C.toCls0.bind (C.toCls0.chooseR _) fun ts s2 => C.toCls0.bind (C.toCls0.wordsR _ _ _ _) fun _ s3 => C.toCls0.tailW _
theorem Cls.readR (C : Cls R) (b : Nat) : R s (Kb.readR b s).st := by
  refine C.tr (C.beginT b (beginS b s).turn) ?_
  unfold Kb.readR
  split
  · exact C.tr (C.rF _) (by rw [(beginS_same b s).2.2.2.2.2.2.2.1]; exact C.rf _)
  · split
    · refine C.tr (C.rS _) ?_
      rw [(beginS_same b s).2.2.2.2.2.2.1]
      exact C.toCls0.bind C.toCls0.takeR fun _ s2 => C.toCls0.bind (C.toCls0.wRec _ _) fun _ s3 => C.rf s3
    · exact C.tr (C.rS _) (by rw [(beginS_same b s).2.2.2.2.2.2.1]; exact C.rf _)
theorem Cls.doR (C : Cls R) (q : Rq) : R s (Kb.doR q s).st := by
  cases q with
  | rd b => exact C.toCls0.bind (C.readR b) fun _ s1 => C.rf s1
  | wr b v => exact C.toCls0.bind (C.writeR b v) fun _ s1 => C.rf s1
theorem Cls.settleR (C : Cls R) : R s (Kb.settleR s).st := C.toCls0.bind C.toCls0.ySlow fun _ s1 => C.toCls0.yFast
end
/-! ### steps, counted: what a failure ahead changes -/
def fTot (s : PS) : Nat := match s.fa with
  | none => 0
  | some d => d.w + d.s
def tot (s : PS) : Nat := s.sl.w + s.sl.s + fTot s
def PS.lf (n : Nat) (s : PS) : PS := { s with left := some n }
structure Off (s : PS) : Prop where
  on : s.on = false
  lf : s.left = none
  kn : s.kn = []
/-- x: what is done with no failure ahead; y n: with n steps left -/
def Lk {α : Type} (t : Nat) (x : Rs α) (y : Nat → Rs α) : Prop := match x with
  | .ok a s1 => s1.left = none ∧ t ≤ tot s1 ∧ ∀ n, (tot s1 ≤ t + n → y n = .ok a (s1.lf (t + n - tot s1))) ∧ (t + n < tot s1 → ∃ b s', y n = .pf b s' ∧ tot s' = t + n ∧ Off s')
  | .pf _ _ => False
section
variable {α β : Type} {s : PS}
theorem tot_lf (n : Nat) : tot (s.lf n) = tot s := rfl
theorem Lk.bind {t : Nat} {x : Rs α} {y : Nat → Rs α} {f : α → PS → Rs β} (h : Lk t x y) (k : ∀ a s1, x = .ok a s1 → s1.left = none → Lk (tot s1) (f a s1) fun n => f a (s1.lf n)) : Lk t (x.bind f) fun n => (y n).bind f := by
  cases x with
  | pf b s1 => exact h.elim
  | ok a s1 =>
    obtain ⟨h1, h2, h3⟩ := h
    have hk := k a s1 rfl h1
    show Lk t (f a s1) _
    cases e : f a s1 with
    | pf b s2 => rw [e] at hk; exact hk.elim
    | ok a2 s2 =>
      rw [e] at hk
      obtain ⟨g1, g2, g3⟩ := hk
      refine ⟨g1, Nat.le_trans h2 g2, fun n => ⟨fun hn => ?_, fun hn => ?_⟩⟩
      · obtain ⟨p, _⟩ := h3 n
        obtain ⟨q, _⟩ := g3 (t + n - tot s1)
        show (y n).bind f = _
        rw [p (by omega)]
        refine (q (by omega)).trans ?_
        rw [show tot s1 + (t + n - tot s1) - tot s2 = t + n - tot s2 by omega]
      · by_cases hs : tot s1 ≤ t + n
        · obtain ⟨p, _⟩ := h3 n
          obtain ⟨_, q⟩ := g3 (t + n - tot s1)
          obtain ⟨b, s', e', e2, o⟩ := q (by omega)
          refine ⟨b, s', ?_, by omega, o⟩
          show (y n).bind f = _
          rw [p hs]
          exact e'
        · obtain ⟨_, p⟩ := h3 n
          obtain ⟨b, s', e', e2, o⟩ := p (by omega)
          refine ⟨b, s', ?_, e2, o⟩
          show (y n).bind f = _
          rw [e']
          rfl
/-- no step -/
theorem Lk.pure {a : α} (h : s.left = none) : Lk (tot s) (.ok a s) fun n => .ok a (s.lf n) := by
  refine ⟨h, Nat.le_refl _, fun n => ⟨fun _ => ?_, fun z => by omega⟩⟩
  rw [show tot s + n - tot s = n by omega]
/-- no step, and something is changed that is no count -/
theorem Lk.pure2 {a : α} {g : PS → PS} (h : s.left = none) (h1 : (g s).left = none) (h2 : tot (g s) = tot s) (h3 : ∀ n, g (s.lf n) = (g s).lf n) : Lk (tot s) (.ok a (g s)) fun n => .ok a (g (s.lf n)) := by
  refine ⟨h1, by rw [h2]; exact Nat.le_refl _, fun n => ⟨fun _ => ?_, fun z => by omega⟩⟩
  rw [h2, show tot s + n - tot s = n by omega, ← h3]
/-- one step, which writes or syncs -/
theorem Lk.step {g : PS → PS} (h : s.left = none) (h1 : (g s).left = none) (h2 : tot (g s) = tot s + 1) (h3 : ∀ n, g (s.lf n) = (g s).lf n) (h4 : ∀ s : PS, g { s with left := s.left } = g s) : Lk (tot s) ((stepS s).bind fun _ s1 => .ok () (g s1)) fun n => (stepS (s.lf n)).bind fun _ s1 => .ok () (g s1) := by
  have e : stepS s = .ok () s := by
    unfold stepS
    rw [h]
  rw [e]
  refine ⟨h1, by rw [h2]; omega, fun n => ⟨fun hn => ?_, fun hn => ?_⟩⟩
  · rw [h2] at hn ⊢
    obtain ⟨m, rfl⟩ : ∃ m, n = m + 1 := ⟨n - 1, by omega⟩
    show Rs.ok () (g (s.lf m)) = _
    rw [h3, show tot s + (m + 1) - (tot s + 1) = m by omega]
  · rw [h2] at hn
    have : n = 0 := by omega
    subst this
    exact ⟨s.done, offS (s.lf 0), rfl, rfl, ⟨rfl, rfl, rfl⟩⟩
theorem wSlow_lk (h : s.left = none) (rc : Rc) : Lk (tot s) (wSlow rc s) fun n => wSlow rc (s.lf n) :=
  Lk.step (g := fun s1 => { s1 with sl := s1.sl.wri rc.blk rc.val }) h h (by
    show s.sl.w + 1 + s.sl.s + fTot s = s.sl.w + s.sl.s + fTot s + 1
    omega) (fun _ => rfl) fun _ => rfl
theorem ySlow_lk (h : s.left = none) : Lk (tot s) (ySlow s) fun n => ySlow (s.lf n) :=
  Lk.step (g := fun s1 => { s1 with sl := s1.sl.syn }) h h (by
    show s.sl.w + (s.sl.s + 1) + fTot s = s.sl.w + s.sl.s + fTot s + 1
    omega) (fun _ => rfl) fun _ => rfl
theorem wFast_lk (h : s.left = none) (hf : s.fa.isSome = true) (i : Nat) (o : Option Rc) : Lk (tot s) (wFast i o s) fun n => wFast i o (s.lf n) :=
  Lk.step (g := fun s1 => { s1 with fa := s1.fa.map fun d => d.wri i o }) h h (by
    obtain ⟨d, e⟩ := Option.isSome_iff_exists.mp hf
    unfold tot fTot
    rw [e]
    show s.sl.w + s.sl.s + (d.w + 1 + d.s) = s.sl.w + s.sl.s + (d.w + d.s) + 1
    omega) (fun _ => rfl) fun _ => rfl
theorem yFast_lk (h : s.left = none) : Lk (tot s) (yFast s) fun n => yFast (s.lf n) := by
  cases e : s.fa with
  | none =>
    have e1 : yFast s = .ok () s := by unfold yFast; rw [e]
    have e2 : (fun n => yFast (s.lf n)) = fun n => .ok () (s.lf n) := by
      funext n
      unfold yFast
      rw [show (s.lf n).fa = none from e]
    rw [e1, e2]
    exact Lk.pure h
  | some d =>
    have e1 : yFast s = (stepS s).bind fun _ s1 => .ok () { s1 with fa := s1.fa.map DS.syn } := by unfold yFast; rw [e]
    have e2 : (fun n => yFast (s.lf n)) = fun n => (stepS (s.lf n)).bind fun _ s1 => .ok () { s1 with fa := s1.fa.map DS.syn } := by
      funext n
      unfold yFast
      rw [show (s.lf n).fa = some d from e]
    rw [e1, e2]
    exact Lk.step (g := fun s1 => { s1 with fa := s1.fa.map DS.syn }) h h (by
      unfold tot fTot
      rw [e]
      show s.sl.w + s.sl.s + (d.w + (d.s + 1)) = s.sl.w + s.sl.s + (d.w + d.s) + 1
      omega) (fun _ => rfl) fun _ => rfl
theorem Lk.kn {g : PS → List Kn} (h : s.left = none) (hg : ∀ n, g (s.lf n) = g s) : Lk (tot s) (.ok () { s with kn := g s }) fun n => .ok () { s.lf n with kn := g (s.lf n) } :=
  Lk.pure2 (g := fun s1 => { s1 with kn := g s1 }) h h rfl fun n => by show ({ s.lf n with kn := g (s.lf n) } : PS) = _; rw [hg]; rfl
/-- a fast disk stays -/
theorem fa_cls : Cls fun s s1 => s1.fa.isSome = s.fa.isSome where
  rf := fun _ => rfl
  tr := fun h g => g.trans h
  ch := fun _ _ _ _ => rfl
  off := fun _ => rfl
  wS := fun _ _ _ => rfl
  yS := fun _ => rfl
  rS := fun _ => rfl
  wF := fun _ _ _ => Option.isSome_map
  yF := fun _ => Option.isSome_map
  rF := fun _ => Option.isSome_map
  bg := fun _ _ _ _ _ => rfl
theorem st_ok {R : PS → PS → Prop} {x : Rs α} {a : α} {s1 : PS} (h : R s x.st) (e : x = .ok a s1) : R s s1 := by
  rw [e] at h
  exact h
theorem fa_ok {x : Rs α} {a : α} {s1 : PS} (h : x.st.fa.isSome = s.fa.isSome) (e : x = .ok a s1) : s1.fa.isSome = s.fa.isSome := by
  rw [e] at h
  exact h
theorem wRec_lk (h : s.left = none) (hf : s.fa.isSome = true) (i : Nat) (rc : Rc) : Lk (tot s) (wRec i rc s) fun n => wRec i rc (s.lf n) :=
  (wFast_lk h hf i (some rc)).bind fun _ s1 _ h1 => Lk.kn (g := fun s1 => learnN i rc ((s1.reqs : Int) - 1) s1.kn) h1 fun _ => rfl
theorem cW_lk (h : s.left = none) (hf : s.fa.isSome = true) (i : Nat) (rc : Rc) (z : Str) : Lk (tot s) (cW i rc z s) fun n => cW i rc z (s.lf n) := by
  unfold cW
  by_cases e1 : V.str z = V.str "slow"
  · simp only [if_pos e1]
    exact wSlow_lk h rc
  simp only [if_neg e1]
  by_cases e2 : V.str z = V.str "sync slow"
  · simp only [if_pos e2]
    exact ySlow_lk h
  simp only [if_neg e2]
  by_cases e3 : V.str z = V.str "mark"
  · simp only [if_pos e3]
    exact wFast_lk h hf i _
  simp only [if_neg e3]
  exact yFast_lk h
theorem cAll_lk (i : Nat) (rc : Rc) : ∀ (zs : List Str) {s : PS}, s.left = none → s.fa.isSome = true → Lk (tot s) (cAll i rc zs s) fun n => cAll i rc zs (s.lf n)
  | [], s, h, _ => Lk.pure h
  | z :: zs, s, h, hf => (cW_lk h hf i rc z).bind fun _ s1 e h1 => cAll_lk i rc zs h1 (by rw [fa_ok (fa_cls.toCls0.cW i rc z) e]; exact hf)
theorem clSl_lk (h : s.left = none) (hf : s.fa.isSome = true) (i : Nat) : Lk (tot s) (clSl i s) fun n => clSl i (s.lf n) := by
  unfold clSl
  show Lk (tot s) _ fun n => (match atN s.kn i with | none => Rs.ok () (s.lf n) | some q => cSlot i q.rc (s.rcs.getD 3 []) (s.lf n))
  cases atN s.kn i with
  | none => exact Lk.pure h
  | some q => exact (cAll_lk i q.rc _ h hf).bind fun _ s1 _ h1 => Lk.kn (g := fun s1 => cleanN i s1.kn) h1 fun _ => rfl
theorem clMany_lk : ∀ (l : List Nat) {s : PS}, s.left = none → (s.fa.isSome = true ∨ l = []) → Lk (tot s) (clMany l s) fun n => clMany l (s.lf n)
  | [], s, h, _ => Lk.pure h
  | i :: l, s, h, hf => by
    have hf' : s.fa.isSome = true := hf.resolve_right (by simp)
    exact (clSl_lk h hf' i).bind fun _ s1 e h1 => clMany_lk l h1 (.inl (by rw [fa_ok (fa_cls.toCls0.clSl i) e]; exact hf'))
theorem dirtyN_nil : dirtyN [] = [] := List.eq_nil_of_length_eq_zero (by
  unfold dirtyN dirtyP
  rw [List.length_map, (List.mergeSort_perm _ _).length_eq, List.length_map]
  refine Nat.le_zero.mp (Nat.le_trans (List.length_filter_le _ _) ?_)
  rw [(sortN_perm []).length_eq]
  exact Nat.le_refl _)
theorem cleanLT_lk (h : s.left = none) (hf : s.fa.isSome = true ∨ s.kn = []) (m : Nat) : Lk (tot s) (cleanLT m s) fun n => cleanLT m (s.lf n) := by
  have hl : s.fa.isSome = true ∨ (dirtyN s.kn).take m = [] := hf.imp_right fun e => by
    rw [e, dirtyN_nil]
    exact List.take_nil
  exact (clMany_lk _ h hl).bind fun _ s1 _ h1 => Lk.pure (a := ((dirtyN s.kn).take m).map (blkOf s1.kn)) h1
theorem takeR_lk (h : s.left = none) (hf : s.fa.isSome = true) : Lk (tot s) (takeR s) fun n => takeR (s.lf n) := by
  unfold takeR
  show Lk (tot s) _ fun n => (match takeO s.ms s.ch s.kn with | some i => Rs.ok i { s.lf n with kn := forgetN i s.kn } | none => (clSl ((dirtyN s.kn).headD 0) (s.lf n)).bind fun _ s1 => .ok ((dirtyN s.kn).headD 0) { s1 with kn := forgetN ((dirtyN s.kn).headD 0) s1.kn })
  cases takeO s.ms s.ch s.kn with
  | some i => exact Lk.pure2 (g := fun s1 => { s1 with kn := forgetN i s.kn }) h h rfl fun _ => rfl
  | none => exact (clSl_lk h hf _).bind fun _ s1 _ h1 => Lk.pure2 (g := fun s1 => { s1 with kn := forgetN ((dirtyN s.kn).headD 0) s1.kn }) h1 h1 rfl fun _ => rfl
theorem chooseR_lk (h : s.left = none) (own : Option Nat) : Lk (tot s) (chooseR own s) fun n => chooseR own (s.lf n) := by
  unfold chooseR
  by_cases e1 : s.fa = none
  · simp only [show ∀ n, (s.lf n).fa = s.fa from fun _ => rfl, if_pos e1]
    exact Lk.pure h
  simp only [show ∀ n, (s.lf n).fa = s.fa from fun _ => rfl, show ∀ n, (s.lf n).wr = s.wr from fun _ => rfl, show ∀ n, (s.lf n).kn = s.kn from fun _ => rfl, if_neg e1]
  by_cases e2 : V.str s.wr = V.str "through"
  · simp only [if_pos e2]
    exact Lk.pure h
  simp only [if_neg e2]
  by_cases e3 : V.str s.wr = V.str "around"
  · simp only [if_pos e3]
    exact Lk.pure h
  simp only [if_neg e3]
  by_cases e4 : (own.bind fun i => (atN s.kn i).map fun q => q.rc.dirty) = some false
  · simp only [if_pos e4]
    exact Lk.pure h
  simp only [if_neg e4]
  have hf : s.fa.isSome = true := by
    cases e : s.fa with
    | none => exact absurd e e1
    | some d => rfl
  exact (takeR_lk h hf).bind fun t s1 _ h1 => Lk.pure (a := (some t, if own = some t then none else own)) h1
/-- slots are named only where there is a fast disk -/
theorem carryR_lk (h : s.left = none) (z : Str) (rc : Rc) (tg st : Option Nat) (hf : s.fa.isSome = true ∨ (tg = none ∧ st = none)) : Lk (tot s) (carryR z rc tg st s) fun n => carryR z rc tg st (s.lf n) := by
  unfold carryR
  by_cases e1 : V.str z = V.str "slow"
  · simp only [if_pos e1]
    exact wSlow_lk h rc
  simp only [if_neg e1]
  by_cases e2 : V.str z = V.str "sync slow"
  · simp only [if_pos e2]
    exact ySlow_lk h
  simp only [if_neg e2]
  by_cases e3 : V.str z = V.str "sync fast"
  · simp only [if_pos e3]
    exact yFast_lk h
  simp only [if_neg e3]
  cases et : (if V.str z = V.str "fast" then tg else none) with
  | some i =>
    have hf' : s.fa.isSome = true := hf.resolve_right fun y => by
      rw [y.1] at et
      simp at et
    dsimp only
    refine (wRec_lk h hf' i rc).bind fun _ s1 _ h1 => ?_
    cases st with
    | none => exact Lk.pure h1
    | some j => exact Lk.kn (g := fun s1 => forgetN j s1.kn) h1 fun _ => rfl
  | none =>
    dsimp only
    cases es : (if V.str z = V.str "free" then st else none) with
    | some j =>
      have hf' : s.fa.isSome = true := hf.resolve_right fun y => by
        rw [y.2] at es
        simp at es
      dsimp only
      exact (wFast_lk h hf' j none).bind fun _ s1 _ h1 => Lk.kn (g := fun s1 => forgetN j s1.kn) h1 fun _ => rfl
    | none =>
      dsimp only
      by_cases e4 : V.str z = V.str "done"
      · simp only [if_pos e4]
        exact Lk.pure2 (g := fun s1 => { s1 with done := true }) h h rfl fun _ => rfl
      · simp only [if_neg e4]
        exact Lk.pure h
theorem wordsR_lk (rc : Rc) (tg st : Option Nat) : ∀ (zs : List Str) {s : PS}, s.left = none → (s.fa.isSome = true ∨ (tg = none ∧ st = none)) → Lk (tot s) (wordsR rc tg st zs s) fun n => wordsR rc tg st zs (s.lf n)
  | [], s, h, _ => Lk.pure h
  | z :: zs, s, h, hf => (carryR_lk h z rc tg st hf).bind fun _ s1 e h1 => wordsR_lk rc tg st zs h1 (hf.imp_left fun y => by rw [fa_ok (fa_cls.toCls0.carryR z rc tg st) e]; exact y)
end
/-! ### .. and requests -/
section
variable {α β : Type} {s : PS}
theorem Lk.at_ {t t' : Nat} {x : Rs α} {y y' : Nat → Rs α} (h : Lk t x y) (e : t' = t) (e2 : ∀ n, y' n = y n) : Lk t' x y' := by
  subst e
  have : y' = y := funext e2
  rw [this]
  exact h
theorem beginS_lf (b n : Nat) : beginS b (s.lf n) = (beginS b s).lf n := by
  unfold beginS
  show (match slotN s.kn b with | some i => _ | none => _) = PS.lf n (match slotN s.kn b with | some i => _ | none => _)
  cases slotN s.kn b <;> rfl
theorem begin_tot (b tu : Nat) : tot { beginS b s with turn := tu } = tot s ∧ ({ beginS b s with turn := tu } : PS).left = s.left := by
  unfold beginS
  cases slotN s.kn b <;> exact ⟨rfl, rfl⟩
theorem begin_wf (h : WF s) (b tu : Nat) : WF { beginS b s with turn := tu } := by
  unfold beginS
  cases e : slotN s.kn b with
  | none => exact ⟨h.sl, h.fa, h.some1, h.few, h.kn, h.cl, h.nof⟩
  | some i =>
    refine ⟨h.sl, h.fa, h.some1, h.few, fun q hq => ?_, h.cl, fun y => ?_⟩
    · obtain ⟨p, hp, rfl⟩ := List.mem_map.mp hq
      have := h.kn p hp
      by_cases z : p.slot = i
      · rw [if_pos z]; exact this
      · rw [if_neg z]; exact this
    · have y' : s.fa = none := y
      have := h.nof y'
      show useN i s.reqs s.kn = []
      rw [this]
      rfl
theorem begin_at (b tu : Nat) (i : Nat) : (atN s.kn i).isSome = true → (atN ({ beginS b s with turn := tu } : PS).kn i).isSome = true := by
  unfold beginS
  cases slotN s.kn b with
  | none => exact id
  | some j =>
    intro h
    obtain ⟨q, hq⟩ := Option.isSome_iff_exists.mp h
    have hm := List.mem_of_find?_eq_some hq
    have hs : q.slot = i := by simpa using List.find?_some hq
    show (atN (useN j s.reqs s.kn) i).isSome = true
    unfold atN
    rw [List.find?_isSome]
    refine ⟨_, List.mem_map.mpr ⟨q, hm, rfl⟩, ?_⟩
    by_cases z : q.slot = j
    · rw [if_pos z]; simpa using hs
    · rw [if_neg z]; simpa using hs
theorem slotN_atN {kn : List Kn} {b i : Nat} (h : slotN kn b = some i) : (atN kn i).isSome = true := by
  obtain ⟨q, hq, e1, _⟩ := slotN_in h
  unfold atN
  rw [List.find?_isSome]
  exact ⟨q, hq, by simpa using e1⟩
theorem tailW_lk (h : s.left = none) (hf : s.fa.isSome = true ∨ s.kn = []) (hit : Bool) : Lk (tot s) (tailW hit s) fun n => tailW hit (s.lf n) := by
  unfold tailW
  simp only [show ∀ n, (s.lf n).wr = s.wr from fun _ => rfl, show ∀ n, (s.lf n).kn = s.kn from fun _ => rfl, show ∀ n, (s.lf n).bd = s.bd from fun _ => rfl]
  by_cases e : V.str s.wr = V.str "back"
  · simp only [if_pos e]
    refine Lk.bind (y := fun n => (cleanLT (((dirtyN s.kn).length : Int) - s.bd).toNat (s.lf n)).bind fun _ s4 => Rs.ok () s4) ((cleanLT_lk h hf _).bind fun _ s1 _ h1 => Lk.pure h1) fun _ s1 _ h1 => ?_
    exact Lk.pure2 (g := fun s1 => { s1 with done := false }) h1 h1 rfl fun _ => rfl
  · simp only [if_neg e]
    exact Lk.pure2 (g := fun s1 => { s1 with done := false }) h h rfl fun _ => rfl
theorem wf_some {s : PS} (h : WF s) : s.fa.isSome = true ∨ s.kn = [] := by
  cases e : s.fa with
  | none => exact .inr (h.nof e)
  | some d => exact .inl rfl
theorem inF_some {s : PS} {a b : Option Nat} (h1 : InF s a) (h2 : InF s b) : s.fa.isSome = true ∨ (a = none ∧ b = none) := by
  cases e : s.fa with
  | some d => exact .inl rfl
  | none =>
    refine .inr ⟨?_, ?_⟩
    · cases a with
      | none => rfl
      | some i =>
        obtain ⟨_, d, hd⟩ := h1 i rfl
        rw [e] at hd
        cases hd
    · cases b with
      | none => rfl
      | some i =>
        obtain ⟨_, d, hd⟩ := h2 i rfl
        rw [e] at hd
        cases hd
theorem writeR_lk (h : s.left = none) (hw : WF s) {b : Nat} (hb : b < s.nb) (v : Nat) : Lk (tot s) (writeR b v s) fun n => writeR b v (s.lf n) := by
  obtain ⟨e1, e2⟩ := begin_tot (s := s) b (s.turn + 1)
  have hw1 := begin_wf hw b (s.turn + 1)
  have ho : ∀ i, slotN s.kn b = some i → (atN ({ beginS b s with turn := s.turn + 1 } : PS).kn i).isSome = true := fun i hi => begin_at b (s.turn + 1) i (slotN_atN hi)
  have hnb : ({ beginS b s with turn := s.turn + 1 } : PS).nb = s.nb := by unfold beginS; cases slotN s.kn b <;> rfl
  generalize hs0 : ({ beginS b s with turn := s.turn + 1 } : PS) = s0 at *
  have key : Lk (tot s0) (writeR b v s) fun n => (chooseR (slotN s.kn b) (s0.lf n)).bind fun ts s2 => (wordsR (recS b v s.turn s2) ts.1 ts.2 (rcpOf s2) s2).bind fun _ s3 => tailW (slotN s.kn b).isSome s3 := by
    unfold writeR
    rw [hs0]
    refine (chooseR_lk (e2.trans h) _).bind fun ts s2 ec h2 => ?_
    obtain ⟨mv, i1, i2⟩ := chooseR_ok hw1 ho ec
    have hw2 := mv.wf hw1
    have hb2 : b < s2.nb := by
      obtain ⟨_, _, _, _, ex⟩ := mv.ex
      rw [ex]
      show b < s0.nb
      rw [hnb]
      exact hb
    refine (wordsR_lk (recS b v s.turn s2) ts.1 ts.2 (rcpOf s2) h2 (inF_some i1 i2)).bind fun _ s3 ew h3 => ?_
    have mw := wordsR_ok (rc := recS b v s.turn s2) hb2 i1 i2 ew
    exact tailW_lk h3 (wf_some (mw.wf hw2)) _
  refine key.at_ e1.symm fun n => ?_
  unfold writeR
  rw [show ({ beginS b (s.lf n) with turn := (s.lf n).turn + 1 } : PS) = s0.lf n by rw [← hs0, beginS_lf]; rfl]
  rfl
theorem keepR_lk (h : s.left = none) (hf : s.fa.isSome = true) (b v : Nat) : Lk (tot s) (keepR b v s) fun n => keepR b v (s.lf n) :=
  (takeR_lk h hf).bind fun i s2 e h2 => Lk.bind (y := fun n => wRec i ⟨b, v, 0, false⟩ (s2.lf n)) (wRec_lk h2 (by rw [fa_ok fa_cls.toCls0.takeR e]; exact hf) i ⟨b, v, 0, false⟩) fun _ s3 _ h3 => Lk.pure (a := v) h3
theorem rd_tot : tot { s with fa := s.fa.map DS.rd } = tot s := by
  unfold tot fTot
  show s.sl.w + s.sl.s + (match s.fa.map DS.rd with | none => 0 | some d => d.w + d.s) = _
  cases s.fa <;> rfl
theorem readR_lk (h : s.left = none) (b : Nat) : Lk (tot s) (readR b s) fun n => readR b (s.lf n) := by
  obtain ⟨e1, e2⟩ := begin_tot (s := s) b (beginS b s).turn
  have e1' : tot (beginS b s) = tot s := e1
  have e2' : (beginS b s).left = none := e2.trans h
  have hfa : (beginS b s).fa = s.fa := (beginS_same b s).2.2.2.2.2.2.2.1
  have hsl : (beginS b s).sl = s.sl := (beginS_same b s).2.2.2.2.2.2.1
  cases es : slotN s.kn b with
  | some i =>
    have x1 : readR b s = .ok (cellV i s) { beginS b s with fa := s.fa.map DS.rd } := by unfold readR; rw [es]
    have x2 : ∀ n, readR b (s.lf n) = .ok (cellV i s) (PS.lf n { beginS b s with fa := s.fa.map DS.rd }) := fun n => by
      unfold readR
      rw [show slotN (s.lf n).kn b = some i from es, beginS_lf]
      rfl
    rw [x1]
    have t1 : tot ({ beginS b s with fa := s.fa.map DS.rd } : PS) = tot s := by rw [← hfa, rd_tot, e1']
    exact (Lk.pure (s := { beginS b s with fa := s.fa.map DS.rd }) e2').at_ t1.symm x2
  | none =>
    have t1 : tot ({ beginS b s with sl := s.sl.rd } : PS) = tot s := by
      rw [← e1']
      unfold tot fTot
      rw [← hsl]
      rfl
    by_cases ek : V.str s.rd = V.str "keep" ∧ s.fa.isSome = true
    · have x1 : readR b s = keepR b (slowV b s) { beginS b s with sl := s.sl.rd } := by unfold readR; rw [es]; exact if_pos ek
      have x2 : ∀ n, readR b (s.lf n) = keepR b (slowV b s) (PS.lf n { beginS b s with sl := s.sl.rd }) := fun n => by
        unfold readR
        rw [show slotN (s.lf n).kn b = none from es, beginS_lf]
        exact if_pos ek
      rw [x1]
      exact (keepR_lk (s := { beginS b s with sl := s.sl.rd }) e2' (by show (beginS b s).fa.isSome = true; rw [hfa]; exact ek.2) b (slowV b s)).at_ t1.symm x2
    · have x1 : readR b s = .ok (slowV b s) { beginS b s with sl := s.sl.rd } := by unfold readR; rw [es]; exact if_neg ek
      have x2 : ∀ n, readR b (s.lf n) = .ok (slowV b s) (PS.lf n { beginS b s with sl := s.sl.rd }) := fun n => by
        unfold readR
        rw [show slotN (s.lf n).kn b = none from es, beginS_lf]
        exact if_neg ek
      rw [x1]
      exact (Lk.pure (s := { beginS b s with sl := s.sl.rd }) e2').at_ t1.symm x2
theorem doR_lk (h : s.left = none) (hw : WF s) {q : Rq} (hq : q.ok s.nb) : Lk (tot s) (doR q s) fun n => doR q (s.lf n) := by
  cases q with
  | rd b => exact (readR_lk h b).bind fun a s1 _ h1 => Lk.pure (a := Ans.val a) h1
  | wr b v => exact (writeR_lk h hw hq.1 v).bind fun a s1 _ h1 => Lk.pure (a := Ans.hit a) h1
theorem settleR_lk (h : s.left = none) : Lk (tot s) (settleR s) fun n => settleR (s.lf n) :=
  (ySlow_lk h).bind fun _ s1 _ h1 => yFast_lk h1
end
/-! ### more pairs than one -/
def Alien : HO → Prop
  | .tup _ => True
  | .ins _ _ fs => (∃ a b c d, fs = rF a b c d) ∨ ∃ a b c d, fs = qF a b c d
  | _ => False
section
variable {H : Hp}
theorem DiskAt.alien {C : Addr} {D : Dk} {cs ls : List V} {ps : List (Nat × V)} {r w s : Int} (h : DiskAt C H D cs ls ps r w s) : ∀ b ∈ D.own, ∀ o, H b = some o → ¬ Alien o := by
  obtain ⟨ts, e, _⟩ := h.pend
  intro b hb o ho z
  simp only [Dk.own, List.mem_cons, List.not_mem_nil, or_false] at hb
  rcases hb with rfl | rfl | rfl | rfl
  · rw [h.ins] at ho
    cases ho
    rcases z with ⟨_, _, _, _, z⟩ | ⟨_, _, _, _, z⟩
    · unfold dF rF at z
      simp at z
    · unfold dF qF at z
      simp at z
  · rw [h.cs_] at ho; cases ho; exact z
  · rw [h.ls_] at ho; cases ho; exact z
  · rw [e] at ho; cases ho; exact z
theorem MemAt.alien {CM CK : Addr} {M : Mm} {n : Nat} {ks : List Kp} (h : MemAt CM CK H M n ks) : ∀ b ∈ M.own ks, ∀ o, H b = some o → ¬ Alien o := by
  intro b hb o ho z
  simp only [Mm.own, List.mem_cons, List.mem_map] at hb
  rcases hb with rfl | rfl | ⟨q, hq, rfl⟩
  · rw [h.ins] at ho
    cases ho
    rcases z with ⟨_, _, _, _, z⟩ | ⟨_, _, _, _, z⟩
    · unfold mF rF at z
      simp at z
    · unfold mF qF at z
      simp at z
  · rw [h.dct] at ho; cases ho; exact z
  · rw [h.one q hq] at ho
    unfold Kp.ob at ho
    cases ho
    rcases z with ⟨_, _, _, _, z⟩ | ⟨_, _, _, _, z⟩
    · have z := (Prod.mk.inj (List.cons.inj z).1).1
      exact absurd z (by decide +kernel)
    · have z := (Prod.mk.inj (List.cons.inj z).1).1
      exact absurd z (by decide +kernel)
variable {c : Cl} {P : Pp} {ks : List Kp} {s : PS}
theorem PairAt.alien (h : PairAt c H P ks s) : ∀ b ∈ P.own ks, ∀ o, H b = some o → ¬ Alien o := by
  intro b hb o ho z
  rcases own_cases hb with rfl | hb | hb | hb
  · rw [h.ins] at ho
    cases ho
    rcases z with ⟨_, _, _, _, z⟩ | ⟨_, _, _, _, z⟩
    · unfold PS.fs pF rF at z
      simp at z
    · unfold PS.fs pF qF at z
      simp at z
  · obtain ⟨_, _, _, hD, _⟩ := id h.slo
    exact hD.alien b hb o ho z
  · rw [P.fo_eq] at hb
    have hf := h.fas
    cases eF : P.F with
    | none =>
      rw [eF] at hb
      cases hb
    | some D =>
      rw [eF] at hb hf
      cases ef : s.fa with
      | none => rw [ef] at hf; exact hf.elim
      | some d =>
        rw [ef] at hf
        obtain ⟨_, _, _, hD, _⟩ := id hf
        exact hD.alien b hb o ho z
  · exact h.mem.alien b hb o ho z
theorem PairAt.out_ru {P2 : Pp} {ks2 : List Kp} {s2 : PS} (h : PairAt c H P ks s) (g : PairAt c H P2 ks2 s2) : P2.ru ∉ P.own ks ∧ P2.re ∉ P.own ks := by
  refine ⟨fun z => h.alien _ z _ g.rul (.inl ⟨_, _, _, _, rfl⟩), fun z => ?_⟩
  obtain ⟨dx, a, b, x, d, za, zb, zc, zd, e, e1, _⟩ := g.rcp
  exact h.alien _ z _ e1 (.inr ⟨_, _, _, _, rfl⟩)
end
structure E3 where
  P : Pp
  ks : List Kp
  s : PS
def E3.own (e : E3) : List Addr := e.P.own e.ks
structure LM (c : Cl) (H : Hp) (r : Addr) (os ts : List (Addr × List V)) (L : List E3) : Prop where
  w : LW H r os ts
  at_ : ∀ e ∈ L, PairAt c H e.P e.ks e.s
  rO : ∀ e ∈ L, r ∉ e.own
  oO : ∀ e ∈ L, ∀ p ∈ os, p.1 ∉ e.own
  dj : L.Pairwise fun e f => ∀ a ∈ e.own, a ∉ f.own
section
variable {c : Cl} {H H' : Hp} {r a : Addr} {os ts os' ts' : List (Addr × List V)} {xs ys : List V} {P' : Pp} {ks' : List Kp} {s' : PS} {A B L : List E3} {e : E3}
theorem LM.q (h : LM c H r os ts L) (m : e ∈ L) : LQ c H r os ts e.P e.ks e.s := ⟨h.w, h.at_ e m, h.rO e m, h.oO e m⟩
theorem LM.of (h : LW H r os ts) : LM c H r os ts [] := ⟨h, fun e m => (by cases m), fun e m => (by cases m), fun e m => (by cases m), List.Pairwise.nil⟩
theorem LM.keep0 (h : LM c H r os ts L) (f : Fr [] H H') : LM c H' r os ts L := ⟨h.w.keep0 f, fun e m => (h.at_ e m).keep0 f, h.rO, h.oO, h.dj⟩
theorem LM.sub (h : LM c H r os ts L) (n : ∀ p ∈ os', p ∈ os) (m : ∀ p ∈ ts', p ∈ ts) : LM c H r os' ts' L := ⟨h.w.sub n m, h.at_, h.rO, fun e q p hp => h.oO e q p (n p hp), h.dj⟩
theorem LM.draw (h : LM c H r os ts L) (f : Fr [r] H H') (R : Rnd H' r) : LM c H' r os ts L := ⟨h.w.draw f R, fun e m => ((h.q m).draw f R).at_, h.rO, h.oO, h.dj⟩
theorem LM.addT (h : LM c H r os ts L) (e : H a = none) : LM c (upd H a (.tup xs)) r os ((a, xs) :: ts) L := ⟨h.w.addT e, fun x m => (h.at_ x m).keep0 (Fr.new e), h.rO, h.oO, h.dj⟩
theorem LM.has (h : LM c H r os ts L) (e : H a = some (.lst xs)) (n : a ≠ r) (o : ∀ e ∈ L, a ∉ e.own) : LM c H r ((a, xs) :: os) ts L := ⟨h.w.has e n, h.at_, h.rO, fun x m => ((h.q m).has e n (o x m)).oO, h.dj⟩
theorem LM.hasT (h : LM c H r os ts L) (e : H a = some (.tup xs)) : LM c H r os ((a, xs) :: ts) L := ⟨h.w.hasT e, h.at_, h.rO, h.oO, h.dj⟩
theorem LM.out (h : LM c H r os ts L) (e : H a = none) : ∀ x ∈ L, a ∉ x.own := fun x m z => by
  obtain ⟨o, eo⟩ := (h.at_ x m).there a z
  rw [e] at eo
  cases eo
theorem LM.add (h : LM c H r os ts L) (e : H a = none) : LM c (upd H a (.lst xs)) r ((a, xs) :: os) ts L := (h.keep0 (Fr.new e)).has upd_same (h.w.rnd.ne e) (h.out e)
/-- a list that is new -/
theorem LM.hasN (h : LM c H r os ts L) (f : Fr [] H H') (n : H a = none) (e : H' a = some (.lst xs)) : LM c H' r ((a, xs) :: os) ts L := (h.keep0 f).has e (h.w.rnd.ne n) (h.out n)
theorem LM.put (h : LM c H r ((a, xs) :: os) ts L) (n : ∀ p ∈ os, p.1 ≠ a) : LM c (upd H a (.lst ys)) r ((a, ys) :: os) ts L :=
  ⟨h.w.put n, fun x m => ((h.q m).put n).at_, h.rO, fun x m => ((h.q m).put (ys := ys) n).oO, h.dj⟩
theorem pw_set {α : Type} {R : α → α → Prop} {A B : List α} {e e' : α} (h : (A ++ e :: B).Pairwise R) (h1 : ∀ f ∈ A, R f e → R f e') (h2 : ∀ f ∈ B, R e f → R e' f) : (A ++ e' :: B).Pairwise R := by
  rw [List.pairwise_append, List.pairwise_cons] at h ⊢
  obtain ⟨a, ⟨b, c⟩, d⟩ := h
  refine ⟨a, ⟨fun f m => h2 f m (b f m), c⟩, fun f m g n => ?_⟩
  rcases List.mem_cons.mp n with rfl | n
  · exact h1 f m (d f m e List.mem_cons_self)
  · exact d f m g (List.mem_cons_of_mem _ n)
/-- one of them changes -/
theorem LM.ch (h : LM c H r os ts (A ++ e :: B)) (k : Ch c H e.P e.ks H' P' ks' s') : LM c H' r os ts (A ++ ⟨P', ks', s'⟩ :: B) := by
  have me : e ∈ A ++ e :: B := List.mem_append_right _ List.mem_cons_self
  have q := (h.q me).ch k
  have dj := h.dj
  rw [List.pairwise_append, List.pairwise_cons] at dj
  obtain ⟨d1, ⟨d2, d3⟩, d4⟩ := dj
  have dA : ∀ f ∈ A, ∀ a ∈ f.own, a ∉ e.own := fun f m => d4 f m e List.mem_cons_self
  have dB : ∀ f ∈ B, ∀ a ∈ f.own, a ∉ e.own := fun f m a ha z => d2 f m a z ha
  have mA : ∀ f ∈ A, f ∈ A ++ e :: B := fun f m => List.mem_append_left _ m
  have mB : ∀ f ∈ B, f ∈ A ++ e :: B := fun f m => List.mem_append_right _ (List.mem_cons_of_mem _ m)
  have keep : ∀ f ∈ A ++ e :: B, (∀ a ∈ f.own, a ∉ e.own) → PairAt c H' f.P f.ks f.s := fun f m d => by
    obtain ⟨u1, u2⟩ := (h.at_ e me).out_ru (h.at_ f m)
    exact (h.at_ f m).keep k.fr d u1 u2 (h.at_ e me).notup
  have out : ∀ f ∈ A ++ e :: B, (∀ a ∈ f.own, a ∉ e.own) → ∀ a ∈ f.own, a ∉ P'.own ks' := fun f m d a ha z => by
    rcases k.gw a z with y | y
    · exact d a ha y
    · obtain ⟨o, eo⟩ := (h.at_ f m).there a ha
      rw [y] at eo
      cases eo
  refine ⟨q.w, fun f m => ?_, fun f m => ?_, fun f m => ?_, ?_⟩
  · rcases List.mem_append.mp m with y | y
    · exact keep f (mA f y) (dA f y)
    · rcases List.mem_cons.mp y with y | y
      · subst y; exact q.at_
      · exact keep f (mB f y) (dB f y)
  · rcases List.mem_append.mp m with y | y
    · exact h.rO f (mA f y)
    · rcases List.mem_cons.mp y with y | y
      · subst y; exact q.rO
      · exact h.rO f (mB f y)
  · rcases List.mem_append.mp m with y | y
    · exact h.oO f (mA f y)
    · rcases List.mem_cons.mp y with y | y
      · subst y; exact q.oO
      · exact h.oO f (mB f y)
  · refine pw_set h.dj (fun f m _ => out f (mA f m) (dA f m)) fun f m _ a ha z => out f (mB f m) (dB f m) a z ha
/-- one more, that is made -/
theorem LM.pair {P : Pp} {ks : List Kp} {s : PS} (h : LM c H r os ts L) (f : Fr [] H H') (hP : PairAt c H' P ks s) (gw : Gw [] H (P.own ks)) : LM c H' r os ts (L ++ [⟨P, ks, s⟩]) := by
  have q := h.w.pair f hP gw
  have k := h.keep0 f
  refine ⟨k.w, fun x m => ?_, fun x m => ?_, fun x m => ?_, ?_⟩
  · rcases List.mem_append.mp m with y | y
    · exact k.at_ x y
    · rw [List.mem_singleton.mp y]; exact q.at_
  · rcases List.mem_append.mp m with y | y
    · exact k.rO x y
    · rw [List.mem_singleton.mp y]; exact q.rO
  · rcases List.mem_append.mp m with y | y
    · exact k.oO x y
    · rw [List.mem_singleton.mp y]; exact q.oO
  · rw [List.pairwise_append]
    refine ⟨h.dj, List.pairwise_singleton _ _, fun x m y n a ha z => ?_⟩
    rw [List.mem_singleton.mp n] at z
    rcases gw a z with t | t
    · cases t
    · exact h.out t x m ha
end
/-! ### a pair that rests, one of more -/
structure G98 (nb n : Nat) (val : List Nat) (s : PS) : Prop where
  g : Gd s val
  rt : Rt s
  w : WrOk s
  nb : s.nb = nb
  lim : Lim n s
section
variable {nb n m : Nat} {val val' : List Nat} {s : PS}
theorem G98.up (h : G98 nb n val s) (e : n ≤ m) : G98 nb m val s := ⟨h.g, h.rt, h.w, h.nb, h.lim.up e⟩
theorem G98.req (h : G98 nb n val s) {q : Rq} (hq : q.ok nb) : ∃ a s1, doR q s = .ok a s1 ∧ G98 nb (n + 11) (stepV val q) s1 ∧ ∀ b, q = .rd b → a = .val (val.getD b 0) := by
  have hq' : q.ok s.nb := by rw [h.nb]; exact hq
  obtain ⟨a, s1, e, g1, f1, l1, fx, r1⟩ := do_rt h.g h.w h.rt hq'
  obtain ⟨a', s1', e', _, _, _, _, _, k⟩ := do0 h.g h.w hq'
  rw [e] at e'
  cases e'
  obtain ⟨_, _, _, _, _, _, _, _, ex⟩ := fx
  exact ⟨a, s1, e, ⟨g1, r1, by rw [ex]; exact h.w, by rw [ex]; exact h.nb, l1 _ h.lim⟩, k⟩
end
/-! ### != of two dicts that are equal, their values tuples of what is flat -/
section
open PySem PySem.Spec PyProof.Rows PySem.W
def rNeDQ (K : PySem.W.Frag) : R2 := fun x y H Q => ∃ a b ks ls, x = .ref a ∧ y = .ref b ∧ H a = some (.dK ks) ∧ H b = some (.dK ls) ∧ ks.length = ls.length ∧ (∀ p ∈ ks, ∃ u d, valV ls p.1 = some u ∧ Dp K H p.2 d ∧ Dp K H u d ∧ SeqAt.shaped d = true) ∧ Q (.bl false) H
theorem keqhits_run {A : Around} {s : Shared} {F : V → V → Prop} (ih : ∀ x y v u, F x y → RelV x v → RelV y u → SeqAt.EqAt A s v u true) {ls : List (Key × V)} {vb : List (Key × Value)} (rb : KV ls vb) {ks : List (Key × V)} {va : List (Key × Value)}
    (ra : KV ks va) : (∀ p ∈ ks, ∃ u, valV ls p.1 = some u ∧ F p.2 u) → KeqHits A s vb va true := by
  unfold KV at ra
  induction ra with
  | nil => intro _; exact .nil
  | @cons p q ps qs h t k =>
    intro hp
    obtain ⟨h1, h2⟩ := h
    obtain ⟨u, e, f⟩ := hp p List.mem_cons_self
    have rr : RelO (some u) (valueAt vb p.1) := by rw [← e]; exact rb.val p.1
    obtain ⟨y, hy, ry⟩ := rr.some_of
    obtain ⟨key, v⟩ := q
    have h1' : p.1 = key := h1
    rw [h1'] at hy
    show KeqHits A s vb ((key, v) :: qs) (true && true)
    exact .hit hy (ih _ _ _ _ f h2 ry) (k fun p' hm => hp p' (List.mem_cons_of_mem _ hm))
theorem op_neDQ {X : Cx} (hu : X.A.units + 66 < cLine) : OpR X (compareOp .NotEq) (rNeDQ X.K) := by
  intro pins s σ H x y v u Q I rx ry h
  obtain ⟨a, b, ks, ls, rfl, rfl, ha, hb, hl, hp, q⟩ := h
  cases (show v = Value.ref a from rx)
  cases (show u = Value.ref b from ry)
  obtain ⟨_, ya, va, ra, da⟩ := (show ObjOk X.prog X.w H s.heap a (.dK ks) from I.hok a _ ha)
  obtain ⟨_, yb, vb, rb, db⟩ := (show ObjOk X.prog X.w H s.heap b (.dK ls) from I.hok b _ hb)
  have e : va.length = vb.length := by rw [← ra.length, ← rb.length]; exact hl
  refine keq_ne (knd := mixKind X.prog X.w) (r := true) ya yb da db (by omega) (fun _ => keqhits_run (F := fun p u => ∃ d, Dp X.K H p d ∧ Dp X.K H u d ∧ SeqAt.shaped d = true) (fun p u v y hf rv ry => ?_) rb ra fun p hm => ?_) ?_
  · obtain ⟨d, d1, d2, sd⟩ := hf
    obtain ⟨as, r1⟩ := Dp.reads I d p v d1 rv
    obtain ⟨bs, r2⟩ := Dp.reads I d u y d2 ry
    have k := keq_at (A := X.A.in1) r1 r2 sd sd (by show X.A.units + 1 + 1 + 64 < cLine; omega)
    rw [SeqAt.eqv_refl d (SeqAt.canLay_of_shaped sd)] at k
    exact k.of_in1
  · obtain ⟨u, d, h1, h2, h3, h4⟩ := hp p hm
    exact ⟨u, h1, d, h2, h3, h4⟩
  · rw [show (!(va.length == vb.length && true)) = false from by rw [e]; simp]
    exact ⟨.bl false, H, I, rfl, q⟩
theorem units3 {k : Nat} {A : Around} (r : Room k A) : A.units + 66 < cLine := by have := r.un; omega
end
/-! ### a request that may fail -/
def spDoG (c : Cl) (X : Addr) : Sp := fun vs H Q E => ∃ (P : Pp) (ks : List Kp) (s : PS) (t : Addr) (q : Rq), vs = [.ref P.p, .ref t] ∧ PairAt c H P ks s ∧ WF s ∧ Cel s ∧ s.on = true ∧ Lim 680 s ∧ (∀ z ∈ s.rcs, z.length ≤ 8) ∧ H t = some (.tup (rqV q)) ∧ q.ok s.nb ∧ Go c X H P ks Q E (fun (a : Ans) _ _ v => v = a.v) (doR q s)
section
variable {P : Program} {w : World} {K : PySem.W.Frag} {mg : Str → Option Value} {base : Heap} {file : Str}
theorem ok_doG (HP : ProgOk P file) (T : Gx K mg) (hf : file = T.file) : FnOk P w K mg base (L2N.CX P w) 10 T.f__law_do T.fd__law_do ["_law_pair_here", "_law_request_here"] (spDoG (clT T) T.C_PowerFailed) := by
  have G_Pair_read := ok_readP (w := w) (base := base) HP T hf
  have G_Pair_write := ok_writeP (w := w) (base := base) HP T hf
  refine FunOkC T.F__law_do sc__law_do (fun vs H Q E h => ?_) (fun cdv A outer s H vs Q E hr h => ?_)
  · obtain ⟨P, ks, s, t, q, rfl, _⟩ := h
    rfl
  · obtain ⟨P, ks, s, t, q, rfl, hP, wf, ce, on, hl, hrc, ht, hq, k⟩ := h
    refine ⟨_, (pss_one (ps_ret (pe_ifExp (pt_cmpR op_eq (pe_ix ix_tup (pv 1) pe_int (fun _ _ => rfl)) pe_str (nomark _)) (pe_meth (pv 0) T.cl_Pair T.m_Pair_read G_Pair_read (hr.mono (by first | decide | omega)) (b_Pair_read T) .nil (L2N.passes_call (L2N.takes_of rfl rfl rfl rfl) (fun _ _ _ _ h => h)) (pa_cons (pe_ix ix_tup (pv 1) pe_int (fun _ _ => rfl)) pa_nil)) (pe_meth (pv 0) T.cl_Pair T.m_Pair_write G_Pair_write (hr.mono (by first | decide | omega)) (b_Pair_write T) .nil (L2N.passes_call (L2N.takes_of rfl rfl rfl rfl) (fun _ _ _ _ h => h)) (pa_cons (pe_ix ix_tup (pv 1) pe_int (fun _ _ => rfl)) (pa_cons (pe_ix ix_tup (pv 1) pe_int (fun _ _ => rfl)) pa_nil)))))), ?_⟩
    cases q with
    | rd b =>
      rw [doR_rd] at k
      refine ⟨_, rfl, _, _, (0 : Int), _, rfl, rfl, SqT.of ht, rfl, rfl, _, rfl, iteTb (decide_eq_true rfl) ?_⟩
      refine ⟨_, rfl, P.p, P.px, _, rfl, hP.ins, pF_no_read, _, rfl, _, _, (1 : Int), _, rfl, rfl, SqT.of ht, rfl, P, ks, s, b, rfl, hP, wf, ce, on, hl.up (by omega), hq, ?_⟩
      cases er : readR b s with
      | pf bb z =>
        rw [er] at k
        exact k
      | ok n z =>
        rw [er] at k
        rintro H8 P8 ks8 v8 c8 rfl
        exact k H8 P8 ks8 _ c8 rfl
    | wr b v =>
      rw [doR_wr] at k
      refine ⟨_, rfl, _, _, (0 : Int), _, rfl, rfl, SqT.of ht, rfl, rfl, _, rfl, iteFb (decide_eq_false (fun z => absurd (V.str.inj z) (by decide +kernel))) ?_⟩
      refine ⟨_, rfl, P.p, P.px, _, rfl, hP.ins, pF_no_write, _, rfl, _, _, (1 : Int), _, rfl, rfl, SqT.of ht, rfl, _, rfl, _, _, (2 : Int), _, rfl, rfl, SqT.of ht, rfl, P, ks, s, b, v, rfl, hP, wf, on, hl.up (by omega), hq.1, hq.2, hrc, ?_⟩
      cases er : writeR b v s with
      | pf bb z =>
        rw [er] at k
        exact k
      | ok n z =>
        rw [er] at k
        rintro H8 P8 ks8 v8 c8 rfl
        exact k H8 P8 ks8 _ c8 rfl
end
/-! ### kinds of an error -/
theorem kit_own {K : PySem.W.Frag} {C : Addr} {t : Value} {b : Bool} (hc : PySem.W.isClsIn K C = true) (ht : PySem.W.typeIn K (.ref C) = some (.type "type")) (hs : PySem.W.subIn K t (.ref C) = some b) (hne : (t == .ref C) = true → b = true) : PySem.W.kitOne K t (.ref C) = some b := by
  unfold PySem.W.kitOne
  split
  · rename_i e
    rw [hne e]
  · unfold PySem.W.kitCls
    have h1 : (PySem.W.clsIn K C).isSome = true := hc
    simp only [h1, ht, beq_self_eq_true, Bool.and_true, if_true]
    exact hs
theorem ne_of_sub {K : PySem.W.Frag} {D X : Addr} (h1 : PySem.W.subIn K (.ref D) (.ref X) = some false) (h2 : PySem.W.subIn K (.ref D) (.ref D) = some true) (e : (Value.ref D == Value.ref X) = true) : false = true := by
  have e' : D = X := by simpa using e
  rw [← e', h2] at h1
  cases h1
theorem kit_ve {K : PySem.W.Frag} {D : Addr} (h : PySem.W.subIn K (.ref D) (.type "ValueError") = some true) : PySem.W.kitOne K (.ref D) (.type "ValueError") = some true := by
  unfold PySem.W.kitOne
  rw [if_neg (by simp)]
  unfold PySem.W.kitCls
  simp only [h]
  first
    | rfl
    | simp
def suiteOf : List Stmt → List Stmt
  | .Try _ (.ExceptHandler _ _ s _ :: _) _ _ _ :: _ => s
  | _ => []
section
open PySem.W
theorem pe_isi {X : Cx} {D a C : Addr} {oe : Obj} {d : Option Addr} {i : Nat} {x c : Str} {b : Bool} {p p1 p2 pos : Pos} (hE : ExcC X.K D) (hC : Cgt X D a oe d) (hg : Gl X "isinstance") (hm : X.mg "isinstance" = none) (hN : X.N[i]? = some x) (hv : Vis X.env.scope x) (hgC : Gl X c) (hmC : X.mg c = some (.ref C)) (kit : kitOne X.K (.ref D) (.ref C) = some b)
    (hd : (x == ("__debug__" : Str)) = false := by decide) (hcd : (x == ("__classdict__" : Str)) = false := by decide) (hdc : (c == ("__debug__" : Str)) = false := by decide) : PE X (.Call (.Name "isinstance" p) [.Name x p1, .Name c p2] [] pos) (fun σ H Q => (σ[i]? = some (some (.ref a)) ∧ ∃ fs, FldsAt H d fs) ∧ Q (.bl b) H) := by
  refine ⟨fun pins s σ H Q I h => PE.run (pe_callB (call_isC hE hC) hg hm (by decide +kernel) (pa_cons (pe_var hN hv hd hcd) (pa_cons (pe_glob (v := .ref C) hgC hmC rfl hdc) pa_nil))) pins s σ H Q I ?_⟩
  obtain ⟨⟨h1, fs, hf⟩, q⟩ := h
  exact ⟨_, h1, _, .ref C, _, fs, rfl, hf, (fun _ z => z), kit, q⟩
end
/-! ### what the law's _law_power_of tells -/
section
variable {P : Program} {w : World} {K : PySem.W.Frag} {mg : Str → Option Value} {base : Heap}
theorem takesN0 {X : Cx} : L2N.Takes X (fun _ _ _ _ => False) := fun _ _ x => by
  obtain ⟨_, _, _, _, _, _, _, _, _, _, _, _, _, _, _, _, z⟩ := x
  exact z.elim
/-- how a call that is asked about may fail -/
def PowEnd (T : Gx K mg) (cls : Value) (d : Option Addr) (H : Hp) (Q : VK) : Prop := cls = .ref T.C_PowerFailed ∧ ∃ b : Bool, d ≠ none ∧ FldsAt H d [("is_done", .bl b)] ∧ ∀ (t : Addr) (H'' : Hp), H t = none → Fr [] H H'' → H'' t = some (.tup [.str "failed", .bl b]) → Q (.ref t) H''
def spPow (P : Program) (w : World) (base : Heap) (T : Gx K mg) : SpS := fun vs outer s H Q _ => ∃ (f : Addr) (F : LF) (fr : List Str) (ws : List (Option V)) (lp : List (Option V) → Hp → VK → XK → Prop), vs = [.ref f] ∧ LOk P w K mg base (L2N.CX P w) 12 f F fr lp ∧ Act f F fr ws (frs outer) s H ∧
  ∀ (Q' : VK) (E' : XK), (∀ v H', Q .non H' → Q' v H') → (∀ cls d H', PowEnd T cls d H' Q → E' cls d H') → lp ws H Q' E'
theorem ok_powerOf (T : Gx K mg) : FnS P w K mg base C8.CX0 14 T.f__law_power_of ["_law_call"] (spPow P w base T) := by
  refine FunOkS T.F__law_power_of (b__law_power_of T) sc__law_power_of (fun vs o s H Q E h => by obtain ⟨f, F, fr, ws, lp, rfl, _⟩ := h; rfl) (fun cdv A outer s H vs Q E hr h => ?_)
  obtain ⟨f, F, fr, ws, lp, rfl, L, a0, hlp⟩ := h
  refine ⟨_, pss_cons (L2N.ps_try_as (i := 1) (c := .ref T.C_PowerFailed) (Wout := fun _ _ _ _ => False) (ts := fun a cls d D σ H => (∃ (x : V), σ = [some x, some (.ref a)]) ∧ PowEnd T cls d H D.rt) rfl rfl sc__law_power_of.nd rfl rfl ⟨by rfl, by decide, .inl T.gC_PowerFailed⟩ takesN0
    (fun W pn xe tk po => pss_one (ps_expr (pe_act (i := 0) L a0 rfl (hr.mono (by decide)) (fun σ => L2N.passAt tk σ) rfl (by first | exact Or.inl rfl | exact Or.inr (Or.inl rfl) | exact Or.inr (Or.inr rfl)))))
    (fun a oe cls d pn hz hf => ⟨fun pins s' σ H' D I h => ?_⟩)) (pss_one (ps_ret pe_non)), ?_⟩
  · obtain ⟨⟨x, rfl⟩, rfl, b, hd, hfl, k⟩ := h
    have hX : PySem.W.Frag → XfC K T.C_PowerFailed := fun _ => ⟨T.E_PowerFailed.hg, T.E_PowerFailed.hk, T.E_PowerFailed.hs, T.E_PowerFailed.hd⟩
    refine PSs.run (pss_one (ps_ret (pe_tup (pa_cons pe_str (pa_cons (pe_fldC (hX K) T.no_PowerFailed_is_done ⟨List.mem_cons_self, hz, hf⟩ (pv 1)) pa_nil))))) pins s' _ H' D I ?_
    exact ⟨_, rfl, rfl, _, _, hd, hfl, rfl, sz_le (by simp), fun t ht => k t _ ht (Fr.new ht) upd_same⟩
  · refine ⟨rfl, a0.lv, hlp _ _ (fun v H' q => q) (fun cls d H' he => ⟨true, by rw [he.1]; exact PySem.W.exm_ref T.E_PowerFailed.hs T.E_PowerFailed.hd T.ty_PowerFailed T.sb_PowerFailed_PowerFailed, fun _ a ha => ⟨⟨.ref f, rfl⟩, he⟩, fun z => by cases z⟩)⟩
end
/-! ### what is pending: all of it -/
def pfL (s : PS) : List (Nat × Option Rc) := match s.fa with
  | none => []
  | some d => d.ps
/-- a list of tuples of a cell and what goes there -/
def PdL {α : Type} (R : Hp → V → α → Prop) (H : Hp) (l : Addr) (ps : List (Nat × α)) : Prop := ∃ (ts : List Addr) (vs : List (Nat × V)), H l = some (.lst (ts.map V.ref)) ∧ Pend H ts vs ∧ All2 (R H) (vs.map Prod.snd) (ps.map Prod.snd) ∧ vs.map Prod.fst = ps.map Prod.fst
theorem PdL.keep0 {α : Type} {R : Hp → V → α → Prop} (hR : Stays R) {H H' : Hp} {l : Addr} {ps : List (Nat × α)} (h : PdL R H l ps) (f : Fr [] H H') : PdL R H' l ps := by
  obtain ⟨ts, vs, e, p, a, b⟩ := h
  exact ⟨ts, vs, f _ _ e (by simp), p.keep f (by simp), a.imp fun v x r => hR [] H H' v x r f (by simp), b⟩
structure PdAt (H : Hp) (t : Addr) (s : PS) : Prop where
  ex : ∃ la lb : Addr, H t = some (.tup [.ref la, .ref lb]) ∧ PdL SV H la s.sl.ps ∧ PdL RV H lb (pfL s)
theorem PdAt.keep0 {H H' : Hp} {t : Addr} {s : PS} (h : PdAt H t s) (f : Fr [] H H') : PdAt H' t s := by
  obtain ⟨la, lb, e, p, q⟩ := h.ex
  exact ⟨la, lb, f _ _ e (by simp), p.keep0 stSV f, q.keep0 stRV f⟩
def spPend2 (c : Cl) : Sp := fun vs H Q _ => ∃ (P : Pp) (ks : List Kp) (s : PS), vs = [.ref P.p] ∧ PairAt c H P ks s ∧ ∀ (t : Addr) (H' : Hp), H t = none → Fr [] H H' → PdAt H' t s → Q (.ref t) H'
section
variable {P : Program} {w : World} {K : PySem.W.Frag} {mg : Str → Option Value} {base : Heap}
theorem ok_pend2 (T : Gx K mg) : FnOk P w K mg base CX0 3 T.f_Pair_pending T.fd_Pair_pending ["self"] (spPend2 (clT T)) := by
  have G_Disk_pending : FnOk P w K mg base CX0 1 T.f_Disk_pending T.fd_Disk_pending ["self"] (spPending T.C_Disk) := ok_pending T
  refine T.F_Pair_pending.ok sc_Pair_pending (fun vs H Q E h => ?_) (fun cdv A outer s H vs Q E hr h => ?_)
  · obtain ⟨P, ks, s, rfl, _⟩ := h
    rfl
  · obtain ⟨P, ks, s, rfl, hP, k⟩ := h
    refine ⟨_, (pss_one (ps_ret (pe_tup (pa_cons (pe_prop (pe_fld (pv 0) rfl) T.cl_Disk T.P_Disk_pending G_Disk_pending (hr.mono (by first | decide | omega)) (b_Disk_pending T) .nil pass0 rfl) (pa_cons (pe_ifExp (pt_cmpR op_isN (pe_fld (pv 0) rfl) pe_non (nomark _)) (pe_lst pa_nil) (pe_prop (pe_fld (pv 0) rfl) T.cl_Disk T.P_Disk_pending G_Disk_pending (hr.mono (by first | decide | omega)) (b_Disk_pending T) .nil pass0 rfl)) pa_nil))))), ?_⟩
    obtain ⟨cs, ls, ps, hD, a1, a2, a3, a4, a5⟩ := id hP.slo
    refine ⟨_, rfl, P.p, T.C_Pair, P.px, _, _, rfl, hP.ins, T.cl_Pair, T.n_Pair__slow, pF_get3, P.S.p, P.S.dx, _, rfl, hD.ins, P.S, cs, ls, ps, _, _, _, rfl, hD, fun la ts hla hp => ?_⟩
    have c1 := (Ch.refl hP).keep0 (Fr.new (o := .lst (ts.map V.ref)) hla)
    have hP1 := c1.at_
    have f1 : Fr [] H (upd H la (.lst (ts.map V.ref))) := Fr.new hla
    have pd1 : PdL SV (upd H la (.lst (ts.map V.ref))) la s.sl.ps := ⟨ts, ps, upd_same, hp.keep f1 (by simp), a3.imp fun v x r => stSV [] _ _ v x r f1 (by simp), a4⟩
    have hb0 : ∀ {b : Addr}, (upd H la (.lst (ts.map V.ref))) b = none → H b = none ∧ b ≠ la := fun h => free_upd h
    generalize upd H la (.lst (ts.map V.ref)) = H1 at *
    refine ⟨_, rfl, P.p, T.C_Pair, P.px, _, _, rfl, hP1.ins, T.cl_Pair, T.n_Pair__fast, pF_get4, rfl, _, rfl, ?_⟩
    cases hd : s.fa with
    | none =>
      have e0 : pfL s = [] := by unfold pfL; rw [hd]
      rw [fv_none (hP1.nofast hd)]
      refine iteT ⟨sz_le (by simp), fun lb hlb => ⟨sz_le (by simp), fun t ht => ?_⟩⟩
      have f2 : Fr [] H1 (upd (upd H1 lb (.lst [])) t (.tup [.ref la, .ref lb])) := (Fr.new hlb).trans (Fr.new ht)
      refine k t _ (hb0 (free_upd ht).1).1 (f1.trans f2) ⟨la, lb, upd_same, pd1.keep0 stSV f2, [], [], (upd_ne (free_upd ht).2.symm).trans upd_same, ⟨rfl, fun i t q h => (by simp at h)⟩, ?_, by rw [e0]; rfl⟩
      rw [e0]
      exact ⟨rfl, fun i v a h => (by simp at h)⟩
    | some d =>
      have e0 : pfL s = d.ps := by unfold pfL; rw [hd]
      obtain ⟨D, eD, cs1, ls1, ps1, hF, b1, b2, b3, b4, b5⟩ := hP1.fast hd
      rw [fv_some eD]
      refine iteF ⟨_, rfl, P.p, T.C_Pair, P.px, _, _, rfl, hP1.ins, T.cl_Pair, T.n_Pair__fast, pF_get4, D.p, D.dx, _, fv_some eD, hF.ins, D, cs1, ls1, ps1, _, _, _, (by first | rfl | rw [fv_some eD]), hF, fun lb ts1 hlb hp1 => ⟨sz_le (by simp), fun t ht => ?_⟩⟩
      have f2 : Fr [] H1 (upd (upd H1 lb (.lst (ts1.map V.ref))) t (.tup [.ref la, .ref lb])) := (Fr.new hlb).trans (Fr.new ht)
      refine k t _ (hb0 (free_upd ht).1).1 (f1.trans f2) ⟨la, lb, upd_same, pd1.keep0 stSV f2, ts1, ps1, (upd_ne (free_upd ht).2.symm).trans upd_same, hp1.keep f2 (by simp), ?_, by rw [e0]; exact b4⟩
      rw [e0]
      exact b3.imp fun v x r => stRV [] _ _ v x r f2 (by simp)
end
/-! .. as data -/
def rcD (r : Rc) : PyData := .tuple [.int (r.blk : Int), .int (r.val : Int), .int (r.turn : Int), .bool r.dirty]
def oD : Option Rc → PyData
  | none => .none
  | some r => rcD r
def pdL {α : Type} (g : α → PyData) (ps : List (Nat × α)) : List PyData := ps.map fun p => .tuple [.int (p.1 : Int), g p.2]
def pdD (s : PS) : PyData := .tuple [.list (pdL (fun n : Nat => .int (n : Int)) s.sl.ps), .list (pdL oD (pfL s))]
section
variable {K : PySem.W.Frag} {H : Hp}
theorem rc_dp {t : Addr} {r : Rc} (h : H t = some (.tup r.vs)) : Dp K H (.ref t) (rcD r) := .tup (SqT.of h) (.cons (.int _) (.cons (.int _) (.cons (.int _) (.cons (.bl _) .nil))))
theorem pd_dpa {α : Type} {R : V → α → Prop} {g : α → PyData} (hg : ∀ v a, R v a → Dp K H v (g a)) : ∀ {ts : List Addr} {vs : List (Nat × V)} {ps : List (Nat × α)}, Pend H ts vs → All2 R (vs.map Prod.snd) (ps.map Prod.snd) → vs.map Prod.fst = ps.map Prod.fst → DpAll K H (ts.map V.ref) (pdL g ps)
  | [], [], [], _, _, _ => .nil
  | [], [], _ :: _, _, h, _ => by have := h.1; simp at this
  | [], _ :: _, _, h, _, _ => by have := h.1; simp at this
  | _ :: _, [], _, h, _, _ => by have := h.1; simp at this
  | _ :: _, _ :: _, [], _, h, _ => by have := h.1; simp at this
  | t :: ts, q :: vs, p :: ps, h, a, e => by
    have e0 : q.1 = p.1 := (List.cons.inj e).1
    have ht := h.2 0 t q rfl rfl
    have ha := a.2 0 q.2 p.2 rfl rfl
    refine .cons (.tup (SqT.of ht) (.cons ?_ (.cons (hg _ _ ha) .nil))) (pd_dpa hg ⟨Nat.succ.inj h.1, fun i u z x y => h.2 (i + 1) u z x y⟩ ⟨Nat.succ.inj a.1, fun i u z x y => a.2 (i + 1) u z x y⟩ (List.cons.inj e).2)
    rw [← e0]
    exact .int _
theorem PdAt.dp {t : Addr} {s : PS} (h : PdAt H t s) : Dp K H (.ref t) (pdD s) := by
  obtain ⟨la, lb, e, ⟨ts, vs, e1, p1, a1, b1⟩, ⟨us, ws, e2, p2, a2, b2⟩⟩ := h.ex
  refine .tup (SqT.of e) (.cons (.lst (SqL.of e1) (pd_dpa (fun v a r => ?_) p1 a1 b1)) (.cons (.lst (SqL.of e2) (pd_dpa (fun v a r => ?_) p2 a2 b2)) .nil))
  · have r' : v = .int (a : Int) := r
    rw [r']
    exact .int _
  · cases a with
    | none =>
      have r' : v = .non := r
      rw [r']
      exact .non
    | some rc =>
      obtain ⟨t, rfl, ht⟩ := (show ∃ t : Addr, v = .ref t ∧ H t = some (.tup rc.vs) from r)
      exact rc_dp ht
theorem lay_pd {α : Type} {g : α → PyData} (hg : ∀ a, PyData.canLay0 (g a) = true ∧ PyData.depth (g a) ≤ 3) : ∀ ps : List (Nat × α), PyData.canLayAll0 (pdL g ps) = true ∧ PyData.depthAll (pdL g ps) ≤ 6
  | [] => ⟨rfl, Nat.zero_le _⟩
  | p :: ps => by
    obtain ⟨h1, h2⟩ := lay_pd hg ps
    obtain ⟨h3, h4⟩ := hg p.2
    refine ⟨?_, ?_⟩
    · show (PyData.canLay0 (.tuple [.int (p.1 : Int), g p.2]) && PyData.canLayAll0 (pdL g ps)) = true
      rw [h1]
      simp [PyData.canLay0, PyData.canLayAll0, h3]
    · have hd : PyData.depth (.tuple [.int (p.1 : Int), g p.2]) ≤ 6 := by
        simp only [PyData.depth, PyData.depthAll]
        omega
      show PyData.depthAll (.tuple [.int (p.1 : Int), g p.2] :: pdL g ps) ≤ 6
      simp only [PyData.depthAll]
      omega
theorem shaped_pd (s : PS) : SeqAt.shaped (pdD s) = true := by
  obtain ⟨h1, h2⟩ := lay_pd (g := fun n : Nat => PyData.int (n : Int)) (fun a => ⟨rfl, by simp [PyData.depth]⟩) s.sl.ps
  obtain ⟨h3, h4⟩ := lay_pd (g := oD) (fun a => by
    cases a with
    | none => exact ⟨rfl, by simp [oD, PyData.depth]⟩
    | some r => exact ⟨rfl, by simp [oD, rcD, PyData.depth, PyData.depthAll]⟩) (pfL s)
  unfold SeqAt.shaped
  rw [Bool.and_eq_true, decide_eq_true_eq]
  unfold pdD
  refine ⟨by simp [PyData.canLay0, PyData.canLayAll0, h1, h3], ?_⟩
  simp only [PyData.depth, PyData.depthAll]
  omega
theorem eqv_pd (s : PS) : PyData.eqv (pdD s) (pdD s) = true := SeqAt.eqv_refl _ (SeqAt.canLay_of_shaped (shaped_pd s))
theorem shaped_rc (r : Rc) : SeqAt.shaped (rcD r) = true := by
  unfold SeqAt.shaped
  rw [Bool.and_eq_true, decide_eq_true_eq]
  exact ⟨rfl, by simp [rcD, PyData.depth, PyData.depthAll]⟩
end
/-! ### requests in a row, with and without a failure ahead -/
def stS (s : PS) (q : Rq) : PS := (doR q s).st
def runS (xs : List Rq) (s : PS) : PS := xs.foldl stS s
theorem runS_snoc (xs : List Rq) (q : Rq) (s : PS) : runS (xs ++ [q]) s = stS (runS xs s) q := by
  unfold runS
  rw [List.foldl_append]
  rfl
def rhR (s s1 : PS) : Prop := s1.reqs = s.reqs ∧ s1.hits = s.hits
theorem rh_cls : Cls0 rhR := ⟨fun _ => ⟨rfl, rfl⟩, fun h g => ⟨g.1.trans h.1, g.2.trans h.2⟩, fun _ _ _ _ => ⟨rfl, rfl⟩, fun _ => ⟨rfl, rfl⟩, fun _ _ _ => ⟨rfl, rfl⟩, fun _ => ⟨rfl, rfl⟩, fun _ => ⟨rfl, rfl⟩, fun _ _ _ => ⟨rfl, rfl⟩, fun _ => ⟨rfl, rfl⟩, fun _ => ⟨rfl, rfl⟩⟩
theorem begin_rh (b : Nat) (s : PS) : (beginS b s).reqs = s.reqs + 1 ∧ (beginS b s).hits = s.hits + (if (slotN s.kn b).isSome = true then 1 else 0) := by
  unfold beginS
  cases slotN s.kn b with
  | none => exact ⟨rfl, rfl⟩
  | some i => exact ⟨rfl, rfl⟩
theorem dcs_cls : Cls fun s s1 => s1.dc = s.dc where
  rf := fun _ => rfl
  tr := fun h g => g.trans h
  ch := fun _ _ _ _ => rfl
  off := fun _ => rfl
  wS := fun _ _ _ => rfl
  yS := fun _ => rfl
  rS := fun _ => rfl
  wF := fun _ _ _ => rfl
  yF := fun _ => rfl
  rF := fun _ => rfl
  bg := fun _ _ _ _ _ => rfl
theorem req_reqs (q : Rq) (s : PS) : (doR q s).st.reqs = s.reqs + 1 := by
  obtain ⟨b1, b2⟩ := begin_rh q.b s
  cases q with
  | rd b =>
    have key : rhR (beginS b s) (readR b s).st := by
      unfold readR
      split
      · exact rh_cls.rF _
      · split
        · exact rh_cls.tr (rh_cls.rS _) (rh_cls.bind rh_cls.takeR fun _ s2 => rh_cls.bind (rh_cls.wRec _ _) fun _ s3 => rh_cls.rf s3)
        · exact rh_cls.rS _
    rw [doR_rd]
    cases er : readR b s with
    | pf bb z => rw [er] at key; exact key.1.trans b1
    | ok n z => rw [er] at key; exact key.1.trans b1
  | wr b v =>
    have key : rhR (beginS b s) (writeR b v s).st := by
      unfold writeR
      exact rh_cls.tr (b := { beginS b s with turn := s.turn + 1 }) ⟨rfl, rfl⟩ (rh_cls.bind (rh_cls.chooseR _) fun ts s2 => rh_cls.bind (rh_cls.wordsR _ _ _ _) fun _ s3 => rh_cls.tailW _)
    rw [doR_wr]
    cases er : writeR b v s with
    | pf bb z => rw [er] at key; exact key.1.trans b1
    | ok n z => rw [er] at key; exact key.1.trans b1
section
variable {nb n : Nat} {val : List Nat} {s : PS}
/-- a request with none ahead, and with m steps left -/
theorem req_lk (h : G98 nb n val s) {q : Rq} (hq : q.ok nb) : ∃ a, doR q s = .ok a (stS s q) ∧ G98 nb (n + 11) (stepV val q) (stS s q) ∧ tot s ≤ tot (stS s q) ∧ (stS s q).reqs = s.reqs + 1 ∧ (stS s q).dc = s.dc ∧ (stS s q).fa.isSome = s.fa.isSome ∧
    ∀ m, (tot (stS s q) ≤ tot s + m → doR q (s.lf m) = .ok a ((stS s q).lf (tot s + m - tot (stS s q)))) ∧ (tot s + m < tot (stS s q) → ∃ b s', doR q (s.lf m) = .pf b s' ∧ tot s' = tot s + m ∧ Off s' ∧ s'.reqs = s.reqs + 1 ∧ s'.dc = s.dc ∧ s'.fa.isSome = s.fa.isSome) := by
  obtain ⟨a, s1, e, g1, _⟩ := h.req hq
  have hl := doR_lk h.g.lf h.g.wf (q := q) (by rw [h.nb]; exact hq)
  have es : stS s q = s1 := by unfold stS; rw [e]; rfl
  rw [es]
  rw [e] at hl
  obtain ⟨h1, h2, h3⟩ := hl
  have k1 : s1.dc = s.dc := st_ok (R := fun s s1 => s1.dc = s.dc) (dcs_cls.doR q) e
  have k2 : s1.fa.isSome = s.fa.isSome := fa_ok (fa_cls.doR q) e
  have k3 : s1.reqs = s.reqs + 1 := by
    have := req_reqs q s
    rw [e] at this
    exact this
  refine ⟨a, e, g1, h2, k3, k1, k2, fun m => ⟨fun hm => ?_, fun hm => ?_⟩⟩
  · exact (h3 m).1 hm
  · obtain ⟨b, s', e', t', o'⟩ := (h3 m).2 hm
    have e' : doR q (s.lf m) = .pf b s' := e'
    refine ⟨b, s', e', t', o', ?_, ?_, ?_⟩
    · have := req_reqs q (s.lf m)
      rw [e'] at this
      exact this
    · have := dcs_cls.doR (s := s.lf m) q
      rw [e'] at this
      exact this
    · have := fa_cls.doR (s := s.lf m) q
      rw [e'] at this
      exact this
/-- what writes and syncs the counts tell -/
theorem sum_cnt (hd : s.dc = [0, 0, 0, 0, 0, 0]) (hf : s.fa.isSome = true) : ∃ a b c d : Nat, (cntS s)[1]? = some (a : Int) ∧ (cntS s)[2]? = some (b : Int) ∧ (cntS s)[4]? = some (c : Int) ∧ (cntS s)[5]? = some (d : Int) ∧ a + b + c + d = tot s := by
  obtain ⟨d, e⟩ := Option.isSome_iff_exists.mp hf
  refine ⟨s.sl.w, s.sl.s, d.w, d.s, ?_, ?_, ?_, ?_, ?_⟩
  · unfold cntS; rw [hd]; show some (0 + (s.sl.w : Int)) = _; rw [Int.zero_add]
  · unfold cntS; rw [hd]; show some (0 + (s.sl.s : Int)) = _; rw [Int.zero_add]
  · unfold cntS fcnt; rw [hd, e]; show some (0 + (d.w : Int)) = _; rw [Int.zero_add]
  · unfold cntS fcnt; rw [hd, e]; show some (0 + (d.s : Int)) = _; rw [Int.zero_add]
  · unfold tot fTot
    rw [e]
    show s.sl.w + s.sl.s + d.w + d.s = s.sl.w + s.sl.s + (d.w + d.s)
    omega
end
/-! ### pairs stay where a lambda is made -/
section
open LamX NdefX
variable {H H' : Hp}
def StaysN {α : Type} (R : Hp → V → α → Prop) : Prop := ∀ (H H' : Hp) (v : V) (a : α), R H v a → ExtN H H' → R H' v a
theorem svN : StaysN SV := fun _ _ _ _ h _ => h
theorem rvN : StaysN RV := fun H H' v a h e => by
  cases a with
  | none => exact h
  | some rc =>
    obtain ⟨t, e1, e2⟩ := (show ∃ t : Addr, v = .ref t ∧ H t = some (.tup rc.vs) from h)
    exact ⟨t, e1, e _ _ e2 (fun _ z => by cases z)⟩
theorem Pend.extN {ts : List Addr} {ps : List (Nat × V)} (h : Pend H ts ps) (e : ExtN H H') : Pend H' ts ps := ⟨h.1, fun i t q a b => e _ _ (h.2 i t q a b) (fun _ z => by cases z)⟩
theorem DiskAt.extN {C : Addr} {D : Dk} {cs ls : List V} {ps : List (Nat × V)} {r w s : Int} (h : DiskAt C H D cs ls ps r w s) (e : ExtN H H') : DiskAt C H' D cs ls ps r w s := by
  obtain ⟨ts, e1, p1⟩ := h.pend
  exact ⟨e _ _ h.ins (fun _ z => by cases z), e _ _ h.cs_ (fun _ z => by cases z), e _ _ h.ls_ (fun _ z => by cases z), ⟨ts, e _ _ e1 (fun _ z => by cases z), p1.extN e⟩, h.cl, h.cd, h.ld, h.len, h.small, h.ok⟩
theorem DiskR.extN {α : Type} {C : Addr} {R : Hp → V → α → Prop} {D : Dk} {d : DS α} (hR : StaysN R) (h : DiskR C R H D d) (e : ExtN H H') : DiskR C R H' D d := by
  obtain ⟨cs, ls, ps, hD, a1, a2, a3, a4, a5⟩ := h
  exact ⟨cs, ls, ps, hD.extN e, a1.imp fun v a r => hR _ _ v a r e, a2.imp fun v a r => hR _ _ v a r e, a3.imp fun v a r => hR _ _ v a r e, a4, a5⟩
theorem MemAt.extN {CM CK : Addr} {M : Mm} {n : Nat} {ks : List Kp} (h : MemAt CM CK H M n ks) (e : ExtN H H') : MemAt CM CK H' M n ks :=
  ⟨e _ _ h.ins (fun _ z => by cases z), e _ _ h.dct (fun _ z => by cases z), fun q hq => e _ _ (h.one q hq) (fun _ z => by cases z), fun q hq => e _ _ (h.rcd q hq) (fun _ z => by cases z), h.dis, h.sl, h.lt, h.few⟩
theorem FasAt.extN {C : Addr} {F : Option Dk} {fa : Option (DS (Option Rc))} (h : FasAt C H F fa) (e : ExtN H H') : FasAt C H' F fa := by
  cases F with
  | none =>
    cases fa with
    | none => trivial
    | some d => exact h.elim
  | some D =>
    cases fa with
    | none => exact h.elim
    | some d => exact DiskR.extN rvN h e
theorem RecAt.extN {C p : Addr} {z : List (List Str)} (h : RecAt C H p z) (f : ExtN H H') : RecAt C H' p z := by
  obtain ⟨dx, a, b, c, d, za, zb, zc, zd, e, e1, e2, e3, e4, e5, g⟩ := h
  exact ⟨dx, a, b, c, d, za, zb, zc, zd, e, f _ _ e1 (fun _ z => by cases z), f _ _ e2 (fun _ z => by cases z), f _ _ e3 (fun _ z => by cases z), f _ _ e4 (fun _ z => by cases z), f _ _ e5 (fun _ z => by cases z), g⟩
theorem PairAt.extN {c : Cl} {P : Pp} {ks : List Kp} {s : PS} (h : PairAt c H P ks s) (e : ExtN H H') : PairAt c H' P ks s :=
  ⟨e _ _ h.ins (fun _ z => by cases z), e _ _ h.rul (fun _ z => by cases z), e _ _ h.ded (fun _ z => by cases z), h.slo.extN svN e, h.fas.extN e, h.mem.extN e, h.kno, h.sSF, h.sSM, h.sFM, h.pS, h.pF_, h.pM, h.rO, h.rcp.extN e, h.qO⟩
theorem Rnd.extN {r : Addr} (h : Rnd H r) (e : ExtN H H') : Rnd H' r := by
  obtain ⟨a, b, ns, er⟩ := h
  exact ⟨a, b, ns, e _ _ er (fun _ z => by cases z)⟩
theorem LW.extN {r : Addr} {os ts : List (Addr × List V)} (h : LW H r os ts) (e : ExtN H H') : LW H' r os ts := ⟨h.rnd.extN e, fun p hp => e _ _ (h.lst p hp) (fun _ z => by cases z), fun p hp => e _ _ (h.tup p hp) (fun _ z => by cases z), h.nr⟩
theorem LM.extN {c : Cl} {r : Addr} {os ts : List (Addr × List V)} {L : List E3} (h : LM c H r os ts L) (e : ExtN H H') : LM c H' r os ts L := ⟨h.w.extN e, fun x m => (h.at_ x m).extN e, h.rO, h.oO, h.dj⟩
/-! the table of codes stays where what is a pair's own changes -/
def NoTab (o : HO) : Prop := (∀ ps, o ≠ .tbl ps) ∧ ∀ φ, o ≠ .ext φ
theorem DiskAt.noTab {C : Addr} {D : Dk} {cs ls : List V} {ps : List (Nat × V)} {r w s : Int} (h : DiskAt C H D cs ls ps r w s) : ∀ b ∈ D.own, ∀ o, H b = some o → NoTab o := by
  obtain ⟨ts, e, _⟩ := h.pend
  intro b hb o ho
  simp only [Dk.own, List.mem_cons, List.not_mem_nil, or_false] at hb
  rcases hb with rfl | rfl | rfl | rfl
  · rw [h.ins] at ho; cases ho; exact ⟨fun _ z => (by cases z), fun _ z => (by cases z)⟩
  · rw [h.cs_] at ho; cases ho; exact ⟨fun _ z => (by cases z), fun _ z => (by cases z)⟩
  · rw [h.ls_] at ho; cases ho; exact ⟨fun _ z => (by cases z), fun _ z => (by cases z)⟩
  · rw [e] at ho; cases ho; exact ⟨fun _ z => (by cases z), fun _ z => (by cases z)⟩
theorem PairAt.noTab {c : Cl} {P : Pp} {ks : List Kp} {s : PS} (h : PairAt c H P ks s) : ∀ b ∈ P.own ks, ∀ o, H b = some o → NoTab o := by
  intro b hb o ho
  rcases own_cases hb with rfl | hb | hb | hb
  · rw [h.ins] at ho; cases ho; exact ⟨fun _ z => (by cases z), fun _ z => (by cases z)⟩
  · obtain ⟨_, _, _, hD, _⟩ := id h.slo
    exact hD.noTab b hb o ho
  · rw [P.fo_eq] at hb
    have hf := h.fas
    cases eF : P.F with
    | none => rw [eF] at hb; cases hb
    | some D =>
      rw [eF] at hb hf
      cases ef : s.fa with
      | none => rw [ef] at hf; exact hf.elim
      | some d =>
        rw [ef] at hf
        obtain ⟨_, _, _, hD, _⟩ := id hf
        exact hD.noTab b hb o ho
  · have hm := h.mem
    simp only [Mm.own, List.mem_cons, List.mem_map] at hb
    rcases hb with rfl | rfl | ⟨q, hq, rfl⟩
    · rw [hm.ins] at ho; cases ho; exact ⟨fun _ z => (by cases z), fun _ z => (by cases z)⟩
    · rw [hm.dct] at ho; cases ho; exact ⟨fun _ z => (by cases z), fun _ z => (by cases z)⟩
    · rw [hm.one q hq] at ho; cases ho; exact ⟨fun _ z => (by cases z), fun _ z => (by cases z)⟩
theorem tab_fr {S : List Addr} {T : List NTab} (t : TabsN T H) (f : Fr S H H') (hS : ∀ b ∈ S, ∀ o, H b = some o → NoTab o) : TabsN T H' := fun p hp => by
  obtain ⟨ps, h1, h2, h3⟩ := t p hp
  refine ⟨ps, f _ _ h1 (fun z => (hS _ z _ h1).1 _ rfl), h2, fun pos cv hc => ?_⟩
  obtain ⟨c, e1, e2⟩ := h3 pos cv hc
  refine ⟨c, e1, f _ _ e2 (fun z => ?_)⟩
  have := (hS _ z _ e2).2
  unfold CodeO at this
  exact this _ rfl
theorem tab_rnd {r : Addr} {T : List NTab} (t : TabsN T H) (R : Rnd H r) (f : Fr [r] H H') : TabsN T H' := tab_fr t f fun b hb o ho => by
  obtain ⟨a, b', ns, er⟩ := R
  rw [List.mem_singleton.mp hb, er] at ho
  cases ho
  exact ⟨fun _ z => (by cases z), fun _ z => (by cases z)⟩
theorem tab0 {T : List NTab} (t : TabsN T H) (f : Fr [] H H') : TabsN T H' := tab_fr t f fun b hb => by cases hb
end
/-! ### what is asked of things that are no words -/
theorem units2 {k : Nat} {A : Around} (r : Room k A) : A.units + 65 < cLine := by
  have := r.un
  omega
def rNotInT (K : PySem.W.Frag) : R2 := fun x y H Q => ∃ d ds, Dp K H x d ∧ Dp K H y (.tuple ds) ∧ SeqAt.shaped d = true ∧ SeqAt.shaped (.tuple ds) = true ∧ Q (.bl (!ds.any fun z => PyData.eqv z d)) H
section
open PyProof.Rows
theorem op_notInT {X : Cx} (hu : X.A.units + 65 < cLine) : OpR X (compareOp .NotIn) (rNotInT X.K) := by
  intro pins s σ H x y v u Q I rx ry h
  obtain ⟨d, ds, hd, he, sd, se, q⟩ := h
  obtain ⟨as, r1⟩ := Dp.reads I d x v hd rx
  obtain ⟨bs, r2⟩ := Dp.reads I (.tuple ds) y u he ry
  exact SeqAt.notIn_tuple_reads r2 r1 (SeqAt.canLay_of_shaped se) (SeqAt.canLay_of_shaped sd) (room_in_shaped sd hu) ⟨.bl _, H, I, rfl, q⟩
end
/-! ### the lambda of the law -/
section
open LamX NdefX
def lamA : Expr → Arguments
  | .Lambda a _ _ _ => a
  | _ => defArgs s_law
def lamB : Expr → Expr
  | .Lambda _ b _ _ => b
  | e => e
def lamS : Expr → Scope
  | .Lambda _ _ s _ => s
  | _ => defScope s_law
def forB : Stmt → List Stmt
  | .For _ _ b _ _ => b
  | _ => []
def ifT : Stmt → Expr
  | .If t _ _ _ => t
  | _ => .Tuple [] 0 ⟨0, 0, 0, 0⟩
def boolN (n : Nat) : Expr → Expr
  | .BoolOp _ vs _ => vs.getD n (.Tuple [] 0 ⟨0, 0, 0, 0⟩)
  | e => e
def cmpL : Expr → Expr
  | .Compare l _ _ _ => l
  | e => e
def callA : Expr → Expr
  | .Call _ (a :: _) _ _ => a
  | e => e
abbrev nthS (l : List Stmt) (n : Nat) : Stmt := l.getD n (.Pass ⟨0, 0, 0, 0⟩)
abbrev lam1 : Expr := callA (cmpL (boolN 1 (ifT (nthS (forB (nthS (defBody s_law) 12)) 0))))
def nmL : Nat → Nat → Str := fun _ _ => (PyProof.Rows.envOfC "law" (defScope s_law) 0 0 .none).qual ++ "<lambda>"
theorem hmL (P : Addr) : (P, nmL) ∈ [(P, nmL)] := List.mem_cons_self
theorem huL (P : Addr) : ∀ p ∈ [(P, nmL)], p.1 = P → p.2 = nmL := fun p hp _ => by rw [List.mem_singleton.mp hp]
theorem cap1 : ∀ y ∈ (lamS lam1).names, y.2 = .free → (defScope s_law).names.lookup y.1 = some .cell ∨ (defScope s_law).names.lookup y.1 = some .free := by decide +kernel
theorem free1 : ∀ y ∈ (["_law_pairs", "_law_request_here"] : List Str), (y, NameKind.free) ∈ (lamS lam1).names := by decide +kernel
variable {P : Program} {w : World} {K : PySem.W.Frag} {mg : Str → Option Value} {base : Heap}
def lpD (T : Gx K mg) : List (Option V) → Hp → VK → XK → Prop := fun ws H Q E => ∃ (PL tq p1 p2 : Addr) (P : Pp) (ks : List Kp) (s : PS) (q : Rq), ws = [some (.ref PL), some (.ref tq)] ∧ H PL = some (.lst [.ref p1, .ref p2, .ref P.p]) ∧ PairAt (clT T) H P ks s ∧ WF s ∧ Cel s ∧ s.on = true ∧ Lim 680 s ∧ (∀ z ∈ s.rcs, z.length ≤ 8) ∧
  H tq = some (.tup (rqV q)) ∧ q.ok s.nb ∧ Go (clT T) T.C_PowerFailed H P ks Q E (fun (a : Ans) _ _ v => v = a.v) (doR q s)
theorem lok_1 (T : Gx K mg) (HP : ProgOk P T.file) {f : Addr} {F : LF} (eb : F.body = lamB lam1) (es : F.scope = lamS lam1) (ep : F.params = lamA lam1) (ed : F.df.isSome = !(lamA lam1).defaults.isEmpty) : LOk P w K mg base (L2N.CX P w) 12 f F ["_law_pairs", "_law_request_here"] (lpD T) := by
  have G := ok_doG (w := w) (base := base) HP T rfl
  obtain ⟨q, pr, bd, sc, cl, c, df⟩ := F
  have eb' : bd = lamB lam1 := eb
  have es' : sc = lamS lam1 := es
  have ep' : pr = lamA lam1 := ep
  have ed' : df.isSome = false := ed
  subst eb' es' ep'
  obtain rfl : df = none := by cases df with
    | none => rfl
    | some t => cases ed'
  refine lok_of (k := 11) (N := ["_law_pairs", "_law_request_here"]) (lscope_by (show lscB ["_law_pairs", "_law_request_here"] (lamS lam1) = true from by decide +kernel)) (lbind0 fun pm ct => rfl) (fun A outer s H ws Q E hr L hl h => ?_)
  obtain ⟨PL, tq, p1, p2, Pr, ks, s, q, rfl, ePL, hP, wf, ce, on, lim, hrc, etq, hq, k⟩ := h
  refine ⟨_, pe_call G (hr.mono (by decide)) (by rfl) T.g__law_do T.F__law_do.kp (b__law_do T) .nil (L2N.passes_call (L2N.takes_of rfl rfl rfl rfl) (fun _ _ _ _ h => h)) (pa_cons (pe_ix ix_list (pv 0) pe_int (fun _ _ => rfl)) (pa_cons (pv 1) pa_nil)), ?_⟩
  exact ⟨_, rfl, PL, _, (2 : Int), _, rfl, rfl, SqL.of ePL, rfl, _, rfl, Pr, ks, s, tq, q, rfl, hP, wf, ce, on, lim, hrc, etq, hq, k⟩
end
/-! ### what the law holds -/
section
open LamX NdefX
abbrev rqT (rs : List (Addr × Rq)) : List (Addr × List V) := rs.map fun x => (x.1, rqV x.2)
abbrev rqR (rs : List (Addr × Rq)) : List V := rs.map fun x => V.ref x.1
structure K50 (c : Cl) (Pt : Addr) (H : Hp) (r RL PL p0 p1 p2 : Addr) (rs : List (Addr × Rq)) (e0 e1 e2 : E3) : Prop where
  q : LM c H r [(PL, [.ref p0, .ref p1, .ref p2]), (RL, rqR rs)] (rqT rs) [e0, e1, e2]
  tab : TabsN [(Pt, nmL)] H
  h0 : e0.P.p = p0
  h1 : e1.P.p = p1
  h2 : e2.P.p = p2
section
variable {c : Cl} {Pt : Addr} {H H' : Hp} {r RL PL p0 p1 p2 a : Addr} {rs : List (Addr × Rq)} {e0 e1 e2 : E3} {P' : Pp} {ks' : List Kp} {s' : PS}
theorem K50.a0 (h : K50 c Pt H r RL PL p0 p1 p2 rs e0 e1 e2) : PairAt c H e0.P e0.ks e0.s := h.q.at_ e0 List.mem_cons_self
theorem K50.a1 (h : K50 c Pt H r RL PL p0 p1 p2 rs e0 e1 e2) : PairAt c H e1.P e1.ks e1.s := h.q.at_ e1 (List.mem_cons_of_mem _ List.mem_cons_self)
theorem K50.a2 (h : K50 c Pt H r RL PL p0 p1 p2 rs e0 e1 e2) : PairAt c H e2.P e2.ks e2.s := h.q.at_ e2 (List.mem_cons_of_mem _ (List.mem_cons_of_mem _ List.mem_cons_self))
theorem K50.pl (h : K50 c Pt H r RL PL p0 p1 p2 rs e0 e1 e2) : H PL = some (.lst [.ref p0, .ref p1, .ref p2]) := h.q.w.hd
theorem K50.rl (h : K50 c Pt H r RL PL p0 p1 p2 rs e0 e1 e2) : H RL = some (.lst (rqR rs)) := h.q.w.tl.hd
theorem K50.rq (h : K50 c Pt H r RL PL p0 p1 p2 rs e0 e1 e2) {x : Addr × Rq} (m : x ∈ rs) : H x.1 = some (.tup (rqV x.2)) := h.q.w.tup (x.1, rqV x.2) (List.mem_map.mpr ⟨x, m, rfl⟩)
theorem K50.keep0 (h : K50 c Pt H r RL PL p0 p1 p2 rs e0 e1 e2) (f : Fr [] H H') : K50 c Pt H' r RL PL p0 p1 p2 rs e0 e1 e2 := ⟨h.q.keep0 f, tab0 h.tab f, h.h0, h.h1, h.h2⟩
theorem K50.draw (h : K50 c Pt H r RL PL p0 p1 p2 rs e0 e1 e2) (f : Fr [r] H H') (R : Rnd H' r) : K50 c Pt H' r RL PL p0 p1 p2 rs e0 e1 e2 := ⟨h.q.draw f R, tab_rnd h.tab h.q.w.rnd f, h.h0, h.h1, h.h2⟩
theorem K50.c0 (h : K50 c Pt H r RL PL p0 p1 p2 rs e0 e1 e2) (k : Ch c H e0.P e0.ks H' P' ks' s') : K50 c Pt H' r RL PL p0 p1 p2 rs ⟨P', ks', s'⟩ e1 e2 := ⟨h.q.ch (A := []) k, tab_fr h.tab k.fr h.a0.noTab, k.p.trans h.h0, h.h1, h.h2⟩
theorem K50.c1 (h : K50 c Pt H r RL PL p0 p1 p2 rs e0 e1 e2) (k : Ch c H e1.P e1.ks H' P' ks' s') : K50 c Pt H' r RL PL p0 p1 p2 rs e0 ⟨P', ks', s'⟩ e2 := ⟨h.q.ch (A := [e0]) k, tab_fr h.tab k.fr h.a1.noTab, h.h0, k.p.trans h.h1, h.h2⟩
theorem K50.c2 (h : K50 c Pt H r RL PL p0 p1 p2 rs e0 e1 e2) (k : Ch c H e2.P e2.ks H' P' ks' s') : K50 c Pt H' r RL PL p0 p1 p2 rs e0 e1 ⟨P', ks', s'⟩ := ⟨h.q.ch (A := [e0, e1]) k, tab_fr h.tab k.fr h.a2.noTab, h.h0, h.h1, k.p.trans h.h2⟩
end
theorem cnt_atK {l : List Int} {j : Nat} {x : Int} (h : l[j]? = some x) : atI (l.map V.int) (j : Int) = some (.int x) := atI_nat (by rw [List.getElem?_map, h]; rfl)
/-- the states in a row: what is known of each -/
structure Row (nb : Nat) (rs : List (Addr × Rq)) (s0 : PS) : Prop where
  g : ∀ j, j ≤ rs.length → ∃ val, G98 nb (j * 11) val (runS ((rs.take j).map Prod.snd) s0)
  dc : s0.dc = [0, 0, 0, 0, 0, 0]
  fa : s0.fa.isSome = true
  t0 : tot s0 = 0
  r0 : s0.reqs = 0
  rc : ∀ z ∈ s0.rcs, z.length ≤ 8
  ok : ∀ x ∈ rs, x.2.ok nb
theorem wf_lf {s : PS} (h : WF s) (n : Nat) : WF (s.lf n) := ⟨h.sl, h.fa, h.some1, h.few, h.kn, h.cl, h.nof⟩
theorem row_of {nb : Nat} {rs : List (Addr × Rq)} {s0 : PS} (g : ∃ val, G98 nb 0 val s0) (ok : ∀ x ∈ rs, x.2.ok nb) : ∀ j, j ≤ rs.length → ∃ val, G98 nb (j * 11) val (runS ((rs.take j).map Prod.snd) s0)
  | 0, _ => by
    obtain ⟨val, h⟩ := g
    exact ⟨val, h.up (by omega)⟩
  | j + 1, hj => by
    obtain ⟨val, h⟩ := row_of g ok j (by omega)
    have hj' : j < rs.length := by omega
    obtain ⟨a, e, g1, _⟩ := req_lk h (ok rs[j] (List.getElem_mem hj'))
    rw [List.take_succ_eq_append_getElem hj', List.map_append, List.map_singleton, runS_snoc]
    exact ⟨_, g1.up (by omega)⟩
section
variable {nb j : Nat} {rs : List (Addr × Rq)} {s0 : PS}
abbrev rowS (rs : List (Addr × Rq)) (s0 : PS) (j : Nat) : PS := runS ((rs.take j).map Prod.snd) s0
theorem Row.next (h : Row nb rs s0) (hj : j < rs.length) : ∃ a, doR rs[j].2 (rowS rs s0 j) = .ok a (rowS rs s0 (j + 1)) ∧ tot (rowS rs s0 j) ≤ tot (rowS rs s0 (j + 1)) ∧ (rowS rs s0 (j + 1)).reqs = (rowS rs s0 j).reqs + 1 ∧ (rowS rs s0 (j + 1)).dc = (rowS rs s0 j).dc ∧ (rowS rs s0 (j + 1)).fa.isSome = (rowS rs s0 j).fa.isSome ∧
    ∀ m, (tot (rowS rs s0 (j + 1)) ≤ tot (rowS rs s0 j) + m → doR rs[j].2 ((rowS rs s0 j).lf m) = .ok a ((rowS rs s0 (j + 1)).lf (tot (rowS rs s0 j) + m - tot (rowS rs s0 (j + 1))))) ∧ (tot (rowS rs s0 j) + m < tot (rowS rs s0 (j + 1)) → ∃ b s', doR rs[j].2 ((rowS rs s0 j).lf m) = .pf b s' ∧ tot s' = tot (rowS rs s0 j) + m ∧ Off s' ∧ s'.reqs = (rowS rs s0 j).reqs + 1 ∧ s'.dc = (rowS rs s0 j).dc ∧ s'.fa.isSome = (rowS rs s0 j).fa.isSome) := by
  obtain ⟨val, g⟩ := h.g j (by omega)
  obtain ⟨a, e, g1, k⟩ := req_lk g (h.ok rs[j] (List.getElem_mem hj))
  have es : rowS rs s0 (j + 1) = stS (rowS rs s0 j) rs[j].2 := by
    unfold rowS
    rw [List.take_succ_eq_append_getElem hj, List.map_append, List.map_singleton, runS_snoc]
  rw [es]
  exact ⟨a, e, k⟩
theorem Row.facts (h : Row nb rs s0) : ∀ j, j ≤ rs.length → (rowS rs s0 j).dc = [0, 0, 0, 0, 0, 0] ∧ (rowS rs s0 j).fa.isSome = true ∧ (rowS rs s0 j).reqs = j
  | 0, _ => ⟨h.dc, h.fa, h.r0⟩
  | j + 1, hj => by
    obtain ⟨h1, h2, h3⟩ := h.facts j (by omega)
    obtain ⟨a, e, t, k1, k2, k3, _⟩ := h.next (j := j) (by omega)
    exact ⟨k2.trans h1, k3.trans h2, by rw [k1, h3]⟩
theorem Row.mono (h : Row nb rs s0) : ∀ k, j + k ≤ rs.length → tot (rowS rs s0 j) ≤ tot (rowS rs s0 (j + k))
  | 0, _ => Nat.le_refl _
  | k + 1, hk => by
    obtain ⟨a, e, t, _⟩ := h.next (j := j + k) (by omega)
    exact Nat.le_trans (h.mono k (by omega)) t
theorem Row.le (h : Row nb rs s0) (hj : j ≤ rs.length) : tot (rowS rs s0 j) ≤ tot (rowS rs s0 rs.length) := by
  have := h.mono (j := j) (rs.length - j) (by omega)
  rwa [show j + (rs.length - j) = rs.length by omega] at this
end
end
/-! ### how many steps a call takes at most -/
def TB {α : Type} (k : Nat) (s : PS) (x : Rs α) : Prop := ∀ a s1, x = .ok a s1 → tot s1 ≤ tot s + k
section
variable {α β : Type} {s : PS} {k m : Nat}
theorem TB.up {x : Rs α} (h : TB k s x) (e : k ≤ m) : TB m s x := fun a s1 y => Nat.le_trans (h a s1 y) (by omega)
theorem TB.bind {x : Rs α} {f : α → PS → Rs β} (h : TB k s x) (g : ∀ a s1, x = .ok a s1 → TB m s1 (f a s1)) : TB (k + m) s (x.bind f) := fun b s2 e => by
  cases ex : x with
  | pf c z => rw [ex] at e; cases e
  | ok a s1 =>
    rw [ex] at e
    have h1 := h a s1 ex
    have h2 := g a s1 ex b s2 e
    omega
theorem TB.ok {a : α} {s1 : PS} (h : tot s1 = tot s) : TB 0 s (.ok a s1) := fun b s2 e => by
  cases e
  rw [h]
  exact Nat.le_refl _
theorem TB.bind0 {x : Rs α} {f : α → PS → Rs β} (h : TB k s x) (g : ∀ a s1, ∃ b s2, f a s1 = .ok b s2 ∧ tot s2 = tot s1) : TB k s (x.bind f) := fun b s2 e => by
  cases ex : x with
  | pf c z => rw [ex] at e; cases e
  | ok a s1 =>
    rw [ex] at e
    have h1 := h a s1 ex
    obtain ⟨b', s2', e', t'⟩ := g a s1
    have e2 : f a s1 = .ok b s2 := e
    rw [e'] at e2
    cases e2
    omega
theorem TB.step {g : PS → PS} (h : ∀ s : PS, tot (g s) ≤ tot s + 1) : TB 1 s ((stepS s).bind fun _ s1 => .ok () (g s1)) := fun a s1 e => by
  cases es : stepS s with
  | pf b z => rw [es] at e; cases e
  | ok u z =>
    rw [es] at e
    obtain ⟨l, rfl⟩ := stepS_ok es
    cases e
    exact h { s with left := l }
theorem wSlow_tb (rc : Rc) : TB 1 s (wSlow rc s) := TB.step (g := fun s1 => { s1 with sl := s1.sl.wri rc.blk rc.val }) fun s => by
  show s.sl.w + 1 + s.sl.s + fTot s ≤ s.sl.w + s.sl.s + fTot s + 1
  omega
theorem ySlow_tb : TB 1 s (ySlow s) := TB.step (g := fun s1 => { s1 with sl := s1.sl.syn }) fun s => by
  show s.sl.w + (s.sl.s + 1) + fTot s ≤ s.sl.w + s.sl.s + fTot s + 1
  omega
theorem wFast_tb (i : Nat) (o : Option Rc) : TB 1 s (wFast i o s) := TB.step (g := fun s1 => { s1 with fa := s1.fa.map fun d => d.wri i o }) fun s => by
  unfold tot fTot
  show s.sl.w + s.sl.s + (match s.fa.map fun d => d.wri i o with | none => 0 | some d => d.w + d.s) ≤ _
  cases s.fa with
  | none => exact Nat.le_succ _
  | some d => show s.sl.w + s.sl.s + (d.w + 1 + d.s) ≤ s.sl.w + s.sl.s + (d.w + d.s) + 1; omega
theorem yFast_tb : TB 1 s (yFast s) := by
  unfold yFast
  split
  · exact (TB.ok rfl).up (by omega)
  · exact TB.step (g := fun s1 => { s1 with fa := s1.fa.map DS.syn }) fun s => by
      unfold tot fTot
      show s.sl.w + s.sl.s + (match s.fa.map DS.syn with | none => 0 | some d => d.w + d.s) ≤ _
      cases s.fa with
      | none => exact Nat.le_succ _
      | some d => show s.sl.w + s.sl.s + (d.w + (d.s + 1)) ≤ s.sl.w + s.sl.s + (d.w + d.s) + 1; omega
theorem wRec_tb (i : Nat) (rc : Rc) : TB 1 s (wRec i rc s) := ((wFast_tb i _).bind0 fun _ s1 => ⟨_, _, rfl, rfl⟩)
theorem cW_tb (i : Nat) (rc : Rc) (z : Str) : TB 1 s (cW i rc z s) := by
  unfold cW
  split
  · exact wSlow_tb rc
  · split
    · exact ySlow_tb
    · split
      · exact wFast_tb i _
      · exact yFast_tb
theorem cAll_tb (i : Nat) (rc : Rc) : ∀ (zs : List Str) {s : PS}, TB zs.length s (cAll i rc zs s)
  | [], s => TB.ok rfl
  | z :: zs, s => ((cW_tb i rc z).bind fun _ s1 _ => cAll_tb i rc zs).up (by rw [List.length_cons]; omega)
theorem clSl_tb (h : (s.rcs.getD 3 []).length ≤ 8) (i : Nat) : TB 8 s (clSl i s) := by
  unfold clSl
  split
  · exact (TB.ok rfl).up (by omega)
  · exact TB.up (TB.bind0 (cAll_tb i _ _) fun _ s1 => ⟨(), { s1 with kn := cleanN i s1.kn }, rfl, rfl⟩) h
theorem rc_cls : Cls fun s s1 => s1.rcs = s.rcs where
  rf := fun _ => rfl
  tr := fun h g => g.trans h
  ch := fun _ _ _ _ => rfl
  off := fun _ => rfl
  wS := fun _ _ _ => rfl
  yS := fun _ => rfl
  rS := fun _ => rfl
  wF := fun _ _ _ => rfl
  yF := fun _ => rfl
  rF := fun _ => rfl
  bg := fun _ _ _ _ _ => rfl
theorem rc_ok {x : Rs α} {a : α} {s1 : PS} (h : x.st.rcs = s.rcs) (e : x = .ok a s1) : s1.rcs = s.rcs := by
  rw [e] at h
  exact h
theorem clMany_tb : ∀ (l : List Nat) {s : PS}, (s.rcs.getD 3 []).length ≤ 8 → TB (8 * l.length) s (clMany l s)
  | [], s, _ => TB.ok rfl
  | i :: l, s, h => ((clSl_tb h i).bind fun _ s1 e => clMany_tb l (by rw [rc_ok (rc_cls.toCls0.clSl i) e]; exact h)).up (by rw [List.length_cons]; omega)
theorem cleanLT_tb (h : (s.rcs.getD 3 []).length ≤ 8) (hk : s.kn.length ≤ 8) (n : Nat) : TB 64 s (cleanLT n s) := by
  have h1 : (dirtyN s.kn).length ≤ s.kn.length := dirtyN_len s.kn
  have h2 : ((dirtyN s.kn).take n).length ≤ (dirtyN s.kn).length := by rw [List.length_take]; exact Nat.min_le_right _ _
  unfold cleanLT
  refine TB.up (k := 8 * ((dirtyN s.kn).take n).length) ?_ (by omega)
  exact TB.bind0 (clMany_tb _ h) fun _ s1 => ⟨_, s1, rfl, rfl⟩
theorem takeR_tb (h : (s.rcs.getD 3 []).length ≤ 8) : TB 8 s (takeR s) := by
  unfold takeR
  split
  · exact (TB.ok rfl).up (by omega)
  · exact TB.bind0 (clSl_tb h _) fun _ s1 => ⟨_, _, rfl, rfl⟩
theorem chooseR_tb (h : (s.rcs.getD 3 []).length ≤ 8) (own : Option Nat) : TB 8 s (chooseR own s) := by
  unfold chooseR
  split
  · exact (TB.ok rfl).up (by omega)
  · split
    · exact (TB.ok rfl).up (by omega)
    · split
      · exact (TB.ok rfl).up (by omega)
      · split
        · exact (TB.ok rfl).up (by omega)
        · exact TB.bind0 (takeR_tb h) fun _ s1 => ⟨_, _, rfl, rfl⟩
theorem carryR_tb (z : Str) (rc : Rc) (tg st : Option Nat) : TB 1 s (carryR z rc tg st s) := by
  unfold carryR
  split
  · exact wSlow_tb rc
  · split
    · exact ySlow_tb
    · split
      · exact yFast_tb
      · split
        · exact (wRec_tb _ rc).bind0 fun _ s1 => ⟨_, _, rfl, rfl⟩
        · split
          · exact (wFast_tb _ _).bind0 fun _ s1 => ⟨_, _, rfl, rfl⟩
          · split
            · exact (TB.ok rfl).up (by omega)
            · exact (TB.ok rfl).up (by omega)
theorem wordsR_tb (rc : Rc) (tg st : Option Nat) : ∀ (zs : List Str) {s : PS}, TB zs.length s (wordsR rc tg st zs s)
  | [], s => TB.ok rfl
  | z :: zs, s => ((carryR_tb z rc tg st).bind fun _ s1 _ => wordsR_tb rc tg st zs).up (by rw [List.length_cons]; omega)
theorem tailW_tb (h : (s.rcs.getD 3 []).length ≤ 8) (hk : s.kn.length ≤ 8) (hit : Bool) : TB 64 s (tailW hit s) := by
  unfold tailW
  refine TB.bind0 ?_ fun _ s1 => ⟨_, _, rfl, rfl⟩
  split
  · exact (cleanLT_tb h hk _).bind0 fun _ s1 => ⟨_, _, rfl, rfl⟩
  · exact (TB.ok rfl).up (by omega)
variable {nb n : Nat} {val : List Nat}
theorem begin_tb (b tu : Nat) : tot { beginS b s with turn := tu } = tot s := (begin_tot b tu).1
theorem write_tb (g : Gd s val) (hw : WrOk s) {b v : Nat} (hb : b < s.nb) : TB 80 s (writeR b v s) := fun hit s4 e => by
  have hrc : (s.rcs.getD 3 []).length ≤ 8 := g.wf.cl
  obtain ⟨g1, eb⟩ := begin0 g b (s.turn + 1)
  unfold writeR at e
  cases ec : chooseR (slotN s.kn b) { beginS b s with turn := s.turn + 1 } with
  | pf bb a => rw [ec] at e; cases e
  | ok ts s2 =>
    rw [ec, Rs.bind_ok] at e
    obtain ⟨q1, q2, q3, q4, q5, q6, q7, q8, q9⟩ := beginS_same b s
    have hw1 : WrOk { beginS b s with turn := s.turn + 1 } := by
      unfold WrOk
      rw [show ({ beginS b s with turn := s.turn + 1 } : PS).wr = s.wr from q5]
      exact hw
    have t1 := chooseR_tb (s := { beginS b s with turn := s.turn + 1 }) g1.wf.cl _ _ _ ec
    rw [begin_tb] at t1
    obtain ⟨tg, st, s2', e2, g2, ⟨sl, fa, kn, ex⟩, hf, l2, cs⟩ := choose0 g1 hw1 b
    rw [show slotN ({ beginS b s with turn := s.turn + 1 } : PS).kn b = slotN s.kn b from eb, ec] at e2
    cases e2
    have en : s2.nb = s.nb := by rw [ex]; exact q2
    have ew : s2.wr = s.wr := by rw [ex]; exact q5
    have hw2 : WrOk s2 := by unfold WrOk; rw [ew]; exact hw
    cases ew2 : wordsR (recS b v s.turn s2) tg st (rcpOf s2) s2 with
    | pf bb a => rw [ew2] at e; cases e
    | ok u s3 =>
      rw [ew2, Rs.bind_ok] at e
      have t2 := wordsR_tb _ _ _ _ _ _ ew2
      obtain ⟨s3', e3, g3, n3, w3, f3, l3⟩ := words0 (rc := recS b v s.turn s2) (v := v) g2 hw2 (by rw [en]; exact hb) rfl rfl rfl cs
      rw [ew2] at e3
      cases e3
      have t3 := tailW_tb g3.wf.cl g3.few _ _ _ e
      have hl : (rcpOf s2).length ≤ 8 := by
        have : ∀ z ∈ s2.rcs, z.length ≤ 8 := by rw [g2.rc]; decide
        have hd : ∀ i, (s2.rcs.getD i []).length ≤ 8 := fun i => by
          rw [List.getD_eq_getElem?_getD]
          cases hh : s2.rcs[i]? with
          | none => exact Nat.zero_le _
          | some z => exact this z (List.mem_of_getElem? hh)
        unfold rcpOf
        split
        · exact hd 2
        · split
          · exact hd 1
          · exact hd 0
      omega
theorem read_tb (g : Gd s val) (b : Nat) : TB 80 s (readR b s) := fun a s1 e => by
  obtain ⟨q1, q2, q3, q4, q5, q6, q7, q8, q9⟩ := beginS_same b s
  have t0 := begin_tb (s := s) b (beginS b s).turn
  have hsl : tot ({ beginS b s with sl := s.sl.rd } : PS) = tot s := by
    rw [← t0]
    unfold tot fTot
    rw [← q7]
    rfl
  unfold readR at e
  split at e
  · cases e
    have : tot ({ beginS b s with fa := s.fa.map DS.rd } : PS) = tot s := by rw [← q8, rd_tot]; exact t0
    rw [this]
    omega
  · split at e
    · unfold keepR at e
      have hc : (({ beginS b s with sl := s.sl.rd } : PS).rcs.getD 3 []).length ≤ 8 := by show ((beginS b s).rcs.getD 3 []).length ≤ 8; rw [q4]; exact g.wf.cl
      have := (TB.bind (takeR_tb hc) fun i s2 _ => (wRec_tb i ⟨b, slowV b s, 0, false⟩).bind0 (f := fun _ s3 => .ok (slowV b s) s3) fun _ s3 => ⟨_, s3, rfl, rfl⟩) _ _ e
      rw [hsl] at this
      omega
    · cases e
      rw [hsl]
      omega
theorem do_tb (h : G98 nb n val s) {q : Rq} (hq : q.ok nb) : tot (stS s q) ≤ tot s + 80 := by
  obtain ⟨a, s1, e, _⟩ := h.req hq
  have es : stS s q = s1 := by unfold stS; rw [e]; rfl
  rw [es]
  cases q with
  | rd b =>
    rw [doR_rd] at e
    cases er : readR b s with
    | pf c z => rw [er] at e; cases e
    | ok v z => rw [er] at e; cases e; exact read_tb h.g b _ _ er
  | wr b v =>
    rw [doR_wr] at e
    cases er : writeR b v s with
    | pf c z => rw [er] at e; cases e
    | ok hh z => rw [er] at e; cases e; exact write_tb h.g h.w (by rw [h.nb]; exact hq.1) _ _ er
theorem Row.bound {rs : List (Addr × Rq)} {s0 : PS} (h : Row nb rs s0) : ∀ j, j ≤ rs.length → tot (rowS rs s0 j) ≤ j * 80
  | 0, _ => by
    have : rowS rs s0 0 = s0 := rfl
    rw [this, h.t0]
    exact Nat.le_refl _
  | j + 1, hj => by
    obtain ⟨val, g⟩ := h.g j (by omega)
    have hj' : j < rs.length := by omega
    have ih := h.bound j (by omega)
    have es : rowS rs s0 (j + 1) = stS (rowS rs s0 j) rs[j].2 := by
      unfold rowS
      rw [List.take_succ_eq_append_getElem hj', List.map_append, List.map_singleton, runS_snoc]
    rw [es]
    have := do_tb g (h.ok rs[j] (List.getElem_mem hj'))
    have : tot (stS (rowS rs s0 j) rs[j].2) ≤ tot (rowS rs s0 j) + 80 := this
    omega
end
/-! ### the law -/
def spLaw (K : PySem.W.Frag) (P : Addr) : Sp := fun vs H Q _ => ∃ (a : Addr) (ns : List Int), vs = [.ref a] ∧ SqL K H a (ns.map V.int) ∧ ns.length ≤ 63 ∧ H P = some (.tbl #[]) ∧ ∀ H', Q (.bl true) H'
theorem neqF {x y : Int} (h : x = y) : (!decide (V.int x = V.int y)) = !decide (V.int x = V.int x) := by rw [h]
theorem known_eq {K : PySem.W.Frag} {CM CK CM' CK' : Addr} {H : Hp} {M M' : Mm} {n n' : Nat} {ks ks' : List Kp} (h : MemAt CM CK H M n ks) (h' : MemAt CM' CK' H M' n' ks') (e : kns ks = kns ks') : ∀ p ∈ (sortK ks).map Kp.kr, ∃ u d, valV ((sortK ks').map Kp.kr) p.1 = some u ∧ Dp K H p.2 d ∧ Dp K H u d ∧ SeqAt.shaped d = true := by
  intro p hp
  obtain ⟨q, hq, rfl⟩ := List.mem_map.mp hp
  have hk : q.toKn ∈ kns (sortK ks) := List.mem_map.mpr ⟨q, hq, rfl⟩
  rw [sortK_kns, e, ← sortK_kns] at hk
  obtain ⟨q', hq', e'⟩ := List.mem_map.mp hk
  have es : q'.slot = q.slot := congrArg Kn.slot e'
  have er : q'.rc = q.rc := congrArg Kn.rc e'
  refine ⟨.ref q'.kt, rcD q.rc, ?_, rc_dp (h.rcd q (sortK_mem.mp hq)), ?_, shaped_rc _⟩
  · show valV _ (Sum.inl (q.slot : Int)) = _
    rw [← es]
    exact valV_krR (((sortK_perm ks').map (fun (q : Kp) => q.slot)).nodup_iff.mpr h'.sl) hq'
  · rw [← er]
    exact rc_dp (h'.rcd q' (sortK_mem.mp hq'))
theorem known_len {ks ks' : List Kp} (e : kns ks = kns ks') : ((sortK ks).map Kp.kr).length = ((sortK ks').map Kp.kr).length := by
  have h : (kns ks).length = (kns ks').length := by rw [e]
  rw [List.length_map, List.length_map, (sortK_perm ks).length_eq, (sortK_perm ks').length_eq]
  simpa [kns] using h
def d3 : List PyData := [.none, .tuple [.str "failed", .bool true], .tuple [.str "failed", .bool false]]
theorem d3_dp {K : PySem.W.Frag} {H : Hp} {t1 t2 t3 : Addr} (h1 : H t1 = some (.tup [.str "failed", .bl true])) (h2 : H t2 = some (.tup [.str "failed", .bl false])) (h3 : H t3 = some (.tup [.non, .ref t1, .ref t2])) : Dp K H (.ref t3) (.tuple d3) :=
  .tup (SqT.of h3) (.cons .non (.cons (.tup (SqT.of h1) (.cons (.str _) (.cons (.bl _) .nil))) (.cons (.tup (SqT.of h2) (.cons (.str _) (.cons (.bl _) .nil))) .nil)))
theorem d3_sh : SeqAt.shaped (.tuple d3) = true := by decide +kernel
theorem d3_non : SeqAt.shaped (.none : PyData) = true ∧ (!d3.any fun z => PyData.eqv z .none) = false := by decide +kernel
theorem d3_b (b : Bool) : SeqAt.shaped (.tuple [.str "failed", .bool b]) = true ∧ (!d3.any fun z => PyData.eqv z (.tuple [.str "failed", .bool b])) = false := by
  cases b <;> decide +kernel
section
open LamX NdefX
variable {P : Program} {w : World} {K : PySem.W.Frag} {mg : Str → Option Value} {base : Heap}
theorem ok_law {oc : Value} {od an : Option Addr} {kV dc pm ct : Value} {osl : Array (Option Value)} {f cd Pt : Addr} (T : Gx K mg) (HP : ProgOk P T.file) (lk : K.lookup f = some ⟨oc, od, .func (PySem.W.fnOf "law" "law" (defArgs s_law) (defBody s_law) (defScope s_law) .none kV dc pm an (.ref cd) ct), osl⟩)
    (hcd : PySem.W.codeIn K (.ref cd) "law" = true) (TB : TabB base mg cd Pt) : FnOk P w K mg base C8.CX0 16 f (PySem.W.fnOf "law" "law" (defArgs s_law) (defBody s_law) (defScope s_law) .none kV dc pm an (.ref cd) ct) ["_law_script"] (spLaw K Pt) := by
  have G__law_random : FnOk P w K mg base CX0 1 T.f__law_random T.fd__law_random ["_law_script", "_law_salt"] (spRandom K) := ok_random T
  have G__law_below : FnOk P w K mg base CX0 1 T.f__law_below T.fd__law_below ["_law_d", "_law_limit"] spBelow := ok_below T
  have G__law_rules : FnOk P w K mg base CX0 2 T.f__law_rules T.fd__law_rules ["_law_d", "_law_limit"] spRules := ok_rules T
  have G__law_safe : FnOk P w K mg base CX0 1 T.f__law_safe T.fd__law_safe [] spSafeL := ok_safeL T
  have G__law_request := ok_req (P := P) (w := w) (base := base) T
  have G__law_do := ok_doG (w := w) (base := base) HP T rfl
  have G__law_pair := ok_lpair (P := P) (w := w) (base := base) T
  have G_Pair_known := ok_knownG (P := P) (w := w) (base := base) T
  have G_Pair_counts := ok_pCounts (P := P) (w := w) (base := base) T
  have G_Pair_requests := ok_requestsG (P := P) (w := w) (base := base) T
  have G_Pair_is_on := ok_isOnG (P := P) (w := w) (base := base) T
  have G_Pair_fail_at := ok_failAt (P := P) (w := w) (base := base) T
  have G_Pair_pending := ok_pend2 (P := P) (w := w) (base := base) T
  have GP : FnS P w K mg base C8.CX0 14 T.f__law_power_of ["_law_call"] (spPow P w base T) := ok_powerOf T
  refine fn_of lk hcd sc_law (fun vs H Q E h => ?_) (fun A outer s0 H vs Q E hr h => ?_)
  · obtain ⟨a, ns, rfl, _⟩ := h
    rfl
  · obtain ⟨a, ns, rfl, hS, hlen, hPt, k⟩ := h
    refine ⟨_, (pss_cons (ps_set (i := 1) sc_law.nd rfl (.inr rfl) (pe_call G__law_random (hr.mono (by first | decide | omega)) (by rfl) T.g__law_random T.F__law_random.kp (b__law_random T) .nil pass0 (pa_cons (pv 0) (pa_cons pe_int pa_nil))))
      (C8.pss_cut (ps_asg (pe_tup (pa_cons (pe_op op_add pe_int (pe_call G__law_below (hr.mono (by first | decide | omega)) (by rfl) T.g__law_below T.F__law_below.kp (b__law_below T) .nil pass0 (pa_cons (pv 1) (pa_cons pe_int pa_nil)))) (pa_cons (pe_op op_add pe_int (pe_call G__law_below (hr.mono (by first | decide | omega)) (by rfl) T.g__law_below T.F__law_below.kp (b__law_below T) .nil pass0 (pa_cons (pv 1) (pa_cons pe_int pa_nil)))) (pa_cons (pe_call G__law_rules (hr.mono (by first | decide | omega)) (by rfl) T.g__law_rules T.F__law_rules.kp (b__law_rules T) .nil pass0 (pa_cons (pv 1) (pa_cons pe_int pa_nil))) pa_nil)))) (pg_tup (by rfl) (pgs_cons (pg_name (i := 2) sc_law.nd rfl (.inr rfl)) (pgs_cons (pg_name (i := 3) sc_law.nd rfl (.inr rfl)) (pgs_cons (pg_name (i := 4) sc_law.nd rfl (.inr rfl)) pgs_nil)))))
      (C8.pss_cut (ps_setLc (i := 5) (own := [("_law_k", 10)]) (g := gName 10) rfl sc_law.nd rfl rfl (sw_true rfl rfl rfl (by decide +kernel)) (pi_range1 (by rfl) T.z_range (pa_cons (pe_call G__law_below (hr.mono (by first | decide | omega)) (by rfl) T.g__law_below T.F__law_below.kp (b__law_below T) .nil pass0 (pa_cons (pv 1) (pa_cons pe_int pa_nil))) pa_nil)) (blkOk_by (N := ["_law_script", "_law_d", "_law_blocks", "_law_slots", "_law_parts", "_law_requests", "_law_many", "_law_at", "_law_pairs", "_law_request_here", "_law_k"]) (sc := defScope s_law) (by decide +kernel)) (fun _ _ _ _ _ => pg_name (i := 10) sc_law.nd rfl (.inl rfl)) (fun _ _ _ _ _ => pts_nil) (fun _ _ _ _ _ => (pe_call G__law_request (hr.mono (by first | decide | omega)) (by rfl) T.g__law_request T.F__law_request.kp (b__law_request T) .nil pass0 (pa_cons (pv 1) (pa_cons (pv 2) pa_nil)))))
      (C8.pss_cut (ps_set (i := 8) sc_law.nd rfl (.inr rfl) (pe_lc (own := [("_law_k", 10)]) (g := gName 10) rfl sc_law.nd (pi_range1 (by rfl) T.z_range (pa_cons pe_int pa_nil)) (blkOk_by (N := ["_law_script", "_law_d", "_law_blocks", "_law_slots", "_law_parts", "_law_requests", "_law_many", "_law_at", "_law_pairs", "_law_request_here", "_law_k"]) (sc := defScope s_law) (by decide +kernel)) (fun _ _ _ _ _ => pg_name (i := 10) sc_law.nd rfl (.inl rfl)) (fun _ _ _ _ _ => pts_nil) (fun _ _ _ _ _ => (pe_call G__law_pair (hr.mono (by first | decide | omega)) (by rfl) T.g__law_pair T.F__law_pair.kp (b__law_pair T) .nil pass0 (pa_cons (pv 2) (pa_cons (pv 3) (pa_cons (pv 4) (pa_cons (pe_call0 G__law_safe (hr.mono (by first | decide | omega)) (by rfl) T.g__law_safe T.F__law_safe.kp (b__law_safe T) .nil pass0) pa_nil))))))))
      (C8.pss_cut (ps_for PassesOwn.leaving rfl (pi_list (pv 5)) (pg_name (i := 9) sc_law.nd rfl (.inr rfl)) (pss_one (ps_expr (pe_call G__law_do (hr.mono (by first | decide | omega)) (by rfl) T.g__law_do T.F__law_do.kp (b__law_do T) .nil passF (pa_cons (pe_ix ix_list (pv 8) pe_int (fun _ _ => rfl)) (pa_cons (pv 9) pa_nil))))))
      (C8.pss_cut (ps_set (i := 6) sc_law.nd rfl (.inl rfl) (pe_callB (cr_sum rfl) (by rfl) T.z_sum (by decide +kernel) (pa_cons (pe_lc (own := [("_law_k", 10)]) (g := gName 10) rfl sc_law.nd (pi_tup (pe_tup (pa_cons pe_int (pa_cons pe_int (pa_cons pe_int (pa_cons pe_int pa_nil)))))) (blkOk_by (N := ["_law_script", "_law_d", "_law_blocks", "_law_slots", "_law_parts", "_law_requests", "_law_many", "_law_at", "_law_pairs", "_law_request_here", "_law_k"]) (sc := defScope s_law) (by decide +kernel)) (fun _ _ _ _ _ => pg_name (i := 10) sc_law.nd rfl (.inl rfl)) (fun _ _ _ _ _ => pts_nil) (fun _ _ _ _ _ => (pe_ix (ix_tupK (K := K) rfl) (pe_prop (pe_ix (ix_listK (K := K) rfl) (pv 8) pe_int (fun _ _ => rfl)) T.cl_Pair T.P_Pair_counts G_Pair_counts (hr.mono (by first | decide | omega)) (b_Pair_counts T) .nil pass0 rfl) (pv 10) (fun _ _ => rfl)))) pa_nil)))
      (C8.pss_cut (ps_expr (pe_meth (pe_ix ix_list (pv 8) pe_int (fun _ _ => rfl)) T.cl_Pair T.m_Pair_fail_at G_Pair_fail_at (hr.mono (by first | decide | omega)) (b_Pair_fail_at T) .nil pass0 (pa_cons (pe_op op_add (pv 6) (pe_call G__law_below (hr.mono (by first | decide | omega)) (by rfl) T.g__law_below T.F__law_below.kp (b__law_below T) .nil pass0 (pa_cons (pv 1) (pa_cons pe_int pa_nil)))) pa_nil)))
      (C8.pss_cut (ps_for PassesOwn.leaving rfl (pi_list (pv 5)) (pg_name (i := 9) sc_law.nd rfl (.inr rfl)) (pss_one (ps_expr (pe_call G__law_do (hr.mono (by first | decide | omega)) (by rfl) T.g__law_do T.F__law_do.kp (b__law_do T) .nil passF (pa_cons (pe_ix ix_list (pv 8) pe_int (fun _ _ => rfl)) (pa_cons (pv 9) pa_nil))))))
      (C8.pss_cut (ps_if (PW.pt (pw_or (pt_cmpR (op_neD hr.units) (pe_prop (pe_ix ix_list (pv 8) pe_int (fun _ _ => rfl)) T.cl_Pair T.P_Pair_counts G_Pair_counts (hr.mono (by first | decide | omega)) (b_Pair_counts T) .nil pass0 rfl) (pe_prop (pe_ix ix_list (pv 8) pe_int (fun _ _ => rfl)) T.cl_Pair T.P_Pair_counts G_Pair_counts (hr.mono (by first | decide | omega)) (b_Pair_counts T) .nil pass0 rfl) (nomark _)) (pw_or (pt_cmpR (op_neDQ (units3 hr)) (pe_prop (pe_ix ix_list (pv 8) pe_int (fun _ _ => rfl)) T.cl_Pair T.P_Pair_known G_Pair_known (hr.mono (by first | decide | omega)) (b_Pair_known T) .nil pass0 rfl) (pe_prop (pe_ix ix_list (pv 8) pe_int (fun _ _ => rfl)) T.cl_Pair T.P_Pair_known G_Pair_known (hr.mono (by first | decide | omega)) (b_Pair_known T) .nil pass0 rfl) (nomark _)) (pw_or1 (pt_cmpR (op_neD hr.units) (pe_prop (pe_ix ix_list (pv 8) pe_int (fun _ _ => rfl)) T.cl_Pair T.P_Pair_pending G_Pair_pending (hr.mono (by first | decide | omega)) (b_Pair_pending T) .nil pass0 rfl) (pe_prop (pe_ix ix_list (pv 8) pe_int (fun _ _ => rfl)) T.cl_Pair T.P_Pair_pending G_Pair_pending (hr.mono (by first | decide | omega)) (b_Pair_pending T) .nil pass0 rfl) (nomark _)))))) (pss_one (ps_ret pe_bl)) pss_nil)
      (C8.pss_cut (ps_if (pt_cmpR op_eq (pv 6) pe_int (nomark _)) (pss_one (ps_ret (pe_prop (pe_ix ix_list (pv 8) pe_int (fun _ _ => rfl)) T.cl_Pair T.P_Pair_is_on G_Pair_is_on (hr.mono (by first | decide | omega)) (b_Pair_is_on T) .nil pass0 rfl))) pss_nil)
      (C8.pss_cut (ps_set (i := 7) sc_law.nd rfl (.inl rfl) (pe_call G__law_below (hr.mono (by first | decide | omega)) (by rfl) T.g__law_below T.F__law_below.kp (b__law_below T) .nil pass0 (pa_cons (pv 1) (pa_cons (pv 6) pa_nil))))
      (pss_cons (ps_expr (pe_meth (pe_ix ix_list (pv 8) pe_int (fun _ _ => rfl)) T.cl_Pair T.m_Pair_fail_at G_Pair_fail_at (hr.mono (by first | decide | omega)) (b_Pair_fail_at T) .nil pass0 (pa_cons (pv 7) pa_nil)))
      (C8.pss_cut (ps_for PassesOwn.leaving rfl (pi_list (pv 5)) (pg_name (i := 9) sc_law.nd rfl (.inr rfl)) (pss_one (ps_if (PW.pt (pw_and (pt_val (pe_prop (pe_ix ix_list (pv 8) pe_int (fun _ _ => rfl)) T.cl_Pair T.P_Pair_is_on G_Pair_is_on (hr.mono (by first | decide | omega)) (b_Pair_is_on T) .nil pass0 rfl)) (pw_and1 (pt_cmpR (op_notInT (units2 hr)) (pe_callS GP (hr.mono (by first | decide | omega)) (by rfl) T.g__law_power_of T.F__law_power_of.kp (C8.pass0 (E := C8.E0)) (pa_cons (pe_lamV TB rfl (hmL Pt) rfl (huL Pt) cap1 rfl (.inl ⟨rfl, rfl⟩)) pa_nil)) (pe_tup (pa_cons pe_non (pa_cons (pe_tup (pa_cons pe_str (pa_cons pe_bl pa_nil))) (pa_cons (pe_tup (pa_cons pe_str (pa_cons pe_bl pa_nil))) pa_nil)))) (by rfl))))) (pss_one (ps_ret pe_bl)) pss_nil)))
      (C8.pss_cut (ps_if (PW.pt (pw_or (pt_val (pe_prop (pe_ix ix_list (pv 8) pe_int (fun _ _ => rfl)) T.cl_Pair T.P_Pair_is_on G_Pair_is_on (hr.mono (by first | decide | omega)) (b_Pair_is_on T) .nil pass0 rfl)) (pw_or1 (pt_cmpR op_ne (pe_callB (cr_sum rfl) (by rfl) T.z_sum (by decide +kernel) (pa_cons (pe_lc (own := [("_law_k", 10)]) (g := gName 10) rfl sc_law.nd (pi_tup (pe_tup (pa_cons pe_int (pa_cons pe_int (pa_cons pe_int (pa_cons pe_int pa_nil)))))) (blkOk_by (N := ["_law_script", "_law_d", "_law_blocks", "_law_slots", "_law_parts", "_law_requests", "_law_many", "_law_at", "_law_pairs", "_law_request_here", "_law_k"]) (sc := defScope s_law) (by decide +kernel)) (fun _ _ _ _ _ => pg_name (i := 10) sc_law.nd rfl (.inl rfl)) (fun _ _ _ _ _ => pts_nil) (fun _ _ _ _ _ => (pe_ix (ix_tupK (K := K) rfl) (pe_prop (pe_ix (ix_listK (K := K) rfl) (pv 8) pe_int (fun _ _ => rfl)) T.cl_Pair T.P_Pair_counts G_Pair_counts (hr.mono (by first | decide | omega)) (b_Pair_counts T) .nil pass0 rfl) (pv 10) (fun _ _ => rfl)))) pa_nil)) (pv 7) (nomark _))))) (pss_one (ps_ret pe_bl)) pss_nil)
      (pss_one (ps_ret (pe_and (pe_cmpR op_le (pe_prop (pe_ix ix_list (pv 8) pe_int (fun _ _ => rfl)) T.cl_Pair T.P_Pair_requests G_Pair_requests (hr.mono (by first | decide | omega)) (b_Pair_requests T) .nil pass0 rfl) (pe_prop (pe_ix ix_list (pv 8) pe_int (fun _ _ => rfl)) T.cl_Pair T.P_Pair_requests G_Pair_requests (hr.mono (by first | decide | omega)) (b_Pair_requests T) .nil pass0 rfl) (nomark _)) (pe_one (pe_prop (pe_ix ix_list (pv 8) pe_int (fun _ _ => rfl)) T.cl_Pair T.P_Pair_is_on G_Pair_is_on (hr.mono (by first | decide | omega)) (b_Pair_is_on T) .nil pass0 rfl))))))))))))))))))), ?_⟩
    refine ⟨_, rfl, a, 105, ns, rfl, hS, hlen, fun r H1 r0 f1 R1 => ?_⟩
    have X1 := LW.start R1
    have T1 : TabsN [(Pt, nmL)] H1 := fun p hp => by rw [List.mem_singleton.mp hp]; exact TabN.nil (f1 _ _ hPt (by simp))
    clear R1 f1 r0 hS hPt
    -- blocks, slots, rules
    refine ⟨fun σ' H' => ∃ (nb n : Nat) (rt : Addr) (wr rd ch : Str) (bd : Nat), σ' = [some (.ref a), some (.ref r), some (.int (nb : Int)), some (.int (n : Int)), some (.ref rt), none, none, none, none, none, none] ∧ LW H' r [] [(rt, [.str wr, .str rd, .str ch, .int (bd : Int)])] ∧ TabsN [(Pt, nmL)] H' ∧ 1 ≤ nb ∧ nb ≤ 4 ∧ 1 ≤ n ∧ n ≤ 4 ∧ WordIn wr W0 ∧ WordIn rd W1 ∧ WordIn ch W2 ∧ bd ≤ 8, ?_, ?_⟩
    · refine ⟨_, rfl, r, 4, rfl, X1.rnd, by decide, by decide, fun x H2 hx f2 R2 => ⟨_, _, rfl, rfl, _, rfl, r, 4, rfl, R2, by decide, by decide, fun y H3 hy f3 R3 => ⟨_, _, rfl, rfl, _, rfl, r, 4, rfl, R3, by decide, fun rt wr rd ch bd H4 hrt f4 R4 ert m0 m1 m2 hbd => ?_⟩⟩⟩
      have X4 := (((X1.draw f2 R2).draw f3 R3).draw f4 R4).hasT ert
      have T4 := tab_rnd (tab_rnd (tab_rnd T1 X1.rnd f2) R2 f3) R3 f4
      refine ⟨sz_le (by simp), fun tt htt => ⟨tt, _, rfl, SqT.of upd_same, rfl, _, _, rfl, _, _, rfl, _, _, rfl, rfl, ?_⟩⟩
      exact ⟨1 + x, 1 + y, rt, wr, rd, ch, bd, by rw [show ((1 + x : Nat) : Int) = 1 + (x : Int) by omega, show ((1 + y : Nat) : Int) = 1 + (y : Int) by omega]; rfl, X4.keep0 (Fr.new htt), tab0 T4 (Fr.new htt), by omega, by omega, by omega, by omega, m0, m1, m2, by omega⟩
    clear X1 T1
    rintro σ2 H2 ⟨nb, n, rt, wr, rd, ch, bd, rfl, X2, T2, hb1, hb4, hn1, hn4, m0, m1, m2, hbd⟩
    -- the requests
    refine ⟨fun σ' H' => ∃ (RL : Addr) (rs : List (Addr × Rq)), σ' = [some (.ref a), some (.ref r), some (.int (nb : Int)), some (.int (n : Int)), some (.ref rt), some (.ref RL), none, none, none, none, none] ∧ LW H' r [(RL, rqR rs)] (rqT rs ++ [(rt, [.str wr, .str rd, .str ch, .int (bd : Int)])]) ∧ TabsN [(Pt, nmL)] H' ∧ rs.length ≤ 11 ∧ ∀ x ∈ rs, x.2.ok nb, ?_, ?_⟩
    · refine ⟨_, rfl, r, 12, rfl, X2.rnd, by decide, by decide, fun m H3 hm f3 R3 => ⟨(m : Int), rfl, by omega, by omega, fun D hD => ?_⟩⟩
      have X3 := X2.draw f3 R3
      have T3 := tab_rnd T2 X2.rnd f3
      refine lc_range (lo := 0) (n := m) (fun i H' => ∃ rs : List (Addr × Rq), rs.length = i ∧ LW H' r [(D, rqR rs)] (rqT rs ++ [(rt, [.str wr, .str rd, .str ch, .int (bd : Int)])]) ∧ TabsN [(Pt, nmL)] H' ∧ ∀ x ∈ rs, x.2.ok nb)
        ⟨[], rfl, X3.add hD, tab0 T3 (Fr.new hD), fun x hx => (by cases hx)⟩ ?_ ?_
      · rintro i H4 hi ⟨rs, lrs, X4, T4, ok4⟩
        refine ⟨rfl, ?_⟩
        unfold tYes
        refine iteT ?_
        refine ⟨_, rfl, _, rfl, r, nb, rfl, X4.rnd, hb1, by omega, fun tq q H5 htq f5 R5 etq hok => ?_⟩
        have X5 := (X4.draw f5 R5).hasT etq
        have T5 := tab_rnd T4 X4.rnd f5
        have X6 := X5.put (ys := rqR rs ++ [.ref tq]) (fun p hp => (by cases hp))
        refine ⟨_, X5.hd, ?_, rs ++ [(tq, q)], by rw [List.length_append, lrs]; rfl, ?_, tab_fr T5 (Fr.put (S := [D]) (by simp)) fun b hb o ho => ?_, fun x hx => ?_⟩
        · rw [List.length_map, lrs]
          exact sz_lt (by omega)
        · have := X6.sub (ts' := rqT (rs ++ [(tq, q)]) ++ [(rt, [.str wr, .str rd, .str ch, .int (bd : Int)])]) (fun p hp => hp) fun p hp => by
            simp only [List.map_append, List.map_cons, List.map_nil, List.mem_append, List.mem_cons, List.not_mem_nil, or_false] at hp ⊢
            rcases hp with (hp | hp) | hp
            · exact .inr (.inl hp)
            · exact .inl hp
            · exact .inr (.inr hp)
          rw [show rqR (rs ++ [(tq, q)]) = rqR rs ++ [.ref tq] from List.map_append]
          exact this
        · rw [List.mem_singleton.mp hb, X5.hd] at ho
          cases ho
          exact ⟨fun _ z => (by cases z), fun _ z => (by cases z)⟩
        · rcases List.mem_append.mp hx with y | y
          · exact ok4 x y
          · rw [List.mem_singleton.mp y]
            exact hok
      · rintro H4 ⟨rs, lrs, X4, T4, ok4⟩
        exact ⟨D, rs, rfl, X4, T4, by omega, ok4⟩
    clear X2 T2
    rintro σ3 H3 ⟨RL, rs, rfl, X3, T3, lrs, ok3⟩
    -- the pairs
    refine ⟨fun σ' H' => ∃ (PL p0 p1 p2 : Addr) (e0 e1 e2 : E3), σ' = [some (.ref a), some (.ref r), some (.int (nb : Int)), some (.int (n : Int)), some (.ref rt), some (.ref RL), none, none, some (.ref PL), none, none] ∧ K50 (clT T) Pt H' r RL PL p0 p1 p2 rs e0 e1 e2 ∧ Row nb rs (initR SAFE nb n wr rd ch (bd : Int)) ∧ e0.s = initR SAFE nb n wr rd ch (bd : Int) ∧ e1.s = initR SAFE nb n wr rd ch (bd : Int) ∧ e2.s = initR SAFE nb n wr rd ch (bd : Int), ?_, ?_⟩
    · refine ⟨3, rfl, by decide, by decide, fun D hD => ?_⟩
      refine lc_range (lo := 0) (n := 3) (fun i H' => ∃ L : List E3, L.length = i ∧ LM (clT T) H' r [(D, L.map fun e => V.ref e.P.p), (RL, rqR rs)] (rqT rs ++ [(rt, [.str wr, .str rd, .str ch, .int (bd : Int)])]) L ∧ TabsN [(Pt, nmL)] H' ∧ ∀ e ∈ L, e.s = initR SAFE nb n wr rd ch (bd : Int))
        ⟨[], rfl, (LM.of X3).add hD, tab0 T3 (Fr.new hD), fun e m => (by cases m)⟩ ?_ ?_
      · rintro i H4 hi ⟨L, hL, Q4, T4, ok⟩
        refine ⟨rfl, ?_⟩
        unfold tYes
        refine iteT ?_
        refine ⟨_, rfl, _, rfl, _, rfl, rfl, fun lo H5 hlo f5 tl => ?_⟩
        have Q5 := Q4.keep0 f5
        refine ⟨rt, lo, nb, n, wr, rd, ch, bd, SAFE, rfl, hb1, by omega, hn1, by omega, Q5.w.tup (rt, _) (by simp), m0, m1, m2, hbd, tl, safeOk, fun H6 Pr f6 hP gw eru ere => ?_⟩
        have Q6 := Q5.pair f6 hP gw
        have T6 := tab0 (tab0 T4 f5) f6
        have nRD : ∀ p ∈ [(RL, rqR rs)], p.1 ≠ D := fun p hp z => by
          rw [List.mem_singleton.mp hp] at z
          have := X3.hd
          have z' : RL = D := z
          rw [z', hD] at this
          cases this
        refine ⟨_, Q6.w.hd, ?_, L ++ [⟨Pr, [], initR SAFE nb n wr rd ch (bd : Int)⟩], by rw [List.length_append, hL]; rfl, ?_, tab_fr T6 (Fr.put (S := [D]) (by simp)) fun b hb o ho => ?_, fun e m => ?_⟩
        · rw [List.length_map, hL]
          exact sz_lt (by omega)
        · rw [List.map_append]
          exact Q6.put nRD
        · rw [List.mem_singleton.mp hb, Q6.w.hd] at ho
          cases ho
          exact ⟨fun _ z => (by cases z), fun _ z => (by cases z)⟩
        · rcases List.mem_append.mp m with m | m
          · exact ok e m
          · rw [List.mem_singleton.mp m]
      · rintro H4 ⟨L, hL, Q4, T4, ok⟩
        match L, hL, Q4, ok with
        | [e0, e1, e2], _, Q4, ok =>
          have G : G98 nb 0 (List.replicate nb 0) (initR SAFE nb n wr rd ch (bd : Int)) := ⟨initG nb n wr rd ch (bd : Int) hn1 (by omega), initRt _ _ _ _ _ _ _, wrOk_of m0, rfl, initL nb n wr rd ch (bd : Int)⟩
          exact ⟨D, e0.P.p, e1.P.p, e2.P.p, e0, e1, e2, rfl, ⟨Q4.sub (fun p hp => hp) (fun p hp => List.mem_append_left _ hp), T4, rfl, rfl, rfl⟩, ⟨row_of ⟨_, G⟩ ok3, rfl, rfl, rfl, rfl, by show ∀ z ∈ SAFE, z.length ≤ 8; decide, ok3⟩, ok _ (by simp), ok _ (by simp), ok _ (by simp)⟩
    clear X3 T3
    rintro σ4 H4 ⟨PL, p0, p1, p2, e0, e1, e2, rfl, K4, RW, es0, es1, es2⟩
    generalize initR SAFE nb n wr rd ch (bd : Int) = S0 at *
    -- all of them to the first
    refine ⟨fun σ' H' => ∃ (e0 : E3) (v9 : Option V), σ' = [some (.ref a), some (.ref r), some (.int (nb : Int)), some (.int (n : Int)), some (.ref rt), some (.ref RL), none, none, some (.ref PL), v9, none] ∧ K50 (clT T) Pt H' r RL PL p0 p1 p2 rs e0 e1 e2 ∧ e0.s = rowS rs S0 rs.length, ?_, ?_⟩
    · refine ⟨_, rfl, RL, rfl, ⟨_, SqL.of K4.rl⟩, for_it (walk_list (K := K) (a := RL) (xs := rqR rs)) (fun j σ' H' => ∃ (e0 : E3) (v9 : Option V), σ' = [some (.ref a), some (.ref r), some (.int (nb : Int)), some (.int (n : Int)), some (.ref rt), some (.ref RL), none, none, some (.ref PL), v9, none] ∧ K50 (clT T) Pt H' r RL PL p0 p1 p2 rs e0 e1 e2 ∧ e0.s = rowS rs S0 j) ⟨e0, none, rfl, K4, es0⟩ (fun j σ' H' _ h => by
        obtain ⟨_, _, _, h, _⟩ := h
        exact SqL.of h.rl) ?_ ?_⟩
      · clear K4 es0 e0
        rintro j y σ5 H5 H6 hj ⟨e0, v9, rfl, K6, hs⟩ ⟨rfl, ey⟩
        have hj' : j < rs.length := by simpa using hj
        rw [List.getElem?_map, List.getElem?_eq_getElem hj'] at ey
        cases ey
        obtain ⟨val, g⟩ := RW.g j (by omega)
        have g : G98 nb (j * 11) val (rowS rs S0 j) := g
        rw [← hs] at g
        obtain ⟨an, en, _⟩ := RW.next hj'
        refine ⟨_, rfl, PL, _, (0 : Int), _, rfl, rfl, SqL.of K6.pl, rfl, _, rfl, e0.P, e0.ks, e0.s, rs[j].1, rs[j].2, by rw [K6.h0]; rfl, K6.a0, g.g.wf, g.g.ce, g.g.on, g.lim.up (by omega), by rw [g.g.rc]; decide, K6.rq (List.getElem_mem hj'), by rw [g.nb]; exact RW.ok _ (List.getElem_mem hj'), ?_⟩
        rw [hs, en]
        rintro H7 P7 ks7 v7 c7 -
        exact ⟨⟨P7, ks7, rowS rs S0 (j + 1)⟩, _, rfl, K6.c0 c7, rfl⟩
      · rintro σ5 H5 ⟨e0, v9, rfl, K5, hs⟩
        rw [List.length_map] at hs
        exact ⟨e0, v9, rfl, K5, hs⟩
    clear K4 es0 e0
    rintro σ5 H5 ⟨e0, v9, rfl, K5, es0⟩
    obtain ⟨fd0, ff0, fr0⟩ := RW.facts rs.length (Nat.le_refl _)
    -- how many steps
    obtain ⟨many, hmany⟩ : ∃ many, many = tot (rowS rs S0 rs.length) := ⟨_, rfl⟩
    refine ⟨fun σ' H' => σ' = [some (.ref a), some (.ref r), some (.int (nb : Int)), some (.int (n : Int)), some (.ref rt), some (.ref RL), some (.int (many : Int)), none, some (.ref PL), v9, none] ∧ K50 (clT T) Pt H' r RL PL p0 p1 p2 rs e0 e1 e2, ?_, ?_⟩
    · obtain ⟨c1, c2, c4, c5, h1, h2, h4, h5, hsum⟩ := sum_cnt fd0 ff0
      rw [← es0] at h1 h2 h4 h5
      have hdc : e0.s.dc.length = 6 := by rw [es0, fd0]; rfl
      refine ⟨sz_le (by simp), fun tt htt => ?_⟩
      have K6 := K5.keep0 (Fr.new (o := .tup [.int 1, .int 2, .int 4, .int 5]) htt)
      have ett : (upd H5 tt (.tup [.int 1, .int 2, .int 4, .int 5])) tt = some (.tup [.int 1, .int 2, .int 4, .int 5]) := upd_same
      generalize (upd H5 tt (.tup [.int 1, .int 2, .int 4, .int 5])) = H6 at *
      refine ⟨tt, rfl, ⟨_, SqT.of ett⟩, fun D hD => ?_⟩
      refine lc_tup (K := K) (a := tt) (xs := [.int 1, .int 2, .int 4, .int 5]) (fun i H' => Fr [] H6 H' ∧ H' D = some (.lst (iV ([c1, c2, c4, c5].take i)))) ⟨Fr.new hD, upd_same⟩ (fun i H' _ h => SqT.of (h.1 _ _ ett (by simp))) ?_ ?_
      · rintro i x H7 hx ⟨f7, eD⟩
        have K7 := K6.keep0 f7
        have hins : H7 p0 = some (.ins (clT T).cP e0.P.px (e0.s.fs e0.P)) := by rw [← K7.h0]; exact K7.a0.ins
        obtain ⟨kx, cx, rfl, hk, hi4, htk⟩ : ∃ kx cx : Nat, x = .int (kx : Int) ∧ (cntS e0.s)[kx]? = some (cx : Int) ∧ i < 4 ∧ [c1, c2, c4, c5].take (i + 1) = [c1, c2, c4, c5].take i ++ [cx] := match i, hx with
          | 0, hx => ⟨1, c1, by cases hx; rfl, h1, by omega, rfl⟩
          | 1, hx => ⟨2, c2, by cases hx; rfl, h2, by omega, rfl⟩
          | 2, hx => ⟨4, c4, by cases hx; rfl, h4, by omega, rfl⟩
          | 3, hx => ⟨5, c5, by cases hx; rfl, h5, by omega, rfl⟩
          | i + 4, hx => by simp at hx
        refine ⟨rfl, _, rfl, PL, _, (0 : Int), _, rfl, rfl, SqL.of K7.pl, rfl, p0, e0.P.px, _, rfl, hins, e0.P, e0.ks, e0.s, by rw [K7.h0], K7.a0, hdc, fun T1 H8 hT1 f8 eT1 => ?_⟩
        refine ⟨_, rfl, T1, _, _, _, rfl, rfl, SqT.of eT1, cnt_atK hk, _, f8 _ _ eD (by simp), ?_, (f7.trans f8).upd0 hD, ?_⟩
        · rw [List.length_map, List.length_take]
          exact sz_lt (by simp; omega)
        · rw [upd_same, htk, iV_snoc]
      · rintro H7 ⟨f7, eD⟩
        refine ⟨D, [(c1 : Int), c2, c4, c5], rfl, SqL.of eD, ?_⟩
        rw [show ([(c1 : Int), c2, c4, c5] : List Int).sum = (many : Int) by rw [hmany, ← hsum]; simp; omega]
        exact ⟨rfl, K6.keep0 f7⟩
    clear K5
    rintro σ6 H6 ⟨rfl, K6⟩
    have hmb : many ≤ 880 := by
      rw [hmany]
      have := RW.bound rs.length (Nat.le_refl _)
      omega
    -- the second: a failure beyond the end
    refine ⟨fun σ' H' => ∃ (e1 : E3) (x : Nat), σ' = [some (.ref a), some (.ref r), some (.int (nb : Int)), some (.int (n : Int)), some (.ref rt), some (.ref RL), some (.int (many : Int)), none, some (.ref PL), v9, none] ∧ K50 (clT T) Pt H' r RL PL p0 p1 p2 rs e0 e1 e2 ∧ e1.s = S0.lf (many + x) ∧ x < 3, ?_, ?_⟩
    · have hins : H6 p1 = some (.ins (clT T).cP e1.P.px (e1.s.fs e1.P)) := by rw [← K6.h1]; exact K6.a1.ins
      refine ⟨_, rfl, PL, _, (1 : Int), _, rfl, rfl, SqL.of K6.pl, rfl, p1, e1.P.px, _, rfl, hins, pF_no_fail_at, _, rfl, _, rfl, r, 3, rfl, K6.q.w.rnd, by decide, by decide, fun x H7 hx f7 R7 => ⟨_, _, rfl, rfl, ?_⟩⟩
      have K7 := K6.draw f7 R7
      obtain ⟨val, g⟩ := RW.g 0 (Nat.zero_le _)
      refine ⟨e1.P, e1.ks, e1.s, some (many + x), by rw [K7.h1]; rfl, K7.a1, by rw [es1]; exact g.g.on, fun n e => by cases e; omega, fun H8 c8 => ?_⟩
      exact ⟨⟨e1.P, e1.ks, { e1.s with left := some (many + x) }⟩, x, rfl, K7.c1 c8, by show ({ e1.s with left := some (many + x) } : PS) = _; rw [es1]; rfl, hx⟩
    clear K6 es1 e1
    rintro σ7 H7 ⟨e1, x, rfl, K7, es1, hx3⟩
    refine ⟨fun σ' H' => ∃ (e1 : E3) (v9 : Option V), σ' = [some (.ref a), some (.ref r), some (.int (nb : Int)), some (.int (n : Int)), some (.ref rt), some (.ref RL), some (.int (many : Int)), none, some (.ref PL), v9, none] ∧ K50 (clT T) Pt H' r RL PL p0 p1 p2 rs e0 e1 e2 ∧ e1.s = (rowS rs S0 rs.length).lf x, ?_, ?_⟩
    · refine ⟨_, rfl, RL, rfl, ⟨_, SqL.of K7.rl⟩, for_it (walk_list (K := K) (a := RL) (xs := rqR rs)) (fun j σ' H' => ∃ (e1 : E3) (v9 : Option V), σ' = [some (.ref a), some (.ref r), some (.int (nb : Int)), some (.int (n : Int)), some (.ref rt), some (.ref RL), some (.int (many : Int)), none, some (.ref PL), v9, none] ∧ K50 (clT T) Pt H' r RL PL p0 p1 p2 rs e0 e1 e2 ∧ e1.s = (rowS rs S0 j).lf (many + x - tot (rowS rs S0 j))) ⟨e1, v9, rfl, K7, by rw [es1]; show S0.lf _ = S0.lf _; rw [show tot (rowS rs S0 0) = 0 from RW.t0]; rfl⟩ (fun j σ' H' _ h => by
        obtain ⟨_, _, _, h, _⟩ := h
        exact SqL.of h.rl) ?_ ?_⟩
      · clear K7 es1 e1
        rintro j y σ5 H5 H6 hj ⟨e1, v9, rfl, K6, hs⟩ ⟨rfl, ey⟩
        have hj' : j < rs.length := by simpa using hj
        rw [List.getElem?_map, List.getElem?_eq_getElem hj'] at ey
        cases ey
        obtain ⟨val, g⟩ := RW.g j (by omega)
        have g : G98 nb (j * 11) val (rowS rs S0 j) := g
        obtain ⟨an, en, ht, _, _, _, hstep⟩ := RW.next hj'
        have hle := RW.le (j := j + 1) (by omega)
        obtain ⟨hok, _⟩ := hstep (many + x - tot (rowS rs S0 j))
        refine ⟨_, rfl, PL, _, (1 : Int), _, rfl, rfl, SqL.of K6.pl, rfl, _, rfl, e1.P, e1.ks, e1.s, rs[j].1, rs[j].2, by rw [K6.h1]; rfl, K6.a1, by rw [hs]; exact wf_lf g.g.wf _, by rw [hs]; exact g.g.ce, by rw [hs]; exact g.g.on, by rw [hs]; exact g.lim.up (by omega), by rw [hs]; show ∀ z ∈ (rowS rs S0 j).rcs, z.length ≤ 8; rw [g.g.rc]; decide, K6.rq (List.getElem_mem hj'), by rw [hs]; show rs[j].2.ok (rowS rs S0 j).nb; rw [g.nb]; exact RW.ok _ (List.getElem_mem hj'), ?_⟩
        rw [hs, hok (by omega)]
        rintro H7 P7 ks7 v7 c7 -
        exact ⟨⟨P7, ks7, _⟩, _, rfl, K6.c1 c7, by show PS.lf _ _ = PS.lf _ _; rw [show tot (rowS rs S0 j) + (many + x - tot (rowS rs S0 j)) - tot (rowS rs S0 (j + 1)) = many + x - tot (rowS rs S0 (j + 1)) by omega]⟩
      · rintro σ5 H5 ⟨e1, v9, rfl, K5, hs⟩
        rw [List.length_map] at hs
        exact ⟨e1, v9, rfl, K5, by rw [hs, ← hmany, show many + x - many = x by omega]⟩
    clear K7 es1 e1
    rintro σ8 H8 ⟨e1, v9, rfl, K8, es1⟩
    -- both alike
    refine ⟨fun σ' H' => σ' = [some (.ref a), some (.ref r), some (.int (nb : Int)), some (.int (n : Int)), some (.ref rt), some (.ref RL), some (.int (many : Int)), none, some (.ref PL), v9, none] ∧ K50 (clT T) Pt H' r RL PL p0 p1 p2 rs e0 e1 e2, ?_, ?_⟩
    · have hcnt : cntS e1.s = cntS e0.s := by rw [es1, es0] <;> rfl
      have hkn : kns e1.ks = kns e0.ks := by rw [K8.a1.kno, K8.a0.kno, es1, es0] <;> rfl
      have hpd : pdD e1.s = pdD e0.s := by rw [es1, es0] <;> rfl
      have hdc0 : e0.s.dc.length = 6 := by rw [es0, fd0] <;> rfl
      have hdc1 : e1.s.dc.length = 6 := by rw [es1]; show (rowS rs S0 rs.length).dc.length = 6; rw [fd0] <;> rfl
      obtain ⟨valL, gL⟩ := RW.g rs.length (Nat.le_refl _)
      have gL : G98 nb (rs.length * 11) valL (rowS rs S0 rs.length) := gL
      have hon0 : e0.s.on = true := by rw [es0]; exact gL.g.on
      have hon1 : e1.s.on = true := by rw [es1]; exact gL.g.on
      have hi0 : ∀ {H' : Hp}, K50 (clT T) Pt H' r RL PL p0 p1 p2 rs e0 e1 e2 → H' p0 = some (.ins (clT T).cP e0.P.px (e0.s.fs e0.P)) := fun k => by rw [← k.h0]; exact k.a0.ins
      have hi1 : ∀ {H' : Hp}, K50 (clT T) Pt H' r RL PL p0 p1 p2 rs e0 e1 e2 → H' p1 = some (.ins (clT T).cP e1.P.px (e1.s.fs e1.P)) := fun k => by rw [← k.h1]; exact k.a1.ins
      refine ⟨_, rfl, PL, _, (1 : Int), _, rfl, rfl, SqL.of K8.pl, rfl, p1, e1.P.px, _, rfl, hi1 K8, e1.P, e1.ks, e1.s, by rw [K8.h1], K8.a1, hdc1, fun T1 H9 hT1 f9 eT1 => ?_⟩
      have K9 := K8.keep0 f9
      refine ⟨_, rfl, PL, _, (0 : Int), _, rfl, rfl, SqL.of K9.pl, rfl, p0, e0.P.px, _, rfl, hi0 K9, e0.P, e0.ks, e0.s, by rw [K9.h0], K9.a0, hdc0, fun T2 H10 hT2 f10 eT2 => ?_⟩
      rw [hcnt] at eT1
      have eT1' := f10 _ _ eT1 (by simp)
      have K10 := K9.keep0 f10
      refine ⟨_, _, .tup (SqT.of eT1') (dpAll_ints _), .tup (SqT.of eT2) (dpAll_ints _), shapedT_ints _, shapedT_ints _, _, rfl, ?_⟩
      rw [eqvT_ints, decide_eq_true rfl]
      refine iteF ?_
      refine ⟨_, rfl, PL, _, (1 : Int), _, rfl, rfl, SqL.of K10.pl, rfl, p1, e1.P.px, _, rfl, hi1 K10, e1.P, e1.ks, e1.s, by rw [K10.h1], K10.a1, hon1, fun D1 H11 hD1 f11 eD1 => ?_⟩
      have K11 := K10.keep0 f11
      refine ⟨_, rfl, PL, _, (0 : Int), _, rfl, rfl, SqL.of K11.pl, rfl, p0, e0.P.px, _, rfl, hi0 K11, e0.P, e0.ks, e0.s, by rw [K11.h0], K11.a0, hon0, fun D2 H12 hD2 f12 eD2 => ?_⟩
      have eD1' := f12 _ _ eD1 (by simp)
      have K12 := K11.keep0 f12
      refine ⟨D1, D2, _, _, rfl, rfl, eD1', eD2, known_len hkn, known_eq K12.a1.mem K12.a0.mem hkn, _, rfl, iteF ?_⟩
      refine ⟨_, rfl, PL, _, (1 : Int), _, rfl, rfl, SqL.of K12.pl, rfl, p1, e1.P.px, _, rfl, hi1 K12, e1.P, e1.ks, e1.s, by rw [K12.h1], K12.a1, fun t1 H13 ht1 f13 et1 => ?_⟩
      have K13 := K12.keep0 f13
      refine ⟨_, rfl, PL, _, (0 : Int), _, rfl, rfl, SqL.of K13.pl, rfl, p0, e0.P.px, _, rfl, hi0 K13, e0.P, e0.ks, e0.s, by rw [K13.h0], K13.a0, fun t2 H14 ht2 f14 et2 => ?_⟩
      have d1 := (et1.keep0 f14).dp (K := K)
      rw [hpd] at d1
      refine ⟨_, _, d1, et2.dp, shaped_pd _, shaped_pd _, _, rfl, ?_⟩
      rw [eqv_pd]
      exact iteF ⟨rfl, K13.keep0 f14⟩
    clear K8
    rintro σ9 H9 ⟨rfl, K9⟩
    have hon1 : e1.s.on = true := by
      obtain ⟨val, g⟩ := RW.g rs.length (Nat.le_refl _)
      rw [es1]
      exact g.g.on
    have hins1 : ∀ {H' : Hp} {e1 : E3}, K50 (clT T) Pt H' r RL PL p0 p1 p2 rs e0 e1 e2 → H' p1 = some (.ins (clT T).cP e1.P.px (e1.s.fs e1.P)) := fun k => by rw [← k.h1]; exact k.a1.ins
    refine ⟨fun σ' H' => σ' = [some (.ref a), some (.ref r), some (.int (nb : Int)), some (.int (n : Int)), some (.ref rt), some (.ref RL), some (.int (many : Int)), none, some (.ref PL), v9, none] ∧ K50 (clT T) Pt H' r RL PL p0 p1 p2 rs e0 e1 e2 ∧ 1 ≤ many, ?_, ?_⟩
    · refine ⟨_, rfl, rfl, _, rfl, iteB (fun _ => ?_) fun e => ⟨rfl, K9, ?_⟩⟩
      · refine ⟨_, rfl, PL, _, (1 : Int), _, rfl, rfl, SqL.of K9.pl, rfl, p1, e1.P.px, _, rfl, hins1 K9, e1.P, e1.ks, e1.s, by rw [K9.h1], K9.a1, ?_⟩
        show Q (.bl e1.s.on) _
        rw [hon1]
        exact k _
      · have e' : ¬ (V.int (many : Int) = V.int 0) := by simpa using e
        have : many ≠ 0 := fun z => e' (by rw [z]; rfl)
        omega
    clear K9
    rintro σ10 H10 ⟨rfl, K10, hm1⟩
    -- the third: a failure on the way
    refine ⟨fun σ' H' => ∃ at' : Nat, σ' = [some (.ref a), some (.ref r), some (.int (nb : Int)), some (.int (n : Int)), some (.ref rt), some (.ref RL), some (.int (many : Int)), some (.int (at' : Int)), some (.ref PL), v9, none] ∧ K50 (clT T) Pt H' r RL PL p0 p1 p2 rs e0 e1 e2 ∧ at' < many, ?_, ?_⟩
    · exact ⟨_, rfl, _, rfl, r, many, rfl, K10.q.w.rnd, hm1, by omega, fun x H11 hx f11 R11 => ⟨x, rfl, K10.draw f11 R11, hx⟩⟩
    clear K10
    rintro σ11 H11 ⟨at', rfl, K11, hat⟩
    have hins2 : ∀ {H' : Hp} {e2 : E3}, K50 (clT T) Pt H' r RL PL p0 p1 p2 rs e0 e1 e2 → H' p2 = some (.ins (clT T).cP e2.P.px (e2.s.fs e2.P)) := fun k => by rw [← k.h2]; exact k.a2.ins
    obtain ⟨val00, g00⟩ := RW.g 0 (Nat.zero_le _)
    refine ⟨_, rfl, PL, _, (2 : Int), _, rfl, rfl, SqL.of K11.pl, rfl, p2, e2.P.px, _, rfl, hins2 K11, pF_no_fail_at, _, rfl, e2.P, e2.ks, e2.s, some at', by rw [K11.h2]; rfl, K11.a2, by rw [es2]; exact g00.g.on, fun n e => by cases e; omega, fun H12 c12 => ?_⟩
    have K12 := K11.c2 c12
    have es2' : ({ e2.s with left := some at' } : PS) = S0.lf at' := by rw [es2]; rfl
    clear K11 g00 val00 c12
    obtain ⟨e2', es3, K13⟩ : ∃ e : E3, e.s = S0.lf at' ∧ K50 (clT T) Pt H12 r RL PL p0 p1 p2 rs e0 e1 e := ⟨_, es2', K12⟩
    clear K12 es2' es2 hins2 hins1 e2
    have hins2 : ∀ {H' : Hp} {e2 : E3}, K50 (clT T) Pt H' r RL PL p0 p1 p2 rs e0 e1 e2 → H' p2 = some (.ins (clT T).cP e2.P.px (e2.s.fs e2.P)) := fun k => by rw [← k.h2]; exact k.a2.ins
    refine ⟨fun σ' H' => ∃ (e2 : E3) (v9 : Option V), σ' = [some (.ref a), some (.ref r), some (.int (nb : Int)), some (.int (n : Int)), some (.ref rt), some (.ref RL), some (.int (many : Int)), some (.int (at' : Int)), some (.ref PL), v9, none] ∧ K50 (clT T) Pt H' r RL PL p0 p1 p2 rs e0 e1 e2 ∧ e2.s.on = false ∧ tot e2.s = at' ∧ e2.s.dc = [0, 0, 0, 0, 0, 0] ∧ e2.s.fa.isSome = true ∧ e2.s.reqs ≤ rs.length, ?_, ?_⟩
    · refine ⟨_, rfl, RL, rfl, ⟨_, SqL.of K13.rl⟩, for_it (walk_list (K := K) (a := RL) (xs := rqR rs)) (fun j σ' H' => ∃ (e2 : E3) (v9 : Option V), σ' = [some (.ref a), some (.ref r), some (.int (nb : Int)), some (.int (n : Int)), some (.ref rt), some (.ref RL), some (.int (many : Int)), some (.int (at' : Int)), some (.ref PL), v9, none] ∧ K50 (clT T) Pt H' r RL PL p0 p1 p2 rs e0 e1 e2 ∧ ((e2.s = (rowS rs S0 j).lf (at' - tot (rowS rs S0 j)) ∧ tot (rowS rs S0 j) ≤ at') ∨ (e2.s.on = false ∧ tot e2.s = at' ∧ e2.s.dc = [0, 0, 0, 0, 0, 0] ∧ e2.s.fa.isSome = true ∧ e2.s.reqs ≤ j))) ⟨e2', v9, rfl, K13, .inl ⟨by rw [es3]; show S0.lf _ = S0.lf _; rw [show tot (rowS rs S0 0) = 0 from RW.t0]; rfl, by rw [show tot (rowS rs S0 0) = 0 from RW.t0]; omega⟩⟩ (fun j σ' H' _ h => by
        obtain ⟨_, _, _, h, _⟩ := h
        exact SqL.of h.rl) ?_ ?_⟩
      · clear K13 es3 e2'
        rintro j y σ5 H5 H6 hj ⟨e2, v9, rfl, K6, hs⟩ ⟨rfl, ey⟩
        have hj' : j < rs.length := by simpa using hj
        rw [List.getElem?_map, List.getElem?_eq_getElem hj'] at ey
        cases ey
        refine ⟨_, rfl, PL, _, (2 : Int), _, rfl, rfl, SqL.of K6.pl, rfl, p2, e2.P.px, _, rfl, hins2 K6, e2.P, e2.ks, e2.s, by rw [K6.h2], K6.a2, _, rfl, ?_⟩
        rcases hs with ⟨hs, hle⟩ | ⟨h1, h2, h3, h4, h5⟩
        rotate_left
        · rw [h1]
          exact iteF ⟨e2, _, rfl, K6, .inr ⟨h1, h2, h3, h4, by omega⟩⟩
        obtain ⟨val, g⟩ := RW.g j (by omega)
        have g : G98 nb (j * 11) val (rowS rs S0 j) := g
        have hon : e2.s.on = true := by rw [hs]; exact g.g.on
        obtain ⟨an, en, ht, hrq, hdcn, hfan, hstep⟩ := RW.next hj'
        obtain ⟨hok, hpf⟩ := hstep (at' - tot (rowS rs S0 j))
        obtain ⟨fdj, ffj, frj⟩ := RW.facts j (by omega)
        rw [hon]
        refine iteT ?_
        refine ⟨K6.tab, fun fl F HB q1 q2 q3 q4 q5 q6 eN TB' hf L pins s1 I => ?_⟩
        refine ⟨fl, F, ["_law_pairs", "_law_request_here"], [some (.ref PL), some (.ref rs[j].1)], lpD T, rfl, lok_1 T HP q3 q4 q2 q6, Act.made (js := [8, 9]) (fun _ => rfl) I L (by rw [q5]; exact Caps.made I.ok cap1 free1 rfl), fun Q' E' hq he => ?_⟩
        have K7 : K50 (clT T) Pt HB r RL PL p0 p1 p2 rs e0 e1 e2 := ⟨K6.q.extN eN, TB', K6.h0, K6.h1, K6.h2⟩
        refine ⟨PL, rs[j].1, p0, p1, e2.P, e2.ks, e2.s, rs[j].2, rfl, by rw [K7.h2]; exact K7.pl, K7.a2, by rw [hs]; exact wf_lf g.g.wf _, by rw [hs]; exact g.g.ce, hon, by rw [hs]; exact g.lim.up (by omega), by rw [hs]; show ∀ z ∈ (rowS rs S0 j).rcs, z.length ≤ 8; rw [g.g.rc]; decide, K7.rq (List.getElem_mem hj'), by rw [hs]; show rs[j].2.ok (rowS rs S0 j).nb; rw [g.nb]; exact RW.ok _ (List.getElem_mem hj'), ?_⟩
        rw [hs]
        by_cases hfail : at' < tot (rowS rs S0 (j + 1))
        · obtain ⟨b, s', e', t', o', r', d', f'⟩ := hpf (by omega)
          rw [e']
          rintro H8 P8 ks8 dx c8 edx
          have K8 : K50 (clT T) Pt H8 r RL PL p0 p1 p2 rs e0 e1 ⟨P8, ks8, s'⟩ := K7.c2 c8
          refine he _ _ _ ⟨rfl, b, (by simp), edx, fun t H9 ht f9 et => ?_⟩
          have K9 := K8.keep0 f9
          refine ⟨sz_le (by simp), fun t1 ht1 => ⟨sz_le (by simp), fun t2 ht2 => ⟨sz_le (by simp), fun t3 ht3 => ?_⟩⟩⟩
          have fa : Fr [] H9 (upd (upd (upd H9 t1 (.tup [.str "failed", .bl true])) t2 (.tup [.str "failed", .bl false])) t3 (.tup [.non, .ref t1, .ref t2])) := ((Fr.new ht1).trans (Fr.new ht2)).trans (Fr.new ht3)
          refine ⟨.tuple [.str "failed", .bool b], d3, .tup (SqT.of (fa _ _ et (by simp))) (.cons (.str _) (.cons (.bl _) .nil)), d3_dp (((Fr.new (S := []) ht2).trans (Fr.new ht3)) _ _ upd_same (by simp)) ((Fr.new (S := []) ht3) _ _ upd_same (by simp)) upd_same, (d3_b b).1, d3_sh, _, rfl, ?_⟩
          rw [(d3_b b).2]
          exact iteF ⟨_, _, rfl, K9.keep0 fa, .inr ⟨o'.on, by show tot s' = at'; rw [t']; omega, by show s'.dc = _; rw [d']; exact fdj, by show s'.fa.isSome = true; rw [f']; exact ffj, by show s'.reqs ≤ j + 1; rw [r', frj]; omega⟩⟩
        · rw [hok (by omega)]
          rintro H8 P8 ks8 v8 c8 -
          have K8 : K50 (clT T) Pt H8 r RL PL p0 p1 p2 rs e0 e1 ⟨P8, ks8, _⟩ := K7.c2 c8
          refine hq _ _ ?_
          refine ⟨sz_le (by simp), fun t1 ht1 => ⟨sz_le (by simp), fun t2 ht2 => ⟨sz_le (by simp), fun t3 ht3 => ?_⟩⟩⟩
          have fa : Fr [] H8 (upd (upd (upd H8 t1 (.tup [.str "failed", .bl true])) t2 (.tup [.str "failed", .bl false])) t3 (.tup [.non, .ref t1, .ref t2])) := ((Fr.new ht1).trans (Fr.new ht2)).trans (Fr.new ht3)
          refine ⟨.none, d3, .non, d3_dp (((Fr.new (S := []) ht2).trans (Fr.new ht3)) _ _ upd_same (by simp)) ((Fr.new (S := []) ht3) _ _ upd_same (by simp)) upd_same, d3_non.1, d3_sh, _, rfl, ?_⟩
          rw [d3_non.2]
          exact iteF ⟨_, _, rfl, K8.keep0 fa, .inl ⟨by show PS.lf _ _ = PS.lf _ _; rw [show tot (rowS rs S0 j) + (at' - tot (rowS rs S0 j)) - tot (rowS rs S0 (j + 1)) = at' - tot (rowS rs S0 (j + 1)) by omega], by omega⟩⟩
      · rintro σ5 H5 ⟨e2, v9, rfl, K5, hs⟩
        rw [List.length_map] at hs
        rcases hs with ⟨_, hle⟩ | ⟨h1, h2, h3, h4, h5⟩
        · rw [← hmany] at hle
          omega
        · exact ⟨e2, v9, rfl, K5, h1, h2, h3, h4, h5⟩
    clear K13 es3 e2'
    rintro σ13 H13 ⟨e2, v9, rfl, K13, hoff, htot, hdcz, hfas, hrqs⟩
    have hi0 : ∀ {H' : Hp}, K50 (clT T) Pt H' r RL PL p0 p1 p2 rs e0 e1 e2 → H' p0 = some (.ins (clT T).cP e0.P.px (e0.s.fs e0.P)) := fun k => by rw [← k.h0]; exact k.a0.ins
    have hi1 : ∀ {H' : Hp}, K50 (clT T) Pt H' r RL PL p0 p1 p2 rs e0 e1 e2 → H' p1 = some (.ins (clT T).cP e1.P.px (e1.s.fs e1.P)) := fun k => by rw [← k.h1]; exact k.a1.ins
    refine ⟨fun σ' H' => σ' = [some (.ref a), some (.ref r), some (.int (nb : Int)), some (.int (n : Int)), some (.ref rt), some (.ref RL), some (.int (many : Int)), some (.int (at' : Int)), some (.ref PL), v9, none] ∧ K50 (clT T) Pt H' r RL PL p0 p1 p2 rs e0 e1 e2, ?_, ?_⟩
    · obtain ⟨c1, c2, c4, c5, h1, h2, h4, h5, hsum⟩ := sum_cnt hdcz hfas
      have hdc : e2.s.dc.length = 6 := by rw [hdcz] <;> rfl
      refine ⟨_, rfl, PL, _, (2 : Int), _, rfl, rfl, SqL.of K13.pl, rfl, p2, e2.P.px, _, rfl, hins2 K13, e2.P, e2.ks, e2.s, by rw [K13.h2], K13.a2, _, rfl, ?_⟩
      rw [hoff]
      refine iteF ?_
      refine ⟨sz_le (by simp), fun tt htt => ?_⟩
      have K6 := K13.keep0 (Fr.new (o := .tup [.int 1, .int 2, .int 4, .int 5]) htt)
      have ett : (upd H13 tt (.tup [.int 1, .int 2, .int 4, .int 5])) tt = some (.tup [.int 1, .int 2, .int 4, .int 5]) := upd_same
      generalize (upd H13 tt (.tup [.int 1, .int 2, .int 4, .int 5])) = H6 at *
      refine ⟨tt, rfl, ⟨_, SqT.of ett⟩, fun D hD => ?_⟩
      refine lc_tup (K := K) (a := tt) (xs := [.int 1, .int 2, .int 4, .int 5]) (fun i H' => Fr [] H6 H' ∧ H' D = some (.lst (iV ([c1, c2, c4, c5].take i)))) ⟨Fr.new hD, upd_same⟩ (fun i H' _ h => SqT.of (h.1 _ _ ett (by simp))) ?_ ?_
      · rintro i x H7 hx ⟨f7, eD⟩
        have K7 := K6.keep0 f7
        obtain ⟨kx, cx, rfl, hk, hi4, htk⟩ : ∃ kx cx : Nat, x = .int (kx : Int) ∧ (cntS e2.s)[kx]? = some (cx : Int) ∧ i < 4 ∧ [c1, c2, c4, c5].take (i + 1) = [c1, c2, c4, c5].take i ++ [cx] := match i, hx with
          | 0, hx => ⟨1, c1, by cases hx; rfl, h1, by omega, rfl⟩
          | 1, hx => ⟨2, c2, by cases hx; rfl, h2, by omega, rfl⟩
          | 2, hx => ⟨4, c4, by cases hx; rfl, h4, by omega, rfl⟩
          | 3, hx => ⟨5, c5, by cases hx; rfl, h5, by omega, rfl⟩
          | i + 4, hx => by simp at hx
        refine ⟨rfl, _, rfl, PL, _, (2 : Int), _, rfl, rfl, SqL.of K7.pl, rfl, p2, e2.P.px, _, rfl, hins2 K7, e2.P, e2.ks, e2.s, by rw [K7.h2], K7.a2, hdc, fun T1 H8 hT1 f8 eT1 => ?_⟩
        refine ⟨_, rfl, T1, _, _, _, rfl, rfl, SqT.of eT1, cnt_atK hk, _, f8 _ _ eD (by simp), ?_, (f7.trans f8).upd0 hD, ?_⟩
        · rw [List.length_map, List.length_take]
          exact sz_lt (by simp; omega)
        · rw [upd_same, htk, iV_snoc]
      · rintro H7 ⟨f7, eD⟩
        refine ⟨D, [(c1 : Int), c2, c4, c5], rfl, SqL.of eD, ?_⟩
        rw [show ([(c1 : Int), c2, c4, c5] : List Int).sum = (at' : Int) by rw [← htot, ← hsum]; simp; omega]
        refine ⟨_, rfl, rfl, _, rfl, ?_⟩
        exact iteN (neqF (x := (at' : Int)) (y := (at' : Int)) rfl) ⟨rfl, K6.keep0 f7⟩
    clear K13
    rintro σ14 H14 ⟨rfl, K14⟩
    have hon1 : e1.s.on = true := by
      obtain ⟨val, g⟩ := RW.g rs.length (Nat.le_refl _)
      rw [es1]
      exact g.g.on
    have hq0 : e0.s.reqs = rs.length := by rw [es0]; exact fr0
    refine ⟨_, rfl, PL, _, (2 : Int), _, rfl, rfl, SqL.of K14.pl, rfl, p2, e2.P.px, _, rfl, hins2 K14, e2.P, e2.ks, e2.s, by rw [K14.h2], K14.a2, _, rfl, PL, _, (0 : Int), _, rfl, rfl, SqL.of K14.pl, rfl, p0, e0.P.px, _, rfl, hi0 K14, e0.P, e0.ks, e0.s, by rw [K14.h0], K14.a0, ?_⟩
    refine ⟨_, _, rfl, rfl, _, rfl, iteTb (decide_eq_true ?_) ?_⟩
    · show (e2.s.reqs : Int) ≤ (e0.s.reqs : Int)
      rw [hq0]
      omega
    refine ⟨_, rfl, PL, _, (1 : Int), _, rfl, rfl, SqL.of K14.pl, rfl, p1, e1.P.px, _, rfl, hi1 K14, e1.P, e1.ks, e1.s, by rw [K14.h1], K14.a1, ?_⟩
    show Q (.bl e1.s.on) _
    rw [hon1]
    exact k _
end
section
open PySem.Spec PySem.Calls PySem.W PyProof.Rows LamX NdefX
theorem init_funS {K : Frag} {d : Hx.Df} {C : Addr} {file : Str} (e : Hx.seen K (d.at_.ad K) = d.want) (c : d.sound K = true) (hd : d.dfl = []) (i : Hx.isInit K (d.at_.ad K) C file = true) : ∃ fd cc, FunS K file d.name d.qual d.st C cc (d.at_.ad K) fd := by
  obtain ⟨kp, c2⟩ := Bool.and_eq_true_iff.mp c
  unfold Hx.seen at e
  unfold Hx.isInit at i
  cases q : K.lookup (d.at_.ad K) with
  | none =>
    rw [q] at e
    cases e
  | some o =>
    obtain ⟨oc, od, dt, osl⟩ := o
    rw [q] at c2 e i
    cases dt with
    | func u =>
      obtain ⟨n1, n2, n3, n4, n5, n6, n7, n8, n9, n10, n11, n12, n13, n14, n15⟩ := u
      have e2 : (some (n4, n5, n3, n1, n2, n6, n15) : Hx.Seen) = some (.stmts (defBody d.st), defScope d.st, defArgs d.st, d.name, d.qual, mainGlobals, builtinsNs) := e
      simp only [Option.some.injEq, Prod.mk.injEq] at e2
      obtain ⟨h4, h5, h3, h1, h2, h6, h8⟩ := e2
      have c3 : ((d.own || n7.isEmpty) && (codeIn K n13 d.qual && (He.dflB K n8 d.dfl && He.kwdB K n9 d.kwd))) = true := c2
      obtain ⟨_, c4⟩ := Bool.and_eq_true_iff.mp c3
      obtain ⟨k1, k2⟩ := Bool.and_eq_true_iff.mp c4
      obtain ⟨k3, _⟩ := Bool.and_eq_true_iff.mp k2
      simp only at i
      split at i
      · rename_i x1 x2 nm cc c7 hc
        subst h1 h2 h3 h4 h5 h6 h8
        obtain ⟨i1, i2⟩ := Bool.and_eq_true_iff.mp i
        obtain ⟨i3, i4⟩ := Bool.and_eq_true_iff.mp i1
        have en := eq_of_beq i3
        subst en
        rw [hd] at k3
        have e8 : n8 = .none := by
          cases n8 with
          | none => rfl
          | _ => cases k3
        subst e8
        split at i4
        · rename_i ec ed D es eD
          have eC := eq_of_beq i4
          subst eC
          split at i2
          · rename_i cl cdd vs csl ev
            split at i2
            · rename_i z tf ez
              have ef := eq_of_beq i2
              subst ef
              exact ⟨_, cc, ⟨oc, od, n9, n10, n11, n12, c7, n14, osl, cl, cdd, vs, csl, tf, ec, ed, es, rfl, q, k1, ev, ez, eD⟩, kp⟩
            · cases i2
          · cases i2
        · cases i4
      · cases i
    | _ => cases e
end
section
open PySem PySem.Spec PyProof.Rows L2
open LamX in
theorem all_ok {l : PySem.W.OpenLaw} {w : World} {K : PySem.W.Frag} {h : Heap} {mg : Str → Option Value} {fa : Addr} (X : K.In h) (G : h.Ns mainGlobals mg) (hfa : mg ("law" : Str) = some (.ref fa)) (c : Hx.Says hdefs (fun K => (hfacts K).all fun l => l.all id) htf h K) (HF : ProgOk l.prog hfile) :
    LawAtS l w K C8.CX0 16 63 "_law_script" mg fa h := by
  obtain ⟨fd_is_number, F_is_number⟩ := c.def_ 0
  obtain ⟨fd_is_number_from, F_is_number_from⟩ := c.def_ 1
  obtain ⟨fd_check_blocks, F_check_blocks⟩ := c.def_ 2
  obtain ⟨fd_check_slots, F_check_slots⟩ := c.def_ 3
  obtain ⟨fd_Disk___init__, F_Disk___init__⟩ := c.def_ 4
  obtain ⟨fd_Disk_read, F_Disk_read⟩ := c.def_ 5
  obtain ⟨fd_Disk_write, F_Disk_write⟩ := c.def_ 6
  obtain ⟨fd_Disk_sync, F_Disk_sync⟩ := c.def_ 7
  obtain ⟨fd_Disk_fail, F_Disk_fail⟩ := c.def_ 8
  obtain ⟨fd_Disk_pending, F_Disk_pending⟩ := c.def_ 9
  obtain ⟨fd_Disk_counts, F_Disk_counts⟩ := c.def_ 10
  obtain ⟨fd_Disk__check_cell, F_Disk__check_cell⟩ := c.def_ 11
  obtain ⟨fd_are_kept, F_are_kept⟩ := c.def_ 12
  obtain ⟨fd_cleaned, F_cleaned⟩ := c.def_ 13
  obtain ⟨fd_KnownSlot___init__, F_KnownSlot___init__⟩ := c.def_ 14
  obtain ⟨fd_Memory___init__, F_Memory___init__⟩ := c.def_ 15
  obtain ⟨fd_Memory_records, F_Memory_records⟩ := c.def_ 16
  obtain ⟨fd_Memory_slot_of, F_Memory_slot_of⟩ := c.def_ 17
  obtain ⟨fd_Memory_record_in, F_Memory_record_in⟩ := c.def_ 18
  obtain ⟨fd_Memory_use, F_Memory_use⟩ := c.def_ 19
  obtain ⟨fd_Memory_learn, F_Memory_learn⟩ := c.def_ 20
  obtain ⟨fd_Memory_learn_clean, F_Memory_learn_clean⟩ := c.def_ 21
  obtain ⟨fd_Memory_forget, F_Memory_forget⟩ := c.def_ 22
  obtain ⟨fd_Memory_dirty_slots, F_Memory_dirty_slots⟩ := c.def_ 23
  obtain ⟨fd_Memory_slot_to_take, F_Memory_slot_to_take⟩ := c.def_ 24
  obtain ⟨fd__rank, F__rank⟩ := c.def_ 25
  obtain ⟨fd_Rules___init__, F_Rules___init__⟩ := c.def_ 26
  obtain ⟨fd_Rules_writing, F_Rules_writing⟩ := c.def_ 27
  obtain ⟨fd_Rules_reading, F_Rules_reading⟩ := c.def_ 28
  obtain ⟨fd_Rules_choice, F_Rules_choice⟩ := c.def_ 29
  obtain ⟨fd_Rules_bound, F_Rules_bound⟩ := c.def_ 30
  obtain ⟨fd_Recipes___init__, F_Recipes___init__⟩ := c.def_ 31
  obtain ⟨fd_Recipes_safe, F_Recipes_safe⟩ := c.def_ 32
  obtain ⟨fd_Recipes_through, F_Recipes_through⟩ := c.def_ 33
  obtain ⟨fd_Recipes_back, F_Recipes_back⟩ := c.def_ 34
  obtain ⟨fd_Recipes_around, F_Recipes_around⟩ := c.def_ 35
  obtain ⟨fd_Recipes_clean, F_Recipes_clean⟩ := c.def_ 36
  obtain ⟨fd__invalid_place, F__invalid_place⟩ := c.def_ 37
  obtain ⟨fd_Pair___init__, F_Pair___init__⟩ := c.def_ 38
  obtain ⟨fd_Pair_read, F_Pair_read⟩ := c.def_ 39
  obtain ⟨fd_Pair_write, F_Pair_write⟩ := c.def_ 40
  obtain ⟨fd_Pair_forget, F_Pair_forget⟩ := c.def_ 41
  obtain ⟨fd_Pair_fail_at, F_Pair_fail_at⟩ := c.def_ 42
  obtain ⟨fd_Pair_known, F_Pair_known⟩ := c.def_ 43
  obtain ⟨fd_Pair_dirty, F_Pair_dirty⟩ := c.def_ 44
  obtain ⟨fd_Pair_requests, F_Pair_requests⟩ := c.def_ 45
  obtain ⟨fd_Pair_rules, F_Pair_rules⟩ := c.def_ 46
  obtain ⟨fd_Pair_counts, F_Pair_counts⟩ := c.def_ 47
  obtain ⟨fd_Pair_pending, F_Pair_pending⟩ := c.def_ 48
  obtain ⟨fd_Pair_is_on, F_Pair_is_on⟩ := c.def_ 49
  obtain ⟨fd_Pair__check_on, F_Pair__check_on⟩ := c.def_ 50
  obtain ⟨fd_Pair__check_block, F_Pair__check_block⟩ := c.def_ 51
  obtain ⟨fd_Pair__begin_request, F_Pair__begin_request⟩ := c.def_ 52
  obtain ⟨fd_Pair__take_slot, F_Pair__take_slot⟩ := c.def_ 53
  obtain ⟨fd_Pair__choose_slots, F_Pair__choose_slots⟩ := c.def_ 54
  obtain ⟨fd_Pair__recipe_for_writing, F_Pair__recipe_for_writing⟩ := c.def_ 55
  obtain ⟨fd_Pair__carry_out, F_Pair__carry_out⟩ := c.def_ 56
  obtain ⟨fd_Pair__clean_least_turns, F_Pair__clean_least_turns⟩ := c.def_ 57
  obtain ⟨fd_Pair__clean_slot, F_Pair__clean_slot⟩ := c.def_ 58
  obtain ⟨fd_Pair__begin_step, F_Pair__begin_step⟩ := c.def_ 59
  obtain ⟨fd_Pair__write_slow, F_Pair__write_slow⟩ := c.def_ 60
  obtain ⟨fd_Pair__sync_slow, F_Pair__sync_slow⟩ := c.def_ 61
  obtain ⟨fd_Pair__write_fast, F_Pair__write_fast⟩ := c.def_ 62
  obtain ⟨fd_Pair__write_record, F_Pair__write_record⟩ := c.def_ 63
  obtain ⟨fd_Pair__sync_fast, F_Pair__sync_fast⟩ := c.def_ 64
  obtain ⟨fd_Pair__turn_off, F_Pair__turn_off⟩ := c.def_ 65
  obtain ⟨fd_Pair__put_in_fast, F_Pair__put_in_fast⟩ := c.def_ 66
  obtain ⟨fd__law_random, F__law_random⟩ := c.def_ 67
  obtain ⟨fd__law_below, F__law_below⟩ := c.def_ 68
  obtain ⟨fd__law_rules, F__law_rules⟩ := c.def_ 69
  obtain ⟨fd__law_pair, F__law_pair⟩ := c.def_ 70
  obtain ⟨fd__law_safe, F__law_safe⟩ := c.def_ 71
  obtain ⟨fd__law_do, F__law_do⟩ := c.def_ 72
  obtain ⟨fd__law_request, F__law_request⟩ := c.def_ 73
  obtain ⟨fd__law_power_of, F__law_power_of⟩ := c.def_ 74
  obtain ⟨t_MOST_BLOCKS, c_MOST_BLOCKS⟩ := He.int_ok X G (c.fact 4 33)
  obtain ⟨t_MOST_SLOTS, c_MOST_SLOTS⟩ := He.int_ok X G (c.fact 4 34)
  obtain ⟨t_MOST_VALUE, c_MOST_VALUE⟩ := He.int_ok X G (c.fact 4 35)
  obtain ⟨t_MOST_CELLS, c_MOST_CELLS⟩ := He.int_ok X G (c.fact 4 36)
  obtain ⟨t_BLOCK, c_BLOCK⟩ := He.int_ok X G (c.fact 4 37)
  obtain ⟨t_VALUE, c_VALUE⟩ := He.int_ok X G (c.fact 4 38)
  obtain ⟨t_TURN, c_TURN⟩ := He.int_ok X G (c.fact 4 39)
  obtain ⟨t_IS_DIRTY, c_IS_DIRTY⟩ := He.int_ok X G (c.fact 5 0)
  obtain ⟨t_MOST_USES, c_MOST_USES⟩ := He.int_ok X G (c.fact 5 1)
  obtain ⟨t_BOUND_PART, c_BOUND_PART⟩ := He.int_ok X G (c.fact 5 2)
  obtain ⟨t_MOST_BOUND, c_MOST_BOUND⟩ := He.int_ok X G (c.fact 5 3)
  obtain ⟨t_MOST_STEPS, c_MOST_STEPS⟩ := He.int_ok X G (c.fact 5 4)
  obtain ⟨t_MOST_STEPS_AHEAD, c_MOST_STEPS_AHEAD⟩ := He.int_ok X G (c.fact 5 5)
  obtain ⟨fd_PowerFailed___init__, cc_PowerFailed___init__, S_PowerFailed___init__⟩ := init_funS (c.raw 75).1 (c.raw 75).2 rfl (c.fact 6 24)
  obtain ⟨fd, F⟩ := c.def_ 76
  have e := hfa.symm.trans (He.glo_ok X G (c.fact 9 29))
  cases e
  obtain ⟨T, hT⟩ : ∃ T : Gx K mg, T.file = hfile := ⟨{
    C_Disk := (He.ga K "Disk"), gC_Disk := He.glo_ok X G (c.fact 0 0), cl_Disk := He.cls_ok (c.fact 0 1),
    n_Disk__contents := He.noat_ok (c.fact 0 2),
    n_Disk__lasting := He.noat_ok (c.fact 0 3),
    n_Disk__pending := He.noat_ok (c.fact 0 4),
    n_Disk__reads := He.noat_ok (c.fact 0 5),
    n_Disk__writes := He.noat_ok (c.fact 0 6),
    n_Disk__syncs := He.noat_ok (c.fact 0 7),
    C_KnownSlot := (He.ga K "KnownSlot"), gC_KnownSlot := He.glo_ok X G (c.fact 0 8), cl_KnownSlot := He.cls_ok (c.fact 0 9),
    n_KnownSlot_record := He.noat_ok (c.fact 0 10),
    n_KnownSlot_came := He.noat_ok (c.fact 0 11),
    n_KnownSlot_used := He.noat_ok (c.fact 0 12),
    n_KnownSlot_uses := He.noat_ok (c.fact 0 13),
    C_Memory := (He.ga K "Memory"), gC_Memory := He.glo_ok X G (c.fact 0 14), cl_Memory := He.cls_ok (c.fact 0 15),
    n_Memory__slots := He.noat_ok (c.fact 0 16),
    n_Memory__known := He.noat_ok (c.fact 0 17),
    C_Rules := (He.ga K "Rules"), gC_Rules := He.glo_ok X G (c.fact 0 18), cl_Rules := He.cls_ok (c.fact 0 19),
    n_Rules__writing := He.noat_ok (c.fact 0 20),
    n_Rules__reading := He.noat_ok (c.fact 0 21),
    n_Rules__choice := He.noat_ok (c.fact 0 22),
    n_Rules__bound := He.noat_ok (c.fact 0 23),
    C_Recipes := (He.ga K "Recipes"), gC_Recipes := He.glo_ok X G (c.fact 0 24), cl_Recipes := He.cls_ok (c.fact 0 25),
    n_Recipes__through := He.noat_ok (c.fact 0 26),
    n_Recipes__back := He.noat_ok (c.fact 0 27),
    n_Recipes__around := He.noat_ok (c.fact 0 28),
    n_Recipes__clean := He.noat_ok (c.fact 0 29),
    C_Pair := (He.ga K "Pair"), gC_Pair := He.glo_ok X G (c.fact 0 30), cl_Pair := He.cls_ok (c.fact 0 31),
    n_Pair__blocks := He.noat_ok (c.fact 0 32),
    n_Pair__rules := He.noat_ok (c.fact 0 33),
    n_Pair__recipes := He.noat_ok (c.fact 0 34),
    n_Pair__slow := He.noat_ok (c.fact 0 35),
    n_Pair__fast := He.noat_ok (c.fact 0 36),
    n_Pair__memory := He.noat_ok (c.fact 0 37),
    n_Pair__counts_of_dead := He.noat_ok (c.fact 0 38),
    n_Pair__requests := He.noat_ok (c.fact 0 39),
    n_Pair__hits := He.noat_ok (c.fact 1 0),
    n_Pair__next_turn := He.noat_ok (c.fact 1 1),
    n_Pair__steps_left := He.noat_ok (c.fact 1 2),
    n_Pair__is_on := He.noat_ok (c.fact 1 3),
    n_Pair__is_done := He.noat_ok (c.fact 1 4),
    f_is_number := Hx.At.ad K (.glo "is_number"), fd_is_number := fd_is_number, F_is_number := Hx.plain F_is_number,
    g_is_number := He.glo_ok X G (c.fact 1 5),
    f_is_number_from := Hx.At.ad K (.glo "is_number_from"), fd_is_number_from := fd_is_number_from, F_is_number_from := Hx.plain F_is_number_from,
    g_is_number_from := He.glo_ok X G (c.fact 1 6),
    f_check_blocks := Hx.At.ad K (.glo "check_blocks"), fd_check_blocks := fd_check_blocks, F_check_blocks := F_check_blocks,
    g_check_blocks := He.glo_ok X G (c.fact 1 7),
    f_check_slots := Hx.At.ad K (.glo "check_slots"), fd_check_slots := fd_check_slots, F_check_slots := F_check_slots,
    g_check_slots := He.glo_ok X G (c.fact 1 8),
    f_Disk___init__ := Hx.At.ad K (.meth "Disk" "__init__"), fd_Disk___init__ := fd_Disk___init__, F_Disk___init__ := F_Disk___init__,
    M_Disk___init__ := He.mkr_ok (c.fact 1 9),
    f_Disk_read := Hx.At.ad K (.meth "Disk" "read"), fd_Disk_read := fd_Disk_read, F_Disk_read := Hx.plain F_Disk_read,
    m_Disk_read := He.meth_ok (c.fact 1 10),
    f_Disk_write := Hx.At.ad K (.meth "Disk" "write"), fd_Disk_write := fd_Disk_write, F_Disk_write := Hx.plain F_Disk_write,
    m_Disk_write := He.meth_ok (c.fact 1 11),
    f_Disk_sync := Hx.At.ad K (.meth "Disk" "sync"), fd_Disk_sync := fd_Disk_sync, F_Disk_sync := Hx.plain F_Disk_sync,
    m_Disk_sync := He.meth_ok (c.fact 1 12),
    f_Disk_fail := Hx.At.ad K (.meth "Disk" "fail"), fd_Disk_fail := fd_Disk_fail, F_Disk_fail := Hx.plain F_Disk_fail,
    m_Disk_fail := He.meth_ok (c.fact 1 13),
    f_Disk_pending := Hx.At.ad K (.prop "Disk" "pending"), fd_Disk_pending := fd_Disk_pending, F_Disk_pending := Hx.plain F_Disk_pending,
    p_Disk_pending := (He.ma K (He.ga K "Disk") "pending"), P_Disk_pending := ⟨of_decide_eq_true (c.fact 1 14), of_decide_eq_true (c.fact 1 15), of_decide_eq_true (c.fact 1 16), Hx.isRec_ok (c.fact 1 17)⟩,
    f_Disk_counts := Hx.At.ad K (.prop "Disk" "counts"), fd_Disk_counts := fd_Disk_counts, F_Disk_counts := Hx.plain F_Disk_counts,
    p_Disk_counts := (He.ma K (He.ga K "Disk") "counts"), P_Disk_counts := ⟨of_decide_eq_true (c.fact 1 18), of_decide_eq_true (c.fact 1 19), of_decide_eq_true (c.fact 1 20), Hx.isRec_ok (c.fact 1 21)⟩,
    f_Disk__check_cell := Hx.At.ad K (.meth "Disk" "_check_cell"), fd_Disk__check_cell := fd_Disk__check_cell, F_Disk__check_cell := Hx.plain F_Disk__check_cell,
    m_Disk__check_cell := He.meth_ok (c.fact 1 22),
    f_are_kept := Hx.At.ad K (.glo "are_kept"), fd_are_kept := fd_are_kept, F_are_kept := Hx.plain F_are_kept,
    g_are_kept := He.glo_ok X G (c.fact 1 23),
    f_cleaned := Hx.At.ad K (.glo "cleaned"), fd_cleaned := fd_cleaned, F_cleaned := Hx.plain F_cleaned,
    g_cleaned := He.glo_ok X G (c.fact 1 24),
    f_KnownSlot___init__ := Hx.At.ad K (.meth "KnownSlot" "__init__"), fd_KnownSlot___init__ := fd_KnownSlot___init__, F_KnownSlot___init__ := Hx.plain F_KnownSlot___init__,
    M_KnownSlot___init__ := He.mkr_ok (c.fact 1 25),
    f_Memory___init__ := Hx.At.ad K (.meth "Memory" "__init__"), fd_Memory___init__ := fd_Memory___init__, F_Memory___init__ := Hx.plain F_Memory___init__,
    M_Memory___init__ := He.mkr_ok (c.fact 1 26),
    f_Memory_records := Hx.At.ad K (.meth "Memory" "records"), fd_Memory_records := fd_Memory_records, F_Memory_records := Hx.plain F_Memory_records,
    m_Memory_records := He.meth_ok (c.fact 1 27),
    f_Memory_slot_of := Hx.At.ad K (.meth "Memory" "slot_of"), fd_Memory_slot_of := fd_Memory_slot_of, F_Memory_slot_of := Hx.plain F_Memory_slot_of,
    m_Memory_slot_of := He.meth_ok (c.fact 1 28),
    f_Memory_record_in := Hx.At.ad K (.meth "Memory" "record_in"), fd_Memory_record_in := fd_Memory_record_in, F_Memory_record_in := Hx.plain F_Memory_record_in,
    m_Memory_record_in := He.meth_ok (c.fact 1 29),
    f_Memory_use := Hx.At.ad K (.meth "Memory" "use"), fd_Memory_use := fd_Memory_use, F_Memory_use := Hx.plain F_Memory_use,
    m_Memory_use := He.meth_ok (c.fact 1 30),
    f_Memory_learn := Hx.At.ad K (.meth "Memory" "learn"), fd_Memory_learn := fd_Memory_learn, F_Memory_learn := Hx.plain F_Memory_learn,
    m_Memory_learn := He.meth_ok (c.fact 1 31),
    f_Memory_learn_clean := Hx.At.ad K (.meth "Memory" "learn_clean"), fd_Memory_learn_clean := fd_Memory_learn_clean, F_Memory_learn_clean := Hx.plain F_Memory_learn_clean,
    m_Memory_learn_clean := He.meth_ok (c.fact 1 32),
    f_Memory_forget := Hx.At.ad K (.meth "Memory" "forget"), fd_Memory_forget := fd_Memory_forget, F_Memory_forget := Hx.plain F_Memory_forget,
    m_Memory_forget := He.meth_ok (c.fact 1 33),
    f_Memory_dirty_slots := Hx.At.ad K (.meth "Memory" "dirty_slots"), fd_Memory_dirty_slots := fd_Memory_dirty_slots, F_Memory_dirty_slots := Hx.plain F_Memory_dirty_slots,
    m_Memory_dirty_slots := He.meth_ok (c.fact 1 34),
    f_Memory_slot_to_take := Hx.At.ad K (.meth "Memory" "slot_to_take"), fd_Memory_slot_to_take := fd_Memory_slot_to_take, F_Memory_slot_to_take := Hx.plain F_Memory_slot_to_take,
    m_Memory_slot_to_take := He.meth_ok (c.fact 1 35),
    f__rank := Hx.At.ad K (.glo "_rank"), fd__rank := fd__rank, F__rank := Hx.plain F__rank,
    g__rank := He.glo_ok X G (c.fact 1 36),
    f_Rules___init__ := Hx.At.ad K (.meth "Rules" "__init__"), fd_Rules___init__ := fd_Rules___init__, F_Rules___init__ := Hx.plain F_Rules___init__,
    M_Rules___init__ := He.mkr_ok (c.fact 1 37),
    f_Rules_writing := Hx.At.ad K (.prop "Rules" "writing"), fd_Rules_writing := fd_Rules_writing, F_Rules_writing := Hx.plain F_Rules_writing,
    p_Rules_writing := (He.ma K (He.ga K "Rules") "writing"), P_Rules_writing := ⟨of_decide_eq_true (c.fact 1 38), of_decide_eq_true (c.fact 1 39), of_decide_eq_true (c.fact 2 0), Hx.isRec_ok (c.fact 2 1)⟩,
    f_Rules_reading := Hx.At.ad K (.prop "Rules" "reading"), fd_Rules_reading := fd_Rules_reading, F_Rules_reading := Hx.plain F_Rules_reading,
    p_Rules_reading := (He.ma K (He.ga K "Rules") "reading"), P_Rules_reading := ⟨of_decide_eq_true (c.fact 2 2), of_decide_eq_true (c.fact 2 3), of_decide_eq_true (c.fact 2 4), Hx.isRec_ok (c.fact 2 5)⟩,
    f_Rules_choice := Hx.At.ad K (.prop "Rules" "choice"), fd_Rules_choice := fd_Rules_choice, F_Rules_choice := Hx.plain F_Rules_choice,
    p_Rules_choice := (He.ma K (He.ga K "Rules") "choice"), P_Rules_choice := ⟨of_decide_eq_true (c.fact 2 6), of_decide_eq_true (c.fact 2 7), of_decide_eq_true (c.fact 2 8), Hx.isRec_ok (c.fact 2 9)⟩,
    f_Rules_bound := Hx.At.ad K (.prop "Rules" "bound"), fd_Rules_bound := fd_Rules_bound, F_Rules_bound := Hx.plain F_Rules_bound,
    p_Rules_bound := (He.ma K (He.ga K "Rules") "bound"), P_Rules_bound := ⟨of_decide_eq_true (c.fact 2 10), of_decide_eq_true (c.fact 2 11), of_decide_eq_true (c.fact 2 12), Hx.isRec_ok (c.fact 2 13)⟩,
    f_Recipes___init__ := Hx.At.ad K (.meth "Recipes" "__init__"), fd_Recipes___init__ := fd_Recipes___init__, F_Recipes___init__ := Hx.plain F_Recipes___init__,
    M_Recipes___init__ := He.mkr_ok (c.fact 2 14),
    f_Recipes_safe := Hx.At.ad K (.clsm "Recipes" "safe"), fd_Recipes_safe := fd_Recipes_safe, F_Recipes_safe := Hx.plain F_Recipes_safe,
    p_Recipes_safe := (Hx.clAd K (He.ga K "Recipes") "safe"), Y_Recipes_safe := ⟨Hx.isCl_ok (c.fact 2 15), Hx.isRec_ok (c.fact 2 16), (c.fact 2 17)⟩, R_Recipes_safe := ⟨(c.fact 2 18), of_decide_eq_true (c.fact 2 19)⟩,
    f_Recipes_through := Hx.At.ad K (.prop "Recipes" "through"), fd_Recipes_through := fd_Recipes_through, F_Recipes_through := Hx.plain F_Recipes_through,
    p_Recipes_through := (He.ma K (He.ga K "Recipes") "through"), P_Recipes_through := ⟨of_decide_eq_true (c.fact 2 20), of_decide_eq_true (c.fact 2 21), of_decide_eq_true (c.fact 2 22), Hx.isRec_ok (c.fact 2 23)⟩,
    f_Recipes_back := Hx.At.ad K (.prop "Recipes" "back"), fd_Recipes_back := fd_Recipes_back, F_Recipes_back := Hx.plain F_Recipes_back,
    p_Recipes_back := (He.ma K (He.ga K "Recipes") "back"), P_Recipes_back := ⟨of_decide_eq_true (c.fact 2 24), of_decide_eq_true (c.fact 2 25), of_decide_eq_true (c.fact 2 26), Hx.isRec_ok (c.fact 2 27)⟩,
    f_Recipes_around := Hx.At.ad K (.prop "Recipes" "around"), fd_Recipes_around := fd_Recipes_around, F_Recipes_around := Hx.plain F_Recipes_around,
    p_Recipes_around := (He.ma K (He.ga K "Recipes") "around"), P_Recipes_around := ⟨of_decide_eq_true (c.fact 2 28), of_decide_eq_true (c.fact 2 29), of_decide_eq_true (c.fact 2 30), Hx.isRec_ok (c.fact 2 31)⟩,
    f_Recipes_clean := Hx.At.ad K (.prop "Recipes" "clean"), fd_Recipes_clean := fd_Recipes_clean, F_Recipes_clean := Hx.plain F_Recipes_clean,
    p_Recipes_clean := (He.ma K (He.ga K "Recipes") "clean"), P_Recipes_clean := ⟨of_decide_eq_true (c.fact 2 32), of_decide_eq_true (c.fact 2 33), of_decide_eq_true (c.fact 2 34), Hx.isRec_ok (c.fact 2 35)⟩,
    f__invalid_place := Hx.At.ad K (.glo "_invalid_place"), fd__invalid_place := fd__invalid_place, F__invalid_place := Hx.plain F__invalid_place,
    g__invalid_place := He.glo_ok X G (c.fact 2 36),
    f_Pair___init__ := Hx.At.ad K (.meth "Pair" "__init__"), fd_Pair___init__ := fd_Pair___init__, F_Pair___init__ := F_Pair___init__,
    M_Pair___init__ := He.mkr_ok (c.fact 2 37),
    f_Pair_read := Hx.At.ad K (.meth "Pair" "read"), fd_Pair_read := fd_Pair_read, F_Pair_read := Hx.plain F_Pair_read,
    m_Pair_read := He.meth_ok (c.fact 2 38),
    f_Pair_write := Hx.At.ad K (.meth "Pair" "write"), fd_Pair_write := fd_Pair_write, F_Pair_write := Hx.plain F_Pair_write,
    m_Pair_write := He.meth_ok (c.fact 2 39),
    f_Pair_forget := Hx.At.ad K (.meth "Pair" "forget"), fd_Pair_forget := fd_Pair_forget, F_Pair_forget := Hx.plain F_Pair_forget,
    m_Pair_forget := He.meth_ok (c.fact 3 0),
    f_Pair_fail_at := Hx.At.ad K (.meth "Pair" "fail_at"), fd_Pair_fail_at := fd_Pair_fail_at, F_Pair_fail_at := Hx.plain F_Pair_fail_at,
    m_Pair_fail_at := He.meth_ok (c.fact 3 1),
    f_Pair_known := Hx.At.ad K (.prop "Pair" "known"), fd_Pair_known := fd_Pair_known, F_Pair_known := Hx.plain F_Pair_known,
    p_Pair_known := (He.ma K (He.ga K "Pair") "known"), P_Pair_known := ⟨of_decide_eq_true (c.fact 3 2), of_decide_eq_true (c.fact 3 3), of_decide_eq_true (c.fact 3 4), Hx.isRec_ok (c.fact 3 5)⟩,
    f_Pair_dirty := Hx.At.ad K (.prop "Pair" "dirty"), fd_Pair_dirty := fd_Pair_dirty, F_Pair_dirty := Hx.plain F_Pair_dirty,
    p_Pair_dirty := (He.ma K (He.ga K "Pair") "dirty"), P_Pair_dirty := ⟨of_decide_eq_true (c.fact 3 6), of_decide_eq_true (c.fact 3 7), of_decide_eq_true (c.fact 3 8), Hx.isRec_ok (c.fact 3 9)⟩,
    f_Pair_requests := Hx.At.ad K (.prop "Pair" "requests"), fd_Pair_requests := fd_Pair_requests, F_Pair_requests := Hx.plain F_Pair_requests,
    p_Pair_requests := (He.ma K (He.ga K "Pair") "requests"), P_Pair_requests := ⟨of_decide_eq_true (c.fact 3 10), of_decide_eq_true (c.fact 3 11), of_decide_eq_true (c.fact 3 12), Hx.isRec_ok (c.fact 3 13)⟩,
    f_Pair_rules := Hx.At.ad K (.prop "Pair" "rules"), fd_Pair_rules := fd_Pair_rules, F_Pair_rules := Hx.plain F_Pair_rules,
    p_Pair_rules := (He.ma K (He.ga K "Pair") "rules"), P_Pair_rules := ⟨of_decide_eq_true (c.fact 3 14), of_decide_eq_true (c.fact 3 15), of_decide_eq_true (c.fact 3 16), Hx.isRec_ok (c.fact 3 17)⟩,
    f_Pair_counts := Hx.At.ad K (.prop "Pair" "counts"), fd_Pair_counts := fd_Pair_counts, F_Pair_counts := Hx.plain F_Pair_counts,
    p_Pair_counts := (He.ma K (He.ga K "Pair") "counts"), P_Pair_counts := ⟨of_decide_eq_true (c.fact 3 18), of_decide_eq_true (c.fact 3 19), of_decide_eq_true (c.fact 3 20), Hx.isRec_ok (c.fact 3 21)⟩,
    f_Pair_pending := Hx.At.ad K (.prop "Pair" "pending"), fd_Pair_pending := fd_Pair_pending, F_Pair_pending := Hx.plain F_Pair_pending,
    p_Pair_pending := (He.ma K (He.ga K "Pair") "pending"), P_Pair_pending := ⟨of_decide_eq_true (c.fact 3 22), of_decide_eq_true (c.fact 3 23), of_decide_eq_true (c.fact 3 24), Hx.isRec_ok (c.fact 3 25)⟩,
    f_Pair_is_on := Hx.At.ad K (.prop "Pair" "is_on"), fd_Pair_is_on := fd_Pair_is_on, F_Pair_is_on := Hx.plain F_Pair_is_on,
    p_Pair_is_on := (He.ma K (He.ga K "Pair") "is_on"), P_Pair_is_on := ⟨of_decide_eq_true (c.fact 3 26), of_decide_eq_true (c.fact 3 27), of_decide_eq_true (c.fact 3 28), Hx.isRec_ok (c.fact 3 29)⟩,
    f_Pair__check_on := Hx.At.ad K (.meth "Pair" "_check_on"), fd_Pair__check_on := fd_Pair__check_on, F_Pair__check_on := Hx.plain F_Pair__check_on,
    m_Pair__check_on := He.meth_ok (c.fact 3 30),
    f_Pair__check_block := Hx.At.ad K (.meth "Pair" "_check_block"), fd_Pair__check_block := fd_Pair__check_block, F_Pair__check_block := Hx.plain F_Pair__check_block,
    m_Pair__check_block := He.meth_ok (c.fact 3 31),
    f_Pair__begin_request := Hx.At.ad K (.meth "Pair" "_begin_request"), fd_Pair__begin_request := fd_Pair__begin_request, F_Pair__begin_request := Hx.plain F_Pair__begin_request,
    m_Pair__begin_request := He.meth_ok (c.fact 3 32),
    f_Pair__take_slot := Hx.At.ad K (.meth "Pair" "_take_slot"), fd_Pair__take_slot := fd_Pair__take_slot, F_Pair__take_slot := Hx.plain F_Pair__take_slot,
    m_Pair__take_slot := He.meth_ok (c.fact 3 33),
    f_Pair__choose_slots := Hx.At.ad K (.meth "Pair" "_choose_slots"), fd_Pair__choose_slots := fd_Pair__choose_slots, F_Pair__choose_slots := Hx.plain F_Pair__choose_slots,
    m_Pair__choose_slots := He.meth_ok (c.fact 3 34),
    f_Pair__recipe_for_writing := Hx.At.ad K (.meth "Pair" "_recipe_for_writing"), fd_Pair__recipe_for_writing := fd_Pair__recipe_for_writing, F_Pair__recipe_for_writing := Hx.plain F_Pair__recipe_for_writing,
    m_Pair__recipe_for_writing := He.meth_ok (c.fact 3 35),
    f_Pair__carry_out := Hx.At.ad K (.meth "Pair" "_carry_out"), fd_Pair__carry_out := fd_Pair__carry_out, F_Pair__carry_out := Hx.plain F_Pair__carry_out,
    m_Pair__carry_out := He.meth_ok (c.fact 3 36),
    f_Pair__clean_least_turns := Hx.At.ad K (.meth "Pair" "_clean_least_turns"), fd_Pair__clean_least_turns := fd_Pair__clean_least_turns, F_Pair__clean_least_turns := Hx.plain F_Pair__clean_least_turns,
    m_Pair__clean_least_turns := He.meth_ok (c.fact 3 37),
    f_Pair__clean_slot := Hx.At.ad K (.meth "Pair" "_clean_slot"), fd_Pair__clean_slot := fd_Pair__clean_slot, F_Pair__clean_slot := Hx.plain F_Pair__clean_slot,
    m_Pair__clean_slot := He.meth_ok (c.fact 3 38),
    f_Pair__begin_step := Hx.At.ad K (.meth "Pair" "_begin_step"), fd_Pair__begin_step := fd_Pair__begin_step, F_Pair__begin_step := Hx.plain F_Pair__begin_step,
    m_Pair__begin_step := He.meth_ok (c.fact 3 39),
    f_Pair__write_slow := Hx.At.ad K (.meth "Pair" "_write_slow"), fd_Pair__write_slow := fd_Pair__write_slow, F_Pair__write_slow := Hx.plain F_Pair__write_slow,
    m_Pair__write_slow := He.meth_ok (c.fact 4 0),
    f_Pair__sync_slow := Hx.At.ad K (.meth "Pair" "_sync_slow"), fd_Pair__sync_slow := fd_Pair__sync_slow, F_Pair__sync_slow := Hx.plain F_Pair__sync_slow,
    m_Pair__sync_slow := He.meth_ok (c.fact 4 1),
    f_Pair__write_fast := Hx.At.ad K (.meth "Pair" "_write_fast"), fd_Pair__write_fast := fd_Pair__write_fast, F_Pair__write_fast := Hx.plain F_Pair__write_fast,
    m_Pair__write_fast := He.meth_ok (c.fact 4 2),
    f_Pair__write_record := Hx.At.ad K (.meth "Pair" "_write_record"), fd_Pair__write_record := fd_Pair__write_record, F_Pair__write_record := Hx.plain F_Pair__write_record,
    m_Pair__write_record := He.meth_ok (c.fact 4 3),
    f_Pair__sync_fast := Hx.At.ad K (.meth "Pair" "_sync_fast"), fd_Pair__sync_fast := fd_Pair__sync_fast, F_Pair__sync_fast := Hx.plain F_Pair__sync_fast,
    m_Pair__sync_fast := He.meth_ok (c.fact 4 4),
    f_Pair__turn_off := Hx.At.ad K (.meth "Pair" "_turn_off"), fd_Pair__turn_off := fd_Pair__turn_off, F_Pair__turn_off := Hx.plain F_Pair__turn_off,
    m_Pair__turn_off := He.meth_ok (c.fact 4 5),
    f_Pair__put_in_fast := Hx.At.ad K (.meth "Pair" "_put_in_fast"), fd_Pair__put_in_fast := fd_Pair__put_in_fast, F_Pair__put_in_fast := Hx.plain F_Pair__put_in_fast,
    m_Pair__put_in_fast := He.meth_ok (c.fact 4 6),
    f__law_random := Hx.At.ad K (.glo "_law_random"), fd__law_random := fd__law_random, F__law_random := Hx.plain F__law_random,
    g__law_random := He.glo_ok X G (c.fact 4 7),
    f__law_below := Hx.At.ad K (.glo "_law_below"), fd__law_below := fd__law_below, F__law_below := Hx.plain F__law_below,
    g__law_below := He.glo_ok X G (c.fact 4 8),
    f__law_rules := Hx.At.ad K (.glo "_law_rules"), fd__law_rules := fd__law_rules, F__law_rules := Hx.plain F__law_rules,
    g__law_rules := He.glo_ok X G (c.fact 4 9),
    f__law_pair := Hx.At.ad K (.glo "_law_pair"), fd__law_pair := fd__law_pair, F__law_pair := Hx.plain F__law_pair,
    g__law_pair := He.glo_ok X G (c.fact 4 10),
    f__law_safe := Hx.At.ad K (.glo "_law_safe"), fd__law_safe := fd__law_safe, F__law_safe := Hx.plain F__law_safe,
    g__law_safe := He.glo_ok X G (c.fact 4 11),
    f__law_do := Hx.At.ad K (.glo "_law_do"), fd__law_do := fd__law_do, F__law_do := Hx.plain F__law_do,
    g__law_do := He.glo_ok X G (c.fact 4 12),
    f__law_request := Hx.At.ad K (.glo "_law_request"), fd__law_request := fd__law_request, F__law_request := Hx.plain F__law_request,
    g__law_request := He.glo_ok X G (c.fact 4 13),
    f__law_power_of := Hx.At.ad K (.glo "_law_power_of"), fd__law_power_of := fd__law_power_of, F__law_power_of := Hx.plain F__law_power_of,
    g__law_power_of := He.glo_ok X G (c.fact 4 14),
    z_isinstance := He.free_ok X G (c.fact 4 15),
    z_int := He.free_ok X G (c.fact 4 16),
    z_bool := He.free_ok X G (c.fact 4 17),
    z_str := He.free_ok X G (c.fact 4 18),
    z_list := He.free_ok X G (c.fact 4 19),
    z_tuple := He.free_ok X G (c.fact 4 20),
    z_len := He.free_ok X G (c.fact 4 21),
    z_abs := He.free_ok X G (c.fact 4 22),
    z_range := He.free_ok X G (c.fact 4 23),
    z_enumerate := He.free_ok X G (c.fact 4 24),
    z_max := He.free_ok X G (c.fact 4 25),
    z_min := He.free_ok X G (c.fact 4 26),
    z_sorted := He.free_ok X G (c.fact 4 27),
    z_zip := He.free_ok X G (c.fact 4 28),
    z_sum := He.free_ok X G (c.fact 4 29),
    z_all := He.free_ok X G (c.fact 4 30),
    z_super := He.free_ok X G (c.fact 4 31),
    z_ValueError := He.free_ok X G (c.fact 4 32),
    t_MOST_BLOCKS := t_MOST_BLOCKS, c_MOST_BLOCKS := c_MOST_BLOCKS,
    t_MOST_SLOTS := t_MOST_SLOTS, c_MOST_SLOTS := c_MOST_SLOTS,
    t_MOST_VALUE := t_MOST_VALUE, c_MOST_VALUE := c_MOST_VALUE,
    t_MOST_CELLS := t_MOST_CELLS, c_MOST_CELLS := c_MOST_CELLS,
    t_BLOCK := t_BLOCK, c_BLOCK := c_BLOCK,
    t_VALUE := t_VALUE, c_VALUE := c_VALUE,
    t_TURN := t_TURN, c_TURN := c_TURN,
    t_IS_DIRTY := t_IS_DIRTY, c_IS_DIRTY := c_IS_DIRTY,
    t_MOST_USES := t_MOST_USES, c_MOST_USES := c_MOST_USES,
    t_BOUND_PART := t_BOUND_PART, c_BOUND_PART := c_BOUND_PART,
    t_MOST_BOUND := t_MOST_BOUND, c_MOST_BOUND := c_MOST_BOUND,
    t_MOST_STEPS := t_MOST_STEPS, c_MOST_STEPS := c_MOST_STEPS,
    t_MOST_STEPS_AHEAD := t_MOST_STEPS_AHEAD, c_MOST_STEPS_AHEAD := c_MOST_STEPS_AHEAD,
    A_RULE_WORDS_0 := (Hx.itAd K (He.ga K "RULE_WORDS") 0), k_RULE_WORDS_0 := Hx.isTup_ok (c.fact 5 6),
    A_RULE_WORDS_1 := (Hx.itAd K (He.ga K "RULE_WORDS") 1), k_RULE_WORDS_1 := Hx.isTup_ok (c.fact 5 7),
    A_RULE_WORDS_2 := (Hx.itAd K (He.ga K "RULE_WORDS") 2), k_RULE_WORDS_2 := Hx.isTup_ok (c.fact 5 8),
    A_RULE_WORDS := (He.ga K "RULE_WORDS"), k_RULE_WORDS := Hx.isTup_ok (c.fact 5 9),
    g_RULE_WORDS := He.glo_ok X G (c.fact 5 10),
    A_WRITE_STEPS := (He.ga K "WRITE_STEPS"), k_WRITE_STEPS := Hx.isTup_ok (c.fact 5 11),
    g_WRITE_STEPS := He.glo_ok X G (c.fact 5 12),
    A_CLEAN_STEPS := (He.ga K "CLEAN_STEPS"), k_CLEAN_STEPS := Hx.isTup_ok (c.fact 5 13),
    g_CLEAN_STEPS := He.glo_ok X G (c.fact 5 14),
    A_SYNC_STEPS := (He.ga K "SYNC_STEPS"), k_SYNC_STEPS := Hx.isTup_ok (c.fact 5 15),
    g_SYNC_STEPS := He.glo_ok X G (c.fact 5 16),
    A_NO_COUNTS := (He.ga K "NO_COUNTS"), k_NO_COUNTS := Hx.isTup_ok (c.fact 5 17),
    g_NO_COUNTS := He.glo_ok X G (c.fact 5 18),
    file := hfile, third := of_decide_eq_true (c.fact 5 19),
    C_PowerFailed := (He.ga K "PowerFailed"), gC_PowerFailed := He.glo_ok X G (c.fact 5 20), ic_PowerFailed := (c.fact 5 21), ty_PowerFailed := of_decide_eq_true (c.fact 5 22),
    C_PowerOff := (He.ga K "PowerOff"), gC_PowerOff := He.glo_ok X G (c.fact 5 23), ic_PowerOff := (c.fact 5 24), ty_PowerOff := of_decide_eq_true (c.fact 5 25),
    C_InvalidBlock := (He.ga K "InvalidBlock"), gC_InvalidBlock := He.glo_ok X G (c.fact 5 26), ic_InvalidBlock := (c.fact 5 27), ty_InvalidBlock := of_decide_eq_true (c.fact 5 28),
    C_InvalidValue := (He.ga K "InvalidValue"), gC_InvalidValue := He.glo_ok X G (c.fact 5 29), ic_InvalidValue := (c.fact 5 30), ty_InvalidValue := of_decide_eq_true (c.fact 5 31),
    C_InvalidCount := (He.ga K "InvalidCount"), gC_InvalidCount := He.glo_ok X G (c.fact 5 32), ic_InvalidCount := (c.fact 5 33), ty_InvalidCount := of_decide_eq_true (c.fact 5 34),
    C_InvalidKept := (He.ga K "InvalidKept"), gC_InvalidKept := He.glo_ok X G (c.fact 5 35), ic_InvalidKept := (c.fact 5 36), ty_InvalidKept := of_decide_eq_true (c.fact 5 37),
    C_InvalidSize := (He.ga K "InvalidSize"), gC_InvalidSize := He.glo_ok X G (c.fact 5 38), ic_InvalidSize := (c.fact 5 39), ty_InvalidSize := of_decide_eq_true (c.fact 6 0),
    C_PairError := (He.ga K "PairError"), gC_PairError := He.glo_ok X G (c.fact 6 1), ic_PairError := (c.fact 6 2), ty_PairError := of_decide_eq_true (c.fact 6 3),
    pb := of_decide_eq_true (c.fact 6 4), ph := (c.fact 6 5),
    sb_PowerFailed_PowerFailed := of_decide_eq_true (c.fact 6 6),
    sb_PowerFailed_PowerOff := of_decide_eq_true (c.fact 6 7),
    sb_PowerFailed_InvalidBlock := of_decide_eq_true (c.fact 6 8),
    sb_PowerFailed_InvalidValue := of_decide_eq_true (c.fact 6 9),
    sb_PowerFailed_InvalidCount := of_decide_eq_true (c.fact 6 10),
    sb_PowerFailed_InvalidKept := of_decide_eq_true (c.fact 6 11),
    sb_PowerFailed_InvalidSize := of_decide_eq_true (c.fact 6 12),
    sb_PowerFailed_PairError := of_decide_eq_true (c.fact 6 13),
    vb_PowerFailed := of_decide_eq_true (c.fact 6 14),
    E_PowerFailed := ⟨of_decide_eq_true (c.fact 6 15), of_decide_eq_true (c.fact 6 16), of_decide_eq_true (c.fact 6 17), (c.fact 6 18), of_decide_eq_true (c.fact 6 19), of_decide_eq_true (c.fact 6 20), of_decide_eq_true (c.fact 6 21), of_decide_eq_true (c.fact 6 22)⟩,
    kp_PowerFailed := (c.fact 6 23),
    f_PowerFailed___init__ := Hx.At.ad K (.meth "PowerFailed" "__init__"), fd_PowerFailed___init__ := fd_PowerFailed___init__, cc_PowerFailed___init__ := cc_PowerFailed___init__, S_PowerFailed___init__ := S_PowerFailed___init__,
    O_PowerFailed := ⟨Hx.isExc_ok (c.fact 6 25), of_decide_eq_true (c.fact 6 26), of_decide_eq_true (c.fact 6 27), of_decide_eq_true (c.fact 6 28), (c.fact 6 29)⟩,
    iC_PowerFailed := of_decide_eq_true (c.fact 6 30),
    tI_PowerFailed := of_decide_eq_true (c.fact 6 31),
    mr_PowerFailed := of_decide_eq_true (c.fact 6 32),
    su_PowerFailed := of_decide_eq_true (c.fact 6 33),
    no_PowerFailed_is_done := of_decide_eq_true (c.fact 6 34),
    sb_PowerOff_PowerFailed := of_decide_eq_true (c.fact 6 35),
    sb_PowerOff_PowerOff := of_decide_eq_true (c.fact 6 36),
    sb_PowerOff_InvalidBlock := of_decide_eq_true (c.fact 6 37),
    sb_PowerOff_InvalidValue := of_decide_eq_true (c.fact 6 38),
    sb_PowerOff_InvalidCount := of_decide_eq_true (c.fact 6 39),
    sb_PowerOff_InvalidKept := of_decide_eq_true (c.fact 7 0),
    sb_PowerOff_InvalidSize := of_decide_eq_true (c.fact 7 1),
    sb_PowerOff_PairError := of_decide_eq_true (c.fact 7 2),
    vb_PowerOff := of_decide_eq_true (c.fact 7 3),
    E_PowerOff := ⟨of_decide_eq_true (c.fact 7 4), of_decide_eq_true (c.fact 7 5), of_decide_eq_true (c.fact 7 6), (c.fact 7 7), of_decide_eq_true (c.fact 7 8), of_decide_eq_true (c.fact 7 9), of_decide_eq_true (c.fact 7 10), of_decide_eq_true (c.fact 7 11)⟩,
    kp_PowerOff := (c.fact 7 12),
    pl_PowerOff := (c.fact 7 13),
    sb_InvalidBlock_PowerFailed := of_decide_eq_true (c.fact 7 14),
    sb_InvalidBlock_PowerOff := of_decide_eq_true (c.fact 7 15),
    sb_InvalidBlock_InvalidBlock := of_decide_eq_true (c.fact 7 16),
    sb_InvalidBlock_InvalidValue := of_decide_eq_true (c.fact 7 17),
    sb_InvalidBlock_InvalidCount := of_decide_eq_true (c.fact 7 18),
    sb_InvalidBlock_InvalidKept := of_decide_eq_true (c.fact 7 19),
    sb_InvalidBlock_InvalidSize := of_decide_eq_true (c.fact 7 20),
    sb_InvalidBlock_PairError := of_decide_eq_true (c.fact 7 21),
    vb_InvalidBlock := of_decide_eq_true (c.fact 7 22),
    E_InvalidBlock := ⟨of_decide_eq_true (c.fact 7 23), of_decide_eq_true (c.fact 7 24), of_decide_eq_true (c.fact 7 25), (c.fact 7 26), of_decide_eq_true (c.fact 7 27), of_decide_eq_true (c.fact 7 28), of_decide_eq_true (c.fact 7 29), of_decide_eq_true (c.fact 7 30)⟩,
    kp_InvalidBlock := (c.fact 7 31),
    pl_InvalidBlock := (c.fact 7 32),
    sb_InvalidValue_PowerFailed := of_decide_eq_true (c.fact 7 33),
    sb_InvalidValue_PowerOff := of_decide_eq_true (c.fact 7 34),
    sb_InvalidValue_InvalidBlock := of_decide_eq_true (c.fact 7 35),
    sb_InvalidValue_InvalidValue := of_decide_eq_true (c.fact 7 36),
    sb_InvalidValue_InvalidCount := of_decide_eq_true (c.fact 7 37),
    sb_InvalidValue_InvalidKept := of_decide_eq_true (c.fact 7 38),
    sb_InvalidValue_InvalidSize := of_decide_eq_true (c.fact 7 39),
    sb_InvalidValue_PairError := of_decide_eq_true (c.fact 8 0),
    vb_InvalidValue := of_decide_eq_true (c.fact 8 1),
    E_InvalidValue := ⟨of_decide_eq_true (c.fact 8 2), of_decide_eq_true (c.fact 8 3), of_decide_eq_true (c.fact 8 4), (c.fact 8 5), of_decide_eq_true (c.fact 8 6), of_decide_eq_true (c.fact 8 7), of_decide_eq_true (c.fact 8 8), of_decide_eq_true (c.fact 8 9)⟩,
    kp_InvalidValue := (c.fact 8 10),
    pl_InvalidValue := (c.fact 8 11),
    sb_InvalidCount_PowerFailed := of_decide_eq_true (c.fact 8 12),
    sb_InvalidCount_PowerOff := of_decide_eq_true (c.fact 8 13),
    sb_InvalidCount_InvalidBlock := of_decide_eq_true (c.fact 8 14),
    sb_InvalidCount_InvalidValue := of_decide_eq_true (c.fact 8 15),
    sb_InvalidCount_InvalidCount := of_decide_eq_true (c.fact 8 16),
    sb_InvalidCount_InvalidKept := of_decide_eq_true (c.fact 8 17),
    sb_InvalidCount_InvalidSize := of_decide_eq_true (c.fact 8 18),
    sb_InvalidCount_PairError := of_decide_eq_true (c.fact 8 19),
    vb_InvalidCount := of_decide_eq_true (c.fact 8 20),
    E_InvalidCount := ⟨of_decide_eq_true (c.fact 8 21), of_decide_eq_true (c.fact 8 22), of_decide_eq_true (c.fact 8 23), (c.fact 8 24), of_decide_eq_true (c.fact 8 25), of_decide_eq_true (c.fact 8 26), of_decide_eq_true (c.fact 8 27), of_decide_eq_true (c.fact 8 28)⟩,
    kp_InvalidCount := (c.fact 8 29),
    pl_InvalidCount := (c.fact 8 30),
    sb_InvalidKept_PowerFailed := of_decide_eq_true (c.fact 8 31),
    sb_InvalidKept_PowerOff := of_decide_eq_true (c.fact 8 32),
    sb_InvalidKept_InvalidBlock := of_decide_eq_true (c.fact 8 33),
    sb_InvalidKept_InvalidValue := of_decide_eq_true (c.fact 8 34),
    sb_InvalidKept_InvalidCount := of_decide_eq_true (c.fact 8 35),
    sb_InvalidKept_InvalidKept := of_decide_eq_true (c.fact 8 36),
    sb_InvalidKept_InvalidSize := of_decide_eq_true (c.fact 8 37),
    sb_InvalidKept_PairError := of_decide_eq_true (c.fact 8 38),
    vb_InvalidKept := of_decide_eq_true (c.fact 8 39),
    E_InvalidKept := ⟨of_decide_eq_true (c.fact 9 0), of_decide_eq_true (c.fact 9 1), of_decide_eq_true (c.fact 9 2), (c.fact 9 3), of_decide_eq_true (c.fact 9 4), of_decide_eq_true (c.fact 9 5), of_decide_eq_true (c.fact 9 6), of_decide_eq_true (c.fact 9 7)⟩,
    kp_InvalidKept := (c.fact 9 8),
    pl_InvalidKept := (c.fact 9 9),
    sb_InvalidSize_PowerFailed := of_decide_eq_true (c.fact 9 10),
    sb_InvalidSize_PowerOff := of_decide_eq_true (c.fact 9 11),
    sb_InvalidSize_InvalidBlock := of_decide_eq_true (c.fact 9 12),
    sb_InvalidSize_InvalidValue := of_decide_eq_true (c.fact 9 13),
    sb_InvalidSize_InvalidCount := of_decide_eq_true (c.fact 9 14),
    sb_InvalidSize_InvalidKept := of_decide_eq_true (c.fact 9 15),
    sb_InvalidSize_InvalidSize := of_decide_eq_true (c.fact 9 16),
    sb_InvalidSize_PairError := of_decide_eq_true (c.fact 9 17),
    vb_InvalidSize := of_decide_eq_true (c.fact 9 18),
    E_InvalidSize := ⟨of_decide_eq_true (c.fact 9 19), of_decide_eq_true (c.fact 9 20), of_decide_eq_true (c.fact 9 21), (c.fact 9 22), of_decide_eq_true (c.fact 9 23), of_decide_eq_true (c.fact 9 24), of_decide_eq_true (c.fact 9 25), of_decide_eq_true (c.fact 9 26)⟩,
    kp_InvalidSize := (c.fact 9 27),
    pl_InvalidSize := (c.fact 9 28) }, rfl⟩
  have HP : ProgOk l.prog T.file := by
    rw [hT]
    exact HF
  obtain ⟨oc_law, od_law, kV_law, dc_law, pm_law, an_law, cd_law, ct_law, osl_law, rfl, lk_law, hcd_law, ec_law⟩ := Hx.lamF F
  have th_law := c.head (.glo "law") (by simp)
  have to_law := c.out (.glo "law") (by simp)
  have tt_law := c.tab (.glo "law") (by simp)
  rw [show Hx.cdAd K (Hx.At.ad K (.glo "law")) = cd_law from ec_law] at th_law to_law tt_law
  have q1 : ∀ p ∈ [(cd_law, He.tabOf K cd_law)], h.get? p.2 = some { cls := .none, data := .fields #[] } := fun p hp => by
    rw [List.mem_singleton.mp hp]
    exact tt_law
  have q2 : ∀ p ∈ [(cd_law, He.tabOf K cd_law)], K.lookup p.2 = none := fun p hp => by
    rw [List.mem_singleton.mp hp]
    exact to_law
  have q3 : ∀ p ∈ [(cd_law, He.tabOf K cd_law)], PySem.W.codeHdIn K p.1 p.2 = true := fun p hp => by
    rw [List.mem_singleton.mp hp]
    exact th_law
  exact ⟨_, [(cd_law, He.tabOf K cd_law)], spLaw K (He.tabOf K cd_law), q1, q2, fun p hp => PySem.W.codeHd_of_K X (q3 p hp), fun s v => .of_eq rfl, fun H a ns hl _ hH hS => ⟨a, ns, rfl, hS, hl, hH (cd_law, He.tabOf K cd_law) List.mem_cons_self, fun _ => rfl⟩, fun base _ _ hTB => ok_law T HP lk_law hcd_law (hTB (cd_law, He.tabOf K cd_law) List.mem_cons_self)⟩
end
end Kb
open PySem PySem.W PySem.Calls PyProof.Rows in
set_option maxRecDepth 100000 in
set_option maxHeartbeats 0 in
theorem PySem.Challenge.cw_keepbefore_k50_whole_failures_beyond_the_holds : PySem.Challenge.rw_keepbefore_k50_whole_failures_beyond_the.Holds := by
  w_on; o_law
  refine HandSHeadRun.head_any (r := OpenLaw.row PySem.Challenge.rw_keepbefore_k50_whole_failures_beyond_the) (q := view (OpenLaw.row PySem.Challenge.rw_keepbefore_k50_whole_failures_beyond_the).prog [60]) (H := Kb.hk) (ob := Hx.ob 6 Kb.hdefs Kb.hex Kb.htf) (M := 40000) (loose := Kb.hnames) (d := HandSHeadRun.topDef (OpenLaw.row PySem.Challenge.rw_keepbefore_k50_whole_failures_beyond_the).prog 60) (kwd := []) Hx.ob_eq
    (by kernel_rfl) (fun s => by kernel_rfl) Kb.hrun (by kernel_rfl) (by kernel_rfl) (by kernel_rfl) (by rfl) (by first | assumption | decide +kernel) (by decide +kernel) ⟨rfl, rfl, rfl, rfl, rfl, by decide +kernel⟩ ?hw ?hc
  case hw => w_witness2
  case hc =>
    refine LamX.walk_ofTsE (l := PySem.Challenge.rw_keepbefore_k50_whole_failures_beyond_the) (n := 63) (k := 16) (x := "_law_script") (CX := fun _ => C8.CX0) rfl (by decide) (by kernel_rfl) ⟨rfl, by decide, by decide⟩ ?F (fun _ _ _ _ _ z => z)
    intro w mg fa h Y G hmg0
    obtain ⟨K, KX, c⟩ := Y
    have hmg : mg ("law" : PySem.Str) = some (.ref fa) := by
      have e : (HandSHeadRun.topDef (OpenLaw.row PySem.Challenge.rw_keepbefore_k50_whole_failures_beyond_the).prog 60).name = ("law" : PySem.Str) := by kernel_rfl
      rw [← e]
      exact hmg0
    exact ⟨K, KX, Kb.all_ok KX G hmg c ⟨by first | exact beq_self_eq_true (α := PySem.Str) _ | rfl | decide +kernel, by first | rfl | decide +kernel⟩⟩
