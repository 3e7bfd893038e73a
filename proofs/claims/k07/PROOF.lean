import PyProof.Rows.All
import Wide.All
import OpenK.AllK
import Wide.FinOn
import HandS.ForMost
import HandS.Defaults
import HandS.Property
import HandS.IsInst
import HandS.Conv
import HandS.Codes
import HandS.MakeKwOnly
import HandS.GenYield
import HandS.Nested
import HandS.ExcInit
import HandS.ExcField
import HandS.ExcIs
import HandS.FStr
import HandS.WordsExc
import HandS.TryOnly
import KE.KExcSuper
import KE.KExcIs
import HandS.ExcSuper
import HandS.HotCalls
import HandS.ExcInitHot
import HandS.NestedHot
import HandS.ClsMeth
import HandS.EndTab
import HandS.EndBits
import HandS.StrSplit
import HandS.Strs
import HandS.Deep
import PySem.Challenge.RW_keepbefore_k07_invalid_rules_and_recipes
set_option Elab.async false
set_option linter.all false
set_option maxRecDepth 100000
set_option maxHeartbeats 4000000
namespace Kb
open PySem L2
/-! ### heaps and frames -/
/-- outside S all that was tracked is as it was -/
def Fr (S : List Addr) (H H' : Hp) : Prop := ∀ b o, H b = some o → b ∉ S → H' b = some o
theorem Fr.refl (S : List Addr) (H : Hp) : Fr S H H := fun _ _ h _ => h
theorem Fr.trans {S : List Addr} {H H1 H2 : Hp} (a : Fr S H H1) (b : Fr S H1 H2) : Fr S H H2 := fun c o h n => b c o (a c o h n) n
theorem Fr.mono {S T : List Addr} {H H' : Hp} (a : Fr S H H') (h : ∀ b ∈ S, b ∈ T) : Fr T H H' := fun b o e n => a b o e (fun z => n (h b z))
theorem Fr.put {S : List Addr} {H : Hp} {a : Addr} {o : HO} (h : a ∈ S) : Fr S H (upd H a o) := fun b u e n => by
  rw [upd_ne (fun z => n (by rw [z]; exact h))]
  exact e
theorem Fr.new {S : List Addr} {H : Hp} {p : Addr} {o : HO} (h : H p = none) : Fr S H (upd H p o) := fun b u e _ => by
  rw [upd_ne (ne_of_none e h)]
  exact e
theorem Fr.nil_of {S : List Addr} {H H' : Hp} (a : Fr [] H H') : Fr S H H' := a.mono (fun _ h => by cases h)
theorem Fr.at_ {S : List Addr} {H H' : Hp} {b : Addr} {o : HO} (f : Fr S H H') (e : H b = some o) (n : b ∉ S) : H' b = some o := f b o e n
theorem fresh_out {H : Hp} {b : Addr} {o : HO} {p : Addr} (e : H b = some o) (n : H p = none) : b ≠ p := ne_of_none e n
/-- S and T share nothing -/
def Sep (S T : List Addr) : Prop := ∀ b ∈ S, b ∉ T
theorem Sep.symm {S T : List Addr} (h : Sep S T) : Sep T S := fun b hb hs => h b hs hb
/-- what owns S' came of S or is new, and so is apart from what stood in H -/
theorem Sep.grow {H : Hp} {S S' T : List Addr} (h : Sep S T) (g : ∀ b ∈ S', b ∈ S ∨ H b = none) (t : ∀ b ∈ T, ∃ o, H b = some o) : Sep S' T := fun b hb ht => by
  rcases g b hb with z | z
  · exact h b z ht
  · obtain ⟨o, e⟩ := t b ht
    rw [z] at e
    cases e
theorem vlen {α β : Type} {xs : List α} {f : α → β} : (xs.map f).length = xs.length := List.length_map f
theorem sz_le {n : Nat} (h : n ≤ 100000) : n ≤ sizeLine := Nat.le_trans h (by decide)
theorem sz_lt {n : Nat} (h : n < 100000) : n < sizeLine := Nat.lt_of_lt_of_le h (by decide)
theorem ix_at {n : Nat} (j : Nat) (h : j < n) : ixN n (j : Int) = some j := by
  unfold ixN
  rw [if_pos (Int.natCast_nonneg j), if_pos (by omega)]
  rfl
theorem free_upd {H : Hp} {a p : Addr} {o : HO} (h : upd H a o p = none) : H p = none ∧ p ≠ a := by
  by_cases e : p = a
  · rw [e, upd_same] at h
    cases h
  · rw [upd_ne e] at h
    exact ⟨h, e⟩
theorem int_at {ns : List Int} {i : Nat} {x : V} (h : (ns.map V.int)[i]? = some x) : ∃ u, x = V.int u ∧ ns[i]? = some u := by
  rw [List.getElem?_map] at h
  cases e : ns[i]? with
  | none =>
    rw [e] at h
    cases h
  | some u =>
    rw [e] at h
    exact ⟨u, (Option.some.inj h).symm, rfl⟩
theorem lt_of_at {α : Type} {xs : List α} {i : Nat} {x : α} (h : xs[i]? = some x) : i < xs.length := (List.getElem?_eq_some_iff.mp h).1
theorem Fr.seq {K : PySem.W.Frag} {S : List Addr} {H H' : Hp} {a : Addr} {xs : List V} (f : Fr S H H') (n : a ∉ S) (h : SqL K H a xs) : SqL K H' a xs := by
  rcases h with (h | ⟨o, h⟩) | h
  · exact .inl (.inl (f _ _ h n))
  · exact .inl (.inr ⟨o, f _ _ h n⟩)
  · exact .inr h
theorem Fr.tup {K : PySem.W.Frag} {S : List Addr} {H H' : Hp} {a : Addr} {xs : List V} (f : Fr S H H') (n : a ∉ S) (h : SqT K H a xs) : SqT K H' a xs := by
  rcases h with (h | ⟨o, h⟩) | h
  · exact .inl (.inl (f _ _ h n))
  · exact .inl (.inr ⟨o, f _ _ h n⟩)
  · exact .inr h
/-! ### lambdas as values: with no parameter, or one that falls back on a number -/
section
open PySem.Spec PySem.Calls PySem.W PyProof.Rows LamX NdefX
/-- the words of a lambda, the cells that it captured, its code object, the tuple of what its parameter falls back on -/
structure LF where
  qual : Str
  params : Arguments
  body : Expr
  scope : Scope
  cl : List (Str × Addr)
  c : Addr
  df : Option Addr
def dfV : Option Addr → Value
  | none => .none
  | some t => .ref t
abbrev LF.fd (F : LF) (pm ct : Value) : FuncData :=
  { name := "<lambda>", qualname := F.qual, params := F.params, body := .expr F.body, scope := F.scope, globals := mainGlobals, closure := F.cl, defaults := dfV F.df, kwdefaults := .none, doc := .none, pyModule := pm, annotations := none, code := .ref F.c, closureTuple := ct, builtins := builtinsNs }
def LamO (f : Addr) (F : LF) : HO := .ext fun h => ∃ (od : Option Addr) (sl : Array (Option Value)) (pm ct : Value), h.get? f = some (⟨.type "function", od, .func (F.fd pm ct), sl⟩ : Obj)
theorem LamO.ne {f : Addr} {F : LF} (ps : Array Value) : LamO f F ≠ .tbl ps := fun z => by
  unfold LamO at z
  cases z
theorem LamO.at_ {P : Program} {w : World} {H : Hp} {h : Heap} {f : Addr} {F : LF} (hok : HOk P w H h) (e : H f = some (LamO f F)) : ∃ (od : Option Addr) (sl : Array (Option Value)) (pm ct : Value), h.get? f = some (⟨.type "function", od, .func (F.fd pm ct), sl⟩ : Obj) := (hok f _ e).1
/-- all of it stands -/
structure Lv (f : Addr) (F : LF) (H : Hp) : Prop where
  fn : H f = some (LamO f F)
  co : H F.c = some (CodeO F.c F.qual)
  df : ∀ t, F.df = some t → H t = some (.tup [.int 0])
theorem Lv.keep {f : Addr} {F : LF} {H H' : Hp} (L : Lv f F H) (e : ∀ b o, H b = some o → (∀ xs, o ≠ .lst xs) → (∀ ps, o ≠ .tbl ps) → (∀ C dx fs, o ≠ .ins C dx fs) → H' b = some o) : Lv f F H' :=
  ⟨e _ _ L.fn (fun _ z => by unfold LamO at z; cases z) (fun _ => LamO.ne _) (fun _ _ _ z => by unfold LamO at z; cases z), e _ _ L.co (fun _ z => by unfold CodeO at z; cases z) (fun _ => codeO_ne _) (fun _ _ _ z => by unfold CodeO at z; cases z),
    fun t h => e _ _ (L.df t h) (fun _ z => by cases z) (fun _ z => by cases z) (fun _ _ _ z => by cases z)⟩
section
variable {M : Model} {A : Around} {E : Value → Shared → Prop} {s : Shared} {q : Str} {params : Arguments} {body : Expr} {scope : Scope} {env : Env} {c P : Addr} {ps : Array Value} {pos : Pos} {ln : Nat} {mg : Str → Option Value} {clos : List (Str × Addr)} {Q : Value → Shared → Prop} {d : Option Addr}
theorem lam_tail (hcl : closureFor scope env = pure clos) (hge : env.globals = mainGlobals) (hg : s.heap.Ns mainGlobals mg) (hcode : env.code = .ref c) (C : CodeHd s.heap c P) (hP : s.heap.get? P = some { cls := .none, data := .fields ps }) (ht : TriplesOk ps.toList) (hgP : mainGlobals ≠ P) (hb : s.heap.BuiltinsAt mg P)
    (hit : ∀ cv, codeAmong pos ps.toList = some cv → ∀ (ct : Value) (h' : Heap) (tk : Tok) (fd : FuncData), (∀ b o, s.heap.get? b = some o → h'.get? b = some o) → s.heap.objs.size ≤ h'.objs.size →
      fd = { name := "<lambda>", qualname := q, params := params, body := .expr body, scope := scope, globals := mainGlobals, closure := clos, defaults := dfV d, kwdefaults := .none, doc := .none, pyModule := (mg "__name__").getD .none, annotations := none, code := cv, closureTuple := ct, builtins := builtinsNs } →
      Q (.ref h'.objs.size) { s with heap := h'.push { cls := .type "function", data := .func fd }, toks := tk })
    (new : codeAmong pos ps.toList = none → ∀ (c' : Addr) (ct : Value) (h' : Heap) (tk : Tok) (fd : FuncData), Heap.ExtBut P s.heap h' → s.heap.objs.size ≤ c' → c' < h'.objs.size → h'.CodeRec (.ref c') q → h'.get? P = some { cls := .none, data := .fields (ps ++ #[rawInt pos.line, rawInt pos.col, .ref c']) } →
      fd = { name := "<lambda>", qualname := q, params := params, body := .expr body, scope := scope, globals := mainGlobals, closure := clos, defaults := dfV d, kwdefaults := .none, doc := .none, pyModule := (mg "__name__").getD .none, annotations := none, code := .ref c', closureTuple := ct, builtins := builtinsNs } →
      Q (.ref h'.objs.size) { s with heap := h'.push { cls := .type "function", data := .func fd }, toks := tk }) :
    wpAny M A (makeTail "<lambda>" q params (.expr body) scope env (dfV d) .none none pos ln) Q E s := by
  obtain ⟨bm, ob, hbm, hne0, _, hneP, hbo, hcls, hdict, hdata⟩ := hb
  have up : ∀ (o : Obj) b u, s.heap.get? b = some u → (s.heap.push o).get? b = some u := fun o b u e => Heap.get?_push_of_some o e
  unfold makeTail
  rw [hcl, hge]
  apply wpAny_bind
  apply wpAny_pure
  cases hc : codeAmong pos ps.toList with
  | some cv =>
    by_cases hk : clos.isEmpty = true
    · simp only [hk, if_true]
      apply wpAny_bind; apply wpAny_pure
      apply wpAny_bind; apply wpAny_functionCode_hit hcode (C.code hP ht) hc
      apply wpAny_bind; apply wpAny_builtinsFor hg hbm hne0 hbo hcls hdict hdata
      apply wpAny_bind; apply wpAny_nsGet hg
      apply wpAny_bind; apply wpAny_pure
      exact wpAny_newObj_type (hit cv hc _ s.heap s.toks _ (fun _ _ e => e) (Nat.le_refl _) rfl) (by size_fits)
    · simp only [Bool.not_eq_true] at hk
      simp only [hk, Bool.false_eq_true, if_false]
      apply wpAny_bind; apply wpAny_newTextTuple
      apply wpAny_bind; apply wpAny_functionCode_hit hcode ((C.keeps (up _)).code (up _ _ _ hP) ht) hc
      apply wpAny_bind; apply wpAny_builtinsFor (hg.push _) hbm hne0 (up _ _ _ hbo) hcls hdict hdata
      apply wpAny_bind; apply wpAny_nsGet (hg.push _)
      apply wpAny_bind; apply wpAny_pure
      exact wpAny_newObj_type (hit cv hc _ _ s.toks _ (up _) (by rw [Heap.size_push]; exact Nat.le_succ _) rfl) (by size_fits)
  | none =>
    by_cases hk : clos.isEmpty = true
    · simp only [hk, if_true]
      apply wpAny_bind; apply wpAny_pure
      apply wpAny_bind
      refine wpAny_functionCodeX hcode (C.code hP ht) (C.tab hP) hc fun c' h' tk hx l1 l2 _ hrec htb _ => ?_
      apply wpAny_bind; apply wpAny_builtinsFor (hg.extBut hx hgP) hbm hne0 (hx _ _ hneP hbo) hcls hdict hdata
      apply wpAny_bind; apply wpAny_nsGet (hg.extBut hx hgP)
      apply wpAny_bind; apply wpAny_pure
      exact wpAny_newObj_type (new hc c' _ h' tk _ hx l1 l2 hrec htb.2 rfl) (by size_fits)
    · simp only [Bool.not_eq_true] at hk
      simp only [hk, Bool.false_eq_true, if_false]
      apply wpAny_bind; apply wpAny_newTextTuple
      apply wpAny_bind
      refine wpAny_functionCodeX hcode ((C.keeps (up _)).code (up _ _ _ hP) ht) ((C.keeps (up _)).tab (up _ _ _ hP)) hc fun c' h' tk hx l1 l2 _ hrec htb _ => ?_
      have hx' : Heap.ExtBut P s.heap h' := fun b o hb e => hx b o hb (up _ _ _ e)
      apply wpAny_bind; apply wpAny_builtinsFor ((hg.push _).extBut hx hgP) hbm hne0 (hx' _ _ hneP hbo) hcls hdict hdata
      apply wpAny_bind; apply wpAny_nsGet ((hg.push _).extBut hx hgP)
      apply wpAny_bind; apply wpAny_pure
      exact wpAny_newObj_type (new hc c' _ h' tk _ hx' (Nat.le_trans (by rw [Heap.size_push]; exact Nat.le_succ _) l1) l2 hrec htb.2 rfl) (by size_fits)
end
end
section
open PySem.Spec PySem.Calls PySem.W PyProof.Rows LamX NdefX
section
variable {X : Cx} {pins : List (Addr × Obj)} {σ : L2.St} {H : Hp} {s : Shared}
theorem inv_lam {F : LF} {o : Obj} {tk : Nat} {pm ct : Value} (I : Inv X pins σ H s) (ho : o = { cls := .type "function", data := .func (F.fd pm ct) }) :
    Inv X pins σ (upd H s.heap.objs.size (LamO s.heap.objs.size F)) { s with heap := s.heap.push o, toks := tk } := by
  cases ho
  have e : (s.heap.push ({ cls := .type "function", data := .func (F.fd pm ct) } : Obj)).get? s.heap.objs.size = some ({ cls := .type "function", data := .func (F.fd pm ct) } : Obj) := Heap.get?_push_size _ rfl
  exact I.laid (a := s.heap.objs.size) (fun b u z => Heap.get?_push_of_some _ z) (Nat.le_refl _) ⟨⟨_, _, pm, ct, e⟩, ⟨_, e⟩, fun h1 h2 ⟨od, sl, p, t, z⟩ st => ⟨od, sl, p, t, st _ z⟩⟩
/-- the making of the function's object, the fallback tuple (if any) laid before -/
theorem lam_make {T : List NTab} {nm : Nat → Nat → Str} {c P : Addr} {params : Arguments} {body : Expr} {scope : Scope} {pos : Pos} {d : Option Addr} {ln : Nat} {E : Value → Shared → Prop} {Q : Value → Shared → Prop} (I : Inv X pins σ H s) (TB : TabB X.base X.mg c P) (hcode : X.env.code = .ref c)
    (hm : (P, nm) ∈ T) (hn : nm pos.line pos.col = X.env.qual ++ "<lambda>") (hu : ∀ p ∈ T, p.1 = P → p.2 = nm) (hT : TabsN T H) (hfree : ∀ y ∈ scope.names, y.2 = .free → ∃ c, X.env.cells.lookup y.1 = some c) (hd : ∀ t, d = some t → H t = some (.tup [.int 0]))
    (h : ∀ (f : Addr) (F : LF) (H1 : Hp) (s' : Shared), F.qual = X.env.qual ++ "<lambda>" → F.params = params → F.body = body → F.scope = scope → F.cl = cloFrom X.env.cells scope.names [] → F.df = d → Inv X pins σ H1 s' → ExtN H H1 → TabsN T H1 → H f = none → Lv f F H1 → Q (.ref f) s') :
    wpAny (model X.prog X.w) X.A (makeTail "<lambda>" (X.env.qual ++ "<lambda>") params (.expr body) scope X.env (dfV d) .none none pos ln) Q E s := by
  obtain ⟨ps, hP, ht, ha⟩ := (show TabN H P nm from hT _ hm)
  have hP' : s.heap.get? P = some { cls := .none, data := .fields ps } := I.hok P _ hP
  refine lam_tail (c := c) (P := P) (ps := ps) (mg := X.mg) (closure_ok hfree) I.ok.glob (I.mod.glob.keeps I.bk) hcode (TB.code.keeps I.bk) hP' ht TB.gP (TB.bm.keeps I.bk) (fun cv hc ct h' tk fd kp hz efd => ?_) fun hc c' ct h' tk fd hx l1 l2 hrec htb efd => ?_
  · obtain ⟨c', rfl, hco⟩ := ha pos cv hc
    rw [hn] at hco
    have I1 : Inv X pins σ H { s with heap := h', toks := tk } := I.kept kp
    have nF : H h'.objs.size = none := I1.hok.fresh (Nat.le_refl _)
    have I2 := inv_lam (F := ⟨X.env.qual ++ "<lambda>", params, body, scope, cloFrom X.env.cells scope.names [], c', d⟩) (o := { cls := .type "function", data := .func fd }) (tk := tk) (pm := (X.mg "__name__").getD .none) (ct := ct) I1 (by rw [efd])
    refine h h'.objs.size _ _ _ rfl rfl rfl rfl rfl rfl I2 (fun b o e n => (upd_ne (ne_of_none e nF)).trans e) (hT.ext fun b o e => (upd_ne (ne_of_none e nF)).trans e) nF ⟨upd_same, (upd_ne (ne_of_none hco nF)).trans hco, fun t et => (upd_ne (ne_of_none (hd t et) nF)).trans (hd t et)⟩
  · obtain ⟨c2, oc, vs, t, e2, hoc, hdt, hv⟩ := hrec
    cases e2
    have nC : H c' = none := I.hok.fresh l1
    have I1 := inv_table (t' := tk) (more := #[rawInt pos.line, rawInt pos.col, .ref c']) (h' := h') I hP (fun b o hb e => hx b o hb e) htb l1 ⟨oc, vs, t, hoc, hdt, hv⟩
    have hE : ExtN H (upd (upd H P (.tbl (ps ++ #[rawInt pos.line, rawInt pos.col, .ref c']))) c' (CodeO c' (X.env.qual ++ "<lambda>"))) := fun b o e n => by
      have nb : b ≠ P := fun z => n ps (Option.some.inj (e.symm.trans (by rw [z]; exact hP)))
      rw [upd_ne (ne_of_none e nC), upd_ne nb]
      exact e
    have eL : (ps ++ #[rawInt pos.line, rawInt pos.col, .ref c']).toList = ps.toList ++ [rawInt pos.line, rawInt pos.col, .ref c'] := by simp
    have T1 : TabsN T (upd (upd H P (.tbl (ps ++ #[rawInt pos.line, rawInt pos.col, .ref c']))) c' (CodeO c' (X.env.qual ++ "<lambda>"))) := fun p hp => by
      by_cases hb : p.1 = P
      · rw [hu p hp hb, hb]
        refine ⟨_, (upd_ne (ne_of_none hP nC)).trans upd_same, by rw [eL]; exact PySem.TriplesOk_snoc _ _ _ _ ht, fun p' cv hcv => ?_⟩
        rw [eL] at hcv
        rcases among_app2 _ ht hcv with z | ⟨z, z1, z2⟩
        · obtain ⟨c0, e1, e2⟩ := ha p' cv z
          exact ⟨c0, e1, hE _ _ e2 (codeO_ne)⟩
        · exact ⟨c', z, by rw [← z1, ← z2, hn]; exact upd_same⟩
      · obtain ⟨ps', a1, a2, a3⟩ := hT p hp
        refine ⟨ps', (upd_ne (ne_of_none a1 nC)).trans ((upd_ne hb).trans a1), a2, fun p' cv hcv => ?_⟩
        obtain ⟨c0, e1, e2⟩ := a3 p' cv hcv
        exact ⟨c0, e1, hE _ _ e2 (codeO_ne)⟩
    have nF := I1.hok.fresh (Nat.le_refl _)
    have I2 := inv_lam (F := ⟨X.env.qual ++ "<lambda>", params, body, scope, cloFrom X.env.cells scope.names [], c', d⟩) (o := { cls := .type "function", data := .func fd }) (tk := tk) (pm := (X.mg "__name__").getD .none) (ct := ct) I1 (by rw [efd])
    refine h h'.objs.size _ _ _ rfl rfl rfl rfl rfl rfl I2 (fun b o e n => (upd_ne (ne_of_none (hE b o e n) nF)).trans (hE b o e n)) (T1.ext fun b o e => (upd_ne (ne_of_none e nF)).trans e) (I.hok.fresh (Nat.le_trans l1 (Nat.le_of_lt l2))) ⟨upd_same, (upd_ne (Nat.ne_of_lt l2)).trans upd_same, fun t et => ?_⟩
    have e0 := hE _ _ (hd t et) (fun _ z => by cases z)
    exact (upd_ne (ne_of_none e0 nF)).trans e0
end
/-- what it yields -/
def tLamV (T : List NTab) (X : Cx) (params : Arguments) (body : Expr) (scope : Scope) : TE := fun _ H Q => TabsN T H ∧ ∀ (f : Addr) (F : LF) (H1 : Hp), F.qual = X.env.qual ++ "<lambda>" → F.params = params → F.body = body → F.scope = scope → F.cl = cloFrom X.env.cells scope.names [] →
  (F.df.isSome = !params.defaults.isEmpty) → ExtN H H1 → TabsN T H1 → H f = none → Lv f F H1 → Q (.ref f) H1
section
variable {X : Cx} {T : List NTab} {nm : Nat → Nat → Str} {c P : Addr} {params : Arguments} {body : Expr} {scope : Scope} {pos : Pos}
theorem pe_lamV (TB : TabB X.base X.mg c P) (hcode : X.env.code = .ref c) (hm : (P, nm) ∈ T) (hn : nm pos.line pos.col = X.env.qual ++ "<lambda>") (hu : ∀ p ∈ T, p.1 = P → p.2 = nm)
    (hfree : ∀ y ∈ scope.names, y.2 = .free → X.env.scope.names.lookup y.1 = some .cell ∨ X.env.scope.names.lookup y.1 = some .free) (hk0 : params.kwonlyargs = [])
    (hdef : (defaultsOf params X.env = ([], []) ∧ params.defaults = []) ∨ ∃ e, defaultsOf params X.env = ([eval e X.env], []) ∧ params.defaults = [e] ∧ PE X e (tC (.int 0))) :
    PE X (.Lambda params body scope pos) (tLamV T X params body scope) := by
  refine ⟨fun pins s σ H Q I h => ?_⟩
  obtain ⟨hT, h⟩ := h
  have hfr : ∀ y ∈ scope.names, y.2 = .free → ∃ c, X.env.cells.lookup y.1 = some c := fun y hy e => (hfree y hy e).elim (fun z => I.ok.has _ (.inl z)) fun z => I.ok.has _ (.inr z)
  rw [arm_eval_Lambda]
  rcases hdef with ⟨hd, hp⟩ | ⟨e, hd, hp, he⟩
  · rw [hd]
    apply wpAny_bind
    apply wpAny_pure
    apply wpAny_bind
    apply wpAny_holding
    apply wpAny_pure
    rw [makeFunction_eq]
    simp only [List.zip_nil_right, List.filterMap_nil, List.isEmpty_nil, if_true, pure_bind]
    exact lam_make (d := none) I TB hcode hm hn hu hT hfr (fun _ z => by cases z) fun f F H1 s' q1 q2 q3 q4 q5 q6 I1 eN T1 hf L => ⟨.ref f, H1, I1, rfl, h f F H1 q1 q2 q3 q4 q5 (by rw [q6, hp]; rfl) eN T1 hf L⟩
  · rw [hd]
    apply wpAny_bind
    apply wpAny_evalAll_cons
    refine thn (he.run pins s σ H (fun v H1 => v = .int 0 ∧ H1 = H) I ⟨rfl, rfl⟩) fun u s1 hu1 => ?_
    obtain ⟨v, H1, I1, rv, rfl, rfl⟩ := hu1
    apply wpAny_evalAll_nil
    apply wpAny_bind
    apply wpAny_holding
    apply wpAny_pure
    rw [makeFunction_eq]
    simp only [List.zip_nil_right, List.filterMap_nil, List.isEmpty_nil, List.isEmpty_cons, Bool.false_eq_true, if_false, if_true, pure_bind]
    apply wpAny_bind
    apply wpAny_newTextTuple
    have hn0 : H1 s1.heap.objs.size = none := I1.hok.fresh (Nat.le_refl _)
    have J : Inv X pins σ (upd H1 s1.heap.objs.size (.tup [.int 0])) { s1 with heap := s1.heap.push { cls := .type "tuple", data := .seq [u].toArray }, toks := s1.toks } :=
      I1.laid (t' := s1.toks) (o := .tup [.int 0]) (fun b ob q => Heap.get?_push_of_some _ q) (Nat.le_refl _) ⟨sz_le (by decide), [u], .cons rv .nil, _, Heap.get?_push_size _ rfl, rfl, _, rfl⟩
    have e0 : ∀ b o, H1 b = some o → (upd H1 s1.heap.objs.size (.tup [.int 0])) b = some o := fun b o e => (upd_ne (ne_of_none e hn0)).trans e
    refine lam_make (d := some s1.heap.objs.size) J TB hcode hm hn hu (hT.ext e0) hfr (fun t z => by cases z; exact upd_same) fun f F H2 s' q1 q2 q3 q4 q5 q6 I2 eN T1 hf L => ⟨.ref f, H2, I2, rfl, h f F H2 q1 q2 q3 q4 q5 (by rw [q6, hp]; rfl) (fun b o e n => eN b o (e0 b o e) n) T1 (free_upd hf).1 L⟩
end
end
section
open PySem.Spec PySem.Calls PySem.W PyProof.Rows LamX NdefX
/-- a lambda's names: none of its own but the parameters, the captured ones, globals -/
structure LScope (N fr : List Str) (sc : Scope) : Prop where
  kind : sc.kind = .function
  co : sc.isCoroutine = false
  gen : sc.isGenerator = false
  nocell : ∀ y ∈ sc.names, y.2 ≠ .cell
  free : ∀ y ∈ sc.names, y.2 = .free → y.1 ∈ fr
  frk : ∀ x ∈ fr, sc.names.lookup x = some .free
  eq : N = fr
def lscB (fr : List Str) (sc : Scope) : Bool :=
  decide (sc.kind = .function) && (!sc.isCoroutine && (!sc.isGenerator && (sc.names.all (fun y => !decide (y.2 = .cell)) && (sc.names.all (fun y => !decide (y.2 = .free) || decide (y.1 ∈ fr)) && fr.all (fun x => decide (sc.names.lookup x = some .free))))))
theorem lscope_by {fr : List Str} {sc : Scope} (h : lscB fr sc = true) : LScope fr fr sc := by
  unfold lscB at h
  simp only [Bool.and_eq_true, Bool.not_eq_true', decide_eq_true_eq, List.all_eq_true, Bool.or_eq_true, decide_eq_false_iff_not] at h
  obtain ⟨h1, h2, h3, h4, h5, h6⟩ := h
  exact ⟨h1, h2, h3, h4, fun y hy e => (h5 y hy).elim (fun z => absurd e z) id, h6, rfl⟩
abbrev LF.nf (F : LF) : NF := ⟨"<lambda>", F.qual, F.params, [], F.scope, F.cl, F.c⟩
/-- how it binds when nothing is given -/
def LBind (f : Addr) (F : LF) : Prop := ∀ (P : Program) (w : World) (s : Shared) (H : Hp) (pm ct : Value), Lv f F H → HOk P w H s.heap → ∃ bs : List (Str × Value), BindsTo s (F.fd pm ct) ⟨[], []⟩ bs ∧ ∀ x ∈ bs, F.scope.names.lookup x.1 = some .local
/-- with no parameter -/
theorem lbind0 {f : Addr} {F : LF} (h : ∀ pm ct, bindArgs (F.fd pm ct) ⟨[], []⟩ = pure []) : LBind f F := fun P w s H pm ct L hok => ⟨[], .of_eq (h pm ct), fun x hx => by cases hx⟩
/-- one that falls back on the number in its tuple -/
theorem lbind1 {f t : Addr} {F : LF} {x : Str} (e : F.df = some t) (h : ∀ pm ct u, ∃ k, bindArgs (F.fd pm ct) ⟨[], []⟩ = (seqItems? (F.fd pm ct).defaults >>= k) ∧ k (some #[u]) = pure [(x, u)]) (hl : F.scope.names.lookup x = some .local) : LBind f F := fun P w s H pm ct L hok => by
  obtain ⟨hz, us, rv, o, ho, hc, n, hd⟩ := hok t _ (L.df t e)
  cases rv with
  | cons r rr =>
    cases rr
    rename_i u
    obtain ⟨k, h1, h2⟩ := h pm ct u
    refine ⟨[(x, u)], .of_defaults (T := t) (by show dfV F.df = _; rw [e]; rfl) ho hd h1 h2, fun y hy => ?_⟩
    rw [List.mem_singleton.mp hy]
    exact hl
/-- the promise of the lambda F at f: sp, by what its captured cells hold at the call -/
def LOk (P : Program) (w : World) (K : PySem.W.Frag) (mg : Str → Option Value) (base : Heap) (CX : CXT) (k : Nat) (f : Addr) (F : LF) (fr : List Str) (sp : List (Option V) → Hp → VK → XK → Prop) : Prop :=
  ∀ (A : Around) (outer : List Env) (s : Shared) (H : Hp) (ws : List (Option V)) (Q : VK) (E : XK), Room k A → Env0 P w K mg base A outer s H → Lv f F H → CellsAt F.cl fr ws s.heap H → sp ws H Q E → codeAny (model P w) A (.call (.ref f) ⟨[], []⟩) (CR CX outer P w H s Q E) s
section
variable {CX : CXT} {P : Program} {w : World} {K : PySem.W.Frag} {mg : Str → Option Value} {base : Heap} {N fr : List Str} {F : LF} {f : Addr} {A : Around} {outer : List Env} {s : Shared} {H : Hp} {E : XK} {ws : List (Option V)} {k : Nat} {sp : List (Option V) → Hp → VK → XK → Prop}
abbrev lcx (CX : CXT) (P : Program) (w : World) (K : PySem.W.Frag) (mg : Str → Option Value) (base : Heap) (N : List Str) (F : LF) (f : Addr) (A : Around) (outer : List Env) (s : Shared) (H : Hp) (E : XK) : Cx := ncx CX P w K mg base N F.nf f A outer s H E
/-- THE RULE: a lambda by its body -/
theorem lok_of (S : LScope N fr F.scope) (hb : LBind f F)
    (hbody : ∀ (A : Around) (outer : List Env) (s : Shared) (H : Hp) (ws : List (Option V)) (Q : VK) (E : XK), Room k (A.deeper (envF F.nf f s.heap.objs.size)) → Lv f F H → ws.length = fr.length → sp ws H Q E →
      ∃ t, PE (lcx CX P w K mg base N F f A outer s H E) F.body t ∧ t ws H Q) : LOk P w K mg base CX (k + 1) f F fr sp := by
  intro A outer s H ws Q E hr e0 L C hsp
  have lim : s.heap.NoLimit := e0.mod.nolimit.keeps fun b o e => (e0.bs b o e).1
  obtain ⟨od, sl, pm, ct, ho⟩ := LamO.at_ e0.hok L.fn
  obtain ⟨bs, b1, b2⟩ := hb P w s H pm ct L e0.hok
  refine kla_callFunE hr.depth ho rfl S.co S.gen rfl (codeO_at e0.hok L.co) (b1 _ _ _ _ ?_)
  refine wpAny_newFunctionEnv S.nocell b2 (fun h₁ hns hsb => ⟨lim.fresh _ hsb, ?_⟩) S.kind
  show codeAny _ _ (.expr F.body (envF F.nf f s.heap.objs.size)) _ _
  have kp : ∀ b o, s.heap.get? b = some o → h₁.get? b = some o := fun b o e => hsb.extBut b o (Nat.ne_of_lt (Heap.lt_size e)) (Heap.get?_push_of_some _ e)
  obtain ⟨t, ht, hq⟩ := hbody A outer s H ws Q E (hr.deeper _) L C.len hsp
  have eN := S.eq
  have noA : ∀ b : Addr, b ∉ (lcx CX P w K mg base N F f A outer s H E).ex := fun b z => absurd (show b ∈ ([] : List Addr) from z) (by simp)
  have cellK : ∀ {c : Addr} {v : Option Value}, s.heap.IsCell c v → h₁.IsCell c v := fun {c v} ⟨o, ho, hd⟩ => ⟨o, kp _ _ ho, hd⟩
  have I : Inv (lcx CX P w K mg base N F f A outer s H E) [] ws H { s with heap := h₁, toks := s.toks + bs.length } := by
    refine ⟨⟨e0.mod, S.kind, rfl, rfl, Nat.le_refl _, C.inj, fun y hy => ?_, fun y c z _ => ?_, fun _ => hr.hd, Around.frames_deeper e0.frames, .inr ⟨rfl, rfl⟩, fun b z => absurd z (noA b), e0.bs, e0.bsz, fun b _ _ => noA b, fun b z => absurd z (noA b), e0.funs, e0.frf⟩,
      rfl, e0.bare, Un.kept kp, ⟨_, hns, fun i y v e1 e2 e3 => ?_⟩, fun y c e => ?_, e0.hok.fresh (Nat.le_refl _), fun y c e => (C.all y c e).1, fun q hq => absurd (show q ∈ ([] : List (Addr × Obj)) ++ [] from hq) (by simp), e0.hok.kept kp, ?_⟩
    · rcases (show F.scope.names.lookup y = some .cell ∨ F.scope.names.lookup y = some .free from hy) with hy | hy
      · exact absurd rfl (S.nocell _ (PySem.mem_of_lookup hy))
      · obtain ⟨i, hi⟩ := List.mem_iff_getElem?.mp (S.free _ (PySem.mem_of_lookup hy) rfl)
        obtain ⟨c, hc, _⟩ := C.has i y hi
        exact ⟨c, hc⟩
    · exact absurd (show false = true from z) (by simp)
    · have e1 : N[i]? = some y := e1
      rw [eN] at e1
      obtain ⟨c, hc, hv⟩ := C.has i y e1
      obtain ⟨u, ru, hu⟩ := hv v e2
      exact ⟨u, ru, .inr ⟨.inr (S.frk y (List.mem_of_getElem? e1)), c, hc, cellK hu⟩⟩
    · obtain ⟨v, z⟩ := (C.all y c e).2
      exact ⟨v, cellK z⟩
    · show ws.length = N.length
      rw [eN]
      exact C.len
  refine kla_codeExpr (wpAny_mono (ht.run [] _ ws H Q I hq) (fun v s' hs => ?_) fun e s' hs => hs)
  obtain ⟨u, H', J, rv, q⟩ := hs
  exact ⟨u, H', J.os, J.bare, J.base, J.hok, rv, q⟩
end
/-! ### what may be asked of a value that is called with nothing -/
/-- in the state (s, H), with the callers' frames fs: f is a lambda that lives, its cells hold ws, none of the cells is a frame's -/
structure Act (f : Addr) (F : LF) (fr : List Str) (ws : List (Option V)) (fs : List Addr) (s : Shared) (H : Hp) : Prop where
  lv : Lv f F H
  cells : CellsAt F.cl fr ws s.heap H
  nf : ∀ y c, F.cl.lookup y = some c → c ∉ fs
section
variable {X : Cx} {pins : List (Addr × Obj)} {σ : L2.St} {H : Hp} {s : Shared} {f : Addr} {F : LF} {fr : List Str} {ws : List (Option V)}
/-- a callee's own state, from its entry's -/
theorem Act.later (a : Act f F fr ws X.fs X.s_0 X.H_0) (hx : X.ex = []) (I : Inv X pins σ H s) (L : Lv f F H) : Act f F fr ws X.fs s H :=
  ⟨L, a.cells.later a.nf (fun _ _ _ z => by rw [hx] at z; cases z) I, a.nf⟩
/-- .. and handed on to a callee of its own: that frame is no cell -/
theorem Act.on (a : Act f F fr ws X.fs s H) (I : Inv X pins σ H s) : Act f F fr ws (frs X.stack) s H := by
  refine ⟨a.lv, a.cells, fun y c e hm => ?_⟩
  rcases List.mem_cons.mp (I.stkSub c hm) with z | z
  · obtain ⟨v, o, ho, hd⟩ := (a.cells.all y c e).2
    obtain ⟨m, ⟨o', es, ep, ho', hd', _⟩, _⟩ := I.loc
    rw [z, ho'] at ho
    cases ho
    rw [hd'] at hd
    cases hd
  · exact a.nf y c e z
/-- the maker's own state -/
theorem Act.made {js : List Nat} (hfn : ∀ x, X.fn x = true) (I : Inv X pins σ H s) (L : Lv f F H) (c : Caps X F.cl fr js) : Act f F fr (js.map (slotAt σ)) (frs X.stack) s H := by
  refine ⟨L, cells_of I c, fun y a e hm => ?_⟩
  have e' := c.sub y a e
  obtain ⟨v, o, ho, hd⟩ := I.cell y a e'
  rcases List.mem_cons.mp (I.stkSub a hm) with z | z
  · exact I.cne y a e' z
  · obtain ⟨_, o', ho', _⟩ := I.ok.funs.mem z
    exact absurd (Nat.lt_of_lt_of_le (Heap.lt_size ho') (I.ok.cab y a (hfn y) e')) (Nat.lt_irrefl _)
end
end
section
open PySem.Spec PySem.Calls PySem.W PyProof.Rows LamX NdefX
/-! ### an own exception whose __init__ begins with super().__init__(..) -/
section
variable {prog : Program} {w : World} {A : Around} {E : Value → Shared → Prop} {h : Heap} {g : Array GenState} {d : Drawn} {t : Nat} {os : OsState} {nm q : Str} {C N : Addr} {bs bm : List Value} {sn : List Str} {sub : List Value} {ab : Bool} {col : Option Bool} {dd : Option Addr} {k0 k1 k2 k3 k5 : Option Value}
theorem mw_check {M : Model} {e : Addr} {oe : Obj} {rest : List Value} {Q : Unit → Shared → Prop} (hC : h.get? C = some (excClassObj nm q C N bs bm true sn sub ab col dd k0 k1 k2 k3 k5 "ValueError.__new__")) (he : h.get? e = some oe) (hcls : oe.cls = .ref C) (hq : Q () ⟨h, g, d, t, os⟩) :
    wpAny M A (checkBoundCall "ValueError.__init__" ⟨.ref e :: rest, []⟩) Q E ⟨h, g, d, t, os⟩ := ESX.check_bound F.excBase_ValueError hC he hcls hq
/-- the wrapper is called: the args are laid anew -/
theorem mw_call {u e t0 : Addr} {rest : List Value} {Q : Value → Shared → Prop} (hC : h.get? C = some (excClassObj nm q C N bs bm true sn sub ab col dd k0 k1 k2 k3 k5 "ValueError.__new__")) (he : h.get? e = some (HandSPX.excO C t0)) (hu : h.get? u = some (kxs_mw "ValueError.__init__" e)) (hl : rest.length ≤ sizeLine)
    (hq : ∀ h' t1, (∀ b o, b ≠ e → h.get? b = some o → h'.get? b = some o) → h'.get? e = some (HandSPX.excO C t1) → Q .none ⟨h', g, d, t, os⟩) : wpAny (model prog w) A (call (.ref u) rest) Q E ⟨h, g, d, t, os⟩ := by
  apply wpAny_call
  apply codeAny_of_tree
  show wpAny _ A.in1 (callAny (.ref u) ⟨rest, []⟩) _ _ _
  simp only [callAny]
  apply wpAny_bind
  apply wpAny_load hu
  simp only [kxs_mw, show (Value.type "method-wrapper" == Value.type "method" || Value.type "method-wrapper" == Value.type "builtin_function_or_method" || Value.type "method-wrapper" == Value.type "method-wrapper") = true by decide, if_true]
  refine KFB.if_so (by decide) ?_
  refine wpAny_bind (mw_check hC he rfl ?_)
  refine wpAny_bind (wpAny_pure (wpAny_pure ?_))
  refine ⟨Code.quiet_builtin _ (by decide +kernel), codeAny_builtin F.excBase_ValueError.initEntry ?_⟩
  rw [Around.under_plainId F.excBase_ValueError.init.plain _]
  wp_walk
  refine hq _ h.objs.size (fun b o hb ho => ?_) ?_
  · rw [Heap.get?_update_other _ _ (fun z => hb z.symm)]
    exact Heap.get?_push_of_some _ ho
  · rw [Heap.get?_update_self _ (Heap.get?_push_of_some _ he) rfl]
    rfl
end
/-- such a def of the class at D, its cell at cc -/
structure ProgOk (P : Program) (file : Str) : Prop where
  file_ : ((P.main.file : Str) == file) = true
  top_ : (P.main.scope.names.lookup ("super" : Str)).isSome = false
structure FunS (K : Frag) (file : Str) (x qual : Str) (st : Stmt) (D cc : Addr) (f : Addr) (fd : FuncData) : Prop where
  ex : ∃ (oc : Value) (od : Option Addr) (kV doc pm : Value) (an : Option Addr) (cda : Addr) (ct : Value) (osl : Array (Option Value)) (cl : Value) (cdd : Option Addr) (vs : Array Value) (csl : Array (Option Value)) (tf : Tok) (ec : Value) (ed : Option Addr) (es : Array (Option Value)),
    fd = ksFn x qual (defArgs st) (defBody st) (defScope st) .none kV doc pm an (.ref cda) ct cc ∧ K.lookup f = some ⟨oc, od, .func fd, osl⟩ ∧ codeIn K (.ref cda) qual = true ∧ K.lookup cda = some ⟨cl, cdd, .fields vs, csl⟩ ∧ vs[2]? = some (.str file tf) ∧ K.lookup cc = some ⟨ec, ed, .cell (some (.ref D)), es⟩
  kp : keepIn K (.ref f) = true
section
variable {P : Program} {w : World} {K : Frag} {mg : Str → Option Value} {base : Heap}
theorem FunS.ok {CX : CXT} {x qual : Str} {st : Stmt} {D cc f : Addr} {fd : FuncData} {N ps : List Str} {k : Nat} {sp : Sp} {ar : Arg} {e : Expr} {rest : List Stmt} {p0 p1 apos pos epos : Pos} {file : Str} (HP : ProgOk P file) (F : FunS K file x qual st D cc f fd) (S : NScope N ps ["__class__"] (defScope st)) (len : ∀ vs H Q E, sp vs H Q E → vs.length = ps.length)
    (hst : defBody st = .Expr (.Call (.Attribute (.Call (.Name "super" p0) [] [] p1) "__init__" apos) [e] [] pos) epos :: rest) (hks : (defScope st).names.lookup ("super" : Str) = some .globalImplicit) (hint : ∀ env : Env, env.scope = defScope st → interactive env = false) (pl : Env → Sem Bool)
    (hev : ∀ env : Env, eval (.Call (.Attribute (.Call (.Name "super" p0) [] [] p1) "__init__" apos) [e] [] pos) env = (do
      let ov ← attributeBase (.Call (.Name "super" p0) [] [] p1) "__init__" env (eval (.Call (.Name "super" p0) [] [] p1) env)
      standAt apos.atName
      let (f, first) ← holding [ov] (getMethod ov "__init__" (pl env))
      callWith pos f first (backTo pos (starEach [e] env)) [])) (hse : ∀ env : Env, starEach [e] env = [(false, eval e env)]) (har : ((defArgs st).posonlyargs ++ (defArgs st).args).head? = some ar) (hp0 : ps.head? = some ar.arg)
    (hms : mg "super" = none) (hthird : nsIn K cStatics "thirdparty.any" = some none)
    (hbody : ∀ (F' : NF) (A : Around) (outer : List Env) (s : Shared) (H : Hp) (vs : List V) (Q : VK) (E : XK), F'.scope = defScope st → Room k (A.deeper (envF F' f s.heap.objs.size)) → sp vs H Q E →
      ∃ (te : TE) (tb : TS) (a C : Addr) (z : V), vs.head? = some (.ref a) ∧ H a = some (exo a C none) ∧ OexC K C ∧ (∃ cdD, clsIn K D = some cdD) ∧ mroIn K C (.ref D) = some true ∧ ks_superIn K C D "__init__" = some (some (.builtin "ValueError.__init__")) ∧ subIn K (.ref C) (.type "ValueError") = some true ∧
        PE (ncx CX P w K mg base N F' f A outer s H E) e te ∧ PSs (ncx CX P w K mg base N F' f A outer s H E) rest tb ∧ (∀ Q' : VK, Q' z H → te (startF N vs [none]) H Q') ∧ tb { nx := fun _ H' => Q .non H', rt := Q } (startF N vs [none]) H) :
    FnOk P w K mg base CX (k + 1) f fd ps sp := by
  obtain ⟨oc, od, kV, doc, pm, an, cda, ct, osl, cl, cdd, vs2, csl, tf, ec, ed, es, rfl, lk, hcd, lcd, h2, lcc⟩ := F.ex
  obtain ⟨hfile, htop⟩ := HP
  refine ⟨len, fun A outer s H args us vs Q E hr e0 hb r hsp => ?_⟩
  have hl := len _ _ _ _ hsp
  have KX : K.In s.heap := e0.mod.kin.keeps fun b o e => (e0.bs b o e).1
  have lim : s.heap.NoLimit := e0.mod.nolimit.keeps fun b o e => (e0.bs b o e).1
  let F' : NF := ⟨x, qual, defArgs st, defBody st, defScope st, [("__class__", cc)], cda⟩
  obtain ⟨te, tb, a, C, z, hva, ha, T, ⟨cdD, hD⟩, hmro, hsup, hVE, he, hrest, hte, htb⟩ := hbody F' A outer s H vs Q E rfl (hr.deeper _) hsp
  refine codeAny_call_function hr.depth (KX _ _ lk) rfl S.co S.gen rfl (codeRec_of KX hcd) (hb _ _ _ _ ?_)
  refine wpAny_newFunctionEnv S.nocell (fun ⟨n, _⟩ hy => S.par n (List.of_mem_zip hy).1) (fun h₁ hns hsb => ⟨lim.fresh _ hsb, ?_⟩) S.kind
  show codeAny _ _ (.func (defBody st) (envF F' f s.heap.objs.size)) _ _
  refine ks_codeAny_funcAt ?_
  have kp : ∀ b o, s.heap.get? b = some o → h₁.get? b = some o := fun b o e => hsb.extBut b o (Nat.ne_of_lt (Heap.lt_size e)) (Heap.get?_push_of_some _ e)
  have CA : CellsAt F'.cl ["__class__"] [none] s.heap H := by
    have lk1 : ∀ y c, F'.cl.lookup y = some c → y = "__class__" ∧ c = cc := fun y c e => by
      have e' : ([("__class__", cc)] : List (Str × Addr)).lookup y = some c := e
      by_cases hy : y = "__class__"
      · rw [hy] at e'
        exact ⟨hy, (Option.some.inj e').symm⟩
      · have hb : (y == ("__class__" : Str)) = false := beq_eq_false_iff_ne.mpr hy
        simp only [List.lookup, hb] at e'
        cases e'
    refine ⟨rfl, fun y c e => ?_, fun y1 y2 c e1 e2 => by rw [(lk1 y1 c e1).1, (lk1 y2 c e2).1], fun i y hy => ⟨cc, ?_, fun v hv => ?_⟩⟩
    · rw [(lk1 y c e).2]
      exact ⟨(e0.bs cc _ (e0.mod.kin _ _ lcc)).2, _, _, KX _ _ lcc, rfl⟩
    · cases i with
      | zero => cases hy; rfl
      | succ n => simp at hy
    · cases i with
      | zero => cases hv
      | succ n => simp at hv
  have I : Inv (ncx CX P w K mg base N F' f A outer s H E) [] (startF N vs [none]) H { s with heap := h₁, toks := s.toks + (ps.zip us).length } := inv_startN S hr.hd e0 hl r CA hns kp
  rw [hst]
  refine ks_wpAt_execs_cons (ks_wpAt_Expr_any (ks_wpAt_MethodCall (pl := pl _) ?_ (hev _)) (hint _ rfl))
  have hk0 : (defScope st).names.lookup ar.arg = some .local := S.par _ (List.mem_of_head? hp0)
  have hkc : (defScope st).names.lookup ("__class__" : Str) = some .free := S.frk _ List.mem_cons_self
  have K1 : K.In h₁ := fun b o e => kp b o (KX b o e)
  obtain ⟨oD, hD1, hD2⟩ : ∃ oD, h₁.get? D = some oD ∧ oD.data = .cls cdD := by
    unfold clsIn at hD
    split at hD
    · rename_i c0 d0 cd' sl ho
      cases hD
      exact ⟨_, K1 _ _ ho, rfl⟩
    · cases hD
  obtain ⟨t0, hea⟩ := exo_at I.hok ha
  obtain ⟨cd, hcl⟩ : ∃ cd, clsIn K C = some cd := by
    unfold ks_superIn at hsup
    cases hc : clsIn K C with
    | none => rw [hc] at hsup; cases hsup
    | some cd => exact ⟨cd, rfl⟩
  have hal : alongIn K "__init__" ((cd.mro.dropWhile (· != .ref D)).drop 1) = some (some (.builtin "ValueError.__init__")) := by
    unfold ks_superIn at hsup
    rw [hcl] at hsup
    exact hsup
  have hself : (ps.zip us).reverse.lookup ar.arg = some (.ref a) := by
    have ndP : ps.Nodup := (List.nodup_append.mp (S.pre ▸ S.nd.sublist (List.take_sublist (ps.length + 1) N))).1
    have hps : ps[0]? = some ar.arg := by rw [← List.head?_eq_getElem?]; exact hp0
    have hvs0 : vs[0]? = some (.ref a) := by rw [← List.head?_eq_getElem?]; exact hva
    obtain ⟨u, hu, ru⟩ := r.get hvs0
    obtain rfl : u = Value.ref a := ru
    exact zip_look ndP hps hu
  obtain ⟨mb, hb1, hb2⟩ := I.mod.blt
  refine ks_wpAt_super_base (prog := P) (w := w) (env := envF F' f s.heap.objs.size) hks hkc (by decide) rfl (K1 _ _ lk) rfl har rfl (K1 _ _ lcd) rfl h2 hfile htop ?_
  refine ks_loadName_global S.kind hks (loadGlobal_builtin (env := envF F' f s.heap.objs.size) (I.mod.glob.keeps I.bk) hms (hb1.keeps I.bk) ((hb2 _ (by decide)).trans (by first | boot_by_name | rfl | kernel_rfl)) ⟨rfl, ?_⟩)
  refine wpAny_loadName_free (env := envF F' f s.heap.objs.size) S.kind hkc rfl ⟨_, K1 _ _ lcc, rfl⟩ ?_
  refine wpAny_loadName_local (env := envF F' f s.heap.objs.size) S.kind hk0 hns hself ?_
  refine ks_wpAny_isType_cls hD1 hD2 ⟨rfl, ?_⟩
  refine ks_wpAny_call_super hD1 hD2 hea rfl (fun c z => by cases z) (looks_mroIn K1 hmro) (fun h2' eso k2 => ?_)
  have K2 : K.In h2' := fun b o e => k2 b o (K1 b o e)
  have Ia : Inv (ncx CX P w K mg base N F' f A outer s H E) [] (startF N vs [none]) H { s with heap := h2', toks := s.toks + (ps.zip us).length } := I.kept k2
  have hea2 := k2 _ _ hea
  have hne : a ≠ C := fun z => by
    have hC0 : ∃ o cd', h2'.get? C = some o ∧ o.data = .cls cd' := by
      unfold clsIn at hcl
      split at hcl
      · rename_i c0 d0 cd' sl ho
        exact ⟨_, _, K2 _ _ ho, rfl⟩
      · cases hcl
    obtain ⟨o, cd', e1, e2⟩ := hC0
    rw [← z, hea2] at e1
    cases e1
    cases e2
  have tyA : Looks (model P w) h2' (typeOf (.ref a)) (.ref C) := fun A Q E s k q => wpAny_typeOf_ref (k _ _ hea2) q
  refine kxs_getMethod (h := h2') kxs_ValueError eso (looks_opaque K2 hthird) (l₀ := cd.mro) (fun A Q E s k q => wpAny_bind ((looks_clsIn K2 hcl) A _ E s k (wpAny_pure q))) rfl K2 hal (tyA.andThen (looks_subIn K2 hVE)) hne (by decide) ?_
  have I2 := ClX.pin_new (a := h2'.objs.size) (o := kxs_mw "ValueError.__init__" a) (h' := h2'.push (kxs_mw "ValueError.__init__" a)) (t' := s.toks + (ps.zip us).length + 1) Ia (fun b u z => Heap.get?_push_of_some _ z) (Nat.le_refl _) (Heap.get?_push_size _ rfl) (fun v z => nomatch z)
  have hpa : PA (ncx CX P w K mg base N F' f A outer s H E) [e] (tCons te tNil) := pa_cons he pa_nil (by rw [show starEach [e] (ncx CX P w K mg base N F' f A outer s H E).env = _ from hse _]; rfl)
  refine kxs_callWith (i := "ValueError.__init__") (x := a) (by rw [hse]; rfl) ?_
  have hrun := hpa.run pos _ _ _ _ (fun xs H1 => xs = [z] ∧ H1 = H) I2 (hte _ ⟨rfl, rfl⟩)
  have est : backTo pos (starEach [e] (envF F' f s.heap.objs.size)) = [(false, eval e (envF F' f s.heap.objs.size))] := by
    rw [hse]
    rfl
  rw [est]
  refine evalArgs_plain (thn (show wpAny _ _ (spliced [(false, eval e (envF F' f s.heap.objs.size))]) _ _ _ from est ▸ hrun) fun xs s3 h3 => ?_)
  obtain ⟨zs, H3, I3, rv, ezs, eH⟩ := h3
  subst ezs
  rw [eH] at I3
  refine ⟨(I3.pin _ (List.mem_append_right _ List.mem_cons_self)).1, ?_⟩
  obtain ⟨nmC, qC, NC, bsC, bmC, snC, subC, abC, colC, ddC, c0, c1, c2, c3, c5, hC, hbm⟩ := T.cls
  obtain ⟨t3, he3⟩ := exo_at I3.hok ha
  have hu3 := (I3.pin _ (List.mem_append_right _ List.mem_cons_self)).1
  have hlx : xs.length ≤ sizeLine := by
    have := Paired.length rv
    simp at this
    rw [← this]
    exact sz_le (by decide)
  obtain ⟨hp3, g3, d3, tk3, os3⟩ := s3
  show wpAny _ _ (call (.ref h2'.objs.size) ([] ++ xs)) _ _ _
  refine mw_call (I3.kIn _ _ hC) he3 hu3 hlx (fun h4 t4 k4 he4 => ?_)
  have J := (ClX.unpin I3).write (t' := tk3) (x := a) (e := a) (o := exo a C none) (by rw [ha]; exact True.intro) (.inl rfl) k4 ⟨_, he4⟩ (exo_ok he4)
  have eu : upd H a (exo a C none) = H := by
    funext b
    by_cases hb : b = a
    · rw [hb, upd_same, ha]
    · rw [upd_ne hb]
  rw [eu] at J
  refine wpAt_of_wpAny (wpAny_mono (hrest.run [] _ _ _ _ J htb) (fun fl s' hs => ?_) fun e s' hs => hs)
  have fin : ∀ {σ' : L2.St} {H' : Hp} {v : V} {u : Value}, Inv (ncx CX P w K mg base N F' f A outer s H E) [] σ' H' s' → L2.RelV v u → Q v H' → CE outer P w H s Q u s' :=
    fun {σ' H' v u} J rv q => ⟨v, H', J.os, J.bare, J.base, J.hok, rv, q⟩
  cases fl with
  | ret u =>
    obtain ⟨v, σ', H', J, rv, q⟩ := hs
    exact fin J rv q
  | next =>
    obtain ⟨σ', H', J, q⟩ := hs
    exact fin (v := V.non) (u := Value.none) J rfl q
  | brk =>
    obtain ⟨_, _, _, q⟩ := hs
    exact False.elim q
  | cont =>
    obtain ⟨_, _, _, q⟩ := hs
    exact False.elim q
end
end
section
open PySem.Spec PySem.Calls PySem.W PyProof.Rows LamX NdefX
/-! ### an own exception made, its context None -/
section
variable {X : Cx} {e : Expr} {es : List Expr} {ta : TA} {p pos : Pos}
theorem pmkN {CX : CXT} {x : Str} {C fI : Addr} {k : Nat} {fd : FuncData} {ps : List Str} {sp : Sp} (T : OexC X.K C) (iC : findIn X.K (.ref C) "__init__" = some (some (.ref fI))) (tI : typeIn X.K (.ref fI) = some (.type "function")) (F1 : FnOk X.prog X.w X.K X.mg X.base CX k fI fd ps sp) (hr : Room (k + 1) X.A)
    (hb : Binds X.K fd ps []) (hx : Passes CX X (fun _ _ _ => False)) (hg : Gl X x) (hm : X.mg x = some (.ref C)) (ha : PA X (e :: es) ta) (hdb : (x == ("__debug__" : Str)) = false := by decide) (he : starEach (e :: es) X.env = (false, eval e X.env) :: starEach es X.env := by rfl)
    (hpl : (backTo pos (starEach es X.env)).any (·.1) = false := by rfl) : L2N.PMk X (.Call (.Name x p) (e :: es) [] pos) (tMkO C sp [] ta) := by
  intro pins s σ H Q I h
  obtain ⟨nm, q, N, bs, bm, sn, sub, ab, col, dd, k0, k1, k2, k3, k5, hC, hbm⟩ := T.cls
  refine wpAny_Call_Name_kw (ld_glob I hg hm ?_ hdb)
  refine PySem.W.callWith_K (h₀ := X.base) I.ok.mod.kin T.kC (thn (ha.run pos pins s σ H _ I h) fun us s1 hh => ?_) he hpl
  obtain ⟨vs, H1, I1, r1, hz, q1⟩ := hh
  refine ⟨I1.kIn, ?_⟩
  obtain ⟨hp, g, dr, tk, os⟩ := s1
  let a : Addr := hp.objs.size + 1
  let h2 : Heap := (hp.push (kdv_tup us)).push (HandSPX.excO C hp.objs.size)
  have hsz : hp.objs.size ≤ a := Nat.le_succ _
  have hq := q1 a (I1.hok.fresh hsz)
  rw [List.append_nil] at hq
  have kk : ∀ b o, hp.get? b = some o → h2.get? b = some o := fun b o z => Heap.get?_push_of_some _ (Heap.get?_push_of_some _ z)
  have hget : h2.get? a = some (HandSPX.excO C hp.objs.size) := by
    show ((hp.push (kdv_tup us)).push (HandSPX.excO C hp.objs.size)).get? (hp.objs.size + 1) = _
    heap_get
  have I2 : Inv X pins σ (upd H1 a (exo a C none)) ⟨h2, g, dr, tk, os⟩ := I1.laid (t' := tk) (a := a) (o := exo a C none) (h' := h2) kk hsz (exo_ok hget)
  have hus : us.length ≤ sizeLine := by
    rw [← Paired.length r1, sizeLine_eq]
    omega
  have hl : (Value.ref a :: us).length = ps.length := by
    have z := F1.len _ _ _ _ hq
    rw [← z]
    show us.length + 1 = vs.length + 1
    rw [r1.length]
  have b2 := hb ⟨h2, g, dr, tk, os⟩ (Value.ref a :: us) I2.kIn (by rw [List.append_nil]; exact hl)
  rw [List.append_nil] at b2
  apply wpAny_call
  refine HandSPX.call_own F.excBase_ValueError (fun Y => HandSPX.refsVE_contains Y bm hbm) (I1.kIn _ _ hC) (looks_findIn I1.kIn iC) (fun self => bind_fn I1.kIn self tI) hus ?_
  refine codeAny_mono (F1.run _ X.stack _ _ ⟨Value.ref a :: us, []⟩ (Value.ref a :: us) (V.ref a :: vs) _ (fun _ _ _ => False) (hr.make C us []) (I2.env0.make C us []) b2 (.cons rfl r1) hq) fun r s' hq' => ?_
  match r, hq' with
  | .error er, hq' => exact hx pins σ _ _ er s' I2 hq'
  | .ok .next, hq' => exact False.elim hq'
  | .ok .brk, hq' => exact False.elim hq'
  | .ok .cont, hq' => exact False.elim hq'
  | .ok (.ret u), hq' =>
    obtain ⟨v, H2, os2, bare2, un2, hok2, rv, ev, d, fs, ea, ed, hd1, q2⟩ := hq'
    subst ev
    obtain ⟨h3, g2, d2, t2, os'⟩ := s'
    obtain ⟨t0, G, J, kG, ge, hoe, na⟩ := mk_end0 (d2 := d2) (t2 := t2) I1 hsz kk un2 hok2 os2 bare2 ea ed hd1
    exact ⟨rv, a, _, _, ⟨G, g2, d2, t2, os'⟩, _, .ref C, some d, rfl, J, kG, ge, hoe, ⟨rfl, rfl, fun ws z => by cases z; rfl⟩, rfl, rfl, na, rfl, bare2, raises_own T.exC T.tyC, q2⟩
end
/-- nothing leaves, seen from a place whence something may -/
theorem passN {X : Cx} : Passes C8.CX0 X (fun _ _ _ => False) := fun _ _ _ _ _ _ _ h => h.elim
section
variable {P : Program} {w : World} {K : Frag} {mg : Str → Option Value} {base : Heap}
/-- a def of the text by its body, whatever it may let out -/
theorem FunOkC {CX : CXT} {x qual : Str} {st : Stmt} {f : Addr} {fd : FuncData} {N ps : List Str} {k : Nat} {sp : Sp} (F : L2.Fun K x qual st f fd) (S : FnScope N ps (defScope st)) (len : ∀ vs H Q E, sp vs H Q E → vs.length = ps.length)
    (hbody : ∀ (cdv : Value) (A : Around) (outer : List Env) (s : Shared) (H : Hp) (vs : List V) (Q : VK) (E : XK), Room k (A.deeper (envOfC qual (defScope st) s.heap.objs.size f cdv)) → sp vs H Q E →
      ∃ t, PSs (cxOf CX P w K mg base N qual (defScope st) f cdv A outer s H E) (defBody st) t ∧ t { nx := fun _ H' => Q .non H', rt := Q } (L2.start N vs) H) : FnOk P w K mg base CX (k + 1) f fd ps sp := by
  obtain ⟨oc, od, kV, doc, pm, an, cdv, ct, osl, rfl, lk, hcd⟩ := F.ex
  exact fn_of lk hcd S len fun A outer s H vs Q E hr hsp => hbody cdv A outer s H vs Q E hr hsp
/-! ### a promise of the very state -/
abbrev SpS := List V → List Env → Shared → Hp → VK → XK → Prop
structure FnS (P : Program) (w : World) (K : Frag) (mg : Str → Option Value) (base : Heap) (CX : CXT) (k : Nat) (f : Addr) (ps : List Str) (sp : SpS) : Prop where
  len : ∀ vs o s H Q E, sp vs o s H Q E → vs.length = ps.length
  run : ∀ (A : Around) (outer : List Env) (s : Shared) (H : Hp) (us : List Value) (vs : List V) (Q : VK) (E : XK), Room k A → Env0 P w K mg base A outer s H → Vals vs us → sp vs outer s H Q E → codeAny (model P w) A (.call (.ref f) ⟨us, []⟩) (CR CX outer P w H s Q E) s
theorem FunOkS {CX : CXT} {x qual : Str} {st : Stmt} {f : Addr} {fd : FuncData} {N ps : List Str} {k : Nat} {sp : SpS} (F : L2.Fun K x qual st f fd) (hb : Binds K fd ps []) (S : FnScope N ps (defScope st)) (len : ∀ vs o s H Q E, sp vs o s H Q E → vs.length = ps.length)
    (hbody : ∀ (cdv : Value) (A : Around) (outer : List Env) (s : Shared) (H : Hp) (vs : List V) (Q : VK) (E : XK), Room k (A.deeper (envOfC qual (defScope st) s.heap.objs.size f cdv)) → sp vs outer s H Q E →
      ∃ t, PSs (cxOf CX P w K mg base N qual (defScope st) f cdv A outer s H E) (defBody st) t ∧ t { nx := fun _ H' => Q .non H', rt := Q } (L2.start N vs) H) : FnS P w K mg base CX (k + 1) f ps sp := by
  obtain ⟨oc, od, kV, doc, pm, an, cdv, ct, osl, rfl, lk, hcd⟩ := F.ex
  refine ⟨len, fun A outer s H us vs Q E hr e0 r hsp => ?_⟩
  have hl := len _ _ _ _ _ _ hsp
  have KX : K.In s.heap := e0.mod.kin.keeps fun b o z => (e0.bs b o z).1
  have b2 := hb s us KX (by rw [List.append_nil, ← hl]; exact r.length.symm)
  rw [List.append_nil] at b2
  exact run_ofS (us := us) (vs := vs) lk hcd S hr e0 b2 r hl fun hr' => hbody cdv A outer s H vs Q E hr' hsp
end
section
variable {X : Cx} {CX : CXT} {k i : Nat} {f g : Addr} {ps fr : List Str} {F : LF} {ws : List (Option V)} {sp : SpS} {E : XK} {x a : Str} {p p1 p2 pos : Pos} {e : Expr} {es : List Expr} {t : TA} {lp : List (Option V) → Hp → VK → XK → Prop}
theorem pe_callS (G : FnS X.prog X.w X.K X.mg X.base CX k g ps sp) (hr : Room k X.A) (hg : Gl X x) (hm : X.mg x = some (.ref g)) (hk : keepIn X.K (.ref g) = true) (hx : Passes CX X E) (ha : PA X (e :: es) t) (hdb : (x == ("__debug__" : Str)) = false := by decide)
    (he : starEach (e :: es) X.env = (false, eval e X.env) :: starEach es X.env := by rfl) (hpl : (backTo pos (starEach es X.env)).any (·.1) = false := by rfl) :
    PE X (.Call (.Name x p) (e :: es) [] pos) (fun σ H Q => t σ H fun vs H1 => ∀ pins s1, Inv X pins σ H1 s1 → sp vs X.stack s1 H1 Q E) := by
  refine ⟨fun pins s σ H Q I h => ?_⟩
  refine wpAny_Call_Name_kw (ld_glob I hg hm ?_ hdb)
  refine callWith_K (h₀ := X.base) I.ok.mod.kin hk (thn (ha.run pos pins s σ H _ I h) fun us s1 hh => ?_) he hpl
  obtain ⟨vs, H1, I1, r, q⟩ := hh
  refine ⟨I1.kIn, wpAny_call (codeAny_mono (G.run X.A X.stack s1 H1 us vs Q E hr I1.env0 r (q pins s1 I1)) fun r s' hq => ?_)⟩
  match r, hq with
  | .error er, hq => exact hx pins σ H1 s1 er s' I1 hq
  | .ok (.ret u), hq => exact I1.after hq
  | .ok .next, hq => exact False.elim hq
  | .ok .brk, hq => exact False.elim hq
  | .ok .cont, hq => exact False.elim hq
/-- a(), a the slot that holds the lambda -/
theorem pe_act {E : L2.St → XK} (L : LOk X.prog X.w X.K X.mg X.base CX k f F fr lp) (A0 : Act f F fr ws X.fs X.s_0 X.H_0) (hex : X.ex = []) (hr : Room k X.A) (hx : ∀ σ, PassesAt CX X σ (E σ)) (hN : X.N[i]? = some a) (hv : Vis X.env.scope a) (hd : (a == ("__debug__" : Str)) = false := by decide) (hcd : (a == ("__classdict__" : Str)) = false := by decide) :
    PE X (.Call (.Name a p1) [] [] p2) (fun σ H Q => σ[i]? = some (some (.ref f)) ∧ Lv f F H ∧ lp ws H Q (E σ)) := by
  refine ⟨fun pins s σ H Q I h => ?_⟩
  obtain ⟨hs, lv, hq⟩ := h
  refine wpAny_Call_Name_kw (thn ((pe_var (pos := p1) (i := i) hN hv hd hcd).run pins s σ H (fun v H1 => v = .ref f ∧ H1 = H) I ⟨.ref f, hs, rfl, rfl⟩) fun u s1 hh => ?_)
  obtain ⟨v, H1, I1, r1, ev, eH⟩ := hh
  subst ev
  rw [eH] at I1
  cases r1
  obtain ⟨od, sl, pm, ct, ho⟩ := LamO.at_ I1.hok lv.fn
  refine callWith_F0 ⟨_, _, _, _, ho⟩ (wpAny_call (codeAny_mono (L X.A X.stack s1 H ws Q (E σ) hr I1.env0 lv (A0.later hex I1 lv).cells hq) fun r s' hq' => ?_))
  match r, hq' with
  | .error er, hq' => exact hx σ pins H s1 er s' I1 hq'
  | .ok (.ret u), hq' => exact I1.after hq'
  | .ok .next, hq' => exact False.elim hq'
  | .ok .brk, hq' => exact False.elim hq'
  | .ok .cont, hq' => exact False.elim hq'
end
end
section
open PySem.Spec PySem.Calls PySem.W PyProof.Rows LamX NdefX
/-! ### the caught exception, where it is pinned -/
/-- it stands at a, of the class at D, its fields fs -/
structure Cgt (X : Cx) (D a : Addr) (oe : Obj) (d : Option Addr) : Prop where
  mem : (a, oe) ∈ X.pn
  zn : L2N.Zn (.ref D) d oe
  fl : ∃ vs, oe.data = .fields vs
def FldsAt (H : Hp) (d : Option Addr) (fs : List (Str × V)) : Prop := match d with
  | none => fs = []
  | some dd => H dd = some (.xd fs)
theorem FldsAt.keep {H H' : Hp} {S : List Addr} {d : Option Addr} {fs : List (Str × V)} (h : FldsAt H d fs) (f : Fr S H H') (n : ∀ b ∈ S, ∀ fs, H b ≠ some (.xd fs)) : FldsAt H' d fs := by
  cases d with
  | none => exact h
  | some dd => exact f dd _ h fun hb => n dd hb fs h
section
variable {X : Cx} {D a : Addr} {oe : Obj} {d : Option Addr} {pins : List (Addr × Obj)} {σ : L2.St} {H : Hp} {s : Shared} {fs : List (Str × V)}
theorem Cgt.inst (c : Cgt X D a oe d) (I : Inv X pins σ H s) (hf : FldsAt H d fs) : ∃ od, InstAt s.heap a oe D od ∧ (∀ o, od = some o → ∃ mA : Str → Option Value, (∀ n, lookIn n o = some (mA n)) ∧ ∀ n, RelO (fs.lookup n) (mA n)) ∧ (od = none ↔ d = none) := by
  obtain ⟨hget, _⟩ := I.pin (a, oe) (List.mem_append_left _ c.mem)
  obtain ⟨vs, hv⟩ := c.fl
  obtain ⟨z1, z2, _⟩ := c.zn
  cases d with
  | none =>
    refine ⟨none, ⟨hget, z1, ?_, ?_⟩, (fun o z => by cases z), by simp⟩
    · unfold notCls
      rw [hv] <;> rfl
    · rw [z2]
      trivial
  | some dd =>
    have hx : ObjOk X.prog X.w H s.heap dd (.xd fs) := I.hok dd _ hf
    obtain ⟨mA, hns, hr⟩ := hx
    obtain ⟨od, ho, hl⟩ := lookIn_ns hns
    refine ⟨some od, ⟨hget, z1, ?_, ?_⟩, fun o z => by cases z; exact ⟨mA, hl, hr⟩, by simp⟩
    · unfold notCls
      rw [hv] <;> rfl
    · rw [z2]
      exact ho
/-- isinstance(e, c) -/
def rIsC (K : Frag) (D a : Addr) (d : Option Addr) : List V → Hp → VK → Prop := fun xs H Q => ∃ (c : V) (cv : Value) (b : Bool) (fs : List (Str × V)), xs = [.ref a, c] ∧ FldsAt H d fs ∧ (∀ u, RelV c u → u = cv) ∧ kitOne K (.ref D) cv = some b ∧ Q (.bl b) H
theorem call_isC (C : ExcC X.K D) (c : Cgt X D a oe d) : CallR X (.builtin "isinstance") (rIsC X.K D a d) := by
  intro pins s σ H xs us Q I r h
  obtain ⟨cl, cv, b, fs, rfl, hf, hcv, e, q⟩ := h
  cases r with
  | cons rx rr =>
    cases rr with
    | cons rt rr =>
      cases rr
      cases rx
      cases hcv _ rt
      obtain ⟨od, J, _⟩ := c.inst I hf
      have hcl : (clsIn X.K D).isSome = true := by
        obtain ⟨cd, z, _⟩ := any_some C.hd
        rw [z]
        rfl
      exact kia_one (kitx_exc hcl C.hg C.hk C.hs C.ha C.hn C.ht C.hm) I.kIn J e (fun z => nomatch z) fun tk => ⟨.bl b, H, I.kept (t' := tk) fun _ _ z => z, rfl, q⟩
/-- e.n -/
def tFldC (D a : Addr) (d : Option Addr) (n : Str) (te : TE) : TE := fun σ H Q => te σ H fun x H1 => x = .ref a ∧ ∃ (fs : List (Str × V)) (v : V), d ≠ none ∧ FldsAt H1 d fs ∧ fs.lookup n = some v ∧ Q v H1
theorem pe_fldC {e : Expr} {te : TE} {pos : Pos} {n : Str} (T : XfC X.K D) (hno : findIn X.K (.ref D) n = some none) (c : Cgt X D a oe d) (he : PE X e te) (hb : attributeBase e n X.env (eval e X.env) = eval e X.env := by rfl) : PE X (.Attribute e n pos) (tFldC D a d n te) := by
  refine ⟨fun pins s σ H Q I h => ?_⟩
  refine attr_of hb (thn (he.run pins s σ H _ I h) fun u s1 hh => ?_)
  obtain ⟨x, H1, I1, rx, ex, fs, v, hd, hf, l, q⟩ := hh
  subst ex
  obtain rfl : u = Value.ref a := rx
  obtain ⟨od, J, hA, hn⟩ := c.inst I1 hf
  cases od with
  | none => exact absurd (hn.mp rfl) hd
  | some o =>
    obtain ⟨mA, hl, hr⟩ := hA o rfl
    obtain ⟨w, hw, rw'⟩ := RelO.some_of (v := v) (o := mA n) (by rw [← l]; exact hr n)
    exact HandSPX.exc_get I1.kIn J T.ga T.gg T.exC (findObj_own T.hdC hno rfl (by rw [hl, hw])) (handed_of rw') ⟨v, H1, I1.tok _, rw', q⟩
end
/-! ### defs called while the exception p is handled -/
def FnP (P : Program) (w : World) (K : Frag) (mg : Str → Option Value) (base : Heap) (CX : CXT) (k : Nat) (f : Addr) (p : Addr × Obj) (sp : Sp) : Prop :=
  ∀ (A : Around) (outer : List Env) (s : Shared) (H : Hp) (us : List Value) (vs : List V) (Q : VK) (E : XK), L2H.RoomH k A → L2H.Hot1 A p → L2H.PinOk outer H s p → Env0 P w K mg base A outer s H → Vals vs us → sp vs H Q E → codeAny (model P w) A (.call (.ref f) ⟨us, []⟩) (CR CX outer P w H s Q E) s
section
variable {P : Program} {w : World} {K : Frag} {mg : Str → Option Value} {base : Heap}
theorem FunOkP {CX : CXT} {x qual : Str} {st : Stmt} {f : Addr} {fd : FuncData} {N ps : List Str} {k : Nat} {sp : Sp} {p : Addr × Obj} (F : L2.Fun K x qual st f fd) (hb : Binds K fd ps []) (S : FnScope N ps (defScope st)) (len : ∀ vs H Q E, sp vs H Q E → vs.length = ps.length)
    (hbody : ∀ (cdv : Value) (A : Around) (outer : List Env) (s : Shared) (H : Hp) (vs : List V) (Q : VK) (E : XK), L2H.RoomH k (A.deeper (envOfC qual (defScope st) s.heap.objs.size f cdv)) → sp vs H Q E →
      ∃ t, PSs (L2H.cxH CX P w K mg base N qual (defScope st) f cdv A outer s H E p) (defBody st) t ∧ t { nx := fun _ H' => Q .non H', rt := Q } (L2.start N vs) H) : FnP P w K mg base CX (k + 1) f p sp := by
  obtain ⟨oc, od, kV, doc, pm, an, cdv, ct, osl, rfl, lk, hcd⟩ := F.ex
  intro A outer s H us vs Q E hr hot hpin e0 r hsp
  have hl := len _ _ _ _ hsp
  have KX : K.In s.heap := e0.mod.kin.keeps fun b o z => (e0.bs b o z).1
  have lim : s.heap.NoLimit := e0.mod.nolimit.keeps fun b o z => (e0.bs b o z).1
  have b2 := hb s us KX (by rw [List.append_nil, ← hl]; exact r.length.symm)
  rw [List.append_nil] at b2
  have hkind : ∀ y ∈ ps.zip us, (defScope st).names.lookup y.1 = some .local ∨ ((defScope st).names.lookup y.1 = some .cell ∧ ((cellsFrom (s.heap.objs.size + 1) (defScope st).names []).lookup y.1).isSome = true) := fun ⟨n, v⟩ hy =>
    (S.par n (List.of_mem_zip hy).1).elim .inl fun z => .inr ⟨z, cellsFrom_some _ _ _ (.inl z)⟩
  refine codeAny_call_function hr.depth (KX _ _ lk) rfl S.co S.gen rfl (codeRec_of KX hcd) (b2 _ _ _ _ ?_)
  refine wpAny_newFunctionEnv_cells S.kind hkind fun env he s1 x => ?_
  subst he
  refine ⟨lim.keeps x.toInCall.keep, codeAny_func ?_⟩
  obtain ⟨t, ht, hq⟩ := hbody cdv A outer s H vs Q E (hr.deeper _) hsp
  refine wpAny_mono (ht.run [] s1 (L2.start N vs) H _ (L2H.inv_startH S hpin e0 hl r x) hq) (fun fl s' hs => ?_) fun e s' hs => hs
  match fl, hs with
  | .ret u, hs =>
    obtain ⟨v, σ', H', J, rv, q⟩ := hs
    exact ⟨v, H', J.os, J.bare, J.base, J.hok, rv, q⟩
  | .next, hs =>
    obtain ⟨σ', H', J, q⟩ := hs
    exact ⟨.non, H', J.os, J.bare, J.base, J.hok, rfl, q⟩
  | .brk, hs =>
    obtain ⟨_, _, _, q⟩ := hs
    exact False.elim q
  | .cont, hs =>
    obtain ⟨_, _, _, q⟩ := hs
    exact False.elim q
end
section
variable {X : Cx} {k : Nat} {f : Addr} {p : Addr × Obj} {sp : Sp} {E : XK} {x : Str} {q pos : Pos} {e : Expr} {es : List Expr} {t : TA}
theorem pe_callP (F : FnP X.prog X.w X.K X.mg X.base C8.CX0 k f p sp) (hr : L2H.RoomH k X.A) (hot : L2H.Hot1 X.A p) (hp : p ∈ X.pn) (hg : Gl X x) (hm : X.mg x = some (.ref f)) (hk : keepIn X.K (.ref f) = true) (ha : PA X (e :: es) t) (hdb : (x == ("__debug__" : Str)) = false := by decide)
    (he : starEach (e :: es) X.env = (false, eval e X.env) :: starEach es X.env := by rfl) (hpl : (backTo pos (starEach es X.env)).any (·.1) = false := by rfl) : PE X (.Call (.Name x q) (e :: es) [] pos) (tCall sp [] C8.E0 t) := by
  refine ⟨fun pins s σ H Q I h => ?_⟩
  refine wpAny_Call_Name_kw (ld_glob I hg hm ?_ hdb)
  refine callWith_K (h₀ := X.base) I.ok.mod.kin hk (thn (ha.run pos pins s σ H _ I h) fun us s1 hh => ?_) he hpl
  obtain ⟨vs, H1, I1, r, q1⟩ := hh
  rw [List.append_nil] at q1
  have P1 := I1.pin p (List.mem_append_left _ hp)
  have hpin : L2H.PinOk X.stack H1 s1 p := ⟨P1.1, P1.2.1, fun hm => (List.mem_cons.mp (I1.stkSub p.1 hm)).elim P1.2.2.1 P1.2.2.2.1, P1.2.2.2.2⟩
  refine ⟨I1.kIn, wpAny_call (codeAny_mono (F X.A X.stack s1 H1 us vs Q C8.E0 hr hot hpin I1.env0 r q1) fun r s' hq => ?_)⟩
  match r, hq with
  | .error er, hq => exact False.elim hq
  | .ok (.ret u), hq => exact I1.after hq
  | .ok .next, hq => exact False.elim hq
  | .ok .brk, hq => exact False.elim hq
  | .ok .cont, hq => exact False.elim hq
theorem any_eqU_n {x : V} : ∀ {xs : List V} {us : List Value}, Vals xs us → xs.all flatV = true → us.countP (eqU x) = xs.countP fun y => eqV y x
  | _, _, .nil, _ => rfl
  | y :: xs, u :: us, .cons r t, f => by
    rw [List.all_cons, Bool.and_eq_true] at f
    rw [List.countP_cons, List.countP_cons, any_eqU_n t f.2, eqU_of r f.1]
def rCntV (K : Frag) : V → List V → Hp → VK → Prop := fun x xs H Q => ∃ (p : Addr) (ys : List V) (y : V), x = .ref p ∧ xs = [y] ∧ SqL K H p ys ∧ flatV y = true ∧ ys.all flatV = true ∧ Q (.int (ys.countP (fun z => eqV z y) : Nat)) H
theorem mt_lcountV : MtR X "list.count" (rCntV X.K) := by
  intro pins s σ H x xs v us Q I rx rxs h
  obtain ⟨p, ys, y, rfl, rfl, hs, fy, fys, q⟩ := h
  cases rx
  obtain ⟨u, rfl, ru⟩ := rxs.one
  obtain ⟨its, rv, ⟨⟨cls, dd, data, sl⟩, n, ho, hc, hdn, hd⟩, hlen⟩ := I.list hs
  simp only at hc hd
  subst hc hd
  refine call_meets PySem.F.slot_list_count ⟨_, ho, rfl⟩ PySem.F.entry_list_count (PySem.F.args_list_count_2 _ _) (SeqAt.list_countAt p its.toArray n dd sl u (eqU y)) ⟨ho, fun z hz => mem_eqAt ru fy rv fys z (by simpa using hz), ?_⟩
  have ec : its.toArray.toList.countP (eqU y) = ys.countP fun z => eqV z y := by
    rw [show its.toArray.toList = its from rfl]
    exact any_eqU_n rv fys
  refine ⟨.int (ys.countP (fun z => eqV z y) : Nat), H, I.tok _, ⟨s.toks, ?_⟩, q⟩
  show Value.int ((its.toArray.toList.countP (eqU y) : Nat) : Int) s.toks = _
  rw [ec]
end
end
section
open PySem.Spec PySem.Calls PySem.W PyProof.Rows LamX NdefX
/-! ### the law's row, where the law makes lambdas -/
section
open Att
theorem tabIn_of {K : Frag} {x : Str} {f c P : Addr} {oc : Value} {od : Option Addr} {fd : FuncData} {sl : Array (Option Value)} {cl : Value} {cdd : Option Addr} {vs : Array Value} {csl : Array (Option Value)} (a : nsIn K mainGlobals x = some (some (.ref f))) (l : K.lookup f = some ⟨oc, od, .func fd, sl⟩) (hc : fd.code = .ref c)
    (lc : K.lookup c = some ⟨cl, cdd, .fields vs, csl⟩) (tp : (vs[11]? : Option Value) = some (.ref P)) : tabIn K x = some (c, P) := by
  unfold tabIn
  rw [a]
  simp only [l, hc, lc, tp]
theorem lawat {l : OpenLaw} {w : World} {K : Frag} {q : Program} {loose : List Str} {mean : ExcName → Option Value} {d : DefRec} {h : Heap} {mg mb : Str → Option Value} {fa c P : Addr} {fd : FuncData} {k n : Nat} {x : Str} {sp : Sp} (TT : Top q loose mean mg mb h) (X : K.In h) (nt : noTabs K = true)
    (hrec : (recsOf q).find? (fun e => e.name == ("law" : Str)) = some d) (ti : tabIn K "law" = some (c, P)) (hb : ∀ (s : Shared) (u : Value), BindsTo s fd ⟨[u], []⟩ [(x, u)]) (F : ∀ base : Heap, K.In base → base.Ns mainGlobals mg → TabB base mg c P → FnOk l.prog w K mg base C8.CX0 k fa fd [x] sp)
    (hsp : ∀ (H : Hp) (a : Addr) (ns : List Int), ns.length ≤ n → H P = some (.tbl #[]) → SqL K H a (ns.map V.int) → sp [.ref a] H (fun v _ => v = .bl true) fun _ _ _ => False) : LawAtS l w K C8.CX0 k n x mg fa h := by
  obtain ⟨C, hT⟩ := tab_of TT X hrec ti
  have one : ∀ {α : Prop} {p : Addr × Addr}, p ∈ [(c, P)] → ((p = (c, P)) → α) → α := fun hp f => f (List.mem_singleton.mp hp)
  refine ⟨fd, [(c, P)], sp, fun p hp => by rw [List.mem_singleton.mp hp]; exact hT, fun p hp => ?_, fun p hp => by rw [List.mem_singleton.mp hp]; exact C, hb, fun H a ns hl _ hH hS => hsp H a ns hl (hH (c, P) (List.mem_singleton.mpr rfl)) hS, fun base KB GB hTB => F base KB GB (hTB (c, P) (List.mem_singleton.mpr rfl))⟩
  rw [List.mem_singleton.mp hp]
  show K.lookup P = none
  cases hk : K.lookup P with
  | none => rfl
  | some o =>
    have e := X _ _ hk
    rw [hT] at e
    cases e
    unfold noTabs at nt
    have z := List.all_eq_true.mp nt _ (mem_of_lookupK hk)
    simp [tabObj] at z
theorem lawat2 {l : OpenLaw} {w : World} {K : Frag} {q : Program} {loose : List Str} {mean : ExcName → Option Value} {d d2 : DefRec} {h : Heap} {mg mb : Str → Option Value} {fa c P c2 P2 : Addr} {fd : FuncData} {k n : Nat} {x x2 : Str} {sp : Sp} (TT : Top q loose mean mg mb h) (X : K.In h) (nt : noTabs K = true)
    (hrec : (recsOf q).find? (fun e => e.name == ("law" : Str)) = some d) (ti : tabIn K "law" = some (c, P)) (hrec2 : (recsOf q).find? (fun e => e.name == x2) = some d2) (ti2 : tabIn K x2 = some (c2, P2)) (hb : ∀ (s : Shared) (u : Value), BindsTo s fd ⟨[u], []⟩ [(x, u)]) (F : ∀ base : Heap, K.In base → base.Ns mainGlobals mg → TabB base mg c P → TabB base mg c2 P2 → FnOk l.prog w K mg base C8.CX0 k fa fd [x] sp)
    (hsp : ∀ (H : Hp) (a : Addr) (ns : List Int), ns.length ≤ n → H P = some (.tbl #[]) → H P2 = some (.tbl #[]) → SqL K H a (ns.map V.int) → sp [.ref a] H (fun v _ => v = .bl true) fun _ _ _ => False) : LawAtS l w K C8.CX0 k n x mg fa h := by
  obtain ⟨C, hT⟩ := tab_of TT X hrec ti
  obtain ⟨C2, hT2⟩ := tab_of TT X hrec2 ti2
  have none_of : ∀ {c P : Addr}, h.get? P = some { cls := .none, data := .fields #[] } → K.lookup P = none := fun {c P} hT => by
    cases hk : K.lookup P with
    | none => rfl
    | some o =>
      have e := X _ _ hk
      rw [hT] at e
      cases e
      unfold noTabs at nt
      have z := List.all_eq_true.mp nt _ (mem_of_lookupK hk)
      simp [tabObj] at z
  have two : ∀ {R : Addr × Addr → Prop}, R (c, P) → R (c2, P2) → ∀ p ∈ [(c, P), (c2, P2)], R p := fun r1 r2 p hp => by
    rcases List.mem_cons.mp hp with e | hp
    · rw [e]; exact r1
    · rw [List.mem_singleton.mp hp]; exact r2
  exact ⟨fd, [(c, P), (c2, P2)], sp, two (R := fun p => h.get? p.2 = some { cls := .none, data := .fields #[] }) hT hT2, two (R := fun p => K.lookup p.2 = none) (none_of (c := c) hT) (none_of (c := c) hT2), two (R := fun p => CodeHd h p.1 p.2) C C2, hb,
    fun H a ns hl _ hH hS => hsp H a ns hl (hH (c, P) (List.mem_cons_self)) (hH (c2, P2) (List.mem_cons_of_mem _ (List.mem_singleton.mpr rfl))) hS, fun base KB GB hTB => F base KB GB (hTB (c, P) (List.mem_cons_self)) (hTB (c2, P2) (List.mem_cons_of_mem _ (List.mem_singleton.mpr rfl)))⟩
theorem walk_lam {l : OpenLaw} {n k : Nat} {q : Program} {loose : List Str} {XP : (Str → Option Value) → Heap → Prop} {YP : World → Heap → Prop} {d : DefRec} {K : Params → Frag} {x : Str} (hn : l.most = some n) (hn2 : n ≤ sizeLine) (hdf : d.params.defaults = []) (hr : Room k callerA) (hY : ∀ (w : World) (h : Heap), YP w h → (K w.params).In h)
    (F : ∀ (w : World) (lo : List Str) (mean : ExcName → Option Value) (mg mb : Str → Option Value) (fa : Addr) (h : Heap), (K w.params).In h → Top q lo mean mg mb h → mg d.name = some (.ref fa) → LawAtS l w (K w.params) C8.CX0 k n x mg fa h) : WalkO q loose XP YP l.row.toRowW d [] (fun f vs => PySem.call f vs) := by
  refine attach_callB hn hdf fun w s₀ s₁ mg mb fa o pm cd doc a vs ns G Y ho hd hcd hmg hobj hints hlen hbits hg => ?_
  have KX := hY w _ Y
  obtain ⟨fd, cs, sp, hT, nT, C, hb, hsp, hF⟩ := F w _ _ mg mb fa _ KX G.T hmg
  exact law_callTs KX G.T.g G.T.b G.T.builtins G.T.nolimit hg hT nT C G.T.bmain hobj hints (Nat.le_trans hlen hn2) hr hF hb (fun H hH hS => hsp H a ns hlen hbits hH hS) fun H e s' z => z
end
end
def top (i : Nat) : Stmt := PySem.Challenge.pw_keepbefore_k07_invalid_rules_and_recipes.main.body.getD i (.Pass ⟨0, 0, 0, 0⟩)
abbrev s_is_number : Stmt := top 29
theorem sc_is_number : FnScope ["thing"] ["thing"] (defScope s_is_number) := ⟨rfl, rfl, rfl, by decide +kernel, rfl, by decide +kernel, by decide +kernel⟩
abbrev s_is_number_from : Stmt := top 30
theorem sc_is_number_from : FnScope ["thing", "least", "most"] ["thing", "least", "most"] (defScope s_is_number_from) := ⟨rfl, rfl, rfl, by decide +kernel, rfl, by decide +kernel, by decide +kernel⟩
abbrev s_Rules___init__ : Stmt := inClass (top 39) 0
theorem sc_Rules___init__ : FnScope ["self", "writing", "reading", "choice", "bound", "words", "part", "allowed"] ["self", "writing", "reading", "choice", "bound"] (defScope s_Rules___init__) := ⟨rfl, rfl, rfl, by decide +kernel, rfl, by decide +kernel, by decide +kernel⟩
abbrev s_Recipes___init__ : Stmt := inClass (top 40) 0
theorem sc_Recipes___init__ : FnScope ["self", "through", "back", "around", "clean", "allowed", "part", "recipe", "place"] ["self", "through", "back", "around", "clean"] (defScope s_Recipes___init__) := ⟨rfl, rfl, rfl, by decide +kernel, rfl, by decide +kernel, by decide +kernel⟩
abbrev s_Recipes_through : Stmt := inClass (top 40) 3
theorem sc_Recipes_through : FnScope ["self"] ["self"] (defScope s_Recipes_through) := ⟨rfl, rfl, rfl, by decide +kernel, rfl, by decide +kernel, by decide +kernel⟩
abbrev s_Recipes_back : Stmt := inClass (top 40) 4
theorem sc_Recipes_back : FnScope ["self"] ["self"] (defScope s_Recipes_back) := ⟨rfl, rfl, rfl, by decide +kernel, rfl, by decide +kernel, by decide +kernel⟩
abbrev s_Recipes_around : Stmt := inClass (top 40) 5
theorem sc_Recipes_around : FnScope ["self"] ["self"] (defScope s_Recipes_around) := ⟨rfl, rfl, rfl, by decide +kernel, rfl, by decide +kernel, by decide +kernel⟩
abbrev s_Recipes_clean : Stmt := inClass (top 40) 6
theorem sc_Recipes_clean : FnScope ["self"] ["self"] (defScope s_Recipes_clean) := ⟨rfl, rfl, rfl, by decide +kernel, rfl, by decide +kernel, by decide +kernel⟩
abbrev s_Recipes_safe : Stmt := inClass (top 40) 2
theorem sc_Recipes_safe : FnScope ["cls"] ["cls"] (defScope s_Recipes_safe) := ⟨rfl, rfl, rfl, by decide +kernel, rfl, by decide +kernel, by decide +kernel⟩
abbrev s__invalid_place : Stmt := top 41
theorem sc__invalid_place : FnScope ["recipe", "allowed", "place", "word"] ["recipe", "allowed"] (defScope s__invalid_place) := ⟨rfl, rfl, rfl, by decide +kernel, rfl, by decide +kernel, by decide +kernel⟩
abbrev s__law_random : Stmt := top 43
theorem sc__law_random : FnScope ["_law_script", "_law_salt", "_law_seed", "_law_cell"] ["_law_script", "_law_salt"] (defScope s__law_random) := ⟨rfl, rfl, rfl, by decide +kernel, rfl, by decide +kernel, by decide +kernel⟩
abbrev s__law_below : Stmt := top 44
theorem sc__law_below : FnScope ["_law_d", "_law_limit", "_law_result"] ["_law_d", "_law_limit"] (defScope s__law_below) := ⟨rfl, rfl, rfl, by decide +kernel, rfl, by decide +kernel, by decide +kernel⟩
abbrev s__law_rules : Stmt := top 45
theorem sc__law_rules : FnScope ["_law_d", "_law_limit", "_law_writing", "_law_reading"] ["_law_d", "_law_limit"] (defScope s__law_rules) := ⟨rfl, rfl, rfl, by decide +kernel, rfl, by decide +kernel, by decide +kernel⟩
abbrev s__law_told_of : Stmt := top 46
theorem sc__law_told_of : FnScope ["_law_e", "_law_name"] ["_law_e", "_law_name"] (defScope s__law_told_of) := ⟨rfl, rfl, rfl, by decide +kernel, rfl, by decide +kernel, by decide +kernel⟩
abbrev s__law_error_of : Stmt := top 47
theorem sc__law_error_of : FnScope ["_law_call", "_law_e", "_law_kinds", "_law_names"] ["_law_call"] (defScope s__law_error_of) := ⟨rfl, rfl, rfl, by decide +kernel, rfl, by decide +kernel, by decide +kernel⟩
abbrev s_law : Stmt := top 48
theorem sc_law : FnScope ["_law_script", "_law_d", "_law_parts", "_law_odd", "_law_at", "_law_safe", "_law_part", "_law_recipe", "_law_kind", "_law_place", "_law_wrong", "_law_given", "_law_first", "_law_call", "_law_bad", "_law_orders", "_law_word"] ["_law_script"] (defScope s_law) := ⟨rfl, rfl, rfl, by decide +kernel, rfl, by decide +kernel, by decide +kernel⟩
abbrev s_InvalidRules___init__ : Stmt := inClass (top 5) 0
theorem sc_InvalidRules___init__ : NdefX.NScope ["self", "part", "__class__"] ["self", "part"] ["__class__"] (defScope s_InvalidRules___init__) := NdefX.nscope_by (by decide +kernel)
abbrev s_InvalidRecipes___init__ : Stmt := inClass (top 6) 0
theorem sc_InvalidRecipes___init__ : NdefX.NScope ["self", "part", "place", "__class__"] ["self", "part", "place"] ["__class__"] (defScope s_InvalidRecipes___init__) := NdefX.nscope_by (by decide +kernel)
/-- a written tuple -/
def TupK (K : PySem.W.Frag) (a : Addr) (xs : List V) : Prop := ∀ H : Hp, SqT K H a xs
theorem TupK.of {K : PySem.W.Frag} {a : Addr} {xs : List V} {od : Option Addr} {its : Array Value} {n : Nat} {sl : Array (Option Value)} (h : K.lookup a = some ⟨.type "tuple", od, .seq its n, sl⟩) (hz : its.size ≤ sizeLine) (r : Vals xs its.toList) : TupK K a xs :=
  fun _ => .inr ⟨_, its, n, h, rfl, rfl, hz, r⟩
structure Gx (K : PySem.W.Frag) (mg : Str → Option Value) where
  C_Rules : Addr
  cl_Rules : Cls K C_Rules
  gC_Rules : mg "Rules" = some (.ref C_Rules)
  C_Recipes : Addr
  cl_Recipes : Cls K C_Recipes
  gC_Recipes : mg "Recipes" = some (.ref C_Recipes)
  n_Recipes__through : NoAttr K C_Recipes "_through"
  n_Recipes__back : NoAttr K C_Recipes "_back"
  n_Recipes__around : NoAttr K C_Recipes "_around"
  n_Recipes__clean : NoAttr K C_Recipes "_clean"
  f_is_number : Addr
  fd_is_number : FuncData
  F_is_number : Fun K "is_number" "is_number" s_is_number f_is_number fd_is_number
  g_is_number : mg "is_number" = some (.ref f_is_number)
  f_is_number_from : Addr
  fd_is_number_from : FuncData
  F_is_number_from : Fun K "is_number_from" "is_number_from" s_is_number_from f_is_number_from fd_is_number_from
  g_is_number_from : mg "is_number_from" = some (.ref f_is_number_from)
  f_Rules___init__ : Addr
  fd_Rules___init__ : FuncData
  F_Rules___init__ : Fun K "__init__" "Rules.__init__" s_Rules___init__ f_Rules___init__ fd_Rules___init__
  M_Rules___init__ : Mk K C_Rules f_Rules___init__
  f_Recipes___init__ : Addr
  fd_Recipes___init__ : FuncData
  F_Recipes___init__ : Fun K "__init__" "Recipes.__init__" s_Recipes___init__ f_Recipes___init__ fd_Recipes___init__
  M_Recipes___init__ : Mk K C_Recipes f_Recipes___init__
  f_Recipes_through : Addr
  fd_Recipes_through : FuncData
  F_Recipes_through : Fun K "through" "Recipes.through" s_Recipes_through f_Recipes_through fd_Recipes_through
  p_Recipes_through : Addr
  P_Recipes_through : PropOf K C_Recipes "through" p_Recipes_through f_Recipes_through
  f_Recipes_back : Addr
  fd_Recipes_back : FuncData
  F_Recipes_back : Fun K "back" "Recipes.back" s_Recipes_back f_Recipes_back fd_Recipes_back
  p_Recipes_back : Addr
  P_Recipes_back : PropOf K C_Recipes "back" p_Recipes_back f_Recipes_back
  f_Recipes_around : Addr
  fd_Recipes_around : FuncData
  F_Recipes_around : Fun K "around" "Recipes.around" s_Recipes_around f_Recipes_around fd_Recipes_around
  p_Recipes_around : Addr
  P_Recipes_around : PropOf K C_Recipes "around" p_Recipes_around f_Recipes_around
  f_Recipes_clean : Addr
  fd_Recipes_clean : FuncData
  F_Recipes_clean : Fun K "clean" "Recipes.clean" s_Recipes_clean f_Recipes_clean fd_Recipes_clean
  p_Recipes_clean : Addr
  P_Recipes_clean : PropOf K C_Recipes "clean" p_Recipes_clean f_Recipes_clean
  f_Recipes_safe : Addr
  fd_Recipes_safe : FuncData
  F_Recipes_safe : Fun K "safe" "Recipes.safe" s_Recipes_safe f_Recipes_safe fd_Recipes_safe
  p_Recipes_safe : Addr
  Y_Recipes_safe : ClX.CMet K C_Recipes (.type "type") "safe" p_Recipes_safe f_Recipes_safe
  R_Recipes_safe : ClX.CRead K C_Recipes (.type "type")
  f__invalid_place : Addr
  fd__invalid_place : FuncData
  F__invalid_place : Fun K "_invalid_place" "_invalid_place" s__invalid_place f__invalid_place fd__invalid_place
  g__invalid_place : mg "_invalid_place" = some (.ref f__invalid_place)
  f__law_random : Addr
  fd__law_random : FuncData
  F__law_random : Fun K "_law_random" "_law_random" s__law_random f__law_random fd__law_random
  g__law_random : mg "_law_random" = some (.ref f__law_random)
  f__law_below : Addr
  fd__law_below : FuncData
  F__law_below : Fun K "_law_below" "_law_below" s__law_below f__law_below fd__law_below
  g__law_below : mg "_law_below" = some (.ref f__law_below)
  f__law_rules : Addr
  fd__law_rules : FuncData
  F__law_rules : Fun K "_law_rules" "_law_rules" s__law_rules f__law_rules fd__law_rules
  g__law_rules : mg "_law_rules" = some (.ref f__law_rules)
  f__law_told_of : Addr
  fd__law_told_of : FuncData
  F__law_told_of : Fun K "_law_told_of" "_law_told_of" s__law_told_of f__law_told_of fd__law_told_of
  g__law_told_of : mg "_law_told_of" = some (.ref f__law_told_of)
  f__law_error_of : Addr
  fd__law_error_of : FuncData
  F__law_error_of : Fun K "_law_error_of" "_law_error_of" s__law_error_of f__law_error_of fd__law_error_of
  g__law_error_of : mg "_law_error_of" = some (.ref f__law_error_of)
  z_isinstance : mg "isinstance" = none
  z_int : mg "int" = none
  z_bool : mg "bool" = none
  z_list : mg "list" = none
  z_tuple : mg "tuple" = none
  z_len : mg "len" = none
  z_abs : mg "abs" = none
  z_range : mg "range" = none
  z_enumerate : mg "enumerate" = none
  z_super : mg "super" = none
  z_ValueError : mg "ValueError" = none
  t_BOUND_PART : Tok
  c_BOUND_PART : mg "BOUND_PART" = some (.int 3 t_BOUND_PART)
  t_MOST_BOUND : Tok
  c_MOST_BOUND : mg "MOST_BOUND" = some (.int 8 t_MOST_BOUND)
  t_MOST_STEPS : Tok
  c_MOST_STEPS : mg "MOST_STEPS" = some (.int 8 t_MOST_STEPS)
  A_RULE_WORDS_0 : Addr
  k_RULE_WORDS_0 : TupK K A_RULE_WORDS_0 [.str "through", .str "back", .str "around"]
  A_RULE_WORDS_1 : Addr
  k_RULE_WORDS_1 : TupK K A_RULE_WORDS_1 [.str "keep", .str "pass"]
  A_RULE_WORDS_2 : Addr
  k_RULE_WORDS_2 : TupK K A_RULE_WORDS_2 [.str "used", .str "came", .str "rare"]
  A_RULE_WORDS : Addr
  g_RULE_WORDS : mg "RULE_WORDS" = some (.ref A_RULE_WORDS)
  k_RULE_WORDS : TupK K A_RULE_WORDS [.ref A_RULE_WORDS_0, .ref A_RULE_WORDS_1, .ref A_RULE_WORDS_2]
  A_WRITE_STEPS : Addr
  g_WRITE_STEPS : mg "WRITE_STEPS" = some (.ref A_WRITE_STEPS)
  k_WRITE_STEPS : TupK K A_WRITE_STEPS [.str "slow", .str "sync slow", .str "fast", .str "sync fast", .str "free", .str "done"]
  A_CLEAN_STEPS : Addr
  g_CLEAN_STEPS : mg "CLEAN_STEPS" = some (.ref A_CLEAN_STEPS)
  k_CLEAN_STEPS : TupK K A_CLEAN_STEPS [.str "slow", .str "sync slow", .str "mark", .str "sync fast"]
  A_SYNC_STEPS : Addr
  g_SYNC_STEPS : mg "SYNC_STEPS" = some (.ref A_SYNC_STEPS)
  k_SYNC_STEPS : TupK K A_SYNC_STEPS [.str "sync slow", .str "sync fast"]
  file : Str
  third : PySem.W.nsIn K cStatics "thirdparty.any" = some none
  C_InvalidSize : Addr
  gC_InvalidSize : mg "InvalidSize" = some (.ref C_InvalidSize)
  ic_InvalidSize : PySem.W.isClsIn K C_InvalidSize = true
  ty_InvalidSize : PySem.W.typeIn K (.ref C_InvalidSize) = some (.type "type")
  C_InvalidCell : Addr
  gC_InvalidCell : mg "InvalidCell" = some (.ref C_InvalidCell)
  ic_InvalidCell : PySem.W.isClsIn K C_InvalidCell = true
  ty_InvalidCell : PySem.W.typeIn K (.ref C_InvalidCell) = some (.type "type")
  C_InvalidKept : Addr
  gC_InvalidKept : mg "InvalidKept" = some (.ref C_InvalidKept)
  ic_InvalidKept : PySem.W.isClsIn K C_InvalidKept = true
  ty_InvalidKept : PySem.W.typeIn K (.ref C_InvalidKept) = some (.type "type")
  C_InvalidBlock : Addr
  gC_InvalidBlock : mg "InvalidBlock" = some (.ref C_InvalidBlock)
  ic_InvalidBlock : PySem.W.isClsIn K C_InvalidBlock = true
  ty_InvalidBlock : PySem.W.typeIn K (.ref C_InvalidBlock) = some (.type "type")
  C_InvalidValue : Addr
  gC_InvalidValue : mg "InvalidValue" = some (.ref C_InvalidValue)
  ic_InvalidValue : PySem.W.isClsIn K C_InvalidValue = true
  ty_InvalidValue : PySem.W.typeIn K (.ref C_InvalidValue) = some (.type "type")
  C_InvalidCount : Addr
  gC_InvalidCount : mg "InvalidCount" = some (.ref C_InvalidCount)
  ic_InvalidCount : PySem.W.isClsIn K C_InvalidCount = true
  ty_InvalidCount : PySem.W.typeIn K (.ref C_InvalidCount) = some (.type "type")
  C_InvalidSlot : Addr
  gC_InvalidSlot : mg "InvalidSlot" = some (.ref C_InvalidSlot)
  ic_InvalidSlot : PySem.W.isClsIn K C_InvalidSlot = true
  ty_InvalidSlot : PySem.W.typeIn K (.ref C_InvalidSlot) = some (.type "type")
  C_InvalidWord : Addr
  gC_InvalidWord : mg "InvalidWord" = some (.ref C_InvalidWord)
  ic_InvalidWord : PySem.W.isClsIn K C_InvalidWord = true
  ty_InvalidWord : PySem.W.typeIn K (.ref C_InvalidWord) = some (.type "type")
  C_InvalidStory : Addr
  gC_InvalidStory : mg "InvalidStory" = some (.ref C_InvalidStory)
  ic_InvalidStory : PySem.W.isClsIn K C_InvalidStory = true
  ty_InvalidStory : PySem.W.typeIn K (.ref C_InvalidStory) = some (.type "type")
  C_PowerOff : Addr
  gC_PowerOff : mg "PowerOff" = some (.ref C_PowerOff)
  ic_PowerOff : PySem.W.isClsIn K C_PowerOff = true
  ty_PowerOff : PySem.W.typeIn K (.ref C_PowerOff) = some (.type "type")
  C_PowerOn : Addr
  gC_PowerOn : mg "PowerOn" = some (.ref C_PowerOn)
  ic_PowerOn : PySem.W.isClsIn K C_PowerOn = true
  ty_PowerOn : PySem.W.typeIn K (.ref C_PowerOn) = some (.type "type")
  C_NoFastDisk : Addr
  gC_NoFastDisk : mg "NoFastDisk" = some (.ref C_NoFastDisk)
  ic_NoFastDisk : PySem.W.isClsIn K C_NoFastDisk = true
  ty_NoFastDisk : PySem.W.typeIn K (.ref C_NoFastDisk) = some (.type "type")
  C_HasFastDisk : Addr
  gC_HasFastDisk : mg "HasFastDisk" = some (.ref C_HasFastDisk)
  ic_HasFastDisk : PySem.W.isClsIn K C_HasFastDisk = true
  ty_HasFastDisk : PySem.W.typeIn K (.ref C_HasFastDisk) = some (.type "type")
  C_Unsettled : Addr
  gC_Unsettled : mg "Unsettled" = some (.ref C_Unsettled)
  ic_Unsettled : PySem.W.isClsIn K C_Unsettled = true
  ty_Unsettled : PySem.W.typeIn K (.ref C_Unsettled) = some (.type "type")
  C_Contradiction : Addr
  gC_Contradiction : mg "Contradiction" = some (.ref C_Contradiction)
  ic_Contradiction : PySem.W.isClsIn K C_Contradiction = true
  ty_Contradiction : PySem.W.typeIn K (.ref C_Contradiction) = some (.type "type")
  C_InvalidName : Addr
  gC_InvalidName : mg "InvalidName" = some (.ref C_InvalidName)
  ic_InvalidName : PySem.W.isClsIn K C_InvalidName = true
  ty_InvalidName : PySem.W.typeIn K (.ref C_InvalidName) = some (.type "type")
  C_UnknownName : Addr
  gC_UnknownName : mg "UnknownName" = some (.ref C_UnknownName)
  ic_UnknownName : PySem.W.isClsIn K C_UnknownName = true
  ty_UnknownName : PySem.W.typeIn K (.ref C_UnknownName) = some (.type "type")
  C_InvalidRules : Addr
  gC_InvalidRules : mg "InvalidRules" = some (.ref C_InvalidRules)
  ic_InvalidRules : PySem.W.isClsIn K C_InvalidRules = true
  ty_InvalidRules : PySem.W.typeIn K (.ref C_InvalidRules) = some (.type "type")
  C_InvalidRecipes : Addr
  gC_InvalidRecipes : mg "InvalidRecipes" = some (.ref C_InvalidRecipes)
  ic_InvalidRecipes : PySem.W.isClsIn K C_InvalidRecipes = true
  ty_InvalidRecipes : PySem.W.typeIn K (.ref C_InvalidRecipes) = some (.type "type")
  C_InvalidRequests : Addr
  gC_InvalidRequests : mg "InvalidRequests" = some (.ref C_InvalidRequests)
  ic_InvalidRequests : PySem.W.isClsIn K C_InvalidRequests = true
  ty_InvalidRequests : PySem.W.typeIn K (.ref C_InvalidRequests) = some (.type "type")
  C_InvalidPrices : Addr
  gC_InvalidPrices : mg "InvalidPrices" = some (.ref C_InvalidPrices)
  ic_InvalidPrices : PySem.W.isClsIn K C_InvalidPrices = true
  ty_InvalidPrices : PySem.W.typeIn K (.ref C_InvalidPrices) = some (.type "type")
  C_InvalidPlan : Addr
  gC_InvalidPlan : mg "InvalidPlan" = some (.ref C_InvalidPlan)
  ic_InvalidPlan : PySem.W.isClsIn K C_InvalidPlan = true
  ty_InvalidPlan : PySem.W.typeIn K (.ref C_InvalidPlan) = some (.type "type")
  C_PowerFailed : Addr
  gC_PowerFailed : mg "PowerFailed" = some (.ref C_PowerFailed)
  ic_PowerFailed : PySem.W.isClsIn K C_PowerFailed = true
  ty_PowerFailed : PySem.W.typeIn K (.ref C_PowerFailed) = some (.type "type")
  C_InvalidOperation : Addr
  gC_InvalidOperation : mg "InvalidOperation" = some (.ref C_InvalidOperation)
  ic_InvalidOperation : PySem.W.isClsIn K C_InvalidOperation = true
  ty_InvalidOperation : PySem.W.typeIn K (.ref C_InvalidOperation) = some (.type "type")
  C_NotationError : Addr
  gC_NotationError : mg "NotationError" = some (.ref C_NotationError)
  ic_NotationError : PySem.W.isClsIn K C_NotationError = true
  ty_NotationError : PySem.W.typeIn K (.ref C_NotationError) = some (.type "type")
  C_DecodeError : Addr
  gC_DecodeError : mg "DecodeError" = some (.ref C_DecodeError)
  ic_DecodeError : PySem.W.isClsIn K C_DecodeError = true
  ty_DecodeError : PySem.W.typeIn K (.ref C_DecodeError) = some (.type "type")
  C_PairError : Addr
  gC_PairError : mg "PairError" = some (.ref C_PairError)
  ic_PairError : PySem.W.isClsIn K C_PairError = true
  ty_PairError : PySem.W.typeIn K (.ref C_PairError) = some (.type "type")
  pb : PySem.W.subIn K (.ref C_PairError) (.type "BaseException") = some true
  ph : PySem.W.hasDictIn K C_PairError = true
  sb_InvalidRules_InvalidSize : PySem.W.subIn K (.ref C_InvalidRules) (.ref C_InvalidSize) = some false
  sb_InvalidRules_InvalidCell : PySem.W.subIn K (.ref C_InvalidRules) (.ref C_InvalidCell) = some false
  sb_InvalidRules_InvalidKept : PySem.W.subIn K (.ref C_InvalidRules) (.ref C_InvalidKept) = some false
  sb_InvalidRules_InvalidBlock : PySem.W.subIn K (.ref C_InvalidRules) (.ref C_InvalidBlock) = some false
  sb_InvalidRules_InvalidValue : PySem.W.subIn K (.ref C_InvalidRules) (.ref C_InvalidValue) = some false
  sb_InvalidRules_InvalidCount : PySem.W.subIn K (.ref C_InvalidRules) (.ref C_InvalidCount) = some false
  sb_InvalidRules_InvalidSlot : PySem.W.subIn K (.ref C_InvalidRules) (.ref C_InvalidSlot) = some false
  sb_InvalidRules_InvalidWord : PySem.W.subIn K (.ref C_InvalidRules) (.ref C_InvalidWord) = some false
  sb_InvalidRules_InvalidStory : PySem.W.subIn K (.ref C_InvalidRules) (.ref C_InvalidStory) = some false
  sb_InvalidRules_PowerOff : PySem.W.subIn K (.ref C_InvalidRules) (.ref C_PowerOff) = some false
  sb_InvalidRules_PowerOn : PySem.W.subIn K (.ref C_InvalidRules) (.ref C_PowerOn) = some false
  sb_InvalidRules_NoFastDisk : PySem.W.subIn K (.ref C_InvalidRules) (.ref C_NoFastDisk) = some false
  sb_InvalidRules_HasFastDisk : PySem.W.subIn K (.ref C_InvalidRules) (.ref C_HasFastDisk) = some false
  sb_InvalidRules_Unsettled : PySem.W.subIn K (.ref C_InvalidRules) (.ref C_Unsettled) = some false
  sb_InvalidRules_Contradiction : PySem.W.subIn K (.ref C_InvalidRules) (.ref C_Contradiction) = some false
  sb_InvalidRules_InvalidName : PySem.W.subIn K (.ref C_InvalidRules) (.ref C_InvalidName) = some false
  sb_InvalidRules_UnknownName : PySem.W.subIn K (.ref C_InvalidRules) (.ref C_UnknownName) = some false
  sb_InvalidRules_InvalidRules : PySem.W.subIn K (.ref C_InvalidRules) (.ref C_InvalidRules) = some true
  sb_InvalidRules_InvalidRecipes : PySem.W.subIn K (.ref C_InvalidRules) (.ref C_InvalidRecipes) = some false
  sb_InvalidRules_InvalidRequests : PySem.W.subIn K (.ref C_InvalidRules) (.ref C_InvalidRequests) = some false
  sb_InvalidRules_InvalidPrices : PySem.W.subIn K (.ref C_InvalidRules) (.ref C_InvalidPrices) = some false
  sb_InvalidRules_InvalidPlan : PySem.W.subIn K (.ref C_InvalidRules) (.ref C_InvalidPlan) = some false
  sb_InvalidRules_PowerFailed : PySem.W.subIn K (.ref C_InvalidRules) (.ref C_PowerFailed) = some false
  sb_InvalidRules_InvalidOperation : PySem.W.subIn K (.ref C_InvalidRules) (.ref C_InvalidOperation) = some false
  sb_InvalidRules_NotationError : PySem.W.subIn K (.ref C_InvalidRules) (.ref C_NotationError) = some false
  sb_InvalidRules_DecodeError : PySem.W.subIn K (.ref C_InvalidRules) (.ref C_DecodeError) = some false
  sb_InvalidRules_PairError : PySem.W.subIn K (.ref C_InvalidRules) (.ref C_PairError) = some true
  vb_InvalidRules : PySem.W.subIn K (.ref C_InvalidRules) (.type "ValueError") = some true
  E_InvalidRules : ExcC K C_InvalidRules
  kp_InvalidRules : PySem.W.keepIn K (.ref C_InvalidRules) = true
  f_InvalidRules___init__ : Addr
  fd_InvalidRules___init__ : FuncData
  cc_InvalidRules___init__ : Addr
  S_InvalidRules___init__ : FunS K file "__init__" "InvalidRules.__init__" s_InvalidRules___init__ C_InvalidRules cc_InvalidRules___init__ f_InvalidRules___init__ fd_InvalidRules___init__
  O_InvalidRules : OexC K C_InvalidRules
  iC_InvalidRules : PySem.W.findIn K (.ref C_InvalidRules) "__init__" = some (some (.ref f_InvalidRules___init__))
  tI_InvalidRules : PySem.W.typeIn K (.ref f_InvalidRules___init__) = some (.type "function")
  mr_InvalidRules : PySem.W.mroIn K C_InvalidRules (.ref C_InvalidRules) = some true
  su_InvalidRules : PySem.W.ks_superIn K C_InvalidRules C_InvalidRules "__init__" = some (some (.builtin "ValueError.__init__"))
  no_InvalidRules_part : PySem.W.findIn K (.ref C_InvalidRules) "part" = some none
  sb_InvalidRecipes_InvalidSize : PySem.W.subIn K (.ref C_InvalidRecipes) (.ref C_InvalidSize) = some false
  sb_InvalidRecipes_InvalidCell : PySem.W.subIn K (.ref C_InvalidRecipes) (.ref C_InvalidCell) = some false
  sb_InvalidRecipes_InvalidKept : PySem.W.subIn K (.ref C_InvalidRecipes) (.ref C_InvalidKept) = some false
  sb_InvalidRecipes_InvalidBlock : PySem.W.subIn K (.ref C_InvalidRecipes) (.ref C_InvalidBlock) = some false
  sb_InvalidRecipes_InvalidValue : PySem.W.subIn K (.ref C_InvalidRecipes) (.ref C_InvalidValue) = some false
  sb_InvalidRecipes_InvalidCount : PySem.W.subIn K (.ref C_InvalidRecipes) (.ref C_InvalidCount) = some false
  sb_InvalidRecipes_InvalidSlot : PySem.W.subIn K (.ref C_InvalidRecipes) (.ref C_InvalidSlot) = some false
  sb_InvalidRecipes_InvalidWord : PySem.W.subIn K (.ref C_InvalidRecipes) (.ref C_InvalidWord) = some false
  sb_InvalidRecipes_InvalidStory : PySem.W.subIn K (.ref C_InvalidRecipes) (.ref C_InvalidStory) = some false
  sb_InvalidRecipes_PowerOff : PySem.W.subIn K (.ref C_InvalidRecipes) (.ref C_PowerOff) = some false
  sb_InvalidRecipes_PowerOn : PySem.W.subIn K (.ref C_InvalidRecipes) (.ref C_PowerOn) = some false
  sb_InvalidRecipes_NoFastDisk : PySem.W.subIn K (.ref C_InvalidRecipes) (.ref C_NoFastDisk) = some false
  sb_InvalidRecipes_HasFastDisk : PySem.W.subIn K (.ref C_InvalidRecipes) (.ref C_HasFastDisk) = some false
  sb_InvalidRecipes_Unsettled : PySem.W.subIn K (.ref C_InvalidRecipes) (.ref C_Unsettled) = some false
  sb_InvalidRecipes_Contradiction : PySem.W.subIn K (.ref C_InvalidRecipes) (.ref C_Contradiction) = some false
  sb_InvalidRecipes_InvalidName : PySem.W.subIn K (.ref C_InvalidRecipes) (.ref C_InvalidName) = some false
  sb_InvalidRecipes_UnknownName : PySem.W.subIn K (.ref C_InvalidRecipes) (.ref C_UnknownName) = some false
  sb_InvalidRecipes_InvalidRules : PySem.W.subIn K (.ref C_InvalidRecipes) (.ref C_InvalidRules) = some false
  sb_InvalidRecipes_InvalidRecipes : PySem.W.subIn K (.ref C_InvalidRecipes) (.ref C_InvalidRecipes) = some true
  sb_InvalidRecipes_InvalidRequests : PySem.W.subIn K (.ref C_InvalidRecipes) (.ref C_InvalidRequests) = some false
  sb_InvalidRecipes_InvalidPrices : PySem.W.subIn K (.ref C_InvalidRecipes) (.ref C_InvalidPrices) = some false
  sb_InvalidRecipes_InvalidPlan : PySem.W.subIn K (.ref C_InvalidRecipes) (.ref C_InvalidPlan) = some false
  sb_InvalidRecipes_PowerFailed : PySem.W.subIn K (.ref C_InvalidRecipes) (.ref C_PowerFailed) = some false
  sb_InvalidRecipes_InvalidOperation : PySem.W.subIn K (.ref C_InvalidRecipes) (.ref C_InvalidOperation) = some false
  sb_InvalidRecipes_NotationError : PySem.W.subIn K (.ref C_InvalidRecipes) (.ref C_NotationError) = some false
  sb_InvalidRecipes_DecodeError : PySem.W.subIn K (.ref C_InvalidRecipes) (.ref C_DecodeError) = some false
  sb_InvalidRecipes_PairError : PySem.W.subIn K (.ref C_InvalidRecipes) (.ref C_PairError) = some true
  vb_InvalidRecipes : PySem.W.subIn K (.ref C_InvalidRecipes) (.type "ValueError") = some true
  E_InvalidRecipes : ExcC K C_InvalidRecipes
  kp_InvalidRecipes : PySem.W.keepIn K (.ref C_InvalidRecipes) = true
  f_InvalidRecipes___init__ : Addr
  fd_InvalidRecipes___init__ : FuncData
  cc_InvalidRecipes___init__ : Addr
  S_InvalidRecipes___init__ : FunS K file "__init__" "InvalidRecipes.__init__" s_InvalidRecipes___init__ C_InvalidRecipes cc_InvalidRecipes___init__ f_InvalidRecipes___init__ fd_InvalidRecipes___init__
  O_InvalidRecipes : OexC K C_InvalidRecipes
  iC_InvalidRecipes : PySem.W.findIn K (.ref C_InvalidRecipes) "__init__" = some (some (.ref f_InvalidRecipes___init__))
  tI_InvalidRecipes : PySem.W.typeIn K (.ref f_InvalidRecipes___init__) = some (.type "function")
  mr_InvalidRecipes : PySem.W.mroIn K C_InvalidRecipes (.ref C_InvalidRecipes) = some true
  su_InvalidRecipes : PySem.W.ks_superIn K C_InvalidRecipes C_InvalidRecipes "__init__" = some (some (.builtin "ValueError.__init__"))
  no_InvalidRecipes_part : PySem.W.findIn K (.ref C_InvalidRecipes) "part" = some none
  no_InvalidRecipes_place : PySem.W.findIn K (.ref C_InvalidRecipes) "place" = some none
section
variable {K : PySem.W.Frag} {mg : Str → Option Value}
theorem b_is_number (T : Gx K mg) : Binds K T.fd_is_number ["thing"] [] := T.F_is_number.binds (ps := ["thing"]) fun _ _ _ _ _ _ us hl => match us, hl with | [_], _ => rfl
theorem b_is_number_from (T : Gx K mg) : Binds K T.fd_is_number_from ["thing", "least", "most"] [] := T.F_is_number_from.binds (ps := ["thing", "least", "most"]) fun _ _ _ _ _ _ us hl => match us, hl with | [_, _, _], _ => rfl
theorem b_Rules___init__ (T : Gx K mg) : Binds K T.fd_Rules___init__ ["self", "writing", "reading", "choice", "bound"] [] := T.F_Rules___init__.binds (ps := ["self", "writing", "reading", "choice", "bound"]) fun _ _ _ _ _ _ us hl => match us, hl with | [_, _, _, _, _], _ => rfl
theorem b_Recipes___init__ (T : Gx K mg) : Binds K T.fd_Recipes___init__ ["self", "through", "back", "around", "clean"] [] := T.F_Recipes___init__.binds (ps := ["self", "through", "back", "around", "clean"]) fun _ _ _ _ _ _ us hl => match us, hl with | [_, _, _, _, _], _ => rfl
theorem b_Recipes_through (T : Gx K mg) : Binds K T.fd_Recipes_through ["self"] [] := T.F_Recipes_through.binds (ps := ["self"]) fun _ _ _ _ _ _ us hl => match us, hl with | [_], _ => rfl
theorem b_Recipes_back (T : Gx K mg) : Binds K T.fd_Recipes_back ["self"] [] := T.F_Recipes_back.binds (ps := ["self"]) fun _ _ _ _ _ _ us hl => match us, hl with | [_], _ => rfl
theorem b_Recipes_around (T : Gx K mg) : Binds K T.fd_Recipes_around ["self"] [] := T.F_Recipes_around.binds (ps := ["self"]) fun _ _ _ _ _ _ us hl => match us, hl with | [_], _ => rfl
theorem b_Recipes_clean (T : Gx K mg) : Binds K T.fd_Recipes_clean ["self"] [] := T.F_Recipes_clean.binds (ps := ["self"]) fun _ _ _ _ _ _ us hl => match us, hl with | [_], _ => rfl
theorem b_Recipes_safe (T : Gx K mg) : Binds K T.fd_Recipes_safe ["cls"] [] := T.F_Recipes_safe.binds (ps := ["cls"]) fun _ _ _ _ _ _ us hl => match us, hl with | [_], _ => rfl
theorem b__invalid_place (T : Gx K mg) : Binds K T.fd__invalid_place ["recipe", "allowed"] [] := T.F__invalid_place.binds (ps := ["recipe", "allowed"]) fun _ _ _ _ _ _ us hl => match us, hl with | [_, _], _ => rfl
theorem b__law_random (T : Gx K mg) : Binds K T.fd__law_random ["_law_script", "_law_salt"] [] := T.F__law_random.binds (ps := ["_law_script", "_law_salt"]) fun _ _ _ _ _ _ us hl => match us, hl with | [_, _], _ => rfl
theorem b__law_below (T : Gx K mg) : Binds K T.fd__law_below ["_law_d", "_law_limit"] [] := T.F__law_below.binds (ps := ["_law_d", "_law_limit"]) fun _ _ _ _ _ _ us hl => match us, hl with | [_, _], _ => rfl
theorem b__law_rules (T : Gx K mg) : Binds K T.fd__law_rules ["_law_d", "_law_limit"] [] := T.F__law_rules.binds (ps := ["_law_d", "_law_limit"]) fun _ _ _ _ _ _ us hl => match us, hl with | [_, _], _ => rfl
theorem b__law_told_of (T : Gx K mg) : Binds K T.fd__law_told_of ["_law_e", "_law_name"] [] := T.F__law_told_of.binds (ps := ["_law_e", "_law_name"]) fun _ _ _ _ _ _ us hl => match us, hl with | [_, _], _ => rfl
theorem b__law_error_of (T : Gx K mg) : Binds K T.fd__law_error_of ["_law_call"] [] := T.F__law_error_of.binds (ps := ["_law_call"]) fun _ _ _ _ _ _ us hl => match us, hl with | [_], _ => rfl
end
/-! ### the law's random list -/
def Rnd (H : Hp) (r : Addr) : Prop := ∃ (a b : Int) (ns : List Int), H r = some (.lst (V.int a :: V.int b :: ns.map V.int))
def spBelow : Sp := fun vs H Q _ => ∃ (r : Addr) (lim : Nat), vs = [.ref r, .int (lim : Int)] ∧ Rnd H r ∧ 0 < lim ∧ lim < 1000000 ∧ ∀ (z : Nat) (H' : Hp), z < lim → Fr [r] H H' → Rnd H' r → Q (.int (z : Int)) H'
theorem Rnd.put {H : Hp} {r : Addr} (a b : Int) (ns : List Int) : Rnd (upd H r (.lst (V.int a :: V.int b :: ns.map V.int))) r := ⟨a, b, ns, upd_same⟩
theorem Rnd.notup {H : Hp} {r : Addr} (h : Rnd H r) : ∀ b ∈ [r], ∀ xs, H b ≠ some (.tup xs) := by
  obtain ⟨a, b, ns, e⟩ := h
  intro b hb xs
  rw [List.mem_singleton.mp hb, e]
  simp
theorem Rnd.keep {H H' : Hp} {r : Addr} {S : List Addr} (h : Rnd H r) (f : Fr S H H') (n : r ∉ S) : Rnd H' r := by
  obtain ⟨a, b, ns, e⟩ := h
  exact ⟨a, b, ns, f _ _ e n⟩
section
variable {P : Program} {w : World} {K : PySem.W.Frag} {mg : Str → Option Value} {base : Heap}
theorem ok_below (T : Gx K mg) : FnOk P w K mg base CX0 1 T.f__law_below T.fd__law_below ["_law_d", "_law_limit"] spBelow := by
  refine T.F__law_below.ok sc__law_below (fun vs H Q E h => ?_) (fun cdv A outer s H vs Q E hr h => ?_)
  · obtain ⟨r, lim, rfl, _⟩ := h
    rfl
  · obtain ⟨r, lin, rfl, hR, h0', h1', k'⟩ := h
    obtain ⟨lim, hlim⟩ : ∃ lim : Int, lim = (lin : Int) := ⟨_, rfl⟩
    have h0 : 0 < lim := by omega
    have h1 : lim < 1000000 := by omega
    have k : ∀ (z : Int) (H' : Hp), 0 ≤ z → z < lim → Fr [r] H H' → Rnd H' r → Q (.int z) H' := fun z H' a b f g => by
      obtain ⟨n, rfl⟩ := Int.eq_ofNat_of_zero_le a
      exact k' n H' (by omega) f g
    rw [← hlim]
    refine ⟨_, C8.pss_cut (ps_if (PW.pt (pw_and (pt_cmpR op_eq (pe_ix ix_list (pv 0) pe_int (fun _ _ => rfl)) pe_int (nomark _))
          (pw_and1 (pt_cmpR op_gt (pe_callB call_len_seq (by rfl) T.z_len PySem.boot_len (pa_cons (pv 0) pa_nil)) pe_int (nomark _)))))
        (pss_one (ps_asg (pe_bm PySem.F.plainAttrs_list PySem.F.slot_list_pop PySem.F.type_list_pop mt_popAt (pv 0) (pa_cons pe_int pa_nil)) (pg_sub (pv 0) pe_int set_list))) pss_nil)
      (pss_cons (ps_if (pt_cmpR op_gt (pe_ix ix_list (pv 0) pe_int (fun _ _ => rfl)) pe_int (nomark _))
        (pss_cons (ps_set (i := 2) sc__law_below.nd rfl (.inl rfl) (pe_op op_mod (pe_callTy call_int1 (by rfl) T.z_int (by decide +kernel) (pa_cons (pe_ix ix_list (pv 0) pe_int (fun _ _ => rfl)) pa_nil)) (pv 1)))
        (pss_cons (ps_asg (pe_op op_fdiv (pe_ix ix_list (pv 0) pe_int (fun _ _ => rfl)) (pv 1)) (pg_sub (pv 0) pe_int set_list))
        (pss_one (ps_ret (pv 2))))) pss_nil)
      (pss_cons (ps_asg (pe_op op_mod (pe_callTy call_int1 (by rfl) T.z_int (by decide +kernel) (pa_cons (pe_op op_add (pe_op op_mul (pe_ix ix_list (pv 0) pe_int (fun _ _ => rfl)) pe_int) pe_int) pa_nil)) pe_int) (pg_sub (pv 0) pe_int set_list))
      (pss_one (ps_ret (pe_op op_mod (pe_callTy call_int1 (by rfl) T.z_int (by decide +kernel) (pa_cons (pe_op op_fdiv (pe_ix ix_list (pv 0) pe_int (fun _ _ => rfl)) pe_int) pa_nil)) (pv 1)))))), ?_⟩
    refine ⟨fun σ H1 => σ = [some (.ref r), some (.int lim), none] ∧ Rnd H1 r ∧ Fr [r] H H1, ?_, ?_⟩
    · obtain ⟨a, b, ns, e⟩ := hR
      have hR0 : Rnd H r := ⟨a, b, ns, e⟩
      refine ⟨_, rfl, r, _, 1, .int b, rfl, rfl, SqL.of e, atI_nat (j := 1) rfl, rfl, _, rfl, ite2 (fun hb => ?_) (fun hb => ?_)⟩
      · refine ⟨_, rfl, r, _, rfl, .inl (SqL.of e), _, _, rfl, rfl, _, rfl, ite2 (fun hl => ?_) (fun hl => ?_)⟩
        · have hl' : (2 : Int) < ((V.int a :: V.int b :: ns.map V.int).length : Int) := of_decide_eq_true hl
          cases ns with
          | nil => exact absurd hl' (by simp)
          | cons c rest =>
            refine ⟨_, rfl, .inl ⟨rfl, _, SqL.of e⟩, r, _, 2, 2, .int c, rfl, rfl, e, by decide, by decide, ?_, rfl, ?_⟩
            · show seqIndex? 2 _ = some 2
              unfold seqIndex?
              rw [List.length_cons, List.length_cons, List.map_cons, List.length_cons]
              simp
              omega
            · refine ⟨_, rfl, r, _, 1, 1, rfl, rfl, upd_same, ?_, rfl, ?_, ?_⟩
              · exact ix_at 1 (by simp [List.length_eraseIdx])
              · rw [upd_upd]
                exact Rnd.put a c rest
              · rw [upd_upd]
                exact Fr.put (List.mem_singleton.mpr rfl)
        · exact ⟨rfl, hR0, Fr.refl _ _⟩
      · exact ⟨rfl, hR0, Fr.refl _ _⟩
    · rintro σ' H1 ⟨rfl, ⟨a, b, ns, e⟩, fr⟩
      refine ⟨_, rfl, r, _, 1, .int b, rfl, rfl, SqL.of e, atI_nat (j := 1) rfl, _, _, rfl, rfl, _, rfl, ite2 (fun hb => ?_) (fun hb => ?_)⟩
      · refine ⟨_, rfl, r, _, 1, .int b, rfl, rfl, SqL.of e, atI_nat (j := 1) rfl, .inl ⟨_, rfl, ?_⟩⟩
        refine ⟨_, rfl, _, _, rfl, rfl, h0, ?_⟩
        refine ⟨_, rfl, r, _, 1, .int b, rfl, rfl, SqL.of e, atI_nat (j := 1) rfl, _, rfl, _, _, rfl, rfl, ⟨h0, by omega⟩, ?_⟩
        refine ⟨_, rfl, r, _, 1, 1, rfl, rfl, e, ix_at 1 (by simp), ?_⟩
        refine ⟨_, rfl, k _ _ (Int.emod_nonneg _ (by omega)) (Int.emod_lt_of_pos _ h0) (fr.trans (Fr.put (List.mem_singleton.mpr rfl))) (Rnd.put a _ ns)⟩
      · refine ⟨_, rfl, r, _, 0, .int a, rfl, rfl, SqL.of e, atI_nat (j := 0) rfl, _, _, rfl, rfl, .inr (by decide), _, _, rfl, rfl, .inl ⟨_, rfl, _, _, rfl, rfl, (by show (0 : Int) < 2147483647; decide), ?_⟩⟩
        refine ⟨_, rfl, r, _, 0, 0, rfl, rfl, e, ix_at 0 (by simp), ?_⟩
        refine ⟨_, rfl, r, _, 0, _, rfl, rfl, SqL.of upd_same, atI_nat (j := 0) rfl, _, _, rfl, rfl, ⟨by decide, by decide⟩, .inl ⟨_, rfl, _, rfl, _, _, rfl, rfl, h0, ?_⟩⟩
        exact k _ _ (Int.emod_nonneg _ (by omega)) (Int.emod_lt_of_pos _ h0) (fr.trans (Fr.put (List.mem_singleton.mpr rfl))) (Rnd.put _ b ns)
end
def spRandom (K : PySem.W.Frag) : Sp := fun vs H Q _ => ∃ (a : Addr) (salt : Int) (ns : List Int), vs = [.ref a, .int salt] ∧ SqL K H a (ns.map V.int) ∧ ns.length ≤ 63 ∧ ∀ (r : Addr) (H' : Hp), H r = none → Fr [] H H' → Rnd H' r → Q (.ref r) H'
section
variable {P : Program} {w : World} {K : PySem.W.Frag} {mg : Str → Option Value} {base : Heap}
theorem ok_random (T : Gx K mg) : FnOk P w K mg base CX0 1 T.f__law_random T.fd__law_random ["_law_script", "_law_salt"] (spRandom K) := by
  refine T.F__law_random.ok sc__law_random (fun vs H Q E h => ?_) (fun cdv A outer s H vs Q E hr h => ?_)
  · obtain ⟨a, salt, ns, rfl, _⟩ := h
    rfl
  · obtain ⟨a, salt, ns, rfl, hS, hlen, k⟩ := h
    refine ⟨_, pss_cons (ps_set (i := 2) sc__law_random.nd rfl (.inl rfl) (pv 1))
      (pss_cons (ps_for PassesOwn.never rfl (pi_list (pv 0)) (pg_name (i := 3) sc__law_random.nd rfl (.inl rfl))
        (pss_one (ps_set (i := 2) sc__law_random.nd rfl (.inl rfl) (pe_op op_mod (pe_callTy call_int1 (by rfl) T.z_int (by decide +kernel) (pa_cons (pe_op op_add (pe_op op_mul (pv 2) pe_int) (pe_callB call_abs (by rfl) T.z_abs (by decide +kernel) (pa_cons (pv 3) pa_nil))) pa_nil)) pe_int))))
      (pss_one (ps_ret (pe_op op_cat (pe_lst (pa_cons (pv 2) (pa_cons pe_int pa_nil))) (pe_lc (own := [("_law_cell", 3)]) (g := gName 3) rfl sc__law_random.nd (pi_list (pv 0)) (blkOk_by (N := ["_law_script", "_law_salt", "_law_seed", "_law_cell"]) (sc := defScope s__law_random) (by decide +kernel)) (fun _ _ _ _ _ => pg_name (i := 3) sc__law_random.nd rfl (.inl rfl)) (fun _ _ _ _ _ => pts_one (pt_cmpR op_ge (pv 3) (pe_op op_pow pe_int pe_int) (nomark _))) (fun _ _ _ _ _ => pv 3)))))), ?_⟩
    refine ⟨_, rfl, _, rfl, a, rfl, ⟨_, hS⟩, for_list (K := K) (a := a) (xs := ns.map V.int) (fun i σ H' => H' = H ∧ ∃ (z : Int) (v : Option V), σ = [some (.ref a), some (.int salt), some (.int z), v]) ⟨rfl, salt, none, rfl⟩ (fun i σ H' _ e => by rw [e.1]; exact hS) ?_ ?_⟩
    · rintro i x σ H' hi ⟨rfl, z, v, rfl⟩
      obtain ⟨u, rfl, _⟩ := int_at hi
      exact ⟨_, rfl, _, _, rfl, rfl, .inr (by decide), _, rfl, _, rfl, _, _, rfl, rfl, .inl ⟨_, rfl, _, _, rfl, rfl, (by show (0 : Int) < 2147483647; decide), rfl, _, _, rfl⟩⟩
    · rintro σ H' ⟨rfl, z, v, rfl⟩
      refine ⟨_, rfl, sz_le (by simp), fun l hl => ?_⟩
      have sl : Fr [] H' (upd H' l (.lst [V.int z, V.int 0])) := Fr.new hl
      have hS1 : SqL K (upd H' l (.lst [V.int z, V.int 0])) a (ns.map V.int) := sl.seq (by simp) hS
      refine ⟨_, rfl, a, rfl, ⟨_, hS1⟩, fun D hD => ?_⟩
      have hDl := free_upd hD
      refine lc_list (K := K) (a := a) (xs := ns.map V.int) (fun i H2 => ∃ ms : List Int, ms.length ≤ i ∧ H2 = upd (upd H' l (.lst [V.int z, V.int 0])) D (.lst (ms.map V.int))) ⟨[], Nat.le_refl _, rfl⟩ ?_ ?_ ?_
      · rintro i H2 _ ⟨ms, _, rfl⟩
        exact (Fr.new (S := []) hD).seq (by simp) hS1
      · rintro i x H2 hi ⟨ms, hm, rfl⟩
        obtain ⟨u, rfl, _⟩ := int_at hi
        have li := lt_of_at hi
        rw [List.length_map] at li
        refine ⟨rfl, _, rfl, _, _, rfl, rfl, ⟨by decide, by decide, by decide⟩, _, _, rfl, rfl, _, rfl, ite2 (fun _ => ?_) (fun _ => ?_)⟩
        · refine ⟨_, rfl, _, upd_same, ?_, ms ++ [u], ?_, ?_⟩
          · rw [List.length_map]
            exact sz_lt (by omega)
          · rw [List.length_append, List.length_singleton]
            omega
          · rw [upd_upd, List.map_append]
            rfl
        · exact ⟨ms, by omega, rfl⟩
      · rintro H2 ⟨ms, hm, rfl⟩
        rw [List.length_map] at hm
        refine ⟨l, D, [V.int z, V.int 0], _, rfl, rfl, ?_, upd_same, ?_, fun p hp => ?_⟩
        · rw [upd_ne hDl.2.symm]
          exact upd_same
        · rw [List.length_map]
          exact sz_le (by simp; omega)
        · obtain ⟨hp1, _⟩ := free_upd hp
          obtain ⟨hp2, _⟩ := free_upd hp1
          exact k p _ hp2 ((sl.trans (Fr.new hD)).trans (Fr.new hp)) ⟨z, 0, ms, upd_same⟩
end
/-! ### what counts as a number -/
def spNum (K : PySem.W.Frag) : Sp := fun vs H Q _ => ∃ (v : V) (t : Value) (b1 b2 : Bool), vs = [v] ∧ TyX K H v t ∧ PySem.W.kitOne K t (.type "int") = some b1 ∧ PySem.W.kitOne K t (.type "bool") = some b2 ∧ Q (.bl (b1 && !b2)) H
def spNumFrom (K : PySem.W.Frag) : Sp := fun vs H Q _ => ∃ (v : V) (lo hi : Int), vs = [v, .int lo, .int hi] ∧
  ((∃ i : Int, v = .int i ∧ Q (.bl (decide (lo ≤ i) && decide (i ≤ hi))) H) ∨ ∃ (t : Value) (b1 b2 : Bool), TyX K H v t ∧ PySem.W.kitOne K t (.type "int") = some b1 ∧ PySem.W.kitOne K t (.type "bool") = some b2 ∧ (b1 && !b2) = false ∧ Q (.bl false) H)
section
variable {P : Program} {w : World} {K : PySem.W.Frag} {mg : Str → Option Value} {base : Heap}
theorem ok_num (T : Gx K mg) : FnOk P w K mg base CX0 1 T.f_is_number T.fd_is_number ["thing"] (spNum K) := by
  refine T.F_is_number.ok sc_is_number (fun vs H Q E h => ?_) (fun cdv A outer s H vs Q E hr h => ?_)
  · obtain ⟨v, t, b1, b2, rfl, _⟩ := h
    rfl
  · obtain ⟨v, t, b1, b2, rfl, ty, e1, e2, k⟩ := h
    refine ⟨_, pss_one (ps_ret (pe_and (pe_callB call_isi (by rfl) T.z_isinstance (by decide +kernel) (pa_cons (pv 0) (pa_cons (pe_bltn (v := .ty "int") (by rfl) T.z_int (by decide +kernel) rfl) pa_nil)))
      (pe_one (pe_not (pe_callB call_isi (by rfl) T.z_isinstance (by decide +kernel) (pa_cons (pv 0) (pa_cons (pe_bltn (v := .ty "bool") (by rfl) T.z_bool (by decide +kernel) rfl) pa_nil))))))), ?_⟩
    refine ⟨v, rfl, v, .ty "int", t, _, b1, rfl, ClsV.ty "int", ty, e1, b1, rfl, ?_⟩
    cases b1 with
    | false => exact iteF k
    | true => exact iteT ⟨v, rfl, v, .ty "bool", t, _, b2, rfl, ClsV.ty "bool", ty, e2, b2, rfl, k⟩
theorem ok_numFrom (T : Gx K mg) : FnOk P w K mg base CX0 2 T.f_is_number_from T.fd_is_number_from ["thing", "least", "most"] (spNumFrom K) := by
  have G1 : FnOk P w K mg base CX0 1 T.f_is_number T.fd_is_number ["thing"] (spNum K) := ok_num T
  refine T.F_is_number_from.ok sc_is_number_from (fun vs H Q E h => ?_) (fun cdv A outer s H vs Q E hr h => ?_)
  · obtain ⟨v, lo, hi, rfl, _⟩ := h
    rfl
  · obtain ⟨v, lo, hi, rfl, h⟩ := h
    refine ⟨_, pss_one (ps_ret (pe_and (pe_call G1 hr (by rfl) T.g_is_number T.F_is_number.kp (b_is_number T) .nil pass0 (pa_cons (pv 0) pa_nil)) (pe_one (pe_chain op_le op_le (pv 1) (pv 0) (pv 2))))), ?_⟩
    rcases h with ⟨i, rfl, k⟩ | ⟨t, b1, b2, ty, e1, e2, e3, k⟩
    · refine ⟨_, rfl, .int i, .type "int", true, false, rfl, .base (.int i), kit_ty (by decide +kernel), kit_ty (by decide +kernel), true, rfl, iteT ?_⟩
      refine ⟨_, rfl, _, rfl, _, _, rfl, rfl, _, rfl, ?_⟩
      by_cases hl : lo ≤ i
      · rw [decide_eq_true hl] at k ⊢
        exact iteT ⟨_, rfl, _, _, rfl, rfl, k⟩
      · rw [decide_eq_false hl] at k ⊢
        exact iteF k
    · refine ⟨_, rfl, v, t, b1, b2, rfl, ty, e1, e2, _, rfl, ?_⟩
      rw [e3]
      exact iteF k
end
/-! ### enumerate over a tuple -/
section
open PyProof.Rows
variable {prog : Program} {w : World}
theorem et_next {A : Around} {E : Value → Shared → Prop} {s : Shared} {c t : Addr} {i : Nat} {us : Array Value} {u : Value} {Q : Value → Shared → Prop} (hc : IsTupIter s.heap c t i) (ht : IsTup s.heap t us) (hu : us[i]? = some u)
    (q : ∀ g, IsTupIter g c t (i + 1) → Heap.SameBut c s.heap g → Q u { s with heap := g }) : wpAny (model prog w) A (Builtin.SmallTypes.nextOf (.ref c)) Q E s := by
  unfold Builtin.SmallTypes.nextOf
  exact wpAny_bind (special_tup_item hc ht hu fun g a b => wpAny_pure (q g a b))
theorem et_draws {A : Around} (hh : A.handled = none) (c t : Addr) (hne : t ≠ c) (us : Array Value) : Draws prog w A c [c, t] us.size (fun i v => us[i]? = some v) (fun i h => IsTupIter h c t i ∧ IsTup h t us) where
  live := fun _ _ z => z.1.elim fun o q => ⟨o, q.1⟩
  frame := fun _ _ _ z hk => by
    obtain ⟨⟨o, q1, q2⟩, o', r1, r2⟩ := z
    exact ⟨⟨o, hk c (by simp) o q1, q2⟩, o', hk t (by simp) o' r1, r2⟩
  item := fun i s Q E hi z q => by
    refine et_next z.1 z.2 (u := us[i]) (by simp [hi]) fun g a b => ?_
    obtain ⟨o', r1, r2⟩ := z.2
    exact q _ g s.toks (by simp [hi]) ⟨a, o', (b.2 t hne).trans r1, r2⟩ b
  done := fun s Q E z q => by
    unfold Builtin.SmallTypes.nextOf
    refine wpAny_bind (special_tup_end hh z.1 z.2 (by simp) fun e g x b => ?_)
    obtain ⟨a, o, vs, rfl, h1, h2, _⟩ := x
    exact q g a b ⟨o, h1, h2⟩
theorem et_new (t : Addr) (us : Array Value) (n : Nat) (dct : Option Addr) (sl : Array (Option Value)) :
    Meets (Builtin.«enumerate.__new__» ⟨[.type "enumerate", .ref t], []⟩) (fun _ R s => s.heap.get? t = some { cls := .type "tuple", dict := dct, data := .seq us n, slots := sl } ∧
      R (.ok (.ret (.ref (s.heap.push { cls := .type "tuple_iterator", data := .fields #[.ref t, .int 0 0] }).objs.size)))
        { s with heap := (s.heap.push { cls := .type "tuple_iterator", data := .fields #[.ref t, .int 0 0] }).push { cls := .type "enumerate", data := .fields #[.none, .bool false, .ref s.heap.objs.size, rawInt 0, .none, .none] } }) :=
  .of_wp fun prog w A R s h => by
    obtain ⟨hp, gs, dr, tk, os⟩ := s
    obtain ⟨hl, h⟩ := h
    have sub := sub_enumerate
    have tup : Heap.IsTuple (Shared.heap ⟨hp, gs, dr, tk, os⟩) t us := ⟨_, hl, rfl, n, rfl⟩
    wp_walk using AutoSeq1.wpAny_loadPart' hl
    refine wpAny_stack_any fun st => wpAny_pure ?_
    split
    · rename_i k _ _ _ _ _
      cases (k == Value.type "enumerate") <;> (wp_walk using AutoSeq1.wpAny_loadPart' hl, wpAny_pyIter_tuple tup; exact ⟨_, rfl, h⟩)
    · wp_walk using AutoSeq1.wpAny_loadPart' hl, wpAny_pyIter_tuple tup
      exact ⟨_, rfl, h⟩
theorem et_call {A : Around} {E : Value → Shared → Prop} {s : Shared} {t : Addr} {us : Array Value} {Q : Value → Shared → Prop} (ht : IsTup s.heap t us)
    (q : ∀ g, IsEnum g (s.heap.objs.size + 1) s.heap.objs.size 0 .none → IsTupIter g s.heap.objs.size t 0 → (∀ b o, s.heap.get? b = some o → g.get? b = some o) → Q (.ref (s.heap.objs.size + 1)) { s with heap := g }) :
    wpAny (model prog w) A (call (.type "enumerate") [.ref t]) Q E s := by
  obtain ⟨⟨cl, dct, dt, sl⟩, hl, ec, n, ed⟩ := ht
  have ec' : cl = .type "tuple" := ec
  have ed' : dt = .seq us n := ed
  subst ec' ed'
  refine callType_new F.called_enumerate (by decide) (F.typeCall_enumerate_1 _) (F.newCall_enumerate_1 _) (fun o => F.args_object_init_2 o _) F.entry_enumerate_new (et_new t us n dct sl) ⟨hl, ?_⟩
  have z1 : (s.heap.push { cls := .type "tuple_iterator", data := .fields #[.ref t, .int 0 0] }).objs.size = s.heap.objs.size + 1 := Heap.size_push ..
  show _ ∧ _
  rw [z1]
  have e1 : IsEnum ((s.heap.push { cls := .type "tuple_iterator", data := .fields #[.ref t, .int 0 0] }).push { cls := .type "enumerate", data := .fields #[.none, .bool false, .ref s.heap.objs.size, rawInt 0, .none, .none] }) (s.heap.objs.size + 1) s.heap.objs.size 0 .none := by
    have z2 := Heap.get?_push_size (s.heap.push { cls := .type "tuple_iterator", data := .fields #[.ref t, .int 0 0] }) (o := { cls := .type "enumerate", data := .fields #[.none, .bool false, .ref s.heap.objs.size, rawInt 0, .none, .none] }) rfl
    rw [z1] at z2
    exact z2
  exact ⟨⟨_, e1, rfl⟩, q _ e1 ⟨_, Heap.get?_push_of_some _ (Heap.get?_push_size _ rfl), rfl, rfl⟩ fun b o x => Heap.get?_push_of_some _ (Heap.get?_push_of_some _ x)⟩
end
/-- the tuple at a as it stands at each turn, each item in a new pair -/
def Iet (K : PySem.W.Frag) (a : Addr) : It :=
  ⟨fun i H => ∃ (xs : List V) (x : V), SqT K H a xs ∧ xs[i]? = some x, fun i H v G => ∃ T x, v = .ref T ∧ H T = none ∧ G = upd H T (.tup [.int (i : Nat), x]) ∧ ∀ xs, SqT K H a xs → xs[i]? = some x, fun i H => ∃ xs : List V, SqT K H a xs ∧ xs.length ≤ i⟩
section
open PyProof.Rows
theorem turn_et {P : Program} {w : World} {K : PySem.W.Frag} {elts : List Expr} {kk : Nat} {tpos : Pos} (a e c : Addr) :
    Turn P w K (.Tuple elts kk tpos) (Iet K a) [e, c] e (fun i h => (∃ old, IsEnum h e c ((i : Nat) : Int) old) ∧ IsTupIter h c a i ∧ e ≠ c ∧ a ≠ c ∧ a ≠ e) where
  mem := by simp
  obj := fun i h z b hb => by
    obtain ⟨⟨old, he⟩, ⟨o, ho, _, hd⟩, _⟩ := z
    rcases (by simpa using hb : b = e ∨ b = c) with q | q
    · rw [q]; exact ⟨_, he, fun v r => nomatch r⟩
    · rw [q]; exact ⟨o, ho, fun v r => by rw [hd] at r; cases r⟩
  keep := fun i h g z k => by
    obtain ⟨⟨old, he⟩, ⟨o, ho, r⟩, n⟩ := z
    exact ⟨⟨old, k e (by simp) _ he⟩, ⟨o, k c (by simp) _ ho, r⟩, n⟩
  item := by
    intro X hP hw hK hc i pins s σ H E I hf z hg
    subst hP hw hK
    obtain ⟨⟨old, he⟩, hit, n1, n2, n3⟩ := z
    obtain ⟨xs, x, hq, hx⟩ := hg
    obtain ⟨its, rv, p, hz⟩ := I.tuple hq
    obtain ⟨u, hu, ru⟩ := rv.get hx
    have le : e < s.heap.objs.size := Heap.lt_size he
    have lc : c < s.heap.objs.size := hit.elim fun _ r => Heap.lt_size r.1
    have hlt : i < its.toArray.size := by
      have := lt_of_at hu
      simpa using this
    refine wpAny_pyNext_enum_itemD (et_draws (A := X.A.in1) (I.ok.hd hc) c a n2 its.toArray) he ⟨hit, p⟩ hlt n1 (fun y => (by simpa using y : e = c ∨ e = a).elim n1 (Ne.symm n3)) fun u' g tk hu' ho hit' hT _ hk => ?_
    have eu : u' = u := by
      have h1 : its.toArray[i]? = some u' := hu'
      rw [List.getElem?_toArray, hu] at h1
      exact (Option.some.inj h1).symm
    subst eu
    refine ⟨_, rfl, wpAny_letOwnedTupleGo_enum (s := { s with heap := g, toks := tk + 1 }) ho fun g2 he2 sb => ?_⟩
    have hT2 : g2.get? s.heap.objs.size = some { cls := .type "tuple", data := .seq #[.int i tk, u'] } := (sb.2 _ (Nat.ne_of_gt le)).trans hT
    have new : ObjOk X.prog X.w (upd H s.heap.objs.size (.tup [.int (i : Nat), x])) g2 s.heap.objs.size (.tup [.int (i : Nat), x]) :=
      ⟨by show 2 ≤ sizeLine; decide, [.int i tk, u'], .cons ⟨_, rfl⟩ (.cons ru .nil), ⟨_, hT2, rfl, _, rfl⟩⟩
    have J : Inv X pins σ (upd H s.heap.objs.size (.tup [.int (i : Nat), x])) { s with heap := g2, toks := tk + 1 } :=
      I.turnedNew (ch := [e, c]) (fun b ob hb q => (sb.2 b (fun y => hb (by simp [y]))).trans (hk b ob (fun y => hb (by simp [y])) (fun y => hb (by simp [y])) q)) hf (Nat.le_refl _) new
    refine ⟨.ref s.heap.objs.size, _, J, rfl, ⟨_, x, rfl, I.hok.fresh (Nat.le_refl _), rfl, fun ys hy => by rw [I.tuple_inj hy hq]; exact hx⟩, ⟨⟨u', ?_⟩, ?_, n1, n2, n3⟩, fun b hb => ?_⟩
    · rw [show ((i + 1 : Nat) : Int) = (i : Int) + 1 by omega]
      exact he2
    · obtain ⟨⟨o, q1, q2⟩, _⟩ := hit'
      exact ⟨o, (sb.2 c (Ne.symm n1)).trans q1, q2⟩
    · have lb : b < s.heap.objs.size := by
        rcases (by simpa using hb : b = e ∨ b = c) with q | q
        · rw [q]; exact le
        · rw [q]; exact lc
      rw [upd_ne (Nat.ne_of_lt lb)]
      exact (hf b hb).1
  done := by
    intro X hP hw hK hc i pins s σ H E I hf z hg
    subst hP hw hK
    obtain ⟨⟨old, he⟩, hit, n1, n2, n3⟩ := z
    obtain ⟨xs, hq, hx⟩ := hg
    obtain ⟨its, rv, p, hz⟩ := I.tuple hq
    obtain ⟨f0, f1, f2, f3, f4, f5⟩ := hf c (by simp)
    have hl := rv.length
    refine wpAny_pyNext_enum_endD (P := fun i v => its.toArray[i]? = some v) (n := i) (fp := [c, a]) (St := fun j h => IsTupIter h c a j ∧ IsTup h a its.toArray ∧ j = i) ?_ he ⟨hit, p, rfl⟩ fun g eb => ⟨rfl, I.turned (t' := s.toks) (fun b o hb q => eb b o hb q) f0 f1 f3 f4 f5⟩
    have D := et_draws (prog := X.prog) (w := X.w) (A := X.A.in1) (I.ok.hd hc) c a n2 its.toArray
    refine ⟨fun j h y => D.live j h ⟨y.1, y.2.1⟩, fun j h h' y k => ⟨(D.frame j h h' ⟨y.1, y.2.1⟩ k).1, (D.frame j h h' ⟨y.1, y.2.1⟩ k).2, y.2.2⟩, fun j s' Q' E' hj y q => ?_, fun s' Q' E' y q => ?_⟩
    · exact absurd hj (by have := y.2.2; omega)
    · unfold Builtin.SmallTypes.nextOf
      refine wpAny_bind (special_tup_end (I.ok.hd hc) y.1 y.2.1 (by simp; omega) fun v g x b => ?_)
      obtain ⟨b', o, vs, rfl, h1, h2, _⟩ := x
      exact q g b' b ⟨o, h1, h2⟩
  self := fun A i s Q E z h => let ⟨⟨_, he⟩, _⟩ := z; wpAny_pyIter_enum he h
def iEnumT (K : PySem.W.Frag) (ta : TA) : TI := fun σ H R => ta σ H fun vs H1 => ∃ a xs, vs = [.ref a] ∧ SqT K H1 a xs ∧ R (Iet K a) H1
theorem pi_enumT {X : Cx} {e : Expr} {ta : TA} {p pos tpos : Pos} {elts : List Expr} {kk : Nat} (hg : Gl X "enumerate") (hm : X.mg "enumerate" = none) (ha : PA X [e] ta) (hs : starEach [e] X.env = [(false, eval e X.env)] := by rfl) :
    PI X (.Tuple elts kk tpos) (.Call (.Name "enumerate" p) [e] [] pos) (iEnumT X.K ta) := by
  refine ⟨fun pins s σ H R I h => Call_ (ld_blt I hg hm boot_enumerate (PyProof.Rows.callWith_type1 (thn (ha.run pos pins s σ H _ I h) fun us s1 ⟨vs, H1, I1, r1, a, xs, ex, hq, q⟩ => ?_) hs rfl))⟩
  subst ex
  cases r1 with
  | cons r rr =>
    cases rr
    cases r
    obtain ⟨its, rv, p', hz⟩ := I1.tuple hq
    have la : a < s1.heap.objs.size := p'.elim fun _ z => Heap.lt_size z.1
    refine et_call p' fun g he hit hk => wpAny_pyIter_enum he ?_
    have I2 : Inv X pins σ H1 { s1 with heap := g } := I1.kept (t' := s1.toks) hk
    refine ⟨s1.heap.objs.size + 1, [s1.heap.objs.size + 1, s1.heap.objs.size], _, _, H1, rfl, I2, turn_et a (s1.heap.objs.size + 1) s1.heap.objs.size, ⟨⟨.none, he⟩, hit, Nat.succ_ne_self _, Nat.ne_of_lt la, Nat.ne_of_lt (Nat.lt_succ_of_lt la)⟩, fun b hb => ?_, q⟩
    have le : s1.heap.objs.size ≤ b := by
      rcases (by simpa using hb : b = s1.heap.objs.size + 1 ∨ b = s1.heap.objs.size) with z | z
      · exact Nat.le_trans (Nat.le_succ _) (Nat.le_of_eq z.symm)
      · exact Nat.le_of_eq z.symm
    exact I1.fpOk le (I1.hok.fresh le)
end
/-- a for over enumerate(t), t a tuple that the body leaves as it is -/
theorem for_enumT {K : PySem.W.Frag} {a : Addr} {xs : List V} {g : TG} {tb : TS} {D : Ends} {σ : L2.St} {H : Hp} (Pv : Nat → L2.St → Hp → Prop) (h0 : Pv 0 σ H) (hl : ∀ i σ H, i ≤ xs.length → Pv i σ H → SqT K H a xs)
    (hs : ∀ i x σ H T, xs[i]? = some x → Pv i σ H → H T = none → g (.ref T) σ (upd H T (.tup [.int (i : Nat), x])) fun σ2 H2 => tb { D with nx := Pv (i + 1), ct := Pv (i + 1), bk := D.nx } σ2 H2) (hd : ∀ σ H, Pv xs.length σ H → D.nx σ H) :
    ∃ W : Nat → Nat → L2.St → Hp → Prop, (∃ m, W 0 m σ H) ∧ ∀ i m σ H, W i m σ H →
      ((Iet K a).stop i H ∧ D.nx σ H) ∨ ((Iet K a).go i H ∧ ∃ N : L2.St → Hp → Prop, (∀ σ' H', N σ' H' → ∃ m', m' < m ∧ W (i + 1) m' σ' H') ∧ ∀ x H', (Iet K a).yld i H x H' → g x σ H' fun σ2 H2 => tb { D with nx := N, ct := N, bk := D.nx } σ2 H2) := by
  refine ⟨fun i m σ H => m = xs.length - i ∧ i ≤ xs.length ∧ Pv i σ H, ⟨xs.length, by simp, Nat.zero_le _, h0⟩, ?_⟩
  rintro i m σ H ⟨rfl, hi, p⟩
  have q := hl i σ H hi p
  by_cases hlt : i < xs.length
  · refine .inr ⟨⟨xs, xs[i], q, by simp [hlt]⟩, Pv (i + 1), fun σ' G p' => ⟨xs.length - (i + 1), by omega, rfl, hlt, p'⟩, fun x G y => ?_⟩
    obtain ⟨T, v, rfl, hT, rfl, hv⟩ := y
    exact hs i v σ H T (hv xs q) p hT
  · have e : i = xs.length := by omega
    subst e
    exact .inl ⟨⟨xs, q, Nat.le_refl _⟩, hd σ H p⟩
/-! ### attributes -/
def rF (a b c d : V) : List (Str × V) := [("_writing", a), ("_reading", b), ("_choice", c), ("_bound", d)]
theorem rnf01 : ¬ (("_writing" : Str) = "_reading") := by decide +kernel
theorem rbf01 : (("_writing" : Str) == "_reading") = false := by decide +kernel
theorem rnf02 : ¬ (("_writing" : Str) = "_choice") := by decide +kernel
theorem rbf02 : (("_writing" : Str) == "_choice") = false := by decide +kernel
theorem rnf03 : ¬ (("_writing" : Str) = "_bound") := by decide +kernel
theorem rbf03 : (("_writing" : Str) == "_bound") = false := by decide +kernel
theorem rnf10 : ¬ (("_reading" : Str) = "_writing") := by decide +kernel
theorem rbf10 : (("_reading" : Str) == "_writing") = false := by decide +kernel
theorem rnf12 : ¬ (("_reading" : Str) = "_choice") := by decide +kernel
theorem rbf12 : (("_reading" : Str) == "_choice") = false := by decide +kernel
theorem rnf13 : ¬ (("_reading" : Str) = "_bound") := by decide +kernel
theorem rbf13 : (("_reading" : Str) == "_bound") = false := by decide +kernel
theorem rnf20 : ¬ (("_choice" : Str) = "_writing") := by decide +kernel
theorem rbf20 : (("_choice" : Str) == "_writing") = false := by decide +kernel
theorem rnf21 : ¬ (("_choice" : Str) = "_reading") := by decide +kernel
theorem rbf21 : (("_choice" : Str) == "_reading") = false := by decide +kernel
theorem rnf23 : ¬ (("_choice" : Str) = "_bound") := by decide +kernel
theorem rbf23 : (("_choice" : Str) == "_bound") = false := by decide +kernel
theorem rnf30 : ¬ (("_bound" : Str) = "_writing") := by decide +kernel
theorem rbf30 : (("_bound" : Str) == "_writing") = false := by decide +kernel
theorem rnf31 : ¬ (("_bound" : Str) = "_reading") := by decide +kernel
theorem rbf31 : (("_bound" : Str) == "_reading") = false := by decide +kernel
theorem rnf32 : ¬ (("_bound" : Str) = "_choice") := by decide +kernel
theorem rbf32 : (("_bound" : Str) == "_choice") = false := by decide +kernel
theorem rbf00 : (("_writing" : Str) == "_writing") = true := by decide +kernel
theorem rbf11 : (("_reading" : Str) == "_reading") = true := by decide +kernel
theorem rbf22 : (("_choice" : Str) == "_choice") = true := by decide +kernel
theorem rbf33 : (("_bound" : Str) == "_bound") = true := by decide +kernel
theorem rF_get0 {a b c d : V} : (rF a b c d).lookup ("_writing" : Str) = some a := by
  unfold rF
  simp only [List.lookup, rbf00]
theorem rF_put0 {a b c d z : V} : putF "_writing" z (rF a b c d) = rF z b c d := by
  unfold rF
  simp only [putF, if_true, eq_self_iff_true]
theorem rF_get1 {a b c d : V} : (rF a b c d).lookup ("_reading" : Str) = some b := by
  unfold rF
  simp only [List.lookup, rbf10, rbf11]
theorem rF_put1 {a b c d z : V} : putF "_reading" z (rF a b c d) = rF a z c d := by
  unfold rF
  simp only [putF, if_neg rnf01, if_true, eq_self_iff_true]
theorem rF_get2 {a b c d : V} : (rF a b c d).lookup ("_choice" : Str) = some c := by
  unfold rF
  simp only [List.lookup, rbf20, rbf21, rbf22]
theorem rF_put2 {a b c d z : V} : putF "_choice" z (rF a b c d) = rF a b z d := by
  unfold rF
  simp only [putF, if_neg rnf02, if_neg rnf12, if_true, eq_self_iff_true]
theorem rF_get3 {a b c d : V} : (rF a b c d).lookup ("_bound" : Str) = some d := by
  unfold rF
  simp only [List.lookup, rbf30, rbf31, rbf32, rbf33]
theorem rF_put3 {a b c d z : V} : putF "_bound" z (rF a b c d) = rF a b c z := by
  unfold rF
  simp only [putF, if_neg rnf03, if_neg rnf13, if_neg rnf23, if_true, eq_self_iff_true]
theorem rF_made {a b c d : V} : (putF "_bound" d (putF "_choice" c (putF "_reading" b (putF "_writing" a [])))) = rF a b c d := by
  unfold rF
  simp only [putF, if_neg rnf01, if_neg rnf02, if_neg rnf03, if_neg rnf12, if_neg rnf13, if_neg rnf23]
def qF (a b c d : V) : List (Str × V) := [("_through", a), ("_back", b), ("_around", c), ("_clean", d)]
theorem qnf01 : ¬ (("_through" : Str) = "_back") := by decide +kernel
theorem qbf01 : (("_through" : Str) == "_back") = false := by decide +kernel
theorem qnf02 : ¬ (("_through" : Str) = "_around") := by decide +kernel
theorem qbf02 : (("_through" : Str) == "_around") = false := by decide +kernel
theorem qnf03 : ¬ (("_through" : Str) = "_clean") := by decide +kernel
theorem qbf03 : (("_through" : Str) == "_clean") = false := by decide +kernel
theorem qnf10 : ¬ (("_back" : Str) = "_through") := by decide +kernel
theorem qbf10 : (("_back" : Str) == "_through") = false := by decide +kernel
theorem qnf12 : ¬ (("_back" : Str) = "_around") := by decide +kernel
theorem qbf12 : (("_back" : Str) == "_around") = false := by decide +kernel
theorem qnf13 : ¬ (("_back" : Str) = "_clean") := by decide +kernel
theorem qbf13 : (("_back" : Str) == "_clean") = false := by decide +kernel
theorem qnf20 : ¬ (("_around" : Str) = "_through") := by decide +kernel
theorem qbf20 : (("_around" : Str) == "_through") = false := by decide +kernel
theorem qnf21 : ¬ (("_around" : Str) = "_back") := by decide +kernel
theorem qbf21 : (("_around" : Str) == "_back") = false := by decide +kernel
theorem qnf23 : ¬ (("_around" : Str) = "_clean") := by decide +kernel
theorem qbf23 : (("_around" : Str) == "_clean") = false := by decide +kernel
theorem qnf30 : ¬ (("_clean" : Str) = "_through") := by decide +kernel
theorem qbf30 : (("_clean" : Str) == "_through") = false := by decide +kernel
theorem qnf31 : ¬ (("_clean" : Str) = "_back") := by decide +kernel
theorem qbf31 : (("_clean" : Str) == "_back") = false := by decide +kernel
theorem qnf32 : ¬ (("_clean" : Str) = "_around") := by decide +kernel
theorem qbf32 : (("_clean" : Str) == "_around") = false := by decide +kernel
theorem qbf00 : (("_through" : Str) == "_through") = true := by decide +kernel
theorem qbf11 : (("_back" : Str) == "_back") = true := by decide +kernel
theorem qbf22 : (("_around" : Str) == "_around") = true := by decide +kernel
theorem qbf33 : (("_clean" : Str) == "_clean") = true := by decide +kernel
theorem qF_get0 {a b c d : V} : (qF a b c d).lookup ("_through" : Str) = some a := by
  unfold qF
  simp only [List.lookup, qbf00]
theorem qF_put0 {a b c d z : V} : putF "_through" z (qF a b c d) = qF z b c d := by
  unfold qF
  simp only [putF, if_true, eq_self_iff_true]
theorem qF_get1 {a b c d : V} : (qF a b c d).lookup ("_back" : Str) = some b := by
  unfold qF
  simp only [List.lookup, qbf10, qbf11]
theorem qF_put1 {a b c d z : V} : putF "_back" z (qF a b c d) = qF a z c d := by
  unfold qF
  simp only [putF, if_neg qnf01, if_true, eq_self_iff_true]
theorem qF_get2 {a b c d : V} : (qF a b c d).lookup ("_around" : Str) = some c := by
  unfold qF
  simp only [List.lookup, qbf20, qbf21, qbf22]
theorem qF_put2 {a b c d z : V} : putF "_around" z (qF a b c d) = qF a b z d := by
  unfold qF
  simp only [putF, if_neg qnf02, if_neg qnf12, if_true, eq_self_iff_true]
theorem qF_get3 {a b c d : V} : (qF a b c d).lookup ("_clean" : Str) = some d := by
  unfold qF
  simp only [List.lookup, qbf30, qbf31, qbf32, qbf33]
theorem qF_put3 {a b c d z : V} : putF "_clean" z (qF a b c d) = qF a b c z := by
  unfold qF
  simp only [putF, if_neg qnf03, if_neg qnf13, if_neg qnf23, if_true, eq_self_iff_true]
theorem qF_made {a b c d : V} : (putF "_clean" d (putF "_around" c (putF "_back" b (putF "_through" a [])))) = qF a b c d := by
  unfold qF
  simp only [putF, if_neg qnf01, if_neg qnf02, if_neg qnf03, if_neg qnf12, if_neg qnf13, if_neg qnf23]
theorem putF_len (f : Str) (v : V) : ∀ fs : List (Str × V), (putF f v fs).length ≤ fs.length + 1
  | [] => Nat.le_refl _
  | (g, x) :: r => by
    show (if g = f then (g, v) :: r else (g, x) :: putF f v r).length ≤ r.length + 1 + 1
    split
    · simp
    · have := putF_len f v r
      simp only [List.length_cons]
      omega
/-! ### rules -/
def W0 : List V := [.str "through", .str "back", .str "around"]
def W1 : List V := [.str "keep", .str "pass"]
def W2 : List V := [.str "used", .str "came", .str "rare"]
/-- a word of such a part -/
def WordOf (W : List V) (v : V) : Prop := ∃ z : Str, v = .str z ∧ inV (.str z) W = true
theorem WordOf.flat {W : List V} {v : V} (h : WordOf W v) : flatV v = true := by
  obtain ⟨z, rfl, _⟩ := h
  rfl
theorem WordOf.in_ {W : List V} {v : V} (h : WordOf W v) : inV v W = true := by
  obtain ⟨z, rfl, e⟩ := h
  exact e
def spRInit (C : Addr) : Sp := fun vs H Q _ => ∃ (p dx : Addr) (a b c : V) (n : Int), vs = [.ref p, a, b, c, .int n] ∧ H p = some (.ins C dx []) ∧ WordOf W0 a ∧ WordOf W1 b ∧ WordOf W2 c ∧ 0 ≤ n ∧ n ≤ 8 ∧
  ∀ H' : Hp, Fr [p] H H' → H' p = some (.ins C dx (rF a b c (.int n))) → Q .non H'
/-- an attribute read -/
def spGet (C : Addr) (f : Str) : Sp := fun vs H Q _ => ∃ (a dx : Addr) (fs : List (Str × V)) (v : V), vs = [.ref a] ∧ H a = some (.ins C dx fs) ∧ fs.lookup f = some v ∧ Q v H
/-- == of the own kind, or of another -/
def spREq (K : PySem.W.Frag) (C : Addr) : Sp := fun vs H Q _ => ∃ (a dx : Addr) (w r c : Str) (n : Int) (y : V), vs = [.ref a, y] ∧ H a = some (.ins C dx (rF (.str w) (.str r) (.str c) (.int n))) ∧
  ((∃ (b dy : Addr) (w' r' c' : Str) (n' : Int), y = .ref b ∧ H b = some (.ins C dy (rF (.str w') (.str r') (.str c') (.int n'))) ∧ Q (.bl (decide (V.str w = V.str w') && (decide (V.str r = V.str r') && (decide (V.str c = V.str c') && decide (V.int n = V.int n'))))) H)
  ∨ ∃ tb : Value, TyX K H y tb ∧ PySem.W.kitOne K tb (.ref C) = some false ∧ Q (.bl false) H)
/-! ### tuples and lists of words, as data -/
def sV (zs : List Str) : List V := zs.map V.str
def sD (zs : List Str) : List PyData := zs.map PyData.str
theorem sV_len (zs : List Str) : (sV zs).length = zs.length := List.length_map _
theorem sV_flat (zs : List Str) : (sV zs).all flatV = true := by
  unfold sV
  rw [List.all_map]
  induction zs with
  | nil => rfl
  | cons z r ih =>
    rw [List.all_cons, ih]
    rfl
theorem inV_str (z : Str) (zs : List Str) : inV (.str z) (sV zs) = decide (z ∈ zs) := by
  unfold inV sV
  rw [List.any_map]
  induction zs with
  | nil => rfl
  | cons y r ih =>
    rw [List.any_cons, ih]
    show ((y == z) || decide (z ∈ r)) = decide (z ∈ y :: r)
    by_cases h : y = z
    · subst h
      simp
    · have h' : ¬ z = y := fun e => h e.symm
      have hb : (y == z) = false := beq_eq_false_iff_ne.mpr h
      rw [hb]
      simp [h']
theorem sV_at {zs : List Str} {i : Nat} {x : V} (h : (sV zs)[i]? = some x) : ∃ z, x = .str z ∧ zs[i]? = some z := by
  unfold sV at h
  rw [List.getElem?_map] at h
  cases e : zs[i]? with
  | none => rw [e] at h; cases h
  | some u =>
    rw [e] at h
    exact ⟨u, (Option.some.inj h).symm, rfl⟩
theorem dpAll_str {K : PySem.W.Frag} {H : Hp} : ∀ zs : List Str, DpAll K H (sV zs) (sD zs)
  | [] => .nil
  | z :: r => .cons (.str z) (dpAll_str r)
/-- words that a text can hold -/
def GoodW (zs : List Str) : Prop := ∀ z ∈ zs, PyData.strOk z = true
theorem lay_str : ∀ {zs : List Str}, GoodW zs → PyData.canLayAll0 (sD zs) = true
  | [], _ => rfl
  | z :: r, h => by
    show (PyData.canLay0 (.str z) && PyData.canLayAll0 (sD r)) = true
    rw [lay_str (fun y hy => h y (List.mem_cons_of_mem _ hy))]
    have := h z List.mem_cons_self
    simpa [PyData.canLay0] using this
theorem dep_str : ∀ zs : List Str, PyData.depthAll (sD zs) ≤ 1
  | [] => by simp [sD, PyData.depthAll]
  | z :: r => by
    have h := dep_str r
    show PyData.depthAll (PyData.str z :: sD r) ≤ 1
    simp only [PyData.depthAll]
    have hx : PyData.depth (.str z) ≤ 1 := by simp [PyData.depth]
    omega
theorem shaped_str {zs : List Str} (h : GoodW zs) : SeqAt.shaped (.tuple (sD zs)) = true := by
  unfold SeqAt.shaped
  rw [Bool.and_eq_true, decide_eq_true_eq]
  refine ⟨lay_str h, ?_⟩
  have := dep_str zs
  simp only [PyData.depth]
  omega
theorem shapedL_str {zs : List Str} (h : GoodW zs) : SeqAt.shaped (.list (sD zs)) = true := by
  unfold SeqAt.shaped
  rw [Bool.and_eq_true, decide_eq_true_eq]
  refine ⟨lay_str h, ?_⟩
  have := dep_str zs
  simp only [PyData.depth]
  omega
theorem eqvAll_str : ∀ a b : List Str, PyData.eqvAll (sD a) (sD b) = decide (a = b)
  | [], [] => by simp [sD, PyData.eqvAll]
  | [], _ :: _ => by simp [sD, PyData.eqvAll]
  | _ :: _, [] => by simp [sD, PyData.eqvAll]
  | x :: a, y :: b => by
    have ih := eqvAll_str a b
    show PyData.eqvAll (PyData.str x :: sD a) (PyData.str y :: sD b) = _
    simp only [PyData.eqvAll, ih, PyData.eqv]
    by_cases h1 : x = y
    · subst h1
      by_cases h2 : a = b <;> simp [h2]
    · have hb : (x == y) = false := beq_eq_false_iff_ne.mpr h1
      simp [h1, hb]
theorem eqv_str (a b : List Str) : PyData.eqv (.tuple (sD a)) (.tuple (sD b)) = decide (a = b) := by
  simp only [PyData.eqv]
  exact eqvAll_str a b
/-- a list of tuples of words -/
def tD (zss : List (List Str)) : List PyData := zss.map fun z => PyData.tuple (sD z)
theorem eqvAll_tD : ∀ a b : List (List Str), PyData.eqvAll (tD a) (tD b) = decide (a = b)
  | [], [] => by simp [tD, PyData.eqvAll]
  | [], _ :: _ => by simp [tD, PyData.eqvAll]
  | _ :: _, [] => by simp [tD, PyData.eqvAll]
  | x :: a, y :: b => by
    have ih := eqvAll_tD a b
    show PyData.eqvAll (PyData.tuple (sD x) :: tD a) (PyData.tuple (sD y) :: tD b) = _
    simp only [PyData.eqvAll, ih, eqv_str]
    by_cases h1 : x = y
    · subst h1
      by_cases h2 : a = b <;> simp [h2]
    · simp [h1]
theorem eqvL_tD (a b : List (List Str)) : PyData.eqv (.list (tD a)) (.list (tD b)) = decide (a = b) := by
  simp only [PyData.eqv]
  exact eqvAll_tD a b
theorem lay_tD : ∀ {zss : List (List Str)}, (∀ z ∈ zss, GoodW z) → PyData.canLayAll0 (tD zss) = true
  | [], _ => rfl
  | z :: r, h => by
    show (PyData.canLayAll0 (sD z) && PyData.canLayAll0 (tD r)) = true
    rw [lay_tD (fun y hy => h y (List.mem_cons_of_mem _ hy)), lay_str (h z List.mem_cons_self)]
    rfl
theorem dep_tD : ∀ zss : List (List Str), PyData.depthAll (tD zss) ≤ 2
  | [] => by simp [tD, PyData.depthAll]
  | z :: r => by
    have h := dep_tD r
    show PyData.depthAll (PyData.tuple (sD z) :: tD r) ≤ 2
    simp only [PyData.depthAll, PyData.depth]
    have := dep_str z
    omega
theorem shaped_tD {zss : List (List Str)} (h : ∀ z ∈ zss, GoodW z) : SeqAt.shaped (.list (tD zss)) = true := by
  unfold SeqAt.shaped
  rw [Bool.and_eq_true, decide_eq_true_eq]
  refine ⟨lay_tD h, ?_⟩
  have := dep_tD zss
  simp only [PyData.depth]
  omega
/-! ### recipes -/
def WS : List Str := ["slow", "sync slow", "fast", "sync fast", "free", "done"]
def KS : List Str := ["slow", "sync slow", "mark", "sync fast"]
def SS : List Str := ["sync slow", "sync fast"]
structure OkR (A zs : List Str) : Prop where
  len : zs.length ≤ 8
  mem : ∀ z ∈ zs, z ∈ A
  one : ∀ (i : Nat) (z : Str), zs[i]? = some z → z ∉ SS → z ∉ zs.take i
  dn : ("done" : Str) ∈ A → ("done" : Str) ∈ zs
def spPlace (K : PySem.W.Frag) : Sp := fun vs H Q _ => ∃ (t al : Addr) (A zs : List Str), vs = [.ref t, .ref al] ∧ H t = some (.tup (sV zs)) ∧ TupK K al (sV A) ∧ OkR A zs ∧ ∀ H', Fr [] H H' → Q .non H'
def spQInit (C : Addr) : Sp := fun vs H Q _ => ∃ (p dx a b c d : Addr) (za zb zc zd : List Str), vs = [.ref p, .ref a, .ref b, .ref c, .ref d] ∧ H p = some (.ins C dx []) ∧ H a = some (.tup (sV za)) ∧ H b = some (.tup (sV zb)) ∧ H c = some (.tup (sV zc)) ∧ H d = some (.tup (sV zd)) ∧
  OkR WS za ∧ OkR WS zb ∧ OkR WS zc ∧ OkR KS zd ∧ ∀ H' : Hp, Fr [p] H H' → H' p = some (.ins C dx (qF (.ref a) (.ref b) (.ref c) (.ref d))) → Q .non H'
/-- recipes stand at p -/
def RecAt (C : Addr) (H : Hp) (p : Addr) (z : List (List Str)) : Prop := ∃ (dx a b c d : Addr) (za zb zc zd : List Str), z = [za, zb, zc, zd] ∧ H p = some (.ins C dx (qF (.ref a) (.ref b) (.ref c) (.ref d))) ∧ H a = some (.tup (sV za)) ∧ H b = some (.tup (sV zb)) ∧ H c = some (.tup (sV zc)) ∧ H d = some (.tup (sV zd)) ∧ GoodW za ∧ GoodW zb ∧ GoodW zc ∧ GoodW zd
def spQEq (K : PySem.W.Frag) (C : Addr) : Sp := fun vs H Q _ => ∃ (p : Addr) (z : List (List Str)) (y : V), vs = [.ref p, y] ∧ RecAt C H p z ∧ ((∃ (q : Addr) (z' : List (List Str)), y = .ref q ∧ RecAt C H q z' ∧ Q (.bl (decide (z = z'))) H) ∨ ∃ tb : Value, TyX K H y tb ∧ PySem.W.kitOne K tb (.ref C) = some false ∧ Q (.bl false) H)
theorem cut_take {xs : List V} {i : Nat} (h : i ≤ xs.length) : cutV xs none (some (i : Int)) = xs.take i := by
  unfold cutV
  rw [HT.sIx_none, HT.sIx_nat, Nat.min_eq_left h]
  simp
section
variable {P : Program} {w : World} {K : PySem.W.Frag} {mg : Str → Option Value} {base : Heap}
theorem ok_place (T : Gx K mg) : FnOk P w K mg base CX0 1 T.f__invalid_place T.fd__invalid_place ["recipe", "allowed"] (spPlace K) := by
  refine T.F__invalid_place.ok sc__invalid_place (fun vs H Q E h => ?_) (fun cdv A outer s H vs Q E hr h => ?_)
  · obtain ⟨t, al, A, zs, rfl, _⟩ := h
    rfl
  · obtain ⟨t, al, AL, zs, rfl, ht, hal, ok, k⟩ := h
    refine ⟨_, (pss_cons (ps_if (pt_not (pt_val (pe_callB call_isi (by rfl) T.z_isinstance (by decide +kernel) (pa_cons (pv 0) (pa_cons (pe_bltn (v := .ty "tuple") (by rfl) T.z_tuple (by decide +kernel) rfl) pa_nil))))) (pss_one (ps_ret pe_int)) pss_nil)
      (pss_cons (ps_for PassesOwn.never rfl (pi_enumT (by rfl) T.z_enumerate (pa_cons (pv 0) pa_nil)) (pg_tup (by rfl) (pgs_cons (pg_name (i := 2) sc__invalid_place.nd rfl (.inl rfl)) (pgs_cons (pg_name (i := 3) sc__invalid_place.nd rfl (.inl rfl)) pgs_nil))) (pss_cons (ps_if (PW.pt (pw_or (pt_cmpR op_eq (pv 2) (pe_glob (v := .int 8) (by rfl) T.c_MOST_STEPS ⟨_, rfl⟩) (nomark _)) (pw_or1 (pt_cmpR op_notIn_seq (pv 3) (pv 1) (by rfl))))) (pss_one (ps_ret (pv 2))) pss_nil)
      (pss_one (ps_if (PW.pt (pw_and (pt_cmpR op_notIn_seq (pv 3) (pe_glob (v := .ref T.A_SYNC_STEPS) (by rfl) T.g_SYNC_STEPS rfl) (by rfl)) (pw_and1 (pt_cmpR op_in_seq (pv 3) (pe_slice sl_tup (pv 0) po_none (po_some (pv 2))) (by rfl))))) (pss_one (ps_ret (pv 2))) pss_nil))))
      (pss_cons (ps_if (PW.pt (pw_and (pt_cmpR op_in_seq pe_str (pv 1) (by rfl)) (pw_and1 (pt_cmpR op_notIn_seq pe_str (pv 0) (by rfl))))) (pss_one (ps_ret (pe_callB call_len_seq (by rfl) T.z_len (by decide +kernel) (pa_cons (pv 0) pa_nil)))) pss_nil)
      (pss_one (ps_ret pe_non))))), ?_⟩
    refine ⟨_, rfl, _, .ty "tuple", .type "tuple", _, true, rfl, ClsV.ty "tuple", .base (.tup ht), kit_ty (by decide +kernel), _, rfl, iteF ?_⟩
    refine ⟨_, rfl, t, _, rfl, SqT.of ht, for_enumT (K := K) (a := t) (xs := sV zs) (fun i σ H' => Fr [] H H' ∧ ∃ v2 v3 : Option V, σ = [some (.ref t), some (.ref al), v2, v3]) ⟨Fr.refl _ _, none, none, rfl⟩ (fun i σ H' _ h => SqT.of (h.1 _ _ ht (by simp))) ?_ ?_⟩
    · rintro i x σ H1 U hx ⟨f1, v2, v3, rfl⟩ hU
      obtain ⟨z, rfl, hz⟩ := sV_at hx
      have hi := lt_of_at hz
      have zm := List.mem_of_getElem? hz
      have f2 : Fr [] H (upd H1 U (.tup [.int (i : Nat), .str z])) := f1.trans (Fr.new hU)
      refine ⟨U, _, rfl, SqT.of upd_same, rfl, _, _, rfl, _, _, rfl, rfl, ?_⟩
      refine ⟨_, rfl, rfl, _, rfl, ?_⟩
      have n8 : decide (V.int (i : Int) = V.int 8) = false := decide_eq_false (fun e => by
        have := V.int.inj e
        have := ok.len
        omega)
      rw [n8]
      refine iteF ⟨_, rfl, _, rfl, al, sV AL, rfl, .inr (hal _), rfl, sV_flat _, _, rfl, ?_⟩
      rw [inV_str, decide_eq_true (ok.mem z zm)]
      refine iteF ?_
      refine ⟨_, rfl, T.A_SYNC_STEPS, sV SS, rfl, .inr (T.k_SYNC_STEPS _), rfl, rfl, _, rfl, ?_⟩
      rw [inV_str]
      by_cases hs : z ∈ SS
      · rw [decide_eq_true hs]
        exact iteF (iteF ⟨f2, _, _, rfl⟩)
      · rw [decide_eq_false hs]
        refine iteT ?_
        refine ⟨_, rfl, _, rfl, _, rfl, (i : Int), rfl, t, sV zs, rfl, SqT.of (f2 _ _ ht (by simp)), ?_, fun g hg => ?_⟩
        · rintro ⟨_, e⟩
          rw [HT.sIx_nat, sV_len, Nat.min_eq_left (Nat.le_of_lt hi)] at e
          omega
        · have ec : cutV (sV zs) none (some (i : Int)) = sV (zs.take i) := by
            rw [cut_take (by rw [sV_len]; exact Nat.le_of_lt hi)]
            exact List.map_take.symm
          rw [ec]
          refine ⟨g, _, rfl, .inr (SqT.of upd_same), rfl, sV_flat _, _, rfl, ?_⟩
          rw [inV_str, decide_eq_false (ok.one i z hz hs)]
          exact iteF ⟨f2.trans (Fr.new hg), _, _, rfl⟩
    · rintro σ H1 ⟨f1, v2, v3, rfl⟩
      refine ⟨_, rfl, al, sV AL, rfl, .inr (hal _), rfl, sV_flat _, _, rfl, ?_⟩
      rw [inV_str]
      by_cases hd : ("done" : Str) ∈ AL
      · rw [decide_eq_true hd]
        refine iteT ⟨_, rfl, t, sV zs, rfl, .inr (SqT.of (f1 _ _ ht (by simp))), rfl, sV_flat _, _, rfl, ?_⟩
        rw [inV_str, decide_eq_true (ok.dn hd)]
        exact iteF (k _ f1)
      · rw [decide_eq_false hd]
        exact iteF (iteF (k _ f1))
theorem ok_qInit (T : Gx K mg) : FnOk P w K mg base CX0 2 T.f_Recipes___init__ T.fd_Recipes___init__ ["self", "through", "back", "around", "clean"] (spQInit T.C_Recipes) := by
  have G__invalid_place : FnOk P w K mg base CX0 1 T.f__invalid_place T.fd__invalid_place ["recipe", "allowed"] (spPlace K) := ok_place T
  refine T.F_Recipes___init__.ok sc_Recipes___init__ (fun vs H Q E h => ?_) (fun cdv A outer s H vs Q E hr h => ?_)
  · obtain ⟨p, dx, a, b, c, d, za, zb, zc, zd, rfl, _⟩ := h
    rfl
  · obtain ⟨p, dx, a, b, c, d, za, zb, zc, zd, rfl, hp, ha, hb, hc, hd, oa, ob, oc, od, k⟩ := h
    refine ⟨_, (pss_cons (ps_set (i := 5) sc_Recipes___init__.nd rfl (.inl rfl) (pe_tup (pa_cons (pe_glob (v := .ref T.A_WRITE_STEPS) (by rfl) T.g_WRITE_STEPS rfl) (pa_cons (pe_glob (v := .ref T.A_WRITE_STEPS) (by rfl) T.g_WRITE_STEPS rfl) (pa_cons (pe_glob (v := .ref T.A_WRITE_STEPS) (by rfl) T.g_WRITE_STEPS rfl) (pa_cons (pe_glob (v := .ref T.A_CLEAN_STEPS) (by rfl) T.g_CLEAN_STEPS rfl) pa_nil))))))
      (pss_cons (ps_for PassesOwn.never rfl (pi_enumT (by rfl) T.z_enumerate (pa_cons (pe_tup (pa_cons (pv 1) (pa_cons (pv 2) (pa_cons (pv 3) (pa_cons (pv 4) pa_nil))))) pa_nil)) (pg_tup (by rfl) (pgs_cons (pg_name (i := 6) sc_Recipes___init__.nd rfl (.inl rfl)) (pgs_cons (pg_name (i := 7) sc_Recipes___init__.nd rfl (.inl rfl)) pgs_nil))) (pss_cons (ps_set (i := 8) sc_Recipes___init__.nd rfl (.inl rfl) (pe_call G__invalid_place (hr.mono (by first | decide | omega)) (by rfl) T.g__invalid_place T.F__invalid_place.kp (b__invalid_place T) .nil pass0 (pa_cons (pv 7) (pa_cons (pe_ix ix_tup (pv 5) (pv 6) (fun _ _ => rfl)) pa_nil))))
      (pss_one (ps_if (pt_cmpR op_notN (pv 8) pe_non (nomark _)) (pss_one ps_never) pss_nil))))
      (pss_cons (ps_fld (pv 0) (pv 1) rfl)
      (pss_cons (ps_fld (pv 0) (pv 2) rfl)
      (pss_cons (ps_fld (pv 0) (pv 3) rfl)
      (pss_one (ps_fld (pv 0) (pv 4) rfl))))))), ?_⟩
    refine ⟨sz_le (by simp), fun t ht => ?_⟩
    refine ⟨_, rfl, _, rfl, _, rfl, _, rfl, sz_le (by simp), fun u hu => ?_⟩
    have et : (upd (upd H t (.tup [.ref T.A_WRITE_STEPS, .ref T.A_WRITE_STEPS, .ref T.A_WRITE_STEPS, .ref T.A_CLEAN_STEPS])) u (.tup [.ref a, .ref b, .ref c, .ref d])) t = some (.tup [.ref T.A_WRITE_STEPS, .ref T.A_WRITE_STEPS, .ref T.A_WRITE_STEPS, .ref T.A_CLEAN_STEPS]) := (upd_ne (free_upd hu).2.symm).trans upd_same
    refine ⟨u, _, rfl, SqT.of upd_same, for_enumT (K := K) (a := u) (xs := [.ref a, .ref b, .ref c, .ref d]) (fun i σ H' => Fr [] H H' ∧ H' t = some (.tup [.ref T.A_WRITE_STEPS, .ref T.A_WRITE_STEPS, .ref T.A_WRITE_STEPS, .ref T.A_CLEAN_STEPS]) ∧ H' u = some (.tup [.ref a, .ref b, .ref c, .ref d]) ∧
        ∃ v6 v7 v8 : Option V, σ = [some (.ref p), some (.ref a), some (.ref b), some (.ref c), some (.ref d), some (.ref t), v6, v7, v8])
      ⟨(Fr.new ht).trans (Fr.new hu), et, upd_same, none, none, none, rfl⟩ (fun i σ H' _ h => SqT.of h.2.2.1) ?_ ?_⟩
    · rintro i x σ H1 U hx ⟨f1, e1, e2, v6, v7, v8, rfl⟩ hU
      refine ⟨U, _, rfl, SqT.of upd_same, rfl, _, _, rfl, _, _, rfl, rfl, ?_⟩
      obtain ⟨x', al, AL, zs, rfl, hal, hK, hx', ok⟩ : ∃ (x' al : Addr) (AL zs : List Str), x = .ref x' ∧ ([.ref T.A_WRITE_STEPS, .ref T.A_WRITE_STEPS, .ref T.A_WRITE_STEPS, .ref T.A_CLEAN_STEPS] : List V)[i]? = some (.ref al) ∧ TupK K al (sV AL) ∧ H x' = some (.tup (sV zs)) ∧ OkR AL zs := by
        match i, hx with
        | 0, hx => cases hx; exact ⟨a, _, WS, za, rfl, rfl, T.k_WRITE_STEPS, ha, oa⟩
        | 1, hx => cases hx; exact ⟨b, _, WS, zb, rfl, rfl, T.k_WRITE_STEPS, hb, ob⟩
        | 2, hx => cases hx; exact ⟨c, _, WS, zc, rfl, rfl, T.k_WRITE_STEPS, hc, oc⟩
        | 3, hx => cases hx; exact ⟨d, _, KS, zd, rfl, rfl, T.k_CLEAN_STEPS, hd, od⟩
        | i + 4, hx => simp at hx
      have f2 : Fr [] H1 (upd H1 U (.tup [.int (i : Nat), .ref x'])) := Fr.new hU
      refine ⟨_, rfl, _, rfl, _, rfl, t, _, (i : Int), _, rfl, rfl, SqT.of (f2 _ _ e1 (by simp)), atI_nat hal, x', al, AL, zs, rfl, f2 _ _ (f1 _ _ hx' (by simp)) (by simp), hK, ok, fun H2 f3 => ?_⟩
      refine ⟨_, rfl, rfl, _, rfl, iteF ⟨(f1.trans f2).trans f3, f3 _ _ (f2 _ _ e1 (by simp)) (by simp), f3 _ _ (f2 _ _ e2 (by simp)) (by simp), _, _, _, rfl⟩⟩
    · rintro σ H1 ⟨f1, e1, e2, v6, v7, v8, rfl⟩
      have hp1 := f1 _ _ hp (by simp)
      refine ⟨_, rfl, _, rfl, p, T.C_Recipes, dx, [], rfl, hp1, T.cl_Recipes, T.n_Recipes__through, by simp, ?_⟩
      refine ⟨_, rfl, _, rfl, p, T.C_Recipes, dx, _, rfl, upd_same, T.cl_Recipes, T.n_Recipes__back, Nat.lt_of_le_of_lt (putF_len _ _ _) (by simp), ?_⟩
      refine ⟨_, rfl, _, rfl, p, T.C_Recipes, dx, _, rfl, upd_same, T.cl_Recipes, T.n_Recipes__around, Nat.lt_of_le_of_lt (putF_len _ _ _) (Nat.lt_of_le_of_lt (Nat.succ_le_succ (putF_len _ _ _)) (by simp)), ?_⟩
      refine ⟨_, rfl, _, rfl, p, T.C_Recipes, dx, _, rfl, upd_same, T.cl_Recipes, T.n_Recipes__clean, Nat.lt_of_le_of_lt (putF_len _ _ _) (Nat.lt_of_le_of_lt (Nat.succ_le_succ (Nat.le_trans (putF_len _ _ _) (Nat.succ_le_succ (putF_len _ _ _)))) (by simp)), ?_⟩
      rw [qF_made, upd_upd, upd_upd, upd_upd]
      exact k _ (fun b o e nb => by rw [upd_ne (by simpa using nb)]; exact f1 b o e (by simp)) upd_same
end
/-! ### what is new stands apart -/
theorem made_fr {H H' : Hp} {p dx C : Addr} (hp : H p = none) (hdx : H dx = none) (f : Fr [p] (upd (upd H dx (.own p)) p (.ins C dx [])) H') : Fr [] H H' := fun b o e _ => by
  have n1 : b ≠ p := ne_of_none e hp
  have n2 : b ≠ dx := ne_of_none e hdx
  exact f b o (by rw [upd_ne n1, upd_ne n2]; exact e) (by simpa using n1)
/-! ### a classmethod without arguments, a class called by a parameter that holds it -/
def tMakeL (i : Nat) (C : Addr) (sp : Sp) (E : XK) (t : TA) : TE := fun σ H Q => σ[i]? = some (some (.ref C)) ∧ tMake C sp [] E t σ H Q
section
variable {X : Cx} {CX : CXT} {k i : Nat} {C f p g : Addr} {mc : Value} {fd : FuncData} {ps : List Str} {sp : Sp} {E : XK} {x m : Str} {o e : Expr} {es : List Expr} {np pos apos : Pos} {ta : TE} {t : TA} {pl : Sem Bool}
theorem pe_makeL (M : Mk X.K C f) (F : FnOk X.prog X.w X.K X.mg X.base CX k f fd ps sp) (hr : Room (k + 1) X.A) (hN : X.N[i]? = some x) (hv : Vis X.env.scope x) (hb : Binds X.K fd ps []) (hx : Passes CX X E) (ha : PA X (e :: es) t)
    (hdb : (x == ("__debug__" : Str)) = false := by decide) (hcd : (x == ("__classdict__" : Str)) = false := by decide)
    (he : starEach (e :: es) X.env = (false, eval e X.env) :: starEach es X.env := by rfl) (hpl : (backTo pos (starEach es X.env)).any (·.1) = false := by rfl) : PE X (.Call (.Name x np) (e :: es) [] pos) (tMakeL i C sp E t) := by
  refine ⟨fun pins s σ H Q I h => ?_⟩
  obtain ⟨hs, ht⟩ := h
  refine wpAny_Call_Name_kw (thn ((pe_var (pos := np) hN hv hdb hcd).run pins s σ H (fun v H1 => v = .ref C ∧ H1 = H) I ⟨.ref C, hs, rfl, rfl⟩) fun u s1 ⟨v, H1, I1, r1, q1⟩ => ?_)
  obtain ⟨rfl, rfl⟩ := q1
  cases r1
  refine PySem.W.callWith_K (h₀ := X.base) I.ok.mod.kin M.kp (thn (ha.run pos pins s1 σ _ _ I1 ht) fun us s2 ⟨vs, H2, I2, r, q⟩ => ⟨I2.kIn, ?_⟩) he hpl
  exact run_make M F hr hb .nil hx I2 r q
theorem pe_cmeth0 (he : PE X o ta) (r : ClX.CRead X.K C mc) (c : ClX.CMet X.K C mc m p g) (F : FnR X.prog X.w X.K X.mg X.base CX k g sp) (hr : Room k X.A) (hx : Passes CX X E)
    (ht : eval (.Call (.Attribute o m apos) [] [] pos) X.env = (do
      let ov ← eval o X.env
      standAt apos.atName
      let (f, first) ← holding [ov] (getMethod ov m pl)
      callWith pos f first (backTo pos (starEach [] X.env)) (backToKw pos (keywordEach [] X.env))) := by rfl) :
    PE X (.Call (.Attribute o m apos) [] [] pos) (ClX.tCMeth C sp E ta tNil) := by
  refine ⟨fun pins s σ H Q I h => ?_⟩
  refine PySem.W.methodCall_KW (pl := pl) (thn (he.run pins s σ H _ I h) fun u s1 ⟨y, H1, I1, rx, ex, q⟩ => ?_) ht
  subst ex
  obtain rfl : u = Value.ref C := rx
  refine ClX.getmethcm_ok I1 r c fun s2 I2 => ?_
  exact PySem.W.callWith_M0 (first := []) ⟨ClX.pin_at I2, I2.kIn⟩ c.fi (ClX.run_cm F hr hx I2 .nil q)
end
/-! ### what recipes tell of themselves, and the safe ones -/
def SAFE : List (List Str) := [["slow", "sync slow", "fast", "sync fast", "done"], ["fast", "sync fast", "done", "free", "sync fast"], ["slow", "sync slow", "free", "sync fast", "done"], ["slow", "sync slow", "mark", "sync fast"]]
/-- a recipe, as a law can check it -/
def PV (A z : List Str) : Prop := z.length ≤ 8 ∧ (∀ w ∈ z, w ∈ A) ∧ (z.filter (fun w => decide (w ∉ SS))).Nodup ∧ (("done" : Str) ∈ A → ("done" : Str) ∈ z)
instance (A z : List Str) : Decidable (PV A z) := by
  unfold PV
  infer_instance
theorem PV.ok {A z : List Str} (h : PV A z) : OkR A z := by
  obtain ⟨h1, h2, h3, h4⟩ := h
  refine ⟨h1, h2, fun i w hi hw hm => ?_, h4⟩
  have e : z = z.take i ++ w :: z.drop (i + 1) := by
    have hlt := (List.getElem?_eq_some_iff.mp hi)
    obtain ⟨hl, he⟩ := hlt
    rw [← he, List.getElem_cons_drop hl, List.take_append_drop]
  rw [e, List.filter_append, List.nodup_append] at h3
  have hd := h3.2.2
  refine hd w ?_ w ?_ rfl
  · rw [List.mem_filter]
    exact ⟨hm, decide_eq_true hw⟩
  · rw [List.filter_cons]
    rw [if_pos (decide_eq_true hw)]
    exact List.mem_cons_self
theorem PV.perm {A z y : List Str} (h : PV A z) (p : y.Perm z) : PV A y := by
  obtain ⟨h1, h2, h3, h4⟩ := h
  exact ⟨by rw [p.length_eq]; exact h1, fun w hw => h2 w (p.mem_iff.mp hw), (p.filter _).nodup_iff.mpr h3, fun hA => p.mem_iff.mpr (h4 hA)⟩
/-- the words that a recipe may have -/
def AS (p : Nat) : List Str := if p < 3 then WS else KS
theorem pv_safe : ∀ p < 4, PV (AS p) (SAFE.getD p []) := by decide +kernel
theorem good_WS : ∀ z ∈ WS, PyData.strOk z = true := by decide +kernel
theorem good_KS : ∀ z ∈ KS, PyData.strOk z = true := by decide +kernel
theorem PV.good {p : Nat} {z : List Str} (h : PV (AS p) z) : GoodW z := fun w hw => by
  have := h.2.1 w hw
  unfold AS at this
  split at this
  · exact good_WS w this
  · exact good_KS w this
theorem RecAt.keep {C : Addr} {H H' : Hp} {S : List Addr} {p : Addr} {z : List (List Str)} (h : RecAt C H p z) (f : Fr S H H') (n : ∀ b ∈ S, H b = none ∨ ∃ xs, H b = some (.lst xs)) : RecAt C H' p z := by
  obtain ⟨dx, a, b, c, d, za, zb, zc, zd, rfl, hp, ha, hb, hc, hd, g⟩ := h
  have k : ∀ (x : Addr) (o : HO), H x = some o → (∀ xs, o ≠ .lst xs) → H' x = some o := fun x o e no => f x o e fun hx => by
    rcases n x hx with q | ⟨xs, q⟩
    · rw [q] at e; cases e
    · rw [q] at e; cases e; exact no xs rfl
  exact ⟨dx, a, b, c, d, za, zb, zc, zd, rfl, k _ _ hp (fun _ => by simp), k _ _ ha (fun _ => by simp), k _ _ hb (fun _ => by simp), k _ _ hc (fun _ => by simp), k _ _ hd (fun _ => by simp), g⟩
/-- made of four recipes -/
theorem mk_rec {C : Addr} {H : Hp} {Q : VK} {E : XK} {p dx a b c d : Addr} {za zb zc zd : List Str} (hp : H p = none) (hdx : H dx = none) (hpd : dx ≠ p) (ha : H a = some (.tup (sV za))) (hb : H b = some (.tup (sV zb))) (hc : H c = some (.tup (sV zc))) (hd : H d = some (.tup (sV zd)))
    (oa : PV (AS 0) za) (ob : PV (AS 1) zb) (oc : PV (AS 2) zc) (od : PV (AS 3) zd) (k : ∀ H', Fr [] H H' → RecAt C H' p [za, zb, zc, zd] → Q .non H') :
    spQInit C (.ref p :: ([.ref a, .ref b, .ref c, .ref d] ++ [])) (upd (upd H dx (.own p)) p (.ins C dx [])) Q E := by
  have f5 : Fr [] H (upd (upd H dx (.own p)) p (.ins C dx [])) := (Fr.new hdx).trans (Fr.new (by rw [upd_ne hpd.symm]; exact hp))
  refine ⟨p, dx, a, b, c, d, _, _, _, _, rfl, upd_same, f5 _ _ ha (by simp), f5 _ _ hb (by simp), f5 _ _ hc (by simp), f5 _ _ hd (by simp), oa.ok, ob.ok, oc.ok, od.ok, fun H6 f6 e6 => ?_⟩
  have f7 : Fr [] H H6 := made_fr hp hdx f6
  exact k H6 f7 ⟨dx, a, b, c, d, _, _, _, _, rfl, e6, f7 _ _ ha (by simp), f7 _ _ hb (by simp), f7 _ _ hc (by simp), f7 _ _ hd (by simp), oa.good, ob.good, oc.good, od.good⟩
def spSafeM (C : Addr) : Sp := fun vs H Q _ => vs = [.ref C] ∧ ∀ (p : Addr) (H' : Hp), H p = none → Fr [] H H' → RecAt C H' p SAFE → Q (.ref p) H'
section
variable {P : Program} {w : World} {K : PySem.W.Frag} {mg : Str → Option Value} {base : Heap}
theorem ok_qthrough (T : Gx K mg) : FnOk P w K mg base CX0 1 T.f_Recipes_through T.fd_Recipes_through ["self"] (spGet T.C_Recipes "_through") := by
  refine T.F_Recipes_through.ok sc_Recipes_through (fun vs H Q E h => ?_) (fun cdv A outer s H vs Q E hr h => ?_)
  · obtain ⟨a, dx, fs, v, rfl, _⟩ := h
    rfl
  · obtain ⟨a, dx, fs, v, rfl, ha, hv, k⟩ := h
    refine ⟨_, (pss_one (ps_ret (pe_fld (pv 0) rfl))), ?_⟩
    exact ⟨_, rfl, a, T.C_Recipes, _, _, _, rfl, ha, T.cl_Recipes, T.n_Recipes__through, hv, k⟩
theorem ok_qback (T : Gx K mg) : FnOk P w K mg base CX0 1 T.f_Recipes_back T.fd_Recipes_back ["self"] (spGet T.C_Recipes "_back") := by
  refine T.F_Recipes_back.ok sc_Recipes_back (fun vs H Q E h => ?_) (fun cdv A outer s H vs Q E hr h => ?_)
  · obtain ⟨a, dx, fs, v, rfl, _⟩ := h
    rfl
  · obtain ⟨a, dx, fs, v, rfl, ha, hv, k⟩ := h
    refine ⟨_, (pss_one (ps_ret (pe_fld (pv 0) rfl))), ?_⟩
    exact ⟨_, rfl, a, T.C_Recipes, _, _, _, rfl, ha, T.cl_Recipes, T.n_Recipes__back, hv, k⟩
theorem ok_qaround (T : Gx K mg) : FnOk P w K mg base CX0 1 T.f_Recipes_around T.fd_Recipes_around ["self"] (spGet T.C_Recipes "_around") := by
  refine T.F_Recipes_around.ok sc_Recipes_around (fun vs H Q E h => ?_) (fun cdv A outer s H vs Q E hr h => ?_)
  · obtain ⟨a, dx, fs, v, rfl, _⟩ := h
    rfl
  · obtain ⟨a, dx, fs, v, rfl, ha, hv, k⟩ := h
    refine ⟨_, (pss_one (ps_ret (pe_fld (pv 0) rfl))), ?_⟩
    exact ⟨_, rfl, a, T.C_Recipes, _, _, _, rfl, ha, T.cl_Recipes, T.n_Recipes__around, hv, k⟩
theorem ok_qclean (T : Gx K mg) : FnOk P w K mg base CX0 1 T.f_Recipes_clean T.fd_Recipes_clean ["self"] (spGet T.C_Recipes "_clean") := by
  refine T.F_Recipes_clean.ok sc_Recipes_clean (fun vs H Q E h => ?_) (fun cdv A outer s H vs Q E hr h => ?_)
  · obtain ⟨a, dx, fs, v, rfl, _⟩ := h
    rfl
  · obtain ⟨a, dx, fs, v, rfl, ha, hv, k⟩ := h
    refine ⟨_, (pss_one (ps_ret (pe_fld (pv 0) rfl))), ?_⟩
    exact ⟨_, rfl, a, T.C_Recipes, _, _, _, rfl, ha, T.cl_Recipes, T.n_Recipes__clean, hv, k⟩
theorem ok_safeM (T : Gx K mg) : FnOk P w K mg base CX0 4 T.f_Recipes_safe T.fd_Recipes_safe ["cls"] (spSafeM T.C_Recipes) := by
  have G_Recipes___init__ : FnOk P w K mg base CX0 2 T.f_Recipes___init__ T.fd_Recipes___init__ ["self", "through", "back", "around", "clean"] (spQInit T.C_Recipes) := ok_qInit T
  refine T.F_Recipes_safe.ok sc_Recipes_safe (fun vs H Q E h => ?_) (fun cdv A outer s H vs Q E hr h => ?_)
  · obtain ⟨rfl, _⟩ := h
    rfl
  · obtain ⟨rfl, k⟩ := h
    refine ⟨_, (pss_one (ps_ret (pe_makeL (i := 0) T.M_Recipes___init__ G_Recipes___init__ (hr.mono (by first | decide | omega)) (by rfl) (by first | exact Or.inl rfl | exact Or.inr (Or.inl rfl) | exact Or.inr (Or.inr rfl)) (b_Recipes___init__ T) pass0 (pa_cons (pe_tup (pa_cons pe_str (pa_cons pe_str (pa_cons pe_str (pa_cons pe_str (pa_cons pe_str pa_nil)))))) (pa_cons (pe_tup (pa_cons pe_str (pa_cons pe_str (pa_cons pe_str (pa_cons pe_str (pa_cons pe_str pa_nil)))))) (pa_cons (pe_tup (pa_cons pe_str (pa_cons pe_str (pa_cons pe_str (pa_cons pe_str (pa_cons pe_str pa_nil)))))) (pa_cons (pe_tup (pa_cons pe_str (pa_cons pe_str (pa_cons pe_str (pa_cons pe_str pa_nil))))) pa_nil))))))), ?_⟩
    refine ⟨rfl, ?_⟩
    refine ⟨sz_le (by simp), fun a ha => ?_⟩
    refine ⟨sz_le (by simp), fun b hb => ?_⟩
    refine ⟨sz_le (by simp), fun c hc => ?_⟩
    refine ⟨sz_le (by simp), fun d hd => ?_⟩
    refine fun p dx hp hdx hpd => ?_
    obtain ⟨hb1, ba⟩ := free_upd hb
    obtain ⟨hc1, cb⟩ := free_upd hc
    obtain ⟨hc2, ca⟩ := free_upd hc1
    obtain ⟨hd1, dc⟩ := free_upd hd
    obtain ⟨hd2, db⟩ := free_upd hd1
    obtain ⟨hd3, da⟩ := free_upd hd2
    have hp4 : H p = none := (free_upd (free_upd (free_upd (free_upd hp).1).1).1).1
    have f0 := (((Fr.new (S := []) (o := .tup (sV (SAFE.getD 0 []))) ha).trans (Fr.new (o := .tup (sV (SAFE.getD 1 []))) hb)).trans (Fr.new (o := .tup (sV (SAFE.getD 2 []))) hc)).trans (Fr.new (o := .tup (sV (SAFE.getD 3 []))) hd)
    refine mk_rec (za := SAFE.getD 0 []) (zb := SAFE.getD 1 []) (zc := SAFE.getD 2 []) (zd := SAFE.getD 3 []) hp hdx hpd ?_ ?_ ?_ ?_ (pv_safe 0 (by decide)) (pv_safe 1 (by decide)) (pv_safe 2 (by decide)) (pv_safe 3 (by decide)) fun H' f R => ⟨rfl, k p H' hp4 (f0.trans f) R⟩
    · rw [upd_ne da.symm, upd_ne ca.symm, upd_ne ba.symm, upd_same]
      rfl
    · rw [upd_ne db.symm, upd_ne cb.symm, upd_same]
      rfl
    · rw [upd_ne dc.symm, upd_same]
      rfl
    · rw [upd_same]
      rfl
end
/-! ### tuples of words that stand at addresses -/
def TupsAt (H : Hp) (ts : List Addr) (zss : List (List Str)) : Prop := ts.length = zss.length ∧ ∀ (i : Nat) (t : Addr) (z : List Str), ts[i]? = some t → zss[i]? = some z → H t = some (.tup (sV z))
theorem TupsAt.keep {H H' : Hp} {S : List Addr} {ts : List Addr} {zss : List (List Str)} (h : TupsAt H ts zss) (f : Fr S H H') (n : ∀ b ∈ S, ∀ xs, H b ≠ some (.tup xs)) : TupsAt H' ts zss := by
  obtain ⟨h1, h2⟩ := h
  exact ⟨h1, fun i t z a b => f _ _ (h2 i t z a b) fun hb => n t hb _ (h2 i t z a b)⟩
def TLAt (H : Hp) (l : Addr) (zss : List (List Str)) : Prop := ∃ ts : List Addr, H l = some (.lst (ts.map V.ref)) ∧ TupsAt H ts zss
theorem TLAt.keep {H H' : Hp} {S : List Addr} {l : Addr} {zss : List (List Str)} (h : TLAt H l zss) (f : Fr S H H') (n : ∀ b ∈ S, ∀ xs, H b ≠ some (.tup xs)) (nl : l ∉ S) : TLAt H' l zss := by
  obtain ⟨ts, h1, h2⟩ := h
  exact ⟨ts, f _ _ h1 nl, h2.keep f n⟩
theorem ref_at {ts : List Addr} {i : Nat} {x : V} (h : (ts.map V.ref)[i]? = some x) : ∃ t, x = .ref t ∧ ts[i]? = some t := by
  rw [List.getElem?_map] at h
  cases e : ts[i]? with
  | none => rw [e] at h; cases h
  | some u =>
    rw [e] at h
    exact ⟨u, (Option.some.inj h).symm, rfl⟩
theorem TupsAt.four {H : Hp} {a b c d : Addr} {za zb zc zd : List Str} (ha : H a = some (.tup (sV za))) (hb : H b = some (.tup (sV zb))) (hc : H c = some (.tup (sV zc))) (hd : H d = some (.tup (sV zd))) : TupsAt H [a, b, c, d] [za, zb, zc, zd] := by
  refine ⟨rfl, fun i t z h1 h2 => ?_⟩
  match i, h1, h2 with
  | 0, h1, h2 => cases h1; cases h2; exact ha
  | 1, h1, h2 => cases h1; cases h2; exact hb
  | 2, h1, h2 => cases h1; cases h2; exact hc
  | 3, h1, h2 => cases h1; cases h2; exact hd
  | i + 4, h1, h2 => simp at h1
/-- rules drawn: a tuple of three words and a bound -/
def WordIn (z : Str) (W : List V) : Prop := inV (.str z) W = true
instance (z : Str) (W : List V) : Decidable (WordIn z W) := by
  unfold WordIn
  infer_instance
def spRules : Sp := fun vs H Q _ => ∃ (r : Addr) (lim : Nat), vs = [.ref r, .int (lim : Int)] ∧ Rnd H r ∧ lim ≤ 8 ∧ ∀ (t : Addr) (w y c : Str) (n : Nat) (H' : Hp), H t = none → Fr [r] H H' → Rnd H' r → H' t = some (.tup [.str w, .str y, .str c, .int (n : Int)]) →
  WordIn w W0 → WordIn y W1 → WordIn c W2 → n ≤ lim → Q (.ref t) H'
theorem some_of {H H' : Hp} {S : List Addr} (f : Fr S H H') (hs : ∀ b ∈ S, ∃ o, H' b = some o) {p : Addr} (h : H' p = none) : H p = none := by
  cases e : H p with
  | none => rfl
  | some o =>
    by_cases hp : p ∈ S
    · obtain ⟨o', e'⟩ := hs p hp
      rw [e'] at h
      cases h
    · rw [f p o e hp] at h
      cases h
theorem Rnd.fresh {H H' : Hp} {r p : Addr} (f : Fr [r] H H') (R : Rnd H' r) (h : H' p = none) : H p = none := some_of f (fun b hb => by
  obtain ⟨a, c, ns, e⟩ := R
  rw [List.mem_singleton.mp hb]
  exact ⟨_, e⟩) h
theorem words_at {W : List V} (A : List Str) (h : ∀ z ∈ A, WordIn z W) {i : Nat} (hi : i < A.length) : ∃ z, atI (A.map V.str) (i : Int) = some (.str z) ∧ WordIn z W := by
  refine ⟨A[i], atI_nat ?_, h _ (List.getElem_mem hi)⟩
  rw [List.getElem?_map, List.getElem?_eq_getElem hi]
  rfl
section
variable {P : Program} {w : World} {K : PySem.W.Frag} {mg : Str → Option Value} {base : Heap}
theorem ok_rules (T : Gx K mg) : FnOk P w K mg base CX0 2 T.f__law_rules T.fd__law_rules ["_law_d", "_law_limit"] spRules := by
  have G__law_below : FnOk P w K mg base CX0 1 T.f__law_below T.fd__law_below ["_law_d", "_law_limit"] spBelow := ok_below T
  refine T.F__law_rules.ok sc__law_rules (fun vs H Q E h => ?_) (fun cdv A outer s H vs Q E hr h => ?_)
  · obtain ⟨r, lim, rfl, _⟩ := h
    rfl
  · obtain ⟨r, lim, rfl, hR, hl, k⟩ := h
    refine ⟨_, (pss_cons (ps_par (i := 2) (j := 3) (by rfl) sc__law_rules.nd rfl rfl (by decide) rfl rfl (pa_cons (pe_ix ix_list (pe_lst (pa_cons pe_str (pa_cons pe_str (pa_cons pe_str (pa_cons pe_str pa_nil))))) (pe_call G__law_below (hr.mono (by first | decide | omega)) (by rfl) T.g__law_below T.F__law_below.kp (b__law_below T) .nil pass0 (pa_cons (pv 0) (pa_cons pe_int pa_nil))) (fun _ _ => rfl)) (pa_cons (pe_ix ix_list (pe_lst (pa_cons pe_str (pa_cons pe_str pa_nil))) (pe_call G__law_below (hr.mono (by first | decide | omega)) (by rfl) T.g__law_below T.F__law_below.kp (b__law_below T) .nil pass0 (pa_cons (pv 0) (pa_cons pe_int pa_nil))) (fun _ _ => rfl)) pa_nil)) (by rfl))
      (pss_one (ps_ret (pe_tup (pa_cons (pv 2) (pa_cons (pv 3) (pa_cons (pe_ix ix_list (pe_lst (pa_cons pe_str (pa_cons pe_str (pa_cons pe_str pa_nil)))) (pe_call G__law_below (hr.mono (by first | decide | omega)) (by rfl) T.g__law_below T.F__law_below.kp (b__law_below T) .nil pass0 (pa_cons (pv 0) (pa_cons pe_int pa_nil))) (fun _ _ => rfl)) (pa_cons (pe_call G__law_below (hr.mono (by first | decide | omega)) (by rfl) T.g__law_below T.F__law_below.kp (b__law_below T) .nil pass0 (pa_cons (pv 0) (pa_cons (pe_op op_add (pv 1) pe_int) pa_nil))) pa_nil)))))))), ?_⟩
    refine ⟨sz_le (by simp), fun p hp => ?_⟩
    have R1 := hR.keep (S := []) (Fr.new (o := .lst ((["through", "back", "back", "around"] : List Str).map V.str)) hp) (by simp)
    have rp : p ≠ r := fun e => by
      obtain ⟨a, b, ns, e2⟩ := hR
      rw [e, e2] at hp
      cases hp
    refine ⟨_, rfl, r, 4, rfl, R1, by decide, by decide, fun z1 H2 hz1 f2 R2 => ?_⟩
    obtain ⟨w1, a1, m1⟩ := words_at (W := W0) ["through", "back", "back", "around"] (by decide +kernel) hz1
    refine ⟨p, _, (z1 : Int), .str w1, rfl, rfl, SqL.of (f2 _ _ upd_same (by simpa using rp)), a1, ?_⟩
    have f02 : Fr [r] H H2 := (Fr.new hp).trans f2
    refine ⟨sz_le (by simp), fun q hq => ?_⟩
    have R3 := R2.keep (S := []) (Fr.new (o := .lst ((["keep", "pass"] : List Str).map V.str)) hq) (by simp)
    have rq : q ≠ r := fun e => by
      obtain ⟨a, b, ns, e2⟩ := R2
      rw [e, e2] at hq
      cases hq
    refine ⟨_, rfl, r, 2, rfl, R3, by decide, by decide, fun z2 H4 hz2 f4 R4 => ?_⟩
    obtain ⟨w2, a2, m2⟩ := words_at (W := W1) ["keep", "pass"] (by decide +kernel) hz2
    refine ⟨q, _, (z2 : Int), .str w2, rfl, rfl, SqL.of (f4 _ _ upd_same (by simpa using rq)), a2, _, _, rfl, ?_⟩
    have f04 : Fr [r] H H4 := (f02.trans (Fr.new hq)).trans f4
    refine ⟨_, rfl, _, rfl, sz_le (by simp), fun q2 hq2 => ?_⟩
    have R5 := R4.keep (S := []) (Fr.new (o := .lst ((["used", "came", "rare"] : List Str).map V.str)) hq2) (by simp)
    have rq2 : q2 ≠ r := fun e => by
      obtain ⟨a, b, ns, e2⟩ := R4
      rw [e, e2] at hq2
      cases hq2
    refine ⟨_, rfl, r, 3, rfl, R5, by decide, by decide, fun z3 H6 hz3 f6 R6 => ?_⟩
    obtain ⟨w3, a3, m3⟩ := words_at (W := W2) ["used", "came", "rare"] (by decide +kernel) hz3
    refine ⟨q2, _, (z3 : Int), .str w3, rfl, rfl, SqL.of (f6 _ _ upd_same (by simpa using rq2)), a3, ?_⟩
    have f06 : Fr [r] H H6 := (f04.trans (Fr.new hq2)).trans f6
    refine ⟨_, rfl, _, rfl, _, _, rfl, rfl, r, lim + 1, rfl, R6, by omega, by omega, fun z4 H7 hz4 f7 R7 => ?_⟩
    refine ⟨sz_le (by simp), fun t ht => ?_⟩
    have f07 : Fr [r] H H7 := f06.trans f7
    exact k t w1 w2 w3 z4 _ (R7.fresh f07 ht) (f07.trans (Fr.new ht)) (R7.keep (S := []) (Fr.new ht) (by simp)) upd_same m1 m2 m3 (by omega)
end
/-! ### kinds of an error -/
theorem kit_own {K : PySem.W.Frag} {C : Addr} {t : Value} {b : Bool} (hc : PySem.W.isClsIn K C = true) (ht : PySem.W.typeIn K (.ref C) = some (.type "type")) (hs : PySem.W.subIn K t (.ref C) = some b) (hne : (t == .ref C) = true → b = true) : PySem.W.kitOne K t (.ref C) = some b := by
  unfold PySem.W.kitOne
  split
  · rename_i e
    rw [hne e]
  · unfold PySem.W.kitCls
    have h1 : (PySem.W.clsIn K C).isSome = true := hc
    simp only [h1, ht, beq_self_eq_true, Bool.and_true, if_true]
    exact hs
theorem ne_of_sub {K : PySem.W.Frag} {D X : Addr} (h1 : PySem.W.subIn K (.ref D) (.ref X) = some false) (h2 : PySem.W.subIn K (.ref D) (.ref D) = some true) (e : (Value.ref D == Value.ref X) = true) : false = true := by
  have e' : D = X := by simpa using e
  rw [← e', h2] at h1
  cases h1
theorem kit_ve {K : PySem.W.Frag} {D : Addr} (h : PySem.W.subIn K (.ref D) (.type "ValueError") = some true) : PySem.W.kitOne K (.ref D) (.type "ValueError") = some true := by
  unfold PySem.W.kitOne
  rw [if_neg (by simp)]
  unfold PySem.W.kitCls
  simp only [h]
  first
    | rfl
    | simp
def suiteOf : List Stmt → List Stmt
  | .Try _ (.ExceptHandler _ _ s _ :: _) _ _ _ :: _ => s
  | _ => []
section
open PySem.W
theorem pe_isi {X : Cx} {D a C : Addr} {oe : Obj} {d : Option Addr} {i : Nat} {x c : Str} {b : Bool} {p p1 p2 pos : Pos} (hE : ExcC X.K D) (hC : Cgt X D a oe d) (hg : Gl X "isinstance") (hm : X.mg "isinstance" = none) (hN : X.N[i]? = some x) (hv : Vis X.env.scope x) (hgC : Gl X c) (hmC : X.mg c = some (.ref C)) (kit : kitOne X.K (.ref D) (.ref C) = some b)
    (hd : (x == ("__debug__" : Str)) = false := by decide) (hcd : (x == ("__classdict__" : Str)) = false := by decide) (hdc : (c == ("__debug__" : Str)) = false := by decide) : PE X (.Call (.Name "isinstance" p) [.Name x p1, .Name c p2] [] pos) (fun σ H Q => (σ[i]? = some (some (.ref a)) ∧ ∃ fs, FldsAt H d fs) ∧ Q (.bl b) H) := by
  refine ⟨fun pins s σ H Q I h => PE.run (pe_callB (call_isC hE hC) hg hm (by decide +kernel) (pa_cons (pe_var hN hv hd hcd) (pa_cons (pe_glob (v := .ref C) hgC hmC rfl hdc) pa_nil))) pins s σ H Q I ?_⟩
  obtain ⟨⟨h1, fs, hf⟩, q⟩ := h
  exact ⟨_, h1, _, .ref C, _, fs, rfl, hf, (fun _ z => z), kit, q⟩
end
/-! ### what the law's _law_error_of tells -/
def ENAMES : Str := (("size cell kept block value count slot word story off on nofast hasfast unsettled" : Str) ++ (" contradiction name unknown rules recipes requests prices plan" : Str)) ++ (" failed operation notation decode" : Str)
theorem new_at {H : Hp} {p : Addr} (_ : H p = none) (o : HO) : upd H p o p = some o := upd_same
theorem split_names : (Txt.split ENAMES " ") = ([("size" : Str), ("cell" : Str), ("kept" : Str), ("block" : Str), ("value" : Str), ("count" : Str), ("slot" : Str), ("word" : Str), ("story" : Str), ("off" : Str), ("on" : Str), ("nofast" : Str), ("hasfast" : Str), ("unsettled" : Str), ("contradiction" : Str), ("name" : Str), ("unknown" : Str), ("rules" : Str), ("recipes" : Str), ("requests" : Str), ("prices" : Str), ("plan" : Str), ("failed" : Str), ("operation" : Str), ("notation" : Str), ("decode" : Str)] : List Str) := by decide +kernel
theorem idx_first {ys : List V} {y : V} {j : Nat} (h : (ys.take j).all (fun z => !eqV z y) = true) : ∀ (m : Nat) (z' : V), m < j → ys[m]? = some z' → eqV z' y = false := fun m z' hm hz => by
  have e : (ys.take j)[m]? = some z' := by rw [List.getElem?_take_of_lt hm]; exact hz
  have q := List.all_eq_true.mp h z' (List.mem_of_getElem? e)
  simpa using q

section
variable {P : Program} {w : World} {K : PySem.W.Frag} {mg : Str → Option Value} {base : Heap}
/-- the ways in which a call that is asked about may end by an error -/
def ErrEnd (T : Gx K mg) (cls : Value) (d : Option Addr) (H : Hp) (Q : VK) : Prop :=
  (∃ p : V, cls = .ref T.C_InvalidRules ∧ d ≠ none ∧ FldsAt H d [("part", p)] ∧ ∀ (t : Addr) (H'' : Hp), H t = none → Fr [] H H'' → H'' t = some (.tup [.str "rules", p]) → Q (.ref t) H'')
  ∨ (∃ p r : V, cls = .ref T.C_InvalidRecipes ∧ d ≠ none ∧ FldsAt H d [("place", r), ("part", p)] ∧ ∀ (t u : Addr) (H'' : Hp), H t = none → H u = none → Fr [] H H'' → H'' u = some (.tup [p, r]) → H'' t = some (.tup [.str "recipes", .ref u]) → Q (.ref t) H'')
theorem ok_told_InvalidRules (T : Gx K mg) {a : Addr} {oe : Obj} {d : Option Addr} (hz : L2N.Zn (.ref T.C_InvalidRules) d oe) (hf : ∃ vs, oe.data = .fields vs) : FnP P w K mg base C8.CX0 1 T.f__law_told_of (a, oe)
    (fun vs H Q _ => vs = [.ref a, .str "rules"] ∧ ∃ p : V, d ≠ none ∧ FldsAt H d [("part", p)] ∧ ∀ t, H t = none → Q (.ref t) (upd H t (.tup [.str "rules", p]))) := by
  refine FunOkP T.F__law_told_of (b__law_told_of T) sc__law_told_of (fun vs H Q E h => by obtain ⟨rfl, _⟩ := h; rfl) (fun cdv A outer s H vs Q E hr h => ?_)
  have hC : ∀ {X : Cx}, X.pn = [(a, oe)] → Cgt X T.C_InvalidRules a oe d := fun e => ⟨by rw [e]; exact List.mem_cons_self, hz, hf⟩
  have hX : PySem.W.Frag → XfC K T.C_InvalidRules := fun _ => ⟨T.E_InvalidRules.hg, T.E_InvalidRules.hk, T.E_InvalidRules.hs, T.E_InvalidRules.hd⟩
  obtain ⟨rfl, p, hd, hfl, k⟩ := h
  refine ⟨_, (pss_cons (ps_if (pt_cmpR op_eq (pv 1) pe_str (nomark _)) (pss_one (ps_ret (pe_tup (pa_cons (pv 1) (pa_cons (pe_fldC (hX K) T.no_InvalidRules_part (hC rfl) (pv 0)) pa_nil))))) pss_nil) pss_never), ?_⟩
  exact ⟨_, rfl, rfl, _, rfl, iteT ⟨_, rfl, _, rfl, rfl, _, _, hd, hfl, rfl, sz_le (by simp), fun t ht => k t ht⟩⟩
theorem ok_told_InvalidRecipes (T : Gx K mg) {a : Addr} {oe : Obj} {d : Option Addr} (hz : L2N.Zn (.ref T.C_InvalidRecipes) d oe) (hf : ∃ vs, oe.data = .fields vs) : FnP P w K mg base C8.CX0 1 T.f__law_told_of (a, oe)
    (fun vs H Q _ => vs = [.ref a, .str "recipes"] ∧ ∃ p r : V, d ≠ none ∧ FldsAt H d [("place", r), ("part", p)] ∧ ∀ u t, H u = none → (upd H u (.tup [p, r])) t = none → Q (.ref t) (upd (upd H u (.tup [p, r])) t (.tup [.str "recipes", .ref u]))) := by
  refine FunOkP T.F__law_told_of (b__law_told_of T) sc__law_told_of (fun vs H Q E h => by obtain ⟨rfl, _⟩ := h; rfl) (fun cdv A outer s H vs Q E hr h => ?_)
  have hC : ∀ {X : Cx}, X.pn = [(a, oe)] → Cgt X T.C_InvalidRecipes a oe d := fun e => ⟨by rw [e]; exact List.mem_cons_self, hz, hf⟩
  have hX : PySem.W.Frag → XfC K T.C_InvalidRecipes := fun _ => ⟨T.E_InvalidRecipes.hg, T.E_InvalidRecipes.hk, T.E_InvalidRecipes.hs, T.E_InvalidRecipes.hd⟩
  obtain ⟨rfl, p, r, hd, hfl, k⟩ := h
  refine ⟨_, (pss_cons (ps_if (pt_cmpR op_eq (pv 1) pe_str (nomark _)) pss_never pss_nil) (pss_cons (ps_if (pt_cmpR op_eq (pv 1) pe_str (nomark _)) (pss_one (ps_ret (pe_tup (pa_cons (pv 1) (pa_cons (pe_tup (pa_cons (pe_fldC (hX K) T.no_InvalidRecipes_part (hC rfl) (pv 0)) (pa_cons (pe_fldC (hX K) T.no_InvalidRecipes_place (hC rfl) (pv 0)) pa_nil))) pa_nil))))) pss_nil) pss_never)), ?_⟩
  exact ⟨_, rfl, rfl, _, rfl, iteF ⟨_, rfl, rfl, _, rfl, iteT ⟨_, rfl, _, rfl, rfl, _, _, hd, hfl, rfl, _, rfl, rfl, _, _, hd, hfl, rfl, sz_le (by simp), fun u hu => ⟨sz_le (by simp), fun t ht => k u t hu ht⟩⟩⟩⟩
def kinds_InvalidRules : List V := [.bl false, .bl false, .bl false, .bl false, .bl false, .bl false, .bl false, .bl false, .bl false, .bl false, .bl false, .bl false, .bl false, .bl false, .bl false, .bl false, .bl false, .bl true, .bl false, .bl false, .bl false, .bl false, .bl false, .bl false, .bl false, .bl false]
theorem kinds_InvalidRules_cnt : kinds_InvalidRules.countP (fun z => eqV z (.bl true)) = 1 := by decide +kernel
theorem kinds_InvalidRules_all : kinds_InvalidRules.all flatV = true := by decide +kernel
theorem kinds_InvalidRules_at : kinds_InvalidRules[17]? = some (.bl true) := by decide +kernel
theorem kinds_InvalidRules_fst : ∀ (m : Nat) (z' : V), m < 17 → kinds_InvalidRules[m]? = some z' → eqV z' (.bl true) = false := idx_first (by decide +kernel)
theorem suite_InvalidRules (T : Gx K mg) {A : Around} {outer : List Env} {s : Shared} {H0 : Hp} {E : XK} {cdv : Value} {a : Addr} {oe : Obj} {d : Option Addr} {pn : List (Addr × Obj)} (hr : Room 2 (A.deeper (PyProof.Rows.envOfC "_law_error_of" (defScope s__law_error_of) s.heap.objs.size T.f__law_error_of cdv))) (hz : L2N.Zn (.ref T.C_InvalidRules) d oe) (hf : ∃ vs, oe.data = .fields vs) :
    PSs ((cxOf C8.CX0 P w K mg base ["_law_call", "_law_e", "_law_kinds", "_law_names"] "_law_error_of" (defScope s__law_error_of) T.f__law_error_of cdv A outer s H0 E).suite a ((a, oe) :: pn)) (suiteOf (defBody s__law_error_of)) (fun D σ H => (∃ (x : V) (v2 v3 : Option V), σ = [some x, some (.ref a), v2, v3]) ∧ (∃ p : V, d ≠ none ∧ FldsAt H d [("part", p)] ∧ ∀ (t : Addr) (H'' : Hp), H t = none → Fr [] H H'' → H'' t = some (.tup [.str "rules", p]) → D.rt (.ref t) H'')) := by
  have hC : Cgt ((cxOf C8.CX0 P w K mg base ["_law_call", "_law_e", "_law_kinds", "_law_names"] "_law_error_of" (defScope s__law_error_of) T.f__law_error_of cdv A outer s H0 E).suite a ((a, oe) :: pn)) T.C_InvalidRules a oe d := ⟨List.mem_cons_self, hz, hf⟩
  have hE : ExcC ((cxOf C8.CX0 P w K mg base ["_law_call", "_law_e", "_law_kinds", "_law_names"] "_law_error_of" (defScope s__law_error_of) T.f__law_error_of cdv A outer s H0 E).suite a ((a, oe) :: pn)).K T.C_InvalidRules := T.E_InvalidRules
  have hT := ok_told_InvalidRules (P := P) (w := w) (base := base) T (a := a) hz hf
  have hHot : L2H.Hot1 ((cxOf C8.CX0 P w K mg base ["_law_call", "_law_e", "_law_kinds", "_law_names"] "_law_error_of" (defScope s__law_error_of) T.f__law_error_of cdv A outer s H0 E).suite a ((a, oe) :: pn)).A (a, oe) := ⟨rfl, by
    obtain ⟨vs, hv⟩ := hf
    exact ⟨vs, hv, hz.2.2 vs hv⟩⟩
  refine ⟨fun pins s' σ H D I h => PSs.run (C8.pss_cut (ps_set (i := 2) sc__law_error_of.nd rfl (.inl rfl) (pe_lst (pa_cons (pe_isi (i := 1) hE hC (by rfl) T.z_isinstance rfl (by first | exact Or.inl rfl | exact Or.inr (Or.inl rfl) | exact Or.inr (Or.inr rfl)) (by rfl) T.gC_InvalidSize (kit_own T.ic_InvalidSize T.ty_InvalidSize T.sb_InvalidRules_InvalidSize (fun e => (ne_of_sub T.sb_InvalidRules_InvalidSize T.sb_InvalidRules_InvalidRules e)))) (pa_cons (pe_isi (i := 1) hE hC (by rfl) T.z_isinstance rfl (by first | exact Or.inl rfl | exact Or.inr (Or.inl rfl) | exact Or.inr (Or.inr rfl)) (by rfl) T.gC_InvalidCell (kit_own T.ic_InvalidCell T.ty_InvalidCell T.sb_InvalidRules_InvalidCell (fun e => (ne_of_sub T.sb_InvalidRules_InvalidCell T.sb_InvalidRules_InvalidRules e)))) (pa_cons (pe_isi (i := 1) hE hC (by rfl) T.z_isinstance rfl (by first | exact Or.inl rfl | exact Or.inr (Or.inl rfl) | exact Or.inr (Or.inr rfl)) (by rfl) T.gC_InvalidKept (kit_own T.ic_InvalidKept T.ty_InvalidKept T.sb_InvalidRules_InvalidKept (fun e => (ne_of_sub T.sb_InvalidRules_InvalidKept T.sb_InvalidRules_InvalidRules e)))) pa_nil)))))
      (C8.pss_cut (ps_set (i := 2) sc__law_error_of.nd rfl (.inl rfl) (pe_op op_cat (pv 2) (pe_lst (pa_cons (pe_isi (i := 1) hE hC (by rfl) T.z_isinstance rfl (by first | exact Or.inl rfl | exact Or.inr (Or.inl rfl) | exact Or.inr (Or.inr rfl)) (by rfl) T.gC_InvalidBlock (kit_own T.ic_InvalidBlock T.ty_InvalidBlock T.sb_InvalidRules_InvalidBlock (fun e => (ne_of_sub T.sb_InvalidRules_InvalidBlock T.sb_InvalidRules_InvalidRules e)))) (pa_cons (pe_isi (i := 1) hE hC (by rfl) T.z_isinstance rfl (by first | exact Or.inl rfl | exact Or.inr (Or.inl rfl) | exact Or.inr (Or.inr rfl)) (by rfl) T.gC_InvalidValue (kit_own T.ic_InvalidValue T.ty_InvalidValue T.sb_InvalidRules_InvalidValue (fun e => (ne_of_sub T.sb_InvalidRules_InvalidValue T.sb_InvalidRules_InvalidRules e)))) (pa_cons (pe_isi (i := 1) hE hC (by rfl) T.z_isinstance rfl (by first | exact Or.inl rfl | exact Or.inr (Or.inl rfl) | exact Or.inr (Or.inr rfl)) (by rfl) T.gC_InvalidCount (kit_own T.ic_InvalidCount T.ty_InvalidCount T.sb_InvalidRules_InvalidCount (fun e => (ne_of_sub T.sb_InvalidRules_InvalidCount T.sb_InvalidRules_InvalidRules e)))) pa_nil))))))
      (C8.pss_cut (ps_set (i := 2) sc__law_error_of.nd rfl (.inl rfl) (pe_op op_cat (pv 2) (pe_lst (pa_cons (pe_isi (i := 1) hE hC (by rfl) T.z_isinstance rfl (by first | exact Or.inl rfl | exact Or.inr (Or.inl rfl) | exact Or.inr (Or.inr rfl)) (by rfl) T.gC_InvalidSlot (kit_own T.ic_InvalidSlot T.ty_InvalidSlot T.sb_InvalidRules_InvalidSlot (fun e => (ne_of_sub T.sb_InvalidRules_InvalidSlot T.sb_InvalidRules_InvalidRules e)))) (pa_cons (pe_isi (i := 1) hE hC (by rfl) T.z_isinstance rfl (by first | exact Or.inl rfl | exact Or.inr (Or.inl rfl) | exact Or.inr (Or.inr rfl)) (by rfl) T.gC_InvalidWord (kit_own T.ic_InvalidWord T.ty_InvalidWord T.sb_InvalidRules_InvalidWord (fun e => (ne_of_sub T.sb_InvalidRules_InvalidWord T.sb_InvalidRules_InvalidRules e)))) (pa_cons (pe_isi (i := 1) hE hC (by rfl) T.z_isinstance rfl (by first | exact Or.inl rfl | exact Or.inr (Or.inl rfl) | exact Or.inr (Or.inr rfl)) (by rfl) T.gC_InvalidStory (kit_own T.ic_InvalidStory T.ty_InvalidStory T.sb_InvalidRules_InvalidStory (fun e => (ne_of_sub T.sb_InvalidRules_InvalidStory T.sb_InvalidRules_InvalidRules e)))) pa_nil))))))
      (C8.pss_cut (ps_set (i := 2) sc__law_error_of.nd rfl (.inl rfl) (pe_op op_cat (pv 2) (pe_lst (pa_cons (pe_isi (i := 1) hE hC (by rfl) T.z_isinstance rfl (by first | exact Or.inl rfl | exact Or.inr (Or.inl rfl) | exact Or.inr (Or.inr rfl)) (by rfl) T.gC_PowerOff (kit_own T.ic_PowerOff T.ty_PowerOff T.sb_InvalidRules_PowerOff (fun e => (ne_of_sub T.sb_InvalidRules_PowerOff T.sb_InvalidRules_InvalidRules e)))) (pa_cons (pe_isi (i := 1) hE hC (by rfl) T.z_isinstance rfl (by first | exact Or.inl rfl | exact Or.inr (Or.inl rfl) | exact Or.inr (Or.inr rfl)) (by rfl) T.gC_PowerOn (kit_own T.ic_PowerOn T.ty_PowerOn T.sb_InvalidRules_PowerOn (fun e => (ne_of_sub T.sb_InvalidRules_PowerOn T.sb_InvalidRules_InvalidRules e)))) (pa_cons (pe_isi (i := 1) hE hC (by rfl) T.z_isinstance rfl (by first | exact Or.inl rfl | exact Or.inr (Or.inl rfl) | exact Or.inr (Or.inr rfl)) (by rfl) T.gC_NoFastDisk (kit_own T.ic_NoFastDisk T.ty_NoFastDisk T.sb_InvalidRules_NoFastDisk (fun e => (ne_of_sub T.sb_InvalidRules_NoFastDisk T.sb_InvalidRules_InvalidRules e)))) pa_nil))))))
      (C8.pss_cut (ps_set (i := 2) sc__law_error_of.nd rfl (.inl rfl) (pe_op op_cat (pv 2) (pe_lst (pa_cons (pe_isi (i := 1) hE hC (by rfl) T.z_isinstance rfl (by first | exact Or.inl rfl | exact Or.inr (Or.inl rfl) | exact Or.inr (Or.inr rfl)) (by rfl) T.gC_HasFastDisk (kit_own T.ic_HasFastDisk T.ty_HasFastDisk T.sb_InvalidRules_HasFastDisk (fun e => (ne_of_sub T.sb_InvalidRules_HasFastDisk T.sb_InvalidRules_InvalidRules e)))) (pa_cons (pe_isi (i := 1) hE hC (by rfl) T.z_isinstance rfl (by first | exact Or.inl rfl | exact Or.inr (Or.inl rfl) | exact Or.inr (Or.inr rfl)) (by rfl) T.gC_Unsettled (kit_own T.ic_Unsettled T.ty_Unsettled T.sb_InvalidRules_Unsettled (fun e => (ne_of_sub T.sb_InvalidRules_Unsettled T.sb_InvalidRules_InvalidRules e)))) (pa_cons (pe_isi (i := 1) hE hC (by rfl) T.z_isinstance rfl (by first | exact Or.inl rfl | exact Or.inr (Or.inl rfl) | exact Or.inr (Or.inr rfl)) (by rfl) T.gC_Contradiction (kit_own T.ic_Contradiction T.ty_Contradiction T.sb_InvalidRules_Contradiction (fun e => (ne_of_sub T.sb_InvalidRules_Contradiction T.sb_InvalidRules_InvalidRules e)))) pa_nil))))))
      (C8.pss_cut (ps_set (i := 2) sc__law_error_of.nd rfl (.inl rfl) (pe_op op_cat (pv 2) (pe_lst (pa_cons (pe_isi (i := 1) hE hC (by rfl) T.z_isinstance rfl (by first | exact Or.inl rfl | exact Or.inr (Or.inl rfl) | exact Or.inr (Or.inr rfl)) (by rfl) T.gC_InvalidName (kit_own T.ic_InvalidName T.ty_InvalidName T.sb_InvalidRules_InvalidName (fun e => (ne_of_sub T.sb_InvalidRules_InvalidName T.sb_InvalidRules_InvalidRules e)))) (pa_cons (pe_isi (i := 1) hE hC (by rfl) T.z_isinstance rfl (by first | exact Or.inl rfl | exact Or.inr (Or.inl rfl) | exact Or.inr (Or.inr rfl)) (by rfl) T.gC_UnknownName (kit_own T.ic_UnknownName T.ty_UnknownName T.sb_InvalidRules_UnknownName (fun e => (ne_of_sub T.sb_InvalidRules_UnknownName T.sb_InvalidRules_InvalidRules e)))) (pa_cons (pe_isi (i := 1) hE hC (by rfl) T.z_isinstance rfl (by first | exact Or.inl rfl | exact Or.inr (Or.inl rfl) | exact Or.inr (Or.inr rfl)) (by rfl) T.gC_InvalidRules (kit_own T.ic_InvalidRules T.ty_InvalidRules T.sb_InvalidRules_InvalidRules (fun _ => rfl))) pa_nil))))))
      (C8.pss_cut (ps_set (i := 2) sc__law_error_of.nd rfl (.inl rfl) (pe_op op_cat (pv 2) (pe_lst (pa_cons (pe_isi (i := 1) hE hC (by rfl) T.z_isinstance rfl (by first | exact Or.inl rfl | exact Or.inr (Or.inl rfl) | exact Or.inr (Or.inr rfl)) (by rfl) T.gC_InvalidRecipes (kit_own T.ic_InvalidRecipes T.ty_InvalidRecipes T.sb_InvalidRules_InvalidRecipes (fun e => (ne_of_sub T.sb_InvalidRules_InvalidRecipes T.sb_InvalidRules_InvalidRules e)))) (pa_cons (pe_isi (i := 1) hE hC (by rfl) T.z_isinstance rfl (by first | exact Or.inl rfl | exact Or.inr (Or.inl rfl) | exact Or.inr (Or.inr rfl)) (by rfl) T.gC_InvalidRequests (kit_own T.ic_InvalidRequests T.ty_InvalidRequests T.sb_InvalidRules_InvalidRequests (fun e => (ne_of_sub T.sb_InvalidRules_InvalidRequests T.sb_InvalidRules_InvalidRules e)))) (pa_cons (pe_isi (i := 1) hE hC (by rfl) T.z_isinstance rfl (by first | exact Or.inl rfl | exact Or.inr (Or.inl rfl) | exact Or.inr (Or.inr rfl)) (by rfl) T.gC_InvalidPrices (kit_own T.ic_InvalidPrices T.ty_InvalidPrices T.sb_InvalidRules_InvalidPrices (fun e => (ne_of_sub T.sb_InvalidRules_InvalidPrices T.sb_InvalidRules_InvalidRules e)))) pa_nil))))))
      (C8.pss_cut (ps_set (i := 2) sc__law_error_of.nd rfl (.inl rfl) (pe_op op_cat (pv 2) (pe_lst (pa_cons (pe_isi (i := 1) hE hC (by rfl) T.z_isinstance rfl (by first | exact Or.inl rfl | exact Or.inr (Or.inl rfl) | exact Or.inr (Or.inr rfl)) (by rfl) T.gC_InvalidPlan (kit_own T.ic_InvalidPlan T.ty_InvalidPlan T.sb_InvalidRules_InvalidPlan (fun e => (ne_of_sub T.sb_InvalidRules_InvalidPlan T.sb_InvalidRules_InvalidRules e)))) (pa_cons (pe_isi (i := 1) hE hC (by rfl) T.z_isinstance rfl (by first | exact Or.inl rfl | exact Or.inr (Or.inl rfl) | exact Or.inr (Or.inr rfl)) (by rfl) T.gC_PowerFailed (kit_own T.ic_PowerFailed T.ty_PowerFailed T.sb_InvalidRules_PowerFailed (fun e => (ne_of_sub T.sb_InvalidRules_PowerFailed T.sb_InvalidRules_InvalidRules e)))) (pa_cons (pe_isi (i := 1) hE hC (by rfl) T.z_isinstance rfl (by first | exact Or.inl rfl | exact Or.inr (Or.inl rfl) | exact Or.inr (Or.inr rfl)) (by rfl) T.gC_InvalidOperation (kit_own T.ic_InvalidOperation T.ty_InvalidOperation T.sb_InvalidRules_InvalidOperation (fun e => (ne_of_sub T.sb_InvalidRules_InvalidOperation T.sb_InvalidRules_InvalidRules e)))) pa_nil))))))
      (C8.pss_cut (ps_set (i := 2) sc__law_error_of.nd rfl (.inl rfl) (pe_op op_cat (pv 2) (pe_lst (pa_cons (pe_isi (i := 1) hE hC (by rfl) T.z_isinstance rfl (by first | exact Or.inl rfl | exact Or.inr (Or.inl rfl) | exact Or.inr (Or.inr rfl)) (by rfl) T.gC_NotationError (kit_own T.ic_NotationError T.ty_NotationError T.sb_InvalidRules_NotationError (fun e => (ne_of_sub T.sb_InvalidRules_NotationError T.sb_InvalidRules_InvalidRules e)))) (pa_cons (pe_isi (i := 1) hE hC (by rfl) T.z_isinstance rfl (by first | exact Or.inl rfl | exact Or.inr (Or.inl rfl) | exact Or.inr (Or.inr rfl)) (by rfl) T.gC_DecodeError (kit_own T.ic_DecodeError T.ty_DecodeError T.sb_InvalidRules_DecodeError (fun e => (ne_of_sub T.sb_InvalidRules_DecodeError T.sb_InvalidRules_InvalidRules e)))) pa_nil)))))
      (pss_cons (ps_if (PW.pt (pw_or (pt_cmpR op_ne (pe_bm PySem.F.plainAttrs_list PySem.F.slot_list_count PySem.F.type_list_count mt_lcountV (pv 2) (pa_cons pe_bl pa_nil)) pe_int (nomark _)) (pw_or1 (pt_not (pt_val (pe_callB (call_isC hE hC) (by rfl) T.z_isinstance (by decide +kernel) (pa_cons (pv 1) (pa_cons (pe_bltn (v := .ty "ValueError") (by rfl) T.z_ValueError (by decide +kernel) rfl) pa_nil)))))))) (pss_one (ps_ret (pe_tup (pa_cons pe_str (pa_cons pe_int pa_nil))))) pss_nil)
      (pss_cons (ps_set (i := 3) sc__law_error_of.nd rfl (.inl rfl) pe_str)
      (pss_cons (ps_set (i := 3) sc__law_error_of.nd rfl (.inl rfl) (pe_op op_add_str (pv 3) pe_str))
      (pss_cons (ps_set (i := 3) sc__law_error_of.nd rfl (.inl rfl) (pe_op op_add_str (pv 3) pe_str))
      (pss_one (ps_ret (pe_callP hT (L2H.roomH_mark (hr.mono (by first | decide | omega)) _) hHot List.mem_cons_self (by rfl) T.g__law_told_of T.F__law_told_of.kp (pa_cons (pv 1) (pa_cons (pe_ix ix_list (pe_bm PySem.F.plainAttrs_str PySem.F.slot_str_split PySem.F.type_str_split mt_split (pv 3) (pa_cons pe_str pa_nil)) (pe_bm PySem.F.plainAttrs_list PySem.F.slot_list_index PySem.F.type_list_index mt_index (pv 2) (pa_cons pe_bl pa_nil)) (fun _ _ => rfl)) pa_nil)))))))))))))))))) pins s' σ H D I ?_⟩
  obtain ⟨⟨x, v2, v3, rfl⟩, p, hd, hfl, k⟩ := h
  have F0 := Fr.refl [] H
  refine ⟨fun σ' H' => ∃ k : Addr, σ' = [some x, some (.ref a), some (.ref k), v3] ∧ Fr [] H H' ∧ FldsAt H' d [("part", p)] ∧ H' k = some (.lst (kinds_InvalidRules.take 3)), ?_, ?_⟩
  · exact ⟨⟨rfl, _, hfl⟩, ⟨⟨rfl, _, hfl⟩, ⟨⟨rfl, _, hfl⟩, ⟨sz_le (by decide), fun q hq => ⟨q, rfl, Fr.new hq, FldsAt.keep (S := []) hfl (Fr.new hq) (by simp), upd_same⟩⟩⟩⟩⟩
  rintro _ G1 ⟨k1, rfl, F1, h1, r1⟩
  refine ⟨fun σ' H' => ∃ k : Addr, σ' = [some x, some (.ref a), some (.ref k), v3] ∧ Fr [] H H' ∧ FldsAt H' d [("part", p)] ∧ H' k = some (.lst (kinds_InvalidRules.take 6)), ?_, ?_⟩
  · exact ⟨_, rfl, ⟨⟨rfl, _, h1⟩, ⟨⟨rfl, _, h1⟩, ⟨⟨rfl, _, h1⟩, ⟨sz_le (by decide), fun q hq => ⟨k1, q, _, _, rfl, rfl, (upd_ne (ne_of_none r1 hq)).trans r1, upd_same, sz_le (by decide), fun k' hk' => ⟨k', rfl, (F1.trans (Fr.new hq)).trans (Fr.new hk'), FldsAt.keep (S := []) (FldsAt.keep (S := []) h1 (Fr.new hq) (by simp)) (Fr.new hk') (by simp), upd_same⟩⟩⟩⟩⟩⟩⟩
  rintro _ G2 ⟨k2, rfl, F2, h2, r2⟩
  refine ⟨fun σ' H' => ∃ k : Addr, σ' = [some x, some (.ref a), some (.ref k), v3] ∧ Fr [] H H' ∧ FldsAt H' d [("part", p)] ∧ H' k = some (.lst (kinds_InvalidRules.take 9)), ?_, ?_⟩
  · exact ⟨_, rfl, ⟨⟨rfl, _, h2⟩, ⟨⟨rfl, _, h2⟩, ⟨⟨rfl, _, h2⟩, ⟨sz_le (by decide), fun q hq => ⟨k2, q, _, _, rfl, rfl, (upd_ne (ne_of_none r2 hq)).trans r2, upd_same, sz_le (by decide), fun k' hk' => ⟨k', rfl, (F2.trans (Fr.new hq)).trans (Fr.new hk'), FldsAt.keep (S := []) (FldsAt.keep (S := []) h2 (Fr.new hq) (by simp)) (Fr.new hk') (by simp), upd_same⟩⟩⟩⟩⟩⟩⟩
  rintro _ G3 ⟨k3, rfl, F3, h3, r3⟩
  refine ⟨fun σ' H' => ∃ k : Addr, σ' = [some x, some (.ref a), some (.ref k), v3] ∧ Fr [] H H' ∧ FldsAt H' d [("part", p)] ∧ H' k = some (.lst (kinds_InvalidRules.take 12)), ?_, ?_⟩
  · exact ⟨_, rfl, ⟨⟨rfl, _, h3⟩, ⟨⟨rfl, _, h3⟩, ⟨⟨rfl, _, h3⟩, ⟨sz_le (by decide), fun q hq => ⟨k3, q, _, _, rfl, rfl, (upd_ne (ne_of_none r3 hq)).trans r3, upd_same, sz_le (by decide), fun k' hk' => ⟨k', rfl, (F3.trans (Fr.new hq)).trans (Fr.new hk'), FldsAt.keep (S := []) (FldsAt.keep (S := []) h3 (Fr.new hq) (by simp)) (Fr.new hk') (by simp), upd_same⟩⟩⟩⟩⟩⟩⟩
  rintro _ G4 ⟨k4, rfl, F4, h4, r4⟩
  refine ⟨fun σ' H' => ∃ k : Addr, σ' = [some x, some (.ref a), some (.ref k), v3] ∧ Fr [] H H' ∧ FldsAt H' d [("part", p)] ∧ H' k = some (.lst (kinds_InvalidRules.take 15)), ?_, ?_⟩
  · exact ⟨_, rfl, ⟨⟨rfl, _, h4⟩, ⟨⟨rfl, _, h4⟩, ⟨⟨rfl, _, h4⟩, ⟨sz_le (by decide), fun q hq => ⟨k4, q, _, _, rfl, rfl, (upd_ne (ne_of_none r4 hq)).trans r4, upd_same, sz_le (by decide), fun k' hk' => ⟨k', rfl, (F4.trans (Fr.new hq)).trans (Fr.new hk'), FldsAt.keep (S := []) (FldsAt.keep (S := []) h4 (Fr.new hq) (by simp)) (Fr.new hk') (by simp), upd_same⟩⟩⟩⟩⟩⟩⟩
  rintro _ G5 ⟨k5, rfl, F5, h5, r5⟩
  refine ⟨fun σ' H' => ∃ k : Addr, σ' = [some x, some (.ref a), some (.ref k), v3] ∧ Fr [] H H' ∧ FldsAt H' d [("part", p)] ∧ H' k = some (.lst (kinds_InvalidRules.take 18)), ?_, ?_⟩
  · exact ⟨_, rfl, ⟨⟨rfl, _, h5⟩, ⟨⟨rfl, _, h5⟩, ⟨⟨rfl, _, h5⟩, ⟨sz_le (by decide), fun q hq => ⟨k5, q, _, _, rfl, rfl, (upd_ne (ne_of_none r5 hq)).trans r5, upd_same, sz_le (by decide), fun k' hk' => ⟨k', rfl, (F5.trans (Fr.new hq)).trans (Fr.new hk'), FldsAt.keep (S := []) (FldsAt.keep (S := []) h5 (Fr.new hq) (by simp)) (Fr.new hk') (by simp), upd_same⟩⟩⟩⟩⟩⟩⟩
  rintro _ G6 ⟨k6, rfl, F6, h6, r6⟩
  refine ⟨fun σ' H' => ∃ k : Addr, σ' = [some x, some (.ref a), some (.ref k), v3] ∧ Fr [] H H' ∧ FldsAt H' d [("part", p)] ∧ H' k = some (.lst (kinds_InvalidRules.take 21)), ?_, ?_⟩
  · exact ⟨_, rfl, ⟨⟨rfl, _, h6⟩, ⟨⟨rfl, _, h6⟩, ⟨⟨rfl, _, h6⟩, ⟨sz_le (by decide), fun q hq => ⟨k6, q, _, _, rfl, rfl, (upd_ne (ne_of_none r6 hq)).trans r6, upd_same, sz_le (by decide), fun k' hk' => ⟨k', rfl, (F6.trans (Fr.new hq)).trans (Fr.new hk'), FldsAt.keep (S := []) (FldsAt.keep (S := []) h6 (Fr.new hq) (by simp)) (Fr.new hk') (by simp), upd_same⟩⟩⟩⟩⟩⟩⟩
  rintro _ G7 ⟨k7, rfl, F7, h7, r7⟩
  refine ⟨fun σ' H' => ∃ k : Addr, σ' = [some x, some (.ref a), some (.ref k), v3] ∧ Fr [] H H' ∧ FldsAt H' d [("part", p)] ∧ H' k = some (.lst (kinds_InvalidRules.take 24)), ?_, ?_⟩
  · exact ⟨_, rfl, ⟨⟨rfl, _, h7⟩, ⟨⟨rfl, _, h7⟩, ⟨⟨rfl, _, h7⟩, ⟨sz_le (by decide), fun q hq => ⟨k7, q, _, _, rfl, rfl, (upd_ne (ne_of_none r7 hq)).trans r7, upd_same, sz_le (by decide), fun k' hk' => ⟨k', rfl, (F7.trans (Fr.new hq)).trans (Fr.new hk'), FldsAt.keep (S := []) (FldsAt.keep (S := []) h7 (Fr.new hq) (by simp)) (Fr.new hk') (by simp), upd_same⟩⟩⟩⟩⟩⟩⟩
  rintro _ G8 ⟨k8, rfl, F8, h8, r8⟩
  refine ⟨fun σ' H' => ∃ k : Addr, σ' = [some x, some (.ref a), some (.ref k), v3] ∧ Fr [] H H' ∧ FldsAt H' d [("part", p)] ∧ H' k = some (.lst (kinds_InvalidRules.take 26)), ?_, ?_⟩
  · exact ⟨_, rfl, ⟨⟨rfl, _, h8⟩, ⟨⟨rfl, _, h8⟩, ⟨sz_le (by decide), fun q hq => ⟨k8, q, _, _, rfl, rfl, (upd_ne (ne_of_none r8 hq)).trans r8, upd_same, sz_le (by decide), fun k' hk' => ⟨k', rfl, (F8.trans (Fr.new hq)).trans (Fr.new hk'), FldsAt.keep (S := []) (FldsAt.keep (S := []) h8 (Fr.new hq) (by simp)) (Fr.new hk') (by simp), upd_same⟩⟩⟩⟩⟩⟩
  rintro _ G9 ⟨k9, rfl, F9, h9, r9⟩
  have rk : G9 k9 = some (HO.lst kinds_InvalidRules) := r9
  refine ⟨_, rfl, .inl ⟨rfl, _, SqL.of rk⟩, k9, kinds_InvalidRules, .bl true, rfl, rfl, SqL.of rk, rfl, kinds_InvalidRules_all, ?_⟩
  rw [kinds_InvalidRules_cnt]
  refine ⟨rfl, _, rfl, iteF ?_⟩
  refine ⟨_, rfl, _, .type "ValueError", true, _, rfl, h9, (fun _ z => z), kit_ve T.vb_InvalidRules, _, rfl, iteF ?_⟩
  refine ⟨_, rfl, _, _, rfl, rfl, sz_le (by decide), ?_⟩
  refine ⟨_, rfl, _, _, rfl, rfl, sz_le (by decide), ?_⟩
  refine ⟨_, rfl, _, rfl, rfl, _, _, rfl, rfl, by decide +kernel, sz_le (by decide +kernel), fun z hz' => ?_⟩
  have rz := (upd_ne (o := .lst ((Txt.split ENAMES " ").map V.str)) (ne_of_none rk hz')).trans rk
  refine ⟨_, rfl, .inl ⟨rfl, _, SqL.of rz⟩, k9, kinds_InvalidRules, .bl true, 17, .bl true, rfl, rfl, SqL.of rz, rfl, kinds_InvalidRules_all, kinds_InvalidRules_at, rfl, kinds_InvalidRules_fst, ?_⟩
  refine ⟨z, _, (17 : Int), .str "rules", rfl, rfl, SqL.of upd_same, atI_nat (j := 17) (by show ((Txt.split ENAMES " ").map V.str)[17]? = _; rw [split_names]; rfl), rfl, ?_⟩
  have hZ := FldsAt.keep (S := []) h9 (Fr.new (o := .lst ((Txt.split ENAMES " ").map V.str)) hz') (by simp)
  have FZ := F9.trans (Fr.new (o := .lst ((Txt.split ENAMES " ").map V.str)) hz')
  exact ⟨p, hd, hZ, fun t ht => k t _ (some_of FZ (by simp) ht) (FZ.trans (Fr.new ht)) upd_same⟩
def kinds_InvalidRecipes : List V := [.bl false, .bl false, .bl false, .bl false, .bl false, .bl false, .bl false, .bl false, .bl false, .bl false, .bl false, .bl false, .bl false, .bl false, .bl false, .bl false, .bl false, .bl false, .bl true, .bl false, .bl false, .bl false, .bl false, .bl false, .bl false, .bl false]
theorem kinds_InvalidRecipes_cnt : kinds_InvalidRecipes.countP (fun z => eqV z (.bl true)) = 1 := by decide +kernel
theorem kinds_InvalidRecipes_all : kinds_InvalidRecipes.all flatV = true := by decide +kernel
theorem kinds_InvalidRecipes_at : kinds_InvalidRecipes[18]? = some (.bl true) := by decide +kernel
theorem kinds_InvalidRecipes_fst : ∀ (m : Nat) (z' : V), m < 18 → kinds_InvalidRecipes[m]? = some z' → eqV z' (.bl true) = false := idx_first (by decide +kernel)
theorem suite_InvalidRecipes (T : Gx K mg) {A : Around} {outer : List Env} {s : Shared} {H0 : Hp} {E : XK} {cdv : Value} {a : Addr} {oe : Obj} {d : Option Addr} {pn : List (Addr × Obj)} (hr : Room 2 (A.deeper (PyProof.Rows.envOfC "_law_error_of" (defScope s__law_error_of) s.heap.objs.size T.f__law_error_of cdv))) (hz : L2N.Zn (.ref T.C_InvalidRecipes) d oe) (hf : ∃ vs, oe.data = .fields vs) :
    PSs ((cxOf C8.CX0 P w K mg base ["_law_call", "_law_e", "_law_kinds", "_law_names"] "_law_error_of" (defScope s__law_error_of) T.f__law_error_of cdv A outer s H0 E).suite a ((a, oe) :: pn)) (suiteOf (defBody s__law_error_of)) (fun D σ H => (∃ (x : V) (v2 v3 : Option V), σ = [some x, some (.ref a), v2, v3]) ∧ (∃ p r : V, d ≠ none ∧ FldsAt H d [("place", r), ("part", p)] ∧ ∀ (t u : Addr) (H'' : Hp), H t = none → H u = none → Fr [] H H'' → H'' u = some (.tup [p, r]) → H'' t = some (.tup [.str "recipes", .ref u]) → D.rt (.ref t) H'')) := by
  have hC : Cgt ((cxOf C8.CX0 P w K mg base ["_law_call", "_law_e", "_law_kinds", "_law_names"] "_law_error_of" (defScope s__law_error_of) T.f__law_error_of cdv A outer s H0 E).suite a ((a, oe) :: pn)) T.C_InvalidRecipes a oe d := ⟨List.mem_cons_self, hz, hf⟩
  have hE : ExcC ((cxOf C8.CX0 P w K mg base ["_law_call", "_law_e", "_law_kinds", "_law_names"] "_law_error_of" (defScope s__law_error_of) T.f__law_error_of cdv A outer s H0 E).suite a ((a, oe) :: pn)).K T.C_InvalidRecipes := T.E_InvalidRecipes
  have hT := ok_told_InvalidRecipes (P := P) (w := w) (base := base) T (a := a) hz hf
  have hHot : L2H.Hot1 ((cxOf C8.CX0 P w K mg base ["_law_call", "_law_e", "_law_kinds", "_law_names"] "_law_error_of" (defScope s__law_error_of) T.f__law_error_of cdv A outer s H0 E).suite a ((a, oe) :: pn)).A (a, oe) := ⟨rfl, by
    obtain ⟨vs, hv⟩ := hf
    exact ⟨vs, hv, hz.2.2 vs hv⟩⟩
  refine ⟨fun pins s' σ H D I h => PSs.run (C8.pss_cut (ps_set (i := 2) sc__law_error_of.nd rfl (.inl rfl) (pe_lst (pa_cons (pe_isi (i := 1) hE hC (by rfl) T.z_isinstance rfl (by first | exact Or.inl rfl | exact Or.inr (Or.inl rfl) | exact Or.inr (Or.inr rfl)) (by rfl) T.gC_InvalidSize (kit_own T.ic_InvalidSize T.ty_InvalidSize T.sb_InvalidRecipes_InvalidSize (fun e => (ne_of_sub T.sb_InvalidRecipes_InvalidSize T.sb_InvalidRecipes_InvalidRecipes e)))) (pa_cons (pe_isi (i := 1) hE hC (by rfl) T.z_isinstance rfl (by first | exact Or.inl rfl | exact Or.inr (Or.inl rfl) | exact Or.inr (Or.inr rfl)) (by rfl) T.gC_InvalidCell (kit_own T.ic_InvalidCell T.ty_InvalidCell T.sb_InvalidRecipes_InvalidCell (fun e => (ne_of_sub T.sb_InvalidRecipes_InvalidCell T.sb_InvalidRecipes_InvalidRecipes e)))) (pa_cons (pe_isi (i := 1) hE hC (by rfl) T.z_isinstance rfl (by first | exact Or.inl rfl | exact Or.inr (Or.inl rfl) | exact Or.inr (Or.inr rfl)) (by rfl) T.gC_InvalidKept (kit_own T.ic_InvalidKept T.ty_InvalidKept T.sb_InvalidRecipes_InvalidKept (fun e => (ne_of_sub T.sb_InvalidRecipes_InvalidKept T.sb_InvalidRecipes_InvalidRecipes e)))) pa_nil)))))
      (C8.pss_cut (ps_set (i := 2) sc__law_error_of.nd rfl (.inl rfl) (pe_op op_cat (pv 2) (pe_lst (pa_cons (pe_isi (i := 1) hE hC (by rfl) T.z_isinstance rfl (by first | exact Or.inl rfl | exact Or.inr (Or.inl rfl) | exact Or.inr (Or.inr rfl)) (by rfl) T.gC_InvalidBlock (kit_own T.ic_InvalidBlock T.ty_InvalidBlock T.sb_InvalidRecipes_InvalidBlock (fun e => (ne_of_sub T.sb_InvalidRecipes_InvalidBlock T.sb_InvalidRecipes_InvalidRecipes e)))) (pa_cons (pe_isi (i := 1) hE hC (by rfl) T.z_isinstance rfl (by first | exact Or.inl rfl | exact Or.inr (Or.inl rfl) | exact Or.inr (Or.inr rfl)) (by rfl) T.gC_InvalidValue (kit_own T.ic_InvalidValue T.ty_InvalidValue T.sb_InvalidRecipes_InvalidValue (fun e => (ne_of_sub T.sb_InvalidRecipes_InvalidValue T.sb_InvalidRecipes_InvalidRecipes e)))) (pa_cons (pe_isi (i := 1) hE hC (by rfl) T.z_isinstance rfl (by first | exact Or.inl rfl | exact Or.inr (Or.inl rfl) | exact Or.inr (Or.inr rfl)) (by rfl) T.gC_InvalidCount (kit_own T.ic_InvalidCount T.ty_InvalidCount T.sb_InvalidRecipes_InvalidCount (fun e => (ne_of_sub T.sb_InvalidRecipes_InvalidCount T.sb_InvalidRecipes_InvalidRecipes e)))) pa_nil))))))
      (C8.pss_cut (ps_set (i := 2) sc__law_error_of.nd rfl (.inl rfl) (pe_op op_cat (pv 2) (pe_lst (pa_cons (pe_isi (i := 1) hE hC (by rfl) T.z_isinstance rfl (by first | exact Or.inl rfl | exact Or.inr (Or.inl rfl) | exact Or.inr (Or.inr rfl)) (by rfl) T.gC_InvalidSlot (kit_own T.ic_InvalidSlot T.ty_InvalidSlot T.sb_InvalidRecipes_InvalidSlot (fun e => (ne_of_sub T.sb_InvalidRecipes_InvalidSlot T.sb_InvalidRecipes_InvalidRecipes e)))) (pa_cons (pe_isi (i := 1) hE hC (by rfl) T.z_isinstance rfl (by first | exact Or.inl rfl | exact Or.inr (Or.inl rfl) | exact Or.inr (Or.inr rfl)) (by rfl) T.gC_InvalidWord (kit_own T.ic_InvalidWord T.ty_InvalidWord T.sb_InvalidRecipes_InvalidWord (fun e => (ne_of_sub T.sb_InvalidRecipes_InvalidWord T.sb_InvalidRecipes_InvalidRecipes e)))) (pa_cons (pe_isi (i := 1) hE hC (by rfl) T.z_isinstance rfl (by first | exact Or.inl rfl | exact Or.inr (Or.inl rfl) | exact Or.inr (Or.inr rfl)) (by rfl) T.gC_InvalidStory (kit_own T.ic_InvalidStory T.ty_InvalidStory T.sb_InvalidRecipes_InvalidStory (fun e => (ne_of_sub T.sb_InvalidRecipes_InvalidStory T.sb_InvalidRecipes_InvalidRecipes e)))) pa_nil))))))
      (C8.pss_cut (ps_set (i := 2) sc__law_error_of.nd rfl (.inl rfl) (pe_op op_cat (pv 2) (pe_lst (pa_cons (pe_isi (i := 1) hE hC (by rfl) T.z_isinstance rfl (by first | exact Or.inl rfl | exact Or.inr (Or.inl rfl) | exact Or.inr (Or.inr rfl)) (by rfl) T.gC_PowerOff (kit_own T.ic_PowerOff T.ty_PowerOff T.sb_InvalidRecipes_PowerOff (fun e => (ne_of_sub T.sb_InvalidRecipes_PowerOff T.sb_InvalidRecipes_InvalidRecipes e)))) (pa_cons (pe_isi (i := 1) hE hC (by rfl) T.z_isinstance rfl (by first | exact Or.inl rfl | exact Or.inr (Or.inl rfl) | exact Or.inr (Or.inr rfl)) (by rfl) T.gC_PowerOn (kit_own T.ic_PowerOn T.ty_PowerOn T.sb_InvalidRecipes_PowerOn (fun e => (ne_of_sub T.sb_InvalidRecipes_PowerOn T.sb_InvalidRecipes_InvalidRecipes e)))) (pa_cons (pe_isi (i := 1) hE hC (by rfl) T.z_isinstance rfl (by first | exact Or.inl rfl | exact Or.inr (Or.inl rfl) | exact Or.inr (Or.inr rfl)) (by rfl) T.gC_NoFastDisk (kit_own T.ic_NoFastDisk T.ty_NoFastDisk T.sb_InvalidRecipes_NoFastDisk (fun e => (ne_of_sub T.sb_InvalidRecipes_NoFastDisk T.sb_InvalidRecipes_InvalidRecipes e)))) pa_nil))))))
      (C8.pss_cut (ps_set (i := 2) sc__law_error_of.nd rfl (.inl rfl) (pe_op op_cat (pv 2) (pe_lst (pa_cons (pe_isi (i := 1) hE hC (by rfl) T.z_isinstance rfl (by first | exact Or.inl rfl | exact Or.inr (Or.inl rfl) | exact Or.inr (Or.inr rfl)) (by rfl) T.gC_HasFastDisk (kit_own T.ic_HasFastDisk T.ty_HasFastDisk T.sb_InvalidRecipes_HasFastDisk (fun e => (ne_of_sub T.sb_InvalidRecipes_HasFastDisk T.sb_InvalidRecipes_InvalidRecipes e)))) (pa_cons (pe_isi (i := 1) hE hC (by rfl) T.z_isinstance rfl (by first | exact Or.inl rfl | exact Or.inr (Or.inl rfl) | exact Or.inr (Or.inr rfl)) (by rfl) T.gC_Unsettled (kit_own T.ic_Unsettled T.ty_Unsettled T.sb_InvalidRecipes_Unsettled (fun e => (ne_of_sub T.sb_InvalidRecipes_Unsettled T.sb_InvalidRecipes_InvalidRecipes e)))) (pa_cons (pe_isi (i := 1) hE hC (by rfl) T.z_isinstance rfl (by first | exact Or.inl rfl | exact Or.inr (Or.inl rfl) | exact Or.inr (Or.inr rfl)) (by rfl) T.gC_Contradiction (kit_own T.ic_Contradiction T.ty_Contradiction T.sb_InvalidRecipes_Contradiction (fun e => (ne_of_sub T.sb_InvalidRecipes_Contradiction T.sb_InvalidRecipes_InvalidRecipes e)))) pa_nil))))))
      (C8.pss_cut (ps_set (i := 2) sc__law_error_of.nd rfl (.inl rfl) (pe_op op_cat (pv 2) (pe_lst (pa_cons (pe_isi (i := 1) hE hC (by rfl) T.z_isinstance rfl (by first | exact Or.inl rfl | exact Or.inr (Or.inl rfl) | exact Or.inr (Or.inr rfl)) (by rfl) T.gC_InvalidName (kit_own T.ic_InvalidName T.ty_InvalidName T.sb_InvalidRecipes_InvalidName (fun e => (ne_of_sub T.sb_InvalidRecipes_InvalidName T.sb_InvalidRecipes_InvalidRecipes e)))) (pa_cons (pe_isi (i := 1) hE hC (by rfl) T.z_isinstance rfl (by first | exact Or.inl rfl | exact Or.inr (Or.inl rfl) | exact Or.inr (Or.inr rfl)) (by rfl) T.gC_UnknownName (kit_own T.ic_UnknownName T.ty_UnknownName T.sb_InvalidRecipes_UnknownName (fun e => (ne_of_sub T.sb_InvalidRecipes_UnknownName T.sb_InvalidRecipes_InvalidRecipes e)))) (pa_cons (pe_isi (i := 1) hE hC (by rfl) T.z_isinstance rfl (by first | exact Or.inl rfl | exact Or.inr (Or.inl rfl) | exact Or.inr (Or.inr rfl)) (by rfl) T.gC_InvalidRules (kit_own T.ic_InvalidRules T.ty_InvalidRules T.sb_InvalidRecipes_InvalidRules (fun e => (ne_of_sub T.sb_InvalidRecipes_InvalidRules T.sb_InvalidRecipes_InvalidRecipes e)))) pa_nil))))))
      (C8.pss_cut (ps_set (i := 2) sc__law_error_of.nd rfl (.inl rfl) (pe_op op_cat (pv 2) (pe_lst (pa_cons (pe_isi (i := 1) hE hC (by rfl) T.z_isinstance rfl (by first | exact Or.inl rfl | exact Or.inr (Or.inl rfl) | exact Or.inr (Or.inr rfl)) (by rfl) T.gC_InvalidRecipes (kit_own T.ic_InvalidRecipes T.ty_InvalidRecipes T.sb_InvalidRecipes_InvalidRecipes (fun _ => rfl))) (pa_cons (pe_isi (i := 1) hE hC (by rfl) T.z_isinstance rfl (by first | exact Or.inl rfl | exact Or.inr (Or.inl rfl) | exact Or.inr (Or.inr rfl)) (by rfl) T.gC_InvalidRequests (kit_own T.ic_InvalidRequests T.ty_InvalidRequests T.sb_InvalidRecipes_InvalidRequests (fun e => (ne_of_sub T.sb_InvalidRecipes_InvalidRequests T.sb_InvalidRecipes_InvalidRecipes e)))) (pa_cons (pe_isi (i := 1) hE hC (by rfl) T.z_isinstance rfl (by first | exact Or.inl rfl | exact Or.inr (Or.inl rfl) | exact Or.inr (Or.inr rfl)) (by rfl) T.gC_InvalidPrices (kit_own T.ic_InvalidPrices T.ty_InvalidPrices T.sb_InvalidRecipes_InvalidPrices (fun e => (ne_of_sub T.sb_InvalidRecipes_InvalidPrices T.sb_InvalidRecipes_InvalidRecipes e)))) pa_nil))))))
      (C8.pss_cut (ps_set (i := 2) sc__law_error_of.nd rfl (.inl rfl) (pe_op op_cat (pv 2) (pe_lst (pa_cons (pe_isi (i := 1) hE hC (by rfl) T.z_isinstance rfl (by first | exact Or.inl rfl | exact Or.inr (Or.inl rfl) | exact Or.inr (Or.inr rfl)) (by rfl) T.gC_InvalidPlan (kit_own T.ic_InvalidPlan T.ty_InvalidPlan T.sb_InvalidRecipes_InvalidPlan (fun e => (ne_of_sub T.sb_InvalidRecipes_InvalidPlan T.sb_InvalidRecipes_InvalidRecipes e)))) (pa_cons (pe_isi (i := 1) hE hC (by rfl) T.z_isinstance rfl (by first | exact Or.inl rfl | exact Or.inr (Or.inl rfl) | exact Or.inr (Or.inr rfl)) (by rfl) T.gC_PowerFailed (kit_own T.ic_PowerFailed T.ty_PowerFailed T.sb_InvalidRecipes_PowerFailed (fun e => (ne_of_sub T.sb_InvalidRecipes_PowerFailed T.sb_InvalidRecipes_InvalidRecipes e)))) (pa_cons (pe_isi (i := 1) hE hC (by rfl) T.z_isinstance rfl (by first | exact Or.inl rfl | exact Or.inr (Or.inl rfl) | exact Or.inr (Or.inr rfl)) (by rfl) T.gC_InvalidOperation (kit_own T.ic_InvalidOperation T.ty_InvalidOperation T.sb_InvalidRecipes_InvalidOperation (fun e => (ne_of_sub T.sb_InvalidRecipes_InvalidOperation T.sb_InvalidRecipes_InvalidRecipes e)))) pa_nil))))))
      (C8.pss_cut (ps_set (i := 2) sc__law_error_of.nd rfl (.inl rfl) (pe_op op_cat (pv 2) (pe_lst (pa_cons (pe_isi (i := 1) hE hC (by rfl) T.z_isinstance rfl (by first | exact Or.inl rfl | exact Or.inr (Or.inl rfl) | exact Or.inr (Or.inr rfl)) (by rfl) T.gC_NotationError (kit_own T.ic_NotationError T.ty_NotationError T.sb_InvalidRecipes_NotationError (fun e => (ne_of_sub T.sb_InvalidRecipes_NotationError T.sb_InvalidRecipes_InvalidRecipes e)))) (pa_cons (pe_isi (i := 1) hE hC (by rfl) T.z_isinstance rfl (by first | exact Or.inl rfl | exact Or.inr (Or.inl rfl) | exact Or.inr (Or.inr rfl)) (by rfl) T.gC_DecodeError (kit_own T.ic_DecodeError T.ty_DecodeError T.sb_InvalidRecipes_DecodeError (fun e => (ne_of_sub T.sb_InvalidRecipes_DecodeError T.sb_InvalidRecipes_InvalidRecipes e)))) pa_nil)))))
      (pss_cons (ps_if (PW.pt (pw_or (pt_cmpR op_ne (pe_bm PySem.F.plainAttrs_list PySem.F.slot_list_count PySem.F.type_list_count mt_lcountV (pv 2) (pa_cons pe_bl pa_nil)) pe_int (nomark _)) (pw_or1 (pt_not (pt_val (pe_callB (call_isC hE hC) (by rfl) T.z_isinstance (by decide +kernel) (pa_cons (pv 1) (pa_cons (pe_bltn (v := .ty "ValueError") (by rfl) T.z_ValueError (by decide +kernel) rfl) pa_nil)))))))) (pss_one (ps_ret (pe_tup (pa_cons pe_str (pa_cons pe_int pa_nil))))) pss_nil)
      (pss_cons (ps_set (i := 3) sc__law_error_of.nd rfl (.inl rfl) pe_str)
      (pss_cons (ps_set (i := 3) sc__law_error_of.nd rfl (.inl rfl) (pe_op op_add_str (pv 3) pe_str))
      (pss_cons (ps_set (i := 3) sc__law_error_of.nd rfl (.inl rfl) (pe_op op_add_str (pv 3) pe_str))
      (pss_one (ps_ret (pe_callP hT (L2H.roomH_mark (hr.mono (by first | decide | omega)) _) hHot List.mem_cons_self (by rfl) T.g__law_told_of T.F__law_told_of.kp (pa_cons (pv 1) (pa_cons (pe_ix ix_list (pe_bm PySem.F.plainAttrs_str PySem.F.slot_str_split PySem.F.type_str_split mt_split (pv 3) (pa_cons pe_str pa_nil)) (pe_bm PySem.F.plainAttrs_list PySem.F.slot_list_index PySem.F.type_list_index mt_index (pv 2) (pa_cons pe_bl pa_nil)) (fun _ _ => rfl)) pa_nil)))))))))))))))))) pins s' σ H D I ?_⟩
  obtain ⟨⟨x, v2, v3, rfl⟩, p, r, hd, hfl, k⟩ := h
  have F0 := Fr.refl [] H
  refine ⟨fun σ' H' => ∃ k : Addr, σ' = [some x, some (.ref a), some (.ref k), v3] ∧ Fr [] H H' ∧ FldsAt H' d [("place", r), ("part", p)] ∧ H' k = some (.lst (kinds_InvalidRecipes.take 3)), ?_, ?_⟩
  · exact ⟨⟨rfl, _, hfl⟩, ⟨⟨rfl, _, hfl⟩, ⟨⟨rfl, _, hfl⟩, ⟨sz_le (by decide), fun q hq => ⟨q, rfl, Fr.new hq, FldsAt.keep (S := []) hfl (Fr.new hq) (by simp), upd_same⟩⟩⟩⟩⟩
  rintro _ G1 ⟨k1, rfl, F1, h1, r1⟩
  refine ⟨fun σ' H' => ∃ k : Addr, σ' = [some x, some (.ref a), some (.ref k), v3] ∧ Fr [] H H' ∧ FldsAt H' d [("place", r), ("part", p)] ∧ H' k = some (.lst (kinds_InvalidRecipes.take 6)), ?_, ?_⟩
  · exact ⟨_, rfl, ⟨⟨rfl, _, h1⟩, ⟨⟨rfl, _, h1⟩, ⟨⟨rfl, _, h1⟩, ⟨sz_le (by decide), fun q hq => ⟨k1, q, _, _, rfl, rfl, (upd_ne (ne_of_none r1 hq)).trans r1, upd_same, sz_le (by decide), fun k' hk' => ⟨k', rfl, (F1.trans (Fr.new hq)).trans (Fr.new hk'), FldsAt.keep (S := []) (FldsAt.keep (S := []) h1 (Fr.new hq) (by simp)) (Fr.new hk') (by simp), upd_same⟩⟩⟩⟩⟩⟩⟩
  rintro _ G2 ⟨k2, rfl, F2, h2, r2⟩
  refine ⟨fun σ' H' => ∃ k : Addr, σ' = [some x, some (.ref a), some (.ref k), v3] ∧ Fr [] H H' ∧ FldsAt H' d [("place", r), ("part", p)] ∧ H' k = some (.lst (kinds_InvalidRecipes.take 9)), ?_, ?_⟩
  · exact ⟨_, rfl, ⟨⟨rfl, _, h2⟩, ⟨⟨rfl, _, h2⟩, ⟨⟨rfl, _, h2⟩, ⟨sz_le (by decide), fun q hq => ⟨k2, q, _, _, rfl, rfl, (upd_ne (ne_of_none r2 hq)).trans r2, upd_same, sz_le (by decide), fun k' hk' => ⟨k', rfl, (F2.trans (Fr.new hq)).trans (Fr.new hk'), FldsAt.keep (S := []) (FldsAt.keep (S := []) h2 (Fr.new hq) (by simp)) (Fr.new hk') (by simp), upd_same⟩⟩⟩⟩⟩⟩⟩
  rintro _ G3 ⟨k3, rfl, F3, h3, r3⟩
  refine ⟨fun σ' H' => ∃ k : Addr, σ' = [some x, some (.ref a), some (.ref k), v3] ∧ Fr [] H H' ∧ FldsAt H' d [("place", r), ("part", p)] ∧ H' k = some (.lst (kinds_InvalidRecipes.take 12)), ?_, ?_⟩
  · exact ⟨_, rfl, ⟨⟨rfl, _, h3⟩, ⟨⟨rfl, _, h3⟩, ⟨⟨rfl, _, h3⟩, ⟨sz_le (by decide), fun q hq => ⟨k3, q, _, _, rfl, rfl, (upd_ne (ne_of_none r3 hq)).trans r3, upd_same, sz_le (by decide), fun k' hk' => ⟨k', rfl, (F3.trans (Fr.new hq)).trans (Fr.new hk'), FldsAt.keep (S := []) (FldsAt.keep (S := []) h3 (Fr.new hq) (by simp)) (Fr.new hk') (by simp), upd_same⟩⟩⟩⟩⟩⟩⟩
  rintro _ G4 ⟨k4, rfl, F4, h4, r4⟩
  refine ⟨fun σ' H' => ∃ k : Addr, σ' = [some x, some (.ref a), some (.ref k), v3] ∧ Fr [] H H' ∧ FldsAt H' d [("place", r), ("part", p)] ∧ H' k = some (.lst (kinds_InvalidRecipes.take 15)), ?_, ?_⟩
  · exact ⟨_, rfl, ⟨⟨rfl, _, h4⟩, ⟨⟨rfl, _, h4⟩, ⟨⟨rfl, _, h4⟩, ⟨sz_le (by decide), fun q hq => ⟨k4, q, _, _, rfl, rfl, (upd_ne (ne_of_none r4 hq)).trans r4, upd_same, sz_le (by decide), fun k' hk' => ⟨k', rfl, (F4.trans (Fr.new hq)).trans (Fr.new hk'), FldsAt.keep (S := []) (FldsAt.keep (S := []) h4 (Fr.new hq) (by simp)) (Fr.new hk') (by simp), upd_same⟩⟩⟩⟩⟩⟩⟩
  rintro _ G5 ⟨k5, rfl, F5, h5, r5⟩
  refine ⟨fun σ' H' => ∃ k : Addr, σ' = [some x, some (.ref a), some (.ref k), v3] ∧ Fr [] H H' ∧ FldsAt H' d [("place", r), ("part", p)] ∧ H' k = some (.lst (kinds_InvalidRecipes.take 18)), ?_, ?_⟩
  · exact ⟨_, rfl, ⟨⟨rfl, _, h5⟩, ⟨⟨rfl, _, h5⟩, ⟨⟨rfl, _, h5⟩, ⟨sz_le (by decide), fun q hq => ⟨k5, q, _, _, rfl, rfl, (upd_ne (ne_of_none r5 hq)).trans r5, upd_same, sz_le (by decide), fun k' hk' => ⟨k', rfl, (F5.trans (Fr.new hq)).trans (Fr.new hk'), FldsAt.keep (S := []) (FldsAt.keep (S := []) h5 (Fr.new hq) (by simp)) (Fr.new hk') (by simp), upd_same⟩⟩⟩⟩⟩⟩⟩
  rintro _ G6 ⟨k6, rfl, F6, h6, r6⟩
  refine ⟨fun σ' H' => ∃ k : Addr, σ' = [some x, some (.ref a), some (.ref k), v3] ∧ Fr [] H H' ∧ FldsAt H' d [("place", r), ("part", p)] ∧ H' k = some (.lst (kinds_InvalidRecipes.take 21)), ?_, ?_⟩
  · exact ⟨_, rfl, ⟨⟨rfl, _, h6⟩, ⟨⟨rfl, _, h6⟩, ⟨⟨rfl, _, h6⟩, ⟨sz_le (by decide), fun q hq => ⟨k6, q, _, _, rfl, rfl, (upd_ne (ne_of_none r6 hq)).trans r6, upd_same, sz_le (by decide), fun k' hk' => ⟨k', rfl, (F6.trans (Fr.new hq)).trans (Fr.new hk'), FldsAt.keep (S := []) (FldsAt.keep (S := []) h6 (Fr.new hq) (by simp)) (Fr.new hk') (by simp), upd_same⟩⟩⟩⟩⟩⟩⟩
  rintro _ G7 ⟨k7, rfl, F7, h7, r7⟩
  refine ⟨fun σ' H' => ∃ k : Addr, σ' = [some x, some (.ref a), some (.ref k), v3] ∧ Fr [] H H' ∧ FldsAt H' d [("place", r), ("part", p)] ∧ H' k = some (.lst (kinds_InvalidRecipes.take 24)), ?_, ?_⟩
  · exact ⟨_, rfl, ⟨⟨rfl, _, h7⟩, ⟨⟨rfl, _, h7⟩, ⟨⟨rfl, _, h7⟩, ⟨sz_le (by decide), fun q hq => ⟨k7, q, _, _, rfl, rfl, (upd_ne (ne_of_none r7 hq)).trans r7, upd_same, sz_le (by decide), fun k' hk' => ⟨k', rfl, (F7.trans (Fr.new hq)).trans (Fr.new hk'), FldsAt.keep (S := []) (FldsAt.keep (S := []) h7 (Fr.new hq) (by simp)) (Fr.new hk') (by simp), upd_same⟩⟩⟩⟩⟩⟩⟩
  rintro _ G8 ⟨k8, rfl, F8, h8, r8⟩
  refine ⟨fun σ' H' => ∃ k : Addr, σ' = [some x, some (.ref a), some (.ref k), v3] ∧ Fr [] H H' ∧ FldsAt H' d [("place", r), ("part", p)] ∧ H' k = some (.lst (kinds_InvalidRecipes.take 26)), ?_, ?_⟩
  · exact ⟨_, rfl, ⟨⟨rfl, _, h8⟩, ⟨⟨rfl, _, h8⟩, ⟨sz_le (by decide), fun q hq => ⟨k8, q, _, _, rfl, rfl, (upd_ne (ne_of_none r8 hq)).trans r8, upd_same, sz_le (by decide), fun k' hk' => ⟨k', rfl, (F8.trans (Fr.new hq)).trans (Fr.new hk'), FldsAt.keep (S := []) (FldsAt.keep (S := []) h8 (Fr.new hq) (by simp)) (Fr.new hk') (by simp), upd_same⟩⟩⟩⟩⟩⟩
  rintro _ G9 ⟨k9, rfl, F9, h9, r9⟩
  have rk : G9 k9 = some (HO.lst kinds_InvalidRecipes) := r9
  refine ⟨_, rfl, .inl ⟨rfl, _, SqL.of rk⟩, k9, kinds_InvalidRecipes, .bl true, rfl, rfl, SqL.of rk, rfl, kinds_InvalidRecipes_all, ?_⟩
  rw [kinds_InvalidRecipes_cnt]
  refine ⟨rfl, _, rfl, iteF ?_⟩
  refine ⟨_, rfl, _, .type "ValueError", true, _, rfl, h9, (fun _ z => z), kit_ve T.vb_InvalidRecipes, _, rfl, iteF ?_⟩
  refine ⟨_, rfl, _, _, rfl, rfl, sz_le (by decide), ?_⟩
  refine ⟨_, rfl, _, _, rfl, rfl, sz_le (by decide), ?_⟩
  refine ⟨_, rfl, _, rfl, rfl, _, _, rfl, rfl, by decide +kernel, sz_le (by decide +kernel), fun z hz' => ?_⟩
  have rz := (upd_ne (o := .lst ((Txt.split ENAMES " ").map V.str)) (ne_of_none rk hz')).trans rk
  refine ⟨_, rfl, .inl ⟨rfl, _, SqL.of rz⟩, k9, kinds_InvalidRecipes, .bl true, 18, .bl true, rfl, rfl, SqL.of rz, rfl, kinds_InvalidRecipes_all, kinds_InvalidRecipes_at, rfl, kinds_InvalidRecipes_fst, ?_⟩
  refine ⟨z, _, (18 : Int), .str "recipes", rfl, rfl, SqL.of upd_same, atI_nat (j := 18) (by show ((Txt.split ENAMES " ").map V.str)[18]? = _; rw [split_names]; rfl), rfl, ?_⟩
  have hZ := FldsAt.keep (S := []) h9 (Fr.new (o := .lst ((Txt.split ENAMES " ").map V.str)) hz') (by simp)
  have FZ := F9.trans (Fr.new (o := .lst ((Txt.split ENAMES " ").map V.str)) hz')
  exact ⟨p, r, hd, hZ, fun u t hu ht => k t u _ (some_of (FZ.trans (Fr.new hu)) (by simp) ht) (some_of FZ (by simp) hu) ((FZ.trans (Fr.new hu)).trans (Fr.new ht)) ((upd_ne (free_upd ht).2.symm).trans upd_same) upd_same⟩
end
theorem takesN0 {X : Cx} : L2N.Takes X (fun _ _ _ _ => False) := fun _ _ x => by
  obtain ⟨_, _, _, _, _, _, _, _, _, _, _, _, _, _, _, _, z⟩ := x
  exact z.elim
section
variable {P : Program} {w : World} {K : PySem.W.Frag} {mg : Str → Option Value} {base : Heap}
/-- the class of such an error lies under the package's -/
theorem ErrEnd.pair {T : Gx K mg} {cls : Value} {d : Option Addr} {H : Hp} {Q : VK} (h : ErrEnd T cls d H Q) : PySem.W.exmOne K cls (.ref T.C_PairError) = some true := by
  rcases h with ⟨p, rfl, _⟩ | ⟨p, r, rfl, _⟩
  · exact PySem.W.exm_ref T.pb T.ph T.ty_PairError T.sb_InvalidRules_PairError
  · exact PySem.W.exm_ref T.pb T.ph T.ty_PairError T.sb_InvalidRecipes_PairError
def spErr (P : Program) (w : World) (base : Heap) (T : Gx K mg) : SpS := fun vs outer s H Q _ => ∃ (f : Addr) (F : LF) (fr : List Str) (ws : List (Option V)) (lp : List (Option V) → Hp → VK → XK → Prop), vs = [.ref f] ∧ LOk P w K mg base (L2N.CX P w) 8 f F fr lp ∧ Act f F fr ws (frs outer) s H ∧
  ∀ (Q' : VK) (E' : XK), (∀ v H', Q .non H' → Q' v H') → (∀ cls d H', ErrEnd T cls d H' Q → E' cls d H') → lp ws H Q' E'
theorem ok_errorOf (T : Gx K mg) : FnS P w K mg base C8.CX0 10 T.f__law_error_of ["_law_call"] (spErr P w base T) := by
  refine FunOkS T.F__law_error_of (b__law_error_of T) sc__law_error_of (fun vs o s H Q E h => by obtain ⟨f, F, fr, ws, lp, rfl, _⟩ := h; rfl) (fun cdv A outer s H vs Q E hr h => ?_)
  obtain ⟨f, F, fr, ws, lp, rfl, L, a0, hlp⟩ := h
  refine ⟨_, pss_cons (L2N.ps_try_as (i := 1) (c := .ref T.C_PairError) (Wout := fun _ _ _ _ => False) (ts := fun a cls d D σ H => (∃ (x : V) (v2 v3 : Option V), σ = [some x, some (.ref a), v2, v3]) ∧ ErrEnd T cls d H D.rt) rfl rfl sc__law_error_of.nd rfl rfl ⟨by rfl, by decide, .inl T.gC_PairError⟩ takesN0
    (fun W pn xe tk po => pss_one (ps_expr (pe_act (i := 0) L a0 rfl (hr.mono (by decide)) (fun σ => L2N.passAt tk σ) rfl (by first | exact Or.inl rfl | exact Or.inr (Or.inl rfl) | exact Or.inr (Or.inr rfl)))))
    (fun a oe cls d pn hz hf => ⟨fun pins s' σ H' D I h => ?_⟩)) (pss_one (ps_ret pe_non)), ?_⟩
  · obtain ⟨hσ, h⟩ := h
    rcases h with ⟨p, rfl, hd, hf', k⟩ | ⟨p, r, rfl, hd, hf', k⟩
    · exact (suite_InvalidRules T (hr.mono (by decide)) hz hf).run pins s' σ H' D I ⟨hσ, p, hd, hf', k⟩
    · exact (suite_InvalidRecipes T (hr.mono (by decide)) hz hf).run pins s' σ H' D I ⟨hσ, p, r, hd, hf', k⟩
  · refine ⟨rfl, a0.lv, hlp _ _ (fun v H' q => q) (fun cls d H' he => ⟨true, he.pair, fun _ a ha => ⟨⟨.ref f, none, none, rfl⟩, he⟩, fun z => by cases z⟩)⟩
end
/-! ### the two errors' own __init__ -/
def spIR (C : Addr) : Sp := fun vs H Q _ => ∃ (a : Addr) (i : Nat), vs = [.ref a, .int (i : Int)] ∧ i < 12 ∧ H a = some (exo a C none) ∧ ∀ dx, H dx = none → dx ≠ a → Q .non (upd (upd H dx (exd dx [("part", .int (i : Int))])) a (exo a C (some dx)))
def spIQ (C : Addr) : Sp := fun vs H Q _ => ∃ (a : Addr) (i j : Nat), vs = [.ref a, .int (i : Int), .int (j : Int)] ∧ i < 12 ∧ j < 12 ∧ H a = some (exo a C none) ∧ ∀ dx, H dx = none → dx ≠ a → Q .non (upd (upd (upd H dx (exd dx [("part", .int (i : Int))])) a (exo a C (some dx))) dx (exd dx [("place", .int (j : Int)), ("part", .int (i : Int))]))
theorem small_log {i : Nat} (h : i < 12) : (i : Int).natAbs.log2 < 1920 := by
  have : ∀ i : Nat, i < 12 → (i : Int).natAbs.log2 < 1920 := by decide +kernel
  exact this i h
theorem len12 : ∀ i : Nat, i < 12 → (Str.empty ++ ("part " : Str)).length ≤ sizeLine ∧ (Str.empty ++ ("part " : Str) ++ Str.ofString (toString (i : Int))).length ≤ sizeLine ∧ (Str.empty ++ ("part " : Str) ++ Str.ofString (toString (i : Int)) ++ (" of the rules is invalid" : Str)).length ≤ sizeLine := by decide +kernel
theorem len12q : ∀ i : Nat, i < 12 → ∀ j : Nat, j < 12 → (Str.empty ++ ("recipe " : Str)).length ≤ sizeLine ∧ (Str.empty ++ ("recipe " : Str) ++ Str.ofString (toString (i : Int))).length ≤ sizeLine ∧ (Str.empty ++ ("recipe " : Str) ++ Str.ofString (toString (i : Int)) ++ (" is invalid at word " : Str)).length ≤ sizeLine ∧
  (Str.empty ++ ("recipe " : Str) ++ Str.ofString (toString (i : Int)) ++ (" is invalid at word " : Str) ++ Str.ofString (toString (j : Int))).length ≤ sizeLine := by decide +kernel
section
variable {P : Program} {w : World} {K : PySem.W.Frag} {mg : Str → Option Value} {base : Heap}
theorem bi_InvalidRules (T : Gx K mg) : Binds K T.fd_InvalidRules___init__ ["self", "part"] [] := by
  obtain ⟨oc, od, kV, dc, pm, an, cda, ct, osl, cl, cdd, vs, csl, tf, ec, ed, es, e, _⟩ := T.S_InvalidRules___init__.ex
  rw [e]
  exact .all fun us hl => match us, hl with | [_, _], _ => rfl
theorem bi_InvalidRecipes (T : Gx K mg) : Binds K T.fd_InvalidRecipes___init__ ["self", "part", "place"] [] := by
  obtain ⟨oc, od, kV, dc, pm, an, cda, ct, osl, cl, cdd, vs, csl, tf, ec, ed, es, e, _⟩ := T.S_InvalidRecipes___init__.ex
  rw [e]
  exact .all fun us hl => match us, hl with | [_, _, _], _ => rfl
theorem cls_of_oex {C : Addr} (T : OexC K C) : ∃ cd, PySem.W.clsIn K C = some cd := by
  obtain ⟨nm, q, N, bs, bm, sn, sub, ab, col, dd, k0, k1, k2, k3, k5, hC, _⟩ := T.cls
  cases h : PySem.W.clsIn K C with
  | some cd => exact ⟨cd, rfl⟩
  | none =>
    unfold PySem.W.clsIn at h
    rw [hC] at h
    cases h
theorem ok_iRules (HP : ProgOk P file) (T : Gx K mg) (hf : file = T.file) : FnOk P w K mg base C8.CX0 1 T.f_InvalidRules___init__ T.fd_InvalidRules___init__ ["self", "part"] (spIR T.C_InvalidRules) := by
  subst hf
  refine FunS.ok HP T.S_InvalidRules___init__ sc_InvalidRules___init__ (fun vs H Q E h => by obtain ⟨a, i, rfl, _⟩ := h; rfl) rfl rfl (fun env e => by unfold PySem.interactive; rw [e]; rfl) _ (fun env => rfl) (fun env => rfl) rfl rfl T.z_super T.third (fun F' A outer s H vs Q E eF hr h => ?_)
  obtain ⟨a, i, rfl, hi, ha, k⟩ := h
  obtain ⟨nm, q, pr, bd, sc, cl, c⟩ := F'
  have eF' : sc = defScope s_InvalidRules___init__ := eF
  subst eF'
  refine ⟨_, _, a, T.C_InvalidRules, .str (Str.empty ++ ("part " : Str) ++ Str.ofString (toString (i : Int)) ++ (" of the rules is invalid" : Str)), rfl, ha, T.O_InvalidRules, cls_of_oex T.O_InvalidRules, T.mr_InvalidRules, T.su_InvalidRules, T.vb_InvalidRules, pe_joined (.cons pe_str (.cons (pe_fmt (pv 1)) (.cons pe_str .nil))), pss_one (ps_ost (pv 0) (pv 1)), fun Q' q => ?_, ?_⟩
  · exact ⟨_, rfl, (len12 i hi).1, _, rfl, .inr ⟨(i : Int), rfl, small_log hi, _, rfl, (len12 i hi).2.1, _, rfl, (len12 i hi).2.2, q⟩⟩
  · exact ⟨_, rfl, _, rfl, a, T.C_InvalidRules, rfl, T.O_InvalidRules, T.no_InvalidRules_part, .inl ⟨ha, fun dx hdx hne => k dx hdx hne⟩⟩
theorem ok_iRecipes (HP : ProgOk P file) (T : Gx K mg) (hf : file = T.file) : FnOk P w K mg base C8.CX0 1 T.f_InvalidRecipes___init__ T.fd_InvalidRecipes___init__ ["self", "part", "place"] (spIQ T.C_InvalidRecipes) := by
  subst hf
  refine FunS.ok HP T.S_InvalidRecipes___init__ sc_InvalidRecipes___init__ (fun vs H Q E h => by obtain ⟨a, i, j, rfl, _⟩ := h; rfl) rfl rfl (fun env e => by unfold PySem.interactive; rw [e]; rfl) _ (fun env => rfl) (fun env => rfl) rfl rfl T.z_super T.third (fun F' A outer s H vs Q E eF hr h => ?_)
  obtain ⟨a, i, j, rfl, hi, hj, ha, k⟩ := h
  obtain ⟨nm, q, pr, bd, sc, cl, c⟩ := F'
  have eF' : sc = defScope s_InvalidRecipes___init__ := eF
  subst eF'
  refine ⟨_, _, a, T.C_InvalidRecipes, .str (Str.empty ++ ("recipe " : Str) ++ Str.ofString (toString (i : Int)) ++ (" is invalid at word " : Str) ++ Str.ofString (toString (j : Int))), rfl, ha, T.O_InvalidRecipes, cls_of_oex T.O_InvalidRecipes, T.mr_InvalidRecipes, T.su_InvalidRecipes, T.vb_InvalidRecipes, pe_joined (.cons pe_str (.cons (pe_fmt (pv 1)) (.cons pe_str (.cons (pe_fmt (pv 2)) .nil)))), pss_cons (ps_ost (pv 0) (pv 1)) (pss_one (ps_ost (pv 0) (pv 2))), fun Q' q => ?_, ?_⟩
  · exact ⟨_, rfl, (len12q i hi j hj).1, _, rfl, .inr ⟨(i : Int), rfl, small_log hi, _, rfl, (len12q i hi j hj).2.1, _, rfl, (len12q i hi j hj).2.2.1, _, rfl, .inr ⟨(j : Int), rfl, small_log hj, _, rfl, (len12q i hi j hj).2.2.2, q⟩⟩⟩
  · refine ⟨_, rfl, _, rfl, a, T.C_InvalidRecipes, rfl, T.O_InvalidRecipes, T.no_InvalidRecipes_part, .inl ⟨ha, fun dx hdx hne => ?_⟩⟩
    exact ⟨_, rfl, _, rfl, a, T.C_InvalidRecipes, rfl, T.O_InvalidRecipes, T.no_InvalidRecipes_place, .inr ⟨dx, _, upd_same, (upd_ne hne).trans upd_same, by simp, k dx hdx hne⟩⟩
end
/-! ### what is asked of things that are no words -/
theorem units2 {k : Nat} {A : Around} (r : Room k A) : A.units + 65 < cLine := by
  have := r.un
  omega
def rNotInT (K : PySem.W.Frag) : R2 := fun x y H Q => ∃ d ds, Dp K H x d ∧ Dp K H y (.tuple ds) ∧ SeqAt.shaped d = true ∧ SeqAt.shaped (.tuple ds) = true ∧ Q (.bl (!ds.any fun z => PyData.eqv z d)) H
section
open PyProof.Rows
theorem op_notInT {X : Cx} (hu : X.A.units + 65 < cLine) : OpR X (compareOp .NotIn) (rNotInT X.K) := by
  intro pins s σ H x y v u Q I rx ry h
  obtain ⟨d, ds, hd, he, sd, se, q⟩ := h
  obtain ⟨as, r1⟩ := Dp.reads I d x v hd rx
  obtain ⟨bs, r2⟩ := Dp.reads I (.tuple ds) y u he ry
  exact SeqAt.notIn_tuple_reads r2 r1 (SeqAt.canLay_of_shaped se) (SeqAt.canLay_of_shaped sd) (room_in_shaped sd hu) ⟨.bl _, H, I, rfl, q⟩
end
theorem del_ne' {H : Hp} {a b : Addr} (h : b ≠ a) : del H a b = H b := del_ne h
/-- what stands when an exception of one field is raised -/
theorem raise_fr {H1 : Hp} {a dx : Addr} {o1 o2 o3 o4 : HO} (ha : H1 a = none) (hdx : H1 dx = none) : Fr [] H1 (upd (del (upd (upd (upd H1 a o1) dx o2) a o3) a) dx o4) := fun b u e _ => by
  have na := ne_of_none e ha
  have nd := ne_of_none e hdx
  rw [upd_ne nd, del_ne na, upd_ne na, upd_ne nd, upd_ne na]
  exact e
/-- .. of two -/
theorem raise_fr2 {H1 : Hp} {a dx : Addr} {o1 o2 o3 o5 o4 : HO} (ha : H1 a = none) (hdx : H1 dx = none) : Fr [] H1 (upd (del (upd (upd (upd (upd H1 a o1) dx o2) a o3) dx o5) a) dx o4) := fun b u e _ => by
  have na := ne_of_none e ha
  have nd := ne_of_none e hdx
  rw [upd_ne nd, del_ne na, upd_ne nd, upd_ne na, upd_ne nd, upd_ne na]
  exact e
/-- odd things: flat ones, and tuples of words -/
def OddV (H : Hp) (v : V) (d : PyData) : Prop := (v = .non ∧ d = .none) ∨ (∃ n, v = .int n ∧ d = .int n) ∨ (∃ b, v = .bl b ∧ d = .bool b) ∨ (∃ z, v = .str z ∧ d = .str z) ∨ ∃ (t : Addr) (zs : List Str), v = .ref t ∧ H t = some (.tup (sV zs)) ∧ d = .tuple (sD zs)
theorem OddV.keep {H H' : Hp} {S : List Addr} {v : V} {d : PyData} (h : OddV H v d) (f : Fr S H H') (n : ∀ b ∈ S, ∀ xs, H b ≠ some (.tup xs)) : OddV H' v d := by
  rcases h with h | h | h | h | ⟨t, zs, e1, e2, e3⟩
  · exact .inl h
  · exact .inr (.inl h)
  · exact .inr (.inr (.inl h))
  · exact .inr (.inr (.inr (.inl h)))
  · exact .inr (.inr (.inr (.inr ⟨t, zs, e1, f _ _ e2 (fun hb => n t hb _ e2), e3⟩)))
theorem OddV.keep0 {H H' : Hp} {v : V} {d : PyData} (h : OddV H v d) (f : Fr [] H H') : OddV H' v d := h.keep f (by simp)
theorem OddV.dp {K : PySem.W.Frag} {H : Hp} {v : V} {d : PyData} (h : OddV H v d) : Dp K H v d := by
  rcases h with ⟨rfl, rfl⟩ | ⟨n, rfl, rfl⟩ | ⟨b, rfl, rfl⟩ | ⟨z, rfl, rfl⟩ | ⟨t, zs, rfl, e2, rfl⟩
  · exact .non
  · exact .int n
  · exact .bl b
  · exact .str z
  · exact .tup (SqT.of e2) (dpAll_str zs)
theorem OddV.str {H : Hp} {z : Str} : OddV H (.str z) (.str z) := .inr (.inr (.inr (.inl ⟨z, rfl, rfl⟩)))
theorem any_sD (z : Str) (zs : List Str) : (sD zs).any (fun y => PyData.eqv y (.str z)) = decide (z ∈ zs) := by
  unfold sD
  rw [List.any_map]
  induction zs with
  | nil => rfl
  | cons y r ih =>
    rw [List.any_cons, ih]
    show (PyData.eqv (.str y) (.str z) || decide (z ∈ r)) = decide (z ∈ y :: r)
    by_cases h : y = z
    · subst h
      simp [PyData.eqv]
    · have h' : ¬ z = y := fun e => h e.symm
      have hb : (y == z) = false := beq_eq_false_iff_ne.mpr h
      simp [PyData.eqv, hb, h']
theorem shaped_z {z : Str} (h : PyData.strOk z = true) : SeqAt.shaped (.str z) = true := by
  unfold SeqAt.shaped
  simp [PyData.canLay0, h, PyData.depth]
theorem tupK_dp {K : PySem.W.Frag} {a : Addr} {A : List Str} (h : TupK K a (sV A)) (H : Hp) : Dp K H (.ref a) (.tuple (sD A)) := .tup (h H) (dpAll_str A)
/-- no word of A -/
def NoWord (A : List Str) (d : PyData) : Prop := SeqAt.shaped d = true ∧ (sD A).any (fun z => PyData.eqv z d) = false
/-! ### rules with a part that cannot be -/
def RWS : List (List Str) := [["through", "back", "around"], ["keep", "pass"], ["used", "came", "rare"]]
theorem good_RWS : ∀ i < 3, ∀ z ∈ RWS.getD i [], PyData.strOk z = true := by decide +kernel
/-- no bound -/
def NoBound (v : V) : Prop := (∃ i : Int, v = .int i ∧ (decide ((0 : Int) ≤ i) && decide (i ≤ 8)) = false) ∨ v = .non ∨ (∃ b, v = .bl b) ∨ ∃ z, v = .str z
/-- the first part that cannot be is at j -/
def BadRul (H : Hp) (ps : List V) (j : Nat) : Prop := ps.length = 4 ∧ (∀ i, i < j → i < 3 → ∃ z, ps[i]? = some (.str z) ∧ z ∈ RWS.getD i []) ∧
  ((j < 3 ∧ ∃ v d, ps[j]? = some v ∧ OddV H v d ∧ NoWord (RWS.getD j []) d) ∨ (j = 3 ∧ ∃ v, ps[3]? = some v ∧ NoBound v))
def spRBad (X C : Addr) : Sp := fun vs H _ E => ∃ (p dx : Addr) (a b c n : V) (j : Nat), vs = [.ref p, a, b, c, n] ∧ H p = some (.ins C dx []) ∧ BadRul H [a, b, c, n] j ∧
  ∀ (d : Addr) (H' : Hp), H d = none → Fr [] H H' → H' d = some (.xd [("part", .int (j : Int))]) → E (.ref X) (some d) H'
section
variable {P : Program} {w : World} {K : PySem.W.Frag} {mg : Str → Option Value} {base : Heap}
theorem ok_rBad (HP : ProgOk P file) (T : Gx K mg) (hf : file = T.file) : FnOk P w K mg base (L2N.CX P w) 4 T.f_Rules___init__ T.fd_Rules___init__ ["self", "writing", "reading", "choice", "bound"] (spRBad T.C_InvalidRules T.C_Rules) := by
  have G_InvalidRules___init__ : FnOk P w K mg base C8.CX0 1 T.f_InvalidRules___init__ T.fd_InvalidRules___init__ ["self", "part"] (spIR T.C_InvalidRules) := ok_iRules HP T hf
  have G_is_number_from : FnOk P w K mg base CX0 2 T.f_is_number_from T.fd_is_number_from ["thing", "least", "most"] (spNumFrom K) := ok_numFrom T
  refine FunOkC T.F_Rules___init__ sc_Rules___init__ (fun vs H Q E h => ?_) (fun cdv A outer s H vs Q E hr h => ?_)
  · obtain ⟨p, dx, a, b, c, n, j, rfl, _⟩ := h
    rfl
  · obtain ⟨p, dx, a, b, c, n, j, rfl, hp, ⟨_, hg, hb⟩, k⟩ := h
    refine ⟨_, (pss_cons (ps_set (i := 5) sc_Rules___init__.nd rfl (.inl rfl) (pe_tup (pa_cons (pv 1) (pa_cons (pv 2) (pa_cons (pv 3) pa_nil)))))
      (pss_cons (ps_for PassesOwn.leaving rfl (pi_enumT (by rfl) T.z_enumerate (pa_cons (pe_glob (v := .ref T.A_RULE_WORDS) (by rfl) T.g_RULE_WORDS rfl) pa_nil)) (pg_tup (by rfl) (pgs_cons (pg_name (i := 6) sc_Rules___init__.nd rfl (.inl rfl)) (pgs_cons (pg_name (i := 7) sc_Rules___init__.nd rfl (.inl rfl)) pgs_nil))) (pss_one (ps_if (pt_cmpR (op_notInT (units2 hr)) (pe_ix ix_tup (pv 5) (pv 6) (fun _ _ => rfl)) (pv 7) (by rfl)) (pss_one (L2N.ps_raise rfl (L2N.takes_of rfl rfl rfl rfl) (pmkN T.O_InvalidRules T.iC_InvalidRules T.tI_InvalidRules G_InvalidRules___init__ (hr.mono (by first | decide | omega)) (bi_InvalidRules T) passN (by rfl) T.gC_InvalidRules (pa_cons (pv 6) pa_nil)))) pss_nil)))
      (pss_cons (ps_if (pt_not (pt_val (pe_call G_is_number_from (hr.mono (by first | decide | omega)) (by rfl) T.g_is_number_from T.F_is_number_from.kp (b_is_number_from T) .nil pass0 (pa_cons (pv 4) (pa_cons pe_int (pa_cons (pe_glob (v := .int 8) (by rfl) T.c_MOST_BOUND ⟨_, rfl⟩) pa_nil)))))) (pss_one (L2N.ps_raise rfl (L2N.takes_of rfl rfl rfl rfl) (pmkN T.O_InvalidRules T.iC_InvalidRules T.tI_InvalidRules G_InvalidRules___init__ (hr.mono (by first | decide | omega)) (bi_InvalidRules T) passN (by rfl) T.gC_InvalidRules (pa_cons (pe_glob (v := .int 3) (by rfl) T.c_BOUND_PART ⟨_, rfl⟩) pa_nil)))) pss_nil)
      (pss_cons (ps_fld (pv 0) (pv 1) rfl)
      (pss_cons (ps_fld (pv 0) (pv 2) rfl)
      (pss_cons (ps_fld (pv 0) (pv 3) rfl)
      (pss_one (ps_fld (pv 0) (pv 4) rfl)))))))), ?_⟩
    -- words = (..)
    refine ⟨_, rfl, _, rfl, _, rfl, sz_le (by simp), fun t ht => ?_⟩
    have f0 : Fr [] H (upd H t (.tup [a, b, c])) := Fr.new ht
    refine ⟨T.A_RULE_WORDS, _, rfl, T.k_RULE_WORDS _, for_enumT (K := K) (a := T.A_RULE_WORDS) (xs := [.ref T.A_RULE_WORDS_0, .ref T.A_RULE_WORDS_1, .ref T.A_RULE_WORDS_2])
      (fun i σ H' => i ≤ j ∧ Fr [] H H' ∧ H' t = some (.tup [a, b, c]) ∧ ∃ v6 v7 : Option V, σ = [some (.ref p), some a, some b, some c, some n, some (.ref t), v6, v7])
      ⟨Nat.zero_le _, f0, upd_same, none, none, rfl⟩ (fun i σ H' _ h => T.k_RULE_WORDS _) ?_ ?_⟩
    · rintro i x σ H1 U hx ⟨hij, f1, e1, v6, v7, rfl⟩ hU
      have hi : i < 3 := lt_of_at hx
      obtain ⟨al, rfl, hal⟩ : ∃ al : Addr, x = .ref al ∧ TupK K al (sV (RWS.getD i [])) := by
        match i, hx with
        | 0, hx => cases hx; exact ⟨_, rfl, T.k_RULE_WORDS_0⟩
        | 1, hx => cases hx; exact ⟨_, rfl, T.k_RULE_WORDS_1⟩
        | 2, hx => cases hx; exact ⟨_, rfl, T.k_RULE_WORDS_2⟩
        | i + 3, hx => simp at hx
      have f2 : Fr [] H1 (upd H1 U (.tup [.int (i : Nat), .ref al])) := Fr.new hU
      obtain ⟨y, hy⟩ : ∃ y, ([a, b, c] : List V)[i]? = some y := ⟨[a, b, c][i], List.getElem?_eq_getElem hi⟩
      have hy4 : ([a, b, c, n] : List V)[i]? = some y := by
        match i, hy with
        | 0, hy => exact hy
        | 1, hy => exact hy
        | 2, hy => exact hy
        | i + 3, hy => simp at hy
      refine ⟨U, _, rfl, SqT.of upd_same, rfl, _, _, rfl, _, _, rfl, rfl, ?_⟩
      have hshp : SeqAt.shaped (.tuple (sD (RWS.getD i []))) = true := shaped_str (good_RWS i hi)
      by_cases hlt : i < j
      · obtain ⟨z, hz, hzm⟩ := hg i hlt hi
        rw [hy4] at hz
        cases hz
        refine ⟨_, rfl, _, rfl, t, _, (i : Int), _, rfl, rfl, SqT.of (f2 _ _ e1 (by simp)), atI_nat hy, _, rfl, .str z, sD (RWS.getD i []), .str z, tupK_dp hal _, shaped_z (good_RWS i hi z hzm), hshp, _, rfl, ?_⟩
        rw [any_sD, decide_eq_true hzm]
        exact iteF ⟨hlt, f1.trans f2, f2 _ _ e1 (by simp), _, _, rfl⟩
      · have ej : i = j := Nat.le_antisymm hij (Nat.le_of_not_lt hlt)
        subst ej
        obtain ⟨_, v, d, hv, od, nw⟩ := hb.resolve_right (fun z => by omega)
        rw [hy4] at hv
        cases hv
        refine ⟨_, rfl, _, rfl, t, _, (i : Int), _, rfl, rfl, SqT.of (f2 _ _ e1 (by simp)), atI_nat hy, _, rfl, d, sD (RWS.getD i []), ((od.keep0 f1).keep0 f2).dp, tupK_dp hal _, nw.1, hshp, _, rfl, ?_⟩
        rw [nw.2]
        refine iteT ⟨_, rfl, by simp, fun q hq => ⟨q, i, rfl, by omega, upd_same, fun dd hdd hne => ⟨rfl, dd, _, upd_same, (upd_ne hne).trans upd_same, (free_upd hdd).1, ?_⟩⟩⟩
        have hq0 : H dd = none := some_of (f1.trans f2) (by simp) (free_upd hdd).1
        exact k dd _ hq0 ((f1.trans f2).trans (raise_fr hq (free_upd hdd).1)) upd_same
    · rintro σ H1 ⟨hij, f1, e1, v6, v7, rfl⟩
      obtain ⟨ej, v, hv, nb⟩ := hb.resolve_left (fun z => absurd hij (Nat.not_le_of_lt z.1))
      cases hv
      subst ej
      have fin : ∀ (σ : L2.St) (H2 : Hp), Fr [] H H2 → ∀ q, H2 q = none → spIR T.C_InvalidRules (.ref q :: ([.int (3 : Nat)] ++ [])) (upd H2 q (exo q T.C_InvalidRules none)) (fun v H3 => v = .non ∧ ∃ (d : Addr) (fs : List (Str × V)), H3 q = some (exo q T.C_InvalidRules (some d)) ∧ H3 d = some (exd d fs) ∧ H2 d = none ∧ E (.ref T.C_InvalidRules) (some d) (upd (del H3 q) d (.xd fs))) (fun _ _ _ => False) := fun σ H2 f2 q hq =>
        ⟨q, 3, rfl, by decide, upd_same, fun dd hdd hne => ⟨rfl, dd, _, upd_same, (upd_ne hne).trans upd_same, (free_upd hdd).1, k dd _ (some_of f2 (by simp) (free_upd hdd).1) (f2.trans (raise_fr hq (free_upd hdd).1)) upd_same⟩⟩
      rcases nb with ⟨i, rfl, hi⟩ | rfl | ⟨b, rfl⟩ | ⟨z, rfl⟩
      · refine ⟨_, rfl, _, 0, 8, rfl, .inl ⟨i, rfl, _, rfl, ?_⟩⟩
        rw [hi]
        exact iteT ⟨by simp, fin (start [] []) _ f1⟩
      · exact ⟨_, rfl, _, 0, 8, rfl, .inr ⟨_, false, false, .base .non, kit_ty (by decide +kernel), kit_ty (by decide +kernel), rfl, _, rfl, iteT ⟨by simp, fin (start [] []) _ f1⟩⟩⟩
      · exact ⟨_, rfl, _, 0, 8, rfl, .inr ⟨_, true, true, .base (.bl b), kit_ty (by decide +kernel), kit_ty (by decide +kernel), rfl, _, rfl, iteT ⟨by simp, fin (start [] []) _ f1⟩⟩⟩
      · exact ⟨_, rfl, _, 0, 8, rfl, .inr ⟨_, false, false, .base (.str z), kit_ty (by decide +kernel), kit_ty (by decide +kernel), rfl, _, rfl, iteT ⟨by simp, fin (start [] []) _ f1⟩⟩⟩
end
/-! ### recipes that cannot be -/
/-- words that may begin a recipe -/
structure OkP (A zs : List Str) : Prop where
  len : zs.length ≤ 8
  mem : ∀ z ∈ zs, z ∈ A
  one : ∀ (i : Nat) (z : Str), zs[i]? = some z → z ∉ SS → z ∉ zs.take i
/-- no tuple -/
def NoTup (H : Hp) (v : V) : Prop := v = .non ∨ (∃ i, v = .int i) ∨ (∃ z, v = .str z) ∨ ∃ (l : Addr) (xs : List V), v = .ref l ∧ H l = some (.lst xs)
theorem NoTup.keep {H H' : Hp} {v : V} (h : NoTup H v) (f : Fr [] H H') : NoTup H' v := by
  rcases h with h | h | h | ⟨l, xs, e, hl⟩
  · exact .inl h
  · exact .inr (.inl h)
  · exact .inr (.inr (.inl h))
  · exact .inr (.inr (.inr ⟨l, xs, e, f _ _ hl (by simp)⟩))
theorem NoTup.ty {K : PySem.W.Frag} {H : Hp} {v : V} (h : NoTup H v) : ∃ t : Value, TyX K H v t ∧ PySem.W.kitOne K t (.type "tuple") = some false := by
  rcases h with rfl | ⟨i, rfl⟩ | ⟨z, rfl⟩ | ⟨l, xs, rfl, hl⟩
  · exact ⟨_, .base .non, kit_ty (by decide +kernel)⟩
  · exact ⟨_, .base (.int i), kit_ty (by decide +kernel)⟩
  · exact ⟨_, .base (.str z), kit_ty (by decide +kernel)⟩
  · exact ⟨_, .base (.lst hl), kit_ty (by decide +kernel)⟩
/-- a tuple whose first word that cannot be is at j -/
def BadAt (H : Hp) (A : List Str) (v : V) (j : Nat) : Prop := ∃ (p : Addr) (zs : List Str), v = .ref p ∧ zs.length = j ∧ OkP A zs ∧
  ((∃ (x : V) (rest : List V), H p = some (.tup (sV zs ++ x :: rest)) ∧ (j = 8 ∨ (j < 8 ∧ ∃ d, OddV H x d ∧ NoWord A d) ∨ (j < 8 ∧ ∃ z, x = .str z ∧ z ∈ A ∧ z ∉ SS ∧ z ∈ zs))) ∨ (H p = some (.tup (sV zs)) ∧ ("done" : Str) ∈ A ∧ ("done" : Str) ∉ zs))
theorem BadAt.keep {H H' : Hp} {A : List Str} {v : V} {j : Nat} (h : BadAt H A v j) (f : Fr [] H H') : BadAt H' A v j := by
  obtain ⟨p, zs, e, l, ok, h⟩ := h
  refine ⟨p, zs, e, l, ok, ?_⟩
  rcases h with ⟨x, rest, hp, h⟩ | ⟨hp, h⟩
  · refine .inl ⟨x, rest, f _ _ hp (by simp), ?_⟩
    rcases h with h | ⟨h8, d, o, n⟩ | h
    · exact .inl h
    · exact .inr (.inl ⟨h8, d, o.keep0 f, n⟩)
    · exact .inr (.inr h)
  · exact .inr ⟨f _ _ hp (by simp), h⟩
def spPlaceBad (K : PySem.W.Frag) : Sp := fun vs H Q _ => ∃ (v : V) (al : Addr) (A : List Str) (j : Nat), vs = [v, .ref al] ∧ TupK K al (sV A) ∧ GoodW A ∧ ((j = 0 ∧ NoTup H v) ∨ BadAt H A v j) ∧ ∀ H', Fr [] H H' → Q (.int (j : Int)) H'
theorem cat_at {zs : List Str} {x : V} {rest : List V} {i : Nat} (h : i < zs.length) : (sV zs ++ x :: rest)[i]? = some (.str zs[i]) := by
  rw [List.getElem?_append_left (by rw [sV_len]; exact h)]
  unfold sV
  rw [List.getElem?_map, List.getElem?_eq_getElem h]
  rfl
theorem cat_mid {zs : List Str} {x : V} {rest : List V} : (sV zs ++ x :: rest)[zs.length]? = some x := by
  rw [List.getElem?_append_right (by rw [sV_len]; exact Nat.le_refl _), sV_len, Nat.sub_self]
  rfl
theorem cat_take {zs : List Str} {ys : List V} {i : Nat} (h : i ≤ zs.length) : cutV (sV zs ++ ys) none (some (i : Int)) = sV (zs.take i) := by
  rw [cut_take (by rw [List.length_append, sV_len]; omega)]
  rw [List.take_append_of_le_length (by rw [sV_len]; exact h)]
  exact List.map_take.symm
section
variable {P : Program} {w : World} {K : PySem.W.Frag} {mg : Str → Option Value} {base : Heap}
theorem ok_placeBad (T : Gx K mg) : FnOk P w K mg base CX0 1 T.f__invalid_place T.fd__invalid_place ["recipe", "allowed"] (spPlaceBad K) := by
  refine T.F__invalid_place.ok sc__invalid_place (fun vs H Q E h => ?_) (fun cdv A outer s H vs Q E hr h => ?_)
  · obtain ⟨v, al, A, j, rfl, _⟩ := h
    rfl
  · obtain ⟨v, al, AL, j, rfl, hal, gA, hb, k⟩ := h
    refine ⟨_, (pss_cons (ps_if (pt_not (pt_val (pe_callB call_isi (by rfl) T.z_isinstance (by decide +kernel) (pa_cons (pv 0) (pa_cons (pe_bltn (v := .ty "tuple") (by rfl) T.z_tuple (by decide +kernel) rfl) pa_nil))))) (pss_one (ps_ret pe_int)) pss_nil)
      (pss_cons (ps_for PassesOwn.never rfl (pi_enumT (by rfl) T.z_enumerate (pa_cons (pv 0) pa_nil)) (pg_tup (by rfl) (pgs_cons (pg_name (i := 2) sc__invalid_place.nd rfl (.inl rfl)) (pgs_cons (pg_name (i := 3) sc__invalid_place.nd rfl (.inl rfl)) pgs_nil))) (pss_cons (ps_if (PW.pt (pw_or (pt_cmpR op_eq (pv 2) (pe_glob (v := .int 8) (by rfl) T.c_MOST_STEPS ⟨_, rfl⟩) (nomark _)) (pw_or1 (pt_cmpR (op_notInT (units2 hr)) (pv 3) (pv 1) (by rfl))))) (pss_one (ps_ret (pv 2))) pss_nil)
      (pss_one (ps_if (PW.pt (pw_and (pt_cmpR op_notIn_seq (pv 3) (pe_glob (v := .ref T.A_SYNC_STEPS) (by rfl) T.g_SYNC_STEPS rfl) (by rfl)) (pw_and1 (pt_cmpR op_in_seq (pv 3) (pe_slice sl_tup (pv 0) po_none (po_some (pv 2))) (by rfl))))) (pss_one (ps_ret (pv 2))) pss_nil))))
      (pss_cons (ps_if (PW.pt (pw_and (pt_cmpR op_in_seq pe_str (pv 1) (by rfl)) (pw_and1 (pt_cmpR op_notIn_seq pe_str (pv 0) (by rfl))))) (pss_one (ps_ret (pe_callB call_len_seq (by rfl) T.z_len (by decide +kernel) (pa_cons (pv 0) pa_nil)))) pss_nil)
      (pss_one (ps_ret pe_non))))), ?_⟩
    rcases hb with ⟨rfl, nt⟩ | hb
    · obtain ⟨t, ty, kt⟩ := nt.ty (K := K)
      exact ⟨_, rfl, _, .ty "tuple", _, _, false, rfl, ClsV.ty "tuple", ty, kt, _, rfl, iteT (k _ (Fr.refl _ _))⟩
    obtain ⟨t, zs, rfl, hj, ok, hb⟩ := hb
    obtain ⟨ys, ht, hpre⟩ : ∃ ys : List V, H t = some (.tup (sV zs ++ ys)) ∧ (ys = [] ∨ ∃ x rest, ys = x :: rest) := by
      rcases hb with ⟨x, rest, hp, _⟩ | ⟨hp, _⟩
      · exact ⟨_, hp, .inr ⟨x, rest, rfl⟩⟩
      · exact ⟨[], by rw [List.append_nil]; exact hp, .inl rfl⟩
    refine ⟨_, rfl, _, .ty "tuple", .type "tuple", _, true, rfl, ClsV.ty "tuple", .base (.tup ht), kit_ty (by decide +kernel), _, rfl, iteF ?_⟩
    refine ⟨_, rfl, t, _, rfl, SqT.of ht, for_enumT (K := K) (a := t) (xs := sV zs ++ ys) (fun i σ H' => i ≤ j ∧ Fr [] H H' ∧ ∃ v2 v3 : Option V, σ = [some (.ref t), some (.ref al), v2, v3]) ⟨Nat.zero_le _, Fr.refl _ _, none, none, rfl⟩ (fun i σ H' _ h => SqT.of (h.2.1 _ _ ht (by simp))) ?_ ?_⟩
    · rintro i x σ H1 U hx ⟨hij, f1, v2, v3, rfl⟩ hU
      have f2 : Fr [] H (upd H1 U (.tup [.int (i : Nat), x])) := f1.trans (Fr.new hU)
      have hshp : SeqAt.shaped (.tuple (sD AL)) = true := shaped_str gA
      refine ⟨U, _, rfl, SqT.of upd_same, rfl, _, _, rfl, _, _, rfl, rfl, ?_⟩
      refine ⟨_, rfl, rfl, _, rfl, ?_⟩
      by_cases hlt : i < j
      · -- a word that may stand
        have hi : i < zs.length := by omega
        obtain ⟨z, hz⟩ : ∃ z, zs[i]? = some z := ⟨zs[i], List.getElem?_eq_getElem hi⟩
        have ex : x = .str z := by
          rw [List.getElem?_append_left (by rw [sV_len]; exact hi)] at hx
          obtain ⟨z', e1, e2⟩ := sV_at hx
          rw [hz] at e2
          cases e2
          exact e1
        subst ex
        have zm := List.mem_of_getElem? hz
        have n8 : decide (V.int (i : Int) = V.int 8) = false := decide_eq_false (fun e => by
          have := V.int.inj e
          have := ok.len
          omega)
        rw [n8]
        refine iteF ⟨_, rfl, _, rfl, .str z, sD AL, .str z, tupK_dp hal _, shaped_z (gA z (ok.mem z zm)), hshp, _, rfl, ?_⟩
        rw [any_sD, decide_eq_true (ok.mem z zm)]
        refine iteF ?_
        refine ⟨_, rfl, T.A_SYNC_STEPS, sV SS, rfl, .inr (T.k_SYNC_STEPS _), rfl, rfl, _, rfl, ?_⟩
        rw [inV_str]
        by_cases hs : z ∈ SS
        · rw [decide_eq_true hs]
          exact iteF (iteF ⟨hlt, f2, _, _, rfl⟩)
        · rw [decide_eq_false hs]
          refine iteT ?_
          refine ⟨_, rfl, _, rfl, _, rfl, (i : Int), rfl, t, sV zs ++ ys, rfl, SqT.of (f2 _ _ ht (by simp)), ?_, fun g hg => ?_⟩
          · rintro ⟨_, e⟩
            rw [HT.sIx_nat, List.length_append, sV_len, Nat.min_eq_left (by omega)] at e
            omega
          · rw [cat_take (Nat.le_of_lt hi)]
            refine ⟨g, _, rfl, .inr (SqT.of upd_same), rfl, sV_flat _, _, rfl, ?_⟩
            rw [inV_str, decide_eq_false (ok.one i z hz hs)]
            exact iteF ⟨hlt, f2.trans (Fr.new hg), _, _, rfl⟩
      · have ej : i = j := Nat.le_antisymm hij (Nat.le_of_not_lt hlt)
        subst ej
        rcases hb with ⟨x', rest, hp, hb⟩ | ⟨hp, _⟩
        · have ey : x = x' := by
            rw [ht] at hp
            have e := HO.tup.inj (Option.some.inj hp)
            rw [e, ← hj, cat_mid] at hx
            exact (Option.some.inj hx).symm
          subst ey
          rcases hb with h8 | ⟨h8, d, od, nw⟩ | ⟨h8, z, rfl, zm, zs1, zs2⟩
          · have n8 : decide (V.int (i : Int) = V.int 8) = true := decide_eq_true (by rw [h8]; rfl)
            rw [n8]
            exact iteT ⟨_, rfl, k _ f2⟩
          · have n8 : decide (V.int (i : Int) = V.int 8) = false := decide_eq_false (fun e => by
              have := V.int.inj e
              omega)
            rw [n8]
            refine iteF ⟨_, rfl, _, rfl, d, sD AL, (od.keep0 f2).dp, tupK_dp hal _, nw.1, hshp, _, rfl, ?_⟩
            rw [nw.2]
            exact iteT ⟨_, rfl, k _ f2⟩
          · have n8 : decide (V.int (i : Int) = V.int 8) = false := decide_eq_false (fun e => by
              have := V.int.inj e
              omega)
            rw [n8]
            refine iteF ⟨_, rfl, _, rfl, .str z, sD AL, .str z, tupK_dp hal _, shaped_z (gA z zm), hshp, _, rfl, ?_⟩
            rw [any_sD, decide_eq_true zm]
            refine iteF ?_
            refine ⟨_, rfl, T.A_SYNC_STEPS, sV SS, rfl, .inr (T.k_SYNC_STEPS _), rfl, rfl, _, rfl, ?_⟩
            rw [inV_str, decide_eq_false zs1]
            refine iteT ?_
            refine ⟨_, rfl, _, rfl, _, rfl, (i : Int), rfl, t, sV zs ++ ys, rfl, SqT.of (f2 _ _ ht (by simp)), ?_, fun g hg => ?_⟩
            · rintro ⟨_, e⟩
              have hl : (0 : Nat) < zs.length := List.length_pos_of_mem zs2
              rw [HT.sIx_nat, List.length_append, sV_len, Nat.min_eq_left (by omega)] at e
              have hne : ys ≠ [] := fun e0 => by
                rw [ht, e0, List.append_nil] at hp
                have e := HO.tup.inj (Option.some.inj hp)
                have e2 := congrArg List.length e
                simp at e2
              have := List.length_pos_iff.mpr hne
              omega
            · have e8 : zs.take i = zs := by rw [← hj, List.take_length]
              rw [cat_take (by omega), e8]
              refine ⟨g, _, rfl, .inr (SqT.of upd_same), rfl, sV_flat _, _, rfl, ?_⟩
              rw [inV_str, decide_eq_true zs2]
              exact iteT ⟨_, rfl, k _ (f2.trans (Fr.new hg))⟩
        · rw [ht] at hp
          have e := HO.tup.inj (Option.some.inj hp)
          rw [e] at hx
          have := lt_of_at hx
          rw [sV_len] at this
          omega
    · rintro σ H1 ⟨hij, f1, v2, v3, rfl⟩
      rcases hb with ⟨x', rest, hp, hb⟩ | ⟨hp, hdA, hdz⟩
      · rw [ht] at hp
        have e := HO.tup.inj (Option.some.inj hp)
        rw [e, List.length_append, sV_len] at hij
        simp only [List.length_cons] at hij
        omega
      · refine ⟨_, rfl, al, sV AL, rfl, .inr (hal _), rfl, sV_flat _, _, rfl, ?_⟩
        rw [inV_str, decide_eq_true hdA]
        refine iteT ⟨_, rfl, t, sV zs, rfl, .inr (SqT.of (f1 _ _ hp (by simp))), rfl, sV_flat _, _, rfl, ?_⟩
        rw [inV_str, decide_eq_false hdz]
        refine iteT ⟨_, rfl, t, sV zs, rfl, .inr (SqT.of (f1 _ _ hp (by simp))), ?_⟩
        rw [sV_len, hj]
        exact k _ f1
end
theorem FnOk_or {P : Program} {w : World} {K : PySem.W.Frag} {mg : Str → Option Value} {base : Heap} {CX : CXT} {k : Nat} {f : Addr} {fd : FuncData} {ps : List Str} {sp1 sp2 : Sp} (a : FnOk P w K mg base CX k f fd ps sp1) (b : FnOk P w K mg base CX k f fd ps sp2) :
    FnOk P w K mg base CX k f fd ps (fun vs H Q E => sp1 vs H Q E ∨ sp2 vs H Q E) :=
  ⟨fun vs H Q E h => h.elim (a.len vs H Q E) (b.len vs H Q E), fun A o s H ar us vs Q E hr e0 hb r h => h.elim (fun z => a.run A o s H ar us vs Q E hr e0 hb r z) fun z => b.run A o s H ar us vs Q E hr e0 hb r z⟩
/-- four recipes, the first that cannot be at i, there at place j -/
structure BadRec (H : Hp) (ps : List V) (i j : Nat) : Prop where
  len : ps.length = 4
  lt : i < 4
  small : j < 12
  good : ∀ m, m < i → ∃ (t : Addr) (zs : List Str), ps[m]? = some (.ref t) ∧ H t = some (.tup (sV zs)) ∧ OkR (AS m) zs
  bad : ∃ v, ps[i]? = some v ∧ ((j = 0 ∧ NoTup H v) ∨ BadAt H (AS i) v j)
def spQBad (X C : Addr) : Sp := fun vs H _ E => ∃ (p dx : Addr) (a b c d : V) (i j : Nat), vs = [.ref p, a, b, c, d] ∧ H p = some (.ins C dx []) ∧ BadRec H [a, b, c, d] i j ∧
  ∀ (g : Addr) (H' : Hp), H g = none → Fr [] H H' → H' g = some (.xd [("place", .int (j : Int)), ("part", .int (i : Int))]) → E (.ref X) (some g) H'
theorem good_AS (m : Nat) : GoodW (AS m) := by
  unfold AS
  split
  · exact good_WS
  · exact good_KS
section
variable {P : Program} {w : World} {K : PySem.W.Frag} {mg : Str → Option Value} {base : Heap}
theorem ok_qBad (HP : ProgOk P file) (T : Gx K mg) (hf : file = T.file) : FnOk P w K mg base (L2N.CX P w) 4 T.f_Recipes___init__ T.fd_Recipes___init__ ["self", "through", "back", "around", "clean"] (spQBad T.C_InvalidRecipes T.C_Recipes) := by
  have G_InvalidRecipes___init__ : FnOk P w K mg base C8.CX0 1 T.f_InvalidRecipes___init__ T.fd_InvalidRecipes___init__ ["self", "part", "place"] (spIQ T.C_InvalidRecipes) := ok_iRecipes HP T hf
  have G__invalid_place : FnOk P w K mg base CX0 1 T.f__invalid_place T.fd__invalid_place ["recipe", "allowed"] (fun vs H Q E => spPlace K vs H Q E ∨ spPlaceBad K vs H Q E) := FnOk_or (ok_place T) (ok_placeBad T)
  refine FunOkC T.F_Recipes___init__ sc_Recipes___init__ (fun vs H Q E h => ?_) (fun cdv A outer s H vs Q E hr h => ?_)
  · obtain ⟨p, dx, a, b, c, d, i, j, rfl, _⟩ := h
    rfl
  · obtain ⟨p, dx, a, b, c, d, I, j, rfl, hp, ⟨_, hI, hj, hg, hb⟩, k⟩ := h
    refine ⟨_, (pss_cons (ps_set (i := 5) sc_Recipes___init__.nd rfl (.inl rfl) (pe_tup (pa_cons (pe_glob (v := .ref T.A_WRITE_STEPS) (by rfl) T.g_WRITE_STEPS rfl) (pa_cons (pe_glob (v := .ref T.A_WRITE_STEPS) (by rfl) T.g_WRITE_STEPS rfl) (pa_cons (pe_glob (v := .ref T.A_WRITE_STEPS) (by rfl) T.g_WRITE_STEPS rfl) (pa_cons (pe_glob (v := .ref T.A_CLEAN_STEPS) (by rfl) T.g_CLEAN_STEPS rfl) pa_nil))))))
      (pss_cons (ps_for PassesOwn.leaving rfl (pi_enumT (by rfl) T.z_enumerate (pa_cons (pe_tup (pa_cons (pv 1) (pa_cons (pv 2) (pa_cons (pv 3) (pa_cons (pv 4) pa_nil))))) pa_nil)) (pg_tup (by rfl) (pgs_cons (pg_name (i := 6) sc_Recipes___init__.nd rfl (.inl rfl)) (pgs_cons (pg_name (i := 7) sc_Recipes___init__.nd rfl (.inl rfl)) pgs_nil))) (pss_cons (ps_set (i := 8) sc_Recipes___init__.nd rfl (.inl rfl) (pe_call G__invalid_place (hr.mono (by first | decide | omega)) (by rfl) T.g__invalid_place T.F__invalid_place.kp (b__invalid_place T) .nil pass0 (pa_cons (pv 7) (pa_cons (pe_ix ix_tup (pv 5) (pv 6) (fun _ _ => rfl)) pa_nil))))
      (pss_one (ps_if (pt_cmpR op_notN (pv 8) pe_non (nomark _)) (pss_one (L2N.ps_raise rfl (L2N.takes_of rfl rfl rfl rfl) (pmkN T.O_InvalidRecipes T.iC_InvalidRecipes T.tI_InvalidRecipes G_InvalidRecipes___init__ (hr.mono (by first | decide | omega)) (bi_InvalidRecipes T) passN (by rfl) T.gC_InvalidRecipes (pa_cons (pv 6) (pa_cons (pv 8) pa_nil))))) pss_nil))))
      (pss_cons (ps_fld (pv 0) (pv 1) rfl)
      (pss_cons (ps_fld (pv 0) (pv 2) rfl)
      (pss_cons (ps_fld (pv 0) (pv 3) rfl)
      (pss_one (ps_fld (pv 0) (pv 4) rfl))))))), ?_⟩
    refine ⟨sz_le (by simp), fun t ht => ?_⟩
    refine ⟨_, rfl, _, rfl, _, rfl, _, rfl, sz_le (by simp), fun u hu => ?_⟩
    have et : (upd (upd H t (.tup [.ref T.A_WRITE_STEPS, .ref T.A_WRITE_STEPS, .ref T.A_WRITE_STEPS, .ref T.A_CLEAN_STEPS])) u (.tup [a, b, c, d])) t = some (.tup [.ref T.A_WRITE_STEPS, .ref T.A_WRITE_STEPS, .ref T.A_WRITE_STEPS, .ref T.A_CLEAN_STEPS]) := (upd_ne (free_upd hu).2.symm).trans upd_same
    refine ⟨u, _, rfl, SqT.of upd_same, for_enumT (K := K) (a := u) (xs := [a, b, c, d]) (fun i σ H' => i ≤ I ∧ Fr [] H H' ∧ H' t = some (.tup [.ref T.A_WRITE_STEPS, .ref T.A_WRITE_STEPS, .ref T.A_WRITE_STEPS, .ref T.A_CLEAN_STEPS]) ∧ H' u = some (.tup [a, b, c, d]) ∧
        ∃ v6 v7 v8 : Option V, σ = [some (.ref p), some a, some b, some c, some d, some (.ref t), v6, v7, v8])
      ⟨Nat.zero_le _, (Fr.new ht).trans (Fr.new hu), et, upd_same, none, none, none, rfl⟩ (fun i σ H' _ h => SqT.of h.2.2.2.1) ?_ ?_⟩
    · rintro i x σ H1 U hx ⟨hij, f1, e1, e2, v6, v7, v8, rfl⟩ hU
      have hi4 : i < 4 := lt_of_at hx
      refine ⟨U, _, rfl, SqT.of upd_same, rfl, _, _, rfl, _, _, rfl, rfl, ?_⟩
      obtain ⟨al, hal, hK⟩ : ∃ al : Addr, ([.ref T.A_WRITE_STEPS, .ref T.A_WRITE_STEPS, .ref T.A_WRITE_STEPS, .ref T.A_CLEAN_STEPS] : List V)[i]? = some (.ref al) ∧ TupK K al (sV (AS i)) := by
        match i, hi4 with
        | 0, _ => exact ⟨_, rfl, T.k_WRITE_STEPS⟩
        | 1, _ => exact ⟨_, rfl, T.k_WRITE_STEPS⟩
        | 2, _ => exact ⟨_, rfl, T.k_WRITE_STEPS⟩
        | 3, _ => exact ⟨_, rfl, T.k_CLEAN_STEPS⟩
      have f2 : Fr [] H1 (upd H1 U (.tup [.int (i : Nat), x])) := Fr.new hU
      refine ⟨_, rfl, _, rfl, _, rfl, t, _, (i : Int), _, rfl, rfl, SqT.of (f2 _ _ e1 (by simp)), atI_nat hal, ?_⟩
      by_cases hlt : i < I
      · obtain ⟨x', zs, hx1, hx', ok⟩ := hg i hlt
        rw [hx] at hx1
        cases hx1
        refine .inl ⟨x', al, AS i, zs, rfl, f2 _ _ (f1 _ _ hx' (by simp)) (by simp), hK, ok, fun H2 f3 => ?_⟩
        exact ⟨_, rfl, rfl, _, rfl, iteF ⟨hlt, (f1.trans f2).trans f3, f3 _ _ (f2 _ _ e1 (by simp)) (by simp), f3 _ _ (f2 _ _ e2 (by simp)) (by simp), _, _, _, rfl⟩⟩
      · have ej : i = I := Nat.le_antisymm hij (Nat.le_of_not_lt hlt)
        subst ej
        obtain ⟨v, hv, hbad⟩ := hb
        rw [hx] at hv
        cases hv
        have hbad' : (j = 0 ∧ NoTup (upd H1 U (.tup [.int (i : Nat), x])) x) ∨ BadAt (upd H1 U (.tup [.int (i : Nat), x])) (AS i) x j := by
          rcases hbad with ⟨h0, nt⟩ | h
          · exact .inl ⟨h0, nt.keep (f1.trans f2)⟩
          · exact .inr (h.keep (f1.trans f2))
        refine .inr ⟨x, al, AS i, j, rfl, hK, good_AS i, hbad', fun H2 f3 => ?_⟩
        refine ⟨_, rfl, rfl, _, rfl, iteT ?_⟩
        refine ⟨_, rfl, _, rfl, by simp, fun q hq => ⟨q, i, j, rfl, by omega, hj, upd_same, fun dd hdd hne => ⟨rfl, dd, _, (upd_ne hne.symm).trans upd_same, upd_same, (free_upd hdd).1, ?_⟩⟩⟩
        have f3' : Fr [] H H2 := (f1.trans f2).trans f3
        exact k dd _ (some_of f3' (by simp) (free_upd hdd).1) (f3'.trans (raise_fr2 hq (free_upd hdd).1)) upd_same
    · rintro σ H1 ⟨hij, f1, e1, e2, v6, v7, v8, rfl⟩
      exact absurd hij (by simp; omega)
end
/-! ### the law's two lambdas -/
def lamA : Expr → Arguments
  | .Lambda a _ _ _ => a
  | _ => defArgs s_law
def lamB : Expr → Expr
  | .Lambda _ b _ _ => b
  | e => e
def lamS : Expr → Scope
  | .Lambda _ _ s _ => s
  | _ => defScope s_law
/-- the lambda that a statement hands over, or gives a name -/
def lamAt : Stmt → Expr
  | .If (.Compare (.Call _ (l :: _) _ _) _ _ _) _ _ _ => l
  | .Assign _ v _ => v
  | _ => .Tuple [] 0 ⟨0, 0, 0, 0⟩
abbrev lamR : Expr := lamAt ((defBody s_law).getD 6 (.Pass ⟨0, 0, 0, 0⟩))
abbrev lamQ : Expr := lamAt ((defBody s_law).getD 18 (.Pass ⟨0, 0, 0, 0⟩))
theorem make_free {H : Hp} {x dx C : Addr} (hx : H x = none) (hdx : H dx = none) (hne : dx ≠ x) : Fr [] H (upd (upd H dx (.own x)) x (.ins C dx [])) := (Fr.new hdx).trans (Fr.new (by rw [upd_ne hne.symm]; exact hx))
theorem BadRul.keep {H H' : Hp} {ps : List V} {j : Nat} (h : BadRul H ps j) (f : Fr [] H H') : BadRul H' ps j := by
  obtain ⟨h1, h2, h3⟩ := h
  refine ⟨h1, h2, ?_⟩
  rcases h3 with ⟨h4, v, d, hv, od, nw⟩ | h
  · exact .inl ⟨h4, v, d, hv, od.keep0 f, nw⟩
  · exact .inr h
theorem BadRec.keep {H H' : Hp} {ps : List V} {i j : Nat} (h : BadRec H ps i j) (f : Fr [] H H') : BadRec H' ps i j := by
  refine ⟨h.len, h.lt, h.small, fun m hm => ?_, ?_⟩
  · obtain ⟨t, zs, e1, e2, e3⟩ := h.good m hm
    exact ⟨t, zs, e1, f _ _ e2 (by simp), e3⟩
  · obtain ⟨v, e, hb⟩ := h.bad
    refine ⟨v, e, ?_⟩
    rcases hb with ⟨h0, nt⟩ | hb
    · exact .inl ⟨h0, nt.keep f⟩
    · exact .inr (hb.keep f)
section
open LamX NdefX
variable {P : Program} {w : World} {K : PySem.W.Frag} {mg : Str → Option Value} {base : Heap}
def lpR (T : Gx K mg) : List (Option V) → Hp → VK → XK → Prop := fun ws H _ E => ∃ (l : Addr) (a b c n : V) (j : Nat), ws = [some (.ref l)] ∧ H l = some (.lst [a, b, c, n]) ∧ BadRul H [a, b, c, n] j ∧
  ∀ (d : Addr) (H' : Hp), H d = none → Fr [] H H' → H' d = some (.xd [("part", .int (j : Int))]) → E (.ref T.C_InvalidRules) (some d) H'
def lpQ (T : Gx K mg) : List (Option V) → Hp → VK → XK → Prop := fun ws H _ E => ∃ (l : Addr) (a b c n : V) (i j : Nat), ws = [some (.ref l)] ∧ H l = some (.lst [a, b, c, n]) ∧ BadRec H [a, b, c, n] i j ∧
  ∀ (d : Addr) (H' : Hp), H d = none → Fr [] H H' → H' d = some (.xd [("place", .int (j : Int)), ("part", .int (i : Int))]) → E (.ref T.C_InvalidRecipes) (some d) H'
theorem lok_rules (T : Gx K mg) (HP : ProgOk P T.file) {f : Addr} {F : LF} (eb : F.body = lamB lamR) (es : F.scope = lamS lamR) (ep : F.params = lamA lamR) (ed : F.df.isSome = !(lamA lamR).defaults.isEmpty) : LOk P w K mg base (L2N.CX P w) 8 f F ["_law_bad"] (lpR T) := by
  have G := ok_rBad (w := w) (base := base) HP T rfl
  obtain ⟨q, pr, bd, sc, cl, c, df⟩ := F
  have eb' : bd = lamB lamR := eb
  have es' : sc = lamS lamR := es
  have ep' : pr = lamA lamR := ep
  have ed' : df.isSome = false := ed
  subst eb' es' ep'
  obtain rfl : df = none := by cases df with
    | none => rfl
    | some t => cases ed'
  refine lok_of (k := 7) (N := ["_law_bad"]) (lscope_by (show lscB ["_law_bad"] (lamS lamR) = true from by decide +kernel)) (lbind0 fun pm ct => rfl) (fun A outer s H ws Q E hr L hl h => ?_)
  obtain ⟨l, a, b, c', n, j, rfl, hl', hb, k⟩ := h
  refine ⟨_, pe_make T.M_Rules___init__ G (hr.mono (by decide)) (by rfl) T.gC_Rules (b_Rules___init__ T) .nil (L2N.passes_call (L2N.takes_of rfl rfl rfl rfl) (fun _ _ _ _ h => h)) (pa_cons (pe_ix ix_list (pv 0) pe_int (fun _ _ => rfl)) (pa_cons (pe_ix ix_list (pv 0) pe_int (fun _ _ => rfl)) (pa_cons (pe_ix ix_list (pv 0) pe_int (fun _ _ => rfl)) (pa_cons (pe_ix ix_list (pv 0) pe_int (fun _ _ => rfl)) pa_nil)))), ?_⟩
  refine ⟨_, rfl, l, _, 0, _, rfl, rfl, SqL.of hl', atI_nat (j := 0) rfl, ?_⟩
  refine ⟨_, rfl, l, _, 1, _, rfl, rfl, SqL.of hl', atI_nat (j := 1) rfl, ?_⟩
  refine ⟨_, rfl, l, _, 2, _, rfl, rfl, SqL.of hl', atI_nat (j := 2) rfl, ?_⟩
  refine ⟨_, rfl, l, _, 3, _, rfl, rfl, SqL.of hl', atI_nat (j := 3) rfl, ?_⟩
  refine fun x dx hx hdx hne => ?_
  have f0 : Fr [] H (upd (upd H dx (.own x)) x (.ins T.C_Rules dx [])) := make_free hx hdx hne
  exact ⟨x, dx, a, b, c', n, j, rfl, upd_same, hb.keep f0, fun d H' hd f e => k d H' (some_of f0 (by simp) hd) (f0.trans f) e⟩
theorem lok_recipes (T : Gx K mg) (HP : ProgOk P T.file) {f : Addr} {F : LF} (eb : F.body = lamB lamQ) (es : F.scope = lamS lamQ) (ep : F.params = lamA lamQ) (ed : F.df.isSome = !(lamA lamQ).defaults.isEmpty) : LOk P w K mg base (L2N.CX P w) 8 f F ["_law_orders"] (lpQ T) := by
  have G := ok_qBad (w := w) (base := base) HP T rfl
  obtain ⟨q, pr, bd, sc, cl, c, df⟩ := F
  have eb' : bd = lamB lamQ := eb
  have es' : sc = lamS lamQ := es
  have ep' : pr = lamA lamQ := ep
  have ed' : df.isSome = true := ed
  subst eb' es' ep'
  obtain ⟨t, rfl⟩ : ∃ t, df = some t := by cases df with
    | none => cases ed'
    | some t => exact ⟨t, rfl⟩
  refine lok_of (k := 7) (N := ["_law_orders"]) (lscope_by (show lscB ["_law_orders"] (lamS lamQ) = true from by decide +kernel)) (lbind1 (x := "_law_a") rfl (fun pm ct u => ⟨_, rfl, rfl⟩) (show (lamS lamQ).names.lookup ("_law_a" : Str) = some .local from by decide +kernel)) (fun A outer s H ws Q E hr L hl h => ?_)
  obtain ⟨l, a, b, c', n, i, j, rfl, hl', hb, k⟩ := h
  refine ⟨_, pe_make T.M_Recipes___init__ G (hr.mono (by decide)) (by rfl) T.gC_Recipes (b_Recipes___init__ T) .nil (L2N.passes_call (L2N.takes_of rfl rfl rfl rfl) (fun _ _ _ _ h => h)) (pa_cons (pe_ix ix_list (pv 0) pe_int (fun _ _ => rfl)) (pa_cons (pe_ix ix_list (pv 0) pe_int (fun _ _ => rfl)) (pa_cons (pe_ix ix_list (pv 0) pe_int (fun _ _ => rfl)) (pa_cons (pe_ix ix_list (pv 0) pe_int (fun _ _ => rfl)) pa_nil)))), ?_⟩
  refine ⟨_, rfl, l, _, 0, _, rfl, rfl, SqL.of hl', atI_nat (j := 0) rfl, ?_⟩
  refine ⟨_, rfl, l, _, 1, _, rfl, rfl, SqL.of hl', atI_nat (j := 1) rfl, ?_⟩
  refine ⟨_, rfl, l, _, 2, _, rfl, rfl, SqL.of hl', atI_nat (j := 2) rfl, ?_⟩
  refine ⟨_, rfl, l, _, 3, _, rfl, rfl, SqL.of hl', atI_nat (j := 3) rfl, ?_⟩
  refine fun x dx hx hdx hne => ?_
  have f0 : Fr [] H (upd (upd H dx (.own x)) x (.ins T.C_Recipes dx [])) := make_free hx hdx hne
  exact ⟨x, dx, a, b, c', n, i, j, rfl, upd_same, hb.keep f0, fun d H' hd f e => k d H' (some_of f0 (by simp) hd) (f0.trans f) e⟩
end
/-! ### what the law spoils, and how -/
def PVp (A zs : List Str) : Prop := zs.length ≤ 8 ∧ (∀ w ∈ zs, w ∈ A) ∧ (zs.filter (fun w => decide (w ∉ SS))).Nodup
instance (A zs : List Str) : Decidable (PVp A zs) := by
  unfold PVp
  infer_instance
theorem PVp.ok {A z : List Str} (h : PVp A z) : OkP A z := by
  obtain ⟨h1, h2, h3⟩ := h
  refine ⟨h1, h2, fun i w hi hw hm => ?_⟩
  have e : z = z.take i ++ w :: z.drop (i + 1) := by
    have hlt := (List.getElem?_eq_some_iff.mp hi)
    obtain ⟨hl, he⟩ := hlt
    rw [← he, List.getElem_cons_drop hl, List.take_append_drop]
  rw [e, List.filter_append, List.nodup_append] at h3
  have hd := h3.2.2
  refine hd w ?_ w ?_ rfl
  · rw [List.mem_filter]
    exact ⟨hm, decide_eq_true hw⟩
  · rw [List.filter_cons]
    rw [if_pos (decide_eq_true hw)]
    exact List.mem_cons_self
def SF (p : Nat) : List Str := SAFE.getD p []
theorem sf_take : ∀ p < 4, ∀ j < 6, PVp (AS p) ((SF p).take j) := by decide +kernel
theorem sf_len : ∀ p < 4, (SF p).length ≤ 5 ∧ 4 ≤ (SF p).length := by decide +kernel
theorem sf_full : ∀ p < 4, PVp (AS p) (SF p) := by decide +kernel
theorem okr_sf (p : Nat) (h : p < 4) : OkR (AS p) (SF p) := (pv_safe p h).ok
def SYN : List Str := ["sync slow", "sync slow", "sync slow", "sync fast", "sync fast"]
theorem sf_syn : ∀ p < 4, PVp (AS p) ((SF p ++ SYN).take 8) ∧ ((SF p ++ SYN).take 8).length = 8 ∧ 8 < (SF p ++ SYN).length := by decide +kernel
def noDone (z : List Str) : List Str := z.filter fun w => decide (w ≠ ("done" : Str))
theorem sf_done : ∀ p < 3, PVp (AS p) (noDone (SF p)) ∧ ("done" : Str) ∈ AS p ∧ ("done" : Str) ∉ noDone (SF p) ∧ (noDone (SF p)).length < 12 := by decide +kernel
def first4 (w : Str) : Str := cutS w none (some 4)
def firsts (z : List Str) : List Str := z.filter fun w => decide (first4 w ≠ ("sync" : Str))
theorem sf_first : ∀ p < 4, (firsts (SF p)).length ≤ 5 ∧ 0 < (firsts (SF p)).length ∧ ∀ z ∈ firsts (SF p), z ∈ AS p ∧ z ∉ SS ∧ z ∈ SF p := by decide +kernel
theorem sf_small : ∀ p < 4, ∀ z ∈ SF p, z.length ≤ 20 := by decide +kernel
def ODD : List PyData := [.none, .int 5, .str "", .str "Back", .str "used", .tuple [.str "keep"], .bool true]
def noWordB (A : List Str) (d : PyData) : Bool := SeqAt.shaped d && !((sD A).any fun z => PyData.eqv z d)
theorem noWord_of {A : List Str} {d : PyData} (h : noWordB A d = true) : NoWord A d := by
  unfold noWordB at h
  rw [Bool.and_eq_true, Bool.not_eq_true'] at h
  exact h
theorem odd_rules : ∀ k < 3, ∀ z < 7, (k = 2 ∧ z = 4) ∨ noWordB (RWS.getD k []) (ODD.getD z .none) = true := by decide +kernel
theorem odd_keep : noWordB (RWS.getD 2 []) (.str "keep") = true := by decide +kernel
theorem odd_used : ∀ z < 7, PyData.eqv (ODD.getD z .none) (.str "used") = decide (z = 4) := by decide +kernel
theorem odd_shaped : ∀ z < 7, SeqAt.shaped (ODD.getD z .none) = true := by decide +kernel
def WRO (p : Nat) : List PyData := [.none, .int 5, .str "sync", .str "Slow", .str (if p = 3 then "free" else "mark"), .tuple [.str "done"]]
theorem wro_bad : ∀ p < 4, ∀ z < 6, noWordB (AS p) ((WRO p).getD z .none) = true := by decide +kernel
theorem odd_at {H : Hp} {q : Addr} {z : Nat} (hq : H q = some (.tup (sV ["keep"]))) (hz : z < 7) : ∃ v, atI [.non, .int 5, .str "", .str "Back", .str "used", .ref q, .bl true] (z : Int) = some v ∧ OddV H v (ODD.getD z .none) := by
  match z, hz with
  | 0, _ => exact ⟨_, atI_nat (j := 0) rfl, .inl ⟨rfl, rfl⟩⟩
  | 1, _ => exact ⟨_, atI_nat (j := 1) rfl, .inr (.inl ⟨_, rfl, rfl⟩)⟩
  | 2, _ => exact ⟨_, atI_nat (j := 2) rfl, .inr (.inr (.inr (.inl ⟨_, rfl, rfl⟩)))⟩
  | 3, _ => exact ⟨_, atI_nat (j := 3) rfl, .inr (.inr (.inr (.inl ⟨_, rfl, rfl⟩)))⟩
  | 4, _ => exact ⟨_, atI_nat (j := 4) rfl, .inr (.inr (.inr (.inl ⟨_, rfl, rfl⟩)))⟩
  | 5, _ => exact ⟨_, atI_nat (j := 5) rfl, .inr (.inr (.inr (.inr ⟨q, _, rfl, hq, rfl⟩)))⟩
  | 6, _ => exact ⟨_, atI_nat (j := 6) rfl, .inr (.inr (.inl ⟨_, rfl, rfl⟩))⟩
theorem bound_at {z : Nat} (hz : z < 6) : ∃ v, atI [.int 9, .int (0 - 1), .non, .bl true, .str "1", .int 99] (z : Int) = some v ∧ NoBound v := by
  match z, hz with
  | 0, _ => exact ⟨_, atI_nat (j := 0) rfl, .inl ⟨_, rfl, by decide⟩⟩
  | 1, _ => exact ⟨_, atI_nat (j := 1) rfl, .inl ⟨_, rfl, by decide⟩⟩
  | 2, _ => exact ⟨_, atI_nat (j := 2) rfl, .inr (.inl rfl)⟩
  | 3, _ => exact ⟨_, atI_nat (j := 3) rfl, .inr (.inr (.inl ⟨_, rfl⟩))⟩
  | 4, _ => exact ⟨_, atI_nat (j := 4) rfl, .inr (.inr (.inr ⟨_, rfl⟩))⟩
  | 5, _ => exact ⟨_, atI_nat (j := 5) rfl, .inl ⟨_, rfl, by decide⟩⟩
theorem wrong_at {H : Hp} {q : Addr} {z p : Nat} (hq : H q = some (.tup (sV ["done"]))) (hz : z < 6) : ∃ v, atI [.non, .int 5, .str "sync", .str "Slow", .str (if p = 3 then "free" else "mark"), .ref q] (z : Int) = some v ∧ OddV H v ((WRO p).getD z .none) := by
  match z, hz with
  | 0, _ => exact ⟨_, atI_nat (j := 0) rfl, .inl ⟨rfl, rfl⟩⟩
  | 1, _ => exact ⟨_, atI_nat (j := 1) rfl, .inr (.inl ⟨_, rfl, rfl⟩)⟩
  | 2, _ => exact ⟨_, atI_nat (j := 2) rfl, .inr (.inr (.inr (.inl ⟨_, rfl, rfl⟩)))⟩
  | 3, _ => exact ⟨_, atI_nat (j := 3) rfl, .inr (.inr (.inr (.inl ⟨_, rfl, rfl⟩)))⟩
  | 4, _ => exact ⟨_, atI_nat (j := 4) rfl, .inr (.inr (.inr (.inl ⟨_, rfl, rfl⟩)))⟩
  | 5, _ => exact ⟨_, atI_nat (j := 5) rfl, .inr (.inr (.inr (.inr ⟨q, _, rfl, hq, rfl⟩)))⟩
/-! ### what goes along: the drawings, the table -/
section
open LamX NdefX
def nmL : Nat → Nat → Str := fun _ _ => (PyProof.Rows.envOfC "law" (defScope s_law) 0 0 .none).qual ++ "<lambda>"
theorem hmL (P : Addr) : (P, nmL) ∈ [(P, nmL)] := List.mem_cons_self
theorem huL (P : Addr) : ∀ p ∈ [(P, nmL)], p.1 = P → p.2 = nmL := fun p hp _ => by rw [List.mem_singleton.mp hp]
theorem capR : ∀ y ∈ (lamS lamR).names, y.2 = .free → (defScope s_law).names.lookup y.1 = some .cell ∨ (defScope s_law).names.lookup y.1 = some .free := by decide +kernel
theorem capQ : ∀ y ∈ (lamS lamQ).names, y.2 = .free → (defScope s_law).names.lookup y.1 = some .cell ∨ (defScope s_law).names.lookup y.1 = some .free := by decide +kernel
theorem freeR : ∀ y ∈ (["_law_bad"] : List Str), (y, NameKind.free) ∈ (lamS lamR).names := by decide +kernel
theorem freeQ : ∀ y ∈ (["_law_orders"] : List Str), (y, NameKind.free) ∈ (lamS lamQ).names := by decide +kernel
structure Wd (P r : Addr) (H : Hp) : Prop where
  rnd : Rnd H r
  tab : TabsN [(P, nmL)] H
theorem tabN_lst {H H' : Hp} {P r : Addr} {nm : Nat → Nat → Str} (t : TabN H P nm) (f : Fr [r] H H') (hr : ∃ xs, H r = some (.lst xs)) : TabN H' P nm := by
  obtain ⟨ps, h1, h2, h3⟩ := t
  obtain ⟨xs, e⟩ := hr
  refine ⟨ps, f _ _ h1 (fun z => ?_), h2, fun pos cv hc => ?_⟩
  · rw [List.mem_singleton.mp z, e] at h1
    cases h1
  · obtain ⟨c, e1, e2⟩ := h3 pos cv hc
    refine ⟨c, e1, f _ _ e2 (fun z => ?_)⟩
    rw [List.mem_singleton.mp z, e] at e2
    unfold CodeO at e2
    cases e2
theorem Wd.keep0 {P r : Addr} {H H' : Hp} (h : Wd P r H) (f : Fr [] H H') : Wd P r H' := ⟨h.rnd.keep f (by simp), h.tab.ext fun b o e => f b o e (by simp)⟩
theorem Wd.draw {P r : Addr} {H H' : Hp} (h : Wd P r H) (f : Fr [r] H H') (R : Rnd H' r) : Wd P r H' := ⟨R, fun p hp => tabN_lst (h.tab p hp) f (by
  obtain ⟨a, b, ns, e⟩ := h.rnd
  exact ⟨_, e⟩)⟩
theorem Wd.new {P r : Addr} {H : Hp} {p : Addr} {o : HO} (h : Wd P r H) (n : H p = none) : Wd P r (upd H p o) := h.keep0 (Fr.new n)
theorem Wd.out {P r : Addr} {H : Hp} {p : Addr} (h : Wd P r H) (n : H p = none) : p ≠ r := fun e => by
  obtain ⟨a, b, ns, e2⟩ := h.rnd
  rw [e, e2] at n
  cases n
theorem Wd.lam {P r : Addr} {H H' : Hp} (h : Wd P r H) (f : ExtN H H') (t : TabsN [(P, nmL)] H') : Wd P r H' := ⟨by
  obtain ⟨a, b, ns, e⟩ := h.rnd
  exact ⟨a, b, ns, f _ _ e (fun _ z => by cases z)⟩, t⟩
end
theorem shaped_pair {x : Str} {i : Nat} (h : PyData.strOk x = true) : SeqAt.shaped (.tuple [.str x, .int (i : Int)]) = true := by
  unfold SeqAt.shaped
  simp [PyData.canLay0, PyData.canLayAll0, h, PyData.depth, PyData.depthAll]
theorem shaped_triple {x : Str} {i j : Nat} (h : PyData.strOk x = true) : SeqAt.shaped (.tuple [.str x, .tuple [.int (i : Int), .int (j : Int)]]) = true := by
  unfold SeqAt.shaped
  simp [PyData.canLay0, PyData.canLayAll0, h, PyData.depth, PyData.depthAll]
theorem eqv_pair (x : Str) (i : Int) : PyData.eqv (.tuple [.str x, .int i]) (.tuple [.str x, .int i]) = true := by
  simp [PyData.eqv, PyData.eqvAll]
theorem eqv_triple (x : Str) (i j : Int) : PyData.eqv (.tuple [.str x, .tuple [.int i, .int j]]) (.tuple [.str x, .tuple [.int i, .int j]]) = true := by
  simp [PyData.eqv, PyData.eqvAll]
theorem wordIn_mem {z : Str} {i : Nat} {W : List V} (h : WordIn z W) (e : W = sV (RWS.getD i [])) : z ∈ RWS.getD i [] := by
  have h' : inV (.str z) W = true := h
  rw [e, inV_str] at h'
  exact of_decide_eq_true h'
theorem bad_rul {H : Hp} {wo yo co : Str} {n odd : V} {k : Nat} (hk : k < 4) (hw : WordIn wo W0) (hy : WordIn yo W1) (hc : WordIn co W2) (od : k < 3 → ∃ d, OddV H odd d ∧ NoWord (RWS.getD k []) d) (nb : k = 3 → NoBound odd) :
    ∃ b0 b1 b2 b3, (([.str wo, .str yo, .str co, n] : List V).take k ++ [odd]) ++ ([n, .non, .int 9, .str "x"] : List V).take (3 - k) = [b0, b1, b2, b3] ∧ BadRul H [b0, b1, b2, b3] k := by
  have m0 := wordIn_mem (i := 0) hw rfl
  have m1 := wordIn_mem (i := 1) hy rfl
  have m2 := wordIn_mem (i := 2) hc rfl
  match k, hk with
  | 0, _ =>
    refine ⟨_, _, _, _, rfl, rfl, fun i hi _ => by omega, .inl ⟨by decide, ?_⟩⟩
    obtain ⟨d, h1, h2⟩ := od (by decide)
    exact ⟨_, d, rfl, h1, h2⟩
  | 1, _ =>
    refine ⟨_, _, _, _, rfl, rfl, fun i hi _ => ?_, .inl ⟨by decide, ?_⟩⟩
    · match i, hi with
      | 0, _ => exact ⟨wo, rfl, m0⟩
    · obtain ⟨d, h1, h2⟩ := od (by decide)
      exact ⟨_, d, rfl, h1, h2⟩
  | 2, _ =>
    refine ⟨_, _, _, _, rfl, rfl, fun i hi _ => ?_, .inl ⟨by decide, ?_⟩⟩
    · match i, hi with
      | 0, _ => exact ⟨wo, rfl, m0⟩
      | 1, _ => exact ⟨yo, rfl, m1⟩
    · obtain ⟨d, h1, h2⟩ := od (by decide)
      exact ⟨_, d, rfl, h1, h2⟩
  | 3, _ =>
    refine ⟨_, _, _, _, rfl, rfl, fun i hi _ => ?_, .inr ⟨rfl, _, rfl, nb rfl⟩⟩
    match i, hi with
    | 0, _ => exact ⟨wo, rfl, m0⟩
    | 1, _ => exact ⟨yo, rfl, m1⟩
    | 2, _ => exact ⟨co, rfl, m2⟩
/-! ### .. where only tables grow -/
section
open LamX NdefX
theorem OddV.keepN {H H' : Hp} {v : V} {d : PyData} (h : OddV H v d) (f : ExtN H H') : OddV H' v d := by
  rcases h with h | h | h | h | ⟨t, zs, e1, e2, e3⟩
  · exact .inl h
  · exact .inr (.inl h)
  · exact .inr (.inr (.inl h))
  · exact .inr (.inr (.inr (.inl h)))
  · exact .inr (.inr (.inr (.inr ⟨t, zs, e1, f _ _ e2 (fun _ z => by cases z), e3⟩)))
theorem NoTup.keepN {H H' : Hp} {v : V} (h : NoTup H v) (f : ExtN H H') : NoTup H' v := by
  rcases h with h | h | h | ⟨l, xs, e, hl⟩
  · exact .inl h
  · exact .inr (.inl h)
  · exact .inr (.inr (.inl h))
  · exact .inr (.inr (.inr ⟨l, xs, e, f _ _ hl (fun _ z => by cases z)⟩))
theorem BadAt.keepN {H H' : Hp} {A : List Str} {v : V} {j : Nat} (h : BadAt H A v j) (f : ExtN H H') : BadAt H' A v j := by
  obtain ⟨p, zs, e, l, ok, h⟩ := h
  refine ⟨p, zs, e, l, ok, ?_⟩
  rcases h with ⟨x, rest, hp, h⟩ | ⟨hp, h⟩
  · refine .inl ⟨x, rest, f _ _ hp (fun _ z => by cases z), ?_⟩
    rcases h with h | ⟨h8, d, o, n⟩ | h
    · exact .inl h
    · exact .inr (.inl ⟨h8, d, o.keepN f, n⟩)
    · exact .inr (.inr h)
  · exact .inr ⟨f _ _ hp (fun _ z => by cases z), h⟩
theorem BadRul.keepN {H H' : Hp} {ps : List V} {j : Nat} (h : BadRul H ps j) (f : ExtN H H') : BadRul H' ps j := by
  obtain ⟨h1, h2, h3⟩ := h
  refine ⟨h1, h2, ?_⟩
  rcases h3 with ⟨h4, v, d, hv, od, nw⟩ | h
  · exact .inl ⟨h4, v, d, hv, od.keepN f, nw⟩
  · exact .inr h
theorem BadRec.keepN {H H' : Hp} {ps : List V} {i j : Nat} (h : BadRec H ps i j) (f : ExtN H H') : BadRec H' ps i j := by
  refine ⟨h.len, h.lt, h.small, fun m hm => ?_, ?_⟩
  · obtain ⟨t, zs, e1, e2, e3⟩ := h.good m hm
    exact ⟨t, zs, e1, f _ _ e2 (fun _ z => by cases z), e3⟩
  · obtain ⟨v, e, hb⟩ := h.bad
    refine ⟨v, e, ?_⟩
    rcases hb with ⟨h0, nt⟩ | hb
    · exact .inl ⟨h0, nt.keepN f⟩
    · exact .inr (hb.keepN f)
end
/-! ### the safe recipes, where they stand -/
theorem cut_drop7 {xs : List V} {i : Nat} (h : i ≤ xs.length) : cutV xs (some (i : Int)) none = xs.drop i := by
  unfold cutV
  rw [HT.sIx_none, HT.sIx_nat, Nat.min_eq_left h]
  exact List.take_of_length_le (by simp)
theorem sV_take7 {zs : List Str} {i : Nat} : (sV zs).take i = sV (zs.take i) := List.map_take.symm
theorem sV_drop7 {zs : List Str} {i : Nat} : (sV zs).drop i = sV (zs.drop i) := List.map_drop.symm
def Ord (H : Hp) (lo : Addr) : Prop := ∃ ts : List Addr, ts.length = 4 ∧ H lo = some (.lst (ts.map V.ref)) ∧ ∀ p, p < 4 → ∃ t, ts[p]? = some t ∧ H t = some (.tup (sV (SF p)))
theorem Ord.keep {H H' : Hp} {S : List Addr} {lo : Addr} (h : Ord H lo) (f : Fr S H H') (n : ∀ b ∈ S, ∀ xs, H b ≠ some (.tup xs)) (nl : lo ∉ S) : Ord H' lo := by
  obtain ⟨ts, h1, h2, h3⟩ := h
  refine ⟨ts, h1, f _ _ h2 nl, fun p hp => ?_⟩
  obtain ⟨t, e1, e2⟩ := h3 p hp
  exact ⟨t, e1, f _ _ e2 (fun hb => n t hb _ e2)⟩
structure Wq (P r lo lr : Addr) (part : Nat) (H : Hp) : Prop where
  wd : Wd P r H
  ord : Ord H lo
  rc : H lr = some (.lst (sV (SF part)))
  nr : lr ≠ r
  no : lo ≠ r
theorem Wq.keep0 {P r lo lr : Addr} {part : Nat} {H H' : Hp} (h : Wq P r lo lr part H) (f : Fr [] H H') : Wq P r lo lr part H' := ⟨h.wd.keep0 f, h.ord.keep f (by simp) (by simp), f _ _ h.rc (by simp), h.nr, h.no⟩
theorem Wq.new {P r lo lr : Addr} {part : Nat} {H : Hp} {p : Addr} {o : HO} (h : Wq P r lo lr part H) (n : H p = none) : Wq P r lo lr part (upd H p o) := h.keep0 (Fr.new n)
theorem Wq.draw {P r lo lr : Addr} {part : Nat} {H H' : Hp} (h : Wq P r lo lr part H) (f : Fr [r] H H') (R : Rnd H' r) : Wq P r lo lr part H' := ⟨h.wd.draw f R, h.ord.keep f h.wd.rnd.notup (by simpa using h.no), f _ _ h.rc (by simpa using h.nr), h.nr, h.no⟩
/-- what the recipe given is -/
def Giv (H : Hp) (part : Nat) (given : V) (place : Nat) : Prop := place < 12 ∧ ((place = 0 ∧ NoTup H given) ∨ BadAt H (AS part) given place)
theorem Giv.keep {H H' : Hp} {part : Nat} {given : V} {place : Nat} (h : Giv H part given place) (f : Fr [] H H') : Giv H' part given place :=
  ⟨h.1, h.2.elim (fun z => .inl ⟨z.1, z.2.keep f⟩) fun z => .inr (z.keep f)⟩
theorem bad_rec {H : Hp} {ts : List Addr} {part place : Nat} {given : V} {rest : List V} (hp : part < 4) (hl : ts.length = 4) (h : ∀ p, p < 4 → ∃ t, ts[p]? = some t ∧ H t = some (.tup (sV (SF p)))) (g : Giv H part given place) (hr : rest.length = 4) :
    ∃ b0 b1 b2 b3, ((ts.map V.ref).take part ++ [given]) ++ rest.take (3 - part) = [b0, b1, b2, b3] ∧ BadRec H [b0, b1, b2, b3] part place := by
  match ts, hl with
  | [t0, t1, t2, t3], _ =>
    match rest, hr with
    | [r0, r1, r2, r3], _ =>
      have m : ∀ p, p < 4 → ∃ t, [t0, t1, t2, t3][p]? = some t ∧ H t = some (.tup (sV (SF p))) := h
      have q0 : H t0 = some (.tup (sV (SF 0))) := by
        obtain ⟨t, e1, e2⟩ := m 0 (by decide)
        cases e1
        exact e2
      have q1 : H t1 = some (.tup (sV (SF 1))) := by
        obtain ⟨t, e1, e2⟩ := m 1 (by decide)
        cases e1
        exact e2
      have q2 : H t2 = some (.tup (sV (SF 2))) := by
        obtain ⟨t, e1, e2⟩ := m 2 (by decide)
        cases e1
        exact e2
      match part, hp with
      | 0, _ => exact ⟨_, _, _, _, rfl, rfl, by decide, g.1, fun i hi => by omega, _, rfl, g.2⟩
      | 1, _ =>
        refine ⟨_, _, _, _, rfl, rfl, by decide, g.1, fun i hi => ?_, _, rfl, g.2⟩
        match i, hi with
        | 0, _ => exact ⟨t0, _, rfl, q0, okr_sf 0 (by decide)⟩
      | 2, _ =>
        refine ⟨_, _, _, _, rfl, rfl, by decide, g.1, fun i hi => ?_, _, rfl, g.2⟩
        match i, hi with
        | 0, _ => exact ⟨t0, _, rfl, q0, okr_sf 0 (by decide)⟩
        | 1, _ => exact ⟨t1, _, rfl, q1, okr_sf 1 (by decide)⟩
      | 3, _ =>
        refine ⟨_, _, _, _, rfl, rfl, by decide, g.1, fun i hi => ?_, _, rfl, g.2⟩
        match i, hi with
        | 0, _ => exact ⟨t0, _, rfl, q0, okr_sf 0 (by decide)⟩
        | 1, _ => exact ⟨t1, _, rfl, q1, okr_sf 1 (by decide)⟩
        | 2, _ => exact ⟨t2, _, rfl, q2, okr_sf 2 (by decide)⟩
theorem filt_succ {p : Str → Bool} {Z : List Str} {i : Nat} {z : Str} (h : Z[i]? = some z) : (Z.take (i + 1)).filter p = (Z.take i).filter p ++ (if p z = true then [z] else []) := by
  rw [List.take_succ, h, Option.toList_some, List.filter_append, List.filter_cons, List.filter_nil]
theorem syn_split {part : Nat} (h : part < 4) : ∃ x rest, sV (SF part ++ SYN) = sV ((SF part ++ SYN).take 8) ++ x :: rest := by
  obtain ⟨_, _, h3⟩ := sf_syn part h
  refine ⟨.str ((SF part ++ SYN)[8]), sV ((SF part ++ SYN).drop 9), ?_⟩
  have e : SF part ++ SYN = (SF part ++ SYN).take 8 ++ (SF part ++ SYN)[8] :: (SF part ++ SYN).drop 9 := by
    rw [List.getElem_cons_drop h3, List.take_append_drop]
  have e2 := congrArg sV e
  rw [e2]
  unfold sV
  rw [List.map_append, List.map_cons]
theorem syn_cat {z : List Str} : (sV z ++ (List.replicate (Int.toNat 3) [V.str "sync slow"]).flatten) ++ (List.replicate (Int.toNat 2) [V.str "sync fast"]).flatten = sV (z ++ SYN) := by
  unfold sV
  rw [List.map_append, List.append_assoc]
  rfl
/-! ### the law -/
def spLaw (K : PySem.W.Frag) (P : Addr) : Sp := fun vs H Q _ => ∃ (a : Addr) (ns : List Int), vs = [.ref a] ∧ SqL K H a (ns.map V.int) ∧ ns.length ≤ 63 ∧ H P = some (.tbl #[]) ∧ ∀ H', Q (.bl true) H'
section
open LamX NdefX
variable {P : Program} {w : World} {K : PySem.W.Frag} {mg : Str → Option Value} {base : Heap}
theorem ok_law {oc : Value} {od an : Option Addr} {kV dc pm ct : Value} {osl : Array (Option Value)} {f cd Pt : Addr} (T : Gx K mg) (HP : ProgOk P T.file) (lk : K.lookup f = some ⟨oc, od, .func (PySem.W.fnOf "law" "law" (defArgs s_law) (defBody s_law) (defScope s_law) .none kV dc pm an (.ref cd) ct), osl⟩)
    (hcd : PySem.W.codeIn K (.ref cd) "law" = true) (TB : TabB base mg cd Pt) : FnOk P w K mg base C8.CX0 12 f (PySem.W.fnOf "law" "law" (defArgs s_law) (defBody s_law) (defScope s_law) .none kV dc pm an (.ref cd) ct) ["_law_script"] (spLaw K Pt) := by
  have G__law_random : FnOk P w K mg base CX0 1 T.f__law_random T.fd__law_random ["_law_script", "_law_salt"] (spRandom K) := ok_random T
  have G__law_rules : FnOk P w K mg base CX0 2 T.f__law_rules T.fd__law_rules ["_law_d", "_law_limit"] spRules := ok_rules T
  have G__law_below : FnOk P w K mg base CX0 1 T.f__law_below T.fd__law_below ["_law_d", "_law_limit"] spBelow := ok_below T
  have G_Recipes_through : FnOk P w K mg base CX0 1 T.f_Recipes_through T.fd_Recipes_through ["self"] (spGet T.C_Recipes "_through") := ok_qthrough T
  have G_Recipes_back : FnOk P w K mg base CX0 1 T.f_Recipes_back T.fd_Recipes_back ["self"] (spGet T.C_Recipes "_back") := ok_qback T
  have G_Recipes_around : FnOk P w K mg base CX0 1 T.f_Recipes_around T.fd_Recipes_around ["self"] (spGet T.C_Recipes "_around") := ok_qaround T
  have G_Recipes_clean : FnOk P w K mg base CX0 1 T.f_Recipes_clean T.fd_Recipes_clean ["self"] (spGet T.C_Recipes "_clean") := ok_qclean T
  have G_Recipes_safe : FnOk P w K mg base CX0 4 T.f_Recipes_safe T.fd_Recipes_safe ["cls"] (spSafeM T.C_Recipes) := ok_safeM T
  have GE : FnS P w K mg base C8.CX0 10 T.f__law_error_of ["_law_call"] (spErr P w base T) := ok_errorOf T
  refine fn_of lk hcd sc_law (fun vs H Q E h => ?_) (fun A outer s H vs Q E hr h => ?_)
  · obtain ⟨a, ns, rfl, _⟩ := h
    rfl
  · obtain ⟨a, ns, rfl, hS, hlen, hP, k⟩ := h
    refine ⟨_, (pss_cons (ps_set (i := 1) sc_law.nd rfl (.inl rfl) (pe_call G__law_random (hr.mono (by first | decide | omega)) (by rfl) T.g__law_random T.F__law_random.kp (b__law_random T) .nil pass0 (pa_cons (pv 0) (pa_cons pe_int pa_nil))))
      (pss_cons (ps_par (i := 2) (j := 3) (by rfl) sc_law.nd rfl rfl (by decide) rfl rfl (pa_cons (pe_callTy call_list_of (by rfl) T.z_list (by decide +kernel) (pa_cons (pe_call G__law_rules (hr.mono (by first | decide | omega)) (by rfl) T.g__law_rules T.F__law_rules.kp (b__law_rules T) .nil pass0 (pa_cons (pv 1) (pa_cons pe_int pa_nil))) pa_nil)) (pa_cons (pe_ix ix_list (pe_lst (pa_cons pe_non (pa_cons pe_int (pa_cons pe_str (pa_cons pe_str (pa_cons pe_str (pa_cons (pe_tup (pa_cons pe_str pa_nil)) (pa_cons pe_bl pa_nil)))))))) (pe_call G__law_below (hr.mono (by first | decide | omega)) (by rfl) T.g__law_below T.F__law_below.kp (b__law_below T) .nil pass0 (pa_cons (pv 1) (pa_cons pe_int pa_nil))) (fun _ _ => rfl)) pa_nil)) (by rfl))
      (pss_cons (ps_set (i := 4) sc_law.nd rfl (.inl rfl) (pe_call G__law_below (hr.mono (by first | decide | omega)) (by rfl) T.g__law_below T.F__law_below.kp (b__law_below T) .nil pass0 (pa_cons (pv 1) (pa_cons pe_int pa_nil))))
      (C8.pss_cut (ps_if (PW.pt (pw_and (pt_cmpR op_eq (pv 4) pe_int (nomark _)) (pw_and1 (pt_cmpR (op_eqD hr.units) (pv 3) pe_str (nomark _))))) (pss_one (ps_set (i := 3) sc_law.nd rfl (.inl rfl) pe_str)) pss_nil)
      (C8.pss_cut (ps_if (pt_cmpR op_eq (pv 4) pe_int (nomark _)) (pss_one (ps_set (i := 3) sc_law.nd rfl (.inl rfl) (pe_ix ix_list (pe_lst (pa_cons pe_int (pa_cons (pe_op op_sub pe_int pe_int) (pa_cons pe_non (pa_cons pe_bl (pa_cons pe_str (pa_cons pe_int pa_nil))))))) (pe_call G__law_below (hr.mono (by first | decide | omega)) (by rfl) T.g__law_below T.F__law_below.kp (b__law_below T) .nil pass0 (pa_cons (pv 1) (pa_cons pe_int pa_nil))) (fun _ _ => rfl)))) pss_nil)
      (C8.pss_cut (ps_set (i := 14) sc_law.nd rfl (.inr rfl) (pe_op op_cat (pe_op op_cat (pe_slice sl_list (pv 2) po_none (po_some (pv 4))) (pe_lst (pa_cons (pv 3) pa_nil))) (pe_slice sl_list (pe_lst (pa_cons (pe_ix ix_list (pv 2) pe_int (fun _ _ => rfl)) (pa_cons pe_non (pa_cons pe_int (pa_cons pe_str pa_nil))))) po_none (po_some (pe_op op_sub pe_int (pv 4))))))
      (C8.pss_cut (ps_if (pt_cmpR (op_neD hr.units) (pe_callS GE (hr.mono (by first | decide | omega)) (by rfl) T.g__law_error_of T.F__law_error_of.kp (C8.pass0 (E := C8.E0)) (pa_cons (pe_lamV TB rfl (hmL Pt) rfl (huL Pt) capR rfl (.inl ⟨rfl, rfl⟩)) pa_nil)) (pe_tup (pa_cons pe_str (pa_cons (pv 4) pa_nil))) (nomark _)) (pss_one (ps_ret pe_bl)) pss_nil)
      (pss_cons (ps_par (i := 5) (j := 6) (by rfl) sc_law.nd rfl rfl (by decide) rfl rfl (pa_cons (pe_cmeth0 (pe_glob (v := .ref T.C_Recipes) (by rfl) T.gC_Recipes rfl) T.R_Recipes_safe T.Y_Recipes_safe (G_Recipes_safe.raw (b_Recipes_safe T) .nil) (hr.mono (by first | decide | omega)) pass0) (pa_cons (pe_call G__law_below (hr.mono (by first | decide | omega)) (by rfl) T.g__law_below T.F__law_below.kp (b__law_below T) .nil pass0 (pa_cons (pv 1) (pa_cons pe_int pa_nil))) pa_nil)) (by rfl))
      (C8.pss_cut (ps_set (i := 15) sc_law.nd rfl (.inr rfl) (pe_lst (pa_cons (pe_prop (pv 5) T.cl_Recipes T.P_Recipes_through G_Recipes_through (hr.mono (by first | decide | omega)) (b_Recipes_through T) .nil pass0 rfl) (pa_cons (pe_prop (pv 5) T.cl_Recipes T.P_Recipes_back G_Recipes_back (hr.mono (by first | decide | omega)) (b_Recipes_back T) .nil pass0 rfl) (pa_cons (pe_prop (pv 5) T.cl_Recipes T.P_Recipes_around G_Recipes_around (hr.mono (by first | decide | omega)) (b_Recipes_around T) .nil pass0 rfl) (pa_cons (pe_prop (pv 5) T.cl_Recipes T.P_Recipes_clean G_Recipes_clean (hr.mono (by first | decide | omega)) (b_Recipes_clean T) .nil pass0 rfl) pa_nil))))))
      (pss_cons (ps_par (i := 7) (j := 8) (by rfl) sc_law.nd rfl rfl (by decide) rfl rfl (pa_cons (pe_callTy call_list_of (by rfl) T.z_list (by decide +kernel) (pa_cons (pe_ix ix_list (pv 15) (pv 6) (fun _ _ => rfl)) pa_nil)) (pa_cons (pe_call G__law_below (hr.mono (by first | decide | omega)) (by rfl) T.g__law_below T.F__law_below.kp (b__law_below T) .nil pass0 (pa_cons (pv 1) (pa_cons pe_int pa_nil))) pa_nil)) (by rfl))
      (pss_cons (ps_set (i := 9) sc_law.nd rfl (.inl rfl) (pe_call G__law_below (hr.mono (by first | decide | omega)) (by rfl) T.g__law_below T.F__law_below.kp (b__law_below T) .nil pass0 (pa_cons (pv 1) (pa_cons (pe_op op_add (pe_callB call_len_seq (by rfl) T.z_len (by decide +kernel) (pa_cons (pv 7) pa_nil)) pe_int) pa_nil))))
      (pss_cons (ps_set (i := 10) sc_law.nd rfl (.inl rfl) (pe_ix ix_list (pe_lst (pa_cons pe_non (pa_cons pe_int (pa_cons pe_str (pa_cons pe_str (pa_cons (pe_ix ix_list (pe_lst (pa_cons pe_str (pa_cons pe_str pa_nil))) (pe_callTy call_int1 (by rfl) T.z_int (by decide +kernel) (pa_cons (pe_cmpR op_eq (pv 6) pe_int (nomark _)) pa_nil)) (fun _ _ => rfl)) (pa_cons (pe_tup (pa_cons pe_str pa_nil)) pa_nil))))))) (pe_call G__law_below (hr.mono (by first | decide | omega)) (by rfl) T.g__law_below T.F__law_below.kp (b__law_below T) .nil pass0 (pa_cons (pv 1) (pa_cons pe_int pa_nil))) (fun _ _ => rfl)))
      (C8.pss_cut (ps_set (i := 11) sc_law.nd rfl (.inl rfl) (pe_callTy call_tuple_of (by rfl) T.z_tuple (by decide +kernel) (pa_cons (pe_op op_cat (pe_op op_cat (pe_slice sl_list (pv 7) po_none (po_some (pv 9))) (pe_lst (pa_cons (pv 10) pa_nil))) (pe_slice sl_list (pv 7) (po_some (pv 9)) po_none)) pa_nil)))
      (C8.pss_cut (ps_if (pt_cmpR op_eq (pv 8) pe_int (nomark _)) (pss_cons (ps_setLc (i := 12) (own := [("_law_word", 16)]) (g := gName 16) rfl sc_law.nd rfl rfl (sw_true rfl rfl rfl (by decide +kernel)) (pi_list (pv 7)) (blkOk_by (N := ["_law_script", "_law_d", "_law_parts", "_law_odd", "_law_at", "_law_safe", "_law_part", "_law_recipe", "_law_kind", "_law_place", "_law_wrong", "_law_given", "_law_first", "_law_call", "_law_bad", "_law_orders", "_law_word"]) (sc := defScope s_law) (by decide +kernel)) (fun _ _ _ _ _ => pg_name (i := 16) sc_law.nd rfl (.inl rfl)) (fun _ _ _ _ _ => (pts_one (pt_cmpR op_ne (pe_slice sl_str (pv 16) po_none (po_some pe_int)) pe_str (nomark _)))) (fun _ _ _ _ _ => (pv 16)))
      (pss_one (ps_par (i := 11) (j := 9) (by rfl) sc_law.nd rfl rfl (by decide) rfl rfl (pa_cons (pe_callTy call_tuple_of (by rfl) T.z_tuple (by decide +kernel) (pa_cons (pe_op op_cat (pv 7) (pe_lst (pa_cons (pe_ix ix_list (pv 12) (pe_call G__law_below (hr.mono (by first | decide | omega)) (by rfl) T.g__law_below T.F__law_below.kp (b__law_below T) .nil pass0 (pa_cons (pv 1) (pa_cons (pe_callB call_len_seq (by rfl) T.z_len (by decide +kernel) (pa_cons (pv 12) pa_nil)) pa_nil))) (fun _ _ => rfl)) pa_nil))) pa_nil)) (pa_cons (pe_callB call_len_seq (by rfl) T.z_len (by decide +kernel) (pa_cons (pv 7) pa_nil)) pa_nil)) (by rfl)))) pss_nil)
      (C8.pss_cut (ps_if (pt_cmpR op_eq (pv 8) pe_int (nomark _)) (pss_one (ps_par (i := 11) (j := 9) (by rfl) sc_law.nd rfl rfl (by decide) rfl rfl (pa_cons (pe_callTy call_tuple_of (by rfl) T.z_tuple (by decide +kernel) (pa_cons (pe_op op_cat (pe_op op_cat (pv 7) (pe_op op_rep (pe_lst (pa_cons pe_str pa_nil)) pe_int)) (pe_op op_rep (pe_lst (pa_cons pe_str pa_nil)) pe_int)) pa_nil)) (pa_cons pe_int pa_nil)) (by rfl))) pss_nil)
      (C8.pss_cut (ps_if (PW.pt (pw_and (pt_cmpR op_eq (pv 8) pe_int (nomark _)) (pw_and1 (pt_cmpR op_lt (pv 6) pe_int (nomark _))))) (pss_cons (ps_set (i := 11) sc_law.nd rfl (.inl rfl) (pe_callTy call_tuple_of (by rfl) T.z_tuple (by decide +kernel) (pa_cons (pe_lc (own := [("_law_word", 16)]) (g := gName 16) rfl sc_law.nd (pi_list (pv 7)) (blkOk_by (N := ["_law_script", "_law_d", "_law_parts", "_law_odd", "_law_at", "_law_safe", "_law_part", "_law_recipe", "_law_kind", "_law_place", "_law_wrong", "_law_given", "_law_first", "_law_call", "_law_bad", "_law_orders", "_law_word"]) (sc := defScope s_law) (by decide +kernel)) (fun _ _ _ _ _ => pg_name (i := 16) sc_law.nd rfl (.inl rfl)) (fun _ _ _ _ _ => (pts_one (pt_cmpR op_ne (pv 16) pe_str (nomark _)))) (fun _ _ _ _ _ => (pv 16))) pa_nil)))
      (pss_one (ps_set (i := 9) sc_law.nd rfl (.inl rfl) (pe_callB call_len_seq (by rfl) T.z_len (by decide +kernel) (pa_cons (pv 11) pa_nil))))) pss_nil)
      (C8.pss_cut (ps_if (pt_cmpR op_eq (pv 8) pe_int (nomark _)) (pss_one (ps_par (i := 11) (j := 9) (by rfl) sc_law.nd rfl rfl (by decide) rfl rfl (pa_cons (pe_ix ix_list (pe_lst (pa_cons pe_non (pa_cons (pv 7) (pa_cons pe_str (pa_cons pe_int pa_nil))))) (pe_call G__law_below (hr.mono (by first | decide | omega)) (by rfl) T.g__law_below T.F__law_below.kp (b__law_below T) .nil pass0 (pa_cons (pv 1) (pa_cons pe_int pa_nil))) (fun _ _ => rfl)) (pa_cons pe_int pa_nil)) (by rfl))) pss_nil)
      (C8.pss_cut (ps_set (i := 15) sc_law.nd rfl (.inr rfl) (pe_op op_cat (pe_op op_cat (pe_slice sl_list (pv 15) po_none (po_some (pv 6))) (pe_lst (pa_cons (pv 11) pa_nil))) (pe_slice sl_list (pe_lst (pa_cons pe_non (pa_cons (pe_tup pa_nil) (pa_cons pe_int (pa_cons pe_int pa_nil))))) po_none (po_some (pe_op op_sub pe_int (pv 6))))))
      (pss_cons (ps_set (i := 13) sc_law.nd rfl (.inl rfl) (pe_lamV TB rfl (hmL Pt) rfl (huL Pt) capQ rfl (.inr ⟨.Constant (.int 0) 0 _, rfl, rfl, pe_int⟩)))
      (pss_one (ps_ret (pe_cmpR (op_eqD hr.units) (pe_callS GE (hr.mono (by first | decide | omega)) (by rfl) T.g__law_error_of T.F__law_error_of.kp (C8.pass0 (E := C8.E0)) (pa_cons (pv 13) pa_nil)) (pe_tup (pa_cons pe_str (pa_cons (pe_tup (pa_cons (pv 6) (pa_cons (pv 9) pa_nil))) pa_nil))) (nomark _))))))))))))))))))))))), ?_⟩
    refine ⟨_, rfl, a, 7, ns, rfl, hS, hlen, fun r H1 r0 f1 R1 => ?_⟩
    have W1 : Wd Pt r H1 := ⟨R1, fun p hp => by rw [List.mem_singleton.mp hp]; exact TabN.nil (f1 _ _ hP (by simp))⟩
    -- parts, odd
    refine ⟨_, rfl, r, 8, rfl, W1.rnd, by decide, fun t wo yo co n H2 ht f2 R2 e2 hw hy hc hn => ?_⟩
    have W2 := W1.draw f2 R2
    refine ⟨t, _, rfl, .inr (SqT.of e2), fun lp hlp => ?_⟩
    have W3 := W2.new (o := .lst [.str wo, .str yo, .str co, .int (n : Int)]) hlp
    refine ⟨sz_le (by simp), fun q hq => ?_⟩
    have W4 := W3.new (o := .tup [.str "keep"]) hq
    refine ⟨sz_le (by simp), fun g hg => ?_⟩
    have W5 := W4.new (o := .lst [.non, .int 5, .str "", .str "Back", .str "used", .ref q, .bl true]) hg
    refine ⟨_, rfl, r, 7, rfl, W5.rnd, by decide, by decide, fun z7 H6 hz7 f6 R6 => ?_⟩
    have W6 := W5.draw f6 R6
    have eq6 : H6 q = some (.tup (sV ["keep"])) := f6 _ _ ((upd_ne (free_upd hg).2.symm).trans upd_same) (by simpa using W3.out hq)
    have el6 : H6 lp = some (.lst [.str wo, .str yo, .str co, .int (n : Int)]) := f6 _ _ ((upd_ne (free_upd (free_upd hg).1).2.symm).trans ((upd_ne (free_upd hq).2.symm).trans upd_same)) (by simpa using W2.out hlp)
    obtain ⟨odd, hodd, od6⟩ := odd_at eq6 hz7
    refine ⟨g, _, (z7 : Int), odd, rfl, rfl, SqL.of (f6 _ _ upd_same (by simpa using W4.out hg)), hodd, _, _, rfl, ?_⟩
    -- at
    refine ⟨_, rfl, r, 4, rfl, W6.rnd, by decide, by decide, fun at_ H7 hat f7 R7 => ?_⟩
    have W7 := W6.draw f7 R7
    have el7 := f7 _ _ el6 (by simpa using W2.out hlp)
    have od7 := od6.keep f7 (fun b hb xs e => by
      rw [List.mem_singleton.mp hb] at e
      obtain ⟨c1, c2, ms, e2⟩ := W6.rnd
      rw [e2] at e
      cases e)
    clear hodd
    refine ⟨fun σ' H' => ∃ odd' : V, σ' = [some (.ref a), some (.ref r), some (.ref lp), some odd', some (.int (at_ : Int)), none, none, none, none, none, none, none, none, none, none, none, none] ∧ Wd Pt r H' ∧ H' lp = some (.lst [.str wo, .str yo, .str co, .int (n : Int)]) ∧ (at_ < 3 → ∃ d, OddV H' odd' d ∧ NoWord (RWS.getD at_ []) d), ?_, ?_⟩
    · have nu : ∀ (hn : ¬ (at_ = 2 ∧ z7 = 4)), at_ < 3 → ∃ d, OddV H7 odd d ∧ NoWord (RWS.getD at_ []) d := fun hn h3 => ⟨_, od7, noWord_of ((odd_rules at_ h3 z7 hz7).resolve_left hn)⟩
      refine ⟨_, rfl, rfl, _, rfl, ?_⟩
      by_cases h2 : at_ = 2
      · have e2 : decide (V.int (at_ : Int) = V.int 2) = true := decide_eq_true (by rw [h2]; rfl)
        rw [e2]
        refine iteT ⟨_, rfl, ODD.getD z7 .none, .str "used", od7.dp, .str _, odd_shaped z7 hz7, by decide +kernel, _, rfl, ?_⟩
        rw [odd_used z7 hz7]
        by_cases h4 : z7 = 4
        · rw [decide_eq_true h4]
          refine iteT ?_
          refine ⟨_, rfl, W7, el7, fun _ => ⟨.str "keep", OddV.str, ?_⟩⟩
          rw [h2]
          exact noWord_of odd_keep
        · rw [decide_eq_false h4]
          exact iteF ⟨odd, rfl, W7, el7, nu (fun z => h4 z.2)⟩
      · have e2 : decide (V.int (at_ : Int) = V.int 2) = false := decide_eq_false (fun e => h2 (by have := V.int.inj e; omega))
        rw [e2]
        exact iteF (iteF ⟨odd, rfl, W7, el7, nu (fun z => h2 z.1)⟩)
    have hlr : lp ≠ r := W2.out hlp
    clear od6 od7 W1 W2 W3 W4 W5 W6 W7 R1 R2 R6 R7 f1 f2 f6 f7 eq6 el6 el7 e2 hlp hq hg
    rintro _ H8 ⟨odd8, rfl, W8, el8, od8⟩
    -- at == 3
    refine ⟨fun σ' H' => ∃ odd' : V, σ' = [some (.ref a), some (.ref r), some (.ref lp), some odd', some (.int (at_ : Int)), none, none, none, none, none, none, none, none, none, none, none, none] ∧ Wd Pt r H' ∧ H' lp = some (.lst [.str wo, .str yo, .str co, .int (n : Int)]) ∧ (at_ < 3 → ∃ d, OddV H' odd' d ∧ NoWord (RWS.getD at_ []) d) ∧ (at_ = 3 → NoBound odd'), ?_, ?_⟩
    · refine ⟨_, rfl, rfl, _, rfl, ?_⟩
      by_cases h3 : at_ = 3
      · have e3 : decide (V.int (at_ : Int) = V.int 3) = true := decide_eq_true (by rw [h3]; rfl)
        rw [e3]
        refine iteT ?_
        refine ⟨_, _, rfl, rfl, sz_le (by simp), fun g hg => ?_⟩
        have Wa := W8.new (o := .lst [.int 9, .int (0 - 1), .non, .bl true, .str "1", .int 99]) hg
        refine ⟨_, rfl, r, 6, rfl, Wa.rnd, by decide, by decide, fun z6 Hb hz6 fb Rb => ?_⟩
        obtain ⟨v, hv, nb⟩ := bound_at hz6
        refine ⟨g, _, (z6 : Int), v, rfl, rfl, SqL.of (fb _ _ upd_same (by simpa using W8.out hg)), hv, ?_⟩
        exact ⟨v, rfl, Wa.draw fb Rb, fb _ _ ((upd_ne (ne_of_none el8 hg)).trans el8) (by simpa using hlr), fun z => by omega, fun _ => nb⟩
      · have e3 : decide (V.int (at_ : Int) = V.int 3) = false := decide_eq_false (fun e => h3 (by have := V.int.inj e; omega))
        rw [e3]
        exact iteF ⟨odd8, rfl, W8, el8, od8, fun z => absurd z h3⟩
    clear od8 W8 el8
    rintro _ H9 ⟨odd, rfl, W9, el9, od9, nb9⟩
    -- bad
    refine ⟨fun σ' H' => ∃ (lb : Addr) (b0 b1 b2 b3 : V), σ' = [some (.ref a), some (.ref r), some (.ref lp), some odd, some (.int (at_ : Int)), none, none, none, none, none, none, none, none, none, some (.ref lb), none, none] ∧ Wd Pt r H' ∧ H' lb = some (.lst [b0, b1, b2, b3]) ∧ BadRul H' [b0, b1, b2, b3] at_, ?_, ?_⟩
    · refine ⟨_, rfl, _, rfl, (at_ : Int), rfl, lp, _, rfl, SqL.of el9, fun p hp => ?_⟩
      rw [cut_take (by simp; omega)]
      refine ⟨_, rfl, sz_le (by simp), fun p2 hp2 => ?_⟩
      refine ⟨p, p2, _, _, rfl, rfl, (upd_ne (free_upd hp2).2.symm).trans upd_same, upd_same, ?_, fun p3 hp3 => ?_⟩
      · simp only [List.length_append, List.length_take, List.length_cons, List.length_nil]
        exact sz_le (by omega)
      refine ⟨_, rfl, lp, _, 3, _, rfl, rfl, SqL.of ((((Fr.new (S := []) hp).trans (Fr.new hp2)).trans (Fr.new hp3)) _ _ el9 (by simp)), atI_nat (j := 3) rfl, sz_le (by simp), fun p4 hp4 => ?_⟩
      refine ⟨_, rfl, _, _, rfl, rfl, (3 - (at_ : Int)), rfl, p4, _, rfl, SqL.of upd_same, fun p5 hp5 => ?_⟩
      have e3 : (3 - (at_ : Int)) = ((3 - at_ : Nat) : Int) := by omega
      rw [e3, cut_take (by simp; omega)]
      refine ⟨p3, p5, _, _, rfl, rfl, (((Fr.new (S := []) hp4).trans (Fr.new hp5)) _ _ upd_same (by simp)), upd_same, ?_, fun p6 hp6 => ?_⟩
      · simp only [List.length_append, List.length_take, List.length_cons, List.length_nil]
        exact sz_le (by omega)
      have F6 := ((((((Fr.new (S := []) (o := .lst (([.str wo, .str yo, .str co, .int (n : Int)] : List V).take at_)) hp).trans (Fr.new hp2)).trans (Fr.new hp3)).trans (Fr.new hp4)).trans (Fr.new hp5)).trans (Fr.new (o := .lst ((([.str wo, .str yo, .str co, .int (n : Int)] : List V).take at_ ++ [odd]) ++ ([.int (n : Int), .non, .int 9, .str "x"] : List V).take (3 - at_))) hp6))
      obtain ⟨b0, b1, b2, b3, eb, hb⟩ := bad_rul (H := H9) (n := .int (n : Int)) hat hw hy hc od9 nb9
      rw [eb] at F6 ⊢
      exact ⟨p6, b0, b1, b2, b3, rfl, W9.keep0 F6, upd_same, hb.keep F6⟩
    clear el9 od9 nb9 W9
    rintro _ HA ⟨lb, b0, b1, b2, b3, rfl, WA, eA, bA⟩
    -- the first question
    refine ⟨fun σ' H' => ∃ (v2 v3 v4 v14 : Option V), σ' = [some (.ref a), some (.ref r), v2, v3, v4, none, none, none, none, none, none, none, none, none, v14, none, none] ∧ Wd Pt r H', ?_, ?_⟩
    · refine ⟨WA.tab, fun fl F HB q1 q2 q3 q4 q5 q6 eN TB' hf L pins s1 I => ?_⟩
      refine ⟨fl, F, ["_law_bad"], [some (.ref lb)], lpR T, rfl, lok_rules T HP q3 q4 q2 q6, Act.made (js := [14]) (fun _ => rfl) I L (by rw [q5]; exact Caps.made I.ok capR freeR rfl), fun Q' E' hq he => ?_⟩
      refine ⟨lb, b0, b1, b2, b3, at_, rfl, eN _ _ eA (fun _ z => by cases z), bA.keepN eN, fun d HC hd fC hx => he _ _ _ (.inl ⟨.int (at_ : Int), rfl, by simp, hx, fun u HD hu fD eu => ?_⟩)⟩
      refine ⟨_, rfl, sz_le (by simp), fun u2 hu2 => ?_⟩
      have WD := (((WA.lam eN TB').keep0 fC).keep0 fD).new (o := .tup [.str "rules", .int (at_ : Int)]) hu2
      refine ⟨.tuple [.str "rules", .int (at_ : Int)], .tuple [.str "rules", .int (at_ : Int)], .tup (SqT.of ((Fr.new (S := []) hu2) _ _ eu (by simp))) (.cons (.str _) (.cons (.int _) .nil)), .tup (SqT.of upd_same) (.cons (.str _) (.cons (.int _) .nil)), shaped_pair (by decide +kernel), shaped_pair (by decide +kernel), _, rfl, ?_⟩
      rw [eqv_pair]
      exact iteF ⟨_, _, _, _, rfl, WD⟩
    clear WA eA bA hw hy hc hn hat hlr
    rintro _ HE ⟨v2, v3, v4, v14, rfl, WE⟩
    -- safe, part, orders
    refine ⟨rfl, ⟨rfl, fun ps HF hps fF qs => ?_⟩⟩
    have WF := WE.keep0 fF
    refine ⟨_, rfl, r, 4, rfl, WF.rnd, by decide, by decide, fun part HG hpart fG RG => ?_⟩
    have WG := WF.draw fG RG
    obtain ⟨dxs, sa, sb, sc, sd, za, zb, zc, zd, ez, es, ea, eb, ec, ed, _⟩ := qs.keep fG (fun b hb => by
      rw [List.mem_singleton.mp hb]
      obtain ⟨c1, c2, ms, e2⟩ := WF.rnd
      exact .inr ⟨_, e2⟩)
    have z0 : SF 0 = za := congrArg (fun l => List.getD l 0 []) ez
    have z1 : SF 1 = zb := congrArg (fun l => List.getD l 1 []) ez
    have z2 : SF 2 = zc := congrArg (fun l => List.getD l 2 []) ez
    have z3 : SF 3 = zd := congrArg (fun l => List.getD l 3 []) ez
    refine ⟨_, _, rfl, ?_⟩
    refine ⟨fun σ' H' => ∃ (lo : Addr), σ' = [some (.ref a), some (.ref r), v2, v3, v4, some (.ref ps), some (.int (part : Int)), none, none, none, none, none, none, none, v14, some (.ref lo), none] ∧ Wd Pt r H' ∧ Ord H' lo ∧ lo ≠ r, ?_, ?_⟩
    · refine ⟨_, rfl, ps, dxs, _, rfl, es, ps, dxs, _, _, rfl, es, qF_get0, ?_⟩
      refine ⟨_, rfl, ps, dxs, _, rfl, es, ps, dxs, _, _, rfl, es, qF_get1, ?_⟩
      refine ⟨_, rfl, ps, dxs, _, rfl, es, ps, dxs, _, _, rfl, es, qF_get2, ?_⟩
      refine ⟨_, rfl, ps, dxs, _, rfl, es, ps, dxs, _, _, rfl, es, qF_get3, ?_⟩
      refine ⟨sz_le (by simp), fun lo hlo => ?_⟩
      have fl : Fr [] HG (upd HG lo (.lst [.ref sa, .ref sb, .ref sc, .ref sd])) := Fr.new hlo
      refine ⟨lo, rfl, WG.new hlo, ⟨[sa, sb, sc, sd], rfl, upd_same, fun p hp => ?_⟩, WG.out hlo⟩
      match p, hp with
      | 0, _ => exact ⟨sa, rfl, by rw [z0]; exact fl _ _ ea (by simp)⟩
      | 1, _ => exact ⟨sb, rfl, by rw [z1]; exact fl _ _ eb (by simp)⟩
      | 2, _ => exact ⟨sc, rfl, by rw [z2]; exact fl _ _ ec (by simp)⟩
      | 3, _ => exact ⟨sd, rfl, by rw [z3]; exact fl _ _ ed (by simp)⟩
    clear z0 z1 z2 z3 ez es ea eb ec ed WE WF WG RG qs fF fG
    rintro _ HI ⟨lo, rfl, WI, OI, nlo⟩
    -- recipe, kind
    obtain ⟨ts, ht1, ht2, ht3⟩ := id OI
    obtain ⟨t, et1, et2⟩ := ht3 part hpart
    refine ⟨_, rfl, _, rfl, lo, _, (part : Int), .ref t, rfl, rfl, SqL.of ht2, atI_nat (by rw [List.getElem?_map, et1]; rfl), ?_⟩
    refine ⟨t, _, rfl, .inr (SqT.of et2), fun lr hlr => ?_⟩
    have nlr : lr ≠ r := WI.out hlr
    have WJ : Wq Pt r lo lr part (upd HI lr (.lst (sV (SF part)))) := ⟨WI.new hlr, OI.keep (S := []) (Fr.new hlr) (by simp) (by simp), upd_same, nlr, nlo⟩
    clear WI OI ht1 ht2 ht3 et1 et2 ts t
    refine ⟨_, rfl, r, 5, rfl, WJ.wd.rnd, by decide, by decide, fun kind HK hkind fK RK => ?_⟩
    have WK := WJ.draw fK RK
    refine ⟨_, _, rfl, ?_⟩
    -- place
    refine ⟨_, rfl, _, rfl, lr, _, rfl, .inl (SqL.of WK.rc), _, _, rfl, rfl, ?_⟩
    have sl := sf_len part hpart
    refine ⟨r, (sV (SF part)).length + 1, rfl, WK.wd.rnd, by omega, by rw [sV_len]; omega, fun place HL hplace fL RL => ?_⟩
    have WL := WK.draw fL RL
    rw [sV_len] at hplace
    -- wrong
    refine ⟨sz_le (by simp), fun m hm => ?_⟩
    have WM := WL.new (o := .lst [.str "mark", .str "free"]) hm
    refine ⟨_, rfl, rfl, .inr ⟨_, rfl, ?_⟩⟩
    refine ⟨m, _, _, .str (if part = 3 then "free" else "mark"), rfl, rfl, SqL.of upd_same, ?_, ?_⟩
    · by_cases h3 : part = 3
      · rw [if_pos h3, decide_eq_true (show V.int (part : Int) = V.int 3 by rw [h3]; rfl)]
        exact atI_nat (j := 1) rfl
      · rw [if_neg h3, decide_eq_false (fun e : V.int (part : Int) = V.int 3 => h3 (by have := V.int.inj e; omega))]
        exact atI_nat (j := 0) rfl
    refine ⟨sz_le (by simp), fun q hq => ?_⟩
    have WN := WM.new (o := .tup [.str "done"]) hq
    refine ⟨sz_le (by simp), fun g hg => ?_⟩
    have WO := WN.new (o := .lst [.non, .int 5, .str "sync", .str "Slow", .str (if part = 3 then "free" else "mark"), .ref q]) hg
    refine ⟨_, rfl, r, 6, rfl, WO.wd.rnd, by decide, by decide, fun z6 Hw hz6 fP RP => ?_⟩
    have Ww := WO.draw fP RP
    have eq1 : Hw q = some (.tup (sV ["done"])) := fP _ _ ((upd_ne (free_upd hg).2.symm).trans upd_same) (by simpa using WM.wd.out hq)
    obtain ⟨wr, hwr, owr⟩ := wrong_at (p := part) eq1 hz6
    refine ⟨g, _, (z6 : Int), wr, rfl, rfl, SqL.of (fP _ _ upd_same (by simpa using WN.wd.out hg)), hwr, ?_⟩
    clear WJ WK WL WM WN WO RK RL RP fK fL fP hlr hm hq hg hwr eq1
    -- given
    refine ⟨fun σ' H' => ∃ (given : V) (pl : Nat) (v10 v12 : Option V), σ' = [some (.ref a), some (.ref r), v2, v3, v4, some (.ref ps), some (.int (part : Int)), some (.ref lr), some (.int (kind : Int)), some (.int (pl : Int)), v10, some given, v12, none, v14, some (.ref lo), none] ∧ Wq Pt r lo lr part H' ∧ Giv H' part given pl, ?_, ?_⟩
    · refine ⟨_, rfl, _, rfl, (place : Int), rfl, lr, _, rfl, SqL.of Ww.rc, fun p hp => ?_⟩
      rw [cut_take (by rw [sV_len]; omega), sV_take7]
      refine ⟨_, rfl, sz_le (by simp), fun p2 hp2 => ?_⟩
      refine ⟨p, p2, _, _, rfl, rfl, (upd_ne (free_upd hp2).2.symm).trans upd_same, upd_same, ?_, fun p3 hp3 => ?_⟩
      · rw [sV_len, List.length_take]
        exact sz_le (by simp; omega)
      refine ⟨_, rfl, _, rfl, (place : Int), rfl, lr, _, rfl, SqL.of ((((Fr.new (S := []) hp).trans (Fr.new hp2)).trans (Fr.new hp3)) _ _ Ww.rc (by simp)), fun p4 hp4 => ?_⟩
      rw [cut_drop7 (by rw [sV_len]; omega), sV_drop7]
      refine ⟨p3, p4, _, _, rfl, rfl, (upd_ne (free_upd hp4).2.symm).trans upd_same, upd_same, ?_, fun p5 hp5 => ?_⟩
      · simp only [List.length_append, sV_len, List.length_take, List.length_drop, List.length_cons, List.length_nil]
        exact sz_le (by omega)
      refine ⟨p5, _, rfl, .inl ⟨SqL.of upd_same, fun tg htg => ?_⟩⟩
      have F := (((((Fr.new (S := []) (o := .lst (sV ((SF part).take place))) hp).trans (Fr.new hp2)).trans (Fr.new hp3)).trans (Fr.new hp4)).trans (Fr.new hp5)).trans (Fr.new (o := .tup ((sV ((SF part).take place) ++ [wr]) ++ sV ((SF part).drop place))) htg)
      refine ⟨.ref tg, place, _, _, rfl, Ww.keep0 F, by omega, .inr ⟨tg, (SF part).take place, rfl, by rw [List.length_take]; omega, (sf_take part hpart place (by omega)).ok, .inl ⟨wr, sV ((SF part).drop place), ?_, .inr (.inl ⟨by omega, _, owr.keep0 F, noWord_of (wro_bad part hpart z6 hz6)⟩)⟩⟩⟩
      rw [upd_same, List.append_assoc]
      rfl
    clear owr Ww hplace place z6 hz6 wr q g m
    rintro _ HA ⟨given, pl, v10, v12, rfl, WA, GA⟩
    -- kind 1
    refine ⟨fun σ' H' => ∃ (given : V) (pl : Nat) (v10 v12 : Option V), σ' = [some (.ref a), some (.ref r), v2, v3, v4, some (.ref ps), some (.int (part : Int)), some (.ref lr), some (.int (kind : Int)), some (.int (pl : Int)), v10, some given, v12, none, v14, some (.ref lo), none] ∧ Wq Pt r lo lr part H' ∧ Giv H' part given pl, ?_, ?_⟩
    · refine ⟨_, rfl, rfl, _, rfl, ?_⟩
      by_cases h1 : kind = 1
      · rw [decide_eq_true (show V.int (kind : Int) = V.int 1 by rw [h1]; rfl)]
        refine iteT ?_
        refine ⟨_, rfl, lr, rfl, ⟨_, SqL.of WA.rc⟩, fun D hD => ?_⟩
        refine lc_list (K := K) (a := lr) (xs := sV (SF part)) (fun i H2 => H2 = upd HA D (.lst (sV (firsts ((SF part).take i))))) rfl ?_ ?_ ?_
        · rintro i H2 _ rfl
          exact SqL.of (Fr.new (S := []) hD _ _ WA.rc (by simp))
        · rintro i x H2 hi rfl
          obtain ⟨z, rfl, hz⟩ := sV_at hi
          have hzl := sf_small part hpart z (List.mem_of_getElem? hz)
          have hil := lt_of_at hz
          have sl := sf_len part hpart
          have es : firsts ((SF part).take (i + 1)) = _ := filt_succ hz
          refine ⟨rfl, _, rfl, (4 : Int), rfl, z, rfl, sz_le (by omega), rfl, _, rfl, ?_⟩
          have hlf : (firsts ((SF part).take i)).length ≤ 5 := Nat.le_trans (List.length_filter_le _ _) (by rw [List.length_take]; omega)
          refine ite2 (fun hb => ?_) (fun hb => ?_)
          · have hp : decide (first4 z ≠ ("sync" : Str)) = true := by
              refine decide_eq_true fun e => ?_
              have hb' : (!decide (V.str (first4 z) = V.str "sync")) = true := hb
              rw [e] at hb'
              simp at hb'
            rw [if_pos hp] at es
            refine ⟨_, rfl, _, upd_same, by rw [sV_len]; exact sz_lt (by omega), ?_⟩
            rw [upd_upd, es]
            unfold sV
            rw [List.map_append]
            rfl
          · have hp : ¬ decide (first4 z ≠ ("sync" : Str)) = true := fun e => of_decide_eq_true e (by
              have hb' : ¬ (!decide (V.str (first4 z) = V.str "sync")) = true := hb
              have hb2 : V.str (first4 z) = V.str "sync" := by simpa using hb'
              exact V.str.inj hb2)
            rw [if_neg hp, List.append_nil] at es
            show _ = _
            rw [es]
            rfl
        · rintro H2 rfl
          rw [sV_len, List.take_length]
          have W1' := WA.new (o := .lst (sV (firsts (SF part)))) hD
          obtain ⟨l1, l2, l3⟩ := sf_first part hpart
          have sl := sf_len part hpart
          refine ⟨_, rfl, _, rfl, _, rfl, _, rfl, D, _, rfl, .inl (SqL.of upd_same), ?_⟩
          refine ⟨r, (sV (firsts (SF part))).length, rfl, W1'.wd.rnd, by rw [sV_len]; exact l2, by rw [sV_len]; omega, fun zi H3 hzi f3 R3 => ?_⟩
          rw [sV_len] at hzi
          have W3 := W1'.draw f3 R3
          have hm := List.getElem_mem hzi
          obtain ⟨m1, m2, m3⟩ := l3 _ hm
          have eD : H3 D = some (.lst (sV (firsts (SF part)))) := f3 _ _ upd_same (by simpa using WA.wd.out hD)
          refine ⟨D, _, (zi : Int), .str ((firsts (SF part))[zi]), rfl, rfl, SqL.of eD, atI_nat (by unfold sV; rw [List.getElem?_map, List.getElem?_eq_getElem hzi]; rfl), ?_⟩
          refine ⟨sz_le (by simp), fun p hp => ?_⟩
          refine ⟨lr, p, _, _, rfl, rfl, Fr.new (S := []) hp _ _ W3.rc (by simp), upd_same, ?_, fun p3 hp3 => ?_⟩
          · rw [sV_len]
            exact sz_le (by simp; omega)
          refine ⟨p3, _, rfl, .inl ⟨SqL.of upd_same, fun tg htg => ?_⟩⟩
          have F := ((Fr.new (S := []) (o := .lst [.str ((firsts (SF part))[zi])]) hp).trans (Fr.new hp3)).trans (Fr.new (o := .tup (sV (SF part) ++ [.str ((firsts (SF part))[zi])])) htg)
          have WF := W3.keep0 F
          refine ⟨_, rfl, lr, _, rfl, .inl (SqL.of WF.rc), _, _, rfl, ?_⟩
          refine ⟨.ref tg, (sV (SF part)).length, _, _, rfl, WF, by rw [sV_len]; omega, .inr ⟨tg, SF part, rfl, (sV_len _).symm, (sf_full part hpart).ok, .inl ⟨_, [], upd_same, .inr (.inr ⟨by rw [sV_len]; omega, _, rfl, m1, m2, m3⟩)⟩⟩⟩
      · rw [decide_eq_false (fun e : V.int (kind : Int) = V.int 1 => h1 (by have := V.int.inj e; omega))]
        exact iteF ⟨given, pl, v10, v12, rfl, WA, GA⟩
    clear WA GA
    clear pl given v10 v12
    rintro _ HB ⟨given, pl, v10, v12, rfl, WB, GB⟩
    -- kind 2
    refine ⟨fun σ' H' => ∃ (given : V) (pl : Nat) (v10 v12 : Option V), σ' = [some (.ref a), some (.ref r), v2, v3, v4, some (.ref ps), some (.int (part : Int)), some (.ref lr), some (.int (kind : Int)), some (.int (pl : Int)), v10, some given, v12, none, v14, some (.ref lo), none] ∧ Wq Pt r lo lr part H' ∧ Giv H' part given pl, ?_, ?_⟩
    · refine ⟨_, rfl, rfl, _, rfl, ?_⟩
      by_cases h1 : kind = 2
      · rw [decide_eq_true (show V.int (kind : Int) = V.int 2 by rw [h1]; rfl)]
        refine iteT ?_
        have sl := sf_len part hpart
        refine ⟨_, rfl, sz_le (by simp), fun p1 hp1 => ?_⟩
        refine ⟨p1, 3, _, rfl, rfl, upd_same, by decide, by decide, sz_le (by decide), fun p2 hp2 => ?_⟩
        refine ⟨lr, p2, _, _, rfl, rfl, ((Fr.new (S := []) hp1).trans (Fr.new hp2)) _ _ WB.rc (by simp), upd_same, ?_, fun p3 hp3 => ?_⟩
        · rw [sV_len]
          exact sz_le (by simp; omega)
        refine ⟨sz_le (by simp), fun p4 hp4 => ?_⟩
        refine ⟨p4, 2, _, rfl, rfl, upd_same, by decide, by decide, sz_le (by decide), fun p5 hp5 => ?_⟩
        refine ⟨p3, p5, _, _, rfl, rfl, ((Fr.new (S := []) hp4).trans (Fr.new hp5)) _ _ upd_same (by simp), upd_same, ?_, fun p6 hp6 => ?_⟩
        · rw [List.length_append, sV_len]
          exact sz_le (by simp; omega)
        rw [syn_cat] at *
        refine ⟨p6, _, rfl, .inl ⟨SqL.of upd_same, fun tg htg => ?_⟩⟩
        obtain ⟨x, rest, ex⟩ := syn_split hpart
        obtain ⟨y1, y2, _⟩ := sf_syn part hpart
        refine ⟨_, _, rfl, ?_⟩
        refine ⟨.ref tg, 8, _, _, rfl, WB.keep0 (((((((Fr.new (S := []) hp1).trans (Fr.new hp2)).trans (Fr.new hp3)).trans (Fr.new hp4)).trans (Fr.new hp5)).trans (Fr.new hp6)).trans (Fr.new htg)), by decide, .inr ⟨tg, (SF part ++ SYN).take 8, rfl, y2, y1.ok, .inl ⟨x, rest, by rw [upd_same, ex], .inl rfl⟩⟩⟩
      · rw [decide_eq_false (fun e : V.int (kind : Int) = V.int 2 => h1 (by have := V.int.inj e; omega))]
        exact iteF ⟨given, pl, v10, v12, rfl, WB, GB⟩
    clear WB GB
    clear pl given v10 v12
    rintro _ HC ⟨given, pl, v10, v12, rfl, WC, GC⟩
    -- kind 3
    refine ⟨fun σ' H' => ∃ (given : V) (pl : Nat) (v10 v12 : Option V), σ' = [some (.ref a), some (.ref r), v2, v3, v4, some (.ref ps), some (.int (part : Int)), some (.ref lr), some (.int (kind : Int)), some (.int (pl : Int)), v10, some given, v12, none, v14, some (.ref lo), none] ∧ Wq Pt r lo lr part H' ∧ Giv H' part given pl, ?_, ?_⟩
    · refine ⟨_, rfl, rfl, _, rfl, ?_⟩
      by_cases h1 : kind = 3
      · rw [decide_eq_true (show V.int (kind : Int) = V.int 3 by rw [h1]; rfl)]
        refine iteT ⟨_, rfl, _, _, rfl, rfl, _, rfl, ?_⟩
        by_cases hp3 : part < 3
        · rw [decide_eq_true (show (part : Int) < 3 by omega)]
          refine iteT ?_
          obtain ⟨y1, y2, y3, y4⟩ := sf_done part hp3
          have sl := sf_len part hpart
          refine ⟨_, rfl, lr, rfl, ⟨_, SqL.of WC.rc⟩, fun D hD => ?_⟩
          refine lc_list (K := K) (a := lr) (xs := sV (SF part)) (fun i H2 => H2 = upd HC D (.lst (sV (noDone ((SF part).take i))))) rfl ?_ ?_ ?_
          · rintro i H2 _ rfl
            exact SqL.of (Fr.new (S := []) hD _ _ WC.rc (by simp))
          · rintro i x H2 hi rfl
            obtain ⟨z, rfl, hz⟩ := sV_at hi
            have hil := lt_of_at hz
            have es : noDone ((SF part).take (i + 1)) = _ := filt_succ hz
            have hlf : (noDone ((SF part).take i)).length ≤ 5 := Nat.le_trans (List.length_filter_le _ _) (by rw [List.length_take]; omega)
            refine ⟨rfl, _, rfl, rfl, _, rfl, ?_⟩
            refine ite2 (fun hb => ?_) (fun hb => ?_)
            · have hp : decide (z ≠ ("done" : Str)) = true := by
                refine decide_eq_true fun e => ?_
                have hb' : (!decide (V.str z = V.str "done")) = true := hb
                rw [e] at hb'
                simp at hb'
              rw [if_pos hp] at es
              refine ⟨_, rfl, _, upd_same, by rw [sV_len]; exact sz_lt (by omega), ?_⟩
              rw [upd_upd, es]
              unfold sV
              rw [List.map_append]
              rfl
            · have hp : ¬ decide (z ≠ ("done" : Str)) = true := fun e => of_decide_eq_true e (by
                have hb' : ¬ (!decide (V.str z = V.str "done")) = true := hb
                have hb2 : V.str z = V.str "done" := by simpa using hb'
                exact V.str.inj hb2)
              rw [if_neg hp, List.append_nil] at es
              show _ = _
              rw [es]
              rfl
          · rintro H2 rfl
            rw [sV_len, List.take_length]
            refine ⟨D, _, rfl, .inl ⟨SqL.of upd_same, fun tg htg => ?_⟩⟩
            refine ⟨_, rfl, tg, _, rfl, .inr (SqT.of upd_same), ?_⟩
            refine ⟨.ref tg, (sV (noDone (SF part))).length, _, _, rfl, WC.keep0 ((Fr.new (S := []) hD).trans (Fr.new htg)), by rw [sV_len]; exact y4, .inr ⟨tg, noDone (SF part), rfl, (sV_len _).symm, y1.ok, .inr ⟨upd_same, y2, y3⟩⟩⟩
        · rw [decide_eq_false (show ¬ (part : Int) < 3 by omega)]
          exact iteF ⟨given, pl, v10, v12, rfl, WC, GC⟩
      · rw [decide_eq_false (fun e : V.int (kind : Int) = V.int 3 => h1 (by have := V.int.inj e; omega))]
        exact iteF (iteF ⟨given, pl, v10, v12, rfl, WC, GC⟩)
    clear WC GC
    clear pl given v10 v12
    rintro _ HD ⟨given, pl, v10, v12, rfl, WD, GD⟩
    -- kind 4
    refine ⟨fun σ' H' => ∃ (given : V) (pl : Nat) (v10 v12 : Option V), σ' = [some (.ref a), some (.ref r), v2, v3, v4, some (.ref ps), some (.int (part : Int)), some (.ref lr), some (.int (kind : Int)), some (.int (pl : Int)), v10, some given, v12, none, v14, some (.ref lo), none] ∧ Wq Pt r lo lr part H' ∧ Giv H' part given pl, ?_, ?_⟩
    · refine ⟨_, rfl, rfl, _, rfl, ?_⟩
      by_cases h1 : kind = 4
      · rw [decide_eq_true (show V.int (kind : Int) = V.int 4 by rw [h1]; rfl)]
        refine iteT ?_
        refine ⟨_, rfl, sz_le (by simp), fun g hg => ?_⟩
        have W1' := WD.new (o := .lst [.non, .ref lr, .str "slow", .int 5]) hg
        refine ⟨_, rfl, r, 4, rfl, W1'.wd.rnd, by decide, by decide, fun z H3 hz f3 R3 => ?_⟩
        have W3 := W1'.draw f3 R3
        have hv : ∃ v, atI [.non, .ref lr, .str "slow", .int 5] (z : Int) = some v ∧ NoTup H3 v := by
          match z, hz with
          | 0, _ => exact ⟨_, atI_nat (j := 0) rfl, .inl rfl⟩
          | 1, _ => exact ⟨_, atI_nat (j := 1) rfl, .inr (.inr (.inr ⟨lr, _, rfl, W3.rc⟩))⟩
          | 2, _ => exact ⟨_, atI_nat (j := 2) rfl, .inr (.inr (.inl ⟨_, rfl⟩))⟩
          | 3, _ => exact ⟨_, atI_nat (j := 3) rfl, .inr (.inl ⟨_, rfl⟩)⟩
        obtain ⟨v, hv, nt⟩ := hv
        refine ⟨g, _, (z : Int), v, rfl, rfl, SqL.of (f3 _ _ upd_same (by simpa using WD.wd.out hg)), hv, _, _, rfl, ?_⟩
        exact ⟨v, 0, _, _, rfl, W3, by decide, .inl ⟨rfl, nt⟩⟩
      · rw [decide_eq_false (fun e : V.int (kind : Int) = V.int 4 => h1 (by have := V.int.inj e; omega))]
        exact iteF ⟨given, pl, v10, v12, rfl, WD, GD⟩
    clear WD GD
    clear pl given v10 v12
    rintro _ HE2 ⟨given, pl, v10, v12, rfl, WE, GE2⟩
    -- orders
    refine ⟨fun σ' H' => ∃ (lb : Addr) (b0 b1 b2 b3 : V) (v11 : Option V), σ' = [some (.ref a), some (.ref r), v2, v3, v4, some (.ref ps), some (.int (part : Int)), some (.ref lr), some (.int (kind : Int)), some (.int (pl : Int)), v10, v11, v12, none, v14, some (.ref lb), none] ∧ Wd Pt r H' ∧ H' lb = some (.lst [b0, b1, b2, b3]) ∧ BadRec H' [b0, b1, b2, b3] part pl, ?_, ?_⟩
    · obtain ⟨ts, ht1, ht2, ht3⟩ := id WE.ord
      refine ⟨_, rfl, _, rfl, (part : Int), rfl, lo, _, rfl, SqL.of ht2, fun p hp => ?_⟩
      rw [cut_take (by rw [List.length_map, ht1]; omega)]
      refine ⟨_, rfl, sz_le (by simp), fun p2 hp2 => ?_⟩
      refine ⟨p, p2, _, _, rfl, rfl, (upd_ne (free_upd hp2).2.symm).trans upd_same, upd_same, ?_, fun p3 hp3 => ?_⟩
      · simp only [List.length_append, List.length_take, List.length_map, List.length_cons, List.length_nil]
        exact sz_le (by omega)
      refine ⟨sz_le (by simp), fun pe hpe => ?_⟩
      refine ⟨sz_le (by simp), fun p4 hp4 => ?_⟩
      refine ⟨_, rfl, _, _, rfl, rfl, (3 - (part : Int)), rfl, p4, _, rfl, SqL.of upd_same, fun p5 hp5 => ?_⟩
      have e3 : (3 - (part : Int)) = ((3 - part : Nat) : Int) := by omega
      rw [e3, cut_take (by simp; omega)]
      refine ⟨p3, p5, _, _, rfl, rfl, ((((Fr.new (S := []) hpe).trans (Fr.new hp4)).trans (Fr.new hp5)) _ _ upd_same (by simp)), upd_same, ?_, fun p6 hp6 => ?_⟩
      · simp only [List.length_append, List.length_take, List.length_map, List.length_cons, List.length_nil]
        exact sz_le (by omega)
      obtain ⟨b0, b1, b2, b3, eb, hb⟩ := bad_rec (rest := [.non, .ref pe, .int 0, .int 5]) hpart ht1 ht3 GE2 rfl
      rw [eb]
      have F := ((((((Fr.new (S := []) (o := .lst ((ts.map V.ref).take part)) hp).trans (Fr.new hp2)).trans (Fr.new hp3)).trans (Fr.new hpe)).trans (Fr.new hp4)).trans (Fr.new hp5)).trans (Fr.new (o := .lst [b0, b1, b2, b3]) hp6)
      exact ⟨p6, b0, b1, b2, b3, _, rfl, WE.wd.keep0 F, upd_same, hb.keep F⟩
    clear WE GE2
    rintro _ HG ⟨lb, b0, b1, b2, b3, v11, rfl, WG, eG, bG⟩
    -- the second question
    refine ⟨WG.tab, fun fl F HH q1 q2 q3 q4 q5 q6 eN TB' hf L => ?_⟩
    refine ⟨_, rfl, fun pins s1 I => ?_⟩
    refine ⟨fl, F, ["_law_orders"], [some (.ref lb)], lpQ T, rfl, lok_recipes T HP q3 q4 q2 q6, Act.made (js := [15]) (fun _ => rfl) I L (by rw [q5]; exact Caps.made I.ok capQ freeQ rfl), fun Q' E' hq he => ?_⟩
    refine ⟨lb, b0, b1, b2, b3, part, pl, rfl, eN _ _ eG (fun _ z => by cases z), bG.keepN eN, fun d HC hd fC hx => he _ _ _ (.inr ⟨.int (part : Int), .int (pl : Int), rfl, by simp, hx, fun t u HD ht hu fD eu et => ?_⟩)⟩
    refine ⟨_, rfl, _, rfl, sz_le (by simp), fun u1 hu1 => ⟨sz_le (by simp), fun u2 hu2 => ?_⟩⟩
    have F2 := (Fr.new (S := []) (o := .tup [.int (part : Int), .int (pl : Int)]) hu1).trans (Fr.new (o := .tup [.str "recipes", .ref u1]) hu2)
    refine ⟨.tuple [.str "recipes", .tuple [.int (part : Int), .int (pl : Int)]], .tuple [.str "recipes", .tuple [.int (part : Int), .int (pl : Int)]], .tup (SqT.of (F2 _ _ et (by simp))) (.cons (.str _) (.cons (.tup (SqT.of (F2 _ _ eu (by simp))) (.cons (.int _) (.cons (.int _) .nil))) .nil)), .tup (SqT.of upd_same) (.cons (.str _) (.cons (.tup (SqT.of ((upd_ne (free_upd hu2).2.symm).trans upd_same)) (.cons (.int _) (.cons (.int _) .nil))) .nil)), shaped_triple (by decide +kernel), shaped_triple (by decide +kernel), ?_⟩
    rw [eqv_triple]
    exact k _
end
open PySem.Spec PySem.Calls PySem.W PyProof.Rows LamX NdefX in
theorem all_mk {l : PySem.W.OpenLaw} {w : World} {K : PySem.W.Frag} {q : Program} {lo : List Str} {mean : ExcName → Option Value} {d : DefRec} {h : Heap} {mg mb : Str → Option Value} {fa C_Rules C_Recipes f_is_number f_is_number_from f_Rules___init__ f_Recipes___init__ f_Recipes_through p_Recipes_through f_Recipes_back p_Recipes_back f_Recipes_around p_Recipes_around f_Recipes_clean p_Recipes_clean f_Recipes_safe p_Recipes_safe f__invalid_place f__law_random f__law_below f__law_rules f__law_told_of f__law_error_of f_law cda_law P_law A_RULE_WORDS_0 A_RULE_WORDS_1 A_RULE_WORDS_2 A_RULE_WORDS A_WRITE_STEPS A_CLEAN_STEPS A_SYNC_STEPS C_InvalidSize C_InvalidCell C_InvalidKept C_InvalidBlock C_InvalidValue C_InvalidCount C_InvalidSlot C_InvalidWord C_InvalidStory C_PowerOff C_PowerOn C_NoFastDisk C_HasFastDisk C_Unsettled C_Contradiction C_InvalidName C_UnknownName C_InvalidRules C_InvalidRecipes C_InvalidRequests C_InvalidPrices C_InvalidPlan C_PowerFailed C_InvalidOperation C_NotationError C_DecodeError C_PairError f_InvalidRules___init__ cc_InvalidRules___init__ cda_InvalidRules___init__ f_InvalidRecipes___init__ cc_InvalidRecipes___init__ cda_InvalidRecipes___init__ : Addr} (TT : Top q lo mean mg mb h) (X : K.In h) (hfa : mg "law" = some (.ref fa)) (nt : noTabs K = true) (hrec : (recsOf q).find? (fun e => e.name == ("law" : Str)) = some d)
    {od_is_number an_is_number od_is_number_from an_is_number_from od_Rules___init__ an_Rules___init__ od_Recipes___init__ an_Recipes___init__ od_Recipes_through an_Recipes_through od_Recipes_back an_Recipes_back od_Recipes_around an_Recipes_around od_Recipes_clean an_Recipes_clean od_Recipes_safe an_Recipes_safe od__invalid_place an__invalid_place od__law_random an__law_random od__law_below an__law_below od__law_rules an__law_rules od__law_told_of an__law_told_of od__law_error_of an__law_error_of od_law an_law cdd_law od_RULE_WORDS_0 od_RULE_WORDS_1 od_RULE_WORDS_2 od_RULE_WORDS od_WRITE_STEPS od_CLEAN_STEPS od_SYNC_STEPS od_InvalidRules___init__ an_InvalidRules___init__ cdd_InvalidRules___init__ ed_InvalidRules___init__ od_InvalidRecipes___init__ an_InvalidRecipes___init__ cdd_InvalidRecipes___init__ ed_InvalidRecipes___init__ : Option Addr} {sl_is_number sl_is_number_from sl_Rules___init__ sl_Recipes___init__ sl_Recipes_through sl_Recipes_back sl_Recipes_around sl_Recipes_clean sl_Recipes_safe sl__invalid_place sl__law_random sl__law_below sl__law_rules sl__law_told_of sl__law_error_of sl_law csl_law sl_RULE_WORDS_0 sl_RULE_WORDS_1 sl_RULE_WORDS_2 sl_RULE_WORDS sl_WRITE_STEPS sl_CLEAN_STEPS sl_SYNC_STEPS sl_InvalidRules___init__ csl_InvalidRules___init__ es_InvalidRules___init__ sl_InvalidRecipes___init__ csl_InvalidRecipes___init__ es_InvalidRecipes___init__ : Array (Option Value)} {oc_is_number dc_is_number pm_is_number cd_is_number ct_is_number kV_is_number oc_is_number_from dc_is_number_from pm_is_number_from cd_is_number_from ct_is_number_from kV_is_number_from oc_Rules___init__ dc_Rules___init__ pm_Rules___init__ cd_Rules___init__ ct_Rules___init__ kV_Rules___init__ oc_Recipes___init__ dc_Recipes___init__ pm_Recipes___init__ cd_Recipes___init__ ct_Recipes___init__ kV_Recipes___init__ oc_Recipes_through dc_Recipes_through pm_Recipes_through cd_Recipes_through ct_Recipes_through kV_Recipes_through oc_Recipes_back dc_Recipes_back pm_Recipes_back cd_Recipes_back ct_Recipes_back kV_Recipes_back oc_Recipes_around dc_Recipes_around pm_Recipes_around cd_Recipes_around ct_Recipes_around kV_Recipes_around oc_Recipes_clean dc_Recipes_clean pm_Recipes_clean cd_Recipes_clean ct_Recipes_clean kV_Recipes_clean oc_Recipes_safe dc_Recipes_safe pm_Recipes_safe cd_Recipes_safe ct_Recipes_safe kV_Recipes_safe oc__invalid_place dc__invalid_place pm__invalid_place cd__invalid_place ct__invalid_place kV__invalid_place oc__law_random dc__law_random pm__law_random cd__law_random ct__law_random kV__law_random oc__law_below dc__law_below pm__law_below cd__law_below ct__law_below kV__law_below oc__law_rules dc__law_rules pm__law_rules cd__law_rules ct__law_rules kV__law_rules oc__law_told_of dc__law_told_of pm__law_told_of cd__law_told_of ct__law_told_of kV__law_told_of oc__law_error_of dc__law_error_of pm__law_error_of cd__law_error_of ct__law_error_of kV__law_error_of oc_law dc_law pm_law ct_law cl_law kV_law oc_InvalidRules___init__ kV_InvalidRules___init__ dc_InvalidRules___init__ pm_InvalidRules___init__ ct_InvalidRules___init__ cl_InvalidRules___init__ ec_InvalidRules___init__ oc_InvalidRecipes___init__ kV_InvalidRecipes___init__ dc_InvalidRecipes___init__ pm_InvalidRecipes___init__ ct_InvalidRecipes___init__ cl_InvalidRecipes___init__ ec_InvalidRecipes___init__ : Value} {t_BOUND_PART t_MOST_BOUND t_MOST_STEPS : Tok}
    (aC_Rules : PySem.W.nsIn K mainGlobals "Rules" = some (some (.ref C_Rules)))
    (pg_Rules : PySem.W.plainGet K C_Rules Str.empty = true) (hd_Rules : PySem.W.hasDictIn K C_Rules = true) (po_Rules : PySem.W.plainOver K C_Rules = true) (sa_Rules : PySem.W.findIn K (.ref C_Rules) "__setattr__" = some (some (.builtin "object.__setattr__")))
    (aC_Recipes : PySem.W.nsIn K mainGlobals "Recipes" = some (some (.ref C_Recipes)))
    (pg_Recipes : PySem.W.plainGet K C_Recipes Str.empty = true) (hd_Recipes : PySem.W.hasDictIn K C_Recipes = true) (po_Recipes : PySem.W.plainOver K C_Recipes = true) (sa_Recipes : PySem.W.findIn K (.ref C_Recipes) "__setattr__" = some (some (.builtin "object.__setattr__")))
    (n_Recipes__through : PySem.W.findIn K (.ref C_Recipes) "_through" = some none)
    (n_Recipes__back : PySem.W.findIn K (.ref C_Recipes) "_back" = some none)
    (n_Recipes__around : PySem.W.findIn K (.ref C_Recipes) "_around" = some none)
    (n_Recipes__clean : PySem.W.findIn K (.ref C_Recipes) "_clean" = some none)
    (a_is_number : PySem.W.nsIn K mainGlobals "is_number" = some (some (.ref f_is_number)))
    (l_is_number : K.lookup f_is_number = some ⟨oc_is_number, od_is_number, .func (PySem.W.fnOf "is_number" "is_number" (defArgs s_is_number) (defBody s_is_number) (defScope s_is_number) .none kV_is_number dc_is_number pm_is_number an_is_number cd_is_number ct_is_number), sl_is_number⟩) (c_is_number : PySem.W.codeIn K cd_is_number "is_number" = true) (k_is_number : PySem.W.keepIn K (.ref f_is_number) = true)
    (a_is_number_from : PySem.W.nsIn K mainGlobals "is_number_from" = some (some (.ref f_is_number_from)))
    (l_is_number_from : K.lookup f_is_number_from = some ⟨oc_is_number_from, od_is_number_from, .func (PySem.W.fnOf "is_number_from" "is_number_from" (defArgs s_is_number_from) (defBody s_is_number_from) (defScope s_is_number_from) .none kV_is_number_from dc_is_number_from pm_is_number_from an_is_number_from cd_is_number_from ct_is_number_from), sl_is_number_from⟩) (c_is_number_from : PySem.W.codeIn K cd_is_number_from "is_number_from" = true) (k_is_number_from : PySem.W.keepIn K (.ref f_is_number_from) = true)
    (a_Rules___init__ : PySem.W.findIn K (.ref C_Rules) "__init__" = some (some (.ref f_Rules___init__))) (i_Rules___init__ : PySem.W.isFn K (.ref f_Rules___init__) = true) (mk_Rules___init__ : PySem.W.makesIn K C_Rules = true) (kc_Rules___init__ : PySem.W.keepIn K (.ref C_Rules) = true)
    (l_Rules___init__ : K.lookup f_Rules___init__ = some ⟨oc_Rules___init__, od_Rules___init__, .func (PySem.W.fnOf "__init__" "Rules.__init__" (defArgs s_Rules___init__) (defBody s_Rules___init__) (defScope s_Rules___init__) .none kV_Rules___init__ dc_Rules___init__ pm_Rules___init__ an_Rules___init__ cd_Rules___init__ ct_Rules___init__), sl_Rules___init__⟩) (c_Rules___init__ : PySem.W.codeIn K cd_Rules___init__ "Rules.__init__" = true) (k_Rules___init__ : PySem.W.keepIn K (.ref f_Rules___init__) = true)
    (a_Recipes___init__ : PySem.W.findIn K (.ref C_Recipes) "__init__" = some (some (.ref f_Recipes___init__))) (i_Recipes___init__ : PySem.W.isFn K (.ref f_Recipes___init__) = true) (mk_Recipes___init__ : PySem.W.makesIn K C_Recipes = true) (kc_Recipes___init__ : PySem.W.keepIn K (.ref C_Recipes) = true)
    (l_Recipes___init__ : K.lookup f_Recipes___init__ = some ⟨oc_Recipes___init__, od_Recipes___init__, .func (PySem.W.fnOf "__init__" "Recipes.__init__" (defArgs s_Recipes___init__) (defBody s_Recipes___init__) (defScope s_Recipes___init__) .none kV_Recipes___init__ dc_Recipes___init__ pm_Recipes___init__ an_Recipes___init__ cd_Recipes___init__ ct_Recipes___init__), sl_Recipes___init__⟩) (c_Recipes___init__ : PySem.W.codeIn K cd_Recipes___init__ "Recipes.__init__" = true) (k_Recipes___init__ : PySem.W.keepIn K (.ref f_Recipes___init__) = true)
    {rest_Recipes_through : List Value} (a_Recipes_through : PySem.W.findIn K (.ref C_Recipes) "through" = some (some (.ref p_Recipes_through))) (ge_Recipes_through : PySem.W.specialIn K (.ref p_Recipes_through) "__get__" = some (some (.builtin "property.__get__"))) (tk_Recipes_through : PySem.W.takesIn K (.ref p_Recipes_through) = some true) (rc_Recipes_through : PySem.W.recIn K p_Recipes_through "property" = some (.ref f_Recipes_through :: rest_Recipes_through))
    (l_Recipes_through : K.lookup f_Recipes_through = some ⟨oc_Recipes_through, od_Recipes_through, .func (PySem.W.fnOf "through" "Recipes.through" (defArgs s_Recipes_through) (defBody s_Recipes_through) (defScope s_Recipes_through) .none kV_Recipes_through dc_Recipes_through pm_Recipes_through an_Recipes_through cd_Recipes_through ct_Recipes_through), sl_Recipes_through⟩) (c_Recipes_through : PySem.W.codeIn K cd_Recipes_through "Recipes.through" = true) (k_Recipes_through : PySem.W.keepIn K (.ref f_Recipes_through) = true)
    {rest_Recipes_back : List Value} (a_Recipes_back : PySem.W.findIn K (.ref C_Recipes) "back" = some (some (.ref p_Recipes_back))) (ge_Recipes_back : PySem.W.specialIn K (.ref p_Recipes_back) "__get__" = some (some (.builtin "property.__get__"))) (tk_Recipes_back : PySem.W.takesIn K (.ref p_Recipes_back) = some true) (rc_Recipes_back : PySem.W.recIn K p_Recipes_back "property" = some (.ref f_Recipes_back :: rest_Recipes_back))
    (l_Recipes_back : K.lookup f_Recipes_back = some ⟨oc_Recipes_back, od_Recipes_back, .func (PySem.W.fnOf "back" "Recipes.back" (defArgs s_Recipes_back) (defBody s_Recipes_back) (defScope s_Recipes_back) .none kV_Recipes_back dc_Recipes_back pm_Recipes_back an_Recipes_back cd_Recipes_back ct_Recipes_back), sl_Recipes_back⟩) (c_Recipes_back : PySem.W.codeIn K cd_Recipes_back "Recipes.back" = true) (k_Recipes_back : PySem.W.keepIn K (.ref f_Recipes_back) = true)
    {rest_Recipes_around : List Value} (a_Recipes_around : PySem.W.findIn K (.ref C_Recipes) "around" = some (some (.ref p_Recipes_around))) (ge_Recipes_around : PySem.W.specialIn K (.ref p_Recipes_around) "__get__" = some (some (.builtin "property.__get__"))) (tk_Recipes_around : PySem.W.takesIn K (.ref p_Recipes_around) = some true) (rc_Recipes_around : PySem.W.recIn K p_Recipes_around "property" = some (.ref f_Recipes_around :: rest_Recipes_around))
    (l_Recipes_around : K.lookup f_Recipes_around = some ⟨oc_Recipes_around, od_Recipes_around, .func (PySem.W.fnOf "around" "Recipes.around" (defArgs s_Recipes_around) (defBody s_Recipes_around) (defScope s_Recipes_around) .none kV_Recipes_around dc_Recipes_around pm_Recipes_around an_Recipes_around cd_Recipes_around ct_Recipes_around), sl_Recipes_around⟩) (c_Recipes_around : PySem.W.codeIn K cd_Recipes_around "Recipes.around" = true) (k_Recipes_around : PySem.W.keepIn K (.ref f_Recipes_around) = true)
    {rest_Recipes_clean : List Value} (a_Recipes_clean : PySem.W.findIn K (.ref C_Recipes) "clean" = some (some (.ref p_Recipes_clean))) (ge_Recipes_clean : PySem.W.specialIn K (.ref p_Recipes_clean) "__get__" = some (some (.builtin "property.__get__"))) (tk_Recipes_clean : PySem.W.takesIn K (.ref p_Recipes_clean) = some true) (rc_Recipes_clean : PySem.W.recIn K p_Recipes_clean "property" = some (.ref f_Recipes_clean :: rest_Recipes_clean))
    (l_Recipes_clean : K.lookup f_Recipes_clean = some ⟨oc_Recipes_clean, od_Recipes_clean, .func (PySem.W.fnOf "clean" "Recipes.clean" (defArgs s_Recipes_clean) (defBody s_Recipes_clean) (defScope s_Recipes_clean) .none kV_Recipes_clean dc_Recipes_clean pm_Recipes_clean an_Recipes_clean cd_Recipes_clean ct_Recipes_clean), sl_Recipes_clean⟩) (c_Recipes_clean : PySem.W.codeIn K cd_Recipes_clean "Recipes.clean" = true) (k_Recipes_clean : PySem.W.keepIn K (.ref f_Recipes_clean) = true)
    {rest_Recipes_safe : List Value} (a_Recipes_safe : PySem.W.findCls K (.ref C_Recipes) (.type "type") "safe" = some (.get (.builtin "classmethod.__get__") (.ref p_Recipes_safe) .none (.ref C_Recipes))) (rc_Recipes_safe : PySem.W.recIn K p_Recipes_safe "classmethod" = some (.ref f_Recipes_safe :: rest_Recipes_safe)) (fi_Recipes_safe : PySem.W.fnIn K f_Recipes_safe = true) (rd_Recipes_safe : PySem.W.readsIn K C_Recipes (.type "type") = true) (sg_Recipes_safe : PySem.W.specialIn K (.ref C_Recipes) "__getattribute__" = some (some (.builtin "type.__getattribute__")))
    (l_Recipes_safe : K.lookup f_Recipes_safe = some ⟨oc_Recipes_safe, od_Recipes_safe, .func (PySem.W.fnOf "safe" "Recipes.safe" (defArgs s_Recipes_safe) (defBody s_Recipes_safe) (defScope s_Recipes_safe) .none kV_Recipes_safe dc_Recipes_safe pm_Recipes_safe an_Recipes_safe cd_Recipes_safe ct_Recipes_safe), sl_Recipes_safe⟩) (c_Recipes_safe : PySem.W.codeIn K cd_Recipes_safe "Recipes.safe" = true) (k_Recipes_safe : PySem.W.keepIn K (.ref f_Recipes_safe) = true)
    (a__invalid_place : PySem.W.nsIn K mainGlobals "_invalid_place" = some (some (.ref f__invalid_place)))
    (l__invalid_place : K.lookup f__invalid_place = some ⟨oc__invalid_place, od__invalid_place, .func (PySem.W.fnOf "_invalid_place" "_invalid_place" (defArgs s__invalid_place) (defBody s__invalid_place) (defScope s__invalid_place) .none kV__invalid_place dc__invalid_place pm__invalid_place an__invalid_place cd__invalid_place ct__invalid_place), sl__invalid_place⟩) (c__invalid_place : PySem.W.codeIn K cd__invalid_place "_invalid_place" = true) (k__invalid_place : PySem.W.keepIn K (.ref f__invalid_place) = true)
    (a__law_random : PySem.W.nsIn K mainGlobals "_law_random" = some (some (.ref f__law_random)))
    (l__law_random : K.lookup f__law_random = some ⟨oc__law_random, od__law_random, .func (PySem.W.fnOf "_law_random" "_law_random" (defArgs s__law_random) (defBody s__law_random) (defScope s__law_random) .none kV__law_random dc__law_random pm__law_random an__law_random cd__law_random ct__law_random), sl__law_random⟩) (c__law_random : PySem.W.codeIn K cd__law_random "_law_random" = true) (k__law_random : PySem.W.keepIn K (.ref f__law_random) = true)
    (a__law_below : PySem.W.nsIn K mainGlobals "_law_below" = some (some (.ref f__law_below)))
    (l__law_below : K.lookup f__law_below = some ⟨oc__law_below, od__law_below, .func (PySem.W.fnOf "_law_below" "_law_below" (defArgs s__law_below) (defBody s__law_below) (defScope s__law_below) .none kV__law_below dc__law_below pm__law_below an__law_below cd__law_below ct__law_below), sl__law_below⟩) (c__law_below : PySem.W.codeIn K cd__law_below "_law_below" = true) (k__law_below : PySem.W.keepIn K (.ref f__law_below) = true)
    (a__law_rules : PySem.W.nsIn K mainGlobals "_law_rules" = some (some (.ref f__law_rules)))
    (l__law_rules : K.lookup f__law_rules = some ⟨oc__law_rules, od__law_rules, .func (PySem.W.fnOf "_law_rules" "_law_rules" (defArgs s__law_rules) (defBody s__law_rules) (defScope s__law_rules) .none kV__law_rules dc__law_rules pm__law_rules an__law_rules cd__law_rules ct__law_rules), sl__law_rules⟩) (c__law_rules : PySem.W.codeIn K cd__law_rules "_law_rules" = true) (k__law_rules : PySem.W.keepIn K (.ref f__law_rules) = true)
    (a__law_told_of : PySem.W.nsIn K mainGlobals "_law_told_of" = some (some (.ref f__law_told_of)))
    (l__law_told_of : K.lookup f__law_told_of = some ⟨oc__law_told_of, od__law_told_of, .func (PySem.W.fnOf "_law_told_of" "_law_told_of" (defArgs s__law_told_of) (defBody s__law_told_of) (defScope s__law_told_of) .none kV__law_told_of dc__law_told_of pm__law_told_of an__law_told_of cd__law_told_of ct__law_told_of), sl__law_told_of⟩) (c__law_told_of : PySem.W.codeIn K cd__law_told_of "_law_told_of" = true) (k__law_told_of : PySem.W.keepIn K (.ref f__law_told_of) = true)
    (a__law_error_of : PySem.W.nsIn K mainGlobals "_law_error_of" = some (some (.ref f__law_error_of)))
    (l__law_error_of : K.lookup f__law_error_of = some ⟨oc__law_error_of, od__law_error_of, .func (PySem.W.fnOf "_law_error_of" "_law_error_of" (defArgs s__law_error_of) (defBody s__law_error_of) (defScope s__law_error_of) .none kV__law_error_of dc__law_error_of pm__law_error_of an__law_error_of cd__law_error_of ct__law_error_of), sl__law_error_of⟩) (c__law_error_of : PySem.W.codeIn K cd__law_error_of "_law_error_of" = true) (k__law_error_of : PySem.W.keepIn K (.ref f__law_error_of) = true)
    (a_law : PySem.W.nsIn K mainGlobals "law" = some (some (.ref f_law)))
    (l_law : K.lookup f_law = some ⟨oc_law, od_law, .func (PySem.W.fnOf "law" "law" (defArgs s_law) (defBody s_law) (defScope s_law) .none kV_law dc_law pm_law an_law (.ref cda_law) ct_law), sl_law⟩) (c_law : PySem.W.codeIn K (.ref cda_law) "law" = true) (k_law : PySem.W.keepIn K (.ref f_law) = true)
    {vs_law : Array Value} (lc_law : K.lookup cda_law = some ⟨cl_law, cdd_law, .fields vs_law, csl_law⟩) (tp_law : (vs_law[11]? : Option Value) = some (.ref P_law))
    (z_isinstance : PySem.W.nsIn K mainGlobals "isinstance" = some none)
    (z_int : PySem.W.nsIn K mainGlobals "int" = some none)
    (z_bool : PySem.W.nsIn K mainGlobals "bool" = some none)
    (z_list : PySem.W.nsIn K mainGlobals "list" = some none)
    (z_tuple : PySem.W.nsIn K mainGlobals "tuple" = some none)
    (z_len : PySem.W.nsIn K mainGlobals "len" = some none)
    (z_abs : PySem.W.nsIn K mainGlobals "abs" = some none)
    (z_range : PySem.W.nsIn K mainGlobals "range" = some none)
    (z_enumerate : PySem.W.nsIn K mainGlobals "enumerate" = some none)
    (z_super : PySem.W.nsIn K mainGlobals "super" = some none)
    (z_ValueError : PySem.W.nsIn K mainGlobals "ValueError" = some none)
    (c_BOUND_PART : PySem.W.nsIn K mainGlobals "BOUND_PART" = some (some (.int 3 t_BOUND_PART)))
    (c_MOST_BOUND : PySem.W.nsIn K mainGlobals "MOST_BOUND" = some (some (.int 8 t_MOST_BOUND)))
    (c_MOST_STEPS : PySem.W.nsIn K mainGlobals "MOST_STEPS" = some (some (.int 8 t_MOST_STEPS)))
    {n_RULE_WORDS_0 : Nat} {tk_RULE_WORDS_0_0 tk_RULE_WORDS_0_1 tk_RULE_WORDS_0_2 : Tok} (l_RULE_WORDS_0 : K.lookup A_RULE_WORDS_0 = some ⟨.type "tuple", od_RULE_WORDS_0, .seq #[.str "through" tk_RULE_WORDS_0_0, .str "back" tk_RULE_WORDS_0_1, .str "around" tk_RULE_WORDS_0_2] n_RULE_WORDS_0, sl_RULE_WORDS_0⟩)
    {n_RULE_WORDS_1 : Nat} {tk_RULE_WORDS_1_0 tk_RULE_WORDS_1_1 : Tok} (l_RULE_WORDS_1 : K.lookup A_RULE_WORDS_1 = some ⟨.type "tuple", od_RULE_WORDS_1, .seq #[.str "keep" tk_RULE_WORDS_1_0, .str "pass" tk_RULE_WORDS_1_1] n_RULE_WORDS_1, sl_RULE_WORDS_1⟩)
    {n_RULE_WORDS_2 : Nat} {tk_RULE_WORDS_2_0 tk_RULE_WORDS_2_1 tk_RULE_WORDS_2_2 : Tok} (l_RULE_WORDS_2 : K.lookup A_RULE_WORDS_2 = some ⟨.type "tuple", od_RULE_WORDS_2, .seq #[.str "used" tk_RULE_WORDS_2_0, .str "came" tk_RULE_WORDS_2_1, .str "rare" tk_RULE_WORDS_2_2] n_RULE_WORDS_2, sl_RULE_WORDS_2⟩)
    (a_RULE_WORDS : PySem.W.nsIn K mainGlobals "RULE_WORDS" = some (some (.ref A_RULE_WORDS)))
    {n_RULE_WORDS : Nat} (l_RULE_WORDS : K.lookup A_RULE_WORDS = some ⟨.type "tuple", od_RULE_WORDS, .seq #[.ref A_RULE_WORDS_0, .ref A_RULE_WORDS_1, .ref A_RULE_WORDS_2] n_RULE_WORDS, sl_RULE_WORDS⟩)
    (a_WRITE_STEPS : PySem.W.nsIn K mainGlobals "WRITE_STEPS" = some (some (.ref A_WRITE_STEPS)))
    {n_WRITE_STEPS : Nat} {tk_WRITE_STEPS_0 tk_WRITE_STEPS_1 tk_WRITE_STEPS_2 tk_WRITE_STEPS_3 tk_WRITE_STEPS_4 tk_WRITE_STEPS_5 : Tok} (l_WRITE_STEPS : K.lookup A_WRITE_STEPS = some ⟨.type "tuple", od_WRITE_STEPS, .seq #[.str "slow" tk_WRITE_STEPS_0, .str "sync slow" tk_WRITE_STEPS_1, .str "fast" tk_WRITE_STEPS_2, .str "sync fast" tk_WRITE_STEPS_3, .str "free" tk_WRITE_STEPS_4, .str "done" tk_WRITE_STEPS_5] n_WRITE_STEPS, sl_WRITE_STEPS⟩)
    (a_CLEAN_STEPS : PySem.W.nsIn K mainGlobals "CLEAN_STEPS" = some (some (.ref A_CLEAN_STEPS)))
    {n_CLEAN_STEPS : Nat} {tk_CLEAN_STEPS_0 tk_CLEAN_STEPS_1 tk_CLEAN_STEPS_2 tk_CLEAN_STEPS_3 : Tok} (l_CLEAN_STEPS : K.lookup A_CLEAN_STEPS = some ⟨.type "tuple", od_CLEAN_STEPS, .seq #[.str "slow" tk_CLEAN_STEPS_0, .str "sync slow" tk_CLEAN_STEPS_1, .str "mark" tk_CLEAN_STEPS_2, .str "sync fast" tk_CLEAN_STEPS_3] n_CLEAN_STEPS, sl_CLEAN_STEPS⟩)
    (a_SYNC_STEPS : PySem.W.nsIn K mainGlobals "SYNC_STEPS" = some (some (.ref A_SYNC_STEPS)))
    {n_SYNC_STEPS : Nat} {tk_SYNC_STEPS_0 tk_SYNC_STEPS_1 : Tok} (l_SYNC_STEPS : K.lookup A_SYNC_STEPS = some ⟨.type "tuple", od_SYNC_STEPS, .seq #[.str "sync slow" tk_SYNC_STEPS_0, .str "sync fast" tk_SYNC_STEPS_1] n_SYNC_STEPS, sl_SYNC_STEPS⟩)
    {file : Str}
    (third : PySem.W.nsIn K cStatics "thirdparty.any" = some none)
    (aC_InvalidSize : PySem.W.nsIn K mainGlobals "InvalidSize" = some (some (.ref C_InvalidSize)))
    (ic_InvalidSize : PySem.W.isClsIn K C_InvalidSize = true)
    (ty_InvalidSize : PySem.W.typeIn K (.ref C_InvalidSize) = some (.type "type"))
    (aC_InvalidCell : PySem.W.nsIn K mainGlobals "InvalidCell" = some (some (.ref C_InvalidCell)))
    (ic_InvalidCell : PySem.W.isClsIn K C_InvalidCell = true)
    (ty_InvalidCell : PySem.W.typeIn K (.ref C_InvalidCell) = some (.type "type"))
    (aC_InvalidKept : PySem.W.nsIn K mainGlobals "InvalidKept" = some (some (.ref C_InvalidKept)))
    (ic_InvalidKept : PySem.W.isClsIn K C_InvalidKept = true)
    (ty_InvalidKept : PySem.W.typeIn K (.ref C_InvalidKept) = some (.type "type"))
    (aC_InvalidBlock : PySem.W.nsIn K mainGlobals "InvalidBlock" = some (some (.ref C_InvalidBlock)))
    (ic_InvalidBlock : PySem.W.isClsIn K C_InvalidBlock = true)
    (ty_InvalidBlock : PySem.W.typeIn K (.ref C_InvalidBlock) = some (.type "type"))
    (aC_InvalidValue : PySem.W.nsIn K mainGlobals "InvalidValue" = some (some (.ref C_InvalidValue)))
    (ic_InvalidValue : PySem.W.isClsIn K C_InvalidValue = true)
    (ty_InvalidValue : PySem.W.typeIn K (.ref C_InvalidValue) = some (.type "type"))
    (aC_InvalidCount : PySem.W.nsIn K mainGlobals "InvalidCount" = some (some (.ref C_InvalidCount)))
    (ic_InvalidCount : PySem.W.isClsIn K C_InvalidCount = true)
    (ty_InvalidCount : PySem.W.typeIn K (.ref C_InvalidCount) = some (.type "type"))
    (aC_InvalidSlot : PySem.W.nsIn K mainGlobals "InvalidSlot" = some (some (.ref C_InvalidSlot)))
    (ic_InvalidSlot : PySem.W.isClsIn K C_InvalidSlot = true)
    (ty_InvalidSlot : PySem.W.typeIn K (.ref C_InvalidSlot) = some (.type "type"))
    (aC_InvalidWord : PySem.W.nsIn K mainGlobals "InvalidWord" = some (some (.ref C_InvalidWord)))
    (ic_InvalidWord : PySem.W.isClsIn K C_InvalidWord = true)
    (ty_InvalidWord : PySem.W.typeIn K (.ref C_InvalidWord) = some (.type "type"))
    (aC_InvalidStory : PySem.W.nsIn K mainGlobals "InvalidStory" = some (some (.ref C_InvalidStory)))
    (ic_InvalidStory : PySem.W.isClsIn K C_InvalidStory = true)
    (ty_InvalidStory : PySem.W.typeIn K (.ref C_InvalidStory) = some (.type "type"))
    (aC_PowerOff : PySem.W.nsIn K mainGlobals "PowerOff" = some (some (.ref C_PowerOff)))
    (ic_PowerOff : PySem.W.isClsIn K C_PowerOff = true)
    (ty_PowerOff : PySem.W.typeIn K (.ref C_PowerOff) = some (.type "type"))
    (aC_PowerOn : PySem.W.nsIn K mainGlobals "PowerOn" = some (some (.ref C_PowerOn)))
    (ic_PowerOn : PySem.W.isClsIn K C_PowerOn = true)
    (ty_PowerOn : PySem.W.typeIn K (.ref C_PowerOn) = some (.type "type"))
    (aC_NoFastDisk : PySem.W.nsIn K mainGlobals "NoFastDisk" = some (some (.ref C_NoFastDisk)))
    (ic_NoFastDisk : PySem.W.isClsIn K C_NoFastDisk = true)
    (ty_NoFastDisk : PySem.W.typeIn K (.ref C_NoFastDisk) = some (.type "type"))
    (aC_HasFastDisk : PySem.W.nsIn K mainGlobals "HasFastDisk" = some (some (.ref C_HasFastDisk)))
    (ic_HasFastDisk : PySem.W.isClsIn K C_HasFastDisk = true)
    (ty_HasFastDisk : PySem.W.typeIn K (.ref C_HasFastDisk) = some (.type "type"))
    (aC_Unsettled : PySem.W.nsIn K mainGlobals "Unsettled" = some (some (.ref C_Unsettled)))
    (ic_Unsettled : PySem.W.isClsIn K C_Unsettled = true)
    (ty_Unsettled : PySem.W.typeIn K (.ref C_Unsettled) = some (.type "type"))
    (aC_Contradiction : PySem.W.nsIn K mainGlobals "Contradiction" = some (some (.ref C_Contradiction)))
    (ic_Contradiction : PySem.W.isClsIn K C_Contradiction = true)
    (ty_Contradiction : PySem.W.typeIn K (.ref C_Contradiction) = some (.type "type"))
    (aC_InvalidName : PySem.W.nsIn K mainGlobals "InvalidName" = some (some (.ref C_InvalidName)))
    (ic_InvalidName : PySem.W.isClsIn K C_InvalidName = true)
    (ty_InvalidName : PySem.W.typeIn K (.ref C_InvalidName) = some (.type "type"))
    (aC_UnknownName : PySem.W.nsIn K mainGlobals "UnknownName" = some (some (.ref C_UnknownName)))
    (ic_UnknownName : PySem.W.isClsIn K C_UnknownName = true)
    (ty_UnknownName : PySem.W.typeIn K (.ref C_UnknownName) = some (.type "type"))
    (aC_InvalidRules : PySem.W.nsIn K mainGlobals "InvalidRules" = some (some (.ref C_InvalidRules)))
    (ic_InvalidRules : PySem.W.isClsIn K C_InvalidRules = true)
    (ty_InvalidRules : PySem.W.typeIn K (.ref C_InvalidRules) = some (.type "type"))
    (aC_InvalidRecipes : PySem.W.nsIn K mainGlobals "InvalidRecipes" = some (some (.ref C_InvalidRecipes)))
    (ic_InvalidRecipes : PySem.W.isClsIn K C_InvalidRecipes = true)
    (ty_InvalidRecipes : PySem.W.typeIn K (.ref C_InvalidRecipes) = some (.type "type"))
    (aC_InvalidRequests : PySem.W.nsIn K mainGlobals "InvalidRequests" = some (some (.ref C_InvalidRequests)))
    (ic_InvalidRequests : PySem.W.isClsIn K C_InvalidRequests = true)
    (ty_InvalidRequests : PySem.W.typeIn K (.ref C_InvalidRequests) = some (.type "type"))
    (aC_InvalidPrices : PySem.W.nsIn K mainGlobals "InvalidPrices" = some (some (.ref C_InvalidPrices)))
    (ic_InvalidPrices : PySem.W.isClsIn K C_InvalidPrices = true)
    (ty_InvalidPrices : PySem.W.typeIn K (.ref C_InvalidPrices) = some (.type "type"))
    (aC_InvalidPlan : PySem.W.nsIn K mainGlobals "InvalidPlan" = some (some (.ref C_InvalidPlan)))
    (ic_InvalidPlan : PySem.W.isClsIn K C_InvalidPlan = true)
    (ty_InvalidPlan : PySem.W.typeIn K (.ref C_InvalidPlan) = some (.type "type"))
    (aC_PowerFailed : PySem.W.nsIn K mainGlobals "PowerFailed" = some (some (.ref C_PowerFailed)))
    (ic_PowerFailed : PySem.W.isClsIn K C_PowerFailed = true)
    (ty_PowerFailed : PySem.W.typeIn K (.ref C_PowerFailed) = some (.type "type"))
    (aC_InvalidOperation : PySem.W.nsIn K mainGlobals "InvalidOperation" = some (some (.ref C_InvalidOperation)))
    (ic_InvalidOperation : PySem.W.isClsIn K C_InvalidOperation = true)
    (ty_InvalidOperation : PySem.W.typeIn K (.ref C_InvalidOperation) = some (.type "type"))
    (aC_NotationError : PySem.W.nsIn K mainGlobals "NotationError" = some (some (.ref C_NotationError)))
    (ic_NotationError : PySem.W.isClsIn K C_NotationError = true)
    (ty_NotationError : PySem.W.typeIn K (.ref C_NotationError) = some (.type "type"))
    (aC_DecodeError : PySem.W.nsIn K mainGlobals "DecodeError" = some (some (.ref C_DecodeError)))
    (ic_DecodeError : PySem.W.isClsIn K C_DecodeError = true)
    (ty_DecodeError : PySem.W.typeIn K (.ref C_DecodeError) = some (.type "type"))
    (aC_PairError : PySem.W.nsIn K mainGlobals "PairError" = some (some (.ref C_PairError)))
    (ic_PairError : PySem.W.isClsIn K C_PairError = true)
    (ty_PairError : PySem.W.typeIn K (.ref C_PairError) = some (.type "type"))
    (pb : PySem.W.subIn K (.ref C_PairError) (.type "BaseException") = some true)
    (ph : PySem.W.hasDictIn K C_PairError = true)
    (xn : PySem.W.specialIn K (.builtin "object.__class__") "__get__" = some (some (.builtin "getset_descriptor.__get__")))
    (xt : PySem.W.takesIn K (.builtin "object.__class__") = some true)
    (sb_InvalidRules_InvalidSize : PySem.W.subIn K (.ref C_InvalidRules) (.ref C_InvalidSize) = some false)
    (sb_InvalidRules_InvalidCell : PySem.W.subIn K (.ref C_InvalidRules) (.ref C_InvalidCell) = some false)
    (sb_InvalidRules_InvalidKept : PySem.W.subIn K (.ref C_InvalidRules) (.ref C_InvalidKept) = some false)
    (sb_InvalidRules_InvalidBlock : PySem.W.subIn K (.ref C_InvalidRules) (.ref C_InvalidBlock) = some false)
    (sb_InvalidRules_InvalidValue : PySem.W.subIn K (.ref C_InvalidRules) (.ref C_InvalidValue) = some false)
    (sb_InvalidRules_InvalidCount : PySem.W.subIn K (.ref C_InvalidRules) (.ref C_InvalidCount) = some false)
    (sb_InvalidRules_InvalidSlot : PySem.W.subIn K (.ref C_InvalidRules) (.ref C_InvalidSlot) = some false)
    (sb_InvalidRules_InvalidWord : PySem.W.subIn K (.ref C_InvalidRules) (.ref C_InvalidWord) = some false)
    (sb_InvalidRules_InvalidStory : PySem.W.subIn K (.ref C_InvalidRules) (.ref C_InvalidStory) = some false)
    (sb_InvalidRules_PowerOff : PySem.W.subIn K (.ref C_InvalidRules) (.ref C_PowerOff) = some false)
    (sb_InvalidRules_PowerOn : PySem.W.subIn K (.ref C_InvalidRules) (.ref C_PowerOn) = some false)
    (sb_InvalidRules_NoFastDisk : PySem.W.subIn K (.ref C_InvalidRules) (.ref C_NoFastDisk) = some false)
    (sb_InvalidRules_HasFastDisk : PySem.W.subIn K (.ref C_InvalidRules) (.ref C_HasFastDisk) = some false)
    (sb_InvalidRules_Unsettled : PySem.W.subIn K (.ref C_InvalidRules) (.ref C_Unsettled) = some false)
    (sb_InvalidRules_Contradiction : PySem.W.subIn K (.ref C_InvalidRules) (.ref C_Contradiction) = some false)
    (sb_InvalidRules_InvalidName : PySem.W.subIn K (.ref C_InvalidRules) (.ref C_InvalidName) = some false)
    (sb_InvalidRules_UnknownName : PySem.W.subIn K (.ref C_InvalidRules) (.ref C_UnknownName) = some false)
    (sb_InvalidRules_InvalidRules : PySem.W.subIn K (.ref C_InvalidRules) (.ref C_InvalidRules) = some true)
    (sb_InvalidRules_InvalidRecipes : PySem.W.subIn K (.ref C_InvalidRules) (.ref C_InvalidRecipes) = some false)
    (sb_InvalidRules_InvalidRequests : PySem.W.subIn K (.ref C_InvalidRules) (.ref C_InvalidRequests) = some false)
    (sb_InvalidRules_InvalidPrices : PySem.W.subIn K (.ref C_InvalidRules) (.ref C_InvalidPrices) = some false)
    (sb_InvalidRules_InvalidPlan : PySem.W.subIn K (.ref C_InvalidRules) (.ref C_InvalidPlan) = some false)
    (sb_InvalidRules_PowerFailed : PySem.W.subIn K (.ref C_InvalidRules) (.ref C_PowerFailed) = some false)
    (sb_InvalidRules_InvalidOperation : PySem.W.subIn K (.ref C_InvalidRules) (.ref C_InvalidOperation) = some false)
    (sb_InvalidRules_NotationError : PySem.W.subIn K (.ref C_InvalidRules) (.ref C_NotationError) = some false)
    (sb_InvalidRules_DecodeError : PySem.W.subIn K (.ref C_InvalidRules) (.ref C_DecodeError) = some false)
    (sb_InvalidRules_PairError : PySem.W.subIn K (.ref C_InvalidRules) (.ref C_PairError) = some true)
    (vb_InvalidRules : PySem.W.subIn K (.ref C_InvalidRules) (.type "ValueError") = some true)
    (xg_InvalidRules : PySem.W.findIn K (.ref C_InvalidRules) "__getattribute__" = some (some (.builtin "BaseException.__getattribute__")))
    (xk_InvalidRules : PySem.W.findIn K (.ref C_InvalidRules) "__getattr__" = some none)
    (xs_InvalidRules : PySem.W.subIn K (.ref C_InvalidRules) (.type "BaseException") = some true)
    (xd_InvalidRules : PySem.W.hasDictIn K C_InvalidRules = true)
    (xa_InvalidRules : PySem.W.findIn K (.ref C_InvalidRules) "__class__" = some (some (.builtin "object.__class__")))
    (xm_InvalidRules : PySem.W.mroIn K C_InvalidRules (.type "object") = some true)
    (kp_InvalidRules : PySem.W.keepIn K (.ref C_InvalidRules) = true)
    {vs_InvalidRules___init__ : Array Value} {tf_InvalidRules___init__ : Tok}
    (iC_InvalidRules : PySem.W.findIn K (.ref C_InvalidRules) "__init__" = some (some (.ref f_InvalidRules___init__)))
    (l_InvalidRules___init__ : K.lookup f_InvalidRules___init__ = some ⟨oc_InvalidRules___init__, od_InvalidRules___init__, .func (PySem.W.ksFn "__init__" "InvalidRules.__init__" (defArgs s_InvalidRules___init__) (defBody s_InvalidRules___init__) (defScope s_InvalidRules___init__) .none kV_InvalidRules___init__ dc_InvalidRules___init__ pm_InvalidRules___init__ an_InvalidRules___init__ (.ref cda_InvalidRules___init__) ct_InvalidRules___init__ cc_InvalidRules___init__), sl_InvalidRules___init__⟩)
    (c_InvalidRules___init__ : PySem.W.codeIn K (.ref cda_InvalidRules___init__) "InvalidRules.__init__" = true)
    (k_InvalidRules___init__ : PySem.W.keepIn K (.ref f_InvalidRules___init__) = true)
    (lc_InvalidRules___init__ : K.lookup cda_InvalidRules___init__ = some ⟨cl_InvalidRules___init__, cdd_InvalidRules___init__, .fields vs_InvalidRules___init__, csl_InvalidRules___init__⟩)
    (fi_InvalidRules___init__ : vs_InvalidRules___init__[2]? = some (.str file tf_InvalidRules___init__))
    (lcc_InvalidRules___init__ : K.lookup cc_InvalidRules___init__ = some ⟨ec_InvalidRules___init__, ed_InvalidRules___init__, .cell (some (.ref C_InvalidRules)), es_InvalidRules___init__⟩)
    {nm_InvalidRules q_InvalidRules : Str} {N_InvalidRules : Addr} {bs_InvalidRules bm_InvalidRules : List Value} {sn_InvalidRules : List Str} {sbs_InvalidRules : List Value} {ab_InvalidRules : Bool} {col_InvalidRules : Option Bool} {dd_InvalidRules : Option Addr} {k0_InvalidRules k1_InvalidRules k2_InvalidRules k3_InvalidRules k5_InvalidRules : Option Value}
    (ob_InvalidRules : K.lookup C_InvalidRules = some (excClassObj nm_InvalidRules q_InvalidRules C_InvalidRules N_InvalidRules bs_InvalidRules bm_InvalidRules true sn_InvalidRules sbs_InvalidRules ab_InvalidRules col_InvalidRules dd_InvalidRules k0_InvalidRules k1_InvalidRules k2_InvalidRules k3_InvalidRules k5_InvalidRules "ValueError.__new__"))
    (rv_InvalidRules : PySem.HandSPX.refsVE bm_InvalidRules = true)
    (sa_InvalidRules : PySem.W.findIn K (.ref C_InvalidRules) "__setattr__" = some (some (.builtin "object.__setattr__")))
    (tI_InvalidRules : PySem.W.typeIn K (.ref f_InvalidRules___init__) = some (.type "function"))
    (mr_InvalidRules : PySem.W.mroIn K C_InvalidRules (.ref C_InvalidRules) = some true)
    (su_InvalidRules : PySem.W.ks_superIn K C_InvalidRules C_InvalidRules "__init__" = some (some (.builtin "ValueError.__init__")))
    (no_InvalidRules_part : PySem.W.findIn K (.ref C_InvalidRules) "part" = some none)
    (sb_InvalidRecipes_InvalidSize : PySem.W.subIn K (.ref C_InvalidRecipes) (.ref C_InvalidSize) = some false)
    (sb_InvalidRecipes_InvalidCell : PySem.W.subIn K (.ref C_InvalidRecipes) (.ref C_InvalidCell) = some false)
    (sb_InvalidRecipes_InvalidKept : PySem.W.subIn K (.ref C_InvalidRecipes) (.ref C_InvalidKept) = some false)
    (sb_InvalidRecipes_InvalidBlock : PySem.W.subIn K (.ref C_InvalidRecipes) (.ref C_InvalidBlock) = some false)
    (sb_InvalidRecipes_InvalidValue : PySem.W.subIn K (.ref C_InvalidRecipes) (.ref C_InvalidValue) = some false)
    (sb_InvalidRecipes_InvalidCount : PySem.W.subIn K (.ref C_InvalidRecipes) (.ref C_InvalidCount) = some false)
    (sb_InvalidRecipes_InvalidSlot : PySem.W.subIn K (.ref C_InvalidRecipes) (.ref C_InvalidSlot) = some false)
    (sb_InvalidRecipes_InvalidWord : PySem.W.subIn K (.ref C_InvalidRecipes) (.ref C_InvalidWord) = some false)
    (sb_InvalidRecipes_InvalidStory : PySem.W.subIn K (.ref C_InvalidRecipes) (.ref C_InvalidStory) = some false)
    (sb_InvalidRecipes_PowerOff : PySem.W.subIn K (.ref C_InvalidRecipes) (.ref C_PowerOff) = some false)
    (sb_InvalidRecipes_PowerOn : PySem.W.subIn K (.ref C_InvalidRecipes) (.ref C_PowerOn) = some false)
    (sb_InvalidRecipes_NoFastDisk : PySem.W.subIn K (.ref C_InvalidRecipes) (.ref C_NoFastDisk) = some false)
    (sb_InvalidRecipes_HasFastDisk : PySem.W.subIn K (.ref C_InvalidRecipes) (.ref C_HasFastDisk) = some false)
    (sb_InvalidRecipes_Unsettled : PySem.W.subIn K (.ref C_InvalidRecipes) (.ref C_Unsettled) = some false)
    (sb_InvalidRecipes_Contradiction : PySem.W.subIn K (.ref C_InvalidRecipes) (.ref C_Contradiction) = some false)
    (sb_InvalidRecipes_InvalidName : PySem.W.subIn K (.ref C_InvalidRecipes) (.ref C_InvalidName) = some false)
    (sb_InvalidRecipes_UnknownName : PySem.W.subIn K (.ref C_InvalidRecipes) (.ref C_UnknownName) = some false)
    (sb_InvalidRecipes_InvalidRules : PySem.W.subIn K (.ref C_InvalidRecipes) (.ref C_InvalidRules) = some false)
    (sb_InvalidRecipes_InvalidRecipes : PySem.W.subIn K (.ref C_InvalidRecipes) (.ref C_InvalidRecipes) = some true)
    (sb_InvalidRecipes_InvalidRequests : PySem.W.subIn K (.ref C_InvalidRecipes) (.ref C_InvalidRequests) = some false)
    (sb_InvalidRecipes_InvalidPrices : PySem.W.subIn K (.ref C_InvalidRecipes) (.ref C_InvalidPrices) = some false)
    (sb_InvalidRecipes_InvalidPlan : PySem.W.subIn K (.ref C_InvalidRecipes) (.ref C_InvalidPlan) = some false)
    (sb_InvalidRecipes_PowerFailed : PySem.W.subIn K (.ref C_InvalidRecipes) (.ref C_PowerFailed) = some false)
    (sb_InvalidRecipes_InvalidOperation : PySem.W.subIn K (.ref C_InvalidRecipes) (.ref C_InvalidOperation) = some false)
    (sb_InvalidRecipes_NotationError : PySem.W.subIn K (.ref C_InvalidRecipes) (.ref C_NotationError) = some false)
    (sb_InvalidRecipes_DecodeError : PySem.W.subIn K (.ref C_InvalidRecipes) (.ref C_DecodeError) = some false)
    (sb_InvalidRecipes_PairError : PySem.W.subIn K (.ref C_InvalidRecipes) (.ref C_PairError) = some true)
    (vb_InvalidRecipes : PySem.W.subIn K (.ref C_InvalidRecipes) (.type "ValueError") = some true)
    (xg_InvalidRecipes : PySem.W.findIn K (.ref C_InvalidRecipes) "__getattribute__" = some (some (.builtin "BaseException.__getattribute__")))
    (xk_InvalidRecipes : PySem.W.findIn K (.ref C_InvalidRecipes) "__getattr__" = some none)
    (xs_InvalidRecipes : PySem.W.subIn K (.ref C_InvalidRecipes) (.type "BaseException") = some true)
    (xd_InvalidRecipes : PySem.W.hasDictIn K C_InvalidRecipes = true)
    (xa_InvalidRecipes : PySem.W.findIn K (.ref C_InvalidRecipes) "__class__" = some (some (.builtin "object.__class__")))
    (xm_InvalidRecipes : PySem.W.mroIn K C_InvalidRecipes (.type "object") = some true)
    (kp_InvalidRecipes : PySem.W.keepIn K (.ref C_InvalidRecipes) = true)
    {vs_InvalidRecipes___init__ : Array Value} {tf_InvalidRecipes___init__ : Tok}
    (iC_InvalidRecipes : PySem.W.findIn K (.ref C_InvalidRecipes) "__init__" = some (some (.ref f_InvalidRecipes___init__)))
    (l_InvalidRecipes___init__ : K.lookup f_InvalidRecipes___init__ = some ⟨oc_InvalidRecipes___init__, od_InvalidRecipes___init__, .func (PySem.W.ksFn "__init__" "InvalidRecipes.__init__" (defArgs s_InvalidRecipes___init__) (defBody s_InvalidRecipes___init__) (defScope s_InvalidRecipes___init__) .none kV_InvalidRecipes___init__ dc_InvalidRecipes___init__ pm_InvalidRecipes___init__ an_InvalidRecipes___init__ (.ref cda_InvalidRecipes___init__) ct_InvalidRecipes___init__ cc_InvalidRecipes___init__), sl_InvalidRecipes___init__⟩)
    (c_InvalidRecipes___init__ : PySem.W.codeIn K (.ref cda_InvalidRecipes___init__) "InvalidRecipes.__init__" = true)
    (k_InvalidRecipes___init__ : PySem.W.keepIn K (.ref f_InvalidRecipes___init__) = true)
    (lc_InvalidRecipes___init__ : K.lookup cda_InvalidRecipes___init__ = some ⟨cl_InvalidRecipes___init__, cdd_InvalidRecipes___init__, .fields vs_InvalidRecipes___init__, csl_InvalidRecipes___init__⟩)
    (fi_InvalidRecipes___init__ : vs_InvalidRecipes___init__[2]? = some (.str file tf_InvalidRecipes___init__))
    (lcc_InvalidRecipes___init__ : K.lookup cc_InvalidRecipes___init__ = some ⟨ec_InvalidRecipes___init__, ed_InvalidRecipes___init__, .cell (some (.ref C_InvalidRecipes)), es_InvalidRecipes___init__⟩)
    {nm_InvalidRecipes q_InvalidRecipes : Str} {N_InvalidRecipes : Addr} {bs_InvalidRecipes bm_InvalidRecipes : List Value} {sn_InvalidRecipes : List Str} {sbs_InvalidRecipes : List Value} {ab_InvalidRecipes : Bool} {col_InvalidRecipes : Option Bool} {dd_InvalidRecipes : Option Addr} {k0_InvalidRecipes k1_InvalidRecipes k2_InvalidRecipes k3_InvalidRecipes k5_InvalidRecipes : Option Value}
    (ob_InvalidRecipes : K.lookup C_InvalidRecipes = some (excClassObj nm_InvalidRecipes q_InvalidRecipes C_InvalidRecipes N_InvalidRecipes bs_InvalidRecipes bm_InvalidRecipes true sn_InvalidRecipes sbs_InvalidRecipes ab_InvalidRecipes col_InvalidRecipes dd_InvalidRecipes k0_InvalidRecipes k1_InvalidRecipes k2_InvalidRecipes k3_InvalidRecipes k5_InvalidRecipes "ValueError.__new__"))
    (rv_InvalidRecipes : PySem.HandSPX.refsVE bm_InvalidRecipes = true)
    (sa_InvalidRecipes : PySem.W.findIn K (.ref C_InvalidRecipes) "__setattr__" = some (some (.builtin "object.__setattr__")))
    (tI_InvalidRecipes : PySem.W.typeIn K (.ref f_InvalidRecipes___init__) = some (.type "function"))
    (mr_InvalidRecipes : PySem.W.mroIn K C_InvalidRecipes (.ref C_InvalidRecipes) = some true)
    (su_InvalidRecipes : PySem.W.ks_superIn K C_InvalidRecipes C_InvalidRecipes "__init__" = some (some (.builtin "ValueError.__init__")))
    (no_InvalidRecipes_part : PySem.W.findIn K (.ref C_InvalidRecipes) "part" = some none)
    (no_InvalidRecipes_place : PySem.W.findIn K (.ref C_InvalidRecipes) "place" = some none)
    (fl : ((l.prog.main.file : Str) == file) = true) (stop : (l.prog.main.scope.names.lookup ("super" : Str)).isSome = false)
    : LawAtS l w K C8.CX0 12 63 "_law_script" mg fa h := by
  have G := TT.g
  have e := hfa.symm.trans (mg_of X G a_law)
  cases e
  obtain ⟨T, hT⟩ : ∃ T : Gx K mg, T.file = file := ⟨{
    C_Rules := C_Rules, cl_Rules := ⟨pg_Rules, hd_Rules, po_Rules, sa_Rules⟩, gC_Rules := PySem.W.mg_of X G aC_Rules,
    C_Recipes := C_Recipes, cl_Recipes := ⟨pg_Recipes, hd_Recipes, po_Recipes, sa_Recipes⟩, gC_Recipes := PySem.W.mg_of X G aC_Recipes,
    n_Recipes__through := n_Recipes__through,
    n_Recipes__back := n_Recipes__back,
    n_Recipes__around := n_Recipes__around,
    n_Recipes__clean := n_Recipes__clean,
    f_is_number := f_is_number, fd_is_number := _,
    F_is_number := fun_mk (st := s_is_number) l_is_number c_is_number k_is_number,
    g_is_number := PySem.W.mg_of X G a_is_number,
    f_is_number_from := f_is_number_from, fd_is_number_from := _,
    F_is_number_from := fun_mk (st := s_is_number_from) l_is_number_from c_is_number_from k_is_number_from,
    g_is_number_from := PySem.W.mg_of X G a_is_number_from,
    f_Rules___init__ := f_Rules___init__, fd_Rules___init__ := _,
    F_Rules___init__ := fun_mk (st := s_Rules___init__) l_Rules___init__ c_Rules___init__ k_Rules___init__,
    M_Rules___init__ := ⟨mk_Rules___init__, a_Rules___init__, i_Rules___init__, kc_Rules___init__⟩,
    f_Recipes___init__ := f_Recipes___init__, fd_Recipes___init__ := _,
    F_Recipes___init__ := fun_mk (st := s_Recipes___init__) l_Recipes___init__ c_Recipes___init__ k_Recipes___init__,
    M_Recipes___init__ := ⟨mk_Recipes___init__, a_Recipes___init__, i_Recipes___init__, kc_Recipes___init__⟩,
    f_Recipes_through := f_Recipes_through, fd_Recipes_through := _,
    F_Recipes_through := fun_mk (st := s_Recipes_through) l_Recipes_through c_Recipes_through k_Recipes_through,
    p_Recipes_through := p_Recipes_through, P_Recipes_through := ⟨a_Recipes_through, ge_Recipes_through, tk_Recipes_through, ⟨_, rc_Recipes_through⟩⟩,
    f_Recipes_back := f_Recipes_back, fd_Recipes_back := _,
    F_Recipes_back := fun_mk (st := s_Recipes_back) l_Recipes_back c_Recipes_back k_Recipes_back,
    p_Recipes_back := p_Recipes_back, P_Recipes_back := ⟨a_Recipes_back, ge_Recipes_back, tk_Recipes_back, ⟨_, rc_Recipes_back⟩⟩,
    f_Recipes_around := f_Recipes_around, fd_Recipes_around := _,
    F_Recipes_around := fun_mk (st := s_Recipes_around) l_Recipes_around c_Recipes_around k_Recipes_around,
    p_Recipes_around := p_Recipes_around, P_Recipes_around := ⟨a_Recipes_around, ge_Recipes_around, tk_Recipes_around, ⟨_, rc_Recipes_around⟩⟩,
    f_Recipes_clean := f_Recipes_clean, fd_Recipes_clean := _,
    F_Recipes_clean := fun_mk (st := s_Recipes_clean) l_Recipes_clean c_Recipes_clean k_Recipes_clean,
    p_Recipes_clean := p_Recipes_clean, P_Recipes_clean := ⟨a_Recipes_clean, ge_Recipes_clean, tk_Recipes_clean, ⟨_, rc_Recipes_clean⟩⟩,
    f_Recipes_safe := f_Recipes_safe, fd_Recipes_safe := _,
    F_Recipes_safe := fun_mk (st := s_Recipes_safe) l_Recipes_safe c_Recipes_safe k_Recipes_safe,
    p_Recipes_safe := p_Recipes_safe, Y_Recipes_safe := ⟨a_Recipes_safe, ⟨_, rc_Recipes_safe⟩, fi_Recipes_safe⟩, R_Recipes_safe := ⟨rd_Recipes_safe, sg_Recipes_safe⟩,
    f__invalid_place := f__invalid_place, fd__invalid_place := _,
    F__invalid_place := fun_mk (st := s__invalid_place) l__invalid_place c__invalid_place k__invalid_place,
    g__invalid_place := PySem.W.mg_of X G a__invalid_place,
    f__law_random := f__law_random, fd__law_random := _,
    F__law_random := fun_mk (st := s__law_random) l__law_random c__law_random k__law_random,
    g__law_random := PySem.W.mg_of X G a__law_random,
    f__law_below := f__law_below, fd__law_below := _,
    F__law_below := fun_mk (st := s__law_below) l__law_below c__law_below k__law_below,
    g__law_below := PySem.W.mg_of X G a__law_below,
    f__law_rules := f__law_rules, fd__law_rules := _,
    F__law_rules := fun_mk (st := s__law_rules) l__law_rules c__law_rules k__law_rules,
    g__law_rules := PySem.W.mg_of X G a__law_rules,
    f__law_told_of := f__law_told_of, fd__law_told_of := _,
    F__law_told_of := fun_mk (st := s__law_told_of) l__law_told_of c__law_told_of k__law_told_of,
    g__law_told_of := PySem.W.mg_of X G a__law_told_of,
    f__law_error_of := f__law_error_of, fd__law_error_of := _,
    F__law_error_of := fun_mk (st := s__law_error_of) l__law_error_of c__law_error_of k__law_error_of,
    g__law_error_of := PySem.W.mg_of X G a__law_error_of,
    z_isinstance := PySem.W.mg_none_of X G z_isinstance,
    z_int := PySem.W.mg_none_of X G z_int,
    z_bool := PySem.W.mg_none_of X G z_bool,
    z_list := PySem.W.mg_none_of X G z_list,
    z_tuple := PySem.W.mg_none_of X G z_tuple,
    z_len := PySem.W.mg_none_of X G z_len,
    z_abs := PySem.W.mg_none_of X G z_abs,
    z_range := PySem.W.mg_none_of X G z_range,
    z_enumerate := PySem.W.mg_none_of X G z_enumerate,
    z_super := PySem.W.mg_none_of X G z_super,
    z_ValueError := PySem.W.mg_none_of X G z_ValueError,
    t_BOUND_PART := t_BOUND_PART, c_BOUND_PART := PySem.W.mg_of X G c_BOUND_PART,
    t_MOST_BOUND := t_MOST_BOUND, c_MOST_BOUND := PySem.W.mg_of X G c_MOST_BOUND,
    t_MOST_STEPS := t_MOST_STEPS, c_MOST_STEPS := PySem.W.mg_of X G c_MOST_STEPS,
    A_RULE_WORDS_0 := A_RULE_WORDS_0, k_RULE_WORDS_0 := TupK.of l_RULE_WORDS_0 (by show 3 ≤ sizeLine; decide) (.cons ⟨_, rfl⟩ (.cons ⟨_, rfl⟩ (.cons ⟨_, rfl⟩ (.nil)))),
    A_RULE_WORDS_1 := A_RULE_WORDS_1, k_RULE_WORDS_1 := TupK.of l_RULE_WORDS_1 (by show 2 ≤ sizeLine; decide) (.cons ⟨_, rfl⟩ (.cons ⟨_, rfl⟩ (.nil))),
    A_RULE_WORDS_2 := A_RULE_WORDS_2, k_RULE_WORDS_2 := TupK.of l_RULE_WORDS_2 (by show 3 ≤ sizeLine; decide) (.cons ⟨_, rfl⟩ (.cons ⟨_, rfl⟩ (.cons ⟨_, rfl⟩ (.nil)))),
    g_RULE_WORDS := PySem.W.mg_of X G a_RULE_WORDS,
    A_RULE_WORDS := A_RULE_WORDS, k_RULE_WORDS := TupK.of l_RULE_WORDS (by show 3 ≤ sizeLine; decide) (.cons rfl (.cons rfl (.cons rfl (.nil)))),
    g_WRITE_STEPS := PySem.W.mg_of X G a_WRITE_STEPS,
    A_WRITE_STEPS := A_WRITE_STEPS, k_WRITE_STEPS := TupK.of l_WRITE_STEPS (by show 6 ≤ sizeLine; decide) (.cons ⟨_, rfl⟩ (.cons ⟨_, rfl⟩ (.cons ⟨_, rfl⟩ (.cons ⟨_, rfl⟩ (.cons ⟨_, rfl⟩ (.cons ⟨_, rfl⟩ (.nil))))))),
    g_CLEAN_STEPS := PySem.W.mg_of X G a_CLEAN_STEPS,
    A_CLEAN_STEPS := A_CLEAN_STEPS, k_CLEAN_STEPS := TupK.of l_CLEAN_STEPS (by show 4 ≤ sizeLine; decide) (.cons ⟨_, rfl⟩ (.cons ⟨_, rfl⟩ (.cons ⟨_, rfl⟩ (.cons ⟨_, rfl⟩ (.nil))))),
    g_SYNC_STEPS := PySem.W.mg_of X G a_SYNC_STEPS,
    A_SYNC_STEPS := A_SYNC_STEPS, k_SYNC_STEPS := TupK.of l_SYNC_STEPS (by show 2 ≤ sizeLine; decide) (.cons ⟨_, rfl⟩ (.cons ⟨_, rfl⟩ (.nil))),
    third := third,
    file := file,
    C_InvalidSize := C_InvalidSize, gC_InvalidSize := PySem.W.mg_of X G aC_InvalidSize,
    ic_InvalidSize := ic_InvalidSize,
    ty_InvalidSize := ty_InvalidSize,
    C_InvalidCell := C_InvalidCell, gC_InvalidCell := PySem.W.mg_of X G aC_InvalidCell,
    ic_InvalidCell := ic_InvalidCell,
    ty_InvalidCell := ty_InvalidCell,
    C_InvalidKept := C_InvalidKept, gC_InvalidKept := PySem.W.mg_of X G aC_InvalidKept,
    ic_InvalidKept := ic_InvalidKept,
    ty_InvalidKept := ty_InvalidKept,
    C_InvalidBlock := C_InvalidBlock, gC_InvalidBlock := PySem.W.mg_of X G aC_InvalidBlock,
    ic_InvalidBlock := ic_InvalidBlock,
    ty_InvalidBlock := ty_InvalidBlock,
    C_InvalidValue := C_InvalidValue, gC_InvalidValue := PySem.W.mg_of X G aC_InvalidValue,
    ic_InvalidValue := ic_InvalidValue,
    ty_InvalidValue := ty_InvalidValue,
    C_InvalidCount := C_InvalidCount, gC_InvalidCount := PySem.W.mg_of X G aC_InvalidCount,
    ic_InvalidCount := ic_InvalidCount,
    ty_InvalidCount := ty_InvalidCount,
    C_InvalidSlot := C_InvalidSlot, gC_InvalidSlot := PySem.W.mg_of X G aC_InvalidSlot,
    ic_InvalidSlot := ic_InvalidSlot,
    ty_InvalidSlot := ty_InvalidSlot,
    C_InvalidWord := C_InvalidWord, gC_InvalidWord := PySem.W.mg_of X G aC_InvalidWord,
    ic_InvalidWord := ic_InvalidWord,
    ty_InvalidWord := ty_InvalidWord,
    C_InvalidStory := C_InvalidStory, gC_InvalidStory := PySem.W.mg_of X G aC_InvalidStory,
    ic_InvalidStory := ic_InvalidStory,
    ty_InvalidStory := ty_InvalidStory,
    C_PowerOff := C_PowerOff, gC_PowerOff := PySem.W.mg_of X G aC_PowerOff,
    ic_PowerOff := ic_PowerOff,
    ty_PowerOff := ty_PowerOff,
    C_PowerOn := C_PowerOn, gC_PowerOn := PySem.W.mg_of X G aC_PowerOn,
    ic_PowerOn := ic_PowerOn,
    ty_PowerOn := ty_PowerOn,
    C_NoFastDisk := C_NoFastDisk, gC_NoFastDisk := PySem.W.mg_of X G aC_NoFastDisk,
    ic_NoFastDisk := ic_NoFastDisk,
    ty_NoFastDisk := ty_NoFastDisk,
    C_HasFastDisk := C_HasFastDisk, gC_HasFastDisk := PySem.W.mg_of X G aC_HasFastDisk,
    ic_HasFastDisk := ic_HasFastDisk,
    ty_HasFastDisk := ty_HasFastDisk,
    C_Unsettled := C_Unsettled, gC_Unsettled := PySem.W.mg_of X G aC_Unsettled,
    ic_Unsettled := ic_Unsettled,
    ty_Unsettled := ty_Unsettled,
    C_Contradiction := C_Contradiction, gC_Contradiction := PySem.W.mg_of X G aC_Contradiction,
    ic_Contradiction := ic_Contradiction,
    ty_Contradiction := ty_Contradiction,
    C_InvalidName := C_InvalidName, gC_InvalidName := PySem.W.mg_of X G aC_InvalidName,
    ic_InvalidName := ic_InvalidName,
    ty_InvalidName := ty_InvalidName,
    C_UnknownName := C_UnknownName, gC_UnknownName := PySem.W.mg_of X G aC_UnknownName,
    ic_UnknownName := ic_UnknownName,
    ty_UnknownName := ty_UnknownName,
    C_InvalidRules := C_InvalidRules, gC_InvalidRules := PySem.W.mg_of X G aC_InvalidRules,
    ic_InvalidRules := ic_InvalidRules,
    ty_InvalidRules := ty_InvalidRules,
    C_InvalidRecipes := C_InvalidRecipes, gC_InvalidRecipes := PySem.W.mg_of X G aC_InvalidRecipes,
    ic_InvalidRecipes := ic_InvalidRecipes,
    ty_InvalidRecipes := ty_InvalidRecipes,
    C_InvalidRequests := C_InvalidRequests, gC_InvalidRequests := PySem.W.mg_of X G aC_InvalidRequests,
    ic_InvalidRequests := ic_InvalidRequests,
    ty_InvalidRequests := ty_InvalidRequests,
    C_InvalidPrices := C_InvalidPrices, gC_InvalidPrices := PySem.W.mg_of X G aC_InvalidPrices,
    ic_InvalidPrices := ic_InvalidPrices,
    ty_InvalidPrices := ty_InvalidPrices,
    C_InvalidPlan := C_InvalidPlan, gC_InvalidPlan := PySem.W.mg_of X G aC_InvalidPlan,
    ic_InvalidPlan := ic_InvalidPlan,
    ty_InvalidPlan := ty_InvalidPlan,
    C_PowerFailed := C_PowerFailed, gC_PowerFailed := PySem.W.mg_of X G aC_PowerFailed,
    ic_PowerFailed := ic_PowerFailed,
    ty_PowerFailed := ty_PowerFailed,
    C_InvalidOperation := C_InvalidOperation, gC_InvalidOperation := PySem.W.mg_of X G aC_InvalidOperation,
    ic_InvalidOperation := ic_InvalidOperation,
    ty_InvalidOperation := ty_InvalidOperation,
    C_NotationError := C_NotationError, gC_NotationError := PySem.W.mg_of X G aC_NotationError,
    ic_NotationError := ic_NotationError,
    ty_NotationError := ty_NotationError,
    C_DecodeError := C_DecodeError, gC_DecodeError := PySem.W.mg_of X G aC_DecodeError,
    ic_DecodeError := ic_DecodeError,
    ty_DecodeError := ty_DecodeError,
    C_PairError := C_PairError, gC_PairError := PySem.W.mg_of X G aC_PairError,
    ic_PairError := ic_PairError,
    ty_PairError := ty_PairError,
    pb := pb,
    ph := ph,
    sb_InvalidRules_InvalidSize := sb_InvalidRules_InvalidSize,
    sb_InvalidRules_InvalidCell := sb_InvalidRules_InvalidCell,
    sb_InvalidRules_InvalidKept := sb_InvalidRules_InvalidKept,
    sb_InvalidRules_InvalidBlock := sb_InvalidRules_InvalidBlock,
    sb_InvalidRules_InvalidValue := sb_InvalidRules_InvalidValue,
    sb_InvalidRules_InvalidCount := sb_InvalidRules_InvalidCount,
    sb_InvalidRules_InvalidSlot := sb_InvalidRules_InvalidSlot,
    sb_InvalidRules_InvalidWord := sb_InvalidRules_InvalidWord,
    sb_InvalidRules_InvalidStory := sb_InvalidRules_InvalidStory,
    sb_InvalidRules_PowerOff := sb_InvalidRules_PowerOff,
    sb_InvalidRules_PowerOn := sb_InvalidRules_PowerOn,
    sb_InvalidRules_NoFastDisk := sb_InvalidRules_NoFastDisk,
    sb_InvalidRules_HasFastDisk := sb_InvalidRules_HasFastDisk,
    sb_InvalidRules_Unsettled := sb_InvalidRules_Unsettled,
    sb_InvalidRules_Contradiction := sb_InvalidRules_Contradiction,
    sb_InvalidRules_InvalidName := sb_InvalidRules_InvalidName,
    sb_InvalidRules_UnknownName := sb_InvalidRules_UnknownName,
    sb_InvalidRules_InvalidRules := sb_InvalidRules_InvalidRules,
    sb_InvalidRules_InvalidRecipes := sb_InvalidRules_InvalidRecipes,
    sb_InvalidRules_InvalidRequests := sb_InvalidRules_InvalidRequests,
    sb_InvalidRules_InvalidPrices := sb_InvalidRules_InvalidPrices,
    sb_InvalidRules_InvalidPlan := sb_InvalidRules_InvalidPlan,
    sb_InvalidRules_PowerFailed := sb_InvalidRules_PowerFailed,
    sb_InvalidRules_InvalidOperation := sb_InvalidRules_InvalidOperation,
    sb_InvalidRules_NotationError := sb_InvalidRules_NotationError,
    sb_InvalidRules_DecodeError := sb_InvalidRules_DecodeError,
    sb_InvalidRules_PairError := sb_InvalidRules_PairError,
    vb_InvalidRules := vb_InvalidRules,
    E_InvalidRules := ⟨xg_InvalidRules, xk_InvalidRules, xs_InvalidRules, xd_InvalidRules, xa_InvalidRules, xn, xt, xm_InvalidRules⟩,
    kp_InvalidRules := kp_InvalidRules,
    iC_InvalidRules := iC_InvalidRules,
    f_InvalidRules___init__ := f_InvalidRules___init__, fd_InvalidRules___init__ := _, cc_InvalidRules___init__ := cc_InvalidRules___init__, S_InvalidRules___init__ := ⟨⟨oc_InvalidRules___init__, od_InvalidRules___init__, kV_InvalidRules___init__, dc_InvalidRules___init__, pm_InvalidRules___init__, an_InvalidRules___init__, cda_InvalidRules___init__, ct_InvalidRules___init__, sl_InvalidRules___init__, cl_InvalidRules___init__, cdd_InvalidRules___init__, vs_InvalidRules___init__, csl_InvalidRules___init__, tf_InvalidRules___init__, ec_InvalidRules___init__, ed_InvalidRules___init__, es_InvalidRules___init__, rfl, l_InvalidRules___init__, c_InvalidRules___init__, lc_InvalidRules___init__, fi_InvalidRules___init__, lcc_InvalidRules___init__⟩, k_InvalidRules___init__⟩,
    O_InvalidRules := ⟨⟨_, _, _, _, _, _, _, _, _, _, _, _, _, _, _, ob_InvalidRules, rv_InvalidRules⟩, sa_InvalidRules, xs_InvalidRules, ty_InvalidRules, kp_InvalidRules⟩,
    tI_InvalidRules := tI_InvalidRules,
    mr_InvalidRules := mr_InvalidRules,
    su_InvalidRules := su_InvalidRules,
    no_InvalidRules_part := no_InvalidRules_part,
    sb_InvalidRecipes_InvalidSize := sb_InvalidRecipes_InvalidSize,
    sb_InvalidRecipes_InvalidCell := sb_InvalidRecipes_InvalidCell,
    sb_InvalidRecipes_InvalidKept := sb_InvalidRecipes_InvalidKept,
    sb_InvalidRecipes_InvalidBlock := sb_InvalidRecipes_InvalidBlock,
    sb_InvalidRecipes_InvalidValue := sb_InvalidRecipes_InvalidValue,
    sb_InvalidRecipes_InvalidCount := sb_InvalidRecipes_InvalidCount,
    sb_InvalidRecipes_InvalidSlot := sb_InvalidRecipes_InvalidSlot,
    sb_InvalidRecipes_InvalidWord := sb_InvalidRecipes_InvalidWord,
    sb_InvalidRecipes_InvalidStory := sb_InvalidRecipes_InvalidStory,
    sb_InvalidRecipes_PowerOff := sb_InvalidRecipes_PowerOff,
    sb_InvalidRecipes_PowerOn := sb_InvalidRecipes_PowerOn,
    sb_InvalidRecipes_NoFastDisk := sb_InvalidRecipes_NoFastDisk,
    sb_InvalidRecipes_HasFastDisk := sb_InvalidRecipes_HasFastDisk,
    sb_InvalidRecipes_Unsettled := sb_InvalidRecipes_Unsettled,
    sb_InvalidRecipes_Contradiction := sb_InvalidRecipes_Contradiction,
    sb_InvalidRecipes_InvalidName := sb_InvalidRecipes_InvalidName,
    sb_InvalidRecipes_UnknownName := sb_InvalidRecipes_UnknownName,
    sb_InvalidRecipes_InvalidRules := sb_InvalidRecipes_InvalidRules,
    sb_InvalidRecipes_InvalidRecipes := sb_InvalidRecipes_InvalidRecipes,
    sb_InvalidRecipes_InvalidRequests := sb_InvalidRecipes_InvalidRequests,
    sb_InvalidRecipes_InvalidPrices := sb_InvalidRecipes_InvalidPrices,
    sb_InvalidRecipes_InvalidPlan := sb_InvalidRecipes_InvalidPlan,
    sb_InvalidRecipes_PowerFailed := sb_InvalidRecipes_PowerFailed,
    sb_InvalidRecipes_InvalidOperation := sb_InvalidRecipes_InvalidOperation,
    sb_InvalidRecipes_NotationError := sb_InvalidRecipes_NotationError,
    sb_InvalidRecipes_DecodeError := sb_InvalidRecipes_DecodeError,
    sb_InvalidRecipes_PairError := sb_InvalidRecipes_PairError,
    vb_InvalidRecipes := vb_InvalidRecipes,
    E_InvalidRecipes := ⟨xg_InvalidRecipes, xk_InvalidRecipes, xs_InvalidRecipes, xd_InvalidRecipes, xa_InvalidRecipes, xn, xt, xm_InvalidRecipes⟩,
    kp_InvalidRecipes := kp_InvalidRecipes,
    iC_InvalidRecipes := iC_InvalidRecipes,
    f_InvalidRecipes___init__ := f_InvalidRecipes___init__, fd_InvalidRecipes___init__ := _, cc_InvalidRecipes___init__ := cc_InvalidRecipes___init__, S_InvalidRecipes___init__ := ⟨⟨oc_InvalidRecipes___init__, od_InvalidRecipes___init__, kV_InvalidRecipes___init__, dc_InvalidRecipes___init__, pm_InvalidRecipes___init__, an_InvalidRecipes___init__, cda_InvalidRecipes___init__, ct_InvalidRecipes___init__, sl_InvalidRecipes___init__, cl_InvalidRecipes___init__, cdd_InvalidRecipes___init__, vs_InvalidRecipes___init__, csl_InvalidRecipes___init__, tf_InvalidRecipes___init__, ec_InvalidRecipes___init__, ed_InvalidRecipes___init__, es_InvalidRecipes___init__, rfl, l_InvalidRecipes___init__, c_InvalidRecipes___init__, lc_InvalidRecipes___init__, fi_InvalidRecipes___init__, lcc_InvalidRecipes___init__⟩, k_InvalidRecipes___init__⟩,
    O_InvalidRecipes := ⟨⟨_, _, _, _, _, _, _, _, _, _, _, _, _, _, _, ob_InvalidRecipes, rv_InvalidRecipes⟩, sa_InvalidRecipes, xs_InvalidRecipes, ty_InvalidRecipes, kp_InvalidRecipes⟩,
    tI_InvalidRecipes := tI_InvalidRecipes,
    mr_InvalidRecipes := mr_InvalidRecipes,
    su_InvalidRecipes := su_InvalidRecipes,
    no_InvalidRecipes_part := no_InvalidRecipes_part,
    no_InvalidRecipes_place := no_InvalidRecipes_place }, rfl⟩
  have HP : ProgOk l.prog T.file := by
    rw [hT]
    exact ⟨fl, stop⟩
  exact lawat (fd := fnOf "law" "law" (defArgs s_law) (defBody s_law) (defScope s_law) .none kV_law dc_law pm_law an_law (.ref cda_law) ct_law) (sp := spLaw K P_law) TT X nt hrec (tabIn_of a_law l_law rfl lc_law tp_law) (fun s v => .of_eq rfl) (fun base _ _ TB => ok_law T HP l_law c_law TB) (fun H a ns hl hT hS => ⟨a, ns, rfl, hS, hl, hT, fun _ => rfl⟩)
end Kb
open PySem PySem.W PyProof.Rows in
set_option maxRecDepth 100000 in
set_option maxHeartbeats 0 in
theorem PySem.Challenge.cw_keepbefore_k07_invalid_rules_and_recipes_holds : PySem.Challenge.rw_keepbefore_k07_invalid_rules_and_recipes.Holds := by
  w_on; o_law; k_head; (case hw => w_witness2)
  k_fill
  refine Kb.walk_lam (l := PySem.Challenge.rw_keepbefore_k07_invalid_rules_and_recipes) (n := 63) (k := 12) (x := "_law_script") rfl (by decide) rfl ⟨rfl, by decide, by decide⟩ (fun w h Y => by first | exact PySem.W.km_in_of Y | exact PySem.W.kIn_of Y) ?F
  case F =>
    intro w lo mean mg mb fa h KX TT hmg
    refine' Kb.all_mk TT KX hmg (by kernel_rfl) rfl ?aC_Rules ?pg_Rules ?hd_Rules ?po_Rules ?sa_Rules ?aC_Recipes ?pg_Recipes ?hd_Recipes ?po_Recipes ?sa_Recipes ?n_Recipes__through ?n_Recipes__back ?n_Recipes__around ?n_Recipes__clean ?a_is_number ?l_is_number ?c_is_number ?k_is_number ?a_is_number_from ?l_is_number_from ?c_is_number_from ?k_is_number_from ?a_Rules___init__ ?i_Rules___init__ ?mk_Rules___init__ ?kc_Rules___init__ ?l_Rules___init__ ?c_Rules___init__ ?k_Rules___init__ ?a_Recipes___init__ ?i_Recipes___init__ ?mk_Recipes___init__ ?kc_Recipes___init__ ?l_Recipes___init__ ?c_Recipes___init__ ?k_Recipes___init__ ?a_Recipes_through ?ge_Recipes_through ?tk_Recipes_through ?rc_Recipes_through ?l_Recipes_through ?c_Recipes_through ?k_Recipes_through ?a_Recipes_back ?ge_Recipes_back ?tk_Recipes_back ?rc_Recipes_back ?l_Recipes_back ?c_Recipes_back ?k_Recipes_back ?a_Recipes_around ?ge_Recipes_around ?tk_Recipes_around ?rc_Recipes_around ?l_Recipes_around ?c_Recipes_around ?k_Recipes_around ?a_Recipes_clean ?ge_Recipes_clean ?tk_Recipes_clean ?rc_Recipes_clean ?l_Recipes_clean ?c_Recipes_clean ?k_Recipes_clean ?a_Recipes_safe ?rc_Recipes_safe ?fi_Recipes_safe ?rd_Recipes_safe ?sg_Recipes_safe ?l_Recipes_safe ?c_Recipes_safe ?k_Recipes_safe ?a__invalid_place ?l__invalid_place ?c__invalid_place ?k__invalid_place ?a__law_random ?l__law_random ?c__law_random ?k__law_random ?a__law_below ?l__law_below ?c__law_below ?k__law_below ?a__law_rules ?l__law_rules ?c__law_rules ?k__law_rules ?a__law_told_of ?l__law_told_of ?c__law_told_of ?k__law_told_of ?a__law_error_of ?l__law_error_of ?c__law_error_of ?k__law_error_of ?a_law ?l_law ?c_law ?k_law ?lc_law ?tp_law ?z_isinstance ?z_int ?z_bool ?z_list ?z_tuple ?z_len ?z_abs ?z_range ?z_enumerate ?z_super ?z_ValueError ?c_BOUND_PART ?c_MOST_BOUND ?c_MOST_STEPS ?l_RULE_WORDS_0 ?l_RULE_WORDS_1 ?l_RULE_WORDS_2 ?a_RULE_WORDS ?l_RULE_WORDS ?a_WRITE_STEPS ?l_WRITE_STEPS ?a_CLEAN_STEPS ?l_CLEAN_STEPS ?a_SYNC_STEPS ?l_SYNC_STEPS ?third ?aC_InvalidSize ?ic_InvalidSize ?ty_InvalidSize ?aC_InvalidCell ?ic_InvalidCell ?ty_InvalidCell ?aC_InvalidKept ?ic_InvalidKept ?ty_InvalidKept ?aC_InvalidBlock ?ic_InvalidBlock ?ty_InvalidBlock ?aC_InvalidValue ?ic_InvalidValue ?ty_InvalidValue ?aC_InvalidCount ?ic_InvalidCount ?ty_InvalidCount ?aC_InvalidSlot ?ic_InvalidSlot ?ty_InvalidSlot ?aC_InvalidWord ?ic_InvalidWord ?ty_InvalidWord ?aC_InvalidStory ?ic_InvalidStory ?ty_InvalidStory ?aC_PowerOff ?ic_PowerOff ?ty_PowerOff ?aC_PowerOn ?ic_PowerOn ?ty_PowerOn ?aC_NoFastDisk ?ic_NoFastDisk ?ty_NoFastDisk ?aC_HasFastDisk ?ic_HasFastDisk ?ty_HasFastDisk ?aC_Unsettled ?ic_Unsettled ?ty_Unsettled ?aC_Contradiction ?ic_Contradiction ?ty_Contradiction ?aC_InvalidName ?ic_InvalidName ?ty_InvalidName ?aC_UnknownName ?ic_UnknownName ?ty_UnknownName ?aC_InvalidRules ?ic_InvalidRules ?ty_InvalidRules ?aC_InvalidRecipes ?ic_InvalidRecipes ?ty_InvalidRecipes ?aC_InvalidRequests ?ic_InvalidRequests ?ty_InvalidRequests ?aC_InvalidPrices ?ic_InvalidPrices ?ty_InvalidPrices ?aC_InvalidPlan ?ic_InvalidPlan ?ty_InvalidPlan ?aC_PowerFailed ?ic_PowerFailed ?ty_PowerFailed ?aC_InvalidOperation ?ic_InvalidOperation ?ty_InvalidOperation ?aC_NotationError ?ic_NotationError ?ty_NotationError ?aC_DecodeError ?ic_DecodeError ?ty_DecodeError ?aC_PairError ?ic_PairError ?ty_PairError ?pb ?ph ?xn ?xt ?sb_InvalidRules_InvalidSize ?sb_InvalidRules_InvalidCell ?sb_InvalidRules_InvalidKept ?sb_InvalidRules_InvalidBlock ?sb_InvalidRules_InvalidValue ?sb_InvalidRules_InvalidCount ?sb_InvalidRules_InvalidSlot ?sb_InvalidRules_InvalidWord ?sb_InvalidRules_InvalidStory ?sb_InvalidRules_PowerOff ?sb_InvalidRules_PowerOn ?sb_InvalidRules_NoFastDisk ?sb_InvalidRules_HasFastDisk ?sb_InvalidRules_Unsettled ?sb_InvalidRules_Contradiction ?sb_InvalidRules_InvalidName ?sb_InvalidRules_UnknownName ?sb_InvalidRules_InvalidRules ?sb_InvalidRules_InvalidRecipes ?sb_InvalidRules_InvalidRequests ?sb_InvalidRules_InvalidPrices ?sb_InvalidRules_InvalidPlan ?sb_InvalidRules_PowerFailed ?sb_InvalidRules_InvalidOperation ?sb_InvalidRules_NotationError ?sb_InvalidRules_DecodeError ?sb_InvalidRules_PairError ?vb_InvalidRules ?xg_InvalidRules ?xk_InvalidRules ?xs_InvalidRules ?xd_InvalidRules ?xa_InvalidRules ?xm_InvalidRules ?kp_InvalidRules ?iC_InvalidRules ?l_InvalidRules___init__ ?c_InvalidRules___init__ ?k_InvalidRules___init__ ?lc_InvalidRules___init__ ?fi_InvalidRules___init__ ?lcc_InvalidRules___init__ ?ob_InvalidRules ?rv_InvalidRules ?sa_InvalidRules ?tI_InvalidRules ?mr_InvalidRules ?su_InvalidRules ?no_InvalidRules_part ?sb_InvalidRecipes_InvalidSize ?sb_InvalidRecipes_InvalidCell ?sb_InvalidRecipes_InvalidKept ?sb_InvalidRecipes_InvalidBlock ?sb_InvalidRecipes_InvalidValue ?sb_InvalidRecipes_InvalidCount ?sb_InvalidRecipes_InvalidSlot ?sb_InvalidRecipes_InvalidWord ?sb_InvalidRecipes_InvalidStory ?sb_InvalidRecipes_PowerOff ?sb_InvalidRecipes_PowerOn ?sb_InvalidRecipes_NoFastDisk ?sb_InvalidRecipes_HasFastDisk ?sb_InvalidRecipes_Unsettled ?sb_InvalidRecipes_Contradiction ?sb_InvalidRecipes_InvalidName ?sb_InvalidRecipes_UnknownName ?sb_InvalidRecipes_InvalidRules ?sb_InvalidRecipes_InvalidRecipes ?sb_InvalidRecipes_InvalidRequests ?sb_InvalidRecipes_InvalidPrices ?sb_InvalidRecipes_InvalidPlan ?sb_InvalidRecipes_PowerFailed ?sb_InvalidRecipes_InvalidOperation ?sb_InvalidRecipes_NotationError ?sb_InvalidRecipes_DecodeError ?sb_InvalidRecipes_PairError ?vb_InvalidRecipes ?xg_InvalidRecipes ?xk_InvalidRecipes ?xs_InvalidRecipes ?xd_InvalidRecipes ?xa_InvalidRecipes ?xm_InvalidRecipes ?kp_InvalidRecipes ?iC_InvalidRecipes ?l_InvalidRecipes___init__ ?c_InvalidRecipes___init__ ?k_InvalidRecipes___init__ ?lc_InvalidRecipes___init__ ?fi_InvalidRecipes___init__ ?lcc_InvalidRecipes___init__ ?ob_InvalidRecipes ?rv_InvalidRecipes ?sa_InvalidRecipes ?tI_InvalidRecipes ?mr_InvalidRecipes ?su_InvalidRecipes ?no_InvalidRecipes_part ?no_InvalidRecipes_place ?fl ?stop
    (case aC_Rules => k_is)
    (case pg_Rules => k_is)
    (case hd_Rules => k_is)
    (case po_Rules => k_is)
    (case sa_Rules => k_is)
    (case aC_Recipes => k_is)
    (case pg_Recipes => k_is)
    (case hd_Recipes => k_is)
    (case po_Recipes => k_is)
    (case sa_Recipes => k_is)
    (case n_Recipes__through => k_is)
    (case n_Recipes__back => k_is)
    (case n_Recipes__around => k_is)
    (case n_Recipes__clean => k_is)
    (case a_is_number => k_is)
    (case l_is_number => k_is)
    (case c_is_number => k_is)
    (case k_is_number => k_is)
    (case a_is_number_from => k_is)
    (case l_is_number_from => k_is)
    (case c_is_number_from => k_is)
    (case k_is_number_from => k_is)
    (case a_Rules___init__ => k_is)
    (case i_Rules___init__ => k_is)
    (case mk_Rules___init__ => k_is)
    (case kc_Rules___init__ => k_is)
    (case l_Rules___init__ => k_is)
    (case c_Rules___init__ => k_is)
    (case k_Rules___init__ => k_is)
    (case a_Recipes___init__ => k_is)
    (case i_Recipes___init__ => k_is)
    (case mk_Recipes___init__ => k_is)
    (case kc_Recipes___init__ => k_is)
    (case l_Recipes___init__ => k_is)
    (case c_Recipes___init__ => k_is)
    (case k_Recipes___init__ => k_is)
    (case a_Recipes_through => k_is)
    (case ge_Recipes_through => k_is)
    (case tk_Recipes_through => k_is)
    (case rc_Recipes_through => k_is)
    (case l_Recipes_through => k_is)
    (case c_Recipes_through => k_is)
    (case k_Recipes_through => k_is)
    (case a_Recipes_back => k_is)
    (case ge_Recipes_back => k_is)
    (case tk_Recipes_back => k_is)
    (case rc_Recipes_back => k_is)
    (case l_Recipes_back => k_is)
    (case c_Recipes_back => k_is)
    (case k_Recipes_back => k_is)
    (case a_Recipes_around => k_is)
    (case ge_Recipes_around => k_is)
    (case tk_Recipes_around => k_is)
    (case rc_Recipes_around => k_is)
    (case l_Recipes_around => k_is)
    (case c_Recipes_around => k_is)
    (case k_Recipes_around => k_is)
    (case a_Recipes_clean => k_is)
    (case ge_Recipes_clean => k_is)
    (case tk_Recipes_clean => k_is)
    (case rc_Recipes_clean => k_is)
    (case l_Recipes_clean => k_is)
    (case c_Recipes_clean => k_is)
    (case k_Recipes_clean => k_is)
    (case a_Recipes_safe => k_is)
    (case rc_Recipes_safe => k_is)
    (case fi_Recipes_safe => k_is)
    (case rd_Recipes_safe => k_is)
    (case sg_Recipes_safe => k_is)
    (case l_Recipes_safe => k_is)
    (case c_Recipes_safe => k_is)
    (case k_Recipes_safe => k_is)
    (case a__invalid_place => k_is)
    (case l__invalid_place => k_is)
    (case c__invalid_place => k_is)
    (case k__invalid_place => k_is)
    (case a__law_random => k_is)
    (case l__law_random => k_is)
    (case c__law_random => k_is)
    (case k__law_random => k_is)
    (case a__law_below => k_is)
    (case l__law_below => k_is)
    (case c__law_below => k_is)
    (case k__law_below => k_is)
    (case a__law_rules => k_is)
    (case l__law_rules => k_is)
    (case c__law_rules => k_is)
    (case k__law_rules => k_is)
    (case a__law_told_of => k_is)
    (case l__law_told_of => k_is)
    (case c__law_told_of => k_is)
    (case k__law_told_of => k_is)
    (case a__law_error_of => k_is)
    (case l__law_error_of => k_is)
    (case c__law_error_of => k_is)
    (case k__law_error_of => k_is)
    (case a_law => k_is)
    (case l_law => k_is)
    (case c_law => k_is)
    (case k_law => k_is)
    (case lc_law => k_is)
    (case tp_law => rfl)
    (case z_isinstance => k_is)
    (case z_int => k_is)
    (case z_bool => k_is)
    (case z_list => k_is)
    (case z_tuple => k_is)
    (case z_len => k_is)
    (case z_abs => k_is)
    (case z_range => k_is)
    (case z_enumerate => k_is)
    (case z_super => k_is)
    (case z_ValueError => k_is)
    (case c_BOUND_PART => k_is)
    (case c_MOST_BOUND => k_is)
    (case c_MOST_STEPS => k_is)
    (case a_RULE_WORDS => k_is)
    (case l_RULE_WORDS => k_is)
    (case l_RULE_WORDS_2 => k_is)
    (case l_RULE_WORDS_1 => k_is)
    (case l_RULE_WORDS_0 => k_is)
    (case a_WRITE_STEPS => k_is)
    (case l_WRITE_STEPS => k_is)
    (case a_CLEAN_STEPS => k_is)
    (case l_CLEAN_STEPS => k_is)
    (case a_SYNC_STEPS => k_is)
    (case l_SYNC_STEPS => k_is)
    (case third => k_is)
    (case aC_InvalidSize => k_is)
    (case ic_InvalidSize => k_is)
    (case ty_InvalidSize => k_is)
    (case aC_InvalidCell => k_is)
    (case ic_InvalidCell => k_is)
    (case ty_InvalidCell => k_is)
    (case aC_InvalidKept => k_is)
    (case ic_InvalidKept => k_is)
    (case ty_InvalidKept => k_is)
    (case aC_InvalidBlock => k_is)
    (case ic_InvalidBlock => k_is)
    (case ty_InvalidBlock => k_is)
    (case aC_InvalidValue => k_is)
    (case ic_InvalidValue => k_is)
    (case ty_InvalidValue => k_is)
    (case aC_InvalidCount => k_is)
    (case ic_InvalidCount => k_is)
    (case ty_InvalidCount => k_is)
    (case aC_InvalidSlot => k_is)
    (case ic_InvalidSlot => k_is)
    (case ty_InvalidSlot => k_is)
    (case aC_InvalidWord => k_is)
    (case ic_InvalidWord => k_is)
    (case ty_InvalidWord => k_is)
    (case aC_InvalidStory => k_is)
    (case ic_InvalidStory => k_is)
    (case ty_InvalidStory => k_is)
    (case aC_PowerOff => k_is)
    (case ic_PowerOff => k_is)
    (case ty_PowerOff => k_is)
    (case aC_PowerOn => k_is)
    (case ic_PowerOn => k_is)
    (case ty_PowerOn => k_is)
    (case aC_NoFastDisk => k_is)
    (case ic_NoFastDisk => k_is)
    (case ty_NoFastDisk => k_is)
    (case aC_HasFastDisk => k_is)
    (case ic_HasFastDisk => k_is)
    (case ty_HasFastDisk => k_is)
    (case aC_Unsettled => k_is)
    (case ic_Unsettled => k_is)
    (case ty_Unsettled => k_is)
    (case aC_Contradiction => k_is)
    (case ic_Contradiction => k_is)
    (case ty_Contradiction => k_is)
    (case aC_InvalidName => k_is)
    (case ic_InvalidName => k_is)
    (case ty_InvalidName => k_is)
    (case aC_UnknownName => k_is)
    (case ic_UnknownName => k_is)
    (case ty_UnknownName => k_is)
    (case aC_InvalidRules => k_is)
    (case ic_InvalidRules => k_is)
    (case ty_InvalidRules => k_is)
    (case aC_InvalidRecipes => k_is)
    (case ic_InvalidRecipes => k_is)
    (case ty_InvalidRecipes => k_is)
    (case aC_InvalidRequests => k_is)
    (case ic_InvalidRequests => k_is)
    (case ty_InvalidRequests => k_is)
    (case aC_InvalidPrices => k_is)
    (case ic_InvalidPrices => k_is)
    (case ty_InvalidPrices => k_is)
    (case aC_InvalidPlan => k_is)
    (case ic_InvalidPlan => k_is)
    (case ty_InvalidPlan => k_is)
    (case aC_PowerFailed => k_is)
    (case ic_PowerFailed => k_is)
    (case ty_PowerFailed => k_is)
    (case aC_InvalidOperation => k_is)
    (case ic_InvalidOperation => k_is)
    (case ty_InvalidOperation => k_is)
    (case aC_NotationError => k_is)
    (case ic_NotationError => k_is)
    (case ty_NotationError => k_is)
    (case aC_DecodeError => k_is)
    (case ic_DecodeError => k_is)
    (case ty_DecodeError => k_is)
    (case aC_PairError => k_is)
    (case ic_PairError => k_is)
    (case ty_PairError => k_is)
    (case pb => k_is)
    (case ph => k_is)
    (case xn => k_is)
    (case xt => k_is)
    (case sb_InvalidRules_InvalidSize => k_is)
    (case sb_InvalidRules_InvalidCell => k_is)
    (case sb_InvalidRules_InvalidKept => k_is)
    (case sb_InvalidRules_InvalidBlock => k_is)
    (case sb_InvalidRules_InvalidValue => k_is)
    (case sb_InvalidRules_InvalidCount => k_is)
    (case sb_InvalidRules_InvalidSlot => k_is)
    (case sb_InvalidRules_InvalidWord => k_is)
    (case sb_InvalidRules_InvalidStory => k_is)
    (case sb_InvalidRules_PowerOff => k_is)
    (case sb_InvalidRules_PowerOn => k_is)
    (case sb_InvalidRules_NoFastDisk => k_is)
    (case sb_InvalidRules_HasFastDisk => k_is)
    (case sb_InvalidRules_Unsettled => k_is)
    (case sb_InvalidRules_Contradiction => k_is)
    (case sb_InvalidRules_InvalidName => k_is)
    (case sb_InvalidRules_UnknownName => k_is)
    (case sb_InvalidRules_InvalidRules => k_is)
    (case sb_InvalidRules_InvalidRecipes => k_is)
    (case sb_InvalidRules_InvalidRequests => k_is)
    (case sb_InvalidRules_InvalidPrices => k_is)
    (case sb_InvalidRules_InvalidPlan => k_is)
    (case sb_InvalidRules_PowerFailed => k_is)
    (case sb_InvalidRules_InvalidOperation => k_is)
    (case sb_InvalidRules_NotationError => k_is)
    (case sb_InvalidRules_DecodeError => k_is)
    (case sb_InvalidRules_PairError => k_is)
    (case vb_InvalidRules => k_is)
    (case xg_InvalidRules => k_is)
    (case xk_InvalidRules => k_is)
    (case xs_InvalidRules => k_is)
    (case xd_InvalidRules => k_is)
    (case xa_InvalidRules => k_is)
    (case xm_InvalidRules => k_is)
    (case kp_InvalidRules => k_is)
    (case iC_InvalidRules => k_is)
    (case l_InvalidRules___init__ => k_is)
    (case c_InvalidRules___init__ => k_is)
    (case k_InvalidRules___init__ => k_is)
    (case lc_InvalidRules___init__ => k_is)
    (case fi_InvalidRules___init__ => rfl)
    (case lcc_InvalidRules___init__ => k_is)
    (case ob_InvalidRules => k_is)
    (case rv_InvalidRules => rfl)
    (case sa_InvalidRules => k_is)
    (case tI_InvalidRules => k_is)
    (case mr_InvalidRules => k_is)
    (case su_InvalidRules => ks_is)
    (case no_InvalidRules_part => k_is)
    (case sb_InvalidRecipes_InvalidSize => k_is)
    (case sb_InvalidRecipes_InvalidCell => k_is)
    (case sb_InvalidRecipes_InvalidKept => k_is)
    (case sb_InvalidRecipes_InvalidBlock => k_is)
    (case sb_InvalidRecipes_InvalidValue => k_is)
    (case sb_InvalidRecipes_InvalidCount => k_is)
    (case sb_InvalidRecipes_InvalidSlot => k_is)
    (case sb_InvalidRecipes_InvalidWord => k_is)
    (case sb_InvalidRecipes_InvalidStory => k_is)
    (case sb_InvalidRecipes_PowerOff => k_is)
    (case sb_InvalidRecipes_PowerOn => k_is)
    (case sb_InvalidRecipes_NoFastDisk => k_is)
    (case sb_InvalidRecipes_HasFastDisk => k_is)
    (case sb_InvalidRecipes_Unsettled => k_is)
    (case sb_InvalidRecipes_Contradiction => k_is)
    (case sb_InvalidRecipes_InvalidName => k_is)
    (case sb_InvalidRecipes_UnknownName => k_is)
    (case sb_InvalidRecipes_InvalidRules => k_is)
    (case sb_InvalidRecipes_InvalidRecipes => k_is)
    (case sb_InvalidRecipes_InvalidRequests => k_is)
    (case sb_InvalidRecipes_InvalidPrices => k_is)
    (case sb_InvalidRecipes_InvalidPlan => k_is)
    (case sb_InvalidRecipes_PowerFailed => k_is)
    (case sb_InvalidRecipes_InvalidOperation => k_is)
    (case sb_InvalidRecipes_NotationError => k_is)
    (case sb_InvalidRecipes_DecodeError => k_is)
    (case sb_InvalidRecipes_PairError => k_is)
    (case vb_InvalidRecipes => k_is)
    (case xg_InvalidRecipes => k_is)
    (case xk_InvalidRecipes => k_is)
    (case xs_InvalidRecipes => k_is)
    (case xd_InvalidRecipes => k_is)
    (case xa_InvalidRecipes => k_is)
    (case xm_InvalidRecipes => k_is)
    (case kp_InvalidRecipes => k_is)
    (case iC_InvalidRecipes => k_is)
    (case l_InvalidRecipes___init__ => k_is)
    (case c_InvalidRecipes___init__ => k_is)
    (case k_InvalidRecipes___init__ => k_is)
    (case lc_InvalidRecipes___init__ => k_is)
    (case fi_InvalidRecipes___init__ => rfl)
    (case lcc_InvalidRecipes___init__ => k_is)
    (case ob_InvalidRecipes => k_is)
    (case rv_InvalidRecipes => rfl)
    (case sa_InvalidRecipes => k_is)
    (case tI_InvalidRecipes => k_is)
    (case mr_InvalidRecipes => k_is)
    (case su_InvalidRecipes => ks_is)
    (case no_InvalidRecipes_part => k_is)
    (case no_InvalidRecipes_place => k_is)
    (case fl => first | rfl | decide +kernel)
    (case stop => first | rfl | decide +kernel)
