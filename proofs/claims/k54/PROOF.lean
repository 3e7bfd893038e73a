import PyProof.Rows.All
import Wide.All
import OpenK.AllK
import Wide.FinOn
import HandS.ForMost
import HandS.Defaults
import HandS.Property
import HandS.IsInst
import HandS.Conv
import HandS.Codes
import HandS.MakeKwOnly
import HandS.GenYield
import HandS.TupAny
import HandS.Zip
import HandS.Walk
import HandS.Wide
import HandS.Nested
import HandS.ExcInit
import HandS.ExcField
import HandS.ExcIs
import HandS.FStr
import HandS.WordsExc
import HandS.TryOnly
import KE.KExcSuper
import KE.KExcIs
import HandS.ExcSuper
import HandS.HotCalls
import HandS.ExcInitHot
import HandS.NestedHot
import HandS.ClsMeth
import HandS.EndTab
import HandS.EndBits
import HandS.StrSplit
import HandS.Strs
import HandS.Deep
import PySem.Challenge.RW_keepbefore_k54_prices_and_costs
set_option Elab.async false
set_option linter.all false
set_option maxRecDepth 100000
set_option maxHeartbeats 4000000
namespace Kb
open PySem L2
/-! ### heaps and frames -/
/-- outside S all that was tracked is as it was -/
def Fr (S : List Addr) (H H' : Hp) : Prop := ∀ b o, H b = some o → b ∉ S → H' b = some o
theorem Fr.refl (S : List Addr) (H : Hp) : Fr S H H := fun _ _ h _ => h
theorem Fr.trans {S : List Addr} {H H1 H2 : Hp} (a : Fr S H H1) (b : Fr S H1 H2) : Fr S H H2 := fun c o h n => b c o (a c o h n) n
theorem Fr.mono {S T : List Addr} {H H' : Hp} (a : Fr S H H') (h : ∀ b ∈ S, b ∈ T) : Fr T H H' := fun b o e n => a b o e (fun z => n (h b z))
theorem Fr.put {S : List Addr} {H : Hp} {a : Addr} {o : HO} (h : a ∈ S) : Fr S H (upd H a o) := fun b u e n => by
  rw [upd_ne (fun z => n (by rw [z]; exact h))]
  exact e
theorem Fr.new {S : List Addr} {H : Hp} {p : Addr} {o : HO} (h : H p = none) : Fr S H (upd H p o) := fun b u e _ => by
  rw [upd_ne (ne_of_none e h)]
  exact e
theorem Fr.nil_of {S : List Addr} {H H' : Hp} (a : Fr [] H H') : Fr S H H' := a.mono (fun _ h => by cases h)
theorem Fr.at_ {S : List Addr} {H H' : Hp} {b : Addr} {o : HO} (f : Fr S H H') (e : H b = some o) (n : b ∉ S) : H' b = some o := f b o e n
theorem fresh_out {H : Hp} {b : Addr} {o : HO} {p : Addr} (e : H b = some o) (n : H p = none) : b ≠ p := ne_of_none e n
/-- S and T share nothing -/
def Sep (S T : List Addr) : Prop := ∀ b ∈ S, b ∉ T
theorem Sep.symm {S T : List Addr} (h : Sep S T) : Sep T S := fun b hb hs => h b hs hb
/-- what owns S' came of S or is new, and so is apart from what stood in H -/
theorem Sep.grow {H : Hp} {S S' T : List Addr} (h : Sep S T) (g : ∀ b ∈ S', b ∈ S ∨ H b = none) (t : ∀ b ∈ T, ∃ o, H b = some o) : Sep S' T := fun b hb ht => by
  rcases g b hb with z | z
  · exact h b z ht
  · obtain ⟨o, e⟩ := t b ht
    rw [z] at e
    cases e
theorem vlen {α β : Type} {xs : List α} {f : α → β} : (xs.map f).length = xs.length := List.length_map f
theorem sz_le {n : Nat} (h : n ≤ 100000) : n ≤ sizeLine := Nat.le_trans h (by decide)
theorem sz_lt {n : Nat} (h : n < 100000) : n < sizeLine := Nat.lt_of_lt_of_le h (by decide)
theorem ix_at {n : Nat} (j : Nat) (h : j < n) : ixN n (j : Int) = some j := by
  unfold ixN
  rw [if_pos (Int.natCast_nonneg j), if_pos (by omega)]
  rfl
theorem free_upd {H : Hp} {a p : Addr} {o : HO} (h : upd H a o p = none) : H p = none ∧ p ≠ a := by
  by_cases e : p = a
  · rw [e, upd_same] at h
    cases h
  · rw [upd_ne e] at h
    exact ⟨h, e⟩
theorem int_at {ns : List Int} {i : Nat} {x : V} (h : (ns.map V.int)[i]? = some x) : ∃ u, x = V.int u ∧ ns[i]? = some u := by
  rw [List.getElem?_map] at h
  cases e : ns[i]? with
  | none =>
    rw [e] at h
    cases h
  | some u =>
    rw [e] at h
    exact ⟨u, (Option.some.inj h).symm, rfl⟩
theorem lt_of_at {α : Type} {xs : List α} {i : Nat} {x : α} (h : xs[i]? = some x) : i < xs.length := (List.getElem?_eq_some_iff.mp h).1
theorem Fr.seq {K : PySem.W.Frag} {S : List Addr} {H H' : Hp} {a : Addr} {xs : List V} (f : Fr S H H') (n : a ∉ S) (h : SqL K H a xs) : SqL K H' a xs := by
  rcases h with (h | ⟨o, h⟩) | h
  · exact .inl (.inl (f _ _ h n))
  · exact .inl (.inr ⟨o, f _ _ h n⟩)
  · exact .inr h
theorem Fr.tup {K : PySem.W.Frag} {S : List Addr} {H H' : Hp} {a : Addr} {xs : List V} (f : Fr S H H') (n : a ∉ S) (h : SqT K H a xs) : SqT K H' a xs := by
  rcases h with (h | ⟨o, h⟩) | h
  · exact .inl (.inl (f _ _ h n))
  · exact .inl (.inr ⟨o, f _ _ h n⟩)
  · exact .inr h
/-! ### lambdas as values: with no parameter, or one that falls back on a number -/
section
open PySem.Spec PySem.Calls PySem.W PyProof.Rows LamX NdefX
/-- the words of a lambda, the cells that it captured, its code object, the tuple of what its parameter falls back on -/
structure LF where
  qual : Str
  params : Arguments
  body : Expr
  scope : Scope
  cl : List (Str × Addr)
  c : Addr
  df : Option Addr
def dfV : Option Addr → Value
  | none => .none
  | some t => .ref t
abbrev LF.fd (F : LF) (pm ct : Value) : FuncData :=
  { name := "<lambda>", qualname := F.qual, params := F.params, body := .expr F.body, scope := F.scope, globals := mainGlobals, closure := F.cl, defaults := dfV F.df, kwdefaults := .none, doc := .none, pyModule := pm, annotations := none, code := .ref F.c, closureTuple := ct, builtins := builtinsNs }
def LamO (f : Addr) (F : LF) : HO := .ext fun h => ∃ (od : Option Addr) (sl : Array (Option Value)) (pm ct : Value), h.get? f = some (⟨.type "function", od, .func (F.fd pm ct), sl⟩ : Obj)
theorem LamO.ne {f : Addr} {F : LF} (ps : Array Value) : LamO f F ≠ .tbl ps := fun z => by
  unfold LamO at z
  cases z
theorem LamO.at_ {P : Program} {w : World} {H : Hp} {h : Heap} {f : Addr} {F : LF} (hok : HOk P w H h) (e : H f = some (LamO f F)) : ∃ (od : Option Addr) (sl : Array (Option Value)) (pm ct : Value), h.get? f = some (⟨.type "function", od, .func (F.fd pm ct), sl⟩ : Obj) := (hok f _ e).1
/-- all of it stands -/
structure Lv (f : Addr) (F : LF) (H : Hp) : Prop where
  fn : H f = some (LamO f F)
  co : H F.c = some (CodeO F.c F.qual)
  df : ∀ t, F.df = some t → H t = some (.tup [.int 0])
theorem Lv.keep {f : Addr} {F : LF} {H H' : Hp} (L : Lv f F H) (e : ∀ b o, H b = some o → (∀ xs, o ≠ .lst xs) → (∀ ps, o ≠ .tbl ps) → (∀ C dx fs, o ≠ .ins C dx fs) → H' b = some o) : Lv f F H' :=
  ⟨e _ _ L.fn (fun _ z => by unfold LamO at z; cases z) (fun _ => LamO.ne _) (fun _ _ _ z => by unfold LamO at z; cases z), e _ _ L.co (fun _ z => by unfold CodeO at z; cases z) (fun _ => codeO_ne _) (fun _ _ _ z => by unfold CodeO at z; cases z),
    fun t h => e _ _ (L.df t h) (fun _ z => by cases z) (fun _ z => by cases z) (fun _ _ _ z => by cases z)⟩
section
variable {M : Model} {A : Around} {E : Value → Shared → Prop} {s : Shared} {q : Str} {params : Arguments} {body : Expr} {scope : Scope} {env : Env} {c P : Addr} {ps : Array Value} {pos : Pos} {ln : Nat} {mg : Str → Option Value} {clos : List (Str × Addr)} {Q : Value → Shared → Prop} {d : Option Addr}
theorem lam_tail (hcl : closureFor scope env = pure clos) (hge : env.globals = mainGlobals) (hg : s.heap.Ns mainGlobals mg) (hcode : env.code = .ref c) (C : CodeHd s.heap c P) (hP : s.heap.get? P = some { cls := .none, data := .fields ps }) (ht : TriplesOk ps.toList) (hgP : mainGlobals ≠ P) (hb : s.heap.BuiltinsAt mg P)
    (hit : ∀ cv, codeAmong pos ps.toList = some cv → ∀ (ct : Value) (h' : Heap) (tk : Tok) (fd : FuncData), (∀ b o, s.heap.get? b = some o → h'.get? b = some o) → s.heap.objs.size ≤ h'.objs.size →
      fd = { name := "<lambda>", qualname := q, params := params, body := .expr body, scope := scope, globals := mainGlobals, closure := clos, defaults := dfV d, kwdefaults := .none, doc := .none, pyModule := (mg "__name__").getD .none, annotations := none, code := cv, closureTuple := ct, builtins := builtinsNs } →
      Q (.ref h'.objs.size) { s with heap := h'.push { cls := .type "function", data := .func fd }, toks := tk })
    (new : codeAmong pos ps.toList = none → ∀ (c' : Addr) (ct : Value) (h' : Heap) (tk : Tok) (fd : FuncData), Heap.ExtBut P s.heap h' → s.heap.objs.size ≤ c' → c' < h'.objs.size → h'.CodeRec (.ref c') q → h'.get? P = some { cls := .none, data := .fields (ps ++ #[rawInt pos.line, rawInt pos.col, .ref c']) } →
      fd = { name := "<lambda>", qualname := q, params := params, body := .expr body, scope := scope, globals := mainGlobals, closure := clos, defaults := dfV d, kwdefaults := .none, doc := .none, pyModule := (mg "__name__").getD .none, annotations := none, code := .ref c', closureTuple := ct, builtins := builtinsNs } →
      Q (.ref h'.objs.size) { s with heap := h'.push { cls := .type "function", data := .func fd }, toks := tk }) :
    wpAny M A (makeTail "<lambda>" q params (.expr body) scope env (dfV d) .none none pos ln) Q E s := by
  obtain ⟨bm, ob, hbm, hne0, _, hneP, hbo, hcls, hdict, hdata⟩ := hb
  have up : ∀ (o : Obj) b u, s.heap.get? b = some u → (s.heap.push o).get? b = some u := fun o b u e => Heap.get?_push_of_some o e
  unfold makeTail
  rw [hcl, hge]
  apply wpAny_bind
  apply wpAny_pure
  cases hc : codeAmong pos ps.toList with
  | some cv =>
    by_cases hk : clos.isEmpty = true
    · simp only [hk, if_true]
      apply wpAny_bind; apply wpAny_pure
      apply wpAny_bind; apply wpAny_functionCode_hit hcode (C.code hP ht) hc
      apply wpAny_bind; apply wpAny_builtinsFor hg hbm hne0 hbo hcls hdict hdata
      apply wpAny_bind; apply wpAny_nsGet hg
      apply wpAny_bind; apply wpAny_pure
      exact wpAny_newObj_type (hit cv hc _ s.heap s.toks _ (fun _ _ e => e) (Nat.le_refl _) rfl) (by size_fits)
    · simp only [Bool.not_eq_true] at hk
      simp only [hk, Bool.false_eq_true, if_false]
      apply wpAny_bind; apply wpAny_newTextTuple
      apply wpAny_bind; apply wpAny_functionCode_hit hcode ((C.keeps (up _)).code (up _ _ _ hP) ht) hc
      apply wpAny_bind; apply wpAny_builtinsFor (hg.push _) hbm hne0 (up _ _ _ hbo) hcls hdict hdata
      apply wpAny_bind; apply wpAny_nsGet (hg.push _)
      apply wpAny_bind; apply wpAny_pure
      exact wpAny_newObj_type (hit cv hc _ _ s.toks _ (up _) (by rw [Heap.size_push]; exact Nat.le_succ _) rfl) (by size_fits)
  | none =>
    by_cases hk : clos.isEmpty = true
    · simp only [hk, if_true]
      apply wpAny_bind; apply wpAny_pure
      apply wpAny_bind
      refine wpAny_functionCodeX hcode (C.code hP ht) (C.tab hP) hc fun c' h' tk hx l1 l2 _ hrec htb _ => ?_
      apply wpAny_bind; apply wpAny_builtinsFor (hg.extBut hx hgP) hbm hne0 (hx _ _ hneP hbo) hcls hdict hdata
      apply wpAny_bind; apply wpAny_nsGet (hg.extBut hx hgP)
      apply wpAny_bind; apply wpAny_pure
      exact wpAny_newObj_type (new hc c' _ h' tk _ hx l1 l2 hrec htb.2 rfl) (by size_fits)
    · simp only [Bool.not_eq_true] at hk
      simp only [hk, Bool.false_eq_true, if_false]
      apply wpAny_bind; apply wpAny_newTextTuple
      apply wpAny_bind
      refine wpAny_functionCodeX hcode ((C.keeps (up _)).code (up _ _ _ hP) ht) ((C.keeps (up _)).tab (up _ _ _ hP)) hc fun c' h' tk hx l1 l2 _ hrec htb _ => ?_
      have hx' : Heap.ExtBut P s.heap h' := fun b o hb e => hx b o hb (up _ _ _ e)
      apply wpAny_bind; apply wpAny_builtinsFor ((hg.push _).extBut hx hgP) hbm hne0 (hx' _ _ hneP hbo) hcls hdict hdata
      apply wpAny_bind; apply wpAny_nsGet ((hg.push _).extBut hx hgP)
      apply wpAny_bind; apply wpAny_pure
      exact wpAny_newObj_type (new hc c' _ h' tk _ hx' (Nat.le_trans (by rw [Heap.size_push]; exact Nat.le_succ _) l1) l2 hrec htb.2 rfl) (by size_fits)
end
end
section
open PySem.Spec PySem.Calls PySem.W PyProof.Rows LamX NdefX
section
variable {X : Cx} {pins : List (Addr × Obj)} {σ : L2.St} {H : Hp} {s : Shared}
theorem inv_lam {F : LF} {o : Obj} {tk : Nat} {pm ct : Value} (I : Inv X pins σ H s) (ho : o = { cls := .type "function", data := .func (F.fd pm ct) }) :
    Inv X pins σ (upd H s.heap.objs.size (LamO s.heap.objs.size F)) { s with heap := s.heap.push o, toks := tk } := by
  cases ho
  have e : (s.heap.push ({ cls := .type "function", data := .func (F.fd pm ct) } : Obj)).get? s.heap.objs.size = some ({ cls := .type "function", data := .func (F.fd pm ct) } : Obj) := Heap.get?_push_size _ rfl
  exact I.laid (a := s.heap.objs.size) (fun b u z => Heap.get?_push_of_some _ z) (Nat.le_refl _) ⟨⟨_, _, pm, ct, e⟩, ⟨_, e⟩, fun h1 h2 ⟨od, sl, p, t, z⟩ st => ⟨od, sl, p, t, st _ z⟩⟩
/-- the making of the function's object, the fallback tuple (if any) laid before -/
theorem lam_make {T : List NTab} {nm : Nat → Nat → Str} {c P : Addr} {params : Arguments} {body : Expr} {scope : Scope} {pos : Pos} {d : Option Addr} {ln : Nat} {E : Value → Shared → Prop} {Q : Value → Shared → Prop} (I : Inv X pins σ H s) (TB : TabB X.base X.mg c P) (hcode : X.env.code = .ref c)
    (hm : (P, nm) ∈ T) (hn : nm pos.line pos.col = X.env.qual ++ "<lambda>") (hu : ∀ p ∈ T, p.1 = P → p.2 = nm) (hT : TabsN T H) (hfree : ∀ y ∈ scope.names, y.2 = .free → ∃ c, X.env.cells.lookup y.1 = some c) (hd : ∀ t, d = some t → H t = some (.tup [.int 0]))
    (h : ∀ (f : Addr) (F : LF) (H1 : Hp) (s' : Shared), F.qual = X.env.qual ++ "<lambda>" → F.params = params → F.body = body → F.scope = scope → F.cl = cloFrom X.env.cells scope.names [] → F.df = d → Inv X pins σ H1 s' → ExtN H H1 → TabsN T H1 → H f = none → Lv f F H1 → Q (.ref f) s') :
    wpAny (model X.prog X.w) X.A (makeTail "<lambda>" (X.env.qual ++ "<lambda>") params (.expr body) scope X.env (dfV d) .none none pos ln) Q E s := by
  obtain ⟨ps, hP, ht, ha⟩ := (show TabN H P nm from hT _ hm)
  have hP' : s.heap.get? P = some { cls := .none, data := .fields ps } := I.hok P _ hP
  refine lam_tail (c := c) (P := P) (ps := ps) (mg := X.mg) (closure_ok hfree) I.ok.glob (I.mod.glob.keeps I.bk) hcode (TB.code.keeps I.bk) hP' ht TB.gP (TB.bm.keeps I.bk) (fun cv hc ct h' tk fd kp hz efd => ?_) fun hc c' ct h' tk fd hx l1 l2 hrec htb efd => ?_
  · obtain ⟨c', rfl, hco⟩ := ha pos cv hc
    rw [hn] at hco
    have I1 : Inv X pins σ H { s with heap := h', toks := tk } := I.kept kp
    have nF : H h'.objs.size = none := I1.hok.fresh (Nat.le_refl _)
    have I2 := inv_lam (F := ⟨X.env.qual ++ "<lambda>", params, body, scope, cloFrom X.env.cells scope.names [], c', d⟩) (o := { cls := .type "function", data := .func fd }) (tk := tk) (pm := (X.mg "__name__").getD .none) (ct := ct) I1 (by rw [efd])
    refine h h'.objs.size _ _ _ rfl rfl rfl rfl rfl rfl I2 (fun b o e n => (upd_ne (ne_of_none e nF)).trans e) (hT.ext fun b o e => (upd_ne (ne_of_none e nF)).trans e) nF ⟨upd_same, (upd_ne (ne_of_none hco nF)).trans hco, fun t et => (upd_ne (ne_of_none (hd t et) nF)).trans (hd t et)⟩
  · obtain ⟨c2, oc, vs, t, e2, hoc, hdt, hv⟩ := hrec
    cases e2
    have nC : H c' = none := I.hok.fresh l1
    have I1 := inv_table (t' := tk) (more := #[rawInt pos.line, rawInt pos.col, .ref c']) (h' := h') I hP (fun b o hb e => hx b o hb e) htb l1 ⟨oc, vs, t, hoc, hdt, hv⟩
    have hE : ExtN H (upd (upd H P (.tbl (ps ++ #[rawInt pos.line, rawInt pos.col, .ref c']))) c' (CodeO c' (X.env.qual ++ "<lambda>"))) := fun b o e n => by
      have nb : b ≠ P := fun z => n ps (Option.some.inj (e.symm.trans (by rw [z]; exact hP)))
      rw [upd_ne (ne_of_none e nC), upd_ne nb]
      exact e
    have eL : (ps ++ #[rawInt pos.line, rawInt pos.col, .ref c']).toList = ps.toList ++ [rawInt pos.line, rawInt pos.col, .ref c'] := by simp
    have T1 : TabsN T (upd (upd H P (.tbl (ps ++ #[rawInt pos.line, rawInt pos.col, .ref c']))) c' (CodeO c' (X.env.qual ++ "<lambda>"))) := fun p hp => by
      by_cases hb : p.1 = P
      · rw [hu p hp hb, hb]
        refine ⟨_, (upd_ne (ne_of_none hP nC)).trans upd_same, by rw [eL]; exact PySem.TriplesOk_snoc _ _ _ _ ht, fun p' cv hcv => ?_⟩
        rw [eL] at hcv
        rcases among_app2 _ ht hcv with z | ⟨z, z1, z2⟩
        · obtain ⟨c0, e1, e2⟩ := ha p' cv z
          exact ⟨c0, e1, hE _ _ e2 (codeO_ne)⟩
        · exact ⟨c', z, by rw [← z1, ← z2, hn]; exact upd_same⟩
      · obtain ⟨ps', a1, a2, a3⟩ := hT p hp
        refine ⟨ps', (upd_ne (ne_of_none a1 nC)).trans ((upd_ne hb).trans a1), a2, fun p' cv hcv => ?_⟩
        obtain ⟨c0, e1, e2⟩ := a3 p' cv hcv
        exact ⟨c0, e1, hE _ _ e2 (codeO_ne)⟩
    have nF := I1.hok.fresh (Nat.le_refl _)
    have I2 := inv_lam (F := ⟨X.env.qual ++ "<lambda>", params, body, scope, cloFrom X.env.cells scope.names [], c', d⟩) (o := { cls := .type "function", data := .func fd }) (tk := tk) (pm := (X.mg "__name__").getD .none) (ct := ct) I1 (by rw [efd])
    refine h h'.objs.size _ _ _ rfl rfl rfl rfl rfl rfl I2 (fun b o e n => (upd_ne (ne_of_none (hE b o e n) nF)).trans (hE b o e n)) (T1.ext fun b o e => (upd_ne (ne_of_none e nF)).trans e) (I.hok.fresh (Nat.le_trans l1 (Nat.le_of_lt l2))) ⟨upd_same, (upd_ne (Nat.ne_of_lt l2)).trans upd_same, fun t et => ?_⟩
    have e0 := hE _ _ (hd t et) (fun _ z => by cases z)
    exact (upd_ne (ne_of_none e0 nF)).trans e0
end
/-- what it yields -/
def tLamV (T : List NTab) (X : Cx) (params : Arguments) (body : Expr) (scope : Scope) : TE := fun _ H Q => TabsN T H ∧ ∀ (f : Addr) (F : LF) (H1 : Hp), F.qual = X.env.qual ++ "<lambda>" → F.params = params → F.body = body → F.scope = scope → F.cl = cloFrom X.env.cells scope.names [] →
  (F.df.isSome = !params.defaults.isEmpty) → ExtN H H1 → TabsN T H1 → H f = none → Lv f F H1 → Q (.ref f) H1
section
variable {X : Cx} {T : List NTab} {nm : Nat → Nat → Str} {c P : Addr} {params : Arguments} {body : Expr} {scope : Scope} {pos : Pos}
theorem pe_lamV (TB : TabB X.base X.mg c P) (hcode : X.env.code = .ref c) (hm : (P, nm) ∈ T) (hn : nm pos.line pos.col = X.env.qual ++ "<lambda>") (hu : ∀ p ∈ T, p.1 = P → p.2 = nm)
    (hfree : ∀ y ∈ scope.names, y.2 = .free → X.env.scope.names.lookup y.1 = some .cell ∨ X.env.scope.names.lookup y.1 = some .free) (hk0 : params.kwonlyargs = [])
    (hdef : (defaultsOf params X.env = ([], []) ∧ params.defaults = []) ∨ ∃ e, defaultsOf params X.env = ([eval e X.env], []) ∧ params.defaults = [e] ∧ PE X e (tC (.int 0))) :
    PE X (.Lambda params body scope pos) (tLamV T X params body scope) := by
  refine ⟨fun pins s σ H Q I h => ?_⟩
  obtain ⟨hT, h⟩ := h
  have hfr : ∀ y ∈ scope.names, y.2 = .free → ∃ c, X.env.cells.lookup y.1 = some c := fun y hy e => (hfree y hy e).elim (fun z => I.ok.has _ (.inl z)) fun z => I.ok.has _ (.inr z)
  rw [arm_eval_Lambda]
  rcases hdef with ⟨hd, hp⟩ | ⟨e, hd, hp, he⟩
  · rw [hd]
    apply wpAny_bind
    apply wpAny_pure
    apply wpAny_bind
    apply wpAny_holding
    apply wpAny_pure
    rw [makeFunction_eq]
    simp only [List.zip_nil_right, List.filterMap_nil, List.isEmpty_nil, if_true, pure_bind]
    exact lam_make (d := none) I TB hcode hm hn hu hT hfr (fun _ z => by cases z) fun f F H1 s' q1 q2 q3 q4 q5 q6 I1 eN T1 hf L => ⟨.ref f, H1, I1, rfl, h f F H1 q1 q2 q3 q4 q5 (by rw [q6, hp]; rfl) eN T1 hf L⟩
  · rw [hd]
    apply wpAny_bind
    apply wpAny_evalAll_cons
    refine thn (he.run pins s σ H (fun v H1 => v = .int 0 ∧ H1 = H) I ⟨rfl, rfl⟩) fun u s1 hu1 => ?_
    obtain ⟨v, H1, I1, rv, rfl, rfl⟩ := hu1
    apply wpAny_evalAll_nil
    apply wpAny_bind
    apply wpAny_holding
    apply wpAny_pure
    rw [makeFunction_eq]
    simp only [List.zip_nil_right, List.filterMap_nil, List.isEmpty_nil, List.isEmpty_cons, Bool.false_eq_true, if_false, if_true, pure_bind]
    apply wpAny_bind
    apply wpAny_newTextTuple
    have hn0 : H1 s1.heap.objs.size = none := I1.hok.fresh (Nat.le_refl _)
    have J : Inv X pins σ (upd H1 s1.heap.objs.size (.tup [.int 0])) { s1 with heap := s1.heap.push { cls := .type "tuple", data := .seq [u].toArray }, toks := s1.toks } :=
      I1.laid (t' := s1.toks) (o := .tup [.int 0]) (fun b ob q => Heap.get?_push_of_some _ q) (Nat.le_refl _) ⟨sz_le (by decide), [u], .cons rv .nil, _, Heap.get?_push_size _ rfl, rfl, _, rfl⟩
    have e0 : ∀ b o, H1 b = some o → (upd H1 s1.heap.objs.size (.tup [.int 0])) b = some o := fun b o e => (upd_ne (ne_of_none e hn0)).trans e
    refine lam_make (d := some s1.heap.objs.size) J TB hcode hm hn hu (hT.ext e0) hfr (fun t z => by cases z; exact upd_same) fun f F H2 s' q1 q2 q3 q4 q5 q6 I2 eN T1 hf L => ⟨.ref f, H2, I2, rfl, h f F H2 q1 q2 q3 q4 q5 (by rw [q6, hp]; rfl) (fun b o e n => eN b o (e0 b o e) n) T1 (free_upd hf).1 L⟩
end
end
section
open PySem.Spec PySem.Calls PySem.W PyProof.Rows LamX NdefX
/-- a lambda's names: none of its own but the parameters, the captured ones, globals -/
structure LScope (N fr : List Str) (sc : Scope) : Prop where
  kind : sc.kind = .function
  co : sc.isCoroutine = false
  gen : sc.isGenerator = false
  nocell : ∀ y ∈ sc.names, y.2 ≠ .cell
  free : ∀ y ∈ sc.names, y.2 = .free → y.1 ∈ fr
  frk : ∀ x ∈ fr, sc.names.lookup x = some .free
  eq : N = fr
def lscB (fr : List Str) (sc : Scope) : Bool :=
  decide (sc.kind = .function) && (!sc.isCoroutine && (!sc.isGenerator && (sc.names.all (fun y => !decide (y.2 = .cell)) && (sc.names.all (fun y => !decide (y.2 = .free) || decide (y.1 ∈ fr)) && fr.all (fun x => decide (sc.names.lookup x = some .free))))))
theorem lscope_by {fr : List Str} {sc : Scope} (h : lscB fr sc = true) : LScope fr fr sc := by
  unfold lscB at h
  simp only [Bool.and_eq_true, Bool.not_eq_true', decide_eq_true_eq, List.all_eq_true, Bool.or_eq_true, decide_eq_false_iff_not] at h
  obtain ⟨h1, h2, h3, h4, h5, h6⟩ := h
  exact ⟨h1, h2, h3, h4, fun y hy e => (h5 y hy).elim (fun z => absurd e z) id, h6, rfl⟩
abbrev LF.nf (F : LF) : NF := ⟨"<lambda>", F.qual, F.params, [], F.scope, F.cl, F.c⟩
/-- how it binds when nothing is given -/
def LBind (f : Addr) (F : LF) : Prop := ∀ (P : Program) (w : World) (s : Shared) (H : Hp) (pm ct : Value), Lv f F H → HOk P w H s.heap → ∃ bs : List (Str × Value), BindsTo s (F.fd pm ct) ⟨[], []⟩ bs ∧ ∀ x ∈ bs, F.scope.names.lookup x.1 = some .local
/-- with no parameter -/
theorem lbind0 {f : Addr} {F : LF} (h : ∀ pm ct, bindArgs (F.fd pm ct) ⟨[], []⟩ = pure []) : LBind f F := fun P w s H pm ct L hok => ⟨[], .of_eq (h pm ct), fun x hx => by cases hx⟩
/-- one that falls back on the number in its tuple -/
theorem lbind1 {f t : Addr} {F : LF} {x : Str} (e : F.df = some t) (h : ∀ pm ct u, ∃ k, bindArgs (F.fd pm ct) ⟨[], []⟩ = (seqItems? (F.fd pm ct).defaults >>= k) ∧ k (some #[u]) = pure [(x, u)]) (hl : F.scope.names.lookup x = some .local) : LBind f F := fun P w s H pm ct L hok => by
  obtain ⟨hz, us, rv, o, ho, hc, n, hd⟩ := hok t _ (L.df t e)
  cases rv with
  | cons r rr =>
    cases rr
    rename_i u
    obtain ⟨k, h1, h2⟩ := h pm ct u
    refine ⟨[(x, u)], .of_defaults (T := t) (by show dfV F.df = _; rw [e]; rfl) ho hd h1 h2, fun y hy => ?_⟩
    rw [List.mem_singleton.mp hy]
    exact hl
/-- the promise of the lambda F at f: sp, by what its captured cells hold at the call -/
def LOk (P : Program) (w : World) (K : PySem.W.Frag) (mg : Str → Option Value) (base : Heap) (CX : CXT) (k : Nat) (f : Addr) (F : LF) (fr : List Str) (sp : List (Option V) → Hp → VK → XK → Prop) : Prop :=
  ∀ (A : Around) (outer : List Env) (s : Shared) (H : Hp) (ws : List (Option V)) (Q : VK) (E : XK), Room k A → Env0 P w K mg base A outer s H → Lv f F H → CellsAt F.cl fr ws s.heap H → sp ws H Q E → codeAny (model P w) A (.call (.ref f) ⟨[], []⟩) (CR CX outer P w H s Q E) s
section
variable {CX : CXT} {P : Program} {w : World} {K : PySem.W.Frag} {mg : Str → Option Value} {base : Heap} {N fr : List Str} {F : LF} {f : Addr} {A : Around} {outer : List Env} {s : Shared} {H : Hp} {E : XK} {ws : List (Option V)} {k : Nat} {sp : List (Option V) → Hp → VK → XK → Prop}
abbrev lcx (CX : CXT) (P : Program) (w : World) (K : PySem.W.Frag) (mg : Str → Option Value) (base : Heap) (N : List Str) (F : LF) (f : Addr) (A : Around) (outer : List Env) (s : Shared) (H : Hp) (E : XK) : Cx := ncx CX P w K mg base N F.nf f A outer s H E
/-- THE RULE: a lambda by its body -/
theorem lok_of (S : LScope N fr F.scope) (hb : LBind f F)
    (hbody : ∀ (A : Around) (outer : List Env) (s : Shared) (H : Hp) (ws : List (Option V)) (Q : VK) (E : XK), Room k (A.deeper (envF F.nf f s.heap.objs.size)) → Lv f F H → ws.length = fr.length → sp ws H Q E →
      ∃ t, PE (lcx CX P w K mg base N F f A outer s H E) F.body t ∧ t ws H Q) : LOk P w K mg base CX (k + 1) f F fr sp := by
  intro A outer s H ws Q E hr e0 L C hsp
  have lim : s.heap.NoLimit := e0.mod.nolimit.keeps fun b o e => (e0.bs b o e).1
  obtain ⟨od, sl, pm, ct, ho⟩ := LamO.at_ e0.hok L.fn
  obtain ⟨bs, b1, b2⟩ := hb P w s H pm ct L e0.hok
  refine kla_callFunE hr.depth ho rfl S.co S.gen rfl (codeO_at e0.hok L.co) (b1 _ _ _ _ ?_)
  refine wpAny_newFunctionEnv S.nocell b2 (fun h₁ hns hsb => ⟨lim.fresh _ hsb, ?_⟩) S.kind
  show codeAny _ _ (.expr F.body (envF F.nf f s.heap.objs.size)) _ _
  have kp : ∀ b o, s.heap.get? b = some o → h₁.get? b = some o := fun b o e => hsb.extBut b o (Nat.ne_of_lt (Heap.lt_size e)) (Heap.get?_push_of_some _ e)
  obtain ⟨t, ht, hq⟩ := hbody A outer s H ws Q E (hr.deeper _) L C.len hsp
  have eN := S.eq
  have noA : ∀ b : Addr, b ∉ (lcx CX P w K mg base N F f A outer s H E).ex := fun b z => absurd (show b ∈ ([] : List Addr) from z) (by simp)
  have cellK : ∀ {c : Addr} {v : Option Value}, s.heap.IsCell c v → h₁.IsCell c v := fun {c v} ⟨o, ho, hd⟩ => ⟨o, kp _ _ ho, hd⟩
  have I : Inv (lcx CX P w K mg base N F f A outer s H E) [] ws H { s with heap := h₁, toks := s.toks + bs.length } := by
    refine ⟨⟨e0.mod, S.kind, rfl, rfl, Nat.le_refl _, C.inj, fun y hy => ?_, fun y c z _ => ?_, fun _ => hr.hd, Around.frames_deeper e0.frames, .inr ⟨rfl, rfl⟩, fun b z => absurd z (noA b), e0.bs, e0.bsz, fun b _ _ => noA b, fun b z => absurd z (noA b), e0.funs, e0.frf⟩,
      rfl, e0.bare, Un.kept kp, ⟨_, hns, fun i y v e1 e2 e3 => ?_⟩, fun y c e => ?_, e0.hok.fresh (Nat.le_refl _), fun y c e => (C.all y c e).1, fun q hq => absurd (show q ∈ ([] : List (Addr × Obj)) ++ [] from hq) (by simp), e0.hok.kept kp, ?_⟩
    · rcases (show F.scope.names.lookup y = some .cell ∨ F.scope.names.lookup y = some .free from hy) with hy | hy
      · exact absurd rfl (S.nocell _ (PySem.mem_of_lookup hy))
      · obtain ⟨i, hi⟩ := List.mem_iff_getElem?.mp (S.free _ (PySem.mem_of_lookup hy) rfl)
        obtain ⟨c, hc, _⟩ := C.has i y hi
        exact ⟨c, hc⟩
    · exact absurd (show false = true from z) (by simp)
    · have e1 : N[i]? = some y := e1
      rw [eN] at e1
      obtain ⟨c, hc, hv⟩ := C.has i y e1
      obtain ⟨u, ru, hu⟩ := hv v e2
      exact ⟨u, ru, .inr ⟨.inr (S.frk y (List.mem_of_getElem? e1)), c, hc, cellK hu⟩⟩
    · obtain ⟨v, z⟩ := (C.all y c e).2
      exact ⟨v, cellK z⟩
    · show ws.length = N.length
      rw [eN]
      exact C.len
  refine kla_codeExpr (wpAny_mono (ht.run [] _ ws H Q I hq) (fun v s' hs => ?_) fun e s' hs => hs)
  obtain ⟨u, H', J, rv, q⟩ := hs
  exact ⟨u, H', J.os, J.bare, J.base, J.hok, rv, q⟩
end
/-! ### what may be asked of a value that is called with nothing -/
/-- in the state (s, H), with the callers' frames fs: f is a lambda that lives, its cells hold ws, none of the cells is a frame's -/
structure Act (f : Addr) (F : LF) (fr : List Str) (ws : List (Option V)) (fs : List Addr) (s : Shared) (H : Hp) : Prop where
  lv : Lv f F H
  cells : CellsAt F.cl fr ws s.heap H
  nf : ∀ y c, F.cl.lookup y = some c → c ∉ fs
section
variable {X : Cx} {pins : List (Addr × Obj)} {σ : L2.St} {H : Hp} {s : Shared} {f : Addr} {F : LF} {fr : List Str} {ws : List (Option V)}
/-- a callee's own state, from its entry's -/
theorem Act.later (a : Act f F fr ws X.fs X.s_0 X.H_0) (hx : X.ex = []) (I : Inv X pins σ H s) (L : Lv f F H) : Act f F fr ws X.fs s H :=
  ⟨L, a.cells.later a.nf (fun _ _ _ z => by rw [hx] at z; cases z) I, a.nf⟩
/-- .. and handed on to a callee of its own: that frame is no cell -/
theorem Act.on (a : Act f F fr ws X.fs s H) (I : Inv X pins σ H s) : Act f F fr ws (frs X.stack) s H := by
  refine ⟨a.lv, a.cells, fun y c e hm => ?_⟩
  rcases List.mem_cons.mp (I.stkSub c hm) with z | z
  · obtain ⟨v, o, ho, hd⟩ := (a.cells.all y c e).2
    obtain ⟨m, ⟨o', es, ep, ho', hd', _⟩, _⟩ := I.loc
    rw [z, ho'] at ho
    cases ho
    rw [hd'] at hd
    cases hd
  · exact a.nf y c e z
/-- the maker's own state -/
theorem Act.made {js : List Nat} (hfn : ∀ x, X.fn x = true) (I : Inv X pins σ H s) (L : Lv f F H) (c : Caps X F.cl fr js) : Act f F fr (js.map (slotAt σ)) (frs X.stack) s H := by
  refine ⟨L, cells_of I c, fun y a e hm => ?_⟩
  have e' := c.sub y a e
  obtain ⟨v, o, ho, hd⟩ := I.cell y a e'
  rcases List.mem_cons.mp (I.stkSub a hm) with z | z
  · exact I.cne y a e' z
  · obtain ⟨_, o', ho', _⟩ := I.ok.funs.mem z
    exact absurd (Nat.lt_of_lt_of_le (Heap.lt_size ho') (I.ok.cab y a (hfn y) e')) (Nat.lt_irrefl _)
end
end
section
open PySem.Spec PySem.Calls PySem.W PyProof.Rows LamX NdefX
/-! ### an own exception whose __init__ begins with super().__init__(..) -/
section
variable {prog : Program} {w : World} {A : Around} {E : Value → Shared → Prop} {h : Heap} {g : Array GenState} {d : Drawn} {t : Nat} {os : OsState} {nm q : Str} {C N : Addr} {bs bm : List Value} {sn : List Str} {sub : List Value} {ab : Bool} {col : Option Bool} {dd : Option Addr} {k0 k1 k2 k3 k5 : Option Value}
theorem mw_check {M : Model} {e : Addr} {oe : Obj} {rest : List Value} {Q : Unit → Shared → Prop} (hC : h.get? C = some (excClassObj nm q C N bs bm true sn sub ab col dd k0 k1 k2 k3 k5 "ValueError.__new__")) (he : h.get? e = some oe) (hcls : oe.cls = .ref C) (hq : Q () ⟨h, g, d, t, os⟩) :
    wpAny M A (checkBoundCall "ValueError.__init__" ⟨.ref e :: rest, []⟩) Q E ⟨h, g, d, t, os⟩ := ESX.check_bound F.excBase_ValueError hC he hcls hq
/-- the wrapper is called: the args are laid anew -/
theorem mw_call {u e t0 : Addr} {rest : List Value} {Q : Value → Shared → Prop} (hC : h.get? C = some (excClassObj nm q C N bs bm true sn sub ab col dd k0 k1 k2 k3 k5 "ValueError.__new__")) (he : h.get? e = some (HandSPX.excO C t0)) (hu : h.get? u = some (kxs_mw "ValueError.__init__" e)) (hl : rest.length ≤ sizeLine)
    (hq : ∀ h' t1, (∀ b o, b ≠ e → h.get? b = some o → h'.get? b = some o) → h'.get? e = some (HandSPX.excO C t1) → Q .none ⟨h', g, d, t, os⟩) : wpAny (model prog w) A (call (.ref u) rest) Q E ⟨h, g, d, t, os⟩ := by
  apply wpAny_call
  apply codeAny_of_tree
  show wpAny _ A.in1 (callAny (.ref u) ⟨rest, []⟩) _ _ _
  simp only [callAny]
  apply wpAny_bind
  apply wpAny_load hu
  simp only [kxs_mw, show (Value.type "method-wrapper" == Value.type "method" || Value.type "method-wrapper" == Value.type "builtin_function_or_method" || Value.type "method-wrapper" == Value.type "method-wrapper") = true by decide, if_true]
  refine KFB.if_so (by decide) ?_
  refine wpAny_bind (mw_check hC he rfl ?_)
  refine wpAny_bind (wpAny_pure (wpAny_pure ?_))
  refine ⟨Code.quiet_builtin _ (by decide +kernel), codeAny_builtin F.excBase_ValueError.initEntry ?_⟩
  rw [Around.under_plainId F.excBase_ValueError.init.plain _]
  wp_walk
  refine hq _ h.objs.size (fun b o hb ho => ?_) ?_
  · rw [Heap.get?_update_other _ _ (fun z => hb z.symm)]
    exact Heap.get?_push_of_some _ ho
  · rw [Heap.get?_update_self _ (Heap.get?_push_of_some _ he) rfl]
    rfl
end
/-- such a def of the class at D, its cell at cc -/
structure ProgOk (P : Program) (file : Str) : Prop where
  file_ : ((P.main.file : Str) == file) = true
  top_ : (P.main.scope.names.lookup ("super" : Str)).isSome = false
structure FunS (K : Frag) (file : Str) (x qual : Str) (st : Stmt) (D cc : Addr) (f : Addr) (fd : FuncData) : Prop where
  ex : ∃ (oc : Value) (od : Option Addr) (kV doc pm : Value) (an : Option Addr) (cda : Addr) (ct : Value) (osl : Array (Option Value)) (cl : Value) (cdd : Option Addr) (vs : Array Value) (csl : Array (Option Value)) (tf : Tok) (ec : Value) (ed : Option Addr) (es : Array (Option Value)),
    fd = ksFn x qual (defArgs st) (defBody st) (defScope st) .none kV doc pm an (.ref cda) ct cc ∧ K.lookup f = some ⟨oc, od, .func fd, osl⟩ ∧ codeIn K (.ref cda) qual = true ∧ K.lookup cda = some ⟨cl, cdd, .fields vs, csl⟩ ∧ vs[2]? = some (.str file tf) ∧ K.lookup cc = some ⟨ec, ed, .cell (some (.ref D)), es⟩
  kp : keepIn K (.ref f) = true
section
variable {P : Program} {w : World} {K : Frag} {mg : Str → Option Value} {base : Heap}
theorem FunS.ok {CX : CXT} {x qual : Str} {st : Stmt} {D cc f : Addr} {fd : FuncData} {N ps : List Str} {k : Nat} {sp : Sp} {ar : Arg} {e : Expr} {rest : List Stmt} {p0 p1 apos pos epos : Pos} {file : Str} (HP : ProgOk P file) (F : FunS K file x qual st D cc f fd) (S : NScope N ps ["__class__"] (defScope st)) (len : ∀ vs H Q E, sp vs H Q E → vs.length = ps.length)
    (hst : defBody st = .Expr (.Call (.Attribute (.Call (.Name "super" p0) [] [] p1) "__init__" apos) [e] [] pos) epos :: rest) (hks : (defScope st).names.lookup ("super" : Str) = some .globalImplicit) (hint : ∀ env : Env, env.scope = defScope st → interactive env = false) (pl : Env → Sem Bool)
    (hev : ∀ env : Env, eval (.Call (.Attribute (.Call (.Name "super" p0) [] [] p1) "__init__" apos) [e] [] pos) env = (do
      let ov ← attributeBase (.Call (.Name "super" p0) [] [] p1) "__init__" env (eval (.Call (.Name "super" p0) [] [] p1) env)
      standAt apos.atName
      let (f, first) ← holding [ov] (getMethod ov "__init__" (pl env))
      callWith pos f first (backTo pos (starEach [e] env)) [])) (hse : ∀ env : Env, starEach [e] env = [(false, eval e env)]) (har : ((defArgs st).posonlyargs ++ (defArgs st).args).head? = some ar) (hp0 : ps.head? = some ar.arg)
    (hms : mg "super" = none) (hthird : nsIn K cStatics "thirdparty.any" = some none)
    (hbody : ∀ (F' : NF) (A : Around) (outer : List Env) (s : Shared) (H : Hp) (vs : List V) (Q : VK) (E : XK), F'.scope = defScope st → Room k (A.deeper (envF F' f s.heap.objs.size)) → sp vs H Q E →
      ∃ (te : TE) (tb : TS) (a C : Addr) (z : V), vs.head? = some (.ref a) ∧ H a = some (exo a C none) ∧ OexC K C ∧ (∃ cdD, clsIn K D = some cdD) ∧ mroIn K C (.ref D) = some true ∧ ks_superIn K C D "__init__" = some (some (.builtin "ValueError.__init__")) ∧ subIn K (.ref C) (.type "ValueError") = some true ∧
        PE (ncx CX P w K mg base N F' f A outer s H E) e te ∧ PSs (ncx CX P w K mg base N F' f A outer s H E) rest tb ∧ (∀ Q' : VK, Q' z H → te (startF N vs [none]) H Q') ∧ tb { nx := fun _ H' => Q .non H', rt := Q } (startF N vs [none]) H) :
    FnOk P w K mg base CX (k + 1) f fd ps sp := by
  obtain ⟨oc, od, kV, doc, pm, an, cda, ct, osl, cl, cdd, vs2, csl, tf, ec, ed, es, rfl, lk, hcd, lcd, h2, lcc⟩ := F.ex
  obtain ⟨hfile, htop⟩ := HP
  refine ⟨len, fun A outer s H args us vs Q E hr e0 hb r hsp => ?_⟩
  have hl := len _ _ _ _ hsp
  have KX : K.In s.heap := e0.mod.kin.keeps fun b o e => (e0.bs b o e).1
  have lim : s.heap.NoLimit := e0.mod.nolimit.keeps fun b o e => (e0.bs b o e).1
  let F' : NF := ⟨x, qual, defArgs st, defBody st, defScope st, [("__class__", cc)], cda⟩
  obtain ⟨te, tb, a, C, z, hva, ha, T, ⟨cdD, hD⟩, hmro, hsup, hVE, he, hrest, hte, htb⟩ := hbody F' A outer s H vs Q E rfl (hr.deeper _) hsp
  refine codeAny_call_function hr.depth (KX _ _ lk) rfl S.co S.gen rfl (codeRec_of KX hcd) (hb _ _ _ _ ?_)
  refine wpAny_newFunctionEnv S.nocell (fun ⟨n, _⟩ hy => S.par n (List.of_mem_zip hy).1) (fun h₁ hns hsb => ⟨lim.fresh _ hsb, ?_⟩) S.kind
  show codeAny _ _ (.func (defBody st) (envF F' f s.heap.objs.size)) _ _
  refine ks_codeAny_funcAt ?_
  have kp : ∀ b o, s.heap.get? b = some o → h₁.get? b = some o := fun b o e => hsb.extBut b o (Nat.ne_of_lt (Heap.lt_size e)) (Heap.get?_push_of_some _ e)
  have CA : CellsAt F'.cl ["__class__"] [none] s.heap H := by
    have lk1 : ∀ y c, F'.cl.lookup y = some c → y = "__class__" ∧ c = cc := fun y c e => by
      have e' : ([("__class__", cc)] : List (Str × Addr)).lookup y = some c := e
      by_cases hy : y = "__class__"
      · rw [hy] at e'
        exact ⟨hy, (Option.some.inj e').symm⟩
      · have hb : (y == ("__class__" : Str)) = false := beq_eq_false_iff_ne.mpr hy
        simp only [List.lookup, hb] at e'
        cases e'
    refine ⟨rfl, fun y c e => ?_, fun y1 y2 c e1 e2 => by rw [(lk1 y1 c e1).1, (lk1 y2 c e2).1], fun i y hy => ⟨cc, ?_, fun v hv => ?_⟩⟩
    · rw [(lk1 y c e).2]
      exact ⟨(e0.bs cc _ (e0.mod.kin _ _ lcc)).2, _, _, KX _ _ lcc, rfl⟩
    · cases i with
      | zero => cases hy; rfl
      | succ n => simp at hy
    · cases i with
      | zero => cases hv
      | succ n => simp at hv
  have I : Inv (ncx CX P w K mg base N F' f A outer s H E) [] (startF N vs [none]) H { s with heap := h₁, toks := s.toks + (ps.zip us).length } := inv_startN S hr.hd e0 hl r CA hns kp
  rw [hst]
  refine ks_wpAt_execs_cons (ks_wpAt_Expr_any (ks_wpAt_MethodCall (pl := pl _) ?_ (hev _)) (hint _ rfl))
  have hk0 : (defScope st).names.lookup ar.arg = some .local := S.par _ (List.mem_of_head? hp0)
  have hkc : (defScope st).names.lookup ("__class__" : Str) = some .free := S.frk _ List.mem_cons_self
  have K1 : K.In h₁ := fun b o e => kp b o (KX b o e)
  obtain ⟨oD, hD1, hD2⟩ : ∃ oD, h₁.get? D = some oD ∧ oD.data = .cls cdD := by
    unfold clsIn at hD
    split at hD
    · rename_i c0 d0 cd' sl ho
      cases hD
      exact ⟨_, K1 _ _ ho, rfl⟩
    · cases hD
  obtain ⟨t0, hea⟩ := exo_at I.hok ha
  obtain ⟨cd, hcl⟩ : ∃ cd, clsIn K C = some cd := by
    unfold ks_superIn at hsup
    cases hc : clsIn K C with
    | none => rw [hc] at hsup; cases hsup
    | some cd => exact ⟨cd, rfl⟩
  have hal : alongIn K "__init__" ((cd.mro.dropWhile (· != .ref D)).drop 1) = some (some (.builtin "ValueError.__init__")) := by
    unfold ks_superIn at hsup
    rw [hcl] at hsup
    exact hsup
  have hself : (ps.zip us).reverse.lookup ar.arg = some (.ref a) := by
    have ndP : ps.Nodup := (List.nodup_append.mp (S.pre ▸ S.nd.sublist (List.take_sublist (ps.length + 1) N))).1
    have hps : ps[0]? = some ar.arg := by rw [← List.head?_eq_getElem?]; exact hp0
    have hvs0 : vs[0]? = some (.ref a) := by rw [← List.head?_eq_getElem?]; exact hva
    obtain ⟨u, hu, ru⟩ := r.get hvs0
    obtain rfl : u = Value.ref a := ru
    exact zip_look ndP hps hu
  obtain ⟨mb, hb1, hb2⟩ := I.mod.blt
  refine ks_wpAt_super_base (prog := P) (w := w) (env := envF F' f s.heap.objs.size) hks hkc (by decide) rfl (K1 _ _ lk) rfl har rfl (K1 _ _ lcd) rfl h2 hfile htop ?_
  refine ks_loadName_global S.kind hks (loadGlobal_builtin (env := envF F' f s.heap.objs.size) (I.mod.glob.keeps I.bk) hms (hb1.keeps I.bk) ((hb2 _ (by decide)).trans (by first | boot_by_name | rfl | kernel_rfl)) ⟨rfl, ?_⟩)
  refine wpAny_loadName_free (env := envF F' f s.heap.objs.size) S.kind hkc rfl ⟨_, K1 _ _ lcc, rfl⟩ ?_
  refine wpAny_loadName_local (env := envF F' f s.heap.objs.size) S.kind hk0 hns hself ?_
  refine ks_wpAny_isType_cls hD1 hD2 ⟨rfl, ?_⟩
  refine ks_wpAny_call_super hD1 hD2 hea rfl (fun c z => by cases z) (looks_mroIn K1 hmro) (fun h2' eso k2 => ?_)
  have K2 : K.In h2' := fun b o e => k2 b o (K1 b o e)
  have Ia : Inv (ncx CX P w K mg base N F' f A outer s H E) [] (startF N vs [none]) H { s with heap := h2', toks := s.toks + (ps.zip us).length } := I.kept k2
  have hea2 := k2 _ _ hea
  have hne : a ≠ C := fun z => by
    have hC0 : ∃ o cd', h2'.get? C = some o ∧ o.data = .cls cd' := by
      unfold clsIn at hcl
      split at hcl
      · rename_i c0 d0 cd' sl ho
        exact ⟨_, _, K2 _ _ ho, rfl⟩
      · cases hcl
    obtain ⟨o, cd', e1, e2⟩ := hC0
    rw [← z, hea2] at e1
    cases e1
    cases e2
  have tyA : Looks (model P w) h2' (typeOf (.ref a)) (.ref C) := fun A Q E s k q => wpAny_typeOf_ref (k _ _ hea2) q
  refine kxs_getMethod (h := h2') kxs_ValueError eso (looks_opaque K2 hthird) (l₀ := cd.mro) (fun A Q E s k q => wpAny_bind ((looks_clsIn K2 hcl) A _ E s k (wpAny_pure q))) rfl K2 hal (tyA.andThen (looks_subIn K2 hVE)) hne (by decide) ?_
  have I2 := ClX.pin_new (a := h2'.objs.size) (o := kxs_mw "ValueError.__init__" a) (h' := h2'.push (kxs_mw "ValueError.__init__" a)) (t' := s.toks + (ps.zip us).length + 1) Ia (fun b u z => Heap.get?_push_of_some _ z) (Nat.le_refl _) (Heap.get?_push_size _ rfl) (fun v z => nomatch z)
  have hpa : PA (ncx CX P w K mg base N F' f A outer s H E) [e] (tCons te tNil) := pa_cons he pa_nil (by rw [show starEach [e] (ncx CX P w K mg base N F' f A outer s H E).env = _ from hse _]; rfl)
  refine kxs_callWith (i := "ValueError.__init__") (x := a) (by rw [hse]; rfl) ?_
  have hrun := hpa.run pos _ _ _ _ (fun xs H1 => xs = [z] ∧ H1 = H) I2 (hte _ ⟨rfl, rfl⟩)
  have est : backTo pos (starEach [e] (envF F' f s.heap.objs.size)) = [(false, eval e (envF F' f s.heap.objs.size))] := by
    rw [hse]
    rfl
  rw [est]
  refine evalArgs_plain (thn (show wpAny _ _ (spliced [(false, eval e (envF F' f s.heap.objs.size))]) _ _ _ from est ▸ hrun) fun xs s3 h3 => ?_)
  obtain ⟨zs, H3, I3, rv, ezs, eH⟩ := h3
  subst ezs
  rw [eH] at I3
  refine ⟨(I3.pin _ (List.mem_append_right _ List.mem_cons_self)).1, ?_⟩
  obtain ⟨nmC, qC, NC, bsC, bmC, snC, subC, abC, colC, ddC, c0, c1, c2, c3, c5, hC, hbm⟩ := T.cls
  obtain ⟨t3, he3⟩ := exo_at I3.hok ha
  have hu3 := (I3.pin _ (List.mem_append_right _ List.mem_cons_self)).1
  have hlx : xs.length ≤ sizeLine := by
    have := Paired.length rv
    simp at this
    rw [← this]
    exact sz_le (by decide)
  obtain ⟨hp3, g3, d3, tk3, os3⟩ := s3
  show wpAny _ _ (call (.ref h2'.objs.size) ([] ++ xs)) _ _ _
  refine mw_call (I3.kIn _ _ hC) he3 hu3 hlx (fun h4 t4 k4 he4 => ?_)
  have J := (ClX.unpin I3).write (t' := tk3) (x := a) (e := a) (o := exo a C none) (by rw [ha]; exact True.intro) (.inl rfl) k4 ⟨_, he4⟩ (exo_ok he4)
  have eu : upd H a (exo a C none) = H := by
    funext b
    by_cases hb : b = a
    · rw [hb, upd_same, ha]
    · rw [upd_ne hb]
  rw [eu] at J
  refine wpAt_of_wpAny (wpAny_mono (hrest.run [] _ _ _ _ J htb) (fun fl s' hs => ?_) fun e s' hs => hs)
  have fin : ∀ {σ' : L2.St} {H' : Hp} {v : V} {u : Value}, Inv (ncx CX P w K mg base N F' f A outer s H E) [] σ' H' s' → L2.RelV v u → Q v H' → CE outer P w H s Q u s' :=
    fun {σ' H' v u} J rv q => ⟨v, H', J.os, J.bare, J.base, J.hok, rv, q⟩
  cases fl with
  | ret u =>
    obtain ⟨v, σ', H', J, rv, q⟩ := hs
    exact fin J rv q
  | next =>
    obtain ⟨σ', H', J, q⟩ := hs
    exact fin (v := V.non) (u := Value.none) J rfl q
  | brk =>
    obtain ⟨_, _, _, q⟩ := hs
    exact False.elim q
  | cont =>
    obtain ⟨_, _, _, q⟩ := hs
    exact False.elim q
end
end
section
open PySem.Spec PySem.Calls PySem.W PyProof.Rows LamX NdefX
/-! ### an own exception made, its context None -/
section
variable {X : Cx} {e : Expr} {es : List Expr} {ta : TA} {p pos : Pos}
theorem pmkN {CX : CXT} {x : Str} {C fI : Addr} {k : Nat} {fd : FuncData} {ps : List Str} {sp : Sp} (T : OexC X.K C) (iC : findIn X.K (.ref C) "__init__" = some (some (.ref fI))) (tI : typeIn X.K (.ref fI) = some (.type "function")) (F1 : FnOk X.prog X.w X.K X.mg X.base CX k fI fd ps sp) (hr : Room (k + 1) X.A)
    (hb : Binds X.K fd ps []) (hx : Passes CX X (fun _ _ _ => False)) (hg : Gl X x) (hm : X.mg x = some (.ref C)) (ha : PA X (e :: es) ta) (hdb : (x == ("__debug__" : Str)) = false := by decide) (he : starEach (e :: es) X.env = (false, eval e X.env) :: starEach es X.env := by rfl)
    (hpl : (backTo pos (starEach es X.env)).any (·.1) = false := by rfl) : L2N.PMk X (.Call (.Name x p) (e :: es) [] pos) (tMkO C sp [] ta) := by
  intro pins s σ H Q I h
  obtain ⟨nm, q, N, bs, bm, sn, sub, ab, col, dd, k0, k1, k2, k3, k5, hC, hbm⟩ := T.cls
  refine wpAny_Call_Name_kw (ld_glob I hg hm ?_ hdb)
  refine PySem.W.callWith_K (h₀ := X.base) I.ok.mod.kin T.kC (thn (ha.run pos pins s σ H _ I h) fun us s1 hh => ?_) he hpl
  obtain ⟨vs, H1, I1, r1, hz, q1⟩ := hh
  refine ⟨I1.kIn, ?_⟩
  obtain ⟨hp, g, dr, tk, os⟩ := s1
  let a : Addr := hp.objs.size + 1
  let h2 : Heap := (hp.push (kdv_tup us)).push (HandSPX.excO C hp.objs.size)
  have hsz : hp.objs.size ≤ a := Nat.le_succ _
  have hq := q1 a (I1.hok.fresh hsz)
  rw [List.append_nil] at hq
  have kk : ∀ b o, hp.get? b = some o → h2.get? b = some o := fun b o z => Heap.get?_push_of_some _ (Heap.get?_push_of_some _ z)
  have hget : h2.get? a = some (HandSPX.excO C hp.objs.size) := by
    show ((hp.push (kdv_tup us)).push (HandSPX.excO C hp.objs.size)).get? (hp.objs.size + 1) = _
    heap_get
  have I2 : Inv X pins σ (upd H1 a (exo a C none)) ⟨h2, g, dr, tk, os⟩ := I1.laid (t' := tk) (a := a) (o := exo a C none) (h' := h2) kk hsz (exo_ok hget)
  have hus : us.length ≤ sizeLine := by
    rw [← Paired.length r1, sizeLine_eq]
    omega
  have hl : (Value.ref a :: us).length = ps.length := by
    have z := F1.len _ _ _ _ hq
    rw [← z]
    show us.length + 1 = vs.length + 1
    rw [r1.length]
  have b2 := hb ⟨h2, g, dr, tk, os⟩ (Value.ref a :: us) I2.kIn (by rw [List.append_nil]; exact hl)
  rw [List.append_nil] at b2
  apply wpAny_call
  refine HandSPX.call_own F.excBase_ValueError (fun Y => HandSPX.refsVE_contains Y bm hbm) (I1.kIn _ _ hC) (looks_findIn I1.kIn iC) (fun self => bind_fn I1.kIn self tI) hus ?_
  refine codeAny_mono (F1.run _ X.stack _ _ ⟨Value.ref a :: us, []⟩ (Value.ref a :: us) (V.ref a :: vs) _ (fun _ _ _ => False) (hr.make C us []) (I2.env0.make C us []) b2 (.cons rfl r1) hq) fun r s' hq' => ?_
  match r, hq' with
  | .error er, hq' => exact hx pins σ _ _ er s' I2 hq'
  | .ok .next, hq' => exact False.elim hq'
  | .ok .brk, hq' => exact False.elim hq'
  | .ok .cont, hq' => exact False.elim hq'
  | .ok (.ret u), hq' =>
    obtain ⟨v, H2, os2, bare2, un2, hok2, rv, ev, d, fs, ea, ed, hd1, q2⟩ := hq'
    subst ev
    obtain ⟨h3, g2, d2, t2, os'⟩ := s'
    obtain ⟨t0, G, J, kG, ge, hoe, na⟩ := mk_end0 (d2 := d2) (t2 := t2) I1 hsz kk un2 hok2 os2 bare2 ea ed hd1
    exact ⟨rv, a, _, _, ⟨G, g2, d2, t2, os'⟩, _, .ref C, some d, rfl, J, kG, ge, hoe, ⟨rfl, rfl, fun ws z => by cases z; rfl⟩, rfl, rfl, na, rfl, bare2, raises_own T.exC T.tyC, q2⟩
end
/-- nothing leaves, seen from a place whence something may -/
theorem passN {X : Cx} : Passes C8.CX0 X (fun _ _ _ => False) := fun _ _ _ _ _ _ _ h => h.elim
section
variable {P : Program} {w : World} {K : Frag} {mg : Str → Option Value} {base : Heap}
/-- a def of the text by its body, whatever it may let out -/
theorem FunOkC {CX : CXT} {x qual : Str} {st : Stmt} {f : Addr} {fd : FuncData} {N ps : List Str} {k : Nat} {sp : Sp} (F : L2.Fun K x qual st f fd) (S : FnScope N ps (defScope st)) (len : ∀ vs H Q E, sp vs H Q E → vs.length = ps.length)
    (hbody : ∀ (cdv : Value) (A : Around) (outer : List Env) (s : Shared) (H : Hp) (vs : List V) (Q : VK) (E : XK), Room k (A.deeper (envOfC qual (defScope st) s.heap.objs.size f cdv)) → sp vs H Q E →
      ∃ t, PSs (cxOf CX P w K mg base N qual (defScope st) f cdv A outer s H E) (defBody st) t ∧ t { nx := fun _ H' => Q .non H', rt := Q } (L2.start N vs) H) : FnOk P w K mg base CX (k + 1) f fd ps sp := by
  obtain ⟨oc, od, kV, doc, pm, an, cdv, ct, osl, rfl, lk, hcd⟩ := F.ex
  exact fn_of lk hcd S len fun A outer s H vs Q E hr hsp => hbody cdv A outer s H vs Q E hr hsp
/-! ### a promise of the very state -/
abbrev SpS := List V → List Env → Shared → Hp → VK → XK → Prop
structure FnS (P : Program) (w : World) (K : Frag) (mg : Str → Option Value) (base : Heap) (CX : CXT) (k : Nat) (f : Addr) (ps : List Str) (sp : SpS) : Prop where
  len : ∀ vs o s H Q E, sp vs o s H Q E → vs.length = ps.length
  run : ∀ (A : Around) (outer : List Env) (s : Shared) (H : Hp) (us : List Value) (vs : List V) (Q : VK) (E : XK), Room k A → Env0 P w K mg base A outer s H → Vals vs us → sp vs outer s H Q E → codeAny (model P w) A (.call (.ref f) ⟨us, []⟩) (CR CX outer P w H s Q E) s
theorem FunOkS {CX : CXT} {x qual : Str} {st : Stmt} {f : Addr} {fd : FuncData} {N ps : List Str} {k : Nat} {sp : SpS} (F : L2.Fun K x qual st f fd) (hb : Binds K fd ps []) (S : FnScope N ps (defScope st)) (len : ∀ vs o s H Q E, sp vs o s H Q E → vs.length = ps.length)
    (hbody : ∀ (cdv : Value) (A : Around) (outer : List Env) (s : Shared) (H : Hp) (vs : List V) (Q : VK) (E : XK), Room k (A.deeper (envOfC qual (defScope st) s.heap.objs.size f cdv)) → sp vs outer s H Q E →
      ∃ t, PSs (cxOf CX P w K mg base N qual (defScope st) f cdv A outer s H E) (defBody st) t ∧ t { nx := fun _ H' => Q .non H', rt := Q } (L2.start N vs) H) : FnS P w K mg base CX (k + 1) f ps sp := by
  obtain ⟨oc, od, kV, doc, pm, an, cdv, ct, osl, rfl, lk, hcd⟩ := F.ex
  refine ⟨len, fun A outer s H us vs Q E hr e0 r hsp => ?_⟩
  have hl := len _ _ _ _ _ _ hsp
  have KX : K.In s.heap := e0.mod.kin.keeps fun b o z => (e0.bs b o z).1
  have b2 := hb s us KX (by rw [List.append_nil, ← hl]; exact r.length.symm)
  rw [List.append_nil] at b2
  exact run_ofS (us := us) (vs := vs) lk hcd S hr e0 b2 r hl fun hr' => hbody cdv A outer s H vs Q E hr' hsp
end
section
variable {X : Cx} {CX : CXT} {k i : Nat} {f g : Addr} {ps fr : List Str} {F : LF} {ws : List (Option V)} {sp : SpS} {E : XK} {x a : Str} {p p1 p2 pos : Pos} {e : Expr} {es : List Expr} {t : TA} {lp : List (Option V) → Hp → VK → XK → Prop}
theorem pe_callS (G : FnS X.prog X.w X.K X.mg X.base CX k g ps sp) (hr : Room k X.A) (hg : Gl X x) (hm : X.mg x = some (.ref g)) (hk : keepIn X.K (.ref g) = true) (hx : Passes CX X E) (ha : PA X (e :: es) t) (hdb : (x == ("__debug__" : Str)) = false := by decide)
    (he : starEach (e :: es) X.env = (false, eval e X.env) :: starEach es X.env := by rfl) (hpl : (backTo pos (starEach es X.env)).any (·.1) = false := by rfl) :
    PE X (.Call (.Name x p) (e :: es) [] pos) (fun σ H Q => t σ H fun vs H1 => ∀ pins s1, Inv X pins σ H1 s1 → sp vs X.stack s1 H1 Q E) := by
  refine ⟨fun pins s σ H Q I h => ?_⟩
  refine wpAny_Call_Name_kw (ld_glob I hg hm ?_ hdb)
  refine callWith_K (h₀ := X.base) I.ok.mod.kin hk (thn (ha.run pos pins s σ H _ I h) fun us s1 hh => ?_) he hpl
  obtain ⟨vs, H1, I1, r, q⟩ := hh
  refine ⟨I1.kIn, wpAny_call (codeAny_mono (G.run X.A X.stack s1 H1 us vs Q E hr I1.env0 r (q pins s1 I1)) fun r s' hq => ?_)⟩
  match r, hq with
  | .error er, hq => exact hx pins σ H1 s1 er s' I1 hq
  | .ok (.ret u), hq => exact I1.after hq
  | .ok .next, hq => exact False.elim hq
  | .ok .brk, hq => exact False.elim hq
  | .ok .cont, hq => exact False.elim hq
/-- a(), a the slot that holds the lambda -/
theorem pe_act {E : L2.St → XK} (L : LOk X.prog X.w X.K X.mg X.base CX k f F fr lp) (A0 : Act f F fr ws X.fs X.s_0 X.H_0) (hex : X.ex = []) (hr : Room k X.A) (hx : ∀ σ, PassesAt CX X σ (E σ)) (hN : X.N[i]? = some a) (hv : Vis X.env.scope a) (hd : (a == ("__debug__" : Str)) = false := by decide) (hcd : (a == ("__classdict__" : Str)) = false := by decide) :
    PE X (.Call (.Name a p1) [] [] p2) (fun σ H Q => σ[i]? = some (some (.ref f)) ∧ Lv f F H ∧ lp ws H Q (E σ)) := by
  refine ⟨fun pins s σ H Q I h => ?_⟩
  obtain ⟨hs, lv, hq⟩ := h
  refine wpAny_Call_Name_kw (thn ((pe_var (pos := p1) (i := i) hN hv hd hcd).run pins s σ H (fun v H1 => v = .ref f ∧ H1 = H) I ⟨.ref f, hs, rfl, rfl⟩) fun u s1 hh => ?_)
  obtain ⟨v, H1, I1, r1, ev, eH⟩ := hh
  subst ev
  rw [eH] at I1
  cases r1
  obtain ⟨od, sl, pm, ct, ho⟩ := LamO.at_ I1.hok lv.fn
  refine callWith_F0 ⟨_, _, _, _, ho⟩ (wpAny_call (codeAny_mono (L X.A X.stack s1 H ws Q (E σ) hr I1.env0 lv (A0.later hex I1 lv).cells hq) fun r s' hq' => ?_))
  match r, hq' with
  | .error er, hq' => exact hx σ pins H s1 er s' I1 hq'
  | .ok (.ret u), hq' => exact I1.after hq'
  | .ok .next, hq' => exact False.elim hq'
  | .ok .brk, hq' => exact False.elim hq'
  | .ok .cont, hq' => exact False.elim hq'
end
end
section
open PySem.Spec PySem.Calls PySem.W PyProof.Rows LamX NdefX
/-! ### the caught exception, where it is pinned -/
/-- it stands at a, of the class at D, its fields fs -/
structure Cgt (X : Cx) (D a : Addr) (oe : Obj) (d : Option Addr) : Prop where
  mem : (a, oe) ∈ X.pn
  zn : L2N.Zn (.ref D) d oe
  fl : ∃ vs, oe.data = .fields vs
def FldsAt (H : Hp) (d : Option Addr) (fs : List (Str × V)) : Prop := match d with
  | none => fs = []
  | some dd => H dd = some (.xd fs)
theorem FldsAt.keep {H H' : Hp} {S : List Addr} {d : Option Addr} {fs : List (Str × V)} (h : FldsAt H d fs) (f : Fr S H H') (n : ∀ b ∈ S, ∀ fs, H b ≠ some (.xd fs)) : FldsAt H' d fs := by
  cases d with
  | none => exact h
  | some dd => exact f dd _ h fun hb => n dd hb fs h
section
variable {X : Cx} {D a : Addr} {oe : Obj} {d : Option Addr} {pins : List (Addr × Obj)} {σ : L2.St} {H : Hp} {s : Shared} {fs : List (Str × V)}
theorem Cgt.inst (c : Cgt X D a oe d) (I : Inv X pins σ H s) (hf : FldsAt H d fs) : ∃ od, InstAt s.heap a oe D od ∧ (∀ o, od = some o → ∃ mA : Str → Option Value, (∀ n, lookIn n o = some (mA n)) ∧ ∀ n, RelO (fs.lookup n) (mA n)) ∧ (od = none ↔ d = none) := by
  obtain ⟨hget, _⟩ := I.pin (a, oe) (List.mem_append_left _ c.mem)
  obtain ⟨vs, hv⟩ := c.fl
  obtain ⟨z1, z2, _⟩ := c.zn
  cases d with
  | none =>
    refine ⟨none, ⟨hget, z1, ?_, ?_⟩, (fun o z => by cases z), by simp⟩
    · unfold notCls
      rw [hv] <;> rfl
    · rw [z2]
      trivial
  | some dd =>
    have hx : ObjOk X.prog X.w H s.heap dd (.xd fs) := I.hok dd _ hf
    obtain ⟨mA, hns, hr⟩ := hx
    obtain ⟨od, ho, hl⟩ := lookIn_ns hns
    refine ⟨some od, ⟨hget, z1, ?_, ?_⟩, fun o z => by cases z; exact ⟨mA, hl, hr⟩, by simp⟩
    · unfold notCls
      rw [hv] <;> rfl
    · rw [z2]
      exact ho
/-- isinstance(e, c) -/
def rIsC (K : Frag) (D a : Addr) (d : Option Addr) : List V → Hp → VK → Prop := fun xs H Q => ∃ (c : V) (cv : Value) (b : Bool) (fs : List (Str × V)), xs = [.ref a, c] ∧ FldsAt H d fs ∧ (∀ u, RelV c u → u = cv) ∧ kitOne K (.ref D) cv = some b ∧ Q (.bl b) H
theorem call_isC (C : ExcC X.K D) (c : Cgt X D a oe d) : CallR X (.builtin "isinstance") (rIsC X.K D a d) := by
  intro pins s σ H xs us Q I r h
  obtain ⟨cl, cv, b, fs, rfl, hf, hcv, e, q⟩ := h
  cases r with
  | cons rx rr =>
    cases rr with
    | cons rt rr =>
      cases rr
      cases rx
      cases hcv _ rt
      obtain ⟨od, J, _⟩ := c.inst I hf
      have hcl : (clsIn X.K D).isSome = true := by
        obtain ⟨cd, z, _⟩ := any_some C.hd
        rw [z]
        rfl
      exact kia_one (kitx_exc hcl C.hg C.hk C.hs C.ha C.hn C.ht C.hm) I.kIn J e (fun z => nomatch z) fun tk => ⟨.bl b, H, I.kept (t' := tk) fun _ _ z => z, rfl, q⟩
/-- e.n -/
def tFldC (D a : Addr) (d : Option Addr) (n : Str) (te : TE) : TE := fun σ H Q => te σ H fun x H1 => x = .ref a ∧ ∃ (fs : List (Str × V)) (v : V), d ≠ none ∧ FldsAt H1 d fs ∧ fs.lookup n = some v ∧ Q v H1
theorem pe_fldC {e : Expr} {te : TE} {pos : Pos} {n : Str} (T : XfC X.K D) (hno : findIn X.K (.ref D) n = some none) (c : Cgt X D a oe d) (he : PE X e te) (hb : attributeBase e n X.env (eval e X.env) = eval e X.env := by rfl) : PE X (.Attribute e n pos) (tFldC D a d n te) := by
  refine ⟨fun pins s σ H Q I h => ?_⟩
  refine attr_of hb (thn (he.run pins s σ H _ I h) fun u s1 hh => ?_)
  obtain ⟨x, H1, I1, rx, ex, fs, v, hd, hf, l, q⟩ := hh
  subst ex
  obtain rfl : u = Value.ref a := rx
  obtain ⟨od, J, hA, hn⟩ := c.inst I1 hf
  cases od with
  | none => exact absurd (hn.mp rfl) hd
  | some o =>
    obtain ⟨mA, hl, hr⟩ := hA o rfl
    obtain ⟨w, hw, rw'⟩ := RelO.some_of (v := v) (o := mA n) (by rw [← l]; exact hr n)
    exact HandSPX.exc_get I1.kIn J T.ga T.gg T.exC (findObj_own T.hdC hno rfl (by rw [hl, hw])) (handed_of rw') ⟨v, H1, I1.tok _, rw', q⟩
end
/-! ### defs called while the exception p is handled -/
def FnP (P : Program) (w : World) (K : Frag) (mg : Str → Option Value) (base : Heap) (CX : CXT) (k : Nat) (f : Addr) (p : Addr × Obj) (sp : Sp) : Prop :=
  ∀ (A : Around) (outer : List Env) (s : Shared) (H : Hp) (us : List Value) (vs : List V) (Q : VK) (E : XK), L2H.RoomH k A → L2H.Hot1 A p → L2H.PinOk outer H s p → Env0 P w K mg base A outer s H → Vals vs us → sp vs H Q E → codeAny (model P w) A (.call (.ref f) ⟨us, []⟩) (CR CX outer P w H s Q E) s
section
variable {P : Program} {w : World} {K : Frag} {mg : Str → Option Value} {base : Heap}
theorem FunOkP {CX : CXT} {x qual : Str} {st : Stmt} {f : Addr} {fd : FuncData} {N ps : List Str} {k : Nat} {sp : Sp} {p : Addr × Obj} (F : L2.Fun K x qual st f fd) (hb : Binds K fd ps []) (S : FnScope N ps (defScope st)) (len : ∀ vs H Q E, sp vs H Q E → vs.length = ps.length)
    (hbody : ∀ (cdv : Value) (A : Around) (outer : List Env) (s : Shared) (H : Hp) (vs : List V) (Q : VK) (E : XK), L2H.RoomH k (A.deeper (envOfC qual (defScope st) s.heap.objs.size f cdv)) → sp vs H Q E →
      ∃ t, PSs (L2H.cxH CX P w K mg base N qual (defScope st) f cdv A outer s H E p) (defBody st) t ∧ t { nx := fun _ H' => Q .non H', rt := Q } (L2.start N vs) H) : FnP P w K mg base CX (k + 1) f p sp := by
  obtain ⟨oc, od, kV, doc, pm, an, cdv, ct, osl, rfl, lk, hcd⟩ := F.ex
  intro A outer s H us vs Q E hr hot hpin e0 r hsp
  have hl := len _ _ _ _ hsp
  have KX : K.In s.heap := e0.mod.kin.keeps fun b o z => (e0.bs b o z).1
  have lim : s.heap.NoLimit := e0.mod.nolimit.keeps fun b o z => (e0.bs b o z).1
  have b2 := hb s us KX (by rw [List.append_nil, ← hl]; exact r.length.symm)
  rw [List.append_nil] at b2
  have hkind : ∀ y ∈ ps.zip us, (defScope st).names.lookup y.1 = some .local ∨ ((defScope st).names.lookup y.1 = some .cell ∧ ((cellsFrom (s.heap.objs.size + 1) (defScope st).names []).lookup y.1).isSome = true) := fun ⟨n, v⟩ hy =>
    (S.par n (List.of_mem_zip hy).1).elim .inl fun z => .inr ⟨z, cellsFrom_some _ _ _ (.inl z)⟩
  refine codeAny_call_function hr.depth (KX _ _ lk) rfl S.co S.gen rfl (codeRec_of KX hcd) (b2 _ _ _ _ ?_)
  refine wpAny_newFunctionEnv_cells S.kind hkind fun env he s1 x => ?_
  subst he
  refine ⟨lim.keeps x.toInCall.keep, codeAny_func ?_⟩
  obtain ⟨t, ht, hq⟩ := hbody cdv A outer s H vs Q E (hr.deeper _) hsp
  refine wpAny_mono (ht.run [] s1 (L2.start N vs) H _ (L2H.inv_startH S hpin e0 hl r x) hq) (fun fl s' hs => ?_) fun e s' hs => hs
  match fl, hs with
  | .ret u, hs =>
    obtain ⟨v, σ', H', J, rv, q⟩ := hs
    exact ⟨v, H', J.os, J.bare, J.base, J.hok, rv, q⟩
  | .next, hs =>
    obtain ⟨σ', H', J, q⟩ := hs
    exact ⟨.non, H', J.os, J.bare, J.base, J.hok, rfl, q⟩
  | .brk, hs =>
    obtain ⟨_, _, _, q⟩ := hs
    exact False.elim q
  | .cont, hs =>
    obtain ⟨_, _, _, q⟩ := hs
    exact False.elim q
end
section
variable {X : Cx} {k : Nat} {f : Addr} {p : Addr × Obj} {sp : Sp} {E : XK} {x : Str} {q pos : Pos} {e : Expr} {es : List Expr} {t : TA}
theorem pe_callP (F : FnP X.prog X.w X.K X.mg X.base C8.CX0 k f p sp) (hr : L2H.RoomH k X.A) (hot : L2H.Hot1 X.A p) (hp : p ∈ X.pn) (hg : Gl X x) (hm : X.mg x = some (.ref f)) (hk : keepIn X.K (.ref f) = true) (ha : PA X (e :: es) t) (hdb : (x == ("__debug__" : Str)) = false := by decide)
    (he : starEach (e :: es) X.env = (false, eval e X.env) :: starEach es X.env := by rfl) (hpl : (backTo pos (starEach es X.env)).any (·.1) = false := by rfl) : PE X (.Call (.Name x q) (e :: es) [] pos) (tCall sp [] C8.E0 t) := by
  refine ⟨fun pins s σ H Q I h => ?_⟩
  refine wpAny_Call_Name_kw (ld_glob I hg hm ?_ hdb)
  refine callWith_K (h₀ := X.base) I.ok.mod.kin hk (thn (ha.run pos pins s σ H _ I h) fun us s1 hh => ?_) he hpl
  obtain ⟨vs, H1, I1, r, q1⟩ := hh
  rw [List.append_nil] at q1
  have P1 := I1.pin p (List.mem_append_left _ hp)
  have hpin : L2H.PinOk X.stack H1 s1 p := ⟨P1.1, P1.2.1, fun hm => (List.mem_cons.mp (I1.stkSub p.1 hm)).elim P1.2.2.1 P1.2.2.2.1, P1.2.2.2.2⟩
  refine ⟨I1.kIn, wpAny_call (codeAny_mono (F X.A X.stack s1 H1 us vs Q C8.E0 hr hot hpin I1.env0 r q1) fun r s' hq => ?_)⟩
  match r, hq with
  | .error er, hq => exact False.elim hq
  | .ok (.ret u), hq => exact I1.after hq
  | .ok .next, hq => exact False.elim hq
  | .ok .brk, hq => exact False.elim hq
  | .ok .cont, hq => exact False.elim hq
theorem any_eqU_n {x : V} : ∀ {xs : List V} {us : List Value}, Vals xs us → xs.all flatV = true → us.countP (eqU x) = xs.countP fun y => eqV y x
  | _, _, .nil, _ => rfl
  | y :: xs, u :: us, .cons r t, f => by
    rw [List.all_cons, Bool.and_eq_true] at f
    rw [List.countP_cons, List.countP_cons, any_eqU_n t f.2, eqU_of r f.1]
def rCntV (K : Frag) : V → List V → Hp → VK → Prop := fun x xs H Q => ∃ (p : Addr) (ys : List V) (y : V), x = .ref p ∧ xs = [y] ∧ SqL K H p ys ∧ flatV y = true ∧ ys.all flatV = true ∧ Q (.int (ys.countP (fun z => eqV z y) : Nat)) H
theorem mt_lcountV : MtR X "list.count" (rCntV X.K) := by
  intro pins s σ H x xs v us Q I rx rxs h
  obtain ⟨p, ys, y, rfl, rfl, hs, fy, fys, q⟩ := h
  cases rx
  obtain ⟨u, rfl, ru⟩ := rxs.one
  obtain ⟨its, rv, ⟨⟨cls, dd, data, sl⟩, n, ho, hc, hdn, hd⟩, hlen⟩ := I.list hs
  simp only at hc hd
  subst hc hd
  refine call_meets PySem.F.slot_list_count ⟨_, ho, rfl⟩ PySem.F.entry_list_count (PySem.F.args_list_count_2 _ _) (SeqAt.list_countAt p its.toArray n dd sl u (eqU y)) ⟨ho, fun z hz => mem_eqAt ru fy rv fys z (by simpa using hz), ?_⟩
  have ec : its.toArray.toList.countP (eqU y) = ys.countP fun z => eqV z y := by
    rw [show its.toArray.toList = its from rfl]
    exact any_eqU_n rv fys
  refine ⟨.int (ys.countP (fun z => eqV z y) : Nat), H, I.tok _, ⟨s.toks, ?_⟩, q⟩
  show Value.int ((its.toArray.toList.countP (eqU y) : Nat) : Int) s.toks = _
  rw [ec]
end
end
section
open PySem.Spec PySem.Calls PySem.W PyProof.Rows LamX NdefX
/-! ### the law's row, where the law makes lambdas -/
section
open Att
theorem tabIn_of {K : Frag} {x : Str} {f c P : Addr} {oc : Value} {od : Option Addr} {fd : FuncData} {sl : Array (Option Value)} {cl : Value} {cdd : Option Addr} {vs : Array Value} {csl : Array (Option Value)} (a : nsIn K mainGlobals x = some (some (.ref f))) (l : K.lookup f = some ⟨oc, od, .func fd, sl⟩) (hc : fd.code = .ref c)
    (lc : K.lookup c = some ⟨cl, cdd, .fields vs, csl⟩) (tp : (vs[11]? : Option Value) = some (.ref P)) : tabIn K x = some (c, P) := by
  unfold tabIn
  rw [a]
  simp only [l, hc, lc, tp]
theorem lawat {l : OpenLaw} {w : World} {K : Frag} {q : Program} {loose : List Str} {mean : ExcName → Option Value} {d : DefRec} {h : Heap} {mg mb : Str → Option Value} {fa c P : Addr} {fd : FuncData} {k n : Nat} {x : Str} {sp : Sp} (TT : Top q loose mean mg mb h) (X : K.In h) (nt : noTabs K = true)
    (hrec : (recsOf q).find? (fun e => e.name == ("law" : Str)) = some d) (ti : tabIn K "law" = some (c, P)) (hb : ∀ (s : Shared) (u : Value), BindsTo s fd ⟨[u], []⟩ [(x, u)]) (F : ∀ base : Heap, K.In base → base.Ns mainGlobals mg → TabB base mg c P → FnOk l.prog w K mg base C8.CX0 k fa fd [x] sp)
    (hsp : ∀ (H : Hp) (a : Addr) (ns : List Int), ns.length ≤ n → H P = some (.tbl #[]) → SqL K H a (ns.map V.int) → sp [.ref a] H (fun v _ => v = .bl true) fun _ _ _ => False) : LawAtS l w K C8.CX0 k n x mg fa h := by
  obtain ⟨C, hT⟩ := tab_of TT X hrec ti
  have one : ∀ {α : Prop} {p : Addr × Addr}, p ∈ [(c, P)] → ((p = (c, P)) → α) → α := fun hp f => f (List.mem_singleton.mp hp)
  refine ⟨fd, [(c, P)], sp, fun p hp => by rw [List.mem_singleton.mp hp]; exact hT, fun p hp => ?_, fun p hp => by rw [List.mem_singleton.mp hp]; exact C, hb, fun H a ns hl _ hH hS => hsp H a ns hl (hH (c, P) (List.mem_singleton.mpr rfl)) hS, fun base KB GB hTB => F base KB GB (hTB (c, P) (List.mem_singleton.mpr rfl))⟩
  rw [List.mem_singleton.mp hp]
  show K.lookup P = none
  cases hk : K.lookup P with
  | none => rfl
  | some o =>
    have e := X _ _ hk
    rw [hT] at e
    cases e
    unfold noTabs at nt
    have z := List.all_eq_true.mp nt _ (mem_of_lookupK hk)
    simp [tabObj] at z
theorem lawat2 {l : OpenLaw} {w : World} {K : Frag} {q : Program} {loose : List Str} {mean : ExcName → Option Value} {d d2 : DefRec} {h : Heap} {mg mb : Str → Option Value} {fa c P c2 P2 : Addr} {fd : FuncData} {k n : Nat} {x x2 : Str} {sp : Sp} (TT : Top q loose mean mg mb h) (X : K.In h) (nt : noTabs K = true)
    (hrec : (recsOf q).find? (fun e => e.name == ("law" : Str)) = some d) (ti : tabIn K "law" = some (c, P)) (hrec2 : (recsOf q).find? (fun e => e.name == x2) = some d2) (ti2 : tabIn K x2 = some (c2, P2)) (hb : ∀ (s : Shared) (u : Value), BindsTo s fd ⟨[u], []⟩ [(x, u)]) (F : ∀ base : Heap, K.In base → base.Ns mainGlobals mg → TabB base mg c P → TabB base mg c2 P2 → FnOk l.prog w K mg base C8.CX0 k fa fd [x] sp)
    (hsp : ∀ (H : Hp) (a : Addr) (ns : List Int), ns.length ≤ n → H P = some (.tbl #[]) → H P2 = some (.tbl #[]) → SqL K H a (ns.map V.int) → sp [.ref a] H (fun v _ => v = .bl true) fun _ _ _ => False) : LawAtS l w K C8.CX0 k n x mg fa h := by
  obtain ⟨C, hT⟩ := tab_of TT X hrec ti
  obtain ⟨C2, hT2⟩ := tab_of TT X hrec2 ti2
  have none_of : ∀ {c P : Addr}, h.get? P = some { cls := .none, data := .fields #[] } → K.lookup P = none := fun {c P} hT => by
    cases hk : K.lookup P with
    | none => rfl
    | some o =>
      have e := X _ _ hk
      rw [hT] at e
      cases e
      unfold noTabs at nt
      have z := List.all_eq_true.mp nt _ (mem_of_lookupK hk)
      simp [tabObj] at z
  have two : ∀ {R : Addr × Addr → Prop}, R (c, P) → R (c2, P2) → ∀ p ∈ [(c, P), (c2, P2)], R p := fun r1 r2 p hp => by
    rcases List.mem_cons.mp hp with e | hp
    · rw [e]; exact r1
    · rw [List.mem_singleton.mp hp]; exact r2
  exact ⟨fd, [(c, P), (c2, P2)], sp, two (R := fun p => h.get? p.2 = some { cls := .none, data := .fields #[] }) hT hT2, two (R := fun p => K.lookup p.2 = none) (none_of (c := c) hT) (none_of (c := c) hT2), two (R := fun p => CodeHd h p.1 p.2) C C2, hb,
    fun H a ns hl _ hH hS => hsp H a ns hl (hH (c, P) (List.mem_cons_self)) (hH (c2, P2) (List.mem_cons_of_mem _ (List.mem_singleton.mpr rfl))) hS, fun base KB GB hTB => F base KB GB (hTB (c, P) (List.mem_cons_self)) (hTB (c2, P2) (List.mem_cons_of_mem _ (List.mem_singleton.mpr rfl)))⟩
theorem walk_lam {l : OpenLaw} {n k : Nat} {q : Program} {loose : List Str} {XP : (Str → Option Value) → Heap → Prop} {YP : World → Heap → Prop} {d : DefRec} {K : Params → Frag} {x : Str} (hn : l.most = some n) (hn2 : n ≤ sizeLine) (hdf : d.params.defaults = []) (hr : Room k callerA) (hY : ∀ (w : World) (h : Heap), YP w h → (K w.params).In h)
    (F : ∀ (w : World) (lo : List Str) (mean : ExcName → Option Value) (mg mb : Str → Option Value) (fa : Addr) (h : Heap), (K w.params).In h → Top q lo mean mg mb h → mg d.name = some (.ref fa) → LawAtS l w (K w.params) C8.CX0 k n x mg fa h) : WalkO q loose XP YP l.row.toRowW d [] (fun f vs => PySem.call f vs) := by
  refine attach_callB hn hdf fun w s₀ s₁ mg mb fa o pm cd doc a vs ns G Y ho hd hcd hmg hobj hints hlen hbits hg => ?_
  have KX := hY w _ Y
  obtain ⟨fd, cs, sp, hT, nT, C, hb, hsp, hF⟩ := F w _ _ mg mb fa _ KX G.T hmg
  exact law_callTs KX G.T.g G.T.b G.T.builtins G.T.nolimit hg hT nT C G.T.bmain hobj hints (Nat.le_trans hlen hn2) hr hF hb (fun H hH hS => hsp H a ns hlen hbits hH hS) fun H e s' z => z
end
end
def top (i : Nat) : Stmt := PySem.Challenge.pw_keepbefore_k54_prices_and_costs.main.body.getD i (.Pass ⟨0, 0, 0, 0⟩)
abbrev s_is_number : Stmt := top 29
theorem sc_is_number : FnScope ["thing"] ["thing"] (defScope s_is_number) := ⟨rfl, rfl, rfl, by decide +kernel, rfl, by decide +kernel, by decide +kernel⟩
abbrev s_is_number_from : Stmt := top 30
theorem sc_is_number_from : FnScope ["thing", "least", "most"] ["thing", "least", "most"] (defScope s_is_number_from) := ⟨rfl, rfl, rfl, by decide +kernel, rfl, by decide +kernel, by decide +kernel⟩
abbrev s_cost : Stmt := top 34
theorem sc_cost : FnScope ["counts", "prices", "count", "price"] ["counts", "prices"] (defScope s_cost) := ⟨rfl, rfl, rfl, by decide +kernel, rfl, by decide +kernel, by decide +kernel⟩
abbrev s_check_prices : Stmt := top 35
theorem sc_check_prices : FnScope ["prices", "index"] ["prices"] (defScope s_check_prices) := ⟨rfl, rfl, rfl, by decide +kernel, rfl, by decide +kernel, by decide +kernel⟩
abbrev s__law_random : Stmt := top 37
theorem sc__law_random : FnScope ["_law_script", "_law_salt", "_law_seed", "_law_cell"] ["_law_script", "_law_salt"] (defScope s__law_random) := ⟨rfl, rfl, rfl, by decide +kernel, rfl, by decide +kernel, by decide +kernel⟩
abbrev s__law_below : Stmt := top 38
theorem sc__law_below : FnScope ["_law_d", "_law_limit", "_law_result"] ["_law_d", "_law_limit"] (defScope s__law_below) := ⟨rfl, rfl, rfl, by decide +kernel, rfl, by decide +kernel, by decide +kernel⟩
abbrev s__law_equal : Stmt := top 39
theorem sc__law_equal : FnScope ["_law_actual", "_law_expected", "_law_k"] ["_law_actual", "_law_expected"] (defScope s__law_equal) := ⟨rfl, rfl, rfl, by decide +kernel, rfl, by decide +kernel, by decide +kernel⟩
abbrev s__law_told_of : Stmt := top 40
theorem sc__law_told_of : FnScope ["_law_e", "_law_name"] ["_law_e", "_law_name"] (defScope s__law_told_of) := ⟨rfl, rfl, rfl, by decide +kernel, rfl, by decide +kernel, by decide +kernel⟩
abbrev s__law_error_of : Stmt := top 41
theorem sc__law_error_of : FnScope ["_law_call", "_law_e", "_law_kinds", "_law_names"] ["_law_call"] (defScope s__law_error_of) := ⟨rfl, rfl, rfl, by decide +kernel, rfl, by decide +kernel, by decide +kernel⟩
abbrev s_law : Stmt := top 42
theorem sc_law : FnScope ["_law_script", "_law_d", "_law_step", "_law_prices", "_law_at", "_law_kind", "_law_odd", "_law_index", "_law_counts", "_law_given", "_law_k"] ["_law_script"] (defScope s_law) := ⟨rfl, rfl, rfl, by decide +kernel, rfl, by decide +kernel, by decide +kernel⟩
abbrev s_InvalidPrices___init__ : Stmt := inClass (top 14) 0
theorem sc_InvalidPrices___init__ : NdefX.NScope ["self", "index", "__class__"] ["self", "index"] ["__class__"] (defScope s_InvalidPrices___init__) := NdefX.nscope_by (by decide +kernel)
structure Gx (K : PySem.W.Frag) (mg : Str → Option Value) where
  f_is_number : Addr
  fd_is_number : FuncData
  F_is_number : Fun K "is_number" "is_number" s_is_number f_is_number fd_is_number
  g_is_number : mg "is_number" = some (.ref f_is_number)
  f_is_number_from : Addr
  fd_is_number_from : FuncData
  F_is_number_from : Fun K "is_number_from" "is_number_from" s_is_number_from f_is_number_from fd_is_number_from
  g_is_number_from : mg "is_number_from" = some (.ref f_is_number_from)
  f_cost : Addr
  fd_cost : FuncData
  F_cost : Fun K "cost" "cost" s_cost f_cost fd_cost
  g_cost : mg "cost" = some (.ref f_cost)
  f_check_prices : Addr
  fd_check_prices : FuncData
  F_check_prices : Fun K "check_prices" "check_prices" s_check_prices f_check_prices fd_check_prices
  g_check_prices : mg "check_prices" = some (.ref f_check_prices)
  f__law_random : Addr
  fd__law_random : FuncData
  F__law_random : Fun K "_law_random" "_law_random" s__law_random f__law_random fd__law_random
  g__law_random : mg "_law_random" = some (.ref f__law_random)
  f__law_below : Addr
  fd__law_below : FuncData
  F__law_below : Fun K "_law_below" "_law_below" s__law_below f__law_below fd__law_below
  g__law_below : mg "_law_below" = some (.ref f__law_below)
  f__law_equal : Addr
  fd__law_equal : FuncData
  F__law_equal : Fun K "_law_equal" "_law_equal" s__law_equal f__law_equal fd__law_equal
  g__law_equal : mg "_law_equal" = some (.ref f__law_equal)
  f__law_told_of : Addr
  fd__law_told_of : FuncData
  F__law_told_of : Fun K "_law_told_of" "_law_told_of" s__law_told_of f__law_told_of fd__law_told_of
  g__law_told_of : mg "_law_told_of" = some (.ref f__law_told_of)
  f__law_error_of : Addr
  fd__law_error_of : FuncData
  F__law_error_of : Fun K "_law_error_of" "_law_error_of" s__law_error_of f__law_error_of fd__law_error_of
  g__law_error_of : mg "_law_error_of" = some (.ref f__law_error_of)
  z_isinstance : mg "isinstance" = none
  z_int : mg "int" = none
  z_bool : mg "bool" = none
  z_str : mg "str" = none
  z_list : mg "list" = none
  z_tuple : mg "tuple" = none
  z_len : mg "len" = none
  z_abs : mg "abs" = none
  z_range : mg "range" = none
  z_zip : mg "zip" = none
  z_sum : mg "sum" = none
  z_all : mg "all" = none
  z_super : mg "super" = none
  z_ValueError : mg "ValueError" = none
  t_MANY_PRICES : Tok
  c_MANY_PRICES : mg "MANY_PRICES" = some (.int 6 t_MANY_PRICES)
  t_MOST_PRICE : Tok
  c_MOST_PRICE : mg "MOST_PRICE" = some (.int 999 t_MOST_PRICE)
  file : Str
  third : PySem.W.nsIn K cStatics "thirdparty.any" = some none
  C_InvalidSize : Addr
  gC_InvalidSize : mg "InvalidSize" = some (.ref C_InvalidSize)
  ic_InvalidSize : PySem.W.isClsIn K C_InvalidSize = true
  ty_InvalidSize : PySem.W.typeIn K (.ref C_InvalidSize) = some (.type "type")
  C_InvalidCell : Addr
  gC_InvalidCell : mg "InvalidCell" = some (.ref C_InvalidCell)
  ic_InvalidCell : PySem.W.isClsIn K C_InvalidCell = true
  ty_InvalidCell : PySem.W.typeIn K (.ref C_InvalidCell) = some (.type "type")
  C_InvalidKept : Addr
  gC_InvalidKept : mg "InvalidKept" = some (.ref C_InvalidKept)
  ic_InvalidKept : PySem.W.isClsIn K C_InvalidKept = true
  ty_InvalidKept : PySem.W.typeIn K (.ref C_InvalidKept) = some (.type "type")
  C_InvalidBlock : Addr
  gC_InvalidBlock : mg "InvalidBlock" = some (.ref C_InvalidBlock)
  ic_InvalidBlock : PySem.W.isClsIn K C_InvalidBlock = true
  ty_InvalidBlock : PySem.W.typeIn K (.ref C_InvalidBlock) = some (.type "type")
  C_InvalidValue : Addr
  gC_InvalidValue : mg "InvalidValue" = some (.ref C_InvalidValue)
  ic_InvalidValue : PySem.W.isClsIn K C_InvalidValue = true
  ty_InvalidValue : PySem.W.typeIn K (.ref C_InvalidValue) = some (.type "type")
  C_InvalidCount : Addr
  gC_InvalidCount : mg "InvalidCount" = some (.ref C_InvalidCount)
  ic_InvalidCount : PySem.W.isClsIn K C_InvalidCount = true
  ty_InvalidCount : PySem.W.typeIn K (.ref C_InvalidCount) = some (.type "type")
  C_InvalidSlot : Addr
  gC_InvalidSlot : mg "InvalidSlot" = some (.ref C_InvalidSlot)
  ic_InvalidSlot : PySem.W.isClsIn K C_InvalidSlot = true
  ty_InvalidSlot : PySem.W.typeIn K (.ref C_InvalidSlot) = some (.type "type")
  C_InvalidWord : Addr
  gC_InvalidWord : mg "InvalidWord" = some (.ref C_InvalidWord)
  ic_InvalidWord : PySem.W.isClsIn K C_InvalidWord = true
  ty_InvalidWord : PySem.W.typeIn K (.ref C_InvalidWord) = some (.type "type")
  C_InvalidStory : Addr
  gC_InvalidStory : mg "InvalidStory" = some (.ref C_InvalidStory)
  ic_InvalidStory : PySem.W.isClsIn K C_InvalidStory = true
  ty_InvalidStory : PySem.W.typeIn K (.ref C_InvalidStory) = some (.type "type")
  C_PowerOff : Addr
  gC_PowerOff : mg "PowerOff" = some (.ref C_PowerOff)
  ic_PowerOff : PySem.W.isClsIn K C_PowerOff = true
  ty_PowerOff : PySem.W.typeIn K (.ref C_PowerOff) = some (.type "type")
  C_PowerOn : Addr
  gC_PowerOn : mg "PowerOn" = some (.ref C_PowerOn)
  ic_PowerOn : PySem.W.isClsIn K C_PowerOn = true
  ty_PowerOn : PySem.W.typeIn K (.ref C_PowerOn) = some (.type "type")
  C_NoFastDisk : Addr
  gC_NoFastDisk : mg "NoFastDisk" = some (.ref C_NoFastDisk)
  ic_NoFastDisk : PySem.W.isClsIn K C_NoFastDisk = true
  ty_NoFastDisk : PySem.W.typeIn K (.ref C_NoFastDisk) = some (.type "type")
  C_HasFastDisk : Addr
  gC_HasFastDisk : mg "HasFastDisk" = some (.ref C_HasFastDisk)
  ic_HasFastDisk : PySem.W.isClsIn K C_HasFastDisk = true
  ty_HasFastDisk : PySem.W.typeIn K (.ref C_HasFastDisk) = some (.type "type")
  C_Unsettled : Addr
  gC_Unsettled : mg "Unsettled" = some (.ref C_Unsettled)
  ic_Unsettled : PySem.W.isClsIn K C_Unsettled = true
  ty_Unsettled : PySem.W.typeIn K (.ref C_Unsettled) = some (.type "type")
  C_Contradiction : Addr
  gC_Contradiction : mg "Contradiction" = some (.ref C_Contradiction)
  ic_Contradiction : PySem.W.isClsIn K C_Contradiction = true
  ty_Contradiction : PySem.W.typeIn K (.ref C_Contradiction) = some (.type "type")
  C_InvalidName : Addr
  gC_InvalidName : mg "InvalidName" = some (.ref C_InvalidName)
  ic_InvalidName : PySem.W.isClsIn K C_InvalidName = true
  ty_InvalidName : PySem.W.typeIn K (.ref C_InvalidName) = some (.type "type")
  C_UnknownName : Addr
  gC_UnknownName : mg "UnknownName" = some (.ref C_UnknownName)
  ic_UnknownName : PySem.W.isClsIn K C_UnknownName = true
  ty_UnknownName : PySem.W.typeIn K (.ref C_UnknownName) = some (.type "type")
  C_InvalidRules : Addr
  gC_InvalidRules : mg "InvalidRules" = some (.ref C_InvalidRules)
  ic_InvalidRules : PySem.W.isClsIn K C_InvalidRules = true
  ty_InvalidRules : PySem.W.typeIn K (.ref C_InvalidRules) = some (.type "type")
  C_InvalidRecipes : Addr
  gC_InvalidRecipes : mg "InvalidRecipes" = some (.ref C_InvalidRecipes)
  ic_InvalidRecipes : PySem.W.isClsIn K C_InvalidRecipes = true
  ty_InvalidRecipes : PySem.W.typeIn K (.ref C_InvalidRecipes) = some (.type "type")
  C_InvalidRequests : Addr
  gC_InvalidRequests : mg "InvalidRequests" = some (.ref C_InvalidRequests)
  ic_InvalidRequests : PySem.W.isClsIn K C_InvalidRequests = true
  ty_InvalidRequests : PySem.W.typeIn K (.ref C_InvalidRequests) = some (.type "type")
  C_InvalidPrices : Addr
  gC_InvalidPrices : mg "InvalidPrices" = some (.ref C_InvalidPrices)
  ic_InvalidPrices : PySem.W.isClsIn K C_InvalidPrices = true
  ty_InvalidPrices : PySem.W.typeIn K (.ref C_InvalidPrices) = some (.type "type")
  C_InvalidPlan : Addr
  gC_InvalidPlan : mg "InvalidPlan" = some (.ref C_InvalidPlan)
  ic_InvalidPlan : PySem.W.isClsIn K C_InvalidPlan = true
  ty_InvalidPlan : PySem.W.typeIn K (.ref C_InvalidPlan) = some (.type "type")
  C_PowerFailed : Addr
  gC_PowerFailed : mg "PowerFailed" = some (.ref C_PowerFailed)
  ic_PowerFailed : PySem.W.isClsIn K C_PowerFailed = true
  ty_PowerFailed : PySem.W.typeIn K (.ref C_PowerFailed) = some (.type "type")
  C_InvalidOperation : Addr
  gC_InvalidOperation : mg "InvalidOperation" = some (.ref C_InvalidOperation)
  ic_InvalidOperation : PySem.W.isClsIn K C_InvalidOperation = true
  ty_InvalidOperation : PySem.W.typeIn K (.ref C_InvalidOperation) = some (.type "type")
  C_NotationError : Addr
  gC_NotationError : mg "NotationError" = some (.ref C_NotationError)
  ic_NotationError : PySem.W.isClsIn K C_NotationError = true
  ty_NotationError : PySem.W.typeIn K (.ref C_NotationError) = some (.type "type")
  C_DecodeError : Addr
  gC_DecodeError : mg "DecodeError" = some (.ref C_DecodeError)
  ic_DecodeError : PySem.W.isClsIn K C_DecodeError = true
  ty_DecodeError : PySem.W.typeIn K (.ref C_DecodeError) = some (.type "type")
  C_PairError : Addr
  gC_PairError : mg "PairError" = some (.ref C_PairError)
  ic_PairError : PySem.W.isClsIn K C_PairError = true
  ty_PairError : PySem.W.typeIn K (.ref C_PairError) = some (.type "type")
  pb : PySem.W.subIn K (.ref C_PairError) (.type "BaseException") = some true
  ph : PySem.W.hasDictIn K C_PairError = true
  sb_InvalidPrices_InvalidSize : PySem.W.subIn K (.ref C_InvalidPrices) (.ref C_InvalidSize) = some false
  sb_InvalidPrices_InvalidCell : PySem.W.subIn K (.ref C_InvalidPrices) (.ref C_InvalidCell) = some false
  sb_InvalidPrices_InvalidKept : PySem.W.subIn K (.ref C_InvalidPrices) (.ref C_InvalidKept) = some false
  sb_InvalidPrices_InvalidBlock : PySem.W.subIn K (.ref C_InvalidPrices) (.ref C_InvalidBlock) = some false
  sb_InvalidPrices_InvalidValue : PySem.W.subIn K (.ref C_InvalidPrices) (.ref C_InvalidValue) = some false
  sb_InvalidPrices_InvalidCount : PySem.W.subIn K (.ref C_InvalidPrices) (.ref C_InvalidCount) = some false
  sb_InvalidPrices_InvalidSlot : PySem.W.subIn K (.ref C_InvalidPrices) (.ref C_InvalidSlot) = some false
  sb_InvalidPrices_InvalidWord : PySem.W.subIn K (.ref C_InvalidPrices) (.ref C_InvalidWord) = some false
  sb_InvalidPrices_InvalidStory : PySem.W.subIn K (.ref C_InvalidPrices) (.ref C_InvalidStory) = some false
  sb_InvalidPrices_PowerOff : PySem.W.subIn K (.ref C_InvalidPrices) (.ref C_PowerOff) = some false
  sb_InvalidPrices_PowerOn : PySem.W.subIn K (.ref C_InvalidPrices) (.ref C_PowerOn) = some false
  sb_InvalidPrices_NoFastDisk : PySem.W.subIn K (.ref C_InvalidPrices) (.ref C_NoFastDisk) = some false
  sb_InvalidPrices_HasFastDisk : PySem.W.subIn K (.ref C_InvalidPrices) (.ref C_HasFastDisk) = some false
  sb_InvalidPrices_Unsettled : PySem.W.subIn K (.ref C_InvalidPrices) (.ref C_Unsettled) = some false
  sb_InvalidPrices_Contradiction : PySem.W.subIn K (.ref C_InvalidPrices) (.ref C_Contradiction) = some false
  sb_InvalidPrices_InvalidName : PySem.W.subIn K (.ref C_InvalidPrices) (.ref C_InvalidName) = some false
  sb_InvalidPrices_UnknownName : PySem.W.subIn K (.ref C_InvalidPrices) (.ref C_UnknownName) = some false
  sb_InvalidPrices_InvalidRules : PySem.W.subIn K (.ref C_InvalidPrices) (.ref C_InvalidRules) = some false
  sb_InvalidPrices_InvalidRecipes : PySem.W.subIn K (.ref C_InvalidPrices) (.ref C_InvalidRecipes) = some false
  sb_InvalidPrices_InvalidRequests : PySem.W.subIn K (.ref C_InvalidPrices) (.ref C_InvalidRequests) = some false
  sb_InvalidPrices_InvalidPrices : PySem.W.subIn K (.ref C_InvalidPrices) (.ref C_InvalidPrices) = some true
  sb_InvalidPrices_InvalidPlan : PySem.W.subIn K (.ref C_InvalidPrices) (.ref C_InvalidPlan) = some false
  sb_InvalidPrices_PowerFailed : PySem.W.subIn K (.ref C_InvalidPrices) (.ref C_PowerFailed) = some false
  sb_InvalidPrices_InvalidOperation : PySem.W.subIn K (.ref C_InvalidPrices) (.ref C_InvalidOperation) = some false
  sb_InvalidPrices_NotationError : PySem.W.subIn K (.ref C_InvalidPrices) (.ref C_NotationError) = some false
  sb_InvalidPrices_DecodeError : PySem.W.subIn K (.ref C_InvalidPrices) (.ref C_DecodeError) = some false
  sb_InvalidPrices_PairError : PySem.W.subIn K (.ref C_InvalidPrices) (.ref C_PairError) = some true
  vb_InvalidPrices : PySem.W.subIn K (.ref C_InvalidPrices) (.type "ValueError") = some true
  E_InvalidPrices : ExcC K C_InvalidPrices
  kp_InvalidPrices : PySem.W.keepIn K (.ref C_InvalidPrices) = true
  f_InvalidPrices___init__ : Addr
  fd_InvalidPrices___init__ : FuncData
  cc_InvalidPrices___init__ : Addr
  S_InvalidPrices___init__ : FunS K file "__init__" "InvalidPrices.__init__" s_InvalidPrices___init__ C_InvalidPrices cc_InvalidPrices___init__ f_InvalidPrices___init__ fd_InvalidPrices___init__
  O_InvalidPrices : OexC K C_InvalidPrices
  iC_InvalidPrices : PySem.W.findIn K (.ref C_InvalidPrices) "__init__" = some (some (.ref f_InvalidPrices___init__))
  tI_InvalidPrices : PySem.W.typeIn K (.ref f_InvalidPrices___init__) = some (.type "function")
  mr_InvalidPrices : PySem.W.mroIn K C_InvalidPrices (.ref C_InvalidPrices) = some true
  su_InvalidPrices : PySem.W.ks_superIn K C_InvalidPrices C_InvalidPrices "__init__" = some (some (.builtin "ValueError.__init__"))
  no_InvalidPrices_index : PySem.W.findIn K (.ref C_InvalidPrices) "index" = some none
section
variable {K : PySem.W.Frag} {mg : Str → Option Value}
theorem b_is_number (T : Gx K mg) : Binds K T.fd_is_number ["thing"] [] := T.F_is_number.binds (ps := ["thing"]) fun _ _ _ _ _ _ us hl => match us, hl with | [_], _ => rfl
theorem b_is_number_from (T : Gx K mg) : Binds K T.fd_is_number_from ["thing", "least", "most"] [] := T.F_is_number_from.binds (ps := ["thing", "least", "most"]) fun _ _ _ _ _ _ us hl => match us, hl with | [_, _, _], _ => rfl
theorem b_cost (T : Gx K mg) : Binds K T.fd_cost ["counts", "prices"] [] := T.F_cost.binds (ps := ["counts", "prices"]) fun _ _ _ _ _ _ us hl => match us, hl with | [_, _], _ => rfl
theorem b_check_prices (T : Gx K mg) : Binds K T.fd_check_prices ["prices"] [] := T.F_check_prices.binds (ps := ["prices"]) fun _ _ _ _ _ _ us hl => match us, hl with | [_], _ => rfl
theorem b__law_random (T : Gx K mg) : Binds K T.fd__law_random ["_law_script", "_law_salt"] [] := T.F__law_random.binds (ps := ["_law_script", "_law_salt"]) fun _ _ _ _ _ _ us hl => match us, hl with | [_, _], _ => rfl
theorem b__law_below (T : Gx K mg) : Binds K T.fd__law_below ["_law_d", "_law_limit"] [] := T.F__law_below.binds (ps := ["_law_d", "_law_limit"]) fun _ _ _ _ _ _ us hl => match us, hl with | [_, _], _ => rfl
theorem b__law_equal (T : Gx K mg) : Binds K T.fd__law_equal ["_law_actual", "_law_expected"] [] := T.F__law_equal.binds (ps := ["_law_actual", "_law_expected"]) fun _ _ _ _ _ _ us hl => match us, hl with | [_, _], _ => rfl
theorem b__law_told_of (T : Gx K mg) : Binds K T.fd__law_told_of ["_law_e", "_law_name"] [] := T.F__law_told_of.binds (ps := ["_law_e", "_law_name"]) fun _ _ _ _ _ _ us hl => match us, hl with | [_, _], _ => rfl
theorem b__law_error_of (T : Gx K mg) : Binds K T.fd__law_error_of ["_law_call"] [] := T.F__law_error_of.binds (ps := ["_law_call"]) fun _ _ _ _ _ _ us hl => match us, hl with | [_], _ => rfl
end
/-! ### the law's random list -/
def Rnd (H : Hp) (r : Addr) : Prop := ∃ (a b : Int) (ns : List Int), H r = some (.lst (V.int a :: V.int b :: ns.map V.int))
def spBelow : Sp := fun vs H Q _ => ∃ (r : Addr) (lim : Nat), vs = [.ref r, .int (lim : Int)] ∧ Rnd H r ∧ 0 < lim ∧ lim < 1180591620717411303424 ∧ ∀ (z : Nat) (H' : Hp), z < lim → Fr [r] H H' → Rnd H' r → Q (.int (z : Int)) H'
theorem Rnd.put {H : Hp} {r : Addr} (a b : Int) (ns : List Int) : Rnd (upd H r (.lst (V.int a :: V.int b :: ns.map V.int))) r := ⟨a, b, ns, upd_same⟩
theorem Rnd.notup {H : Hp} {r : Addr} (h : Rnd H r) : ∀ b ∈ [r], ∀ xs, H b ≠ some (.tup xs) := by
  obtain ⟨a, b, ns, e⟩ := h
  intro b hb xs
  rw [List.mem_singleton.mp hb, e]
  simp
theorem Rnd.keep {H H' : Hp} {r : Addr} {S : List Addr} (h : Rnd H r) (f : Fr S H H') (n : r ∉ S) : Rnd H' r := by
  obtain ⟨a, b, ns, e⟩ := h
  exact ⟨a, b, ns, f _ _ e n⟩
section
variable {P : Program} {w : World} {K : PySem.W.Frag} {mg : Str → Option Value} {base : Heap}
theorem ok_below (T : Gx K mg) : FnOk P w K mg base CX0 1 T.f__law_below T.fd__law_below ["_law_d", "_law_limit"] spBelow := by
  refine T.F__law_below.ok sc__law_below (fun vs H Q E h => ?_) (fun cdv A outer s H vs Q E hr h => ?_)
  · obtain ⟨r, lim, rfl, _⟩ := h
    rfl
  · obtain ⟨r, lin, rfl, hR, h0', h1', k'⟩ := h
    obtain ⟨lim, hlim⟩ : ∃ lim : Int, lim = (lin : Int) := ⟨_, rfl⟩
    have h0 : 0 < lim := by omega
    have h1 : lim < 1180591620717411303424 := by omega
    have k : ∀ (z : Int) (H' : Hp), 0 ≤ z → z < lim → Fr [r] H H' → Rnd H' r → Q (.int z) H' := fun z H' a b f g => by
      obtain ⟨n, rfl⟩ := Int.eq_ofNat_of_zero_le a
      exact k' n H' (by omega) f g
    rw [← hlim]
    refine ⟨_, C8.pss_cut (ps_if (PW.pt (pw_and (pt_cmpR op_eq (pe_ix ix_list (pv 0) pe_int (fun _ _ => rfl)) pe_int (nomark _))
          (pw_and1 (pt_cmpR op_gt (pe_callB call_len_seq (by rfl) T.z_len PySem.boot_len (pa_cons (pv 0) pa_nil)) pe_int (nomark _)))))
        (pss_one (ps_asg (pe_bm PySem.F.plainAttrs_list PySem.F.slot_list_pop PySem.F.type_list_pop mt_popAt (pv 0) (pa_cons pe_int pa_nil)) (pg_sub (pv 0) pe_int set_list))) pss_nil)
      (pss_cons (ps_if (pt_cmpR op_gt (pe_ix ix_list (pv 0) pe_int (fun _ _ => rfl)) pe_int (nomark _))
        (pss_cons (ps_set (i := 2) sc__law_below.nd rfl (.inl rfl) (pe_op op_mod (pe_callTy call_int1 (by rfl) T.z_int (by decide +kernel) (pa_cons (pe_ix ix_list (pv 0) pe_int (fun _ _ => rfl)) pa_nil)) (pv 1)))
        (pss_cons (ps_asg (pe_op op_fdivW (pe_ix ix_list (pv 0) pe_int (fun _ _ => rfl)) (pv 1)) (pg_sub (pv 0) pe_int set_list))
        (pss_one (ps_ret (pv 2))))) pss_nil)
      (pss_cons (ps_asg (pe_op op_mod (pe_callTy call_int1 (by rfl) T.z_int (by decide +kernel) (pa_cons (pe_op op_add (pe_op op_mul (pe_ix ix_list (pv 0) pe_int (fun _ _ => rfl)) pe_int) pe_int) pa_nil)) pe_int) (pg_sub (pv 0) pe_int set_list))
      (pss_one (ps_ret (pe_op op_mod (pe_callTy call_int1 (by rfl) T.z_int (by decide +kernel) (pa_cons (pe_op op_fdiv (pe_ix ix_list (pv 0) pe_int (fun _ _ => rfl)) pe_int) pa_nil)) (pv 1)))))), ?_⟩
    refine ⟨fun σ H1 => σ = [some (.ref r), some (.int lim), none] ∧ Rnd H1 r ∧ Fr [r] H H1, ?_, ?_⟩
    · obtain ⟨a, b, ns, e⟩ := hR
      have hR0 : Rnd H r := ⟨a, b, ns, e⟩
      refine ⟨_, rfl, r, _, 1, .int b, rfl, rfl, SqL.of e, atI_nat (j := 1) rfl, rfl, _, rfl, ite2 (fun hb => ?_) (fun hb => ?_)⟩
      · refine ⟨_, rfl, r, _, rfl, .inl (SqL.of e), _, _, rfl, rfl, _, rfl, ite2 (fun hl => ?_) (fun hl => ?_)⟩
        · have hl' : (2 : Int) < ((V.int a :: V.int b :: ns.map V.int).length : Int) := of_decide_eq_true hl
          cases ns with
          | nil => exact absurd hl' (by simp)
          | cons c rest =>
            refine ⟨_, rfl, .inl ⟨rfl, _, SqL.of e⟩, r, _, 2, 2, .int c, rfl, rfl, e, by decide, by decide, ?_, rfl, ?_⟩
            · show seqIndex? 2 _ = some 2
              unfold seqIndex?
              rw [List.length_cons, List.length_cons, List.map_cons, List.length_cons]
              simp
              omega
            · refine ⟨_, rfl, r, _, 1, 1, rfl, rfl, upd_same, ?_, rfl, ?_, ?_⟩
              · exact ix_at 1 (by simp [List.length_eraseIdx])
              · rw [upd_upd]
                exact Rnd.put a c rest
              · rw [upd_upd]
                exact Fr.put (List.mem_singleton.mpr rfl)
        · exact ⟨rfl, hR0, Fr.refl _ _⟩
      · exact ⟨rfl, hR0, Fr.refl _ _⟩
    · rintro σ' H1 ⟨rfl, ⟨a, b, ns, e⟩, fr⟩
      refine ⟨_, rfl, r, _, 1, .int b, rfl, rfl, SqL.of e, atI_nat (j := 1) rfl, _, _, rfl, rfl, _, rfl, ite2 (fun hb => ?_) (fun hb => ?_)⟩
      · refine ⟨_, rfl, r, _, 1, .int b, rfl, rfl, SqL.of e, atI_nat (j := 1) rfl, .inl ⟨_, rfl, ?_⟩⟩
        refine ⟨_, rfl, _, _, rfl, rfl, h0, ?_⟩
        refine ⟨_, rfl, r, _, 1, .int b, rfl, rfl, SqL.of e, atI_nat (j := 1) rfl, _, rfl, _, _, rfl, rfl, wide_div (b := 70) h0 (by omega) (by decide) (by decide), ?_⟩
        refine ⟨_, rfl, r, _, 1, 1, rfl, rfl, e, ix_at 1 (by simp), ?_⟩
        refine ⟨_, rfl, k _ _ (Int.emod_nonneg _ (by omega)) (Int.emod_lt_of_pos _ h0) (fr.trans (Fr.put (List.mem_singleton.mpr rfl))) (Rnd.put a _ ns)⟩
      · refine ⟨_, rfl, r, _, 0, .int a, rfl, rfl, SqL.of e, atI_nat (j := 0) rfl, _, _, rfl, rfl, .inr (by decide), _, _, rfl, rfl, .inl ⟨_, rfl, _, _, rfl, rfl, (by show (0 : Int) < 2147483647; decide), ?_⟩⟩
        refine ⟨_, rfl, r, _, 0, 0, rfl, rfl, e, ix_at 0 (by simp), ?_⟩
        refine ⟨_, rfl, r, _, 0, _, rfl, rfl, SqL.of upd_same, atI_nat (j := 0) rfl, _, _, rfl, rfl, ⟨by decide, by decide⟩, .inl ⟨_, rfl, _, rfl, _, _, rfl, rfl, h0, ?_⟩⟩
        exact k _ _ (Int.emod_nonneg _ (by omega)) (Int.emod_lt_of_pos _ h0) (fr.trans (Fr.put (List.mem_singleton.mpr rfl))) (Rnd.put _ b ns)
end
def spRandom (K : PySem.W.Frag) : Sp := fun vs H Q _ => ∃ (a : Addr) (salt : Int) (ns : List Int), vs = [.ref a, .int salt] ∧ SqL K H a (ns.map V.int) ∧ ns.length ≤ 63 ∧ ∀ (r : Addr) (H' : Hp), H r = none → Fr [] H H' → Rnd H' r → Q (.ref r) H'
section
variable {P : Program} {w : World} {K : PySem.W.Frag} {mg : Str → Option Value} {base : Heap}
theorem ok_random (T : Gx K mg) : FnOk P w K mg base CX0 1 T.f__law_random T.fd__law_random ["_law_script", "_law_salt"] (spRandom K) := by
  refine T.F__law_random.ok sc__law_random (fun vs H Q E h => ?_) (fun cdv A outer s H vs Q E hr h => ?_)
  · obtain ⟨a, salt, ns, rfl, _⟩ := h
    rfl
  · obtain ⟨a, salt, ns, rfl, hS, hlen, k⟩ := h
    refine ⟨_, pss_cons (ps_set (i := 2) sc__law_random.nd rfl (.inl rfl) (pv 1))
      (pss_cons (ps_for PassesOwn.never rfl (pi_list (pv 0)) (pg_name (i := 3) sc__law_random.nd rfl (.inl rfl))
        (pss_one (ps_set (i := 2) sc__law_random.nd rfl (.inl rfl) (pe_op op_mod (pe_callTy call_int1 (by rfl) T.z_int (by decide +kernel) (pa_cons (pe_op op_add (pe_op op_mul (pv 2) pe_int) (pe_callB call_abs (by rfl) T.z_abs (by decide +kernel) (pa_cons (pv 3) pa_nil))) pa_nil)) pe_int))))
      (pss_one (ps_ret (pe_op op_cat (pe_lst (pa_cons (pv 2) (pa_cons pe_int pa_nil))) (pe_lc (own := [("_law_cell", 3)]) (g := gName 3) rfl sc__law_random.nd (pi_list (pv 0)) (blkOk_by (N := ["_law_script", "_law_salt", "_law_seed", "_law_cell"]) (sc := defScope s__law_random) (by decide +kernel)) (fun _ _ _ _ _ => pg_name (i := 3) sc__law_random.nd rfl (.inl rfl)) (fun _ _ _ _ _ => pts_one (pt_cmpR op_ge (pv 3) (pe_op op_pow pe_int pe_int) (nomark _))) (fun _ _ _ _ _ => pv 3)))))), ?_⟩
    refine ⟨_, rfl, _, rfl, a, rfl, ⟨_, hS⟩, for_list (K := K) (a := a) (xs := ns.map V.int) (fun i σ H' => H' = H ∧ ∃ (z : Int) (v : Option V), σ = [some (.ref a), some (.int salt), some (.int z), v]) ⟨rfl, salt, none, rfl⟩ (fun i σ H' _ e => by rw [e.1]; exact hS) ?_ ?_⟩
    · rintro i x σ H' hi ⟨rfl, z, v, rfl⟩
      obtain ⟨u, rfl, _⟩ := int_at hi
      exact ⟨_, rfl, _, _, rfl, rfl, .inr (by decide), _, rfl, _, rfl, _, _, rfl, rfl, .inl ⟨_, rfl, _, _, rfl, rfl, (by show (0 : Int) < 2147483647; decide), rfl, _, _, rfl⟩⟩
    · rintro σ H' ⟨rfl, z, v, rfl⟩
      refine ⟨_, rfl, sz_le (by simp), fun l hl => ?_⟩
      have sl : Fr [] H' (upd H' l (.lst [V.int z, V.int 0])) := Fr.new hl
      have hS1 : SqL K (upd H' l (.lst [V.int z, V.int 0])) a (ns.map V.int) := sl.seq (by simp) hS
      refine ⟨_, rfl, a, rfl, ⟨_, hS1⟩, fun D hD => ?_⟩
      have hDl := free_upd hD
      refine lc_list (K := K) (a := a) (xs := ns.map V.int) (fun i H2 => ∃ ms : List Int, ms.length ≤ i ∧ H2 = upd (upd H' l (.lst [V.int z, V.int 0])) D (.lst (ms.map V.int))) ⟨[], Nat.le_refl _, rfl⟩ ?_ ?_ ?_
      · rintro i H2 _ ⟨ms, _, rfl⟩
        exact (Fr.new (S := []) hD).seq (by simp) hS1
      · rintro i x H2 hi ⟨ms, hm, rfl⟩
        obtain ⟨u, rfl, _⟩ := int_at hi
        have li := lt_of_at hi
        rw [List.length_map] at li
        refine ⟨rfl, _, rfl, _, _, rfl, rfl, ⟨by decide, by decide, by decide⟩, _, _, rfl, rfl, _, rfl, ite2 (fun _ => ?_) (fun _ => ?_)⟩
        · refine ⟨_, rfl, _, upd_same, ?_, ms ++ [u], ?_, ?_⟩
          · rw [List.length_map]
            exact sz_lt (by omega)
          · rw [List.length_append, List.length_singleton]
            omega
          · rw [upd_upd, List.map_append]
            rfl
        · exact ⟨ms, by omega, rfl⟩
      · rintro H2 ⟨ms, hm, rfl⟩
        rw [List.length_map] at hm
        refine ⟨l, D, [V.int z, V.int 0], _, rfl, rfl, ?_, upd_same, ?_, fun p hp => ?_⟩
        · rw [upd_ne hDl.2.symm]
          exact upd_same
        · rw [List.length_map]
          exact sz_le (by simp; omega)
        · obtain ⟨hp1, _⟩ := free_upd hp
          obtain ⟨hp2, _⟩ := free_upd hp1
          exact k p _ hp2 ((sl.trans (Fr.new hD)).trans (Fr.new hp)) ⟨z, 0, ms, upd_same⟩
end
/-! ### what counts as a number -/
def spNum (K : PySem.W.Frag) : Sp := fun vs H Q _ => ∃ (v : V) (t : Value) (b1 b2 : Bool), vs = [v] ∧ TyX K H v t ∧ PySem.W.kitOne K t (.type "int") = some b1 ∧ PySem.W.kitOne K t (.type "bool") = some b2 ∧ Q (.bl (b1 && !b2)) H
def spNumFrom (K : PySem.W.Frag) : Sp := fun vs H Q _ => ∃ (v : V) (lo hi : Int), vs = [v, .int lo, .int hi] ∧
  ((∃ i : Int, v = .int i ∧ Q (.bl (decide (lo ≤ i) && decide (i ≤ hi))) H) ∨ ∃ (t : Value) (b1 b2 : Bool), TyX K H v t ∧ PySem.W.kitOne K t (.type "int") = some b1 ∧ PySem.W.kitOne K t (.type "bool") = some b2 ∧ (b1 && !b2) = false ∧ Q (.bl false) H)
section
variable {P : Program} {w : World} {K : PySem.W.Frag} {mg : Str → Option Value} {base : Heap}
theorem ok_num (T : Gx K mg) : FnOk P w K mg base CX0 1 T.f_is_number T.fd_is_number ["thing"] (spNum K) := by
  refine T.F_is_number.ok sc_is_number (fun vs H Q E h => ?_) (fun cdv A outer s H vs Q E hr h => ?_)
  · obtain ⟨v, t, b1, b2, rfl, _⟩ := h
    rfl
  · obtain ⟨v, t, b1, b2, rfl, ty, e1, e2, k⟩ := h
    refine ⟨_, pss_one (ps_ret (pe_and (pe_callB call_isi (by rfl) T.z_isinstance (by decide +kernel) (pa_cons (pv 0) (pa_cons (pe_bltn (v := .ty "int") (by rfl) T.z_int (by decide +kernel) rfl) pa_nil)))
      (pe_one (pe_not (pe_callB call_isi (by rfl) T.z_isinstance (by decide +kernel) (pa_cons (pv 0) (pa_cons (pe_bltn (v := .ty "bool") (by rfl) T.z_bool (by decide +kernel) rfl) pa_nil))))))), ?_⟩
    refine ⟨v, rfl, v, .ty "int", t, _, b1, rfl, ClsV.ty "int", ty, e1, b1, rfl, ?_⟩
    cases b1 with
    | false => exact iteF k
    | true => exact iteT ⟨v, rfl, v, .ty "bool", t, _, b2, rfl, ClsV.ty "bool", ty, e2, b2, rfl, k⟩
theorem ok_numFrom (T : Gx K mg) : FnOk P w K mg base CX0 2 T.f_is_number_from T.fd_is_number_from ["thing", "least", "most"] (spNumFrom K) := by
  have G1 : FnOk P w K mg base CX0 1 T.f_is_number T.fd_is_number ["thing"] (spNum K) := ok_num T
  refine T.F_is_number_from.ok sc_is_number_from (fun vs H Q E h => ?_) (fun cdv A outer s H vs Q E hr h => ?_)
  · obtain ⟨v, lo, hi, rfl, _⟩ := h
    rfl
  · obtain ⟨v, lo, hi, rfl, h⟩ := h
    refine ⟨_, pss_one (ps_ret (pe_and (pe_call G1 hr (by rfl) T.g_is_number T.F_is_number.kp (b_is_number T) .nil pass0 (pa_cons (pv 0) pa_nil)) (pe_one (pe_chain op_le op_le (pv 1) (pv 0) (pv 2))))), ?_⟩
    rcases h with ⟨i, rfl, k⟩ | ⟨t, b1, b2, ty, e1, e2, e3, k⟩
    · refine ⟨_, rfl, .int i, .type "int", true, false, rfl, .base (.int i), kit_ty (by decide +kernel), kit_ty (by decide +kernel), true, rfl, iteT ?_⟩
      refine ⟨_, rfl, _, rfl, _, _, rfl, rfl, _, rfl, ?_⟩
      by_cases hl : lo ≤ i
      · rw [decide_eq_true hl] at k ⊢
        exact iteT ⟨_, rfl, _, _, rfl, rfl, k⟩
      · rw [decide_eq_false hl] at k ⊢
        exact iteF k
    · refine ⟨_, rfl, v, t, b1, b2, rfl, ty, e1, e2, _, rfl, ?_⟩
      rw [e3]
      exact iteF k
end
/-! ### prices and costs -/
open RZ
theorem lc_zipT {K : PySem.W.Frag} {a b : Addr} {xs ys : List V} {g : TG} {tt : TT} {te : TE} {vs : List Nat} {σ : L2.St} {H1 : Hp} {D : Addr} {Qd : Hp → Prop} (hln : xs.length = ys.length) (Pv : Nat → Hp → Prop) (h0 : Pv 0 (upd H1 D (.lst []))) (hl : ∀ i H, i ≤ xs.length → Pv i H → SqT K H a xs ∧ SqT K H b ys)
    (hs : ∀ i x y T H, xs[i]? = some x → ys[i]? = some y → Pv i H → H T = none → g (.ref T) (wipe σ vs) (upd H T (.tup [x, y])) fun σ2 H2 => wipe σ2 vs = wipe σ vs ∧ tt σ2 H2 fun b H3 =>
      if b = true then te σ2 H3 fun y H4 => ∃ acc, H4 D = some (.lst acc) ∧ acc.length < sizeLine ∧ Pv (i + 1) (upd H4 D (.lst (acc ++ [y]))) else Pv (i + 1) H3) (hd : ∀ H, Pv xs.length H → Qd H) :
    ∃ W : Nat → Nat → Hp → Prop, (∃ m, W 0 m (upd H1 D (.lst []))) ∧ ∀ i m H, W i m H →
      ((ItzT K a b).stop i H ∧ Qd H) ∨ ((ItzT K a b).go i H ∧ ∃ Nx : Hp → Prop, (∀ H', Nx H' → ∃ m', m' < m ∧ W (i + 1) m' H') ∧ ∀ x H', (ItzT K a b).yld i H x H' → g x (wipe σ vs) H' fun σ2 H2 => wipe σ2 vs = wipe σ vs ∧ tt σ2 H2 fun b H3 =>
        if b = true then te σ2 H3 fun y H4 => ∃ acc, H4 D = some (.lst acc) ∧ acc.length < sizeLine ∧ Nx (upd H4 D (.lst (acc ++ [y]))) else Nx H3) := by
  refine ⟨fun i m H => m = xs.length - i ∧ i ≤ xs.length ∧ Pv i H, ⟨xs.length, by simp, Nat.zero_le _, h0⟩, ?_⟩
  rintro i m H ⟨rfl, hi, p⟩
  obtain ⟨qx, qy⟩ := hl i H hi p
  by_cases hlt : i < xs.length
  · have hx : xs[i]? = some xs[i] := List.getElem?_eq_getElem hlt
    have hlt2 : i < ys.length := by omega
    have hy : ys[i]? = some ys[i] := List.getElem?_eq_getElem hlt2
    refine .inr ⟨⟨xs, ys, _, _, qx, qy, hx, hy⟩, Pv (i + 1), fun H' p' => ⟨xs.length - (i + 1), by omega, rfl, hlt, p'⟩, fun v H' y => ?_⟩
    obtain ⟨T, x', y', rfl, hT, rfl, f1, f2⟩ := y
    exact hs i x' y' T H (f1 xs qx) (f2 ys qy) p hT
  · have e : i = xs.length := by omega
    subst e
    exact .inl ⟨⟨xs, ys, qx, qy, Or.inl (Nat.le_refl _)⟩, hd H p⟩
theorem Fr.upd0 {H H1 : Hp} {D : Addr} {o : HO} (f : Fr [] H H1) (h : H D = none) : Fr [] H (upd H1 D o) := fun b u e n => by
  have hb : b ≠ D := fun z => by rw [z, h] at e; cases e
  rw [upd_ne hb]
  exact f b u e n
def GoodP (xs : List Int) : Prop := xs.length = 6 ∧ ∀ x ∈ xs, 0 ≤ x ∧ x ≤ 999
def spCheckP : Sp := fun vs H Q _ => ∃ (p : Addr) (xs : List Int), vs = [.ref p] ∧ H p = some (.tup (xs.map V.int)) ∧ GoodP xs ∧ Q .non H
def dotP (cs ps : List Int) : List Int := List.zipWith (fun a b => a * b) cs ps
def spCost (K : PySem.W.Frag) : Sp := fun vs H Q _ => ∃ (c p : Addr) (cs xs : List Int), vs = [.ref c, .ref p] ∧ H c = some (.tup (cs.map V.int)) ∧ H p = some (.tup (xs.map V.int)) ∧ cs.length = 6 ∧ GoodP xs ∧ ∀ H', Fr [] H H' → Q (.int (dotP cs xs).sum) H'
theorem dot_succ {cs ps : List Int} {i : Nat} {x y : Int} (hx : cs[i]? = some x) (hy : ps[i]? = some y) : dotP (cs.take (i + 1)) (ps.take (i + 1)) = dotP (cs.take i) (ps.take i) ++ [x * y] := by
  have h1 : i < cs.length := lt_of_at hx
  have h2 : i < ps.length := lt_of_at hy
  unfold dotP
  rw [List.take_succ_eq_append_getElem h1, List.take_succ_eq_append_getElem h2]
  rw [List.getElem?_eq_getElem h1] at hx
  rw [List.getElem?_eq_getElem h2] at hy
  cases hx
  cases hy
  rw [List.zipWith_append (by simp; omega)]
  rfl
section
variable {P : Program} {w : World} {K : PySem.W.Frag} {mg : Str → Option Value} {base : Heap}
theorem ok_checkP (T : Gx K mg) : FnOk P w K mg base CX0 3 T.f_check_prices T.fd_check_prices ["prices"] spCheckP := by
  have G_is_number_from : FnOk P w K mg base CX0 2 T.f_is_number_from T.fd_is_number_from ["thing", "least", "most"] (spNumFrom K) := ok_numFrom T
  refine T.F_check_prices.ok sc_check_prices (fun vs H Q E h => ?_) (fun cdv A outer s H vs Q E hr h => ?_)
  · obtain ⟨p, xs, rfl, _⟩ := h
    rfl
  · obtain ⟨p, xs, rfl, hp, ⟨hl, hg⟩, k⟩ := h
    refine ⟨_, (pss_cons (ps_if (pt_not (pt_val (pe_callB call_isi (by rfl) T.z_isinstance (by decide +kernel) (pa_cons (pv 0) (pa_cons (pe_bltn (v := .ty "tuple") (by rfl) T.z_tuple (by decide +kernel) rfl) pa_nil))))) (pss_one ps_never) pss_nil)
      (pss_cons (ps_for PassesOwn.never rfl (pi_range1 (by rfl) T.z_range (pa_cons (pe_glob (v := .int 6) (by rfl) T.c_MANY_PRICES ⟨_, rfl⟩) pa_nil)) (pg_name (i := 1) sc_check_prices.nd rfl (.inl rfl)) (pss_one (ps_if (PW.pt (pw_or (pt_cmpR op_eq (pv 1) (pe_callB call_len_seq (by rfl) T.z_len (by decide +kernel) (pa_cons (pv 0) pa_nil)) (nomark _)) (pw_or1 (pt_not (pt_val (pe_call G_is_number_from (hr.mono (by first | decide | omega)) (by rfl) T.g_is_number_from T.F_is_number_from.kp (b_is_number_from T) .nil pass0 (pa_cons (pe_ix ix_tup (pv 0) (pv 1) (fun _ _ => rfl)) (pa_cons pe_int (pa_cons (pe_glob (v := .int 999) (by rfl) T.c_MOST_PRICE ⟨_, rfl⟩) pa_nil))))))))) (pss_one ps_never) pss_nil)))
      (pss_one (ps_if (pt_cmpR op_gt (pe_callB call_len_seq (by rfl) T.z_len (by decide +kernel) (pa_cons (pv 0) pa_nil)) (pe_glob (v := .int 6) (by rfl) T.c_MANY_PRICES ⟨_, rfl⟩) (nomark _)) (pss_one ps_never) pss_nil)))), ?_⟩
    refine ⟨_, rfl, _, .ty "tuple", .type "tuple", _, true, rfl, ClsV.ty "tuple", .base (.tup hp), kit_ty (by decide +kernel), _, rfl, iteF ?_⟩
    refine ⟨6, rfl, by decide, by decide, for_range (lo := 0) (n := 6) (fun i σ H' => H' = H ∧ ∃ v1 : Option V, σ = [some (.ref p), v1]) ⟨rfl, none, rfl⟩ ?_ ?_⟩
    · rintro i σ H1 hi ⟨rfl, v1, rfl⟩
      have hx : xs[i]? = some (xs[i]'(by omega)) := List.getElem?_eq_getElem (by omega)
      obtain ⟨g0, g1⟩ := hg _ (List.mem_of_getElem? hx)
      refine ⟨_, rfl, _, rfl, p, _, rfl, .inr (SqT.of hp), rfl, _, rfl, ?_⟩
      rw [List.length_map, hl, show decide (V.int ((0 : Int) + (i : Int)) = V.int ((6 : Nat) : Int)) = false from decide_eq_false (fun e => by have := V.int.inj e; omega)]
      refine iteF ⟨_, rfl, _, rfl, p, _, _, _, rfl, rfl, SqT.of hp, (by rw [Int.zero_add]; exact atI_nat (j := i) (by rw [List.getElem?_map, hx]; rfl)), ?_⟩
      refine ⟨_, 0, 999, rfl, .inl ⟨_, rfl, _, rfl, ?_⟩⟩
      rw [decide_eq_true g0, decide_eq_true g1]
      exact iteF ⟨rfl, _, rfl⟩
    · rintro σ H1 ⟨rfl, v1, rfl⟩
      refine ⟨_, rfl, p, _, rfl, .inr (SqT.of hp), _, _, rfl, rfl, _, rfl, ?_⟩
      rw [List.length_map, hl]
      exact iteF k
theorem ok_cost (T : Gx K mg) : FnOk P w K mg base CX0 4 T.f_cost T.fd_cost ["counts", "prices"] (spCost K) := by
  have G_check_prices : FnOk P w K mg base CX0 3 T.f_check_prices T.fd_check_prices ["prices"] spCheckP := ok_checkP T
  refine T.F_cost.ok sc_cost (fun vs H Q E h => ?_) (fun cdv A outer s H vs Q E hr h => ?_)
  · obtain ⟨c, p, cs, xs, rfl, _⟩ := h
    rfl
  · obtain ⟨c, p, cs, xs, rfl, hc, hp, hcl, hg, k⟩ := h
    refine ⟨_, (pss_cons (ps_expr (pe_call G_check_prices (hr.mono (by first | decide | omega)) (by rfl) T.g_check_prices T.F_check_prices.kp (b_check_prices T) .nil pass0 (pa_cons (pv 1) pa_nil)))
      (pss_one (ps_ret (pe_callB (cr_sum rfl) (by rfl) T.z_sum (by decide +kernel) (pa_cons (pe_lc (own := [("count", 2), ("price", 3)]) (g := gTup K 2 (gCons (gName 2) (gCons (gName 3) gNil))) rfl sc_cost.nd (pi_zipA (by rfl) T.z_zip (pa_cons (pv 0) (pa_cons (pv 1) pa_nil))) (blkOk_by (N := ["counts", "prices", "count", "price"]) (sc := defScope s_cost) (by decide +kernel)) (fun _ _ _ _ _ => pg_tup (by rfl) (pgs_cons (pg_name (i := 2) sc_cost.nd rfl (.inl rfl)) (pgs_cons (pg_name (i := 3) sc_cost.nd rfl (.inl rfl)) pgs_nil))) (fun _ _ _ _ _ => pts_nil) (fun _ _ _ _ _ => (pe_op op_mul (pv 2) (pv 3)))) pa_nil))))), ?_⟩
    refine ⟨_, rfl, p, xs, rfl, hp, hg, ?_⟩
    refine ⟨_, rfl, _, rfl, c, p, _, _, rfl, .inr ⟨SqT.of hc, SqT.of hp, fun D hD => ?_⟩⟩
    refine lc_zipT (K := K) (a := c) (b := p) (xs := cs.map V.int) (ys := xs.map V.int) (by rw [List.length_map, List.length_map, hcl, hg.1]) (fun i H' => Fr [] H H' ∧ H' D = some (.lst ((dotP (cs.take i) (xs.take i)).map V.int))) ⟨Fr.new hD, upd_same⟩ (fun i H' _ h => ⟨SqT.of (h.1 _ _ hc (by simp)), SqT.of (h.1 _ _ hp (by simp))⟩) ?_ ?_
    · rintro i x y U H1 hx hy ⟨f1, e1⟩ hU
      obtain ⟨u, rfl, hu⟩ := int_at hx
      obtain ⟨v, rfl, hv⟩ := int_at hy
      have hi := lt_of_at hu
      obtain ⟨g0, g1⟩ := hg.2 v (List.mem_of_getElem? hv)
      refine ⟨U, _, rfl, SqT.of upd_same, rfl, _, _, rfl, _, _, rfl, rfl, rfl, ?_⟩
      refine ⟨_, rfl, _, rfl, _, _, rfl, rfl, .inr ⟨by omega, by omega⟩, ?_⟩
      have eD := (upd_ne (o := .tup [.int u, .int v]) (ne_of_none e1 hU)).trans e1
      refine ⟨_, eD, ?_, ?_⟩
      · rw [List.length_map]
        exact sz_lt (by unfold dotP; rw [List.length_zipWith]; simp; omega)
      · refine ⟨(f1.trans (Fr.new hU)).upd0 hD, ?_⟩
        rw [upd_same, dot_succ hu hv, List.map_append]
        rfl
    · rintro H1 ⟨f1, e1⟩
      rw [List.length_map, List.take_length, show cs.length = xs.length by rw [hcl, hg.1], List.take_length] at e1
      exact ⟨D, _, rfl, SqL.of e1, k _ f1⟩
end
/-! ### equal, by the law's own comparison, of words too -/
def isL : V → Bool
  | .non => true
  | .bl _ => true
  | .int _ => true
  | .str _ => true
  | _ => false
def Eqn (H : Hp) : Nat → V → V → Prop
  | 0, v, e => v = e ∧ isL e = true
  | n + 1, v, e => (v = e ∧ isL e = true) ∨ (∃ (a b : Addr) (xs ys : List V), v = .ref a ∧ e = .ref b ∧ ((H a = some (.tup xs) ∧ H b = some (.tup ys)) ∨ (H a = some (.lst xs) ∧ H b = some (.lst ys))) ∧ xs.length = ys.length ∧ ys.length ≤ 2000 ∧ ∀ (i : Nat) (x y : V), xs[i]? = some x → ys[i]? = some y → Eqn H n x y)
theorem Eqn.keep {H H' : Hp} (f : Fr [] H H') : ∀ {n : Nat} {v e : V}, Eqn H n v e → Eqn H' n v e
  | 0, _, _, h => h
  | n + 1, _, _, .inl h => .inl h
  | n + 1, _, _, .inr ⟨a, b, xs, ys, e1, e2, h, h3, h5, h4⟩ => by
    refine .inr ⟨a, b, xs, ys, e1, e2, ?_, h3, h5, fun i x y q1 q2 => Eqn.keep f (h4 i x y q1 q2)⟩
    rcases h with ⟨h1, h2⟩ | ⟨h1, h2⟩
    · exact .inl ⟨f _ _ h1 (by simp), f _ _ h2 (by simp)⟩
    · exact .inr ⟨f _ _ h1 (by simp), f _ _ h2 (by simp)⟩
theorem Eqn.flat {H : Hp} {v : V} (h : isL v = true) : ∀ n, Eqn H n v v
  | 0 => ⟨rfl, h⟩
  | _ + 1 => .inl ⟨rfl, h⟩
theorem Eqn.up {H : Hp} : ∀ {n : Nat} {v e : V}, Eqn H n v e → Eqn H (n + 1) v e
  | 0, _, _, h => .inl h
  | n + 1, _, _, .inl h => .inl h
  | n + 1, _, _, .inr ⟨a, b, xs, ys, e1, e2, h, h3, h5, h4⟩ => .inr ⟨a, b, xs, ys, e1, e2, h, h3, h5, fun i x y q1 q2 => Eqn.up (h4 i x y q1 q2)⟩
/-- two lists of plain contents -/
theorem Eqn.same {H : Hp} {n : Nat} {xs : List V} (h : ∀ v ∈ xs, Eqn H n v v) : ∀ (i : Nat) (x y : V), xs[i]? = some x → xs[i]? = some y → Eqn H n x y := fun i x y e1 e2 => by
  rw [e1] at e2
  cases e2
  exact h x (List.mem_of_getElem? e1)
def spEq (n : Nat) : Sp := fun vs H Q _ => ∃ v e : V, vs = [v, e] ∧ Eqn H n v e ∧ ∀ H', Fr [] H H' → Q (.bl true) H'
theorem ix_seqK {X : Cx} {K : PySem.W.Frag} (h : X.K = K) : IxR X (rIx K) := by
  subst h
  exact ix_seq
theorem len_bool {a b : Nat} (h : a = b) : (!decide (V.int (a : Int) = V.int (b : Int))) = false := by
  rw [h]
  simp
section
variable {P : Program} {w : World} {K : PySem.W.Frag} {mg : Str → Option Value} {base : Heap}
theorem ok_equal : ∀ (n : Nat) (T : Gx K mg), FnOk P w K mg base CX0 (n + 1) T.f__law_equal T.fd__law_equal ["_law_actual", "_law_expected"] (spEq n)
  | n, T => by
    refine T.F__law_equal.ok sc__law_equal (fun vs H Q E h => ?_) (fun cdv A outer s H vs Q E hr h => ?_)
    · obtain ⟨v, e, rfl, _⟩ := h
      rfl
    · obtain ⟨v, e, rfl, hE, k⟩ := h
      have leaf : v = e → isL e = true → (∃ t, PSs (cxOf CX0 P w K mg base ["_law_actual", "_law_expected", "_law_k"] "_law_equal" (defScope s__law_equal) T.f__law_equal cdv A outer s H E).nox (defBody s__law_equal) t ∧ t { nx := fun _ H' => Q .non H', rt := Q } (start ["_law_actual", "_law_expected", "_law_k"] [v, e]) H) := by
        intro hve hF
        subst hve
        refine ⟨_, (pss_cons (ps_if (pt_cmpR op_isN (pv 1) pe_non (nomark _)) (pss_one (ps_ret (pe_cmpR op_isN (pv 0) pe_non (nomark _)))) pss_nil)
          (pss_cons (ps_if (pt_val (pe_callB call_isi (by rfl) T.z_isinstance (by decide +kernel) (pa_cons (pv 1) (pa_cons (pe_bltn (v := .ty "bool") (by rfl) T.z_bool (by decide +kernel) rfl) pa_nil)))) (pss_one (ps_ret (pe_and (pe_callB call_isi (by rfl) T.z_isinstance (by decide +kernel) (pa_cons (pv 0) (pa_cons (pe_bltn (v := .ty "bool") (by rfl) T.z_bool (by decide +kernel) rfl) pa_nil))) (pe_one (pe_cmpR op_eq (pv 0) (pv 1) (nomark _)))))) pss_nil)
          (pss_cons (ps_if (pt_val (pe_callB call_isi (by rfl) T.z_isinstance (by decide +kernel) (pa_cons (pv 1) (pa_cons (pe_bltn (v := .ty "int") (by rfl) T.z_int (by decide +kernel) rfl) pa_nil)))) (pss_one (ps_ret (pe_and (pe_callB call_isi (by rfl) T.z_isinstance (by decide +kernel) (pa_cons (pv 0) (pa_cons (pe_bltn (v := .ty "int") (by rfl) T.z_int (by decide +kernel) rfl) pa_nil))) (pe_and (pe_not (pe_callB call_isi (by rfl) T.z_isinstance (by decide +kernel) (pa_cons (pv 0) (pa_cons (pe_bltn (v := .ty "bool") (by rfl) T.z_bool (by decide +kernel) rfl) pa_nil)))) (pe_one (pe_cmpR op_eq (pv 0) (pv 1) (nomark _))))))) pss_nil)
          (pss_cons (ps_if (pt_val (pe_callB call_isi (by rfl) T.z_isinstance (by decide +kernel) (pa_cons (pv 1) (pa_cons (pe_bltn (v := .ty "str") (by rfl) T.z_str (by decide +kernel) rfl) pa_nil)))) (pss_one (ps_ret (pe_and (pe_callB call_isi (by rfl) T.z_isinstance (by decide +kernel) (pa_cons (pv 0) (pa_cons (pe_bltn (v := .ty "str") (by rfl) T.z_str (by decide +kernel) rfl) pa_nil))) (pe_one (pe_cmpR op_eq (pv 0) (pv 1) (nomark _)))))) pss_nil)
          pss_never)))), ?_⟩
        have k0 := k H (Fr.refl _ _)
        cases v with
        | non =>
          exact ⟨_, rfl, rfl, _, rfl, iteT ⟨_, rfl, rfl, k0⟩⟩
        | bl b =>
          refine ⟨_, rfl, rfl, _, rfl, iteF ?_⟩
          refine ⟨_, rfl, _, .ty "bool", .type "bool", _, true, rfl, ClsV.ty "bool", .base (.bl b), kit_ty (by decide +kernel), _, rfl, iteT ?_⟩
          refine ⟨_, rfl, _, .ty "bool", .type "bool", _, true, rfl, ClsV.ty "bool", .base (.bl b), kit_ty (by decide +kernel), _, rfl, iteT ?_⟩
          refine ⟨_, rfl, _, rfl, rfl, ?_⟩
          show Q (.bl (decide (V.bl b = V.bl b))) _
          rw [decide_eq_true rfl]
          exact k0
        | int i =>
          refine ⟨_, rfl, rfl, _, rfl, iteF ?_⟩
          refine ⟨_, rfl, _, .ty "bool", .type "int", _, false, rfl, ClsV.ty "bool", .base (.int i), kit_ty (by decide +kernel), _, rfl, iteF ?_⟩
          refine ⟨_, rfl, _, .ty "int", .type "int", _, true, rfl, ClsV.ty "int", .base (.int i), kit_ty (by decide +kernel), _, rfl, iteT ?_⟩
          refine ⟨_, rfl, _, .ty "int", .type "int", _, true, rfl, ClsV.ty "int", .base (.int i), kit_ty (by decide +kernel), _, rfl, iteT ?_⟩
          refine ⟨_, rfl, _, .ty "bool", .type "int", _, false, rfl, ClsV.ty "bool", .base (.int i), kit_ty (by decide +kernel), _, rfl, _, rfl, iteT ?_⟩
          refine ⟨_, rfl, _, rfl, rfl, ?_⟩
          show Q (.bl (decide (V.int i = V.int i))) _
          rw [decide_eq_true rfl]
          exact k0
        | str z =>
          refine ⟨_, rfl, rfl, _, rfl, iteF ?_⟩
          refine ⟨_, rfl, _, .ty "bool", .type "str", _, false, rfl, ClsV.ty "bool", .base (.str z), kit_ty (by decide +kernel), _, rfl, iteF ?_⟩
          refine ⟨_, rfl, _, .ty "int", .type "str", _, false, rfl, ClsV.ty "int", .base (.str z), kit_ty (by decide +kernel), _, rfl, iteF ?_⟩
          refine ⟨_, rfl, _, .ty "str", .type "str", _, true, rfl, ClsV.ty "str", .base (.str z), kit_ty (by decide +kernel), _, rfl, iteT ?_⟩
          refine ⟨_, rfl, _, .ty "str", .type "str", _, true, rfl, ClsV.ty "str", .base (.str z), kit_ty (by decide +kernel), _, rfl, iteT ?_⟩
          refine ⟨_, rfl, _, rfl, rfl, ?_⟩
          show Q (.bl (decide (V.str z = V.str z))) _
          rw [decide_eq_true rfl]
          exact k0
        | byt _ => cases hF
        | flt _ => cases hF
        | ref _ => cases hF
        | ty _ => cases hF
      cases n with
      | zero => exact leaf hE.1 hE.2
      | succ n =>
        rcases hE with ⟨e1, e2⟩ | ⟨a, b, xs, ys, rfl, rfl, hab, hl, h2k, hi⟩
        · exact leaf e1 e2
        · have G__law_equal : FnOk P w K mg base CX0 (n + 1) T.f__law_equal T.fd__law_equal ["_law_actual", "_law_expected"] (spEq n) := ok_equal n T
          refine ⟨_, (pss_cons (ps_if (pt_cmpR op_isN (pv 1) pe_non (nomark _)) (pss_one (ps_ret (pe_cmpR op_isN (pv 0) pe_non (nomark _)))) pss_nil)
      (pss_cons (ps_if (pt_val (pe_callB call_isi (by rfl) T.z_isinstance (by decide +kernel) (pa_cons (pv 1) (pa_cons (pe_bltn (v := .ty "bool") (by rfl) T.z_bool (by decide +kernel) rfl) pa_nil)))) (pss_one (ps_ret (pe_and (pe_callB call_isi (by rfl) T.z_isinstance (by decide +kernel) (pa_cons (pv 0) (pa_cons (pe_bltn (v := .ty "bool") (by rfl) T.z_bool (by decide +kernel) rfl) pa_nil))) (pe_one (pe_cmpR op_eq (pv 0) (pv 1) (nomark _)))))) pss_nil)
      (pss_cons (ps_if (pt_val (pe_callB call_isi (by rfl) T.z_isinstance (by decide +kernel) (pa_cons (pv 1) (pa_cons (pe_bltn (v := .ty "int") (by rfl) T.z_int (by decide +kernel) rfl) pa_nil)))) (pss_one (ps_ret (pe_and (pe_callB call_isi (by rfl) T.z_isinstance (by decide +kernel) (pa_cons (pv 0) (pa_cons (pe_bltn (v := .ty "int") (by rfl) T.z_int (by decide +kernel) rfl) pa_nil))) (pe_and (pe_not (pe_callB call_isi (by rfl) T.z_isinstance (by decide +kernel) (pa_cons (pv 0) (pa_cons (pe_bltn (v := .ty "bool") (by rfl) T.z_bool (by decide +kernel) rfl) pa_nil)))) (pe_one (pe_cmpR op_eq (pv 0) (pv 1) (nomark _))))))) pss_nil)
      (pss_cons (ps_if (pt_val (pe_callB call_isi (by rfl) T.z_isinstance (by decide +kernel) (pa_cons (pv 1) (pa_cons (pe_bltn (v := .ty "str") (by rfl) T.z_str (by decide +kernel) rfl) pa_nil)))) (pss_one (ps_ret (pe_and (pe_callB call_isi (by rfl) T.z_isinstance (by decide +kernel) (pa_cons (pv 0) (pa_cons (pe_bltn (v := .ty "str") (by rfl) T.z_str (by decide +kernel) rfl) pa_nil))) (pe_one (pe_cmpR op_eq (pv 0) (pv 1) (nomark _)))))) pss_nil)
      (pss_cons (ps_if (pt_cmpR op_ne (pe_callB call_isi (by rfl) T.z_isinstance (by decide +kernel) (pa_cons (pv 1) (pa_cons (pe_bltn (v := .ty "tuple") (by rfl) T.z_tuple (by decide +kernel) rfl) pa_nil))) (pe_callB call_isi (by rfl) T.z_isinstance (by decide +kernel) (pa_cons (pv 0) (pa_cons (pe_bltn (v := .ty "tuple") (by rfl) T.z_tuple (by decide +kernel) rfl) pa_nil))) (nomark _)) (pss_one (ps_ret pe_bl)) pss_nil)
      (pss_cons (ps_if (pt_cmpR op_ne (pe_callB call_isi (by rfl) T.z_isinstance (by decide +kernel) (pa_cons (pv 1) (pa_cons (pe_bltn (v := .ty "list") (by rfl) T.z_list (by decide +kernel) rfl) pa_nil))) (pe_callB call_isi (by rfl) T.z_isinstance (by decide +kernel) (pa_cons (pv 0) (pa_cons (pe_bltn (v := .ty "list") (by rfl) T.z_list (by decide +kernel) rfl) pa_nil))) (nomark _)) (pss_one (ps_ret pe_bl)) pss_nil)
      (pss_cons (ps_if (pt_cmpR op_ne (pe_callB call_len_seq (by rfl) T.z_len (by decide +kernel) (pa_cons (pv 0) pa_nil)) (pe_callB call_len_seq (by rfl) T.z_len (by decide +kernel) (pa_cons (pv 1) pa_nil)) (nomark _)) (pss_one (ps_ret pe_bl)) pss_nil)
      (pss_one (ps_ret (pe_callB (cr_all rfl) (by rfl) T.z_all (by decide +kernel) (pa_cons (pe_lc (own := [("_law_k", 2)]) (g := gName 2) rfl sc__law_equal.nd (pi_range1 (by rfl) T.z_range (pa_cons (pe_callB call_len_seq (by rfl) T.z_len (by decide +kernel) (pa_cons (pv 1) pa_nil)) pa_nil)) (blkOk_by (N := ["_law_actual", "_law_expected", "_law_k"]) (sc := defScope s__law_equal) (by decide +kernel)) (fun _ _ _ _ _ => pg_name (i := 2) sc__law_equal.nd rfl (.inl rfl)) (fun _ _ _ _ _ => pts_nil) (fun _ _ _ _ _ => (pe_call G__law_equal (hr.mono (by first | decide | omega)) (by rfl) T.g__law_equal T.F__law_equal.kp (b__law_equal T) .nil pass0 (pa_cons (pe_ix (ix_seqK (K := K) rfl) (pv 0) (pv 2) (fun _ _ => rfl)) (pa_cons (pe_ix (ix_seqK (K := K) rfl) (pv 1) (pv 2) (fun _ _ => rfl)) pa_nil))))) pa_nil))))))))))), ?_⟩
          obtain ⟨ty, ta, tb, t1, t2, t3, t4, bt, bl, t5, t6⟩ : ∃ ty : String, TyX K H (.ref a) (.type ty) ∧ TyX K H (.ref b) (.type ty) ∧ kitB ty "bool" = some false ∧ kitB ty "int" = some false ∧ kitB ty "str" = some false ∧ (SqL K H a xs ∧ SqL K H b ys ∨ SqT K H a xs ∧ SqT K H b ys) ∧ ∃ bt bl : Bool, kitB ty "tuple" = some bt ∧ kitB ty "list" = some bl := by
            rcases hab with ⟨h1, h2⟩ | ⟨h1, h2⟩
            · exact ⟨"tuple", .base (.tup h1), .base (.tup h2), by decide +kernel, by decide +kernel, by decide +kernel, .inr ⟨SqT.of h1, SqT.of h2⟩, true, false, by decide +kernel, by decide +kernel⟩
            · exact ⟨"list", .base (.lst h1), .base (.lst h2), by decide +kernel, by decide +kernel, by decide +kernel, .inl ⟨SqL.of h1, SqL.of h2⟩, false, true, by decide +kernel, by decide +kernel⟩
          refine ⟨_, rfl, rfl, _, rfl, iteF ?_⟩
          refine ⟨_, rfl, _, .ty "bool", .type ty, _, false, rfl, ClsV.ty "bool", tb, kit_ty t1, _, rfl, iteF ?_⟩
          refine ⟨_, rfl, _, .ty "int", .type ty, _, false, rfl, ClsV.ty "int", tb, kit_ty t2, _, rfl, iteF ?_⟩
          refine ⟨_, rfl, _, .ty "str", .type ty, _, false, rfl, ClsV.ty "str", tb, kit_ty t3, _, rfl, iteF ?_⟩
          refine ⟨_, rfl, _, .ty "tuple", .type ty, _, bt, rfl, ClsV.ty "tuple", tb, kit_ty t5, _, rfl, _, .ty "tuple", .type ty, _, bt, rfl, ClsV.ty "tuple", ta, kit_ty t5, rfl, _, rfl, ?_⟩
          rw [decide_eq_true rfl]
          refine iteF ?_
          refine ⟨_, rfl, _, .ty "list", .type ty, _, bl, rfl, ClsV.ty "list", tb, kit_ty t6, _, rfl, _, .ty "list", .type ty, _, bl, rfl, ClsV.ty "list", ta, kit_ty t6, rfl, _, rfl, ?_⟩
          rw [decide_eq_true rfl]
          refine iteF ?_
          have sa : SqL K H a xs ∨ SqT K H a xs := t4.elim (fun z => .inl z.1) (fun z => .inr z.1)
          have sb : SqL K H b ys ∨ SqT K H b ys := t4.elim (fun z => .inl z.2) (fun z => .inr z.2)
          refine ⟨_, rfl, a, xs, rfl, sa, _, rfl, b, ys, rfl, sb, rfl, _, rfl, ?_⟩
          rw [len_bool hl]
          refine iteF ?_
          refine ⟨_, rfl, b, ys, rfl, sb, (ys.length : Int), rfl, by omega, by omega, fun D hD => ?_⟩
          rw [Int.toNat_natCast]
          refine lc_range (lo := 0) (n := ys.length) (fun i H' => Fr [] H H' ∧ H' D = some (.lst ((List.replicate i true).map V.bl))) ⟨Fr.new hD, upd_same⟩ ?_ ?_
          · rintro i H1 hil ⟨f, eD⟩
            have hx : xs[i]? = some (xs[i]'(by omega)) := List.getElem?_eq_getElem (by omega)
            have hy : ys[i]? = some ys[i] := List.getElem?_eq_getElem hil
            have ea : atI xs ((0 : Int) + (i : Int)) = some (xs[i]'(by omega)) := at_of (by omega) hx
            have eb : atI ys ((0 : Int) + (i : Int)) = some ys[i] := at_of (by omega) hy
            refine ⟨rfl, _, rfl, _, rfl, ?_⟩
            have step : ∀ H2, Fr [] H1 H2 → ∃ acc, H2 D = some (.lst acc) ∧ acc.length < sizeLine ∧ Fr [] H (upd H2 D (.lst (acc ++ [.bl true]))) ∧ (upd H2 D (.lst (acc ++ [V.bl true]))) D = some (.lst ((List.replicate (i + 1) true).map V.bl)) := fun H2 f2 => by
              refine ⟨_, f2 _ _ eD (by simp), ?_, ?_, ?_⟩
              · rw [List.length_map, List.length_replicate]
                exact sz_lt (by omega)
              · intro c o ec _
                rw [upd_ne (ne_of_none ec hD)]
                exact (f.trans f2) c o ec (by simp)
              · rw [upd_same, List.replicate_succ', List.map_append]
                rfl
            have fin : spEq n [xs[i]'(by omega), ys[i]] H1 (fun y H4 => ∃ acc, H4 D = some (.lst acc) ∧ acc.length < sizeLine ∧ Fr [] H (upd H4 D (.lst (acc ++ [y]))) ∧ (upd H4 D (.lst (acc ++ [y]))) D = some (.lst ((List.replicate (i + 1) true).map V.bl))) E0 :=
              ⟨_, _, rfl, (hi i _ _ hx hy).keep f, fun H2 f2 => step H2 f2⟩
            rcases t4 with ⟨s1, s2⟩ | ⟨s1, s2⟩
            · exact .inl ⟨a, xs, _, _, rfl, rfl, f.seq (by simp) s1, ea, _, rfl, _, rfl, .inl ⟨b, ys, _, _, rfl, rfl, f.seq (by simp) s2, eb, fin⟩⟩
            · exact .inr (.inl ⟨a, xs, _, _, rfl, rfl, f.tup (by simp) s1, ea, _, rfl, _, rfl, .inr (.inl ⟨b, ys, _, _, rfl, rfl, f.tup (by simp) s2, eb, fin⟩)⟩)
          · rintro H1 ⟨f, eD⟩
            refine ⟨D, List.replicate ys.length true, rfl, SqL.of eD, ?_⟩
            have : (List.replicate ys.length true).all id = true := by simp
            rw [this]
            exact k _ f
end
theorem some_of {H H' : Hp} {S : List Addr} (f : Fr S H H') (hs : ∀ b ∈ S, ∃ o, H' b = some o) {p : Addr} (h : H' p = none) : H p = none := by
  cases e : H p with
  | none => rfl
  | some o =>
    by_cases hp : p ∈ S
    · obtain ⟨o', e'⟩ := hs p hp
      rw [e'] at h
      cases h
    · rw [f p o e hp] at h
      cases h
theorem pe_never {X : Cx} {e : Expr} : PE X e (fun _ _ _ => False) := ⟨fun _ _ _ _ _ _ h => h.elim⟩
theorem iteFb {A B : Prop} {b : Bool} (e : b = false) (h : B) : if b = true then A else B := by
  rw [if_neg (by rw [e]; simp)]
  exact h
theorem iteTb {A B : Prop} {b : Bool} (e : b = true) (h : A) : if b = true then A else B := by
  rw [if_pos e]
  exact h
/-! ### kinds of an error -/
theorem kit_own {K : PySem.W.Frag} {C : Addr} {t : Value} {b : Bool} (hc : PySem.W.isClsIn K C = true) (ht : PySem.W.typeIn K (.ref C) = some (.type "type")) (hs : PySem.W.subIn K t (.ref C) = some b) (hne : (t == .ref C) = true → b = true) : PySem.W.kitOne K t (.ref C) = some b := by
  unfold PySem.W.kitOne
  split
  · rename_i e
    rw [hne e]
  · unfold PySem.W.kitCls
    have h1 : (PySem.W.clsIn K C).isSome = true := hc
    simp only [h1, ht, beq_self_eq_true, Bool.and_true, if_true]
    exact hs
theorem ne_of_sub {K : PySem.W.Frag} {D X : Addr} (h1 : PySem.W.subIn K (.ref D) (.ref X) = some false) (h2 : PySem.W.subIn K (.ref D) (.ref D) = some true) (e : (Value.ref D == Value.ref X) = true) : false = true := by
  have e' : D = X := by simpa using e
  rw [← e', h2] at h1
  cases h1
theorem kit_ve {K : PySem.W.Frag} {D : Addr} (h : PySem.W.subIn K (.ref D) (.type "ValueError") = some true) : PySem.W.kitOne K (.ref D) (.type "ValueError") = some true := by
  unfold PySem.W.kitOne
  rw [if_neg (by simp)]
  unfold PySem.W.kitCls
  simp only [h]
  first
    | rfl
    | simp
def suiteOf : List Stmt → List Stmt
  | .Try _ (.ExceptHandler _ _ s _ :: _) _ _ _ :: _ => s
  | _ => []
section
open PySem.W
theorem pe_isi {X : Cx} {D a C : Addr} {oe : Obj} {d : Option Addr} {i : Nat} {x c : Str} {b : Bool} {p p1 p2 pos : Pos} (hE : ExcC X.K D) (hC : Cgt X D a oe d) (hg : Gl X "isinstance") (hm : X.mg "isinstance" = none) (hN : X.N[i]? = some x) (hv : Vis X.env.scope x) (hgC : Gl X c) (hmC : X.mg c = some (.ref C)) (kit : kitOne X.K (.ref D) (.ref C) = some b)
    (hd : (x == ("__debug__" : Str)) = false := by decide) (hcd : (x == ("__classdict__" : Str)) = false := by decide) (hdc : (c == ("__debug__" : Str)) = false := by decide) : PE X (.Call (.Name "isinstance" p) [.Name x p1, .Name c p2] [] pos) (fun σ H Q => (σ[i]? = some (some (.ref a)) ∧ ∃ fs, FldsAt H d fs) ∧ Q (.bl b) H) := by
  refine ⟨fun pins s σ H Q I h => PE.run (pe_callB (call_isC hE hC) hg hm (by decide +kernel) (pa_cons (pe_var hN hv hd hcd) (pa_cons (pe_glob (v := .ref C) hgC hmC rfl hdc) pa_nil))) pins s σ H Q I ?_⟩
  obtain ⟨⟨h1, fs, hf⟩, q⟩ := h
  exact ⟨_, h1, _, .ref C, _, fs, rfl, hf, (fun _ z => z), kit, q⟩
end
/-! ### what the law's _law_error_of tells -/
def ENAMES : Str := (("size cell kept block value count slot word story off on nofast hasfast unsettled" : Str) ++ (" contradiction name unknown rules recipes requests prices plan" : Str)) ++ (" failed operation notation decode" : Str)
theorem new_at {H : Hp} {p : Addr} (_ : H p = none) (o : HO) : upd H p o p = some o := upd_same
theorem split_names : (Txt.split ENAMES " ") = ([("size" : Str), ("cell" : Str), ("kept" : Str), ("block" : Str), ("value" : Str), ("count" : Str), ("slot" : Str), ("word" : Str), ("story" : Str), ("off" : Str), ("on" : Str), ("nofast" : Str), ("hasfast" : Str), ("unsettled" : Str), ("contradiction" : Str), ("name" : Str), ("unknown" : Str), ("rules" : Str), ("recipes" : Str), ("requests" : Str), ("prices" : Str), ("plan" : Str), ("failed" : Str), ("operation" : Str), ("notation" : Str), ("decode" : Str)] : List Str) := by decide +kernel
theorem idx_first {ys : List V} {y : V} {j : Nat} (h : (ys.take j).all (fun z => !eqV z y) = true) : ∀ (m : Nat) (z' : V), m < j → ys[m]? = some z' → eqV z' y = false := fun m z' hm hz => by
  have e : (ys.take j)[m]? = some z' := by rw [List.getElem?_take_of_lt hm]; exact hz
  have q := List.all_eq_true.mp h z' (List.mem_of_getElem? e)
  simpa using q

section
variable {P : Program} {w : World} {K : PySem.W.Frag} {mg : Str → Option Value} {base : Heap}
/-- the ways in which a call that is asked about may end by an error -/
def ErrEnd (T : Gx K mg) (cls : Value) (d : Option Addr) (H : Hp) (Q : VK) : Prop :=
  (∃ p : V, cls = .ref T.C_InvalidPrices ∧ d ≠ none ∧ FldsAt H d [("index", p)] ∧ ∀ (t : Addr) (H'' : Hp), H t = none → Fr [] H H'' → H'' t = some (.tup [.str "prices", p]) → Q (.ref t) H'')
theorem ok_told_InvalidPrices (T : Gx K mg) {a : Addr} {oe : Obj} {d : Option Addr} (hz : L2N.Zn (.ref T.C_InvalidPrices) d oe) (hf : ∃ vs, oe.data = .fields vs) : FnP P w K mg base C8.CX0 1 T.f__law_told_of (a, oe)
    (fun vs H Q _ => vs = [.ref a, .str "prices"] ∧ ∃ p : V, d ≠ none ∧ FldsAt H d [("index", p)] ∧ ∀ (t : Addr) (H'' : Hp), H t = none → Fr [] H H'' → H'' t = some (.tup [.str "prices", p]) → Q (.ref t) H'') := by
  refine FunOkP T.F__law_told_of (b__law_told_of T) sc__law_told_of (fun vs H Q E h => by obtain ⟨rfl, _⟩ := h; rfl) (fun cdv A outer s H vs Q E hr h => ?_)
  have hC : ∀ {X : Cx}, X.pn = [(a, oe)] → Cgt X T.C_InvalidPrices a oe d := fun e => ⟨by rw [e]; exact List.mem_cons_self, hz, hf⟩
  have hX : PySem.W.Frag → XfC K T.C_InvalidPrices := fun _ => ⟨T.E_InvalidPrices.hg, T.E_InvalidPrices.hk, T.E_InvalidPrices.hs, T.E_InvalidPrices.hd⟩
  obtain ⟨rfl, p, hd, hfl, k⟩ := h
  refine ⟨_, (pss_cons (ps_if (pt_cmpR op_eq (pv 1) pe_str (nomark _)) pss_never pss_nil) (pss_cons (ps_if (pt_cmpR op_eq (pv 1) pe_str (nomark _)) pss_never pss_nil) (pss_cons (ps_if (pt_cmpR op_in_seq (pv 1) (pe_lst (pa_cons pe_str (pa_cons pe_str (pa_cons pe_str pa_nil)))) (by rfl)) (pss_one (ps_ret (pe_tup (pa_cons (pv 1) (pa_cons (pe_fldC (hX K) T.no_InvalidPrices_index (hC rfl) (pv 0)) pa_nil))))) pss_nil) pss_never))), ?_⟩
  refine ⟨_, rfl, rfl, _, rfl, iteF ?_⟩
  refine ⟨_, rfl, rfl, _, rfl, iteF ?_⟩
  refine ⟨_, rfl, sz_le (by simp), fun g hg => ⟨g, _, rfl, .inl (SqL.of upd_same), rfl, rfl, _, rfl, ?_⟩⟩
  have hG := FldsAt.keep (S := []) hfl (Fr.new (o := .lst [.str "requests", .str "prices", .str "plan"]) hg) (by simp)
  refine iteTb (by decide +kernel) ?_
  exact ⟨_, rfl, _, rfl, rfl, _, _, hd, hG, rfl, sz_le (by simp), fun t ht => k t _ (free_upd ht).1 ((Fr.new hg).trans (Fr.new ht)) upd_same⟩
def kinds_InvalidPrices : List V := [.bl false, .bl false, .bl false, .bl false, .bl false, .bl false, .bl false, .bl false, .bl false, .bl false, .bl false, .bl false, .bl false, .bl false, .bl false, .bl false, .bl false, .bl false, .bl false, .bl false, .bl true, .bl false, .bl false, .bl false, .bl false, .bl false]
theorem kinds_InvalidPrices_cnt : kinds_InvalidPrices.countP (fun z => eqV z (.bl true)) = 1 := by decide +kernel
theorem kinds_InvalidPrices_all : kinds_InvalidPrices.all flatV = true := by decide +kernel
theorem kinds_InvalidPrices_at : kinds_InvalidPrices[20]? = some (.bl true) := by decide +kernel
theorem kinds_InvalidPrices_fst : ∀ (m : Nat) (z' : V), m < 20 → kinds_InvalidPrices[m]? = some z' → eqV z' (.bl true) = false := idx_first (by decide +kernel)
theorem suite_InvalidPrices (T : Gx K mg) {A : Around} {outer : List Env} {s : Shared} {H0 : Hp} {E : XK} {cdv : Value} {a : Addr} {oe : Obj} {d : Option Addr} {pn : List (Addr × Obj)} (hr : Room 2 (A.deeper (PyProof.Rows.envOfC "_law_error_of" (defScope s__law_error_of) s.heap.objs.size T.f__law_error_of cdv))) (hz : L2N.Zn (.ref T.C_InvalidPrices) d oe) (hf : ∃ vs, oe.data = .fields vs) :
    PSs ((cxOf C8.CX0 P w K mg base ["_law_call", "_law_e", "_law_kinds", "_law_names"] "_law_error_of" (defScope s__law_error_of) T.f__law_error_of cdv A outer s H0 E).suite a ((a, oe) :: pn)) (suiteOf (defBody s__law_error_of)) (fun D σ H => (∃ (x : V) (v2 v3 : Option V), σ = [some x, some (.ref a), v2, v3]) ∧ (∃ p : V, d ≠ none ∧ FldsAt H d [("index", p)] ∧ ∀ (t : Addr) (H'' : Hp), H t = none → Fr [] H H'' → H'' t = some (.tup [.str "prices", p]) → D.rt (.ref t) H'')) := by
  have hC : Cgt ((cxOf C8.CX0 P w K mg base ["_law_call", "_law_e", "_law_kinds", "_law_names"] "_law_error_of" (defScope s__law_error_of) T.f__law_error_of cdv A outer s H0 E).suite a ((a, oe) :: pn)) T.C_InvalidPrices a oe d := ⟨List.mem_cons_self, hz, hf⟩
  have hE : ExcC ((cxOf C8.CX0 P w K mg base ["_law_call", "_law_e", "_law_kinds", "_law_names"] "_law_error_of" (defScope s__law_error_of) T.f__law_error_of cdv A outer s H0 E).suite a ((a, oe) :: pn)).K T.C_InvalidPrices := T.E_InvalidPrices
  have hT := ok_told_InvalidPrices (P := P) (w := w) (base := base) T (a := a) hz hf
  have hHot : L2H.Hot1 ((cxOf C8.CX0 P w K mg base ["_law_call", "_law_e", "_law_kinds", "_law_names"] "_law_error_of" (defScope s__law_error_of) T.f__law_error_of cdv A outer s H0 E).suite a ((a, oe) :: pn)).A (a, oe) := ⟨rfl, by
    obtain ⟨vs, hv⟩ := hf
    exact ⟨vs, hv, hz.2.2 vs hv⟩⟩
  refine ⟨fun pins s' σ H D I h => PSs.run (C8.pss_cut (ps_set (i := 2) sc__law_error_of.nd rfl (.inl rfl) (pe_lst (pa_cons (pe_isi (i := 1) hE hC (by rfl) T.z_isinstance rfl (by first | exact Or.inl rfl | exact Or.inr (Or.inl rfl) | exact Or.inr (Or.inr rfl)) (by rfl) T.gC_InvalidSize (kit_own T.ic_InvalidSize T.ty_InvalidSize T.sb_InvalidPrices_InvalidSize (fun e => (ne_of_sub T.sb_InvalidPrices_InvalidSize T.sb_InvalidPrices_InvalidPrices e)))) (pa_cons (pe_isi (i := 1) hE hC (by rfl) T.z_isinstance rfl (by first | exact Or.inl rfl | exact Or.inr (Or.inl rfl) | exact Or.inr (Or.inr rfl)) (by rfl) T.gC_InvalidCell (kit_own T.ic_InvalidCell T.ty_InvalidCell T.sb_InvalidPrices_InvalidCell (fun e => (ne_of_sub T.sb_InvalidPrices_InvalidCell T.sb_InvalidPrices_InvalidPrices e)))) (pa_cons (pe_isi (i := 1) hE hC (by rfl) T.z_isinstance rfl (by first | exact Or.inl rfl | exact Or.inr (Or.inl rfl) | exact Or.inr (Or.inr rfl)) (by rfl) T.gC_InvalidKept (kit_own T.ic_InvalidKept T.ty_InvalidKept T.sb_InvalidPrices_InvalidKept (fun e => (ne_of_sub T.sb_InvalidPrices_InvalidKept T.sb_InvalidPrices_InvalidPrices e)))) pa_nil)))))
      (C8.pss_cut (ps_set (i := 2) sc__law_error_of.nd rfl (.inl rfl) (pe_op op_cat (pv 2) (pe_lst (pa_cons (pe_isi (i := 1) hE hC (by rfl) T.z_isinstance rfl (by first | exact Or.inl rfl | exact Or.inr (Or.inl rfl) | exact Or.inr (Or.inr rfl)) (by rfl) T.gC_InvalidBlock (kit_own T.ic_InvalidBlock T.ty_InvalidBlock T.sb_InvalidPrices_InvalidBlock (fun e => (ne_of_sub T.sb_InvalidPrices_InvalidBlock T.sb_InvalidPrices_InvalidPrices e)))) (pa_cons (pe_isi (i := 1) hE hC (by rfl) T.z_isinstance rfl (by first | exact Or.inl rfl | exact Or.inr (Or.inl rfl) | exact Or.inr (Or.inr rfl)) (by rfl) T.gC_InvalidValue (kit_own T.ic_InvalidValue T.ty_InvalidValue T.sb_InvalidPrices_InvalidValue (fun e => (ne_of_sub T.sb_InvalidPrices_InvalidValue T.sb_InvalidPrices_InvalidPrices e)))) (pa_cons (pe_isi (i := 1) hE hC (by rfl) T.z_isinstance rfl (by first | exact Or.inl rfl | exact Or.inr (Or.inl rfl) | exact Or.inr (Or.inr rfl)) (by rfl) T.gC_InvalidCount (kit_own T.ic_InvalidCount T.ty_InvalidCount T.sb_InvalidPrices_InvalidCount (fun e => (ne_of_sub T.sb_InvalidPrices_InvalidCount T.sb_InvalidPrices_InvalidPrices e)))) pa_nil))))))
      (C8.pss_cut (ps_set (i := 2) sc__law_error_of.nd rfl (.inl rfl) (pe_op op_cat (pv 2) (pe_lst (pa_cons (pe_isi (i := 1) hE hC (by rfl) T.z_isinstance rfl (by first | exact Or.inl rfl | exact Or.inr (Or.inl rfl) | exact Or.inr (Or.inr rfl)) (by rfl) T.gC_InvalidSlot (kit_own T.ic_InvalidSlot T.ty_InvalidSlot T.sb_InvalidPrices_InvalidSlot (fun e => (ne_of_sub T.sb_InvalidPrices_InvalidSlot T.sb_InvalidPrices_InvalidPrices e)))) (pa_cons (pe_isi (i := 1) hE hC (by rfl) T.z_isinstance rfl (by first | exact Or.inl rfl | exact Or.inr (Or.inl rfl) | exact Or.inr (Or.inr rfl)) (by rfl) T.gC_InvalidWord (kit_own T.ic_InvalidWord T.ty_InvalidWord T.sb_InvalidPrices_InvalidWord (fun e => (ne_of_sub T.sb_InvalidPrices_InvalidWord T.sb_InvalidPrices_InvalidPrices e)))) (pa_cons (pe_isi (i := 1) hE hC (by rfl) T.z_isinstance rfl (by first | exact Or.inl rfl | exact Or.inr (Or.inl rfl) | exact Or.inr (Or.inr rfl)) (by rfl) T.gC_InvalidStory (kit_own T.ic_InvalidStory T.ty_InvalidStory T.sb_InvalidPrices_InvalidStory (fun e => (ne_of_sub T.sb_InvalidPrices_InvalidStory T.sb_InvalidPrices_InvalidPrices e)))) pa_nil))))))
      (C8.pss_cut (ps_set (i := 2) sc__law_error_of.nd rfl (.inl rfl) (pe_op op_cat (pv 2) (pe_lst (pa_cons (pe_isi (i := 1) hE hC (by rfl) T.z_isinstance rfl (by first | exact Or.inl rfl | exact Or.inr (Or.inl rfl) | exact Or.inr (Or.inr rfl)) (by rfl) T.gC_PowerOff (kit_own T.ic_PowerOff T.ty_PowerOff T.sb_InvalidPrices_PowerOff (fun e => (ne_of_sub T.sb_InvalidPrices_PowerOff T.sb_InvalidPrices_InvalidPrices e)))) (pa_cons (pe_isi (i := 1) hE hC (by rfl) T.z_isinstance rfl (by first | exact Or.inl rfl | exact Or.inr (Or.inl rfl) | exact Or.inr (Or.inr rfl)) (by rfl) T.gC_PowerOn (kit_own T.ic_PowerOn T.ty_PowerOn T.sb_InvalidPrices_PowerOn (fun e => (ne_of_sub T.sb_InvalidPrices_PowerOn T.sb_InvalidPrices_InvalidPrices e)))) (pa_cons (pe_isi (i := 1) hE hC (by rfl) T.z_isinstance rfl (by first | exact Or.inl rfl | exact Or.inr (Or.inl rfl) | exact Or.inr (Or.inr rfl)) (by rfl) T.gC_NoFastDisk (kit_own T.ic_NoFastDisk T.ty_NoFastDisk T.sb_InvalidPrices_NoFastDisk (fun e => (ne_of_sub T.sb_InvalidPrices_NoFastDisk T.sb_InvalidPrices_InvalidPrices e)))) pa_nil))))))
      (C8.pss_cut (ps_set (i := 2) sc__law_error_of.nd rfl (.inl rfl) (pe_op op_cat (pv 2) (pe_lst (pa_cons (pe_isi (i := 1) hE hC (by rfl) T.z_isinstance rfl (by first | exact Or.inl rfl | exact Or.inr (Or.inl rfl) | exact Or.inr (Or.inr rfl)) (by rfl) T.gC_HasFastDisk (kit_own T.ic_HasFastDisk T.ty_HasFastDisk T.sb_InvalidPrices_HasFastDisk (fun e => (ne_of_sub T.sb_InvalidPrices_HasFastDisk T.sb_InvalidPrices_InvalidPrices e)))) (pa_cons (pe_isi (i := 1) hE hC (by rfl) T.z_isinstance rfl (by first | exact Or.inl rfl | exact Or.inr (Or.inl rfl) | exact Or.inr (Or.inr rfl)) (by rfl) T.gC_Unsettled (kit_own T.ic_Unsettled T.ty_Unsettled T.sb_InvalidPrices_Unsettled (fun e => (ne_of_sub T.sb_InvalidPrices_Unsettled T.sb_InvalidPrices_InvalidPrices e)))) (pa_cons (pe_isi (i := 1) hE hC (by rfl) T.z_isinstance rfl (by first | exact Or.inl rfl | exact Or.inr (Or.inl rfl) | exact Or.inr (Or.inr rfl)) (by rfl) T.gC_Contradiction (kit_own T.ic_Contradiction T.ty_Contradiction T.sb_InvalidPrices_Contradiction (fun e => (ne_of_sub T.sb_InvalidPrices_Contradiction T.sb_InvalidPrices_InvalidPrices e)))) pa_nil))))))
      (C8.pss_cut (ps_set (i := 2) sc__law_error_of.nd rfl (.inl rfl) (pe_op op_cat (pv 2) (pe_lst (pa_cons (pe_isi (i := 1) hE hC (by rfl) T.z_isinstance rfl (by first | exact Or.inl rfl | exact Or.inr (Or.inl rfl) | exact Or.inr (Or.inr rfl)) (by rfl) T.gC_InvalidName (kit_own T.ic_InvalidName T.ty_InvalidName T.sb_InvalidPrices_InvalidName (fun e => (ne_of_sub T.sb_InvalidPrices_InvalidName T.sb_InvalidPrices_InvalidPrices e)))) (pa_cons (pe_isi (i := 1) hE hC (by rfl) T.z_isinstance rfl (by first | exact Or.inl rfl | exact Or.inr (Or.inl rfl) | exact Or.inr (Or.inr rfl)) (by rfl) T.gC_UnknownName (kit_own T.ic_UnknownName T.ty_UnknownName T.sb_InvalidPrices_UnknownName (fun e => (ne_of_sub T.sb_InvalidPrices_UnknownName T.sb_InvalidPrices_InvalidPrices e)))) (pa_cons (pe_isi (i := 1) hE hC (by rfl) T.z_isinstance rfl (by first | exact Or.inl rfl | exact Or.inr (Or.inl rfl) | exact Or.inr (Or.inr rfl)) (by rfl) T.gC_InvalidRules (kit_own T.ic_InvalidRules T.ty_InvalidRules T.sb_InvalidPrices_InvalidRules (fun e => (ne_of_sub T.sb_InvalidPrices_InvalidRules T.sb_InvalidPrices_InvalidPrices e)))) pa_nil))))))
      (C8.pss_cut (ps_set (i := 2) sc__law_error_of.nd rfl (.inl rfl) (pe_op op_cat (pv 2) (pe_lst (pa_cons (pe_isi (i := 1) hE hC (by rfl) T.z_isinstance rfl (by first | exact Or.inl rfl | exact Or.inr (Or.inl rfl) | exact Or.inr (Or.inr rfl)) (by rfl) T.gC_InvalidRecipes (kit_own T.ic_InvalidRecipes T.ty_InvalidRecipes T.sb_InvalidPrices_InvalidRecipes (fun e => (ne_of_sub T.sb_InvalidPrices_InvalidRecipes T.sb_InvalidPrices_InvalidPrices e)))) (pa_cons (pe_isi (i := 1) hE hC (by rfl) T.z_isinstance rfl (by first | exact Or.inl rfl | exact Or.inr (Or.inl rfl) | exact Or.inr (Or.inr rfl)) (by rfl) T.gC_InvalidRequests (kit_own T.ic_InvalidRequests T.ty_InvalidRequests T.sb_InvalidPrices_InvalidRequests (fun e => (ne_of_sub T.sb_InvalidPrices_InvalidRequests T.sb_InvalidPrices_InvalidPrices e)))) (pa_cons (pe_isi (i := 1) hE hC (by rfl) T.z_isinstance rfl (by first | exact Or.inl rfl | exact Or.inr (Or.inl rfl) | exact Or.inr (Or.inr rfl)) (by rfl) T.gC_InvalidPrices (kit_own T.ic_InvalidPrices T.ty_InvalidPrices T.sb_InvalidPrices_InvalidPrices (fun _ => rfl))) pa_nil))))))
      (C8.pss_cut (ps_set (i := 2) sc__law_error_of.nd rfl (.inl rfl) (pe_op op_cat (pv 2) (pe_lst (pa_cons (pe_isi (i := 1) hE hC (by rfl) T.z_isinstance rfl (by first | exact Or.inl rfl | exact Or.inr (Or.inl rfl) | exact Or.inr (Or.inr rfl)) (by rfl) T.gC_InvalidPlan (kit_own T.ic_InvalidPlan T.ty_InvalidPlan T.sb_InvalidPrices_InvalidPlan (fun e => (ne_of_sub T.sb_InvalidPrices_InvalidPlan T.sb_InvalidPrices_InvalidPrices e)))) (pa_cons (pe_isi (i := 1) hE hC (by rfl) T.z_isinstance rfl (by first | exact Or.inl rfl | exact Or.inr (Or.inl rfl) | exact Or.inr (Or.inr rfl)) (by rfl) T.gC_PowerFailed (kit_own T.ic_PowerFailed T.ty_PowerFailed T.sb_InvalidPrices_PowerFailed (fun e => (ne_of_sub T.sb_InvalidPrices_PowerFailed T.sb_InvalidPrices_InvalidPrices e)))) (pa_cons (pe_isi (i := 1) hE hC (by rfl) T.z_isinstance rfl (by first | exact Or.inl rfl | exact Or.inr (Or.inl rfl) | exact Or.inr (Or.inr rfl)) (by rfl) T.gC_InvalidOperation (kit_own T.ic_InvalidOperation T.ty_InvalidOperation T.sb_InvalidPrices_InvalidOperation (fun e => (ne_of_sub T.sb_InvalidPrices_InvalidOperation T.sb_InvalidPrices_InvalidPrices e)))) pa_nil))))))
      (C8.pss_cut (ps_set (i := 2) sc__law_error_of.nd rfl (.inl rfl) (pe_op op_cat (pv 2) (pe_lst (pa_cons (pe_isi (i := 1) hE hC (by rfl) T.z_isinstance rfl (by first | exact Or.inl rfl | exact Or.inr (Or.inl rfl) | exact Or.inr (Or.inr rfl)) (by rfl) T.gC_NotationError (kit_own T.ic_NotationError T.ty_NotationError T.sb_InvalidPrices_NotationError (fun e => (ne_of_sub T.sb_InvalidPrices_NotationError T.sb_InvalidPrices_InvalidPrices e)))) (pa_cons (pe_isi (i := 1) hE hC (by rfl) T.z_isinstance rfl (by first | exact Or.inl rfl | exact Or.inr (Or.inl rfl) | exact Or.inr (Or.inr rfl)) (by rfl) T.gC_DecodeError (kit_own T.ic_DecodeError T.ty_DecodeError T.sb_InvalidPrices_DecodeError (fun e => (ne_of_sub T.sb_InvalidPrices_DecodeError T.sb_InvalidPrices_InvalidPrices e)))) pa_nil)))))
      (pss_cons (ps_if (PW.pt (pw_or (pt_cmpR op_ne (pe_bm PySem.F.plainAttrs_list PySem.F.slot_list_count PySem.F.type_list_count mt_lcountV (pv 2) (pa_cons pe_bl pa_nil)) pe_int (nomark _)) (pw_or1 (pt_not (pt_val (pe_callB (call_isC hE hC) (by rfl) T.z_isinstance (by decide +kernel) (pa_cons (pv 1) (pa_cons (pe_bltn (v := .ty "ValueError") (by rfl) T.z_ValueError (by decide +kernel) rfl) pa_nil)))))))) (pss_one (ps_ret (pe_tup (pa_cons pe_str (pa_cons pe_int pa_nil))))) pss_nil)
      (pss_cons (ps_set (i := 3) sc__law_error_of.nd rfl (.inl rfl) pe_str)
      (pss_cons (ps_set (i := 3) sc__law_error_of.nd rfl (.inl rfl) (pe_op op_add_str (pv 3) pe_str))
      (pss_cons (ps_set (i := 3) sc__law_error_of.nd rfl (.inl rfl) (pe_op op_add_str (pv 3) pe_str))
      (pss_one (ps_ret (pe_callP hT (L2H.roomH_mark (hr.mono (by first | decide | omega)) _) hHot List.mem_cons_self (by rfl) T.g__law_told_of T.F__law_told_of.kp (pa_cons (pv 1) (pa_cons (pe_ix ix_list (pe_bm PySem.F.plainAttrs_str PySem.F.slot_str_split PySem.F.type_str_split mt_split (pv 3) (pa_cons pe_str pa_nil)) (pe_bm PySem.F.plainAttrs_list PySem.F.slot_list_index PySem.F.type_list_index mt_index (pv 2) (pa_cons pe_bl pa_nil)) (fun _ _ => rfl)) pa_nil)))))))))))))))))) pins s' σ H D I ?_⟩
  obtain ⟨⟨x, v2, v3, rfl⟩, p, hd, hfl, k⟩ := h
  have F0 := Fr.refl [] H
  refine ⟨fun σ' H' => ∃ k : Addr, σ' = [some x, some (.ref a), some (.ref k), v3] ∧ Fr [] H H' ∧ FldsAt H' d [("index", p)] ∧ H' k = some (.lst (kinds_InvalidPrices.take 3)), ?_, ?_⟩
  · exact ⟨⟨rfl, _, hfl⟩, ⟨⟨rfl, _, hfl⟩, ⟨⟨rfl, _, hfl⟩, ⟨sz_le (by decide), fun q hq => ⟨q, rfl, Fr.new hq, FldsAt.keep (S := []) hfl (Fr.new hq) (by simp), upd_same⟩⟩⟩⟩⟩
  rintro _ G1 ⟨k1, rfl, F1, h1, r1⟩
  refine ⟨fun σ' H' => ∃ k : Addr, σ' = [some x, some (.ref a), some (.ref k), v3] ∧ Fr [] H H' ∧ FldsAt H' d [("index", p)] ∧ H' k = some (.lst (kinds_InvalidPrices.take 6)), ?_, ?_⟩
  · exact ⟨_, rfl, ⟨⟨rfl, _, h1⟩, ⟨⟨rfl, _, h1⟩, ⟨⟨rfl, _, h1⟩, ⟨sz_le (by decide), fun q hq => ⟨k1, q, _, _, rfl, rfl, (upd_ne (ne_of_none r1 hq)).trans r1, upd_same, sz_le (by decide), fun k' hk' => ⟨k', rfl, (F1.trans (Fr.new hq)).trans (Fr.new hk'), FldsAt.keep (S := []) (FldsAt.keep (S := []) h1 (Fr.new hq) (by simp)) (Fr.new hk') (by simp), upd_same⟩⟩⟩⟩⟩⟩⟩
  rintro _ G2 ⟨k2, rfl, F2, h2, r2⟩
  refine ⟨fun σ' H' => ∃ k : Addr, σ' = [some x, some (.ref a), some (.ref k), v3] ∧ Fr [] H H' ∧ FldsAt H' d [("index", p)] ∧ H' k = some (.lst (kinds_InvalidPrices.take 9)), ?_, ?_⟩
  · exact ⟨_, rfl, ⟨⟨rfl, _, h2⟩, ⟨⟨rfl, _, h2⟩, ⟨⟨rfl, _, h2⟩, ⟨sz_le (by decide), fun q hq => ⟨k2, q, _, _, rfl, rfl, (upd_ne (ne_of_none r2 hq)).trans r2, upd_same, sz_le (by decide), fun k' hk' => ⟨k', rfl, (F2.trans (Fr.new hq)).trans (Fr.new hk'), FldsAt.keep (S := []) (FldsAt.keep (S := []) h2 (Fr.new hq) (by simp)) (Fr.new hk') (by simp), upd_same⟩⟩⟩⟩⟩⟩⟩
  rintro _ G3 ⟨k3, rfl, F3, h3, r3⟩
  refine ⟨fun σ' H' => ∃ k : Addr, σ' = [some x, some (.ref a), some (.ref k), v3] ∧ Fr [] H H' ∧ FldsAt H' d [("index", p)] ∧ H' k = some (.lst (kinds_InvalidPrices.take 12)), ?_, ?_⟩
  · exact ⟨_, rfl, ⟨⟨rfl, _, h3⟩, ⟨⟨rfl, _, h3⟩, ⟨⟨rfl, _, h3⟩, ⟨sz_le (by decide), fun q hq => ⟨k3, q, _, _, rfl, rfl, (upd_ne (ne_of_none r3 hq)).trans r3, upd_same, sz_le (by decide), fun k' hk' => ⟨k', rfl, (F3.trans (Fr.new hq)).trans (Fr.new hk'), FldsAt.keep (S := []) (FldsAt.keep (S := []) h3 (Fr.new hq) (by simp)) (Fr.new hk') (by simp), upd_same⟩⟩⟩⟩⟩⟩⟩
  rintro _ G4 ⟨k4, rfl, F4, h4, r4⟩
  refine ⟨fun σ' H' => ∃ k : Addr, σ' = [some x, some (.ref a), some (.ref k), v3] ∧ Fr [] H H' ∧ FldsAt H' d [("index", p)] ∧ H' k = some (.lst (kinds_InvalidPrices.take 15)), ?_, ?_⟩
  · exact ⟨_, rfl, ⟨⟨rfl, _, h4⟩, ⟨⟨rfl, _, h4⟩, ⟨⟨rfl, _, h4⟩, ⟨sz_le (by decide), fun q hq => ⟨k4, q, _, _, rfl, rfl, (upd_ne (ne_of_none r4 hq)).trans r4, upd_same, sz_le (by decide), fun k' hk' => ⟨k', rfl, (F4.trans (Fr.new hq)).trans (Fr.new hk'), FldsAt.keep (S := []) (FldsAt.keep (S := []) h4 (Fr.new hq) (by simp)) (Fr.new hk') (by simp), upd_same⟩⟩⟩⟩⟩⟩⟩
  rintro _ G5 ⟨k5, rfl, F5, h5, r5⟩
  refine ⟨fun σ' H' => ∃ k : Addr, σ' = [some x, some (.ref a), some (.ref k), v3] ∧ Fr [] H H' ∧ FldsAt H' d [("index", p)] ∧ H' k = some (.lst (kinds_InvalidPrices.take 18)), ?_, ?_⟩
  · exact ⟨_, rfl, ⟨⟨rfl, _, h5⟩, ⟨⟨rfl, _, h5⟩, ⟨⟨rfl, _, h5⟩, ⟨sz_le (by decide), fun q hq => ⟨k5, q, _, _, rfl, rfl, (upd_ne (ne_of_none r5 hq)).trans r5, upd_same, sz_le (by decide), fun k' hk' => ⟨k', rfl, (F5.trans (Fr.new hq)).trans (Fr.new hk'), FldsAt.keep (S := []) (FldsAt.keep (S := []) h5 (Fr.new hq) (by simp)) (Fr.new hk') (by simp), upd_same⟩⟩⟩⟩⟩⟩⟩
  rintro _ G6 ⟨k6, rfl, F6, h6, r6⟩
  refine ⟨fun σ' H' => ∃ k : Addr, σ' = [some x, some (.ref a), some (.ref k), v3] ∧ Fr [] H H' ∧ FldsAt H' d [("index", p)] ∧ H' k = some (.lst (kinds_InvalidPrices.take 21)), ?_, ?_⟩
  · exact ⟨_, rfl, ⟨⟨rfl, _, h6⟩, ⟨⟨rfl, _, h6⟩, ⟨⟨rfl, _, h6⟩, ⟨sz_le (by decide), fun q hq => ⟨k6, q, _, _, rfl, rfl, (upd_ne (ne_of_none r6 hq)).trans r6, upd_same, sz_le (by decide), fun k' hk' => ⟨k', rfl, (F6.trans (Fr.new hq)).trans (Fr.new hk'), FldsAt.keep (S := []) (FldsAt.keep (S := []) h6 (Fr.new hq) (by simp)) (Fr.new hk') (by simp), upd_same⟩⟩⟩⟩⟩⟩⟩
  rintro _ G7 ⟨k7, rfl, F7, h7, r7⟩
  refine ⟨fun σ' H' => ∃ k : Addr, σ' = [some x, some (.ref a), some (.ref k), v3] ∧ Fr [] H H' ∧ FldsAt H' d [("index", p)] ∧ H' k = some (.lst (kinds_InvalidPrices.take 24)), ?_, ?_⟩
  · exact ⟨_, rfl, ⟨⟨rfl, _, h7⟩, ⟨⟨rfl, _, h7⟩, ⟨⟨rfl, _, h7⟩, ⟨sz_le (by decide), fun q hq => ⟨k7, q, _, _, rfl, rfl, (upd_ne (ne_of_none r7 hq)).trans r7, upd_same, sz_le (by decide), fun k' hk' => ⟨k', rfl, (F7.trans (Fr.new hq)).trans (Fr.new hk'), FldsAt.keep (S := []) (FldsAt.keep (S := []) h7 (Fr.new hq) (by simp)) (Fr.new hk') (by simp), upd_same⟩⟩⟩⟩⟩⟩⟩
  rintro _ G8 ⟨k8, rfl, F8, h8, r8⟩
  refine ⟨fun σ' H' => ∃ k : Addr, σ' = [some x, some (.ref a), some (.ref k), v3] ∧ Fr [] H H' ∧ FldsAt H' d [("index", p)] ∧ H' k = some (.lst (kinds_InvalidPrices.take 26)), ?_, ?_⟩
  · exact ⟨_, rfl, ⟨⟨rfl, _, h8⟩, ⟨⟨rfl, _, h8⟩, ⟨sz_le (by decide), fun q hq => ⟨k8, q, _, _, rfl, rfl, (upd_ne (ne_of_none r8 hq)).trans r8, upd_same, sz_le (by decide), fun k' hk' => ⟨k', rfl, (F8.trans (Fr.new hq)).trans (Fr.new hk'), FldsAt.keep (S := []) (FldsAt.keep (S := []) h8 (Fr.new hq) (by simp)) (Fr.new hk') (by simp), upd_same⟩⟩⟩⟩⟩⟩
  rintro _ G9 ⟨k9, rfl, F9, h9, r9⟩
  have rk : G9 k9 = some (HO.lst kinds_InvalidPrices) := r9
  refine ⟨_, rfl, .inl ⟨rfl, _, SqL.of rk⟩, k9, kinds_InvalidPrices, .bl true, rfl, rfl, SqL.of rk, rfl, kinds_InvalidPrices_all, ?_⟩
  rw [kinds_InvalidPrices_cnt]
  refine ⟨rfl, _, rfl, iteF ?_⟩
  refine ⟨_, rfl, _, .type "ValueError", true, _, rfl, h9, (fun _ z => z), kit_ve T.vb_InvalidPrices, _, rfl, iteF ?_⟩
  refine ⟨_, rfl, _, _, rfl, rfl, sz_le (by decide), ?_⟩
  refine ⟨_, rfl, _, _, rfl, rfl, sz_le (by decide), ?_⟩
  refine ⟨_, rfl, _, rfl, rfl, _, _, rfl, rfl, by decide +kernel, sz_le (by decide +kernel), fun z hz' => ?_⟩
  have rz := (upd_ne (o := .lst ((Txt.split ENAMES " ").map V.str)) (ne_of_none rk hz')).trans rk
  refine ⟨_, rfl, .inl ⟨rfl, _, SqL.of rz⟩, k9, kinds_InvalidPrices, .bl true, 20, .bl true, rfl, rfl, SqL.of rz, rfl, kinds_InvalidPrices_all, kinds_InvalidPrices_at, rfl, kinds_InvalidPrices_fst, ?_⟩
  refine ⟨z, _, (20 : Int), .str "prices", rfl, rfl, SqL.of upd_same, atI_nat (j := 20) (by show ((Txt.split ENAMES " ").map V.str)[20]? = _; rw [split_names]; rfl), rfl, ?_⟩
  have hZ := FldsAt.keep (S := []) h9 (Fr.new (o := .lst ((Txt.split ENAMES " ").map V.str)) hz') (by simp)
  have FZ := F9.trans (Fr.new (o := .lst ((Txt.split ENAMES " ").map V.str)) hz')
  exact ⟨p, hd, hZ, fun t H'' ht f et => k t H'' (some_of FZ (by simp) ht) (FZ.trans f) et⟩
end
theorem takesN0 {X : Cx} : L2N.Takes X (fun _ _ _ _ => False) := fun _ _ x => by
  obtain ⟨_, _, _, _, _, _, _, _, _, _, _, _, _, _, _, _, z⟩ := x
  exact z.elim
section
variable {P : Program} {w : World} {K : PySem.W.Frag} {mg : Str → Option Value} {base : Heap}
theorem ErrEnd.pair {T : Gx K mg} {cls : Value} {d : Option Addr} {H : Hp} {Q : VK} (h : ErrEnd T cls d H Q) : PySem.W.exmOne K cls (.ref T.C_PairError) = some true := by
  rcases h with ⟨p, rfl, _⟩
  · exact PySem.W.exm_ref T.pb T.ph T.ty_PairError T.sb_InvalidPrices_PairError
def spErr (P : Program) (w : World) (base : Heap) (T : Gx K mg) : SpS := fun vs outer s H Q _ => ∃ (f : Addr) (F : LF) (fr : List Str) (ws : List (Option V)) (lp : List (Option V) → Hp → VK → XK → Prop), vs = [.ref f] ∧ LOk P w K mg base (L2N.CX P w) 8 f F fr lp ∧ Act f F fr ws (frs outer) s H ∧
  ∀ (Q' : VK) (E' : XK), (∀ v H', Q .non H' → Q' v H') → (∀ cls d H', ErrEnd T cls d H' Q → E' cls d H') → lp ws H Q' E'
theorem ok_errorOf (T : Gx K mg) : FnS P w K mg base C8.CX0 10 T.f__law_error_of ["_law_call"] (spErr P w base T) := by
  refine FunOkS T.F__law_error_of (b__law_error_of T) sc__law_error_of (fun vs o s H Q E h => by obtain ⟨f, F, fr, ws, lp, rfl, _⟩ := h; rfl) (fun cdv A outer s H vs Q E hr h => ?_)
  obtain ⟨f, F, fr, ws, lp, rfl, L, a0, hlp⟩ := h
  refine ⟨_, pss_cons (L2N.ps_try_as (i := 1) (c := .ref T.C_PairError) (Wout := fun _ _ _ _ => False) (ts := fun a cls d D σ H => (∃ (x : V) (v2 v3 : Option V), σ = [some x, some (.ref a), v2, v3]) ∧ ErrEnd T cls d H D.rt) rfl rfl sc__law_error_of.nd rfl rfl ⟨by rfl, by decide, .inl T.gC_PairError⟩ takesN0
    (fun W pn xe tk po => pss_one (ps_expr (pe_act (i := 0) L a0 rfl (hr.mono (by decide)) (fun σ => L2N.passAt tk σ) rfl (by first | exact Or.inl rfl | exact Or.inr (Or.inl rfl) | exact Or.inr (Or.inr rfl)))))
    (fun a oe cls d pn hz hf => ⟨fun pins s' σ H' D I h => ?_⟩)) (pss_one (ps_ret pe_non)), ?_⟩
  · obtain ⟨hσ, h⟩ := h
    rcases h with ⟨p, rfl, hd, hf', k⟩
    · exact (suite_InvalidPrices T (hr.mono (by decide)) hz hf).run pins s' σ H' D I ⟨hσ, p, hd, hf', k⟩
  · refine ⟨rfl, a0.lv, hlp _ _ (fun v H' q => q) (fun cls d H' he => ⟨true, he.pair, fun _ a ha => ⟨⟨.ref f, none, none, rfl⟩, he⟩, fun z => by cases z⟩)⟩
end
/-! ### the error's own __init__ -/
def spIP (C : Addr) : Sp := fun vs H Q _ => ∃ (a : Addr) (i : Nat), vs = [.ref a, .int (i : Int)] ∧ i < 12 ∧ H a = some (exo a C none) ∧ ∀ dx, H dx = none → dx ≠ a → Q .non (upd (upd H dx (exd dx [("index", .int (i : Int))])) a (exo a C (some dx)))
theorem small_log {i : Nat} (h : i < 12) : (i : Int).natAbs.log2 < 1920 := by
  have : ∀ i : Nat, i < 12 → (i : Int).natAbs.log2 < 1920 := by decide +kernel
  exact this i h
theorem len12p : ∀ i : Nat, i < 12 → (Str.empty ++ ("price " : Str)).length ≤ sizeLine ∧ (Str.empty ++ ("price " : Str) ++ Str.ofString (toString (i : Int))).length ≤ sizeLine ∧ (Str.empty ++ ("price " : Str) ++ Str.ofString (toString (i : Int)) ++ (" is invalid" : Str)).length ≤ sizeLine := by decide +kernel
section
variable {P : Program} {w : World} {K : PySem.W.Frag} {mg : Str → Option Value} {base : Heap}
theorem bi_InvalidPrices (T : Gx K mg) : Binds K T.fd_InvalidPrices___init__ ["self", "index"] [] := by
  obtain ⟨oc, od, kV, dc, pm, an, cda, ct, osl, cl, cdd, vs, csl, tf, ec, ed, es, e, _⟩ := T.S_InvalidPrices___init__.ex
  rw [e]
  exact .all fun us hl => match us, hl with | [_, _], _ => rfl
theorem cls_of_oex {C : Addr} (T : OexC K C) : ∃ cd, PySem.W.clsIn K C = some cd := by
  obtain ⟨nm, q, N, bs, bm, sn, sub, ab, col, dd, k0, k1, k2, k3, k5, hC, _⟩ := T.cls
  cases h : PySem.W.clsIn K C with
  | some cd => exact ⟨cd, rfl⟩
  | none =>
    unfold PySem.W.clsIn at h
    rw [hC] at h
    cases h
theorem ok_iPrices (HP : ProgOk P file) (T : Gx K mg) (hf : file = T.file) : FnOk P w K mg base C8.CX0 1 T.f_InvalidPrices___init__ T.fd_InvalidPrices___init__ ["self", "index"] (spIP T.C_InvalidPrices) := by
  subst hf
  refine FunS.ok HP T.S_InvalidPrices___init__ sc_InvalidPrices___init__ (fun vs H Q E h => by obtain ⟨a, i, rfl, _⟩ := h; rfl) rfl rfl (fun env e => by unfold PySem.interactive; rw [e]; rfl) _ (fun env => rfl) (fun env => rfl) rfl rfl T.z_super T.third (fun F' A outer s H vs Q E eF hr h => ?_)
  obtain ⟨a, i, rfl, hi, ha, k⟩ := h
  obtain ⟨nm, q, pr, bd, sc, cl, c⟩ := F'
  have eF' : sc = defScope s_InvalidPrices___init__ := eF
  subst eF'
  refine ⟨_, _, a, T.C_InvalidPrices, .str (Str.empty ++ ("price " : Str) ++ Str.ofString (toString (i : Int)) ++ (" is invalid" : Str)), rfl, ha, T.O_InvalidPrices, cls_of_oex T.O_InvalidPrices, T.mr_InvalidPrices, T.su_InvalidPrices, T.vb_InvalidPrices, pe_joined (.cons pe_str (.cons (pe_fmt (pv 1)) (.cons pe_str .nil))), pss_one (ps_ost (pv 0) (pv 1)), fun Q' q => ?_, ?_⟩
  · exact ⟨_, rfl, (len12p i hi).1, _, rfl, .inr ⟨(i : Int), rfl, small_log hi, _, rfl, (len12p i hi).2.1, _, rfl, (len12p i hi).2.2, q⟩⟩
  · exact ⟨_, rfl, _, rfl, a, T.C_InvalidPrices, rfl, T.O_InvalidPrices, T.no_InvalidPrices_index, .inl ⟨ha, fun dx hdx hne => k dx hdx hne⟩⟩
end
/-! ### what is no number of a range, no tuple -/
def NoNum (H : Hp) (lo hi : Int) (v : V) : Prop := (∃ i : Int, v = .int i ∧ (decide (lo ≤ i) && decide (i ≤ hi)) = false) ∨ v = .non ∨ (∃ b, v = .bl b) ∨ (∃ z, v = .str z) ∨ ∃ (t : Addr) (xs : List V), v = .ref t ∧ H t = some (.tup xs)
theorem NoNum.ext {H H' : Hp} {lo hi : Int} {v : V} (h : NoNum H lo hi v) (f : ∀ b xs, H b = some (.tup xs) → H' b = some (.tup xs)) : NoNum H' lo hi v := by
  rcases h with h | h | h | h | ⟨t, xs, e, ht⟩
  · exact .inl h
  · exact .inr (.inl h)
  · exact .inr (.inr (.inl h))
  · exact .inr (.inr (.inr (.inl h)))
  · exact .inr (.inr (.inr (.inr ⟨t, xs, e, f _ _ ht⟩)))
theorem NoNum.num {K : PySem.W.Frag} {H : Hp} {lo hi : Int} {v : V} {Q : VK} {E : XK} (h : NoNum H lo hi v) (q : Q (.bl false) H) : spNumFrom K [v, .int lo, .int hi] H Q E := by
  rcases h with ⟨i, rfl, hi⟩ | rfl | ⟨b, rfl⟩ | ⟨z, rfl⟩ | ⟨t, xs, rfl, ht⟩
  · exact ⟨_, _, _, rfl, .inl ⟨i, rfl, by rw [hi]; exact q⟩⟩
  · exact ⟨_, _, _, rfl, .inr ⟨_, false, false, .base .non, kit_ty (by decide +kernel), kit_ty (by decide +kernel), rfl, q⟩⟩
  · exact ⟨_, _, _, rfl, .inr ⟨_, true, true, .base (.bl b), kit_ty (by decide +kernel), kit_ty (by decide +kernel), rfl, q⟩⟩
  · exact ⟨_, _, _, rfl, .inr ⟨_, false, false, .base (.str z), kit_ty (by decide +kernel), kit_ty (by decide +kernel), rfl, q⟩⟩
  · exact ⟨_, _, _, rfl, .inr ⟨_, false, false, .base (.tup ht), kit_ty (by decide +kernel), kit_ty (by decide +kernel), rfl, q⟩⟩
def NoTup (H : Hp) (v : V) : Prop := v = .non ∨ (∃ i, v = .int i) ∨ ∃ (l : Addr) (xs : List V), v = .ref l ∧ H l = some (.lst xs)
theorem NoTup.ty {K : PySem.W.Frag} {H : Hp} {v : V} (h : NoTup H v) : ∃ t : Value, TyX K H v t ∧ PySem.W.kitOne K t (.type "tuple") = some false := by
  rcases h with rfl | ⟨i, rfl⟩ | ⟨l, xs, rfl, hl⟩
  · exact ⟨_, .base .non, kit_ty (by decide +kernel)⟩
  · exact ⟨_, .base (.int i), kit_ty (by decide +kernel)⟩
  · exact ⟨_, .base (.lst hl), kit_ty (by decide +kernel)⟩
/-- no kept writes of m -/
def BadK (H : Hp) (v : V) (m : Nat) : Prop := NoTup H v ∨ ∃ (p : Addr) (x : V) (rest : List V), v = .ref p ∧
  ((H p = some (.tup (x :: rest)) ∧ NoNum H 0 ((m : Int) - 1) x) ∨ ∃ k : Nat, H p = some (.tup (.int (k : Int) :: x :: rest)) ∧ k < m ∧ NoNum H ((k : Int) + 1) ((m : Int) - 1) x)
theorem BadK.ext {H H' : Hp} {v : V} {m : Nat} (h : BadK H v m) (f : ∀ b xs, H b = some (.tup xs) → H' b = some (.tup xs)) (g : ∀ b xs, v = .ref b → H b = some (.lst xs) → H' b = some (.lst xs)) : BadK H' v m := by
  rcases h with h | ⟨p, x, rest, e, h⟩
  · rcases h with h | h | ⟨l, xs, e, hl⟩
    · exact .inl (.inl h)
    · exact .inl (.inr (.inl h))
    · exact .inl (.inr (.inr ⟨l, xs, e, g _ _ e hl⟩))
  · refine .inr ⟨p, x, rest, e, ?_⟩
    rcases h with ⟨h1, h2⟩ | ⟨k, h1, h2, h3⟩
    · exact .inl ⟨f _ _ h1, h2.ext f⟩
    · exact .inr ⟨k, f _ _ h1, h2, h3.ext f⟩
def spNumB (K : PySem.W.Frag) : Sp := fun vs H Q E => spNumFrom K vs H Q E ∨ ∃ (v : V) (lo hi : Int), vs = [v, .int lo, .int hi] ∧ NoNum H lo hi v ∧ Q (.bl false) H
theorem ok_numB {P : Program} {w : World} {K : PySem.W.Frag} {mg : Str → Option Value} {base : Heap} (T : Gx K mg) : FnOk P w K mg base CX0 2 T.f_is_number_from T.fd_is_number_from ["thing", "least", "most"] (spNumB K) := by
  have a : FnOk P w K mg base CX0 2 T.f_is_number_from T.fd_is_number_from ["thing", "least", "most"] (spNumFrom K) := ok_numFrom T
  have im : ∀ vs H Q E, spNumB K vs H Q E → spNumFrom K vs H Q E := fun vs H Q E h => by
    rcases h with h | ⟨v, lo, hi, rfl, nn, q⟩
    · exact h
    · exact nn.num q
  exact ⟨fun vs H Q E h => a.len vs H Q E (im _ _ _ _ h), fun A o s H ar us vs Q E hr e0 hb r h => a.run A o s H ar us vs Q E hr e0 hb r (im _ _ _ _ h)⟩
/-! ### prices that cannot be -/
/-- what stands when an exception of one field is raised -/
theorem raise_fr {H1 : Hp} {a dx : Addr} {o1 o2 o3 o4 : HO} (ha : H1 a = none) (hdx : H1 dx = none) : Fr [] H1 (upd (del (upd (upd (upd H1 a o1) dx o2) a o3) a) dx o4) := fun b u e _ => by
  have na := ne_of_none e ha
  have nd := ne_of_none e hdx
  rw [upd_ne nd, del_ne na, upd_ne na, upd_ne nd, upd_ne na]
  exact e
def NoTupS (H : Hp) (v : V) : Prop := NoTup H v ∨ ∃ z, v = .str z
theorem NoTupS.ty {K : PySem.W.Frag} {H : Hp} {v : V} (h : NoTupS H v) : ∃ t : Value, TyX K H v t ∧ PySem.W.kitOne K t (.type "tuple") = some false := by
  rcases h with h | ⟨z, rfl⟩
  · exact h.ty
  · exact ⟨_, .base (.str z), kit_ty (by decide +kernel)⟩
def BadP (H : Hp) (v : V) (j : Nat) : Prop := (j = 0 ∧ NoTupS H v) ∨ ∃ (t : Addr) (xs : List V), v = .ref t ∧ H t = some (.tup xs) ∧ j ≤ 6 ∧ (∀ i, i < j → ∃ n : Int, xs[i]? = some (.int n) ∧ 0 ≤ n ∧ n ≤ 999) ∧ (j < 6 → xs.length = j ∨ ∃ u, xs[j]? = some u ∧ NoNum H 0 999 u) ∧ (j = 6 → 6 < xs.length)
def spCheckB (X : Addr) : Sp := fun vs H _ E => ∃ (v : V) (j : Nat), vs = [v] ∧ BadP H v j ∧ ∀ (d : Addr) (H' : Hp), H d = none → Fr [] H H' → H' d = some (.xd [("index", .int (j : Int))]) → E (.ref X) (some d) H'
def spCostB (X : Addr) : Sp := fun vs H _ E => ∃ (u v : V) (j : Nat), vs = [u, v] ∧ BadP H v j ∧ ∀ (d : Addr) (H' : Hp), H d = none → Fr [] H H' → H' d = some (.xd [("index", .int (j : Int))]) → E (.ref X) (some d) H'
section
variable {P : Program} {w : World} {K : PySem.W.Frag} {mg : Str → Option Value} {base : Heap}
theorem ok_checkB (HP : ProgOk P file) (T : Gx K mg) (hf : file = T.file) : FnOk P w K mg base (L2N.CX P w) 4 T.f_check_prices T.fd_check_prices ["prices"] (spCheckB T.C_InvalidPrices) := by
  have G_InvalidPrices___init__ : FnOk P w K mg base C8.CX0 1 T.f_InvalidPrices___init__ T.fd_InvalidPrices___init__ ["self", "index"] (spIP T.C_InvalidPrices) := ok_iPrices HP T hf
  have G_is_number_from : FnOk P w K mg base CX0 2 T.f_is_number_from T.fd_is_number_from ["thing", "least", "most"] (spNumFrom K) := ok_numFrom T
  refine FunOkC T.F_check_prices sc_check_prices (fun vs H Q E h => ?_) (fun cdv A outer s H vs Q E hr h => ?_)
  · obtain ⟨v, j, rfl, _⟩ := h
    rfl
  · obtain ⟨v, j, rfl, hb, k⟩ := h
    refine ⟨_, (pss_cons (ps_if (pt_not (pt_val (pe_callB call_isi (by rfl) T.z_isinstance (by decide +kernel) (pa_cons (pv 0) (pa_cons (pe_bltn (v := .ty "tuple") (by rfl) T.z_tuple (by decide +kernel) rfl) pa_nil))))) (pss_one (L2N.ps_raise rfl (L2N.takes_of rfl rfl rfl rfl) (pmkN T.O_InvalidPrices T.iC_InvalidPrices T.tI_InvalidPrices G_InvalidPrices___init__ (hr.mono (by first | decide | omega)) (bi_InvalidPrices T) passN (by rfl) T.gC_InvalidPrices (pa_cons pe_int pa_nil)))) pss_nil)
      (pss_cons (ps_for PassesOwn.leaving rfl (pi_range1 (by rfl) T.z_range (pa_cons (pe_glob (v := .int 6) (by rfl) T.c_MANY_PRICES ⟨_, rfl⟩) pa_nil)) (pg_name (i := 1) sc_check_prices.nd rfl (.inl rfl)) (pss_one (ps_if (PW.pt (pw_or (pt_cmpR op_eq (pv 1) (pe_callB call_len_seq (by rfl) T.z_len (by decide +kernel) (pa_cons (pv 0) pa_nil)) (nomark _)) (pw_or1 (pt_not (pt_val (pe_call G_is_number_from (hr.mono (by first | decide | omega)) (by rfl) T.g_is_number_from T.F_is_number_from.kp (b_is_number_from T) .nil pass0 (pa_cons (pe_ix ix_tup (pv 0) (pv 1) (fun _ _ => rfl)) (pa_cons pe_int (pa_cons (pe_glob (v := .int 999) (by rfl) T.c_MOST_PRICE ⟨_, rfl⟩) pa_nil))))))))) (pss_one (L2N.ps_raise rfl (L2N.takes_of rfl rfl rfl rfl) (pmkN T.O_InvalidPrices T.iC_InvalidPrices T.tI_InvalidPrices G_InvalidPrices___init__ (hr.mono (by first | decide | omega)) (bi_InvalidPrices T) passN (by rfl) T.gC_InvalidPrices (pa_cons (pv 1) pa_nil)))) pss_nil)))
      (pss_one (ps_if (pt_cmpR op_gt (pe_callB call_len_seq (by rfl) T.z_len (by decide +kernel) (pa_cons (pv 0) pa_nil)) (pe_glob (v := .int 6) (by rfl) T.c_MANY_PRICES ⟨_, rfl⟩) (nomark _)) (pss_one (L2N.ps_raise rfl (L2N.takes_of rfl rfl rfl rfl) (pmkN T.O_InvalidPrices T.iC_InvalidPrices T.tI_InvalidPrices G_InvalidPrices___init__ (hr.mono (by first | decide | omega)) (bi_InvalidPrices T) passN (by rfl) T.gC_InvalidPrices (pa_cons (pe_glob (v := .int 6) (by rfl) T.c_MANY_PRICES ⟨_, rfl⟩) pa_nil)))) pss_nil)))), ?_⟩
    have fin : ∀ (m : Nat), m = j → m < 12 → ∀ (H2 : Hp), Fr [] H H2 → ∀ q, H2 q = none → spIP T.C_InvalidPrices (.ref q :: ([.int (m : Int)] ++ [])) (upd H2 q (exo q T.C_InvalidPrices none)) (fun v H3 => v = .non ∧ ∃ (d : Addr) (fs : List (Str × V)), H3 q = some (exo q T.C_InvalidPrices (some d)) ∧ H3 d = some (exd d fs) ∧ H2 d = none ∧ E (.ref T.C_InvalidPrices) (some d) (upd (del H3 q) d (.xd fs))) (fun _ _ _ => False) := fun m e h12 H2 f2 q hq =>
      ⟨q, m, rfl, h12, upd_same, fun dd hdd hne => ⟨rfl, dd, _, upd_same, (upd_ne hne).trans upd_same, (free_upd hdd).1, k dd _ (some_of f2 (by simp) (free_upd hdd).1) (f2.trans (raise_fr hq (free_upd hdd).1)) (by rw [e]; exact upd_same)⟩⟩
    rcases hb with ⟨rfl, nt⟩ | ⟨t, xs, rfl, ht, hj, hg, h1, h6⟩
    · obtain ⟨ty, e1, e2⟩ := nt.ty (K := K)
      exact ⟨_, rfl, _, .ty "tuple", ty, _, false, rfl, ClsV.ty "tuple", e1, e2, _, rfl, iteT ⟨by simp, fin 0 rfl (by decide) H (Fr.refl _ _)⟩⟩
    · refine ⟨_, rfl, _, .ty "tuple", .type "tuple", _, true, rfl, ClsV.ty "tuple", .base (.tup ht), kit_ty (by decide +kernel), _, rfl, iteF ?_⟩
      refine ⟨6, rfl, by decide, by decide, for_range (lo := 0) (n := 6) (fun i σ H' => H' = H ∧ i ≤ j ∧ ∃ v1 : Option V, σ = [some (.ref t), v1]) ⟨rfl, Nat.zero_le _, none, rfl⟩ ?_ ?_⟩
      · rintro i σ H1 hi ⟨rfl, hij, v1, rfl⟩
        refine ⟨_, rfl, _, rfl, t, _, rfl, .inr (SqT.of ht), rfl, _, rfl, ?_⟩
        by_cases hlt : i < j
        · obtain ⟨n, hn, g0, g1⟩ := hg i hlt
          have hil := lt_of_at hn
          rw [show decide (V.int ((0 : Int) + (i : Int)) = V.int ((xs.length : Nat) : Int)) = false from decide_eq_false (fun e => by have := V.int.inj e; omega)]
          refine iteF ⟨_, rfl, _, rfl, t, _, _, _, rfl, rfl, SqT.of ht, (by rw [Int.zero_add]; exact atI_nat (j := i) hn), ?_⟩
          refine ⟨_, 0, 999, rfl, .inl ⟨_, rfl, _, rfl, ?_⟩⟩
          rw [decide_eq_true g0, decide_eq_true g1]
          exact iteF ⟨rfl, hlt, _, rfl⟩
        · have ej : i = j := by omega
          subst ej
          rcases h1 hi with hl | ⟨u, hu, nn⟩
          · rw [show decide (V.int ((0 : Int) + (i : Int)) = V.int ((xs.length : Nat) : Int)) = true from decide_eq_true (by rw [hl]; simp)]
            refine iteT ⟨_, rfl, by simp, ?_⟩
            rw [Int.zero_add]
            exact fin i rfl (by omega) _ (Fr.refl _ _)
          · have hil := lt_of_at hu
            rw [show decide (V.int ((0 : Int) + (i : Int)) = V.int ((xs.length : Nat) : Int)) = false from decide_eq_false (fun e => by have := V.int.inj e; omega)]
            refine iteF ⟨_, rfl, _, rfl, t, _, _, _, rfl, rfl, SqT.of ht, (by rw [Int.zero_add]; exact atI_nat (j := i) hu), ?_⟩
            rcases nn with ⟨n, rfl, hn⟩ | rfl | ⟨b, rfl⟩ | ⟨z, rfl⟩ | ⟨q, ys, rfl, hq⟩
            · refine ⟨_, 0, 999, rfl, .inl ⟨n, rfl, _, rfl, ?_⟩⟩
              rw [hn]
              exact iteT ⟨_, rfl, by simp, by rw [Int.zero_add]; exact fin i rfl (by omega) _ (Fr.refl _ _)⟩
            · exact ⟨_, 0, 999, rfl, .inr ⟨_, false, false, .base .non, kit_ty (by decide +kernel), kit_ty (by decide +kernel), rfl, _, rfl, iteT ⟨_, rfl, by simp, by rw [Int.zero_add]; exact fin i rfl (by omega) _ (Fr.refl _ _)⟩⟩⟩
            · exact ⟨_, 0, 999, rfl, .inr ⟨_, true, true, .base (.bl b), kit_ty (by decide +kernel), kit_ty (by decide +kernel), rfl, _, rfl, iteT ⟨_, rfl, by simp, by rw [Int.zero_add]; exact fin i rfl (by omega) _ (Fr.refl _ _)⟩⟩⟩
            · exact ⟨_, 0, 999, rfl, .inr ⟨_, false, false, .base (.str z), kit_ty (by decide +kernel), kit_ty (by decide +kernel), rfl, _, rfl, iteT ⟨_, rfl, by simp, by rw [Int.zero_add]; exact fin i rfl (by omega) _ (Fr.refl _ _)⟩⟩⟩
            · exact ⟨_, 0, 999, rfl, .inr ⟨_, false, false, .base (.tup hq), kit_ty (by decide +kernel), kit_ty (by decide +kernel), rfl, _, rfl, iteT ⟨_, rfl, by simp, by rw [Int.zero_add]; exact fin i rfl (by omega) _ (Fr.refl _ _)⟩⟩⟩
      · rintro σ H1 ⟨rfl, hij, v1, rfl⟩
        have e6 : j = 6 := by omega
        have h7 := h6 e6
        refine ⟨_, rfl, t, _, rfl, .inr (SqT.of ht), _, _, rfl, rfl, _, rfl, ?_⟩
        rw [show decide (((xs.length : Nat) : Int) > 6) = true from decide_eq_true (by omega)]
        exact iteT ⟨by simp, fin 6 e6.symm (by decide) _ (Fr.refl _ _)⟩
theorem ok_costB (HP : ProgOk P file) (T : Gx K mg) (hf : file = T.file) : FnOk P w K mg base (L2N.CX P w) 5 T.f_cost T.fd_cost ["counts", "prices"] (spCostB T.C_InvalidPrices) := by
  have G_check_prices := ok_checkB (w := w) (base := base) HP T hf
  refine FunOkC T.F_cost sc_cost (fun vs H Q E h => ?_) (fun cdv A outer s H vs Q E hr h => ?_)
  · obtain ⟨u, v, j, rfl, _⟩ := h
    rfl
  · obtain ⟨u, v, j, rfl, hb, k⟩ := h
    refine ⟨_, (pss_cons (ps_expr (pe_call G_check_prices (hr.mono (by first | decide | omega)) (by rfl) T.g_check_prices T.F_check_prices.kp (b_check_prices T) .nil (L2N.passes_call (L2N.takes_of rfl rfl rfl rfl) (fun _ _ _ _ h => h)) (pa_cons (pv 1) pa_nil))) pss_never), ?_⟩
    exact ⟨_, rfl, v, j, rfl, hb, k⟩
end
/-! ### the law's lambda -/
def lamA : Expr → Arguments
  | .Lambda a _ _ _ => a
  | _ => defArgs s_law
def lamB : Expr → Expr
  | .Lambda _ b _ _ => b
  | e => e
def lamS : Expr → Scope
  | .Lambda _ _ s _ => s
  | _ => defScope s_law
def forB : Stmt → List Stmt
  | .For _ _ b _ _ => b
  | _ => []
def lamAt : Stmt → Expr
  | .If (.Compare (.Call _ (l :: _) _ _) _ _ _) _ _ _ => l
  | _ => .Tuple [] 0 ⟨0, 0, 0, 0⟩
abbrev lamP : Expr := lamAt ((forB ((defBody s_law).getD 1 (.Pass ⟨0, 0, 0, 0⟩))).getD 9 (.Pass ⟨0, 0, 0, 0⟩))
theorem BadP.ext {H H' : Hp} {v : V} {j : Nat} (h : BadP H v j) (f : ∀ b xs, H b = some (.tup xs) → H' b = some (.tup xs)) (g : ∀ b xs, v = .ref b → H b = some (.lst xs) → H' b = some (.lst xs)) : BadP H' v j := by
  rcases h with ⟨h0, h | h⟩ | ⟨t, xs, e, ht, h1, h2, h3, h4⟩
  · rcases h with h | h | ⟨l, xs, e, hl⟩
    · exact .inl ⟨h0, .inl (.inl h)⟩
    · exact .inl ⟨h0, .inl (.inr (.inl h))⟩
    · exact .inl ⟨h0, .inl (.inr (.inr ⟨l, xs, e, g _ _ e hl⟩))⟩
  · exact .inl ⟨h0, .inr h⟩
  · exact .inr ⟨t, xs, e, f _ _ ht, h1, h2, fun h => (h3 h).imp id fun ⟨u, a, b⟩ => ⟨u, a, b.ext f⟩, h4⟩
section
open LamX NdefX
variable {P : Program} {w : World} {K : PySem.W.Frag} {mg : Str → Option Value} {base : Heap}
def lpP (T : Gx K mg) : List (Option V) → Hp → VK → XK → Prop := fun ws H _ E => ∃ (u v : V) (j : Nat), ws = [some u, some v] ∧ BadP H v j ∧
  ∀ (d : Addr) (H' : Hp), H d = none → Fr [] H H' → H' d = some (.xd [("index", .int (j : Int))]) → E (.ref T.C_InvalidPrices) (some d) H'
theorem lok_cost (T : Gx K mg) (HP : ProgOk P T.file) {f : Addr} {F : LF} (eb : F.body = lamB lamP) (es : F.scope = lamS lamP) (ep : F.params = lamA lamP) (ed : F.df.isSome = !(lamA lamP).defaults.isEmpty) : LOk P w K mg base (L2N.CX P w) 8 f F ["_law_counts", "_law_given"] (lpP T) := by
  have G := ok_costB (w := w) (base := base) HP T rfl
  obtain ⟨q, pr, bd, sc, cl, c, df⟩ := F
  have eb' : bd = lamB lamP := eb
  have es' : sc = lamS lamP := es
  have ep' : pr = lamA lamP := ep
  have ed' : df.isSome = false := ed
  subst eb' es' ep'
  obtain rfl : df = none := by cases df with
    | none => rfl
    | some t => cases ed'
  refine lok_of (k := 7) (N := ["_law_counts", "_law_given"]) (lscope_by (show lscB ["_law_counts", "_law_given"] (lamS lamP) = true from by decide +kernel)) (lbind0 fun pm ct => rfl) (fun A outer s H ws Q E hr L hl h => ?_)
  obtain ⟨u, v, j, rfl, hb, k⟩ := h
  refine ⟨_, pe_call G (hr.mono (by decide)) (by rfl) T.g_cost T.F_cost.kp (b_cost T) .nil (L2N.passes_call (L2N.takes_of rfl rfl rfl rfl) (fun _ _ _ _ h => h)) (pa_cons (pv 0) (pa_cons (pv 1) pa_nil)), ?_⟩
  exact ⟨_, rfl, _, rfl, u, v, j, rfl, hb, k⟩
end
/-! ### what goes along: the drawings, the table -/
section
open LamX NdefX
def nmL : Nat → Nat → Str := fun _ _ => (PyProof.Rows.envOfC "law" (defScope s_law) 0 0 .none).qual ++ "<lambda>"
theorem hmL (P : Addr) : (P, nmL) ∈ [(P, nmL)] := List.mem_cons_self
theorem huL (P : Addr) : ∀ p ∈ [(P, nmL)], p.1 = P → p.2 = nmL := fun p hp _ => by rw [List.mem_singleton.mp hp]
theorem capP : ∀ y ∈ (lamS lamP).names, y.2 = .free → (defScope s_law).names.lookup y.1 = some .cell ∨ (defScope s_law).names.lookup y.1 = some .free := by decide +kernel
theorem freeP : ∀ y ∈ (["_law_counts", "_law_given"] : List Str), (y, NameKind.free) ∈ (lamS lamP).names := by decide +kernel
structure Wd (P r : Addr) (H : Hp) : Prop where
  rnd : Rnd H r
  tab : TabsN [(P, nmL)] H
theorem tabN_lst {H H' : Hp} {P r : Addr} {nm : Nat → Nat → Str} (t : TabN H P nm) (f : Fr [r] H H') (hr : ∃ xs, H r = some (.lst xs)) : TabN H' P nm := by
  obtain ⟨ps, h1, h2, h3⟩ := t
  obtain ⟨xs, e⟩ := hr
  refine ⟨ps, f _ _ h1 (fun z => ?_), h2, fun pos cv hc => ?_⟩
  · rw [List.mem_singleton.mp z, e] at h1
    cases h1
  · obtain ⟨c, e1, e2⟩ := h3 pos cv hc
    refine ⟨c, e1, f _ _ e2 (fun z => ?_)⟩
    rw [List.mem_singleton.mp z, e] at e2
    unfold CodeO at e2
    cases e2
theorem Wd.keep0 {P r : Addr} {H H' : Hp} (h : Wd P r H) (f : Fr [] H H') : Wd P r H' := ⟨h.rnd.keep f (by simp), h.tab.ext fun b o e => f b o e (by simp)⟩
theorem Wd.draw {P r : Addr} {H H' : Hp} (h : Wd P r H) (f : Fr [r] H H') (R : Rnd H' r) : Wd P r H' := ⟨R, fun p hp => tabN_lst (h.tab p hp) f (by
  obtain ⟨a, b, ns, e⟩ := h.rnd
  exact ⟨_, e⟩)⟩
theorem Wd.new {P r : Addr} {H : Hp} {p : Addr} {o : HO} (h : Wd P r H) (n : H p = none) : Wd P r (upd H p o) := h.keep0 (Fr.new n)
theorem Wd.out {P r : Addr} {H : Hp} {p : Addr} (h : Wd P r H) (n : H p = none) : p ≠ r := fun e => by
  obtain ⟨a, b, ns, e2⟩ := h.rnd
  rw [e, e2] at n
  cases n
theorem Wd.lam {P r : Addr} {H H' : Hp} (h : Wd P r H) (f : ExtN H H') (t : TabsN [(P, nmL)] H') : Wd P r H' := ⟨by
  obtain ⟨a, b, ns, e⟩ := h.rnd
  exact ⟨a, b, ns, f _ _ e (fun _ z => by cases z)⟩, t⟩
end
theorem shaped_pair {x : Str} {i : Nat} (h : PyData.strOk x = true) : SeqAt.shaped (.tuple [.str x, .int (i : Int)]) = true := by
  unfold SeqAt.shaped
  simp [PyData.canLay0, PyData.canLayAll0, h, PyData.depth, PyData.depthAll]
theorem eqv_pair (x : Str) (i : Int) : PyData.eqv (.tuple [.str x, .int i]) (.tuple [.str x, .int i]) = true := by
  simp [PyData.eqv, PyData.eqvAll]
theorem Eqn.one {H : Hp} {n : Nat} {a b : Addr} {x0 y0 : V} (h1 : H a = some (.lst [x0])) (h2 : H b = some (.lst [y0])) (e0 : Eqn H n x0 y0) : Eqn H (n + 1) (.ref a) (.ref b) :=
  .inr ⟨a, b, _, _, rfl, rfl, .inr ⟨h1, h2⟩, rfl, by simp, fun i x y p q => match i, p, q with
    | 0, p, q => by cases p; cases q; exact e0
    | _ + 1, p, _ => by simp at p⟩
section
open LamX NdefX
theorem BadP.keepN {H H' : Hp} {v : V} {j : Nat} (h : BadP H v j) (f : ExtN H H') : BadP H' v j := h.ext (fun b xs e => f _ _ e (fun _ z => by cases z)) fun b xs _ e => f _ _ e (fun _ z => by cases z)
theorem BadP.keep0 {H H' : Hp} {v : V} {j : Nat} (h : BadP H v j) (f : Fr [] H H') : BadP H' v j := h.ext (fun b xs e => f _ _ e (by simp)) fun b xs _ e => f _ _ e (by simp)
end
theorem rnd_tup {r : Addr} {H H' : Hp} (h : Rnd H r) (f : Fr [r] H H') {t : Addr} {xs : List V} (e : H t = some (.tup xs)) : H' t = some (.tup xs) := f _ _ e fun z => h.notup _ z _ e
/-- prices, one of them odd -/
def Odd7 (v : V) (H : Hp) : Prop := NoNum H 0 999 v
theorem odd_at54 {H : Hp} {q : Addr} {x : Int} {z : Nat} (hq : H q = some (.tup [.int 1])) (hx : 1000 ≤ x) (hz : z < 7) : ∃ v, atI [.int 1000, .int (0 - 1), .non, .bl true, .str "1", .ref q, .int x] (z : Int) = some v ∧ NoNum H 0 999 v := by
  match z, hz with
  | 0, _ => exact ⟨_, atI_nat (j := 0) rfl, .inl ⟨_, rfl, by decide⟩⟩
  | 1, _ => exact ⟨_, atI_nat (j := 1) rfl, .inl ⟨_, rfl, by decide⟩⟩
  | 2, _ => exact ⟨_, atI_nat (j := 2) rfl, .inr (.inl rfl)⟩
  | 3, _ => exact ⟨_, atI_nat (j := 3) rfl, .inr (.inr (.inl ⟨_, rfl⟩))⟩
  | 4, _ => exact ⟨_, atI_nat (j := 4) rfl, .inr (.inr (.inr (.inl ⟨_, rfl⟩)))⟩
  | 5, _ => exact ⟨_, atI_nat (j := 5) rfl, .inr (.inr (.inr (.inr ⟨q, _, rfl, hq⟩)))⟩
  | 6, _ => exact ⟨_, atI_nat (j := 6) rfl, .inl ⟨_, rfl, by rw [Bool.and_eq_false_iff]; exact .inr (decide_eq_false (by omega))⟩⟩
theorem good_at {xs : List Int} (g : GoodP xs) {i : Nat} (h : i < 6) : ∃ n : Int, (xs.map V.int)[i]? = some (.int n) ∧ 0 ≤ n ∧ n ≤ 999 := by
  have hi : i < xs.length := by rw [g.1]; exact h
  have hx : xs[i]? = some xs[i] := List.getElem?_eq_getElem hi
  exact ⟨xs[i], by rw [List.getElem?_map, hx]; rfl, g.2 _ (List.getElem_mem hi)⟩
theorem cut_to {xs : List V} {i : Nat} (h : i ≤ xs.length) : cutV xs none (some (i : Int)) = xs.take i := by
  unfold cutV
  rw [HT.sIx_none, HT.sIx_nat, Nat.min_eq_left h]
  simp
theorem cut_from {xs : List V} {i : Nat} (h : i ≤ xs.length) : cutV xs (some (i : Int)) none = xs.drop i := by
  unfold cutV
  rw [HT.sIx_none, HT.sIx_nat, Nat.min_eq_left h]
  exact List.take_of_length_le (by simp)
theorem ix_listK {X : Cx} {K : PySem.W.Frag} (h : X.K = K) : IxR X (rIxL K) := by
  subst h
  exact ix_list
theorem ix_tupK {X : Cx} {K : PySem.W.Frag} (h : X.K = K) : IxR X (rIxT K) := by
  subst h
  exact ix_tup
theorem catA_ok {K : PySem.W.Frag} {H : Hp} {a b : Addr} {xs ys : List V} {Q : VK} (ha : H a = some (.tup xs)) (hb : H b = some (.tup ys)) (hz : xs.length + ys.length ≤ 1000) (k : ∀ p H', Fr [] H H' → H' p = some (.tup (xs ++ ys)) → Q (.ref p) H') : rCatA K (.ref a) (.ref b) H Q :=
  ⟨a, b, xs, ys, rfl, rfl, SqT.of ha, SqT.of hb, sz_le (by omega), fun e => k b H (Fr.refl _ _) (by rw [e]; exact hb), fun _ e => k a H (Fr.refl _ _) (by rw [e, List.append_nil]; exact ha), fun _ _ p hp => k p _ (Fr.new hp) upd_same⟩
theorem slA_ok {K : PySem.W.Frag} {H : Hp} {a : Addr} {xs : List V} {lo hi : Option Int} {Q : VK} (ha : H a = some (.tup xs)) (k : ∀ p H', Fr [] H H' → H' p = some (.tup (cutV xs lo hi)) → Q (.ref p) H') : rSlA K (.ref a) lo hi H Q :=
  ⟨a, xs, rfl, SqT.of ha, fun e => k a H (Fr.refl _ _) (by unfold cutV; rw [e.1, e.2]; simpa using ha), fun _ p hp => k p _ (Fr.new hp) upd_same⟩
section
open LamX NdefX
theorem Wd.put {P r D : Addr} {H : Hp} {xs : List V} {o : HO} (h : Wd P r H) (e : H D = some (.lst xs)) (n : D ≠ r) : Wd P r (upd H D o) :=
  ⟨h.rnd.keep (Fr.put (S := [D]) (List.mem_singleton.mpr rfl)) (by simpa using n.symm), fun p hp => tabN_lst (h.tab p hp) (Fr.put (List.mem_singleton.mpr rfl)) ⟨_, e⟩⟩
end
theorem NoNum.keep0 {H H' : Hp} {lo hi : Int} {v : V} (h : NoNum H lo hi v) (f : Fr [] H H') : NoNum H' lo hi v := h.ext fun b xs e => f _ _ e (by simp)
/-! ### the law -/
def spLaw (K : PySem.W.Frag) (P : Addr) : Sp := fun vs H Q _ => ∃ (a : Addr) (ns : List Int), vs = [.ref a] ∧ SqL K H a (ns.map V.int) ∧ ns.length ≤ 63 ∧ H P = some (.tbl #[]) ∧ ∀ H', Q (.bl true) H'
section
open LamX NdefX
variable {P : Program} {w : World} {K : PySem.W.Frag} {mg : Str → Option Value} {base : Heap}
theorem ok_law {oc : Value} {od an : Option Addr} {kV dc pm ct : Value} {osl : Array (Option Value)} {f cd Pt : Addr} (T : Gx K mg) (HP : ProgOk P T.file) (lk : K.lookup f = some ⟨oc, od, .func (PySem.W.fnOf "law" "law" (defArgs s_law) (defBody s_law) (defScope s_law) .none kV dc pm an (.ref cd) ct), osl⟩)
    (hcd : PySem.W.codeIn K (.ref cd) "law" = true) (TB : TabB base mg cd Pt) : FnOk P w K mg base C8.CX0 14 f (PySem.W.fnOf "law" "law" (defArgs s_law) (defBody s_law) (defScope s_law) .none kV dc pm an (.ref cd) ct) ["_law_script"] (spLaw K Pt) := by
  have G__law_random : FnOk P w K mg base CX0 1 T.f__law_random T.fd__law_random ["_law_script", "_law_salt"] (spRandom K) := ok_random T
  have G__law_below : FnOk P w K mg base CX0 1 T.f__law_below T.fd__law_below ["_law_d", "_law_limit"] spBelow := ok_below T
  have G_cost : FnOk P w K mg base CX0 4 T.f_cost T.fd_cost ["counts", "prices"] (spCost K) := ok_cost T
  have G__law_equal : FnOk P w K mg base CX0 5 T.f__law_equal T.fd__law_equal ["_law_actual", "_law_expected"] (spEq 4) := ok_equal 4 T
  have GE : FnS P w K mg base C8.CX0 10 T.f__law_error_of ["_law_call"] (spErr P w base T) := ok_errorOf T
  refine fn_of lk hcd sc_law (fun vs H Q E h => ?_) (fun A outer s H vs Q E hr h => ?_)
  · obtain ⟨a, ns, rfl, _⟩ := h
    rfl
  · obtain ⟨a, ns, rfl, hS, hlen, hP, k⟩ := h
    refine ⟨_, (pss_cons (ps_set (i := 1) sc_law.nd rfl (.inr rfl) (pe_call G__law_random (hr.mono (by first | decide | omega)) (by rfl) T.g__law_random T.F__law_random.kp (b__law_random T) .nil pass0 (pa_cons (pv 0) (pa_cons pe_int pa_nil))))
      (pss_cons (ps_for PassesOwn.leaving rfl (pi_range1 (by rfl) T.z_range (pa_cons pe_int pa_nil)) (pg_name (i := 2) sc_law.nd rfl (.inl rfl)) (C8.pss_cut (ps_set (i := 8) sc_law.nd rfl (.inr rfl) (pe_callTy call_tuple_of (by rfl) T.z_tuple (by decide +kernel) (pa_cons (pe_lc (own := [("_law_k", 10)]) (g := gName 10) rfl sc_law.nd (pi_range1 (by rfl) T.z_range (pa_cons pe_int pa_nil)) (blkOk_by (N := ["_law_script", "_law_d", "_law_step", "_law_prices", "_law_at", "_law_kind", "_law_odd", "_law_index", "_law_counts", "_law_given", "_law_k"]) (sc := defScope s_law) (by decide +kernel)) (fun _ _ _ _ _ => pg_name (i := 10) sc_law.nd rfl (.inl rfl)) (fun _ _ _ _ _ => pts_nil) (fun _ _ _ _ _ => (pe_call G__law_below (hr.mono (by first | decide | omega)) (by rfl) T.g__law_below T.F__law_below.kp (b__law_below T) .nil pass0 (pa_cons (pv 1) (pa_cons (pe_ix (ix_listK (K := K) rfl) (pe_lst (pa_cons pe_int (pa_cons (pe_op op_pow pe_int pe_int) pa_nil))) (pe_call G__law_below (hr.mono (by first | decide | omega)) (by rfl) T.g__law_below T.F__law_below.kp (b__law_below T) .nil pass0 (pa_cons (pv 1) (pa_cons pe_int pa_nil))) (fun _ _ => rfl)) pa_nil))))) pa_nil)))
      (C8.pss_cut (ps_set (i := 3) sc_law.nd rfl (.inr rfl) (pe_callTy call_tuple_of (by rfl) T.z_tuple (by decide +kernel) (pa_cons (pe_lc (own := [("_law_k", 10)]) (g := gName 10) rfl sc_law.nd (pi_range1 (by rfl) T.z_range (pa_cons pe_int pa_nil)) (blkOk_by (N := ["_law_script", "_law_d", "_law_step", "_law_prices", "_law_at", "_law_kind", "_law_odd", "_law_index", "_law_counts", "_law_given", "_law_k"]) (sc := defScope s_law) (by decide +kernel)) (fun _ _ _ _ _ => pg_name (i := 10) sc_law.nd rfl (.inl rfl)) (fun _ _ _ _ _ => pts_nil) (fun _ _ _ _ _ => (pe_call G__law_below (hr.mono (by first | decide | omega)) (by rfl) T.g__law_below T.F__law_below.kp (b__law_below T) .nil pass0 (pa_cons (pv 1) (pa_cons (pe_ix (ix_listK (K := K) rfl) (pe_lst (pa_cons pe_int (pa_cons pe_int pa_nil))) (pe_call G__law_below (hr.mono (by first | decide | omega)) (by rfl) T.g__law_below T.F__law_below.kp (b__law_below T) .nil pass0 (pa_cons (pv 1) (pa_cons pe_int pa_nil))) (fun _ _ => rfl)) pa_nil))))) pa_nil)))
      (C8.pss_cut (ps_if (pt_not (pt_val (pe_call G__law_equal (hr.mono (by first | decide | omega)) (by rfl) T.g__law_equal T.F__law_equal.kp (b__law_equal T) .nil pass0 (pa_cons (pe_lst (pa_cons (pe_call G_cost (hr.mono (by first | decide | omega)) (by rfl) T.g_cost T.F_cost.kp (b_cost T) .nil pass0 (pa_cons (pv 8) (pa_cons (pv 3) pa_nil))) pa_nil)) (pa_cons (pe_lst (pa_cons (pe_callB (cr_sum rfl) (by rfl) T.z_sum (by decide +kernel) (pa_cons (pe_lc (own := [("_law_k", 10)]) (g := gName 10) rfl sc_law.nd (pi_range1 (by rfl) T.z_range (pa_cons pe_int pa_nil)) (blkOk_by (N := ["_law_script", "_law_d", "_law_step", "_law_prices", "_law_at", "_law_kind", "_law_odd", "_law_index", "_law_counts", "_law_given", "_law_k"]) (sc := defScope s_law) (by decide +kernel)) (fun _ _ _ _ _ => pg_name (i := 10) sc_law.nd rfl (.inl rfl)) (fun _ _ _ _ _ => pts_nil) (fun _ _ _ _ _ => (pe_op op_mul (pe_ix (ix_tupK (K := K) rfl) (pv 8) (pv 10) (fun _ _ => rfl)) (pe_ix (ix_tupK (K := K) rfl) (pv 3) (pv 10) (fun _ _ => rfl))))) pa_nil)) pa_nil)) pa_nil))))) (pss_one (ps_ret pe_bl)) pss_nil)
      (C8.pss_cut (ps_par (i := 4) (j := 5) (by rfl) sc_law.nd rfl rfl (by decide) rfl rfl (pa_cons (pe_call G__law_below (hr.mono (by first | decide | omega)) (by rfl) T.g__law_below T.F__law_below.kp (b__law_below T) .nil pass0 (pa_cons (pv 1) (pa_cons pe_int pa_nil))) (pa_cons (pe_call G__law_below (hr.mono (by first | decide | omega)) (by rfl) T.g__law_below T.F__law_below.kp (b__law_below T) .nil pass0 (pa_cons (pv 1) (pa_cons pe_int pa_nil))) pa_nil)) (by rfl))
      (C8.pss_cut (ps_set (i := 6) sc_law.nd rfl (.inl rfl) (pe_ix ix_list (pe_lst (pa_cons pe_int (pa_cons (pe_op op_sub pe_int pe_int) (pa_cons pe_non (pa_cons pe_bl (pa_cons pe_str (pa_cons (pe_tup (pa_cons pe_int pa_nil)) (pa_cons (pe_op op_add pe_int (pe_call G__law_below (hr.mono (by first | decide | omega)) (by rfl) T.g__law_below T.F__law_below.kp (b__law_below T) .nil pass0 (pa_cons (pv 1) (pa_cons pe_int pa_nil)))) pa_nil)))))))) (pe_call G__law_below (hr.mono (by first | decide | omega)) (by rfl) T.g__law_below T.F__law_below.kp (b__law_below T) .nil pass0 (pa_cons (pv 1) (pa_cons pe_int pa_nil))) (fun _ _ => rfl)))
      (C8.pss_cut (ps_asg (pe_tup (pa_cons (pe_op op_catA (pe_op op_catA (pe_slice sl_tupA (pv 3) po_none (po_some (pv 4))) (pe_tup (pa_cons (pv 6) pa_nil))) (pe_slice sl_tupA (pv 3) (po_some (pv 4)) po_none)) (pa_cons (pv 4) pa_nil))) (pg_tup (by rfl) (pgs_cons (pg_name (i := 9) sc_law.nd rfl (.inr rfl)) (pgs_cons (pg_name (i := 7) sc_law.nd rfl (.inl rfl)) pgs_nil))))
      (C8.pss_cut (ps_if (pt_cmpR op_eq (pv 5) pe_int (nomark _)) (pss_one (ps_asg (pe_tup (pa_cons (pe_op op_catA (pv 3) (pe_tup (pa_cons (pv 6) pa_nil))) (pa_cons pe_int pa_nil))) (pg_tup (by rfl) (pgs_cons (pg_name (i := 9) sc_law.nd rfl (.inr rfl)) (pgs_cons (pg_name (i := 7) sc_law.nd rfl (.inl rfl)) pgs_nil))))) pss_nil)
      (C8.pss_cut (ps_if (pt_cmpR op_eq (pv 5) pe_int (nomark _)) (pss_one (ps_asg (pe_tup (pa_cons (pe_slice sl_tupA (pv 3) po_none (po_some (pv 4))) (pa_cons (pv 4) pa_nil))) (pg_tup (by rfl) (pgs_cons (pg_name (i := 9) sc_law.nd rfl (.inr rfl)) (pgs_cons (pg_name (i := 7) sc_law.nd rfl (.inl rfl)) pgs_nil))))) pss_nil)
      (C8.pss_cut (ps_if (pt_cmpR op_eq (pv 5) pe_int (nomark _)) (pss_one (ps_asg (pe_tup (pa_cons (pe_ix ix_list (pe_lst (pa_cons (pe_callTy call_list_of (by rfl) T.z_list (by decide +kernel) (pa_cons (pv 3) pa_nil)) (pa_cons pe_non (pa_cons pe_int (pa_cons pe_str pa_nil))))) (pe_call G__law_below (hr.mono (by first | decide | omega)) (by rfl) T.g__law_below T.F__law_below.kp (b__law_below T) .nil pass0 (pa_cons (pv 1) (pa_cons pe_int pa_nil))) (fun _ _ => rfl)) (pa_cons pe_int pa_nil))) (pg_tup (by rfl) (pgs_cons (pg_name (i := 9) sc_law.nd rfl (.inr rfl)) (pgs_cons (pg_name (i := 7) sc_law.nd rfl (.inl rfl)) pgs_nil))))) pss_nil)
      (pss_one (ps_if (pt_cmpR (op_neD hr.units) (pe_callS GE (hr.mono (by first | decide | omega)) (by rfl) T.g__law_error_of T.F__law_error_of.kp (C8.pass0 (E := C8.E0)) (pa_cons (pe_lamV TB rfl (hmL Pt) rfl (huL Pt) capP rfl (.inl ⟨rfl, rfl⟩)) pa_nil)) (pe_tup (pa_cons pe_str (pa_cons (pv 7) pa_nil))) (nomark _)) (pss_one (ps_ret pe_bl)) pss_nil))))))))))))
      (pss_one (ps_ret pe_bl)))), ?_⟩
    refine ⟨_, rfl, a, 54, ns, rfl, hS, hlen, fun r H1 r0 f1 R1 => ?_⟩
    have W1 : Wd Pt r H1 := ⟨R1, fun p hp => by rw [List.mem_singleton.mp hp]; exact TabN.nil (f1 _ _ hP (by simp))⟩
    refine ⟨4, rfl, by decide, by decide, for_range (lo := 0) (n := 4) (fun i σ' H' => ∃ v2 v3 v4 v5 v6 v7 v8 v9 : Option V, σ' = [some (.ref a), some (.ref r), v2, v3, v4, v5, v6, v7, v8, v9, none] ∧ Wd Pt r H') ⟨none, none, none, none, none, none, none, none, rfl, W1⟩ ?_ ?_⟩
    · rintro i σ' H2 hi ⟨v2, v3, v4, v5, v6, v7, v8, v9, rfl, W2⟩
      clear W1 R1 f1 r0 hP hS
      -- counts
      refine ⟨fun σ' H' => ∃ (c : Addr) (cs : List Int), σ' = [some (.ref a), some (.ref r), some (.int (0 + (i : Int))), v3, v4, v5, v6, v7, some (.ref c), v9, none] ∧ Wd Pt r H' ∧ H' c = some (.tup (cs.map V.int)) ∧ cs.length = 6, ?_, ?_⟩
      · refine ⟨6, rfl, by decide, by decide, fun D hD => ?_⟩
        have hDr := W2.out hD
        refine lc_range (lo := 0) (n := 6) (fun j H' => Wd Pt r H' ∧ ∃ ds : List Int, H' D = some (.lst (ds.map V.int)) ∧ ds.length = j) ⟨W2.new hD, [], upd_same, rfl⟩ ?_ ?_
        · rintro j H3 hj ⟨W3, ds, e3, l3⟩
          refine ⟨rfl, _, rfl, _, _, rfl, rfl, ⟨by decide, by decide, by decide⟩, sz_le (by simp), fun g hg => ?_⟩
          have W4 := W3.new (o := .lst [.int 9, .int (10 ^ (20 : Int).toNat)]) hg
          refine ⟨_, rfl, r, 2, rfl, W4.rnd, by decide, by decide, fun z H5 hz f5 R5 => ?_⟩
          have W5 := W4.draw f5 R5
          have e5 := f5 _ _ ((upd_ne (ne_of_none e3 hg)).trans e3) (by simpa using hDr)
          obtain ⟨lim, hv, hl0, hl1⟩ : ∃ lim : Nat, atI ([.int 9, .int (10 ^ (20 : Int).toNat)] : List V) (z : Int) = some (.int (lim : Int)) ∧ 0 < lim ∧ lim < 1180591620717411303424 := by
            match z, hz with
            | 0, _ => exact ⟨9, atI_nat (j := 0) rfl, by decide, by decide⟩
            | 1, _ => exact ⟨100000000000000000000, atI_nat (j := 1) rfl, by decide, by decide⟩
          refine ⟨g, _, (z : Int), _, rfl, rfl, SqL.of (f5 _ _ upd_same (by simpa using W3.out hg)), hv, ?_⟩
          refine ⟨r, lim, rfl, W5.rnd, hl0, hl1, fun y H6 hy f6 R6 => ?_⟩
          have W6 := W5.draw f6 R6
          have e6 := f6 _ _ e5 (by simpa using hDr)
          refine ⟨_, e6, by rw [List.length_map, l3]; exact sz_lt (by omega), W6.put e6 hDr, ds ++ [(y : Int)], ?_, by rw [List.length_append, l3]; rfl⟩
          · rw [upd_same, List.map_append]
            rfl
        · rintro H3 ⟨W3, ds, e3, l3⟩
          refine ⟨D, _, rfl, .inl ⟨SqL.of e3, fun c hc => ?_⟩⟩
          exact ⟨c, ds, rfl, W3.new hc, upd_same, l3⟩
      clear W2
      rintro _ H2 ⟨c, cs, rfl, W2, hc, lc⟩
      -- prices
      refine ⟨fun σ' H' => ∃ (p : Addr) (xs : List Int), σ' = [some (.ref a), some (.ref r), some (.int (0 + (i : Int))), some (.ref p), v4, v5, v6, v7, some (.ref c), v9, none] ∧ Wd Pt r H' ∧ H' c = some (.tup (cs.map V.int)) ∧ H' p = some (.tup (xs.map V.int)) ∧ GoodP xs, ?_, ?_⟩
      · refine ⟨6, rfl, by decide, by decide, fun D hD => ?_⟩
        have hDr := W2.out hD
        refine lc_range (lo := 0) (n := 6) (fun j H' => Wd Pt r H' ∧ H' c = some (.tup (cs.map V.int)) ∧ ∃ ds : List Int, H' D = some (.lst (ds.map V.int)) ∧ ds.length = j ∧ ∀ x ∈ ds, 0 ≤ x ∧ x ≤ 999) ⟨W2.new hD, (upd_ne (ne_of_none hc hD)).trans hc, [], upd_same, rfl, fun x hx => by cases hx⟩ ?_ ?_
        · rintro j H3 hj ⟨W3, c3, ds, e3, l3, g3⟩
          refine ⟨rfl, _, rfl, sz_le (by simp), fun g hg => ?_⟩
          have W4 := W3.new (o := .lst [.int 4, .int 1000]) hg
          refine ⟨_, rfl, r, 2, rfl, W4.rnd, by decide, by decide, fun z H5 hz f5 R5 => ?_⟩
          have W5 := W4.draw f5 R5
          have e5 := f5 _ _ ((upd_ne (ne_of_none e3 hg)).trans e3) (by simpa using hDr)
          obtain ⟨lim, hv, hl0, hl1, hl2⟩ : ∃ lim : Nat, atI ([.int 4, .int 1000] : List V) (z : Int) = some (.int (lim : Int)) ∧ 0 < lim ∧ lim < 1180591620717411303424 ∧ lim ≤ 1000 := by
            match z, hz with
            | 0, _ => exact ⟨4, atI_nat (j := 0) rfl, by decide, by decide, by decide⟩
            | 1, _ => exact ⟨1000, atI_nat (j := 1) rfl, by decide, by decide, by decide⟩
          refine ⟨g, _, (z : Int), _, rfl, rfl, SqL.of (f5 _ _ upd_same (by simpa using W3.out hg)), hv, ?_⟩
          refine ⟨r, lim, rfl, W5.rnd, hl0, hl1, fun y H6 hy f6 R6 => ?_⟩
          have W6 := W5.draw f6 R6
          have c6 := rnd_tup W5.rnd f6 (rnd_tup W4.rnd f5 ((upd_ne (ne_of_none c3 hg)).trans c3))
          have e6 := f6 _ _ e5 (by simpa using hDr)
          refine ⟨_, e6, by rw [List.length_map, l3]; exact sz_lt (by omega), W6.put e6 hDr, (upd_ne (fun z => by rw [z, e6] at c6; cases c6)).trans c6, ds ++ [(y : Int)], ?_, by rw [List.length_append, l3]; rfl, ?_⟩
          · rw [upd_same, List.map_append]
            rfl
          · intro x hx
            rcases List.mem_append.mp hx with hx | hx
            · exact g3 x hx
            · rw [List.mem_singleton.mp hx]
              exact ⟨by omega, by omega⟩
        · rintro H3 ⟨W3, c3, ds, e3, l3, g3⟩
          refine ⟨D, _, rfl, .inl ⟨SqL.of e3, fun p hp => ?_⟩⟩
          exact ⟨p, ds, rfl, W3.new hp, (upd_ne (ne_of_none c3 hp)).trans c3, upd_same, l3, g3⟩
      clear W2 hc
      rintro _ H2 ⟨p, xs, rfl, W2, hc, hp, hg⟩
      -- the sum
      refine ⟨fun σ' H' => σ' = [some (.ref a), some (.ref r), some (.int (0 + (i : Int))), some (.ref p), v4, v5, v6, v7, some (.ref c), v9, none] ∧ Wd Pt r H' ∧ H' p = some (.tup (xs.map V.int)), ?_, ?_⟩
      · refine ⟨_, rfl, _, rfl, c, p, cs, xs, rfl, hc, hp, lc, hg, fun H3 f3 => ⟨sz_le (by simp), fun l1 hl1 => ?_⟩⟩
        refine ⟨6, rfl, by decide, by decide, fun D hD => ?_⟩
        have F0 := f3.trans (Fr.new (o := .lst [.int (dotP cs xs).sum]) hl1)
        refine lc_range (lo := 0) (n := 6) (fun j H' => Fr [] H2 H' ∧ H' l1 = some (.lst [.int (dotP cs xs).sum]) ∧ H' D = some (.lst ((dotP (cs.take j) (xs.take j)).map V.int))) ⟨F0.trans (Fr.new hD), (upd_ne (free_upd hD).2.symm).trans upd_same, upd_same⟩ ?_ ?_
        · rintro j H4 hj ⟨f4, e4, d4⟩
          have hx : cs[j]? = some (cs[j]'(by omega)) := List.getElem?_eq_getElem (by omega)
          have hy : xs[j]? = some (xs[j]'(by have := hg.1; omega)) := List.getElem?_eq_getElem (by have := hg.1; omega)
          obtain ⟨g0, g1⟩ := hg.2 _ (List.mem_of_getElem? hy)
          refine ⟨rfl, _, rfl, _, rfl, c, _, (0 + (j : Int)), _, rfl, rfl, SqT.of (f4 _ _ hc (by simp)), (by rw [Int.zero_add]; exact atI_nat (j := j) (by rw [List.getElem?_map, hx]; rfl)), ?_⟩
          refine ⟨_, rfl, _, rfl, p, _, (0 + (j : Int)), _, rfl, rfl, SqT.of (f4 _ _ hp (by simp)), (by rw [Int.zero_add]; exact atI_nat (j := j) (by rw [List.getElem?_map, hy]; rfl)), ?_⟩
          refine ⟨_, _, rfl, rfl, .inr ⟨by omega, by omega⟩, _, d4, ?_, ?_⟩
          · rw [List.length_map]
            exact sz_lt (by unfold dotP; rw [List.length_zipWith]; simp; omega)
          · refine ⟨f4.upd0 (some_of F0 (by simp) hD), (upd_ne (free_upd hD).2.symm).trans e4, ?_⟩
            rw [upd_same, dot_succ hx hy, List.map_append]
            rfl
        · rintro H4 ⟨f4, e4, d4⟩
          rw [show cs.take 6 = cs by rw [← lc, List.take_length], show xs.take 6 = xs by rw [← hg.1, List.take_length]] at d4
          refine ⟨D, _, rfl, SqL.of d4, sz_le (by simp), fun l2 hl2 => ?_⟩
          refine ⟨.ref l1, .ref l2, rfl, Eqn.one (n := 3) ((upd_ne (ne_of_none e4 hl2)).trans e4) upd_same (Eqn.flat rfl _), fun H5 f5 => ⟨_, rfl, iteF ?_⟩⟩
          have F := (f4.trans (Fr.new (o := .lst [.int (dotP cs xs).sum]) hl2)).trans f5
          exact ⟨rfl, W2.keep0 F, F _ _ hp (by simp)⟩
      clear W2 hc hp
      rintro _ H2 ⟨rfl, W2, hp⟩
      -- at, kind
      refine ⟨fun σ' H' => ∃ at_ kind : Nat, σ' = [some (.ref a), some (.ref r), some (.int (0 + (i : Int))), some (.ref p), some (.int (at_ : Int)), some (.int (kind : Int)), v6, v7, some (.ref c), v9, none] ∧ at_ < 6 ∧ kind < 4 ∧ Wd Pt r H' ∧ H' p = some (.tup (xs.map V.int)), ?_, ?_⟩
      · refine ⟨_, rfl, r, 6, rfl, W2.rnd, by decide, by decide, fun at_ H3 hat f3 R3 => ?_⟩
        have W3 := W2.draw f3 R3
        refine ⟨_, rfl, r, 4, rfl, W3.rnd, by decide, by decide, fun kind H4 hk f4 R4 => ?_⟩
        exact ⟨_, _, rfl, at_, kind, rfl, hat, hk, W3.draw f4 R4, rnd_tup W3.rnd f4 (rnd_tup W2.rnd f3 hp)⟩
      clear W2 hp
      rintro _ H2 ⟨at_, kind, rfl, hat, hk, W2, hp⟩
      -- odd
      refine ⟨fun σ' H' => ∃ odd : V, σ' = [some (.ref a), some (.ref r), some (.int (0 + (i : Int))), some (.ref p), some (.int (at_ : Int)), some (.int (kind : Int)), some odd, v7, some (.ref c), v9, none] ∧ NoNum H' 0 999 odd ∧ Wd Pt r H' ∧ H' p = some (.tup (xs.map V.int)), ?_, ?_⟩
      · refine ⟨_, _, rfl, rfl, sz_le (by simp), fun q hq => ?_⟩
        have W3 := W2.new (o := .tup [.int 1]) hq
        refine ⟨_, rfl, r, 99, rfl, W3.rnd, by decide, by decide, fun far H4 hfar f4 R4 => ?_⟩
        have W4 := W3.draw f4 R4
        refine ⟨_, _, rfl, rfl, sz_le (by simp), fun g hg => ?_⟩
        have W5 := W4.new (o := .lst [.int 1000, .int (0 - 1), .non, .bl true, .str "1", .ref q, .int (1000 + (far : Int))]) hg
        refine ⟨_, rfl, r, 7, rfl, W5.rnd, by decide, by decide, fun z H6 hz f6 R6 => ?_⟩
        have q4 := rnd_tup W3.rnd f4 (t := q) upd_same
        have q6 := rnd_tup W5.rnd f6 ((upd_ne (ne_of_none q4 hg)).trans q4)
        have p4 := rnd_tup W3.rnd f4 ((upd_ne (ne_of_none hp hq)).trans hp)
        have p6 := rnd_tup W5.rnd f6 ((upd_ne (ne_of_none p4 hg)).trans p4)
        obtain ⟨odd, ho, nn⟩ := odd_at54 (x := 1000 + (far : Int)) q6 (by omega) hz
        refine ⟨g, _, (z : Int), odd, rfl, rfl, SqL.of (f6 _ _ upd_same (by simpa using W4.out hg)), ho, ?_⟩
        exact ⟨odd, rfl, nn, W5.draw f6 R6, p6⟩
      clear W2 hp
      rintro _ H2 ⟨odd, rfl, nn, W2, hp⟩
      have hxl : (xs.map V.int).length = 6 := by rw [List.length_map, hg.1]
      -- given
      refine ⟨fun σ' H' => ∃ (given : V) (j : Nat), σ' = [some (.ref a), some (.ref r), some (.int (0 + (i : Int))), some (.ref p), some (.int (at_ : Int)), some (.int (kind : Int)), some odd, some (.int (j : Int)), some (.ref c), some given, none] ∧ BadP H' given j ∧ NoNum H' 0 999 odd ∧ Wd Pt r H' ∧ H' p = some (.tup (xs.map V.int)), ?_, ?_⟩
      · refine ⟨_, rfl, _, rfl, (at_ : Int), rfl, slA_ok hp fun p1 H3 f3 e3 => ?_⟩
        refine ⟨_, rfl, sz_le (by simp), fun p2 hp2 => ?_⟩
        have F4 := f3.trans (Fr.new (o := .tup [odd]) hp2)
        rw [cut_to (by omega)] at e3
        refine catA_ok ((upd_ne (ne_of_none e3 hp2)).trans e3) upd_same (by simp only [List.length_take, List.length_append, List.length_cons, List.length_nil, List.length_drop]; omega) fun p3 H5 f5 e5 => ?_
        have F5 := F4.trans f5
        refine ⟨_, rfl, _, rfl, (at_ : Int), rfl, ?_⟩
        show (fun l H2 => tNoPart _ H2 fun u H3 => rSlA K (.ref p) l u H3 _) (some (at_ : Int)) H5
        unfold tNoPart
        refine slA_ok (F5 _ _ hp (by simp)) fun p4 H6 f6 e6 => ?_
        rw [cut_from (by omega)] at e6
        refine catA_ok (f6 _ _ e5 (by simp)) e6 (by simp only [List.length_take, List.length_append, List.length_cons, List.length_nil, List.length_drop]; omega) fun p5 H7 f7 e7 => ?_
        have F7 := (F5.trans f6).trans f7
        refine ⟨_, rfl, sz_le (by simp), fun t ht => ⟨t, _, rfl, SqT.of upd_same, rfl, _, _, rfl, _, _, rfl, rfl, ?_⟩⟩
        have F := F7.trans (Fr.new (o := .tup [.ref p5, .int (at_ : Int)]) ht)
        have lt : ((xs.map V.int).take at_).length = at_ := by rw [List.length_take]; omega
        refine ⟨.ref p5, at_, rfl, .inr ⟨p5, _, rfl, (upd_ne (ne_of_none e7 ht)).trans e7, by omega, fun m hm => ?_, fun _ => .inr ⟨odd, ?_, nn.keep0 F⟩, fun e => by omega⟩, nn.keep0 F, W2.keep0 F, F _ _ hp (by simp)⟩
        · obtain ⟨n, hn, g0, g1⟩ := good_at hg (i := m) (by omega)
          refine ⟨n, ?_, g0, g1⟩
          rw [List.getElem?_append_left (by simp only [List.length_append, lt, List.length_cons, List.length_nil]; omega), List.getElem?_append_left (by omega), List.getElem?_take_of_lt hm]
          exact hn
        · rw [List.getElem?_append_left (by simp only [List.length_append, lt, List.length_cons, List.length_nil]; omega), List.getElem?_append_right (by omega), lt, Nat.sub_self]
          rfl
      clear W2 hp nn
      rintro _ H2 ⟨given, j, rfl, bp, nn, W2, hp⟩
      -- kind 1
      refine ⟨fun σ' H' => ∃ (given : V) (j : Nat), σ' = [some (.ref a), some (.ref r), some (.int (0 + (i : Int))), some (.ref p), some (.int (at_ : Int)), some (.int (kind : Int)), some odd, some (.int (j : Int)), some (.ref c), some given, none] ∧ BadP H' given j ∧ NoNum H' 0 999 odd ∧ Wd Pt r H' ∧ H' p = some (.tup (xs.map V.int)), ?_, ?_⟩
      · refine ⟨_, rfl, rfl, _, rfl, ?_⟩
        by_cases h1 : kind = 1
        · rw [decide_eq_true (show V.int (kind : Int) = V.int 1 by rw [h1]; rfl)]
          refine iteT ?_
          refine ⟨_, rfl, _, rfl, sz_le (by simp), fun p2 hp2 => ?_⟩
          refine catA_ok ((upd_ne (ne_of_none hp hp2)).trans hp) upd_same (by simp only [List.length_map, hg.1, List.length_cons, List.length_nil]; omega) fun p3 H5 f5 e5 => ?_
          refine ⟨sz_le (by simp), fun t ht => ⟨t, _, rfl, SqT.of upd_same, rfl, _, _, rfl, _, _, rfl, rfl, ?_⟩⟩
          have F := ((Fr.new (S := []) (o := .tup [odd]) hp2).trans f5).trans (Fr.new (o := .tup [.ref p3, .int 6]) ht)
          refine ⟨.ref p3, 6, rfl, .inr ⟨p3, _, rfl, (upd_ne (ne_of_none e5 ht)).trans e5, by omega, fun m hm => ?_, fun z => absurd z (by omega), fun _ => by rw [List.length_append, hxl]; exact Nat.le_refl 7⟩, nn.keep0 F, W2.keep0 F, F _ _ hp (by simp)⟩
          obtain ⟨n, hn, g0, g1⟩ := good_at hg (i := m) (by omega)
          exact ⟨n, by rw [List.getElem?_append_left (by omega)]; exact hn, g0, g1⟩
        · rw [decide_eq_false (fun e : V.int (kind : Int) = V.int 1 => h1 (by have := V.int.inj e; omega))]
          exact iteF ⟨given, j, rfl, bp, nn, W2, hp⟩
      clear W2 hp nn bp given j
      rintro _ H2 ⟨given, j, rfl, bp, nn, W2, hp⟩
      -- kind 2
      refine ⟨fun σ' H' => ∃ (given : V) (j : Nat), σ' = [some (.ref a), some (.ref r), some (.int (0 + (i : Int))), some (.ref p), some (.int (at_ : Int)), some (.int (kind : Int)), some odd, some (.int (j : Int)), some (.ref c), some given, none] ∧ BadP H' given j ∧ NoNum H' 0 999 odd ∧ Wd Pt r H' ∧ H' p = some (.tup (xs.map V.int)), ?_, ?_⟩
      · refine ⟨_, rfl, rfl, _, rfl, ?_⟩
        by_cases h1 : kind = 2
        · rw [decide_eq_true (show V.int (kind : Int) = V.int 2 by rw [h1]; rfl)]
          refine iteT ?_
          refine ⟨_, rfl, _, rfl, (at_ : Int), rfl, slA_ok hp fun p3 H5 f5 e5 => ?_⟩
          rw [cut_to (by omega)] at e5
          refine ⟨_, rfl, sz_le (by simp), fun t ht => ⟨t, _, rfl, SqT.of upd_same, rfl, _, _, rfl, _, _, rfl, rfl, ?_⟩⟩
          have F := f5.trans (Fr.new (o := .tup [.ref p3, .int (at_ : Int)]) ht)
          refine ⟨.ref p3, at_, rfl, .inr ⟨p3, _, rfl, (upd_ne (ne_of_none e5 ht)).trans e5, by omega, fun m hm => ?_, fun _ => .inl (by rw [List.length_take]; omega), fun z => by omega⟩, nn.keep0 F, W2.keep0 F, F _ _ hp (by simp)⟩
          obtain ⟨n, hn, g0, g1⟩ := good_at hg (i := m) (by omega)
          exact ⟨n, by rw [List.getElem?_take_of_lt hm]; exact hn, g0, g1⟩
        · rw [decide_eq_false (fun e : V.int (kind : Int) = V.int 2 => h1 (by have := V.int.inj e; omega))]
          exact iteF ⟨given, j, rfl, bp, nn, W2, hp⟩
      clear W2 hp nn bp given j
      rintro _ H2 ⟨given, j, rfl, bp, nn, W2, hp⟩
      -- kind 3
      refine ⟨fun σ' H' => ∃ (given : V) (j : Nat), σ' = [some (.ref a), some (.ref r), some (.int (0 + (i : Int))), some (.ref p), some (.int (at_ : Int)), some (.int (kind : Int)), some odd, some (.int (j : Int)), some (.ref c), some given, none] ∧ BadP H' given j ∧ NoNum H' 0 999 odd ∧ Wd Pt r H' ∧ H' p = some (.tup (xs.map V.int)), ?_, ?_⟩
      · refine ⟨_, rfl, rfl, _, rfl, ?_⟩
        by_cases h1 : kind = 3
        · rw [decide_eq_true (show V.int (kind : Int) = V.int 3 by rw [h1]; rfl)]
          refine iteT ?_
          refine ⟨_, rfl, p, _, rfl, .inr (SqT.of hp), fun l hl => ⟨sz_le (by simp), fun g hg2 => ?_⟩⟩
          have W3 := W2.new (o := .lst (xs.map V.int)) hl
          have W4 := W3.new (o := .lst [.ref l, .non, .int 5, .str "x"]) hg2
          refine ⟨_, rfl, r, 4, rfl, W4.rnd, by decide, by decide, fun z H6 hz f6 R6 => ?_⟩
          have W6 := W4.draw f6 R6
          have F0 := (Fr.new (S := []) (o := .lst (xs.map V.int)) hl).trans (Fr.new (o := .lst [.ref l, .non, .int 5, .str "x"]) hg2)
          have l6 : H6 l = some (.lst (xs.map V.int)) := f6 _ _ ((upd_ne (free_upd hg2).2.symm).trans upd_same) (by simpa using W2.out hl)
          have n6 : NoNum H6 0 999 odd := (nn.keep0 F0).ext fun b ys e => rnd_tup W4.rnd f6 e
          have p6 := rnd_tup W4.rnd f6 (F0 _ _ hp (by simp))
          obtain ⟨v, hv, nt⟩ : ∃ v, atI ([.ref l, .non, .int 5, .str "x"] : List V) (z : Int) = some v ∧ NoTupS H6 v := by
            match z, hz with
            | 0, _ => exact ⟨_, atI_nat (j := 0) rfl, .inl (.inr (.inr ⟨l, _, rfl, l6⟩))⟩
            | 1, _ => exact ⟨_, atI_nat (j := 1) rfl, .inl (.inl rfl)⟩
            | 2, _ => exact ⟨_, atI_nat (j := 2) rfl, .inl (.inr (.inl ⟨_, rfl⟩))⟩
            | 3, _ => exact ⟨_, atI_nat (j := 3) rfl, .inr ⟨_, rfl⟩⟩
          refine ⟨g, _, (z : Int), v, rfl, rfl, SqL.of (f6 _ _ upd_same (by simpa using W3.out hg2)), hv, ?_⟩
          refine ⟨sz_le (by simp), fun t ht => ⟨t, _, rfl, SqT.of upd_same, rfl, _, _, rfl, _, _, rfl, rfl, ?_⟩⟩
          have b6 : BadP H6 v 0 := .inl ⟨rfl, nt⟩
          exact ⟨v, 0, rfl, b6.keep0 (Fr.new ht), n6.keep0 (Fr.new ht), W6.keep0 (Fr.new ht), (upd_ne (ne_of_none p6 ht)).trans p6⟩
        · rw [decide_eq_false (fun e : V.int (kind : Int) = V.int 3 => h1 (by have := V.int.inj e; omega))]
          exact iteF ⟨given, j, rfl, bp, nn, W2, hp⟩
      clear W2 hp nn bp given j
      rintro _ H2 ⟨given, j, rfl, bp, nn, W2, hp⟩
      -- the question
      refine ⟨W2.tab, fun fl F HH q1 q2 q3 q4 q5 q6 eN TB' hf L pins s1 I => ?_⟩
      refine ⟨fl, F, ["_law_counts", "_law_given"], [some (.ref c), some given], lpP T, rfl, lok_cost T HP q3 q4 q2 q6, Act.made (js := [8, 9]) (fun _ => rfl) I L (by rw [q5]; exact Caps.made I.ok capP freeP rfl), fun Q' E' hq he => ?_⟩
      refine ⟨.ref c, given, j, rfl, bp.keepN eN, fun d HC hd fC hx => he _ _ _ ⟨.int (j : Int), rfl, by simp, hx, fun u HD hu fD eu => ?_⟩⟩
      refine ⟨_, rfl, sz_le (by simp), fun u2 hu2 => ?_⟩
      have WD := (((W2.lam eN TB').keep0 fC).keep0 fD).new (o := .tup [.str "prices", .int (j : Int)]) hu2
      refine ⟨.tuple [.str "prices", .int (j : Int)], .tuple [.str "prices", .int (j : Int)], .tup (SqT.of ((Fr.new (S := []) hu2) _ _ eu (by simp))) (.cons (.str _) (.cons (.int _) .nil)), .tup (SqT.of upd_same) (.cons (.str _) (.cons (.int _) .nil)), shaped_pair (by decide +kernel), shaped_pair (by decide +kernel), _, rfl, ?_⟩
      rw [eqv_pair]
      exact iteF ⟨_, _, _, _, _, _, _, _, rfl, WD⟩
    · rintro σ' H2 ⟨v2, v3, v4, v5, v6, v7, v8, v9, rfl, W2⟩
      exact k _
end
open PySem.Spec PySem.Calls PySem.W PyProof.Rows LamX NdefX in
theorem all_mk {l : PySem.W.OpenLaw} {w : World} {K : PySem.W.Frag} {q : Program} {lo : List Str} {mean : ExcName → Option Value} {d : DefRec} {h : Heap} {mg mb : Str → Option Value} {fa f_is_number f_is_number_from f_cost f_check_prices f__law_random f__law_below f__law_equal f__law_told_of f__law_error_of f_law cda_law P_law C_InvalidSize C_InvalidCell C_InvalidKept C_InvalidBlock C_InvalidValue C_InvalidCount C_InvalidSlot C_InvalidWord C_InvalidStory C_PowerOff C_PowerOn C_NoFastDisk C_HasFastDisk C_Unsettled C_Contradiction C_InvalidName C_UnknownName C_InvalidRules C_InvalidRecipes C_InvalidRequests C_InvalidPrices C_InvalidPlan C_PowerFailed C_InvalidOperation C_NotationError C_DecodeError C_PairError f_InvalidPrices___init__ cc_InvalidPrices___init__ cda_InvalidPrices___init__ : Addr} (TT : Top q lo mean mg mb h) (X : K.In h) (hfa : mg "law" = some (.ref fa)) (nt : noTabs K = true) (hrec : (recsOf q).find? (fun e => e.name == ("law" : Str)) = some d)
    {od_is_number an_is_number od_is_number_from an_is_number_from od_cost an_cost od_check_prices an_check_prices od__law_random an__law_random od__law_below an__law_below od__law_equal an__law_equal od__law_told_of an__law_told_of od__law_error_of an__law_error_of od_law an_law cdd_law od_InvalidPrices___init__ an_InvalidPrices___init__ cdd_InvalidPrices___init__ ed_InvalidPrices___init__ : Option Addr} {sl_is_number sl_is_number_from sl_cost sl_check_prices sl__law_random sl__law_below sl__law_equal sl__law_told_of sl__law_error_of sl_law csl_law sl_InvalidPrices___init__ csl_InvalidPrices___init__ es_InvalidPrices___init__ : Array (Option Value)} {oc_is_number dc_is_number pm_is_number cd_is_number ct_is_number kV_is_number oc_is_number_from dc_is_number_from pm_is_number_from cd_is_number_from ct_is_number_from kV_is_number_from oc_cost dc_cost pm_cost cd_cost ct_cost kV_cost oc_check_prices dc_check_prices pm_check_prices cd_check_prices ct_check_prices kV_check_prices oc__law_random dc__law_random pm__law_random cd__law_random ct__law_random kV__law_random oc__law_below dc__law_below pm__law_below cd__law_below ct__law_below kV__law_below oc__law_equal dc__law_equal pm__law_equal cd__law_equal ct__law_equal kV__law_equal oc__law_told_of dc__law_told_of pm__law_told_of cd__law_told_of ct__law_told_of kV__law_told_of oc__law_error_of dc__law_error_of pm__law_error_of cd__law_error_of ct__law_error_of kV__law_error_of oc_law dc_law pm_law ct_law cl_law kV_law oc_InvalidPrices___init__ kV_InvalidPrices___init__ dc_InvalidPrices___init__ pm_InvalidPrices___init__ ct_InvalidPrices___init__ cl_InvalidPrices___init__ ec_InvalidPrices___init__ : Value} {t_MANY_PRICES t_MOST_PRICE : Tok}
    (a_is_number : PySem.W.nsIn K mainGlobals "is_number" = some (some (.ref f_is_number)))
    (l_is_number : K.lookup f_is_number = some ⟨oc_is_number, od_is_number, .func (PySem.W.fnOf "is_number" "is_number" (defArgs s_is_number) (defBody s_is_number) (defScope s_is_number) .none kV_is_number dc_is_number pm_is_number an_is_number cd_is_number ct_is_number), sl_is_number⟩) (c_is_number : PySem.W.codeIn K cd_is_number "is_number" = true) (k_is_number : PySem.W.keepIn K (.ref f_is_number) = true)
    (a_is_number_from : PySem.W.nsIn K mainGlobals "is_number_from" = some (some (.ref f_is_number_from)))
    (l_is_number_from : K.lookup f_is_number_from = some ⟨oc_is_number_from, od_is_number_from, .func (PySem.W.fnOf "is_number_from" "is_number_from" (defArgs s_is_number_from) (defBody s_is_number_from) (defScope s_is_number_from) .none kV_is_number_from dc_is_number_from pm_is_number_from an_is_number_from cd_is_number_from ct_is_number_from), sl_is_number_from⟩) (c_is_number_from : PySem.W.codeIn K cd_is_number_from "is_number_from" = true) (k_is_number_from : PySem.W.keepIn K (.ref f_is_number_from) = true)
    (a_cost : PySem.W.nsIn K mainGlobals "cost" = some (some (.ref f_cost)))
    (l_cost : K.lookup f_cost = some ⟨oc_cost, od_cost, .func (PySem.W.fnOf "cost" "cost" (defArgs s_cost) (defBody s_cost) (defScope s_cost) .none kV_cost dc_cost pm_cost an_cost cd_cost ct_cost), sl_cost⟩) (c_cost : PySem.W.codeIn K cd_cost "cost" = true) (k_cost : PySem.W.keepIn K (.ref f_cost) = true)
    (a_check_prices : PySem.W.nsIn K mainGlobals "check_prices" = some (some (.ref f_check_prices)))
    (l_check_prices : K.lookup f_check_prices = some ⟨oc_check_prices, od_check_prices, .func (PySem.W.fnOf "check_prices" "check_prices" (defArgs s_check_prices) (defBody s_check_prices) (defScope s_check_prices) .none kV_check_prices dc_check_prices pm_check_prices an_check_prices cd_check_prices ct_check_prices), sl_check_prices⟩) (c_check_prices : PySem.W.codeIn K cd_check_prices "check_prices" = true) (k_check_prices : PySem.W.keepIn K (.ref f_check_prices) = true)
    (a__law_random : PySem.W.nsIn K mainGlobals "_law_random" = some (some (.ref f__law_random)))
    (l__law_random : K.lookup f__law_random = some ⟨oc__law_random, od__law_random, .func (PySem.W.fnOf "_law_random" "_law_random" (defArgs s__law_random) (defBody s__law_random) (defScope s__law_random) .none kV__law_random dc__law_random pm__law_random an__law_random cd__law_random ct__law_random), sl__law_random⟩) (c__law_random : PySem.W.codeIn K cd__law_random "_law_random" = true) (k__law_random : PySem.W.keepIn K (.ref f__law_random) = true)
    (a__law_below : PySem.W.nsIn K mainGlobals "_law_below" = some (some (.ref f__law_below)))
    (l__law_below : K.lookup f__law_below = some ⟨oc__law_below, od__law_below, .func (PySem.W.fnOf "_law_below" "_law_below" (defArgs s__law_below) (defBody s__law_below) (defScope s__law_below) .none kV__law_below dc__law_below pm__law_below an__law_below cd__law_below ct__law_below), sl__law_below⟩) (c__law_below : PySem.W.codeIn K cd__law_below "_law_below" = true) (k__law_below : PySem.W.keepIn K (.ref f__law_below) = true)
    (a__law_equal : PySem.W.nsIn K mainGlobals "_law_equal" = some (some (.ref f__law_equal)))
    (l__law_equal : K.lookup f__law_equal = some ⟨oc__law_equal, od__law_equal, .func (PySem.W.fnOf "_law_equal" "_law_equal" (defArgs s__law_equal) (defBody s__law_equal) (defScope s__law_equal) .none kV__law_equal dc__law_equal pm__law_equal an__law_equal cd__law_equal ct__law_equal), sl__law_equal⟩) (c__law_equal : PySem.W.codeIn K cd__law_equal "_law_equal" = true) (k__law_equal : PySem.W.keepIn K (.ref f__law_equal) = true)
    (a__law_told_of : PySem.W.nsIn K mainGlobals "_law_told_of" = some (some (.ref f__law_told_of)))
    (l__law_told_of : K.lookup f__law_told_of = some ⟨oc__law_told_of, od__law_told_of, .func (PySem.W.fnOf "_law_told_of" "_law_told_of" (defArgs s__law_told_of) (defBody s__law_told_of) (defScope s__law_told_of) .none kV__law_told_of dc__law_told_of pm__law_told_of an__law_told_of cd__law_told_of ct__law_told_of), sl__law_told_of⟩) (c__law_told_of : PySem.W.codeIn K cd__law_told_of "_law_told_of" = true) (k__law_told_of : PySem.W.keepIn K (.ref f__law_told_of) = true)
    (a__law_error_of : PySem.W.nsIn K mainGlobals "_law_error_of" = some (some (.ref f__law_error_of)))
    (l__law_error_of : K.lookup f__law_error_of = some ⟨oc__law_error_of, od__law_error_of, .func (PySem.W.fnOf "_law_error_of" "_law_error_of" (defArgs s__law_error_of) (defBody s__law_error_of) (defScope s__law_error_of) .none kV__law_error_of dc__law_error_of pm__law_error_of an__law_error_of cd__law_error_of ct__law_error_of), sl__law_error_of⟩) (c__law_error_of : PySem.W.codeIn K cd__law_error_of "_law_error_of" = true) (k__law_error_of : PySem.W.keepIn K (.ref f__law_error_of) = true)
    (a_law : PySem.W.nsIn K mainGlobals "law" = some (some (.ref f_law)))
    (l_law : K.lookup f_law = some ⟨oc_law, od_law, .func (PySem.W.fnOf "law" "law" (defArgs s_law) (defBody s_law) (defScope s_law) .none kV_law dc_law pm_law an_law (.ref cda_law) ct_law), sl_law⟩) (c_law : PySem.W.codeIn K (.ref cda_law) "law" = true) (k_law : PySem.W.keepIn K (.ref f_law) = true)
    {vs_law : Array Value} (lc_law : K.lookup cda_law = some ⟨cl_law, cdd_law, .fields vs_law, csl_law⟩) (tp_law : (vs_law[11]? : Option Value) = some (.ref P_law))
    (z_isinstance : PySem.W.nsIn K mainGlobals "isinstance" = some none)
    (z_int : PySem.W.nsIn K mainGlobals "int" = some none)
    (z_bool : PySem.W.nsIn K mainGlobals "bool" = some none)
    (z_str : PySem.W.nsIn K mainGlobals "str" = some none)
    (z_list : PySem.W.nsIn K mainGlobals "list" = some none)
    (z_tuple : PySem.W.nsIn K mainGlobals "tuple" = some none)
    (z_len : PySem.W.nsIn K mainGlobals "len" = some none)
    (z_abs : PySem.W.nsIn K mainGlobals "abs" = some none)
    (z_range : PySem.W.nsIn K mainGlobals "range" = some none)
    (z_zip : PySem.W.nsIn K mainGlobals "zip" = some none)
    (z_sum : PySem.W.nsIn K mainGlobals "sum" = some none)
    (z_all : PySem.W.nsIn K mainGlobals "all" = some none)
    (z_super : PySem.W.nsIn K mainGlobals "super" = some none)
    (z_ValueError : PySem.W.nsIn K mainGlobals "ValueError" = some none)
    (c_MANY_PRICES : PySem.W.nsIn K mainGlobals "MANY_PRICES" = some (some (.int 6 t_MANY_PRICES)))
    (c_MOST_PRICE : PySem.W.nsIn K mainGlobals "MOST_PRICE" = some (some (.int 999 t_MOST_PRICE)))
    {file : Str}
    (third : PySem.W.nsIn K cStatics "thirdparty.any" = some none)
    (aC_InvalidSize : PySem.W.nsIn K mainGlobals "InvalidSize" = some (some (.ref C_InvalidSize)))
    (ic_InvalidSize : PySem.W.isClsIn K C_InvalidSize = true)
    (ty_InvalidSize : PySem.W.typeIn K (.ref C_InvalidSize) = some (.type "type"))
    (aC_InvalidCell : PySem.W.nsIn K mainGlobals "InvalidCell" = some (some (.ref C_InvalidCell)))
    (ic_InvalidCell : PySem.W.isClsIn K C_InvalidCell = true)
    (ty_InvalidCell : PySem.W.typeIn K (.ref C_InvalidCell) = some (.type "type"))
    (aC_InvalidKept : PySem.W.nsIn K mainGlobals "InvalidKept" = some (some (.ref C_InvalidKept)))
    (ic_InvalidKept : PySem.W.isClsIn K C_InvalidKept = true)
    (ty_InvalidKept : PySem.W.typeIn K (.ref C_InvalidKept) = some (.type "type"))
    (aC_InvalidBlock : PySem.W.nsIn K mainGlobals "InvalidBlock" = some (some (.ref C_InvalidBlock)))
    (ic_InvalidBlock : PySem.W.isClsIn K C_InvalidBlock = true)
    (ty_InvalidBlock : PySem.W.typeIn K (.ref C_InvalidBlock) = some (.type "type"))
    (aC_InvalidValue : PySem.W.nsIn K mainGlobals "InvalidValue" = some (some (.ref C_InvalidValue)))
    (ic_InvalidValue : PySem.W.isClsIn K C_InvalidValue = true)
    (ty_InvalidValue : PySem.W.typeIn K (.ref C_InvalidValue) = some (.type "type"))
    (aC_InvalidCount : PySem.W.nsIn K mainGlobals "InvalidCount" = some (some (.ref C_InvalidCount)))
    (ic_InvalidCount : PySem.W.isClsIn K C_InvalidCount = true)
    (ty_InvalidCount : PySem.W.typeIn K (.ref C_InvalidCount) = some (.type "type"))
    (aC_InvalidSlot : PySem.W.nsIn K mainGlobals "InvalidSlot" = some (some (.ref C_InvalidSlot)))
    (ic_InvalidSlot : PySem.W.isClsIn K C_InvalidSlot = true)
    (ty_InvalidSlot : PySem.W.typeIn K (.ref C_InvalidSlot) = some (.type "type"))
    (aC_InvalidWord : PySem.W.nsIn K mainGlobals "InvalidWord" = some (some (.ref C_InvalidWord)))
    (ic_InvalidWord : PySem.W.isClsIn K C_InvalidWord = true)
    (ty_InvalidWord : PySem.W.typeIn K (.ref C_InvalidWord) = some (.type "type"))
    (aC_InvalidStory : PySem.W.nsIn K mainGlobals "InvalidStory" = some (some (.ref C_InvalidStory)))
    (ic_InvalidStory : PySem.W.isClsIn K C_InvalidStory = true)
    (ty_InvalidStory : PySem.W.typeIn K (.ref C_InvalidStory) = some (.type "type"))
    (aC_PowerOff : PySem.W.nsIn K mainGlobals "PowerOff" = some (some (.ref C_PowerOff)))
    (ic_PowerOff : PySem.W.isClsIn K C_PowerOff = true)
    (ty_PowerOff : PySem.W.typeIn K (.ref C_PowerOff) = some (.type "type"))
    (aC_PowerOn : PySem.W.nsIn K mainGlobals "PowerOn" = some (some (.ref C_PowerOn)))
    (ic_PowerOn : PySem.W.isClsIn K C_PowerOn = true)
    (ty_PowerOn : PySem.W.typeIn K (.ref C_PowerOn) = some (.type "type"))
    (aC_NoFastDisk : PySem.W.nsIn K mainGlobals "NoFastDisk" = some (some (.ref C_NoFastDisk)))
    (ic_NoFastDisk : PySem.W.isClsIn K C_NoFastDisk = true)
    (ty_NoFastDisk : PySem.W.typeIn K (.ref C_NoFastDisk) = some (.type "type"))
    (aC_HasFastDisk : PySem.W.nsIn K mainGlobals "HasFastDisk" = some (some (.ref C_HasFastDisk)))
    (ic_HasFastDisk : PySem.W.isClsIn K C_HasFastDisk = true)
    (ty_HasFastDisk : PySem.W.typeIn K (.ref C_HasFastDisk) = some (.type "type"))
    (aC_Unsettled : PySem.W.nsIn K mainGlobals "Unsettled" = some (some (.ref C_Unsettled)))
    (ic_Unsettled : PySem.W.isClsIn K C_Unsettled = true)
    (ty_Unsettled : PySem.W.typeIn K (.ref C_Unsettled) = some (.type "type"))
    (aC_Contradiction : PySem.W.nsIn K mainGlobals "Contradiction" = some (some (.ref C_Contradiction)))
    (ic_Contradiction : PySem.W.isClsIn K C_Contradiction = true)
    (ty_Contradiction : PySem.W.typeIn K (.ref C_Contradiction) = some (.type "type"))
    (aC_InvalidName : PySem.W.nsIn K mainGlobals "InvalidName" = some (some (.ref C_InvalidName)))
    (ic_InvalidName : PySem.W.isClsIn K C_InvalidName = true)
    (ty_InvalidName : PySem.W.typeIn K (.ref C_InvalidName) = some (.type "type"))
    (aC_UnknownName : PySem.W.nsIn K mainGlobals "UnknownName" = some (some (.ref C_UnknownName)))
    (ic_UnknownName : PySem.W.isClsIn K C_UnknownName = true)
    (ty_UnknownName : PySem.W.typeIn K (.ref C_UnknownName) = some (.type "type"))
    (aC_InvalidRules : PySem.W.nsIn K mainGlobals "InvalidRules" = some (some (.ref C_InvalidRules)))
    (ic_InvalidRules : PySem.W.isClsIn K C_InvalidRules = true)
    (ty_InvalidRules : PySem.W.typeIn K (.ref C_InvalidRules) = some (.type "type"))
    (aC_InvalidRecipes : PySem.W.nsIn K mainGlobals "InvalidRecipes" = some (some (.ref C_InvalidRecipes)))
    (ic_InvalidRecipes : PySem.W.isClsIn K C_InvalidRecipes = true)
    (ty_InvalidRecipes : PySem.W.typeIn K (.ref C_InvalidRecipes) = some (.type "type"))
    (aC_InvalidRequests : PySem.W.nsIn K mainGlobals "InvalidRequests" = some (some (.ref C_InvalidRequests)))
    (ic_InvalidRequests : PySem.W.isClsIn K C_InvalidRequests = true)
    (ty_InvalidRequests : PySem.W.typeIn K (.ref C_InvalidRequests) = some (.type "type"))
    (aC_InvalidPrices : PySem.W.nsIn K mainGlobals "InvalidPrices" = some (some (.ref C_InvalidPrices)))
    (ic_InvalidPrices : PySem.W.isClsIn K C_InvalidPrices = true)
    (ty_InvalidPrices : PySem.W.typeIn K (.ref C_InvalidPrices) = some (.type "type"))
    (aC_InvalidPlan : PySem.W.nsIn K mainGlobals "InvalidPlan" = some (some (.ref C_InvalidPlan)))
    (ic_InvalidPlan : PySem.W.isClsIn K C_InvalidPlan = true)
    (ty_InvalidPlan : PySem.W.typeIn K (.ref C_InvalidPlan) = some (.type "type"))
    (aC_PowerFailed : PySem.W.nsIn K mainGlobals "PowerFailed" = some (some (.ref C_PowerFailed)))
    (ic_PowerFailed : PySem.W.isClsIn K C_PowerFailed = true)
    (ty_PowerFailed : PySem.W.typeIn K (.ref C_PowerFailed) = some (.type "type"))
    (aC_InvalidOperation : PySem.W.nsIn K mainGlobals "InvalidOperation" = some (some (.ref C_InvalidOperation)))
    (ic_InvalidOperation : PySem.W.isClsIn K C_InvalidOperation = true)
    (ty_InvalidOperation : PySem.W.typeIn K (.ref C_InvalidOperation) = some (.type "type"))
    (aC_NotationError : PySem.W.nsIn K mainGlobals "NotationError" = some (some (.ref C_NotationError)))
    (ic_NotationError : PySem.W.isClsIn K C_NotationError = true)
    (ty_NotationError : PySem.W.typeIn K (.ref C_NotationError) = some (.type "type"))
    (aC_DecodeError : PySem.W.nsIn K mainGlobals "DecodeError" = some (some (.ref C_DecodeError)))
    (ic_DecodeError : PySem.W.isClsIn K C_DecodeError = true)
    (ty_DecodeError : PySem.W.typeIn K (.ref C_DecodeError) = some (.type "type"))
    (aC_PairError : PySem.W.nsIn K mainGlobals "PairError" = some (some (.ref C_PairError)))
    (ic_PairError : PySem.W.isClsIn K C_PairError = true)
    (ty_PairError : PySem.W.typeIn K (.ref C_PairError) = some (.type "type"))
    (pb : PySem.W.subIn K (.ref C_PairError) (.type "BaseException") = some true)
    (ph : PySem.W.hasDictIn K C_PairError = true)
    (xn : PySem.W.specialIn K (.builtin "object.__class__") "__get__" = some (some (.builtin "getset_descriptor.__get__")))
    (xt : PySem.W.takesIn K (.builtin "object.__class__") = some true)
    (sb_InvalidPrices_InvalidSize : PySem.W.subIn K (.ref C_InvalidPrices) (.ref C_InvalidSize) = some false)
    (sb_InvalidPrices_InvalidCell : PySem.W.subIn K (.ref C_InvalidPrices) (.ref C_InvalidCell) = some false)
    (sb_InvalidPrices_InvalidKept : PySem.W.subIn K (.ref C_InvalidPrices) (.ref C_InvalidKept) = some false)
    (sb_InvalidPrices_InvalidBlock : PySem.W.subIn K (.ref C_InvalidPrices) (.ref C_InvalidBlock) = some false)
    (sb_InvalidPrices_InvalidValue : PySem.W.subIn K (.ref C_InvalidPrices) (.ref C_InvalidValue) = some false)
    (sb_InvalidPrices_InvalidCount : PySem.W.subIn K (.ref C_InvalidPrices) (.ref C_InvalidCount) = some false)
    (sb_InvalidPrices_InvalidSlot : PySem.W.subIn K (.ref C_InvalidPrices) (.ref C_InvalidSlot) = some false)
    (sb_InvalidPrices_InvalidWord : PySem.W.subIn K (.ref C_InvalidPrices) (.ref C_InvalidWord) = some false)
    (sb_InvalidPrices_InvalidStory : PySem.W.subIn K (.ref C_InvalidPrices) (.ref C_InvalidStory) = some false)
    (sb_InvalidPrices_PowerOff : PySem.W.subIn K (.ref C_InvalidPrices) (.ref C_PowerOff) = some false)
    (sb_InvalidPrices_PowerOn : PySem.W.subIn K (.ref C_InvalidPrices) (.ref C_PowerOn) = some false)
    (sb_InvalidPrices_NoFastDisk : PySem.W.subIn K (.ref C_InvalidPrices) (.ref C_NoFastDisk) = some false)
    (sb_InvalidPrices_HasFastDisk : PySem.W.subIn K (.ref C_InvalidPrices) (.ref C_HasFastDisk) = some false)
    (sb_InvalidPrices_Unsettled : PySem.W.subIn K (.ref C_InvalidPrices) (.ref C_Unsettled) = some false)
    (sb_InvalidPrices_Contradiction : PySem.W.subIn K (.ref C_InvalidPrices) (.ref C_Contradiction) = some false)
    (sb_InvalidPrices_InvalidName : PySem.W.subIn K (.ref C_InvalidPrices) (.ref C_InvalidName) = some false)
    (sb_InvalidPrices_UnknownName : PySem.W.subIn K (.ref C_InvalidPrices) (.ref C_UnknownName) = some false)
    (sb_InvalidPrices_InvalidRules : PySem.W.subIn K (.ref C_InvalidPrices) (.ref C_InvalidRules) = some false)
    (sb_InvalidPrices_InvalidRecipes : PySem.W.subIn K (.ref C_InvalidPrices) (.ref C_InvalidRecipes) = some false)
    (sb_InvalidPrices_InvalidRequests : PySem.W.subIn K (.ref C_InvalidPrices) (.ref C_InvalidRequests) = some false)
    (sb_InvalidPrices_InvalidPrices : PySem.W.subIn K (.ref C_InvalidPrices) (.ref C_InvalidPrices) = some true)
    (sb_InvalidPrices_InvalidPlan : PySem.W.subIn K (.ref C_InvalidPrices) (.ref C_InvalidPlan) = some false)
    (sb_InvalidPrices_PowerFailed : PySem.W.subIn K (.ref C_InvalidPrices) (.ref C_PowerFailed) = some false)
    (sb_InvalidPrices_InvalidOperation : PySem.W.subIn K (.ref C_InvalidPrices) (.ref C_InvalidOperation) = some false)
    (sb_InvalidPrices_NotationError : PySem.W.subIn K (.ref C_InvalidPrices) (.ref C_NotationError) = some false)
    (sb_InvalidPrices_DecodeError : PySem.W.subIn K (.ref C_InvalidPrices) (.ref C_DecodeError) = some false)
    (sb_InvalidPrices_PairError : PySem.W.subIn K (.ref C_InvalidPrices) (.ref C_PairError) = some true)
    (vb_InvalidPrices : PySem.W.subIn K (.ref C_InvalidPrices) (.type "ValueError") = some true)
    (xg_InvalidPrices : PySem.W.findIn K (.ref C_InvalidPrices) "__getattribute__" = some (some (.builtin "BaseException.__getattribute__")))
    (xk_InvalidPrices : PySem.W.findIn K (.ref C_InvalidPrices) "__getattr__" = some none)
    (xs_InvalidPrices : PySem.W.subIn K (.ref C_InvalidPrices) (.type "BaseException") = some true)
    (xd_InvalidPrices : PySem.W.hasDictIn K C_InvalidPrices = true)
    (xa_InvalidPrices : PySem.W.findIn K (.ref C_InvalidPrices) "__class__" = some (some (.builtin "object.__class__")))
    (xm_InvalidPrices : PySem.W.mroIn K C_InvalidPrices (.type "object") = some true)
    (kp_InvalidPrices : PySem.W.keepIn K (.ref C_InvalidPrices) = true)
    {vs_InvalidPrices___init__ : Array Value} {tf_InvalidPrices___init__ : Tok}
    (iC_InvalidPrices : PySem.W.findIn K (.ref C_InvalidPrices) "__init__" = some (some (.ref f_InvalidPrices___init__)))
    (l_InvalidPrices___init__ : K.lookup f_InvalidPrices___init__ = some ⟨oc_InvalidPrices___init__, od_InvalidPrices___init__, .func (PySem.W.ksFn "__init__" "InvalidPrices.__init__" (defArgs s_InvalidPrices___init__) (defBody s_InvalidPrices___init__) (defScope s_InvalidPrices___init__) .none kV_InvalidPrices___init__ dc_InvalidPrices___init__ pm_InvalidPrices___init__ an_InvalidPrices___init__ (.ref cda_InvalidPrices___init__) ct_InvalidPrices___init__ cc_InvalidPrices___init__), sl_InvalidPrices___init__⟩)
    (c_InvalidPrices___init__ : PySem.W.codeIn K (.ref cda_InvalidPrices___init__) "InvalidPrices.__init__" = true)
    (k_InvalidPrices___init__ : PySem.W.keepIn K (.ref f_InvalidPrices___init__) = true)
    (lc_InvalidPrices___init__ : K.lookup cda_InvalidPrices___init__ = some ⟨cl_InvalidPrices___init__, cdd_InvalidPrices___init__, .fields vs_InvalidPrices___init__, csl_InvalidPrices___init__⟩)
    (fi_InvalidPrices___init__ : vs_InvalidPrices___init__[2]? = some (.str file tf_InvalidPrices___init__))
    (lcc_InvalidPrices___init__ : K.lookup cc_InvalidPrices___init__ = some ⟨ec_InvalidPrices___init__, ed_InvalidPrices___init__, .cell (some (.ref C_InvalidPrices)), es_InvalidPrices___init__⟩)
    {nm_InvalidPrices q_InvalidPrices : Str} {N_InvalidPrices : Addr} {bs_InvalidPrices bm_InvalidPrices : List Value} {sn_InvalidPrices : List Str} {sbs_InvalidPrices : List Value} {ab_InvalidPrices : Bool} {col_InvalidPrices : Option Bool} {dd_InvalidPrices : Option Addr} {k0_InvalidPrices k1_InvalidPrices k2_InvalidPrices k3_InvalidPrices k5_InvalidPrices : Option Value}
    (ob_InvalidPrices : K.lookup C_InvalidPrices = some (excClassObj nm_InvalidPrices q_InvalidPrices C_InvalidPrices N_InvalidPrices bs_InvalidPrices bm_InvalidPrices true sn_InvalidPrices sbs_InvalidPrices ab_InvalidPrices col_InvalidPrices dd_InvalidPrices k0_InvalidPrices k1_InvalidPrices k2_InvalidPrices k3_InvalidPrices k5_InvalidPrices "ValueError.__new__"))
    (rv_InvalidPrices : PySem.HandSPX.refsVE bm_InvalidPrices = true)
    (sa_InvalidPrices : PySem.W.findIn K (.ref C_InvalidPrices) "__setattr__" = some (some (.builtin "object.__setattr__")))
    (tI_InvalidPrices : PySem.W.typeIn K (.ref f_InvalidPrices___init__) = some (.type "function"))
    (mr_InvalidPrices : PySem.W.mroIn K C_InvalidPrices (.ref C_InvalidPrices) = some true)
    (su_InvalidPrices : PySem.W.ks_superIn K C_InvalidPrices C_InvalidPrices "__init__" = some (some (.builtin "ValueError.__init__")))
    (no_InvalidPrices_index : PySem.W.findIn K (.ref C_InvalidPrices) "index" = some none)
    (fl : ((l.prog.main.file : Str) == file) = true) (stop : (l.prog.main.scope.names.lookup ("super" : Str)).isSome = false)
    : LawAtS l w K C8.CX0 14 63 "_law_script" mg fa h := by
  have G := TT.g
  have e := hfa.symm.trans (mg_of X G a_law)
  cases e
  obtain ⟨T, hT⟩ : ∃ T : Gx K mg, T.file = file := ⟨{
    f_is_number := f_is_number, fd_is_number := _,
    F_is_number := fun_mk (st := s_is_number) l_is_number c_is_number k_is_number,
    g_is_number := PySem.W.mg_of X G a_is_number,
    f_is_number_from := f_is_number_from, fd_is_number_from := _,
    F_is_number_from := fun_mk (st := s_is_number_from) l_is_number_from c_is_number_from k_is_number_from,
    g_is_number_from := PySem.W.mg_of X G a_is_number_from,
    f_cost := f_cost, fd_cost := _,
    F_cost := fun_mk (st := s_cost) l_cost c_cost k_cost,
    g_cost := PySem.W.mg_of X G a_cost,
    f_check_prices := f_check_prices, fd_check_prices := _,
    F_check_prices := fun_mk (st := s_check_prices) l_check_prices c_check_prices k_check_prices,
    g_check_prices := PySem.W.mg_of X G a_check_prices,
    f__law_random := f__law_random, fd__law_random := _,
    F__law_random := fun_mk (st := s__law_random) l__law_random c__law_random k__law_random,
    g__law_random := PySem.W.mg_of X G a__law_random,
    f__law_below := f__law_below, fd__law_below := _,
    F__law_below := fun_mk (st := s__law_below) l__law_below c__law_below k__law_below,
    g__law_below := PySem.W.mg_of X G a__law_below,
    f__law_equal := f__law_equal, fd__law_equal := _,
    F__law_equal := fun_mk (st := s__law_equal) l__law_equal c__law_equal k__law_equal,
    g__law_equal := PySem.W.mg_of X G a__law_equal,
    f__law_told_of := f__law_told_of, fd__law_told_of := _,
    F__law_told_of := fun_mk (st := s__law_told_of) l__law_told_of c__law_told_of k__law_told_of,
    g__law_told_of := PySem.W.mg_of X G a__law_told_of,
    f__law_error_of := f__law_error_of, fd__law_error_of := _,
    F__law_error_of := fun_mk (st := s__law_error_of) l__law_error_of c__law_error_of k__law_error_of,
    g__law_error_of := PySem.W.mg_of X G a__law_error_of,
    z_isinstance := PySem.W.mg_none_of X G z_isinstance,
    z_int := PySem.W.mg_none_of X G z_int,
    z_bool := PySem.W.mg_none_of X G z_bool,
    z_str := PySem.W.mg_none_of X G z_str,
    z_list := PySem.W.mg_none_of X G z_list,
    z_tuple := PySem.W.mg_none_of X G z_tuple,
    z_len := PySem.W.mg_none_of X G z_len,
    z_abs := PySem.W.mg_none_of X G z_abs,
    z_range := PySem.W.mg_none_of X G z_range,
    z_zip := PySem.W.mg_none_of X G z_zip,
    z_sum := PySem.W.mg_none_of X G z_sum,
    z_all := PySem.W.mg_none_of X G z_all,
    z_super := PySem.W.mg_none_of X G z_super,
    z_ValueError := PySem.W.mg_none_of X G z_ValueError,
    t_MANY_PRICES := t_MANY_PRICES, c_MANY_PRICES := PySem.W.mg_of X G c_MANY_PRICES,
    t_MOST_PRICE := t_MOST_PRICE, c_MOST_PRICE := PySem.W.mg_of X G c_MOST_PRICE,
    third := third,
    file := file,
    C_InvalidSize := C_InvalidSize, gC_InvalidSize := PySem.W.mg_of X G aC_InvalidSize,
    ic_InvalidSize := ic_InvalidSize,
    ty_InvalidSize := ty_InvalidSize,
    C_InvalidCell := C_InvalidCell, gC_InvalidCell := PySem.W.mg_of X G aC_InvalidCell,
    ic_InvalidCell := ic_InvalidCell,
    ty_InvalidCell := ty_InvalidCell,
    C_InvalidKept := C_InvalidKept, gC_InvalidKept := PySem.W.mg_of X G aC_InvalidKept,
    ic_InvalidKept := ic_InvalidKept,
    ty_InvalidKept := ty_InvalidKept,
    C_InvalidBlock := C_InvalidBlock, gC_InvalidBlock := PySem.W.mg_of X G aC_InvalidBlock,
    ic_InvalidBlock := ic_InvalidBlock,
    ty_InvalidBlock := ty_InvalidBlock,
    C_InvalidValue := C_InvalidValue, gC_InvalidValue := PySem.W.mg_of X G aC_InvalidValue,
    ic_InvalidValue := ic_InvalidValue,
    ty_InvalidValue := ty_InvalidValue,
    C_InvalidCount := C_InvalidCount, gC_InvalidCount := PySem.W.mg_of X G aC_InvalidCount,
    ic_InvalidCount := ic_InvalidCount,
    ty_InvalidCount := ty_InvalidCount,
    C_InvalidSlot := C_InvalidSlot, gC_InvalidSlot := PySem.W.mg_of X G aC_InvalidSlot,
    ic_InvalidSlot := ic_InvalidSlot,
    ty_InvalidSlot := ty_InvalidSlot,
    C_InvalidWord := C_InvalidWord, gC_InvalidWord := PySem.W.mg_of X G aC_InvalidWord,
    ic_InvalidWord := ic_InvalidWord,
    ty_InvalidWord := ty_InvalidWord,
    C_InvalidStory := C_InvalidStory, gC_InvalidStory := PySem.W.mg_of X G aC_InvalidStory,
    ic_InvalidStory := ic_InvalidStory,
    ty_InvalidStory := ty_InvalidStory,
    C_PowerOff := C_PowerOff, gC_PowerOff := PySem.W.mg_of X G aC_PowerOff,
    ic_PowerOff := ic_PowerOff,
    ty_PowerOff := ty_PowerOff,
    C_PowerOn := C_PowerOn, gC_PowerOn := PySem.W.mg_of X G aC_PowerOn,
    ic_PowerOn := ic_PowerOn,
    ty_PowerOn := ty_PowerOn,
    C_NoFastDisk := C_NoFastDisk, gC_NoFastDisk := PySem.W.mg_of X G aC_NoFastDisk,
    ic_NoFastDisk := ic_NoFastDisk,
    ty_NoFastDisk := ty_NoFastDisk,
    C_HasFastDisk := C_HasFastDisk, gC_HasFastDisk := PySem.W.mg_of X G aC_HasFastDisk,
    ic_HasFastDisk := ic_HasFastDisk,
    ty_HasFastDisk := ty_HasFastDisk,
    C_Unsettled := C_Unsettled, gC_Unsettled := PySem.W.mg_of X G aC_Unsettled,
    ic_Unsettled := ic_Unsettled,
    ty_Unsettled := ty_Unsettled,
    C_Contradiction := C_Contradiction, gC_Contradiction := PySem.W.mg_of X G aC_Contradiction,
    ic_Contradiction := ic_Contradiction,
    ty_Contradiction := ty_Contradiction,
    C_InvalidName := C_InvalidName, gC_InvalidName := PySem.W.mg_of X G aC_InvalidName,
    ic_InvalidName := ic_InvalidName,
    ty_InvalidName := ty_InvalidName,
    C_UnknownName := C_UnknownName, gC_UnknownName := PySem.W.mg_of X G aC_UnknownName,
    ic_UnknownName := ic_UnknownName,
    ty_UnknownName := ty_UnknownName,
    C_InvalidRules := C_InvalidRules, gC_InvalidRules := PySem.W.mg_of X G aC_InvalidRules,
    ic_InvalidRules := ic_InvalidRules,
    ty_InvalidRules := ty_InvalidRules,
    C_InvalidRecipes := C_InvalidRecipes, gC_InvalidRecipes := PySem.W.mg_of X G aC_InvalidRecipes,
    ic_InvalidRecipes := ic_InvalidRecipes,
    ty_InvalidRecipes := ty_InvalidRecipes,
    C_InvalidRequests := C_InvalidRequests, gC_InvalidRequests := PySem.W.mg_of X G aC_InvalidRequests,
    ic_InvalidRequests := ic_InvalidRequests,
    ty_InvalidRequests := ty_InvalidRequests,
    C_InvalidPrices := C_InvalidPrices, gC_InvalidPrices := PySem.W.mg_of X G aC_InvalidPrices,
    ic_InvalidPrices := ic_InvalidPrices,
    ty_InvalidPrices := ty_InvalidPrices,
    C_InvalidPlan := C_InvalidPlan, gC_InvalidPlan := PySem.W.mg_of X G aC_InvalidPlan,
    ic_InvalidPlan := ic_InvalidPlan,
    ty_InvalidPlan := ty_InvalidPlan,
    C_PowerFailed := C_PowerFailed, gC_PowerFailed := PySem.W.mg_of X G aC_PowerFailed,
    ic_PowerFailed := ic_PowerFailed,
    ty_PowerFailed := ty_PowerFailed,
    C_InvalidOperation := C_InvalidOperation, gC_InvalidOperation := PySem.W.mg_of X G aC_InvalidOperation,
    ic_InvalidOperation := ic_InvalidOperation,
    ty_InvalidOperation := ty_InvalidOperation,
    C_NotationError := C_NotationError, gC_NotationError := PySem.W.mg_of X G aC_NotationError,
    ic_NotationError := ic_NotationError,
    ty_NotationError := ty_NotationError,
    C_DecodeError := C_DecodeError, gC_DecodeError := PySem.W.mg_of X G aC_DecodeError,
    ic_DecodeError := ic_DecodeError,
    ty_DecodeError := ty_DecodeError,
    C_PairError := C_PairError, gC_PairError := PySem.W.mg_of X G aC_PairError,
    ic_PairError := ic_PairError,
    ty_PairError := ty_PairError,
    pb := pb,
    ph := ph,
    sb_InvalidPrices_InvalidSize := sb_InvalidPrices_InvalidSize,
    sb_InvalidPrices_InvalidCell := sb_InvalidPrices_InvalidCell,
    sb_InvalidPrices_InvalidKept := sb_InvalidPrices_InvalidKept,
    sb_InvalidPrices_InvalidBlock := sb_InvalidPrices_InvalidBlock,
    sb_InvalidPrices_InvalidValue := sb_InvalidPrices_InvalidValue,
    sb_InvalidPrices_InvalidCount := sb_InvalidPrices_InvalidCount,
    sb_InvalidPrices_InvalidSlot := sb_InvalidPrices_InvalidSlot,
    sb_InvalidPrices_InvalidWord := sb_InvalidPrices_InvalidWord,
    sb_InvalidPrices_InvalidStory := sb_InvalidPrices_InvalidStory,
    sb_InvalidPrices_PowerOff := sb_InvalidPrices_PowerOff,
    sb_InvalidPrices_PowerOn := sb_InvalidPrices_PowerOn,
    sb_InvalidPrices_NoFastDisk := sb_InvalidPrices_NoFastDisk,
    sb_InvalidPrices_HasFastDisk := sb_InvalidPrices_HasFastDisk,
    sb_InvalidPrices_Unsettled := sb_InvalidPrices_Unsettled,
    sb_InvalidPrices_Contradiction := sb_InvalidPrices_Contradiction,
    sb_InvalidPrices_InvalidName := sb_InvalidPrices_InvalidName,
    sb_InvalidPrices_UnknownName := sb_InvalidPrices_UnknownName,
    sb_InvalidPrices_InvalidRules := sb_InvalidPrices_InvalidRules,
    sb_InvalidPrices_InvalidRecipes := sb_InvalidPrices_InvalidRecipes,
    sb_InvalidPrices_InvalidRequests := sb_InvalidPrices_InvalidRequests,
    sb_InvalidPrices_InvalidPrices := sb_InvalidPrices_InvalidPrices,
    sb_InvalidPrices_InvalidPlan := sb_InvalidPrices_InvalidPlan,
    sb_InvalidPrices_PowerFailed := sb_InvalidPrices_PowerFailed,
    sb_InvalidPrices_InvalidOperation := sb_InvalidPrices_InvalidOperation,
    sb_InvalidPrices_NotationError := sb_InvalidPrices_NotationError,
    sb_InvalidPrices_DecodeError := sb_InvalidPrices_DecodeError,
    sb_InvalidPrices_PairError := sb_InvalidPrices_PairError,
    vb_InvalidPrices := vb_InvalidPrices,
    E_InvalidPrices := ⟨xg_InvalidPrices, xk_InvalidPrices, xs_InvalidPrices, xd_InvalidPrices, xa_InvalidPrices, xn, xt, xm_InvalidPrices⟩,
    kp_InvalidPrices := kp_InvalidPrices,
    iC_InvalidPrices := iC_InvalidPrices,
    f_InvalidPrices___init__ := f_InvalidPrices___init__, fd_InvalidPrices___init__ := _, cc_InvalidPrices___init__ := cc_InvalidPrices___init__, S_InvalidPrices___init__ := ⟨⟨oc_InvalidPrices___init__, od_InvalidPrices___init__, kV_InvalidPrices___init__, dc_InvalidPrices___init__, pm_InvalidPrices___init__, an_InvalidPrices___init__, cda_InvalidPrices___init__, ct_InvalidPrices___init__, sl_InvalidPrices___init__, cl_InvalidPrices___init__, cdd_InvalidPrices___init__, vs_InvalidPrices___init__, csl_InvalidPrices___init__, tf_InvalidPrices___init__, ec_InvalidPrices___init__, ed_InvalidPrices___init__, es_InvalidPrices___init__, rfl, l_InvalidPrices___init__, c_InvalidPrices___init__, lc_InvalidPrices___init__, fi_InvalidPrices___init__, lcc_InvalidPrices___init__⟩, k_InvalidPrices___init__⟩,
    O_InvalidPrices := ⟨⟨_, _, _, _, _, _, _, _, _, _, _, _, _, _, _, ob_InvalidPrices, rv_InvalidPrices⟩, sa_InvalidPrices, xs_InvalidPrices, ty_InvalidPrices, kp_InvalidPrices⟩,
    tI_InvalidPrices := tI_InvalidPrices,
    mr_InvalidPrices := mr_InvalidPrices,
    su_InvalidPrices := su_InvalidPrices,
    no_InvalidPrices_index := no_InvalidPrices_index }, rfl⟩
  have HP : ProgOk l.prog T.file := by
    rw [hT]
    exact ⟨fl, stop⟩
  exact lawat (fd := fnOf "law" "law" (defArgs s_law) (defBody s_law) (defScope s_law) .none kV_law dc_law pm_law an_law (.ref cda_law) ct_law) (sp := spLaw K P_law) TT X nt hrec (tabIn_of a_law l_law rfl lc_law tp_law) (fun s v => .of_eq rfl) (fun base _ _ TB => ok_law T HP l_law c_law TB) (fun H a ns hl hT hS => ⟨a, ns, rfl, hS, hl, hT, fun _ => rfl⟩)
end Kb
open PySem PySem.W PyProof.Rows in
set_option maxRecDepth 100000 in
set_option maxHeartbeats 0 in
theorem PySem.Challenge.cw_keepbefore_k54_prices_and_costs_holds : PySem.Challenge.rw_keepbefore_k54_prices_and_costs.Holds := by
  w_on; o_law; k_head; (case hw => w_witness2)
  k_fill
  refine Kb.walk_lam (l := PySem.Challenge.rw_keepbefore_k54_prices_and_costs) (n := 63) (k := 14) (x := "_law_script") rfl (by decide) rfl ⟨rfl, by decide, by decide⟩ (fun w h Y => by first | exact PySem.W.km_in_of Y | exact PySem.W.kIn_of Y) ?F
  case F =>
    intro w lo mean mg mb fa h KX TT hmg
    refine' Kb.all_mk TT KX hmg (by kernel_rfl) rfl ?a_is_number ?l_is_number ?c_is_number ?k_is_number ?a_is_number_from ?l_is_number_from ?c_is_number_from ?k_is_number_from ?a_cost ?l_cost ?c_cost ?k_cost ?a_check_prices ?l_check_prices ?c_check_prices ?k_check_prices ?a__law_random ?l__law_random ?c__law_random ?k__law_random ?a__law_below ?l__law_below ?c__law_below ?k__law_below ?a__law_equal ?l__law_equal ?c__law_equal ?k__law_equal ?a__law_told_of ?l__law_told_of ?c__law_told_of ?k__law_told_of ?a__law_error_of ?l__law_error_of ?c__law_error_of ?k__law_error_of ?a_law ?l_law ?c_law ?k_law ?lc_law ?tp_law ?z_isinstance ?z_int ?z_bool ?z_str ?z_list ?z_tuple ?z_len ?z_abs ?z_range ?z_zip ?z_sum ?z_all ?z_super ?z_ValueError ?c_MANY_PRICES ?c_MOST_PRICE ?third ?aC_InvalidSize ?ic_InvalidSize ?ty_InvalidSize ?aC_InvalidCell ?ic_InvalidCell ?ty_InvalidCell ?aC_InvalidKept ?ic_InvalidKept ?ty_InvalidKept ?aC_InvalidBlock ?ic_InvalidBlock ?ty_InvalidBlock ?aC_InvalidValue ?ic_InvalidValue ?ty_InvalidValue ?aC_InvalidCount ?ic_InvalidCount ?ty_InvalidCount ?aC_InvalidSlot ?ic_InvalidSlot ?ty_InvalidSlot ?aC_InvalidWord ?ic_InvalidWord ?ty_InvalidWord ?aC_InvalidStory ?ic_InvalidStory ?ty_InvalidStory ?aC_PowerOff ?ic_PowerOff ?ty_PowerOff ?aC_PowerOn ?ic_PowerOn ?ty_PowerOn ?aC_NoFastDisk ?ic_NoFastDisk ?ty_NoFastDisk ?aC_HasFastDisk ?ic_HasFastDisk ?ty_HasFastDisk ?aC_Unsettled ?ic_Unsettled ?ty_Unsettled ?aC_Contradiction ?ic_Contradiction ?ty_Contradiction ?aC_InvalidName ?ic_InvalidName ?ty_InvalidName ?aC_UnknownName ?ic_UnknownName ?ty_UnknownName ?aC_InvalidRules ?ic_InvalidRules ?ty_InvalidRules ?aC_InvalidRecipes ?ic_InvalidRecipes ?ty_InvalidRecipes ?aC_InvalidRequests ?ic_InvalidRequests ?ty_InvalidRequests ?aC_InvalidPrices ?ic_InvalidPrices ?ty_InvalidPrices ?aC_InvalidPlan ?ic_InvalidPlan ?ty_InvalidPlan ?aC_PowerFailed ?ic_PowerFailed ?ty_PowerFailed ?aC_InvalidOperation ?ic_InvalidOperation ?ty_InvalidOperation ?aC_NotationError ?ic_NotationError ?ty_NotationError ?aC_DecodeError ?ic_DecodeError ?ty_DecodeError ?aC_PairError ?ic_PairError ?ty_PairError ?pb ?ph ?xn ?xt ?sb_InvalidPrices_InvalidSize ?sb_InvalidPrices_InvalidCell ?sb_InvalidPrices_InvalidKept ?sb_InvalidPrices_InvalidBlock ?sb_InvalidPrices_InvalidValue ?sb_InvalidPrices_InvalidCount ?sb_InvalidPrices_InvalidSlot ?sb_InvalidPrices_InvalidWord ?sb_InvalidPrices_InvalidStory ?sb_InvalidPrices_PowerOff ?sb_InvalidPrices_PowerOn ?sb_InvalidPrices_NoFastDisk ?sb_InvalidPrices_HasFastDisk ?sb_InvalidPrices_Unsettled ?sb_InvalidPrices_Contradiction ?sb_InvalidPrices_InvalidName ?sb_InvalidPrices_UnknownName ?sb_InvalidPrices_InvalidRules ?sb_InvalidPrices_InvalidRecipes ?sb_InvalidPrices_InvalidRequests ?sb_InvalidPrices_InvalidPrices ?sb_InvalidPrices_InvalidPlan ?sb_InvalidPrices_PowerFailed ?sb_InvalidPrices_InvalidOperation ?sb_InvalidPrices_NotationError ?sb_InvalidPrices_DecodeError ?sb_InvalidPrices_PairError ?vb_InvalidPrices ?xg_InvalidPrices ?xk_InvalidPrices ?xs_InvalidPrices ?xd_InvalidPrices ?xa_InvalidPrices ?xm_InvalidPrices ?kp_InvalidPrices ?iC_InvalidPrices ?l_InvalidPrices___init__ ?c_InvalidPrices___init__ ?k_InvalidPrices___init__ ?lc_InvalidPrices___init__ ?fi_InvalidPrices___init__ ?lcc_InvalidPrices___init__ ?ob_InvalidPrices ?rv_InvalidPrices ?sa_InvalidPrices ?tI_InvalidPrices ?mr_InvalidPrices ?su_InvalidPrices ?no_InvalidPrices_index ?fl ?stop
    (case a_is_number => k_is)
    (case l_is_number => k_is)
    (case c_is_number => k_is)
    (case k_is_number => k_is)
    (case a_is_number_from => k_is)
    (case l_is_number_from => k_is)
    (case c_is_number_from => k_is)
    (case k_is_number_from => k_is)
    (case a_cost => k_is)
    (case l_cost => k_is)
    (case c_cost => k_is)
    (case k_cost => k_is)
    (case a_check_prices => k_is)
    (case l_check_prices => k_is)
    (case c_check_prices => k_is)
    (case k_check_prices => k_is)
    (case a__law_random => k_is)
    (case l__law_random => k_is)
    (case c__law_random => k_is)
    (case k__law_random => k_is)
    (case a__law_below => k_is)
    (case l__law_below => k_is)
    (case c__law_below => k_is)
    (case k__law_below => k_is)
    (case a__law_equal => k_is)
    (case l__law_equal => k_is)
    (case c__law_equal => k_is)
    (case k__law_equal => k_is)
    (case a__law_told_of => k_is)
    (case l__law_told_of => k_is)
    (case c__law_told_of => k_is)
    (case k__law_told_of => k_is)
    (case a__law_error_of => k_is)
    (case l__law_error_of => k_is)
    (case c__law_error_of => k_is)
    (case k__law_error_of => k_is)
    (case a_law => k_is)
    (case l_law => k_is)
    (case c_law => k_is)
    (case k_law => k_is)
    (case lc_law => k_is)
    (case tp_law => rfl)
    (case z_isinstance => k_is)
    (case z_int => k_is)
    (case z_bool => k_is)
    (case z_str => k_is)
    (case z_list => k_is)
    (case z_tuple => k_is)
    (case z_len => k_is)
    (case z_abs => k_is)
    (case z_range => k_is)
    (case z_zip => k_is)
    (case z_sum => k_is)
    (case z_all => k_is)
    (case z_super => k_is)
    (case z_ValueError => k_is)
    (case c_MANY_PRICES => k_is)
    (case c_MOST_PRICE => k_is)
    (case third => k_is)
    (case aC_InvalidSize => k_is)
    (case ic_InvalidSize => k_is)
    (case ty_InvalidSize => k_is)
    (case aC_InvalidCell => k_is)
    (case ic_InvalidCell => k_is)
    (case ty_InvalidCell => k_is)
    (case aC_InvalidKept => k_is)
    (case ic_InvalidKept => k_is)
    (case ty_InvalidKept => k_is)
    (case aC_InvalidBlock => k_is)
    (case ic_InvalidBlock => k_is)
    (case ty_InvalidBlock => k_is)
    (case aC_InvalidValue => k_is)
    (case ic_InvalidValue => k_is)
    (case ty_InvalidValue => k_is)
    (case aC_InvalidCount => k_is)
    (case ic_InvalidCount => k_is)
    (case ty_InvalidCount => k_is)
    (case aC_InvalidSlot => k_is)
    (case ic_InvalidSlot => k_is)
    (case ty_InvalidSlot => k_is)
    (case aC_InvalidWord => k_is)
    (case ic_InvalidWord => k_is)
    (case ty_InvalidWord => k_is)
    (case aC_InvalidStory => k_is)
    (case ic_InvalidStory => k_is)
    (case ty_InvalidStory => k_is)
    (case aC_PowerOff => k_is)
    (case ic_PowerOff => k_is)
    (case ty_PowerOff => k_is)
    (case aC_PowerOn => k_is)
    (case ic_PowerOn => k_is)
    (case ty_PowerOn => k_is)
    (case aC_NoFastDisk => k_is)
    (case ic_NoFastDisk => k_is)
    (case ty_NoFastDisk => k_is)
    (case aC_HasFastDisk => k_is)
    (case ic_HasFastDisk => k_is)
    (case ty_HasFastDisk => k_is)
    (case aC_Unsettled => k_is)
    (case ic_Unsettled => k_is)
    (case ty_Unsettled => k_is)
    (case aC_Contradiction => k_is)
    (case ic_Contradiction => k_is)
    (case ty_Contradiction => k_is)
    (case aC_InvalidName => k_is)
    (case ic_InvalidName => k_is)
    (case ty_InvalidName => k_is)
    (case aC_UnknownName => k_is)
    (case ic_UnknownName => k_is)
    (case ty_UnknownName => k_is)
    (case aC_InvalidRules => k_is)
    (case ic_InvalidRules => k_is)
    (case ty_InvalidRules => k_is)
    (case aC_InvalidRecipes => k_is)
    (case ic_InvalidRecipes => k_is)
    (case ty_InvalidRecipes => k_is)
    (case aC_InvalidRequests => k_is)
    (case ic_InvalidRequests => k_is)
    (case ty_InvalidRequests => k_is)
    (case aC_InvalidPrices => k_is)
    (case ic_InvalidPrices => k_is)
    (case ty_InvalidPrices => k_is)
    (case aC_InvalidPlan => k_is)
    (case ic_InvalidPlan => k_is)
    (case ty_InvalidPlan => k_is)
    (case aC_PowerFailed => k_is)
    (case ic_PowerFailed => k_is)
    (case ty_PowerFailed => k_is)
    (case aC_InvalidOperation => k_is)
    (case ic_InvalidOperation => k_is)
    (case ty_InvalidOperation => k_is)
    (case aC_NotationError => k_is)
    (case ic_NotationError => k_is)
    (case ty_NotationError => k_is)
    (case aC_DecodeError => k_is)
    (case ic_DecodeError => k_is)
    (case ty_DecodeError => k_is)
    (case aC_PairError => k_is)
    (case ic_PairError => k_is)
    (case ty_PairError => k_is)
    (case pb => k_is)
    (case ph => k_is)
    (case xn => k_is)
    (case xt => k_is)
    (case sb_InvalidPrices_InvalidSize => k_is)
    (case sb_InvalidPrices_InvalidCell => k_is)
    (case sb_InvalidPrices_InvalidKept => k_is)
    (case sb_InvalidPrices_InvalidBlock => k_is)
    (case sb_InvalidPrices_InvalidValue => k_is)
    (case sb_InvalidPrices_InvalidCount => k_is)
    (case sb_InvalidPrices_InvalidSlot => k_is)
    (case sb_InvalidPrices_InvalidWord => k_is)
    (case sb_InvalidPrices_InvalidStory => k_is)
    (case sb_InvalidPrices_PowerOff => k_is)
    (case sb_InvalidPrices_PowerOn => k_is)
    (case sb_InvalidPrices_NoFastDisk => k_is)
    (case sb_InvalidPrices_HasFastDisk => k_is)
    (case sb_InvalidPrices_Unsettled => k_is)
    (case sb_InvalidPrices_Contradiction => k_is)
    (case sb_InvalidPrices_InvalidName => k_is)
    (case sb_InvalidPrices_UnknownName => k_is)
    (case sb_InvalidPrices_InvalidRules => k_is)
    (case sb_InvalidPrices_InvalidRecipes => k_is)
    (case sb_InvalidPrices_InvalidRequests => k_is)
    (case sb_InvalidPrices_InvalidPrices => k_is)
    (case sb_InvalidPrices_InvalidPlan => k_is)
    (case sb_InvalidPrices_PowerFailed => k_is)
    (case sb_InvalidPrices_InvalidOperation => k_is)
    (case sb_InvalidPrices_NotationError => k_is)
    (case sb_InvalidPrices_DecodeError => k_is)
    (case sb_InvalidPrices_PairError => k_is)
    (case vb_InvalidPrices => k_is)
    (case xg_InvalidPrices => k_is)
    (case xk_InvalidPrices => k_is)
    (case xs_InvalidPrices => k_is)
    (case xd_InvalidPrices => k_is)
    (case xa_InvalidPrices => k_is)
    (case xm_InvalidPrices => k_is)
    (case kp_InvalidPrices => k_is)
    (case iC_InvalidPrices => k_is)
    (case l_InvalidPrices___init__ => k_is)
    (case c_InvalidPrices___init__ => k_is)
    (case k_InvalidPrices___init__ => k_is)
    (case lc_InvalidPrices___init__ => k_is)
    (case fi_InvalidPrices___init__ => rfl)
    (case lcc_InvalidPrices___init__ => k_is)
    (case ob_InvalidPrices => k_is)
    (case rv_InvalidPrices => rfl)
    (case sa_InvalidPrices => k_is)
    (case tI_InvalidPrices => k_is)
    (case mr_InvalidPrices => k_is)
    (case su_InvalidPrices => ks_is)
    (case no_InvalidPrices_index => k_is)
    (case fl => first | rfl | decide +kernel)
    (case stop => first | rfl | decide +kernel)
