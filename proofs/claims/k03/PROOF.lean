import PyProof.Rows.All
import Wide.All
import OpenK.AllK
import Wide.FinOn
import HandS.ForMost
import HandS.Defaults
import HandS.Property
import HandS.IsInst
import HandS.Conv
import HandS.Codes
import HandS.MakeKwOnly
import HandS.GenYield
import HandS.TupMul
import HandS.Nested
import HandS.ExcInit
import HandS.ExcField
import HandS.ExcIs
import HandS.FStr
import HandS.WordsExc
import HandS.TryOnly
import KE.KExcSuper
import KE.KExcIs
import HandS.ExcSuper
import HandS.HotCalls
import HandS.ExcInitHot
import HandS.NestedHot
import HandS.ClsMeth
import HandS.EndTab
import HandS.EndBits
import HandS.StrSplit
import HandS.Strs
import HandS.Deep
import PySem.Challenge.RW_keepbefore_k03_invalid_disks
set_option Elab.async false
set_option linter.all false
set_option maxRecDepth 100000
set_option maxHeartbeats 4000000
namespace Kb
open PySem L2
/-! ### heaps and frames -/
/-- outside S all that was tracked is as it was -/
def Fr (S : List Addr) (H H' : Hp) : Prop := ∀ b o, H b = some o → b ∉ S → H' b = some o
theorem Fr.refl (S : List Addr) (H : Hp) : Fr S H H := fun _ _ h _ => h
theorem Fr.trans {S : List Addr} {H H1 H2 : Hp} (a : Fr S H H1) (b : Fr S H1 H2) : Fr S H H2 := fun c o h n => b c o (a c o h n) n
theorem Fr.mono {S T : List Addr} {H H' : Hp} (a : Fr S H H') (h : ∀ b ∈ S, b ∈ T) : Fr T H H' := fun b o e n => a b o e (fun z => n (h b z))
theorem Fr.put {S : List Addr} {H : Hp} {a : Addr} {o : HO} (h : a ∈ S) : Fr S H (upd H a o) := fun b u e n => by
  rw [upd_ne (fun z => n (by rw [z]; exact h))]
  exact e
theorem Fr.new {S : List Addr} {H : Hp} {p : Addr} {o : HO} (h : H p = none) : Fr S H (upd H p o) := fun b u e _ => by
  rw [upd_ne (ne_of_none e h)]
  exact e
theorem Fr.nil_of {S : List Addr} {H H' : Hp} (a : Fr [] H H') : Fr S H H' := a.mono (fun _ h => by cases h)
theorem Fr.at_ {S : List Addr} {H H' : Hp} {b : Addr} {o : HO} (f : Fr S H H') (e : H b = some o) (n : b ∉ S) : H' b = some o := f b o e n
theorem fresh_out {H : Hp} {b : Addr} {o : HO} {p : Addr} (e : H b = some o) (n : H p = none) : b ≠ p := ne_of_none e n
/-- S and T share nothing -/
def Sep (S T : List Addr) : Prop := ∀ b ∈ S, b ∉ T
theorem Sep.symm {S T : List Addr} (h : Sep S T) : Sep T S := fun b hb hs => h b hs hb
/-- what owns S' came of S or is new, and so is apart from what stood in H -/
theorem Sep.grow {H : Hp} {S S' T : List Addr} (h : Sep S T) (g : ∀ b ∈ S', b ∈ S ∨ H b = none) (t : ∀ b ∈ T, ∃ o, H b = some o) : Sep S' T := fun b hb ht => by
  rcases g b hb with z | z
  · exact h b z ht
  · obtain ⟨o, e⟩ := t b ht
    rw [z] at e
    cases e
theorem vlen {α β : Type} {xs : List α} {f : α → β} : (xs.map f).length = xs.length := List.length_map f
theorem sz_le {n : Nat} (h : n ≤ 100000) : n ≤ sizeLine := Nat.le_trans h (by decide)
theorem sz_lt {n : Nat} (h : n < 100000) : n < sizeLine := Nat.lt_of_lt_of_le h (by decide)
theorem ix_at {n : Nat} (j : Nat) (h : j < n) : ixN n (j : Int) = some j := by
  unfold ixN
  rw [if_pos (Int.natCast_nonneg j), if_pos (by omega)]
  rfl
theorem free_upd {H : Hp} {a p : Addr} {o : HO} (h : upd H a o p = none) : H p = none ∧ p ≠ a := by
  by_cases e : p = a
  · rw [e, upd_same] at h
    cases h
  · rw [upd_ne e] at h
    exact ⟨h, e⟩
theorem int_at {ns : List Int} {i : Nat} {x : V} (h : (ns.map V.int)[i]? = some x) : ∃ u, x = V.int u ∧ ns[i]? = some u := by
  rw [List.getElem?_map] at h
  cases e : ns[i]? with
  | none =>
    rw [e] at h
    cases h
  | some u =>
    rw [e] at h
    exact ⟨u, (Option.some.inj h).symm, rfl⟩
theorem lt_of_at {α : Type} {xs : List α} {i : Nat} {x : α} (h : xs[i]? = some x) : i < xs.length := (List.getElem?_eq_some_iff.mp h).1
theorem Fr.seq {K : PySem.W.Frag} {S : List Addr} {H H' : Hp} {a : Addr} {xs : List V} (f : Fr S H H') (n : a ∉ S) (h : SqL K H a xs) : SqL K H' a xs := by
  rcases h with (h | ⟨o, h⟩) | h
  · exact .inl (.inl (f _ _ h n))
  · exact .inl (.inr ⟨o, f _ _ h n⟩)
  · exact .inr h
theorem Fr.tup {K : PySem.W.Frag} {S : List Addr} {H H' : Hp} {a : Addr} {xs : List V} (f : Fr S H H') (n : a ∉ S) (h : SqT K H a xs) : SqT K H' a xs := by
  rcases h with (h | ⟨o, h⟩) | h
  · exact .inl (.inl (f _ _ h n))
  · exact .inl (.inr ⟨o, f _ _ h n⟩)
  · exact .inr h
/-! ### lambdas as values: with no parameter, or one that falls back on a number -/
section
open PySem.Spec PySem.Calls PySem.W PyProof.Rows LamX NdefX
/-- the words of a lambda, the cells that it captured, its code object, the tuple of what its parameter falls back on -/
structure LF where
  qual : Str
  params : Arguments
  body : Expr
  scope : Scope
  cl : List (Str × Addr)
  c : Addr
  df : Option Addr
def dfV : Option Addr → Value
  | none => .none
  | some t => .ref t
abbrev LF.fd (F : LF) (pm ct : Value) : FuncData :=
  { name := "<lambda>", qualname := F.qual, params := F.params, body := .expr F.body, scope := F.scope, globals := mainGlobals, closure := F.cl, defaults := dfV F.df, kwdefaults := .none, doc := .none, pyModule := pm, annotations := none, code := .ref F.c, closureTuple := ct, builtins := builtinsNs }
def LamO (f : Addr) (F : LF) : HO := .ext fun h => ∃ (od : Option Addr) (sl : Array (Option Value)) (pm ct : Value), h.get? f = some (⟨.type "function", od, .func (F.fd pm ct), sl⟩ : Obj)
theorem LamO.ne {f : Addr} {F : LF} (ps : Array Value) : LamO f F ≠ .tbl ps := fun z => by
  unfold LamO at z
  cases z
theorem LamO.at_ {P : Program} {w : World} {H : Hp} {h : Heap} {f : Addr} {F : LF} (hok : HOk P w H h) (e : H f = some (LamO f F)) : ∃ (od : Option Addr) (sl : Array (Option Value)) (pm ct : Value), h.get? f = some (⟨.type "function", od, .func (F.fd pm ct), sl⟩ : Obj) := (hok f _ e).1
/-- all of it stands -/
structure Lv (f : Addr) (F : LF) (H : Hp) : Prop where
  fn : H f = some (LamO f F)
  co : H F.c = some (CodeO F.c F.qual)
  df : ∀ t, F.df = some t → H t = some (.tup [.int 0])
theorem Lv.keep {f : Addr} {F : LF} {H H' : Hp} (L : Lv f F H) (e : ∀ b o, H b = some o → (∀ xs, o ≠ .lst xs) → (∀ ps, o ≠ .tbl ps) → (∀ C dx fs, o ≠ .ins C dx fs) → H' b = some o) : Lv f F H' :=
  ⟨e _ _ L.fn (fun _ z => by unfold LamO at z; cases z) (fun _ => LamO.ne _) (fun _ _ _ z => by unfold LamO at z; cases z), e _ _ L.co (fun _ z => by unfold CodeO at z; cases z) (fun _ => codeO_ne _) (fun _ _ _ z => by unfold CodeO at z; cases z),
    fun t h => e _ _ (L.df t h) (fun _ z => by cases z) (fun _ z => by cases z) (fun _ _ _ z => by cases z)⟩
section
variable {M : Model} {A : Around} {E : Value → Shared → Prop} {s : Shared} {q : Str} {params : Arguments} {body : Expr} {scope : Scope} {env : Env} {c P : Addr} {ps : Array Value} {pos : Pos} {ln : Nat} {mg : Str → Option Value} {clos : List (Str × Addr)} {Q : Value → Shared → Prop} {d : Option Addr}
theorem lam_tail (hcl : closureFor scope env = pure clos) (hge : env.globals = mainGlobals) (hg : s.heap.Ns mainGlobals mg) (hcode : env.code = .ref c) (C : CodeHd s.heap c P) (hP : s.heap.get? P = some { cls := .none, data := .fields ps }) (ht : TriplesOk ps.toList) (hgP : mainGlobals ≠ P) (hb : s.heap.BuiltinsAt mg P)
    (hit : ∀ cv, codeAmong pos ps.toList = some cv → ∀ (ct : Value) (h' : Heap) (tk : Tok) (fd : FuncData), (∀ b o, s.heap.get? b = some o → h'.get? b = some o) → s.heap.objs.size ≤ h'.objs.size →
      fd = { name := "<lambda>", qualname := q, params := params, body := .expr body, scope := scope, globals := mainGlobals, closure := clos, defaults := dfV d, kwdefaults := .none, doc := .none, pyModule := (mg "__name__").getD .none, annotations := none, code := cv, closureTuple := ct, builtins := builtinsNs } →
      Q (.ref h'.objs.size) { s with heap := h'.push { cls := .type "function", data := .func fd }, toks := tk })
    (new : codeAmong pos ps.toList = none → ∀ (c' : Addr) (ct : Value) (h' : Heap) (tk : Tok) (fd : FuncData), Heap.ExtBut P s.heap h' → s.heap.objs.size ≤ c' → c' < h'.objs.size → h'.CodeRec (.ref c') q → h'.get? P = some { cls := .none, data := .fields (ps ++ #[rawInt pos.line, rawInt pos.col, .ref c']) } →
      fd = { name := "<lambda>", qualname := q, params := params, body := .expr body, scope := scope, globals := mainGlobals, closure := clos, defaults := dfV d, kwdefaults := .none, doc := .none, pyModule := (mg "__name__").getD .none, annotations := none, code := .ref c', closureTuple := ct, builtins := builtinsNs } →
      Q (.ref h'.objs.size) { s with heap := h'.push { cls := .type "function", data := .func fd }, toks := tk }) :
    wpAny M A (makeTail "<lambda>" q params (.expr body) scope env (dfV d) .none none pos ln) Q E s := by
  obtain ⟨bm, ob, hbm, hne0, _, hneP, hbo, hcls, hdict, hdata⟩ := hb
  have up : ∀ (o : Obj) b u, s.heap.get? b = some u → (s.heap.push o).get? b = some u := fun o b u e => Heap.get?_push_of_some o e
  unfold makeTail
  rw [hcl, hge]
  apply wpAny_bind
  apply wpAny_pure
  cases hc : codeAmong pos ps.toList with
  | some cv =>
    by_cases hk : clos.isEmpty = true
    · simp only [hk, if_true]
      apply wpAny_bind; apply wpAny_pure
      apply wpAny_bind; apply wpAny_functionCode_hit hcode (C.code hP ht) hc
      apply wpAny_bind; apply wpAny_builtinsFor hg hbm hne0 hbo hcls hdict hdata
      apply wpAny_bind; apply wpAny_nsGet hg
      apply wpAny_bind; apply wpAny_pure
      exact wpAny_newObj_type (hit cv hc _ s.heap s.toks _ (fun _ _ e => e) (Nat.le_refl _) rfl) (by size_fits)
    · simp only [Bool.not_eq_true] at hk
      simp only [hk, Bool.false_eq_true, if_false]
      apply wpAny_bind; apply wpAny_newTextTuple
      apply wpAny_bind; apply wpAny_functionCode_hit hcode ((C.keeps (up _)).code (up _ _ _ hP) ht) hc
      apply wpAny_bind; apply wpAny_builtinsFor (hg.push _) hbm hne0 (up _ _ _ hbo) hcls hdict hdata
      apply wpAny_bind; apply wpAny_nsGet (hg.push _)
      apply wpAny_bind; apply wpAny_pure
      exact wpAny_newObj_type (hit cv hc _ _ s.toks _ (up _) (by rw [Heap.size_push]; exact Nat.le_succ _) rfl) (by size_fits)
  | none =>
    by_cases hk : clos.isEmpty = true
    · simp only [hk, if_true]
      apply wpAny_bind; apply wpAny_pure
      apply wpAny_bind
      refine wpAny_functionCodeX hcode (C.code hP ht) (C.tab hP) hc fun c' h' tk hx l1 l2 _ hrec htb _ => ?_
      apply wpAny_bind; apply wpAny_builtinsFor (hg.extBut hx hgP) hbm hne0 (hx _ _ hneP hbo) hcls hdict hdata
      apply wpAny_bind; apply wpAny_nsGet (hg.extBut hx hgP)
      apply wpAny_bind; apply wpAny_pure
      exact wpAny_newObj_type (new hc c' _ h' tk _ hx l1 l2 hrec htb.2 rfl) (by size_fits)
    · simp only [Bool.not_eq_true] at hk
      simp only [hk, Bool.false_eq_true, if_false]
      apply wpAny_bind; apply wpAny_newTextTuple
      apply wpAny_bind
      refine wpAny_functionCodeX hcode ((C.keeps (up _)).code (up _ _ _ hP) ht) ((C.keeps (up _)).tab (up _ _ _ hP)) hc fun c' h' tk hx l1 l2 _ hrec htb _ => ?_
      have hx' : Heap.ExtBut P s.heap h' := fun b o hb e => hx b o hb (up _ _ _ e)
      apply wpAny_bind; apply wpAny_builtinsFor ((hg.push _).extBut hx hgP) hbm hne0 (hx' _ _ hneP hbo) hcls hdict hdata
      apply wpAny_bind; apply wpAny_nsGet ((hg.push _).extBut hx hgP)
      apply wpAny_bind; apply wpAny_pure
      exact wpAny_newObj_type (new hc c' _ h' tk _ hx' (Nat.le_trans (by rw [Heap.size_push]; exact Nat.le_succ _) l1) l2 hrec htb.2 rfl) (by size_fits)
end
end
section
open PySem.Spec PySem.Calls PySem.W PyProof.Rows LamX NdefX
section
variable {X : Cx} {pins : List (Addr × Obj)} {σ : L2.St} {H : Hp} {s : Shared}
theorem inv_lam {F : LF} {o : Obj} {tk : Nat} {pm ct : Value} (I : Inv X pins σ H s) (ho : o = { cls := .type "function", data := .func (F.fd pm ct) }) :
    Inv X pins σ (upd H s.heap.objs.size (LamO s.heap.objs.size F)) { s with heap := s.heap.push o, toks := tk } := by
  cases ho
  have e : (s.heap.push ({ cls := .type "function", data := .func (F.fd pm ct) } : Obj)).get? s.heap.objs.size = some ({ cls := .type "function", data := .func (F.fd pm ct) } : Obj) := Heap.get?_push_size _ rfl
  exact I.laid (a := s.heap.objs.size) (fun b u z => Heap.get?_push_of_some _ z) (Nat.le_refl _) ⟨⟨_, _, pm, ct, e⟩, ⟨_, e⟩, fun h1 h2 ⟨od, sl, p, t, z⟩ st => ⟨od, sl, p, t, st _ z⟩⟩
/-- the making of the function's object, the fallback tuple (if any) laid before -/
theorem lam_make {T : List NTab} {nm : Nat → Nat → Str} {c P : Addr} {params : Arguments} {body : Expr} {scope : Scope} {pos : Pos} {d : Option Addr} {ln : Nat} {E : Value → Shared → Prop} {Q : Value → Shared → Prop} (I : Inv X pins σ H s) (TB : TabB X.base X.mg c P) (hcode : X.env.code = .ref c)
    (hm : (P, nm) ∈ T) (hn : nm pos.line pos.col = X.env.qual ++ "<lambda>") (hu : ∀ p ∈ T, p.1 = P → p.2 = nm) (hT : TabsN T H) (hfree : ∀ y ∈ scope.names, y.2 = .free → ∃ c, X.env.cells.lookup y.1 = some c) (hd : ∀ t, d = some t → H t = some (.tup [.int 0]))
    (h : ∀ (f : Addr) (F : LF) (H1 : Hp) (s' : Shared), F.qual = X.env.qual ++ "<lambda>" → F.params = params → F.body = body → F.scope = scope → F.cl = cloFrom X.env.cells scope.names [] → F.df = d → Inv X pins σ H1 s' → ExtN H H1 → TabsN T H1 → H f = none → Lv f F H1 → Q (.ref f) s') :
    wpAny (model X.prog X.w) X.A (makeTail "<lambda>" (X.env.qual ++ "<lambda>") params (.expr body) scope X.env (dfV d) .none none pos ln) Q E s := by
  obtain ⟨ps, hP, ht, ha⟩ := (show TabN H P nm from hT _ hm)
  have hP' : s.heap.get? P = some { cls := .none, data := .fields ps } := I.hok P _ hP
  refine lam_tail (c := c) (P := P) (ps := ps) (mg := X.mg) (closure_ok hfree) I.ok.glob (I.mod.glob.keeps I.bk) hcode (TB.code.keeps I.bk) hP' ht TB.gP (TB.bm.keeps I.bk) (fun cv hc ct h' tk fd kp hz efd => ?_) fun hc c' ct h' tk fd hx l1 l2 hrec htb efd => ?_
  · obtain ⟨c', rfl, hco⟩ := ha pos cv hc
    rw [hn] at hco
    have I1 : Inv X pins σ H { s with heap := h', toks := tk } := I.kept kp
    have nF : H h'.objs.size = none := I1.hok.fresh (Nat.le_refl _)
    have I2 := inv_lam (F := ⟨X.env.qual ++ "<lambda>", params, body, scope, cloFrom X.env.cells scope.names [], c', d⟩) (o := { cls := .type "function", data := .func fd }) (tk := tk) (pm := (X.mg "__name__").getD .none) (ct := ct) I1 (by rw [efd])
    refine h h'.objs.size _ _ _ rfl rfl rfl rfl rfl rfl I2 (fun b o e n => (upd_ne (ne_of_none e nF)).trans e) (hT.ext fun b o e => (upd_ne (ne_of_none e nF)).trans e) nF ⟨upd_same, (upd_ne (ne_of_none hco nF)).trans hco, fun t et => (upd_ne (ne_of_none (hd t et) nF)).trans (hd t et)⟩
  · obtain ⟨c2, oc, vs, t, e2, hoc, hdt, hv⟩ := hrec
    cases e2
    have nC : H c' = none := I.hok.fresh l1
    have I1 := inv_table (t' := tk) (more := #[rawInt pos.line, rawInt pos.col, .ref c']) (h' := h') I hP (fun b o hb e => hx b o hb e) htb l1 ⟨oc, vs, t, hoc, hdt, hv⟩
    have hE : ExtN H (upd (upd H P (.tbl (ps ++ #[rawInt pos.line, rawInt pos.col, .ref c']))) c' (CodeO c' (X.env.qual ++ "<lambda>"))) := fun b o e n => by
      have nb : b ≠ P := fun z => n ps (Option.some.inj (e.symm.trans (by rw [z]; exact hP)))
      rw [upd_ne (ne_of_none e nC), upd_ne nb]
      exact e
    have eL : (ps ++ #[rawInt pos.line, rawInt pos.col, .ref c']).toList = ps.toList ++ [rawInt pos.line, rawInt pos.col, .ref c'] := by simp
    have T1 : TabsN T (upd (upd H P (.tbl (ps ++ #[rawInt pos.line, rawInt pos.col, .ref c']))) c' (CodeO c' (X.env.qual ++ "<lambda>"))) := fun p hp => by
      by_cases hb : p.1 = P
      · rw [hu p hp hb, hb]
        refine ⟨_, (upd_ne (ne_of_none hP nC)).trans upd_same, by rw [eL]; exact PySem.TriplesOk_snoc _ _ _ _ ht, fun p' cv hcv => ?_⟩
        rw [eL] at hcv
        rcases among_app2 _ ht hcv with z | ⟨z, z1, z2⟩
        · obtain ⟨c0, e1, e2⟩ := ha p' cv z
          exact ⟨c0, e1, hE _ _ e2 (codeO_ne)⟩
        · exact ⟨c', z, by rw [← z1, ← z2, hn]; exact upd_same⟩
      · obtain ⟨ps', a1, a2, a3⟩ := hT p hp
        refine ⟨ps', (upd_ne (ne_of_none a1 nC)).trans ((upd_ne hb).trans a1), a2, fun p' cv hcv => ?_⟩
        obtain ⟨c0, e1, e2⟩ := a3 p' cv hcv
        exact ⟨c0, e1, hE _ _ e2 (codeO_ne)⟩
    have nF := I1.hok.fresh (Nat.le_refl _)
    have I2 := inv_lam (F := ⟨X.env.qual ++ "<lambda>", params, body, scope, cloFrom X.env.cells scope.names [], c', d⟩) (o := { cls := .type "function", data := .func fd }) (tk := tk) (pm := (X.mg "__name__").getD .none) (ct := ct) I1 (by rw [efd])
    refine h h'.objs.size _ _ _ rfl rfl rfl rfl rfl rfl I2 (fun b o e n => (upd_ne (ne_of_none (hE b o e n) nF)).trans (hE b o e n)) (T1.ext fun b o e => (upd_ne (ne_of_none e nF)).trans e) (I.hok.fresh (Nat.le_trans l1 (Nat.le_of_lt l2))) ⟨upd_same, (upd_ne (Nat.ne_of_lt l2)).trans upd_same, fun t et => ?_⟩
    have e0 := hE _ _ (hd t et) (fun _ z => by cases z)
    exact (upd_ne (ne_of_none e0 nF)).trans e0
end
/-- what it yields -/
def tLamV (T : List NTab) (X : Cx) (params : Arguments) (body : Expr) (scope : Scope) : TE := fun _ H Q => TabsN T H ∧ ∀ (f : Addr) (F : LF) (H1 : Hp), F.qual = X.env.qual ++ "<lambda>" → F.params = params → F.body = body → F.scope = scope → F.cl = cloFrom X.env.cells scope.names [] →
  (F.df.isSome = !params.defaults.isEmpty) → ExtN H H1 → TabsN T H1 → H f = none → Lv f F H1 → Q (.ref f) H1
section
variable {X : Cx} {T : List NTab} {nm : Nat → Nat → Str} {c P : Addr} {params : Arguments} {body : Expr} {scope : Scope} {pos : Pos}
theorem pe_lamV (TB : TabB X.base X.mg c P) (hcode : X.env.code = .ref c) (hm : (P, nm) ∈ T) (hn : nm pos.line pos.col = X.env.qual ++ "<lambda>") (hu : ∀ p ∈ T, p.1 = P → p.2 = nm)
    (hfree : ∀ y ∈ scope.names, y.2 = .free → X.env.scope.names.lookup y.1 = some .cell ∨ X.env.scope.names.lookup y.1 = some .free) (hk0 : params.kwonlyargs = [])
    (hdef : (defaultsOf params X.env = ([], []) ∧ params.defaults = []) ∨ ∃ e, defaultsOf params X.env = ([eval e X.env], []) ∧ params.defaults = [e] ∧ PE X e (tC (.int 0))) :
    PE X (.Lambda params body scope pos) (tLamV T X params body scope) := by
  refine ⟨fun pins s σ H Q I h => ?_⟩
  obtain ⟨hT, h⟩ := h
  have hfr : ∀ y ∈ scope.names, y.2 = .free → ∃ c, X.env.cells.lookup y.1 = some c := fun y hy e => (hfree y hy e).elim (fun z => I.ok.has _ (.inl z)) fun z => I.ok.has _ (.inr z)
  rw [arm_eval_Lambda]
  rcases hdef with ⟨hd, hp⟩ | ⟨e, hd, hp, he⟩
  · rw [hd]
    apply wpAny_bind
    apply wpAny_pure
    apply wpAny_bind
    apply wpAny_holding
    apply wpAny_pure
    rw [makeFunction_eq]
    simp only [List.zip_nil_right, List.filterMap_nil, List.isEmpty_nil, if_true, pure_bind]
    exact lam_make (d := none) I TB hcode hm hn hu hT hfr (fun _ z => by cases z) fun f F H1 s' q1 q2 q3 q4 q5 q6 I1 eN T1 hf L => ⟨.ref f, H1, I1, rfl, h f F H1 q1 q2 q3 q4 q5 (by rw [q6, hp]; rfl) eN T1 hf L⟩
  · rw [hd]
    apply wpAny_bind
    apply wpAny_evalAll_cons
    refine thn (he.run pins s σ H (fun v H1 => v = .int 0 ∧ H1 = H) I ⟨rfl, rfl⟩) fun u s1 hu1 => ?_
    obtain ⟨v, H1, I1, rv, rfl, rfl⟩ := hu1
    apply wpAny_evalAll_nil
    apply wpAny_bind
    apply wpAny_holding
    apply wpAny_pure
    rw [makeFunction_eq]
    simp only [List.zip_nil_right, List.filterMap_nil, List.isEmpty_nil, List.isEmpty_cons, Bool.false_eq_true, if_false, if_true, pure_bind]
    apply wpAny_bind
    apply wpAny_newTextTuple
    have hn0 : H1 s1.heap.objs.size = none := I1.hok.fresh (Nat.le_refl _)
    have J : Inv X pins σ (upd H1 s1.heap.objs.size (.tup [.int 0])) { s1 with heap := s1.heap.push { cls := .type "tuple", data := .seq [u].toArray }, toks := s1.toks } :=
      I1.laid (t' := s1.toks) (o := .tup [.int 0]) (fun b ob q => Heap.get?_push_of_some _ q) (Nat.le_refl _) ⟨sz_le (by decide), [u], .cons rv .nil, _, Heap.get?_push_size _ rfl, rfl, _, rfl⟩
    have e0 : ∀ b o, H1 b = some o → (upd H1 s1.heap.objs.size (.tup [.int 0])) b = some o := fun b o e => (upd_ne (ne_of_none e hn0)).trans e
    refine lam_make (d := some s1.heap.objs.size) J TB hcode hm hn hu (hT.ext e0) hfr (fun t z => by cases z; exact upd_same) fun f F H2 s' q1 q2 q3 q4 q5 q6 I2 eN T1 hf L => ⟨.ref f, H2, I2, rfl, h f F H2 q1 q2 q3 q4 q5 (by rw [q6, hp]; rfl) (fun b o e n => eN b o (e0 b o e) n) T1 (free_upd hf).1 L⟩
end
end
section
open PySem.Spec PySem.Calls PySem.W PyProof.Rows LamX NdefX
/-- a lambda's names: none of its own but the parameters, the captured ones, globals -/
structure LScope (N fr : List Str) (sc : Scope) : Prop where
  kind : sc.kind = .function
  co : sc.isCoroutine = false
  gen : sc.isGenerator = false
  nocell : ∀ y ∈ sc.names, y.2 ≠ .cell
  free : ∀ y ∈ sc.names, y.2 = .free → y.1 ∈ fr
  frk : ∀ x ∈ fr, sc.names.lookup x = some .free
  eq : N = fr
def lscB (fr : List Str) (sc : Scope) : Bool :=
  decide (sc.kind = .function) && (!sc.isCoroutine && (!sc.isGenerator && (sc.names.all (fun y => !decide (y.2 = .cell)) && (sc.names.all (fun y => !decide (y.2 = .free) || decide (y.1 ∈ fr)) && fr.all (fun x => decide (sc.names.lookup x = some .free))))))
theorem lscope_by {fr : List Str} {sc : Scope} (h : lscB fr sc = true) : LScope fr fr sc := by
  unfold lscB at h
  simp only [Bool.and_eq_true, Bool.not_eq_true', decide_eq_true_eq, List.all_eq_true, Bool.or_eq_true, decide_eq_false_iff_not] at h
  obtain ⟨h1, h2, h3, h4, h5, h6⟩ := h
  exact ⟨h1, h2, h3, h4, fun y hy e => (h5 y hy).elim (fun z => absurd e z) id, h6, rfl⟩
abbrev LF.nf (F : LF) : NF := ⟨"<lambda>", F.qual, F.params, [], F.scope, F.cl, F.c⟩
/-- how it binds when nothing is given -/
def LBind (f : Addr) (F : LF) : Prop := ∀ (P : Program) (w : World) (s : Shared) (H : Hp) (pm ct : Value), Lv f F H → HOk P w H s.heap → ∃ bs : List (Str × Value), BindsTo s (F.fd pm ct) ⟨[], []⟩ bs ∧ ∀ x ∈ bs, F.scope.names.lookup x.1 = some .local
/-- with no parameter -/
theorem lbind0 {f : Addr} {F : LF} (h : ∀ pm ct, bindArgs (F.fd pm ct) ⟨[], []⟩ = pure []) : LBind f F := fun P w s H pm ct L hok => ⟨[], .of_eq (h pm ct), fun x hx => by cases hx⟩
/-- one that falls back on the number in its tuple -/
theorem lbind1 {f t : Addr} {F : LF} {x : Str} (e : F.df = some t) (h : ∀ pm ct u, ∃ k, bindArgs (F.fd pm ct) ⟨[], []⟩ = (seqItems? (F.fd pm ct).defaults >>= k) ∧ k (some #[u]) = pure [(x, u)]) (hl : F.scope.names.lookup x = some .local) : LBind f F := fun P w s H pm ct L hok => by
  obtain ⟨hz, us, rv, o, ho, hc, n, hd⟩ := hok t _ (L.df t e)
  cases rv with
  | cons r rr =>
    cases rr
    rename_i u
    obtain ⟨k, h1, h2⟩ := h pm ct u
    refine ⟨[(x, u)], .of_defaults (T := t) (by show dfV F.df = _; rw [e]; rfl) ho hd h1 h2, fun y hy => ?_⟩
    rw [List.mem_singleton.mp hy]
    exact hl
/-- the promise of the lambda F at f: sp, by what its captured cells hold at the call -/
def LOk (P : Program) (w : World) (K : PySem.W.Frag) (mg : Str → Option Value) (base : Heap) (CX : CXT) (k : Nat) (f : Addr) (F : LF) (fr : List Str) (sp : List (Option V) → Hp → VK → XK → Prop) : Prop :=
  ∀ (A : Around) (outer : List Env) (s : Shared) (H : Hp) (ws : List (Option V)) (Q : VK) (E : XK), Room k A → Env0 P w K mg base A outer s H → Lv f F H → CellsAt F.cl fr ws s.heap H → sp ws H Q E → codeAny (model P w) A (.call (.ref f) ⟨[], []⟩) (CR CX outer P w H s Q E) s
section
variable {CX : CXT} {P : Program} {w : World} {K : PySem.W.Frag} {mg : Str → Option Value} {base : Heap} {N fr : List Str} {F : LF} {f : Addr} {A : Around} {outer : List Env} {s : Shared} {H : Hp} {E : XK} {ws : List (Option V)} {k : Nat} {sp : List (Option V) → Hp → VK → XK → Prop}
abbrev lcx (CX : CXT) (P : Program) (w : World) (K : PySem.W.Frag) (mg : Str → Option Value) (base : Heap) (N : List Str) (F : LF) (f : Addr) (A : Around) (outer : List Env) (s : Shared) (H : Hp) (E : XK) : Cx := ncx CX P w K mg base N F.nf f A outer s H E
/-- THE RULE: a lambda by its body -/
theorem lok_of (S : LScope N fr F.scope) (hb : LBind f F)
    (hbody : ∀ (A : Around) (outer : List Env) (s : Shared) (H : Hp) (ws : List (Option V)) (Q : VK) (E : XK), Room k (A.deeper (envF F.nf f s.heap.objs.size)) → Lv f F H → ws.length = fr.length → sp ws H Q E →
      ∃ t, PE (lcx CX P w K mg base N F f A outer s H E) F.body t ∧ t ws H Q) : LOk P w K mg base CX (k + 1) f F fr sp := by
  intro A outer s H ws Q E hr e0 L C hsp
  have lim : s.heap.NoLimit := e0.mod.nolimit.keeps fun b o e => (e0.bs b o e).1
  obtain ⟨od, sl, pm, ct, ho⟩ := LamO.at_ e0.hok L.fn
  obtain ⟨bs, b1, b2⟩ := hb P w s H pm ct L e0.hok
  refine kla_callFunE hr.depth ho rfl S.co S.gen rfl (codeO_at e0.hok L.co) (b1 _ _ _ _ ?_)
  refine wpAny_newFunctionEnv S.nocell b2 (fun h₁ hns hsb => ⟨lim.fresh _ hsb, ?_⟩) S.kind
  show codeAny _ _ (.expr F.body (envF F.nf f s.heap.objs.size)) _ _
  have kp : ∀ b o, s.heap.get? b = some o → h₁.get? b = some o := fun b o e => hsb.extBut b o (Nat.ne_of_lt (Heap.lt_size e)) (Heap.get?_push_of_some _ e)
  obtain ⟨t, ht, hq⟩ := hbody A outer s H ws Q E (hr.deeper _) L C.len hsp
  have eN := S.eq
  have noA : ∀ b : Addr, b ∉ (lcx CX P w K mg base N F f A outer s H E).ex := fun b z => absurd (show b ∈ ([] : List Addr) from z) (by simp)
  have cellK : ∀ {c : Addr} {v : Option Value}, s.heap.IsCell c v → h₁.IsCell c v := fun {c v} ⟨o, ho, hd⟩ => ⟨o, kp _ _ ho, hd⟩
  have I : Inv (lcx CX P w K mg base N F f A outer s H E) [] ws H { s with heap := h₁, toks := s.toks + bs.length } := by
    refine ⟨⟨e0.mod, S.kind, rfl, rfl, Nat.le_refl _, C.inj, fun y hy => ?_, fun y c z _ => ?_, fun _ => hr.hd, Around.frames_deeper e0.frames, .inr ⟨rfl, rfl⟩, fun b z => absurd z (noA b), e0.bs, e0.bsz, fun b _ _ => noA b, fun b z => absurd z (noA b), e0.funs, e0.frf⟩,
      rfl, e0.bare, Un.kept kp, ⟨_, hns, fun i y v e1 e2 e3 => ?_⟩, fun y c e => ?_, e0.hok.fresh (Nat.le_refl _), fun y c e => (C.all y c e).1, fun q hq => absurd (show q ∈ ([] : List (Addr × Obj)) ++ [] from hq) (by simp), e0.hok.kept kp, ?_⟩
    · rcases (show F.scope.names.lookup y = some .cell ∨ F.scope.names.lookup y = some .free from hy) with hy | hy
      · exact absurd rfl (S.nocell _ (PySem.mem_of_lookup hy))
      · obtain ⟨i, hi⟩ := List.mem_iff_getElem?.mp (S.free _ (PySem.mem_of_lookup hy) rfl)
        obtain ⟨c, hc, _⟩ := C.has i y hi
        exact ⟨c, hc⟩
    · exact absurd (show false = true from z) (by simp)
    · have e1 : N[i]? = some y := e1
      rw [eN] at e1
      obtain ⟨c, hc, hv⟩ := C.has i y e1
      obtain ⟨u, ru, hu⟩ := hv v e2
      exact ⟨u, ru, .inr ⟨.inr (S.frk y (List.mem_of_getElem? e1)), c, hc, cellK hu⟩⟩
    · obtain ⟨v, z⟩ := (C.all y c e).2
      exact ⟨v, cellK z⟩
    · show ws.length = N.length
      rw [eN]
      exact C.len
  refine kla_codeExpr (wpAny_mono (ht.run [] _ ws H Q I hq) (fun v s' hs => ?_) fun e s' hs => hs)
  obtain ⟨u, H', J, rv, q⟩ := hs
  exact ⟨u, H', J.os, J.bare, J.base, J.hok, rv, q⟩
end
/-! ### what may be asked of a value that is called with nothing -/
/-- in the state (s, H), with the callers' frames fs: f is a lambda that lives, its cells hold ws, none of the cells is a frame's -/
structure Act (f : Addr) (F : LF) (fr : List Str) (ws : List (Option V)) (fs : List Addr) (s : Shared) (H : Hp) : Prop where
  lv : Lv f F H
  cells : CellsAt F.cl fr ws s.heap H
  nf : ∀ y c, F.cl.lookup y = some c → c ∉ fs
section
variable {X : Cx} {pins : List (Addr × Obj)} {σ : L2.St} {H : Hp} {s : Shared} {f : Addr} {F : LF} {fr : List Str} {ws : List (Option V)}
/-- a callee's own state, from its entry's -/
theorem Act.later (a : Act f F fr ws X.fs X.s_0 X.H_0) (hx : X.ex = []) (I : Inv X pins σ H s) (L : Lv f F H) : Act f F fr ws X.fs s H :=
  ⟨L, a.cells.later a.nf (fun _ _ _ z => by rw [hx] at z; cases z) I, a.nf⟩
/-- .. and handed on to a callee of its own: that frame is no cell -/
theorem Act.on (a : Act f F fr ws X.fs s H) (I : Inv X pins σ H s) : Act f F fr ws (frs X.stack) s H := by
  refine ⟨a.lv, a.cells, fun y c e hm => ?_⟩
  rcases List.mem_cons.mp (I.stkSub c hm) with z | z
  · obtain ⟨v, o, ho, hd⟩ := (a.cells.all y c e).2
    obtain ⟨m, ⟨o', es, ep, ho', hd', _⟩, _⟩ := I.loc
    rw [z, ho'] at ho
    cases ho
    rw [hd'] at hd
    cases hd
  · exact a.nf y c e z
/-- the maker's own state -/
theorem Act.made {js : List Nat} (hfn : ∀ x, X.fn x = true) (I : Inv X pins σ H s) (L : Lv f F H) (c : Caps X F.cl fr js) : Act f F fr (js.map (slotAt σ)) (frs X.stack) s H := by
  refine ⟨L, cells_of I c, fun y a e hm => ?_⟩
  have e' := c.sub y a e
  obtain ⟨v, o, ho, hd⟩ := I.cell y a e'
  rcases List.mem_cons.mp (I.stkSub a hm) with z | z
  · exact I.cne y a e' z
  · obtain ⟨_, o', ho', _⟩ := I.ok.funs.mem z
    exact absurd (Nat.lt_of_lt_of_le (Heap.lt_size ho') (I.ok.cab y a (hfn y) e')) (Nat.lt_irrefl _)
end
end
section
open PySem.Spec PySem.Calls PySem.W PyProof.Rows LamX NdefX
/-! ### an own exception whose __init__ begins with super().__init__(..) -/
section
variable {prog : Program} {w : World} {A : Around} {E : Value → Shared → Prop} {h : Heap} {g : Array GenState} {d : Drawn} {t : Nat} {os : OsState} {nm q : Str} {C N : Addr} {bs bm : List Value} {sn : List Str} {sub : List Value} {ab : Bool} {col : Option Bool} {dd : Option Addr} {k0 k1 k2 k3 k5 : Option Value}
theorem mw_check {M : Model} {e : Addr} {oe : Obj} {rest : List Value} {Q : Unit → Shared → Prop} (hC : h.get? C = some (excClassObj nm q C N bs bm true sn sub ab col dd k0 k1 k2 k3 k5 "ValueError.__new__")) (he : h.get? e = some oe) (hcls : oe.cls = .ref C) (hq : Q () ⟨h, g, d, t, os⟩) :
    wpAny M A (checkBoundCall "ValueError.__init__" ⟨.ref e :: rest, []⟩) Q E ⟨h, g, d, t, os⟩ := ESX.check_bound F.excBase_ValueError hC he hcls hq
/-- the wrapper is called: the args are laid anew -/
theorem mw_call {u e t0 : Addr} {rest : List Value} {Q : Value → Shared → Prop} (hC : h.get? C = some (excClassObj nm q C N bs bm true sn sub ab col dd k0 k1 k2 k3 k5 "ValueError.__new__")) (he : h.get? e = some (HandSPX.excO C t0)) (hu : h.get? u = some (kxs_mw "ValueError.__init__" e)) (hl : rest.length ≤ sizeLine)
    (hq : ∀ h' t1, (∀ b o, b ≠ e → h.get? b = some o → h'.get? b = some o) → h'.get? e = some (HandSPX.excO C t1) → Q .none ⟨h', g, d, t, os⟩) : wpAny (model prog w) A (call (.ref u) rest) Q E ⟨h, g, d, t, os⟩ := by
  apply wpAny_call
  apply codeAny_of_tree
  show wpAny _ A.in1 (callAny (.ref u) ⟨rest, []⟩) _ _ _
  simp only [callAny]
  apply wpAny_bind
  apply wpAny_load hu
  simp only [kxs_mw, show (Value.type "method-wrapper" == Value.type "method" || Value.type "method-wrapper" == Value.type "builtin_function_or_method" || Value.type "method-wrapper" == Value.type "method-wrapper") = true by decide, if_true]
  refine KFB.if_so (by decide) ?_
  refine wpAny_bind (mw_check hC he rfl ?_)
  refine wpAny_bind (wpAny_pure (wpAny_pure ?_))
  refine ⟨Code.quiet_builtin _ (by decide +kernel), codeAny_builtin F.excBase_ValueError.initEntry ?_⟩
  rw [Around.under_plainId F.excBase_ValueError.init.plain _]
  wp_walk
  refine hq _ h.objs.size (fun b o hb ho => ?_) ?_
  · rw [Heap.get?_update_other _ _ (fun z => hb z.symm)]
    exact Heap.get?_push_of_some _ ho
  · rw [Heap.get?_update_self _ (Heap.get?_push_of_some _ he) rfl]
    rfl
end
/-- such a def of the class at D, its cell at cc -/
structure ProgOk (P : Program) (file : Str) : Prop where
  file_ : ((P.main.file : Str) == file) = true
  top_ : (P.main.scope.names.lookup ("super" : Str)).isSome = false
structure FunS (K : Frag) (file : Str) (x qual : Str) (st : Stmt) (D cc : Addr) (f : Addr) (fd : FuncData) : Prop where
  ex : ∃ (oc : Value) (od : Option Addr) (kV doc pm : Value) (an : Option Addr) (cda : Addr) (ct : Value) (osl : Array (Option Value)) (cl : Value) (cdd : Option Addr) (vs : Array Value) (csl : Array (Option Value)) (tf : Tok) (ec : Value) (ed : Option Addr) (es : Array (Option Value)),
    fd = ksFn x qual (defArgs st) (defBody st) (defScope st) .none kV doc pm an (.ref cda) ct cc ∧ K.lookup f = some ⟨oc, od, .func fd, osl⟩ ∧ codeIn K (.ref cda) qual = true ∧ K.lookup cda = some ⟨cl, cdd, .fields vs, csl⟩ ∧ vs[2]? = some (.str file tf) ∧ K.lookup cc = some ⟨ec, ed, .cell (some (.ref D)), es⟩
  kp : keepIn K (.ref f) = true
section
variable {P : Program} {w : World} {K : Frag} {mg : Str → Option Value} {base : Heap}
theorem FunS.ok {CX : CXT} {x qual : Str} {st : Stmt} {D cc f : Addr} {fd : FuncData} {N ps : List Str} {k : Nat} {sp : Sp} {ar : Arg} {e : Expr} {rest : List Stmt} {p0 p1 apos pos epos : Pos} {file : Str} (HP : ProgOk P file) (F : FunS K file x qual st D cc f fd) (S : NScope N ps ["__class__"] (defScope st)) (len : ∀ vs H Q E, sp vs H Q E → vs.length = ps.length)
    (hst : defBody st = .Expr (.Call (.Attribute (.Call (.Name "super" p0) [] [] p1) "__init__" apos) [e] [] pos) epos :: rest) (hks : (defScope st).names.lookup ("super" : Str) = some .globalImplicit) (hint : ∀ env : Env, env.scope = defScope st → interactive env = false) (pl : Env → Sem Bool)
    (hev : ∀ env : Env, eval (.Call (.Attribute (.Call (.Name "super" p0) [] [] p1) "__init__" apos) [e] [] pos) env = (do
      let ov ← attributeBase (.Call (.Name "super" p0) [] [] p1) "__init__" env (eval (.Call (.Name "super" p0) [] [] p1) env)
      standAt apos.atName
      let (f, first) ← holding [ov] (getMethod ov "__init__" (pl env))
      callWith pos f first (backTo pos (starEach [e] env)) [])) (hse : ∀ env : Env, starEach [e] env = [(false, eval e env)]) (har : ((defArgs st).posonlyargs ++ (defArgs st).args).head? = some ar) (hp0 : ps.head? = some ar.arg)
    (hms : mg "super" = none) (hthird : nsIn K cStatics "thirdparty.any" = some none)
    (hbody : ∀ (F' : NF) (A : Around) (outer : List Env) (s : Shared) (H : Hp) (vs : List V) (Q : VK) (E : XK), F'.scope = defScope st → Room k (A.deeper (envF F' f s.heap.objs.size)) → sp vs H Q E →
      ∃ (te : TE) (tb : TS) (a C : Addr) (z : V), vs.head? = some (.ref a) ∧ H a = some (exo a C none) ∧ OexC K C ∧ (∃ cdD, clsIn K D = some cdD) ∧ mroIn K C (.ref D) = some true ∧ ks_superIn K C D "__init__" = some (some (.builtin "ValueError.__init__")) ∧ subIn K (.ref C) (.type "ValueError") = some true ∧
        PE (ncx CX P w K mg base N F' f A outer s H E) e te ∧ PSs (ncx CX P w K mg base N F' f A outer s H E) rest tb ∧ (∀ Q' : VK, Q' z H → te (startF N vs [none]) H Q') ∧ tb { nx := fun _ H' => Q .non H', rt := Q } (startF N vs [none]) H) :
    FnOk P w K mg base CX (k + 1) f fd ps sp := by
  obtain ⟨oc, od, kV, doc, pm, an, cda, ct, osl, cl, cdd, vs2, csl, tf, ec, ed, es, rfl, lk, hcd, lcd, h2, lcc⟩ := F.ex
  obtain ⟨hfile, htop⟩ := HP
  refine ⟨len, fun A outer s H args us vs Q E hr e0 hb r hsp => ?_⟩
  have hl := len _ _ _ _ hsp
  have KX : K.In s.heap := e0.mod.kin.keeps fun b o e => (e0.bs b o e).1
  have lim : s.heap.NoLimit := e0.mod.nolimit.keeps fun b o e => (e0.bs b o e).1
  let F' : NF := ⟨x, qual, defArgs st, defBody st, defScope st, [("__class__", cc)], cda⟩
  obtain ⟨te, tb, a, C, z, hva, ha, T, ⟨cdD, hD⟩, hmro, hsup, hVE, he, hrest, hte, htb⟩ := hbody F' A outer s H vs Q E rfl (hr.deeper _) hsp
  refine codeAny_call_function hr.depth (KX _ _ lk) rfl S.co S.gen rfl (codeRec_of KX hcd) (hb _ _ _ _ ?_)
  refine wpAny_newFunctionEnv S.nocell (fun ⟨n, _⟩ hy => S.par n (List.of_mem_zip hy).1) (fun h₁ hns hsb => ⟨lim.fresh _ hsb, ?_⟩) S.kind
  show codeAny _ _ (.func (defBody st) (envF F' f s.heap.objs.size)) _ _
  refine ks_codeAny_funcAt ?_
  have kp : ∀ b o, s.heap.get? b = some o → h₁.get? b = some o := fun b o e => hsb.extBut b o (Nat.ne_of_lt (Heap.lt_size e)) (Heap.get?_push_of_some _ e)
  have CA : CellsAt F'.cl ["__class__"] [none] s.heap H := by
    have lk1 : ∀ y c, F'.cl.lookup y = some c → y = "__class__" ∧ c = cc := fun y c e => by
      have e' : ([("__class__", cc)] : List (Str × Addr)).lookup y = some c := e
      by_cases hy : y = "__class__"
      · rw [hy] at e'
        exact ⟨hy, (Option.some.inj e').symm⟩
      · have hb : (y == ("__class__" : Str)) = false := beq_eq_false_iff_ne.mpr hy
        simp only [List.lookup, hb] at e'
        cases e'
    refine ⟨rfl, fun y c e => ?_, fun y1 y2 c e1 e2 => by rw [(lk1 y1 c e1).1, (lk1 y2 c e2).1], fun i y hy => ⟨cc, ?_, fun v hv => ?_⟩⟩
    · rw [(lk1 y c e).2]
      exact ⟨(e0.bs cc _ (e0.mod.kin _ _ lcc)).2, _, _, KX _ _ lcc, rfl⟩
    · cases i with
      | zero => cases hy; rfl
      | succ n => simp at hy
    · cases i with
      | zero => cases hv
      | succ n => simp at hv
  have I : Inv (ncx CX P w K mg base N F' f A outer s H E) [] (startF N vs [none]) H { s with heap := h₁, toks := s.toks + (ps.zip us).length } := inv_startN S hr.hd e0 hl r CA hns kp
  rw [hst]
  refine ks_wpAt_execs_cons (ks_wpAt_Expr_any (ks_wpAt_MethodCall (pl := pl _) ?_ (hev _)) (hint _ rfl))
  have hk0 : (defScope st).names.lookup ar.arg = some .local := S.par _ (List.mem_of_head? hp0)
  have hkc : (defScope st).names.lookup ("__class__" : Str) = some .free := S.frk _ List.mem_cons_self
  have K1 : K.In h₁ := fun b o e => kp b o (KX b o e)
  obtain ⟨oD, hD1, hD2⟩ : ∃ oD, h₁.get? D = some oD ∧ oD.data = .cls cdD := by
    unfold clsIn at hD
    split at hD
    · rename_i c0 d0 cd' sl ho
      cases hD
      exact ⟨_, K1 _ _ ho, rfl⟩
    · cases hD
  obtain ⟨t0, hea⟩ := exo_at I.hok ha
  obtain ⟨cd, hcl⟩ : ∃ cd, clsIn K C = some cd := by
    unfold ks_superIn at hsup
    cases hc : clsIn K C with
    | none => rw [hc] at hsup; cases hsup
    | some cd => exact ⟨cd, rfl⟩
  have hal : alongIn K "__init__" ((cd.mro.dropWhile (· != .ref D)).drop 1) = some (some (.builtin "ValueError.__init__")) := by
    unfold ks_superIn at hsup
    rw [hcl] at hsup
    exact hsup
  have hself : (ps.zip us).reverse.lookup ar.arg = some (.ref a) := by
    have ndP : ps.Nodup := (List.nodup_append.mp (S.pre ▸ S.nd.sublist (List.take_sublist (ps.length + 1) N))).1
    have hps : ps[0]? = some ar.arg := by rw [← List.head?_eq_getElem?]; exact hp0
    have hvs0 : vs[0]? = some (.ref a) := by rw [← List.head?_eq_getElem?]; exact hva
    obtain ⟨u, hu, ru⟩ := r.get hvs0
    obtain rfl : u = Value.ref a := ru
    exact zip_look ndP hps hu
  obtain ⟨mb, hb1, hb2⟩ := I.mod.blt
  refine ks_wpAt_super_base (prog := P) (w := w) (env := envF F' f s.heap.objs.size) hks hkc (by decide) rfl (K1 _ _ lk) rfl har rfl (K1 _ _ lcd) rfl h2 hfile htop ?_
  refine ks_loadName_global S.kind hks (loadGlobal_builtin (env := envF F' f s.heap.objs.size) (I.mod.glob.keeps I.bk) hms (hb1.keeps I.bk) ((hb2 _ (by decide)).trans (by first | boot_by_name | rfl | kernel_rfl)) ⟨rfl, ?_⟩)
  refine wpAny_loadName_free (env := envF F' f s.heap.objs.size) S.kind hkc rfl ⟨_, K1 _ _ lcc, rfl⟩ ?_
  refine wpAny_loadName_local (env := envF F' f s.heap.objs.size) S.kind hk0 hns hself ?_
  refine ks_wpAny_isType_cls hD1 hD2 ⟨rfl, ?_⟩
  refine ks_wpAny_call_super hD1 hD2 hea rfl (fun c z => by cases z) (looks_mroIn K1 hmro) (fun h2' eso k2 => ?_)
  have K2 : K.In h2' := fun b o e => k2 b o (K1 b o e)
  have Ia : Inv (ncx CX P w K mg base N F' f A outer s H E) [] (startF N vs [none]) H { s with heap := h2', toks := s.toks + (ps.zip us).length } := I.kept k2
  have hea2 := k2 _ _ hea
  have hne : a ≠ C := fun z => by
    have hC0 : ∃ o cd', h2'.get? C = some o ∧ o.data = .cls cd' := by
      unfold clsIn at hcl
      split at hcl
      · rename_i c0 d0 cd' sl ho
        exact ⟨_, _, K2 _ _ ho, rfl⟩
      · cases hcl
    obtain ⟨o, cd', e1, e2⟩ := hC0
    rw [← z, hea2] at e1
    cases e1
    cases e2
  have tyA : Looks (model P w) h2' (typeOf (.ref a)) (.ref C) := fun A Q E s k q => wpAny_typeOf_ref (k _ _ hea2) q
  refine kxs_getMethod (h := h2') kxs_ValueError eso (looks_opaque K2 hthird) (l₀ := cd.mro) (fun A Q E s k q => wpAny_bind ((looks_clsIn K2 hcl) A _ E s k (wpAny_pure q))) rfl K2 hal (tyA.andThen (looks_subIn K2 hVE)) hne (by decide) ?_
  have I2 := ClX.pin_new (a := h2'.objs.size) (o := kxs_mw "ValueError.__init__" a) (h' := h2'.push (kxs_mw "ValueError.__init__" a)) (t' := s.toks + (ps.zip us).length + 1) Ia (fun b u z => Heap.get?_push_of_some _ z) (Nat.le_refl _) (Heap.get?_push_size _ rfl) (fun v z => nomatch z)
  have hpa : PA (ncx CX P w K mg base N F' f A outer s H E) [e] (tCons te tNil) := pa_cons he pa_nil (by rw [show starEach [e] (ncx CX P w K mg base N F' f A outer s H E).env = _ from hse _]; rfl)
  refine kxs_callWith (i := "ValueError.__init__") (x := a) (by rw [hse]; rfl) ?_
  have hrun := hpa.run pos _ _ _ _ (fun xs H1 => xs = [z] ∧ H1 = H) I2 (hte _ ⟨rfl, rfl⟩)
  have est : backTo pos (starEach [e] (envF F' f s.heap.objs.size)) = [(false, eval e (envF F' f s.heap.objs.size))] := by
    rw [hse]
    rfl
  rw [est]
  refine evalArgs_plain (thn (show wpAny _ _ (spliced [(false, eval e (envF F' f s.heap.objs.size))]) _ _ _ from est ▸ hrun) fun xs s3 h3 => ?_)
  obtain ⟨zs, H3, I3, rv, ezs, eH⟩ := h3
  subst ezs
  rw [eH] at I3
  refine ⟨(I3.pin _ (List.mem_append_right _ List.mem_cons_self)).1, ?_⟩
  obtain ⟨nmC, qC, NC, bsC, bmC, snC, subC, abC, colC, ddC, c0, c1, c2, c3, c5, hC, hbm⟩ := T.cls
  obtain ⟨t3, he3⟩ := exo_at I3.hok ha
  have hu3 := (I3.pin _ (List.mem_append_right _ List.mem_cons_self)).1
  have hlx : xs.length ≤ sizeLine := by
    have := Paired.length rv
    simp at this
    rw [← this]
    exact sz_le (by decide)
  obtain ⟨hp3, g3, d3, tk3, os3⟩ := s3
  show wpAny _ _ (call (.ref h2'.objs.size) ([] ++ xs)) _ _ _
  refine mw_call (I3.kIn _ _ hC) he3 hu3 hlx (fun h4 t4 k4 he4 => ?_)
  have J := (ClX.unpin I3).write (t' := tk3) (x := a) (e := a) (o := exo a C none) (by rw [ha]; exact True.intro) (.inl rfl) k4 ⟨_, he4⟩ (exo_ok he4)
  have eu : upd H a (exo a C none) = H := by
    funext b
    by_cases hb : b = a
    · rw [hb, upd_same, ha]
    · rw [upd_ne hb]
  rw [eu] at J
  refine wpAt_of_wpAny (wpAny_mono (hrest.run [] _ _ _ _ J htb) (fun fl s' hs => ?_) fun e s' hs => hs)
  have fin : ∀ {σ' : L2.St} {H' : Hp} {v : V} {u : Value}, Inv (ncx CX P w K mg base N F' f A outer s H E) [] σ' H' s' → L2.RelV v u → Q v H' → CE outer P w H s Q u s' :=
    fun {σ' H' v u} J rv q => ⟨v, H', J.os, J.bare, J.base, J.hok, rv, q⟩
  cases fl with
  | ret u =>
    obtain ⟨v, σ', H', J, rv, q⟩ := hs
    exact fin J rv q
  | next =>
    obtain ⟨σ', H', J, q⟩ := hs
    exact fin (v := V.non) (u := Value.none) J rfl q
  | brk =>
    obtain ⟨_, _, _, q⟩ := hs
    exact False.elim q
  | cont =>
    obtain ⟨_, _, _, q⟩ := hs
    exact False.elim q
end
end
section
open PySem.Spec PySem.Calls PySem.W PyProof.Rows LamX NdefX
/-! ### an own exception made, its context None -/
section
variable {X : Cx} {e : Expr} {es : List Expr} {ta : TA} {p pos : Pos}
theorem pmkN {CX : CXT} {x : Str} {C fI : Addr} {k : Nat} {fd : FuncData} {ps : List Str} {sp : Sp} (T : OexC X.K C) (iC : findIn X.K (.ref C) "__init__" = some (some (.ref fI))) (tI : typeIn X.K (.ref fI) = some (.type "function")) (F1 : FnOk X.prog X.w X.K X.mg X.base CX k fI fd ps sp) (hr : Room (k + 1) X.A)
    (hb : Binds X.K fd ps []) (hx : Passes CX X (fun _ _ _ => False)) (hg : Gl X x) (hm : X.mg x = some (.ref C)) (ha : PA X (e :: es) ta) (hdb : (x == ("__debug__" : Str)) = false := by decide) (he : starEach (e :: es) X.env = (false, eval e X.env) :: starEach es X.env := by rfl)
    (hpl : (backTo pos (starEach es X.env)).any (·.1) = false := by rfl) : L2N.PMk X (.Call (.Name x p) (e :: es) [] pos) (tMkO C sp [] ta) := by
  intro pins s σ H Q I h
  obtain ⟨nm, q, N, bs, bm, sn, sub, ab, col, dd, k0, k1, k2, k3, k5, hC, hbm⟩ := T.cls
  refine wpAny_Call_Name_kw (ld_glob I hg hm ?_ hdb)
  refine PySem.W.callWith_K (h₀ := X.base) I.ok.mod.kin T.kC (thn (ha.run pos pins s σ H _ I h) fun us s1 hh => ?_) he hpl
  obtain ⟨vs, H1, I1, r1, hz, q1⟩ := hh
  refine ⟨I1.kIn, ?_⟩
  obtain ⟨hp, g, dr, tk, os⟩ := s1
  let a : Addr := hp.objs.size + 1
  let h2 : Heap := (hp.push (kdv_tup us)).push (HandSPX.excO C hp.objs.size)
  have hsz : hp.objs.size ≤ a := Nat.le_succ _
  have hq := q1 a (I1.hok.fresh hsz)
  rw [List.append_nil] at hq
  have kk : ∀ b o, hp.get? b = some o → h2.get? b = some o := fun b o z => Heap.get?_push_of_some _ (Heap.get?_push_of_some _ z)
  have hget : h2.get? a = some (HandSPX.excO C hp.objs.size) := by
    show ((hp.push (kdv_tup us)).push (HandSPX.excO C hp.objs.size)).get? (hp.objs.size + 1) = _
    heap_get
  have I2 : Inv X pins σ (upd H1 a (exo a C none)) ⟨h2, g, dr, tk, os⟩ := I1.laid (t' := tk) (a := a) (o := exo a C none) (h' := h2) kk hsz (exo_ok hget)
  have hus : us.length ≤ sizeLine := by
    rw [← Paired.length r1, sizeLine_eq]
    omega
  have hl : (Value.ref a :: us).length = ps.length := by
    have z := F1.len _ _ _ _ hq
    rw [← z]
    show us.length + 1 = vs.length + 1
    rw [r1.length]
  have b2 := hb ⟨h2, g, dr, tk, os⟩ (Value.ref a :: us) I2.kIn (by rw [List.append_nil]; exact hl)
  rw [List.append_nil] at b2
  apply wpAny_call
  refine HandSPX.call_own F.excBase_ValueError (fun Y => HandSPX.refsVE_contains Y bm hbm) (I1.kIn _ _ hC) (looks_findIn I1.kIn iC) (fun self => bind_fn I1.kIn self tI) hus ?_
  refine codeAny_mono (F1.run _ X.stack _ _ ⟨Value.ref a :: us, []⟩ (Value.ref a :: us) (V.ref a :: vs) _ (fun _ _ _ => False) (hr.make C us []) (I2.env0.make C us []) b2 (.cons rfl r1) hq) fun r s' hq' => ?_
  match r, hq' with
  | .error er, hq' => exact hx pins σ _ _ er s' I2 hq'
  | .ok .next, hq' => exact False.elim hq'
  | .ok .brk, hq' => exact False.elim hq'
  | .ok .cont, hq' => exact False.elim hq'
  | .ok (.ret u), hq' =>
    obtain ⟨v, H2, os2, bare2, un2, hok2, rv, ev, d, fs, ea, ed, hd1, q2⟩ := hq'
    subst ev
    obtain ⟨h3, g2, d2, t2, os'⟩ := s'
    obtain ⟨t0, G, J, kG, ge, hoe, na⟩ := mk_end0 (d2 := d2) (t2 := t2) I1 hsz kk un2 hok2 os2 bare2 ea ed hd1
    exact ⟨rv, a, _, _, ⟨G, g2, d2, t2, os'⟩, _, .ref C, some d, rfl, J, kG, ge, hoe, ⟨rfl, rfl, fun ws z => by cases z; rfl⟩, rfl, rfl, na, rfl, bare2, raises_own T.exC T.tyC, q2⟩
end
/-- nothing leaves, seen from a place whence something may -/
theorem passN {X : Cx} : Passes C8.CX0 X (fun _ _ _ => False) := fun _ _ _ _ _ _ _ h => h.elim
section
variable {P : Program} {w : World} {K : Frag} {mg : Str → Option Value} {base : Heap}
/-- a def of the text by its body, whatever it may let out -/
theorem FunOkC {CX : CXT} {x qual : Str} {st : Stmt} {f : Addr} {fd : FuncData} {N ps : List Str} {k : Nat} {sp : Sp} (F : L2.Fun K x qual st f fd) (S : FnScope N ps (defScope st)) (len : ∀ vs H Q E, sp vs H Q E → vs.length = ps.length)
    (hbody : ∀ (cdv : Value) (A : Around) (outer : List Env) (s : Shared) (H : Hp) (vs : List V) (Q : VK) (E : XK), Room k (A.deeper (envOfC qual (defScope st) s.heap.objs.size f cdv)) → sp vs H Q E →
      ∃ t, PSs (cxOf CX P w K mg base N qual (defScope st) f cdv A outer s H E) (defBody st) t ∧ t { nx := fun _ H' => Q .non H', rt := Q } (L2.start N vs) H) : FnOk P w K mg base CX (k + 1) f fd ps sp := by
  obtain ⟨oc, od, kV, doc, pm, an, cdv, ct, osl, rfl, lk, hcd⟩ := F.ex
  exact fn_of lk hcd S len fun A outer s H vs Q E hr hsp => hbody cdv A outer s H vs Q E hr hsp
/-! ### a promise of the very state -/
abbrev SpS := List V → List Env → Shared → Hp → VK → XK → Prop
structure FnS (P : Program) (w : World) (K : Frag) (mg : Str → Option Value) (base : Heap) (CX : CXT) (k : Nat) (f : Addr) (ps : List Str) (sp : SpS) : Prop where
  len : ∀ vs o s H Q E, sp vs o s H Q E → vs.length = ps.length
  run : ∀ (A : Around) (outer : List Env) (s : Shared) (H : Hp) (us : List Value) (vs : List V) (Q : VK) (E : XK), Room k A → Env0 P w K mg base A outer s H → Vals vs us → sp vs outer s H Q E → codeAny (model P w) A (.call (.ref f) ⟨us, []⟩) (CR CX outer P w H s Q E) s
theorem FunOkS {CX : CXT} {x qual : Str} {st : Stmt} {f : Addr} {fd : FuncData} {N ps : List Str} {k : Nat} {sp : SpS} (F : L2.Fun K x qual st f fd) (hb : Binds K fd ps []) (S : FnScope N ps (defScope st)) (len : ∀ vs o s H Q E, sp vs o s H Q E → vs.length = ps.length)
    (hbody : ∀ (cdv : Value) (A : Around) (outer : List Env) (s : Shared) (H : Hp) (vs : List V) (Q : VK) (E : XK), Room k (A.deeper (envOfC qual (defScope st) s.heap.objs.size f cdv)) → sp vs outer s H Q E →
      ∃ t, PSs (cxOf CX P w K mg base N qual (defScope st) f cdv A outer s H E) (defBody st) t ∧ t { nx := fun _ H' => Q .non H', rt := Q } (L2.start N vs) H) : FnS P w K mg base CX (k + 1) f ps sp := by
  obtain ⟨oc, od, kV, doc, pm, an, cdv, ct, osl, rfl, lk, hcd⟩ := F.ex
  refine ⟨len, fun A outer s H us vs Q E hr e0 r hsp => ?_⟩
  have hl := len _ _ _ _ _ _ hsp
  have KX : K.In s.heap := e0.mod.kin.keeps fun b o z => (e0.bs b o z).1
  have b2 := hb s us KX (by rw [List.append_nil, ← hl]; exact r.length.symm)
  rw [List.append_nil] at b2
  exact run_ofS (us := us) (vs := vs) lk hcd S hr e0 b2 r hl fun hr' => hbody cdv A outer s H vs Q E hr' hsp
end
section
variable {X : Cx} {CX : CXT} {k i : Nat} {f g : Addr} {ps fr : List Str} {F : LF} {ws : List (Option V)} {sp : SpS} {E : XK} {x a : Str} {p p1 p2 pos : Pos} {e : Expr} {es : List Expr} {t : TA} {lp : List (Option V) → Hp → VK → XK → Prop}
theorem pe_callS (G : FnS X.prog X.w X.K X.mg X.base CX k g ps sp) (hr : Room k X.A) (hg : Gl X x) (hm : X.mg x = some (.ref g)) (hk : keepIn X.K (.ref g) = true) (hx : Passes CX X E) (ha : PA X (e :: es) t) (hdb : (x == ("__debug__" : Str)) = false := by decide)
    (he : starEach (e :: es) X.env = (false, eval e X.env) :: starEach es X.env := by rfl) (hpl : (backTo pos (starEach es X.env)).any (·.1) = false := by rfl) :
    PE X (.Call (.Name x p) (e :: es) [] pos) (fun σ H Q => t σ H fun vs H1 => ∀ pins s1, Inv X pins σ H1 s1 → sp vs X.stack s1 H1 Q E) := by
  refine ⟨fun pins s σ H Q I h => ?_⟩
  refine wpAny_Call_Name_kw (ld_glob I hg hm ?_ hdb)
  refine callWith_K (h₀ := X.base) I.ok.mod.kin hk (thn (ha.run pos pins s σ H _ I h) fun us s1 hh => ?_) he hpl
  obtain ⟨vs, H1, I1, r, q⟩ := hh
  refine ⟨I1.kIn, wpAny_call (codeAny_mono (G.run X.A X.stack s1 H1 us vs Q E hr I1.env0 r (q pins s1 I1)) fun r s' hq => ?_)⟩
  match r, hq with
  | .error er, hq => exact hx pins σ H1 s1 er s' I1 hq
  | .ok (.ret u), hq => exact I1.after hq
  | .ok .next, hq => exact False.elim hq
  | .ok .brk, hq => exact False.elim hq
  | .ok .cont, hq => exact False.elim hq
/-- a(), a the slot that holds the lambda -/
theorem pe_act {E : L2.St → XK} (L : LOk X.prog X.w X.K X.mg X.base CX k f F fr lp) (A0 : Act f F fr ws X.fs X.s_0 X.H_0) (hex : X.ex = []) (hr : Room k X.A) (hx : ∀ σ, PassesAt CX X σ (E σ)) (hN : X.N[i]? = some a) (hv : Vis X.env.scope a) (hd : (a == ("__debug__" : Str)) = false := by decide) (hcd : (a == ("__classdict__" : Str)) = false := by decide) :
    PE X (.Call (.Name a p1) [] [] p2) (fun σ H Q => σ[i]? = some (some (.ref f)) ∧ Lv f F H ∧ lp ws H Q (E σ)) := by
  refine ⟨fun pins s σ H Q I h => ?_⟩
  obtain ⟨hs, lv, hq⟩ := h
  refine wpAny_Call_Name_kw (thn ((pe_var (pos := p1) (i := i) hN hv hd hcd).run pins s σ H (fun v H1 => v = .ref f ∧ H1 = H) I ⟨.ref f, hs, rfl, rfl⟩) fun u s1 hh => ?_)
  obtain ⟨v, H1, I1, r1, ev, eH⟩ := hh
  subst ev
  rw [eH] at I1
  cases r1
  obtain ⟨od, sl, pm, ct, ho⟩ := LamO.at_ I1.hok lv.fn
  refine callWith_F0 ⟨_, _, _, _, ho⟩ (wpAny_call (codeAny_mono (L X.A X.stack s1 H ws Q (E σ) hr I1.env0 lv (A0.later hex I1 lv).cells hq) fun r s' hq' => ?_))
  match r, hq' with
  | .error er, hq' => exact hx σ pins H s1 er s' I1 hq'
  | .ok (.ret u), hq' => exact I1.after hq'
  | .ok .next, hq' => exact False.elim hq'
  | .ok .brk, hq' => exact False.elim hq'
  | .ok .cont, hq' => exact False.elim hq'
end
end
section
open PySem.Spec PySem.Calls PySem.W PyProof.Rows LamX NdefX
/-! ### the caught exception, where it is pinned -/
/-- it stands at a, of the class at D, its fields fs -/
structure Cgt (X : Cx) (D a : Addr) (oe : Obj) (d : Option Addr) : Prop where
  mem : (a, oe) ∈ X.pn
  zn : L2N.Zn (.ref D) d oe
  fl : ∃ vs, oe.data = .fields vs
def FldsAt (H : Hp) (d : Option Addr) (fs : List (Str × V)) : Prop := match d with
  | none => fs = []
  | some dd => H dd = some (.xd fs)
theorem FldsAt.keep {H H' : Hp} {S : List Addr} {d : Option Addr} {fs : List (Str × V)} (h : FldsAt H d fs) (f : Fr S H H') (n : ∀ b ∈ S, ∀ fs, H b ≠ some (.xd fs)) : FldsAt H' d fs := by
  cases d with
  | none => exact h
  | some dd => exact f dd _ h fun hb => n dd hb fs h
section
variable {X : Cx} {D a : Addr} {oe : Obj} {d : Option Addr} {pins : List (Addr × Obj)} {σ : L2.St} {H : Hp} {s : Shared} {fs : List (Str × V)}
theorem Cgt.inst (c : Cgt X D a oe d) (I : Inv X pins σ H s) (hf : FldsAt H d fs) : ∃ od, InstAt s.heap a oe D od ∧ (∀ o, od = some o → ∃ mA : Str → Option Value, (∀ n, lookIn n o = some (mA n)) ∧ ∀ n, RelO (fs.lookup n) (mA n)) ∧ (od = none ↔ d = none) := by
  obtain ⟨hget, _⟩ := I.pin (a, oe) (List.mem_append_left _ c.mem)
  obtain ⟨vs, hv⟩ := c.fl
  obtain ⟨z1, z2, _⟩ := c.zn
  cases d with
  | none =>
    refine ⟨none, ⟨hget, z1, ?_, ?_⟩, (fun o z => by cases z), by simp⟩
    · unfold notCls
      rw [hv] <;> rfl
    · rw [z2]
      trivial
  | some dd =>
    have hx : ObjOk X.prog X.w H s.heap dd (.xd fs) := I.hok dd _ hf
    obtain ⟨mA, hns, hr⟩ := hx
    obtain ⟨od, ho, hl⟩ := lookIn_ns hns
    refine ⟨some od, ⟨hget, z1, ?_, ?_⟩, fun o z => by cases z; exact ⟨mA, hl, hr⟩, by simp⟩
    · unfold notCls
      rw [hv] <;> rfl
    · rw [z2]
      exact ho
/-- isinstance(e, c) -/
def rIsC (K : Frag) (D a : Addr) (d : Option Addr) : List V → Hp → VK → Prop := fun xs H Q => ∃ (c : V) (cv : Value) (b : Bool) (fs : List (Str × V)), xs = [.ref a, c] ∧ FldsAt H d fs ∧ (∀ u, RelV c u → u = cv) ∧ kitOne K (.ref D) cv = some b ∧ Q (.bl b) H
theorem call_isC (C : ExcC X.K D) (c : Cgt X D a oe d) : CallR X (.builtin "isinstance") (rIsC X.K D a d) := by
  intro pins s σ H xs us Q I r h
  obtain ⟨cl, cv, b, fs, rfl, hf, hcv, e, q⟩ := h
  cases r with
  | cons rx rr =>
    cases rr with
    | cons rt rr =>
      cases rr
      cases rx
      cases hcv _ rt
      obtain ⟨od, J, _⟩ := c.inst I hf
      have hcl : (clsIn X.K D).isSome = true := by
        obtain ⟨cd, z, _⟩ := any_some C.hd
        rw [z]
        rfl
      exact kia_one (kitx_exc hcl C.hg C.hk C.hs C.ha C.hn C.ht C.hm) I.kIn J e (fun z => nomatch z) fun tk => ⟨.bl b, H, I.kept (t' := tk) fun _ _ z => z, rfl, q⟩
/-- e.n -/
def tFldC (D a : Addr) (d : Option Addr) (n : Str) (te : TE) : TE := fun σ H Q => te σ H fun x H1 => x = .ref a ∧ ∃ (fs : List (Str × V)) (v : V), d ≠ none ∧ FldsAt H1 d fs ∧ fs.lookup n = some v ∧ Q v H1
theorem pe_fldC {e : Expr} {te : TE} {pos : Pos} {n : Str} (T : XfC X.K D) (hno : findIn X.K (.ref D) n = some none) (c : Cgt X D a oe d) (he : PE X e te) (hb : attributeBase e n X.env (eval e X.env) = eval e X.env := by rfl) : PE X (.Attribute e n pos) (tFldC D a d n te) := by
  refine ⟨fun pins s σ H Q I h => ?_⟩
  refine attr_of hb (thn (he.run pins s σ H _ I h) fun u s1 hh => ?_)
  obtain ⟨x, H1, I1, rx, ex, fs, v, hd, hf, l, q⟩ := hh
  subst ex
  obtain rfl : u = Value.ref a := rx
  obtain ⟨od, J, hA, hn⟩ := c.inst I1 hf
  cases od with
  | none => exact absurd (hn.mp rfl) hd
  | some o =>
    obtain ⟨mA, hl, hr⟩ := hA o rfl
    obtain ⟨w, hw, rw'⟩ := RelO.some_of (v := v) (o := mA n) (by rw [← l]; exact hr n)
    exact HandSPX.exc_get I1.kIn J T.ga T.gg T.exC (findObj_own T.hdC hno rfl (by rw [hl, hw])) (handed_of rw') ⟨v, H1, I1.tok _, rw', q⟩
end
/-! ### defs called while the exception p is handled -/
def FnP (P : Program) (w : World) (K : Frag) (mg : Str → Option Value) (base : Heap) (CX : CXT) (k : Nat) (f : Addr) (p : Addr × Obj) (sp : Sp) : Prop :=
  ∀ (A : Around) (outer : List Env) (s : Shared) (H : Hp) (us : List Value) (vs : List V) (Q : VK) (E : XK), L2H.RoomH k A → L2H.Hot1 A p → L2H.PinOk outer H s p → Env0 P w K mg base A outer s H → Vals vs us → sp vs H Q E → codeAny (model P w) A (.call (.ref f) ⟨us, []⟩) (CR CX outer P w H s Q E) s
section
variable {P : Program} {w : World} {K : Frag} {mg : Str → Option Value} {base : Heap}
theorem FunOkP {CX : CXT} {x qual : Str} {st : Stmt} {f : Addr} {fd : FuncData} {N ps : List Str} {k : Nat} {sp : Sp} {p : Addr × Obj} (F : L2.Fun K x qual st f fd) (hb : Binds K fd ps []) (S : FnScope N ps (defScope st)) (len : ∀ vs H Q E, sp vs H Q E → vs.length = ps.length)
    (hbody : ∀ (cdv : Value) (A : Around) (outer : List Env) (s : Shared) (H : Hp) (vs : List V) (Q : VK) (E : XK), L2H.RoomH k (A.deeper (envOfC qual (defScope st) s.heap.objs.size f cdv)) → sp vs H Q E →
      ∃ t, PSs (L2H.cxH CX P w K mg base N qual (defScope st) f cdv A outer s H E p) (defBody st) t ∧ t { nx := fun _ H' => Q .non H', rt := Q } (L2.start N vs) H) : FnP P w K mg base CX (k + 1) f p sp := by
  obtain ⟨oc, od, kV, doc, pm, an, cdv, ct, osl, rfl, lk, hcd⟩ := F.ex
  intro A outer s H us vs Q E hr hot hpin e0 r hsp
  have hl := len _ _ _ _ hsp
  have KX : K.In s.heap := e0.mod.kin.keeps fun b o z => (e0.bs b o z).1
  have lim : s.heap.NoLimit := e0.mod.nolimit.keeps fun b o z => (e0.bs b o z).1
  have b2 := hb s us KX (by rw [List.append_nil, ← hl]; exact r.length.symm)
  rw [List.append_nil] at b2
  have hkind : ∀ y ∈ ps.zip us, (defScope st).names.lookup y.1 = some .local ∨ ((defScope st).names.lookup y.1 = some .cell ∧ ((cellsFrom (s.heap.objs.size + 1) (defScope st).names []).lookup y.1).isSome = true) := fun ⟨n, v⟩ hy =>
    (S.par n (List.of_mem_zip hy).1).elim .inl fun z => .inr ⟨z, cellsFrom_some _ _ _ (.inl z)⟩
  refine codeAny_call_function hr.depth (KX _ _ lk) rfl S.co S.gen rfl (codeRec_of KX hcd) (b2 _ _ _ _ ?_)
  refine wpAny_newFunctionEnv_cells S.kind hkind fun env he s1 x => ?_
  subst he
  refine ⟨lim.keeps x.toInCall.keep, codeAny_func ?_⟩
  obtain ⟨t, ht, hq⟩ := hbody cdv A outer s H vs Q E (hr.deeper _) hsp
  refine wpAny_mono (ht.run [] s1 (L2.start N vs) H _ (L2H.inv_startH S hpin e0 hl r x) hq) (fun fl s' hs => ?_) fun e s' hs => hs
  match fl, hs with
  | .ret u, hs =>
    obtain ⟨v, σ', H', J, rv, q⟩ := hs
    exact ⟨v, H', J.os, J.bare, J.base, J.hok, rv, q⟩
  | .next, hs =>
    obtain ⟨σ', H', J, q⟩ := hs
    exact ⟨.non, H', J.os, J.bare, J.base, J.hok, rfl, q⟩
  | .brk, hs =>
    obtain ⟨_, _, _, q⟩ := hs
    exact False.elim q
  | .cont, hs =>
    obtain ⟨_, _, _, q⟩ := hs
    exact False.elim q
end
section
variable {X : Cx} {k : Nat} {f : Addr} {p : Addr × Obj} {sp : Sp} {E : XK} {x : Str} {q pos : Pos} {e : Expr} {es : List Expr} {t : TA}
theorem pe_callP (F : FnP X.prog X.w X.K X.mg X.base C8.CX0 k f p sp) (hr : L2H.RoomH k X.A) (hot : L2H.Hot1 X.A p) (hp : p ∈ X.pn) (hg : Gl X x) (hm : X.mg x = some (.ref f)) (hk : keepIn X.K (.ref f) = true) (ha : PA X (e :: es) t) (hdb : (x == ("__debug__" : Str)) = false := by decide)
    (he : starEach (e :: es) X.env = (false, eval e X.env) :: starEach es X.env := by rfl) (hpl : (backTo pos (starEach es X.env)).any (·.1) = false := by rfl) : PE X (.Call (.Name x q) (e :: es) [] pos) (tCall sp [] C8.E0 t) := by
  refine ⟨fun pins s σ H Q I h => ?_⟩
  refine wpAny_Call_Name_kw (ld_glob I hg hm ?_ hdb)
  refine callWith_K (h₀ := X.base) I.ok.mod.kin hk (thn (ha.run pos pins s σ H _ I h) fun us s1 hh => ?_) he hpl
  obtain ⟨vs, H1, I1, r, q1⟩ := hh
  rw [List.append_nil] at q1
  have P1 := I1.pin p (List.mem_append_left _ hp)
  have hpin : L2H.PinOk X.stack H1 s1 p := ⟨P1.1, P1.2.1, fun hm => (List.mem_cons.mp (I1.stkSub p.1 hm)).elim P1.2.2.1 P1.2.2.2.1, P1.2.2.2.2⟩
  refine ⟨I1.kIn, wpAny_call (codeAny_mono (F X.A X.stack s1 H1 us vs Q C8.E0 hr hot hpin I1.env0 r q1) fun r s' hq => ?_)⟩
  match r, hq with
  | .error er, hq => exact False.elim hq
  | .ok (.ret u), hq => exact I1.after hq
  | .ok .next, hq => exact False.elim hq
  | .ok .brk, hq => exact False.elim hq
  | .ok .cont, hq => exact False.elim hq
theorem any_eqU_n {x : V} : ∀ {xs : List V} {us : List Value}, Vals xs us → xs.all flatV = true → us.countP (eqU x) = xs.countP fun y => eqV y x
  | _, _, .nil, _ => rfl
  | y :: xs, u :: us, .cons r t, f => by
    rw [List.all_cons, Bool.and_eq_true] at f
    rw [List.countP_cons, List.countP_cons, any_eqU_n t f.2, eqU_of r f.1]
def rCntV (K : Frag) : V → List V → Hp → VK → Prop := fun x xs H Q => ∃ (p : Addr) (ys : List V) (y : V), x = .ref p ∧ xs = [y] ∧ SqL K H p ys ∧ flatV y = true ∧ ys.all flatV = true ∧ Q (.int (ys.countP (fun z => eqV z y) : Nat)) H
theorem mt_lcountV : MtR X "list.count" (rCntV X.K) := by
  intro pins s σ H x xs v us Q I rx rxs h
  obtain ⟨p, ys, y, rfl, rfl, hs, fy, fys, q⟩ := h
  cases rx
  obtain ⟨u, rfl, ru⟩ := rxs.one
  obtain ⟨its, rv, ⟨⟨cls, dd, data, sl⟩, n, ho, hc, hdn, hd⟩, hlen⟩ := I.list hs
  simp only at hc hd
  subst hc hd
  refine call_meets PySem.F.slot_list_count ⟨_, ho, rfl⟩ PySem.F.entry_list_count (PySem.F.args_list_count_2 _ _) (SeqAt.list_countAt p its.toArray n dd sl u (eqU y)) ⟨ho, fun z hz => mem_eqAt ru fy rv fys z (by simpa using hz), ?_⟩
  have ec : its.toArray.toList.countP (eqU y) = ys.countP fun z => eqV z y := by
    rw [show its.toArray.toList = its from rfl]
    exact any_eqU_n rv fys
  refine ⟨.int (ys.countP (fun z => eqV z y) : Nat), H, I.tok _, ⟨s.toks, ?_⟩, q⟩
  show Value.int ((its.toArray.toList.countP (eqU y) : Nat) : Int) s.toks = _
  rw [ec]
end
end
section
open PySem.Spec PySem.Calls PySem.W PyProof.Rows LamX NdefX
/-! ### the law's row, where the law makes lambdas -/
section
open Att
theorem tabIn_of {K : Frag} {x : Str} {f c P : Addr} {oc : Value} {od : Option Addr} {fd : FuncData} {sl : Array (Option Value)} {cl : Value} {cdd : Option Addr} {vs : Array Value} {csl : Array (Option Value)} (a : nsIn K mainGlobals x = some (some (.ref f))) (l : K.lookup f = some ⟨oc, od, .func fd, sl⟩) (hc : fd.code = .ref c)
    (lc : K.lookup c = some ⟨cl, cdd, .fields vs, csl⟩) (tp : (vs[11]? : Option Value) = some (.ref P)) : tabIn K x = some (c, P) := by
  unfold tabIn
  rw [a]
  simp only [l, hc, lc, tp]
theorem lawat {l : OpenLaw} {w : World} {K : Frag} {q : Program} {loose : List Str} {mean : ExcName → Option Value} {d : DefRec} {h : Heap} {mg mb : Str → Option Value} {fa c P : Addr} {fd : FuncData} {k n : Nat} {x : Str} {sp : Sp} (TT : Top q loose mean mg mb h) (X : K.In h) (nt : noTabs K = true)
    (hrec : (recsOf q).find? (fun e => e.name == ("law" : Str)) = some d) (ti : tabIn K "law" = some (c, P)) (hb : ∀ (s : Shared) (u : Value), BindsTo s fd ⟨[u], []⟩ [(x, u)]) (F : ∀ base : Heap, K.In base → base.Ns mainGlobals mg → TabB base mg c P → FnOk l.prog w K mg base C8.CX0 k fa fd [x] sp)
    (hsp : ∀ (H : Hp) (a : Addr) (ns : List Int), ns.length ≤ n → H P = some (.tbl #[]) → SqL K H a (ns.map V.int) → sp [.ref a] H (fun v _ => v = .bl true) fun _ _ _ => False) : LawAtS l w K C8.CX0 k n x mg fa h := by
  obtain ⟨C, hT⟩ := tab_of TT X hrec ti
  have one : ∀ {α : Prop} {p : Addr × Addr}, p ∈ [(c, P)] → ((p = (c, P)) → α) → α := fun hp f => f (List.mem_singleton.mp hp)
  refine ⟨fd, [(c, P)], sp, fun p hp => by rw [List.mem_singleton.mp hp]; exact hT, fun p hp => ?_, fun p hp => by rw [List.mem_singleton.mp hp]; exact C, hb, fun H a ns hl _ hH hS => hsp H a ns hl (hH (c, P) (List.mem_singleton.mpr rfl)) hS, fun base KB GB hTB => F base KB GB (hTB (c, P) (List.mem_singleton.mpr rfl))⟩
  rw [List.mem_singleton.mp hp]
  show K.lookup P = none
  cases hk : K.lookup P with
  | none => rfl
  | some o =>
    have e := X _ _ hk
    rw [hT] at e
    cases e
    unfold noTabs at nt
    have z := List.all_eq_true.mp nt _ (mem_of_lookupK hk)
    simp [tabObj] at z
theorem lawat2 {l : OpenLaw} {w : World} {K : Frag} {q : Program} {loose : List Str} {mean : ExcName → Option Value} {d d2 : DefRec} {h : Heap} {mg mb : Str → Option Value} {fa c P c2 P2 : Addr} {fd : FuncData} {k n : Nat} {x x2 : Str} {sp : Sp} (TT : Top q loose mean mg mb h) (X : K.In h) (nt : noTabs K = true)
    (hrec : (recsOf q).find? (fun e => e.name == ("law" : Str)) = some d) (ti : tabIn K "law" = some (c, P)) (hrec2 : (recsOf q).find? (fun e => e.name == x2) = some d2) (ti2 : tabIn K x2 = some (c2, P2)) (hb : ∀ (s : Shared) (u : Value), BindsTo s fd ⟨[u], []⟩ [(x, u)]) (F : ∀ base : Heap, K.In base → base.Ns mainGlobals mg → TabB base mg c P → TabB base mg c2 P2 → FnOk l.prog w K mg base C8.CX0 k fa fd [x] sp)
    (hsp : ∀ (H : Hp) (a : Addr) (ns : List Int), ns.length ≤ n → H P = some (.tbl #[]) → H P2 = some (.tbl #[]) → SqL K H a (ns.map V.int) → sp [.ref a] H (fun v _ => v = .bl true) fun _ _ _ => False) : LawAtS l w K C8.CX0 k n x mg fa h := by
  obtain ⟨C, hT⟩ := tab_of TT X hrec ti
  obtain ⟨C2, hT2⟩ := tab_of TT X hrec2 ti2
  have none_of : ∀ {c P : Addr}, h.get? P = some { cls := .none, data := .fields #[] } → K.lookup P = none := fun {c P} hT => by
    cases hk : K.lookup P with
    | none => rfl
    | some o =>
      have e := X _ _ hk
      rw [hT] at e
      cases e
      unfold noTabs at nt
      have z := List.all_eq_true.mp nt _ (mem_of_lookupK hk)
      simp [tabObj] at z
  have two : ∀ {R : Addr × Addr → Prop}, R (c, P) → R (c2, P2) → ∀ p ∈ [(c, P), (c2, P2)], R p := fun r1 r2 p hp => by
    rcases List.mem_cons.mp hp with e | hp
    · rw [e]; exact r1
    · rw [List.mem_singleton.mp hp]; exact r2
  exact ⟨fd, [(c, P), (c2, P2)], sp, two (R := fun p => h.get? p.2 = some { cls := .none, data := .fields #[] }) hT hT2, two (R := fun p => K.lookup p.2 = none) (none_of (c := c) hT) (none_of (c := c) hT2), two (R := fun p => CodeHd h p.1 p.2) C C2, hb,
    fun H a ns hl _ hH hS => hsp H a ns hl (hH (c, P) (List.mem_cons_self)) (hH (c2, P2) (List.mem_cons_of_mem _ (List.mem_singleton.mpr rfl))) hS, fun base KB GB hTB => F base KB GB (hTB (c, P) (List.mem_cons_self)) (hTB (c2, P2) (List.mem_cons_of_mem _ (List.mem_singleton.mpr rfl)))⟩
theorem walk_lam {l : OpenLaw} {n k : Nat} {q : Program} {loose : List Str} {XP : (Str → Option Value) → Heap → Prop} {YP : World → Heap → Prop} {d : DefRec} {K : Params → Frag} {x : Str} (hn : l.most = some n) (hn2 : n ≤ sizeLine) (hdf : d.params.defaults = []) (hr : Room k callerA) (hY : ∀ (w : World) (h : Heap), YP w h → (K w.params).In h)
    (F : ∀ (w : World) (lo : List Str) (mean : ExcName → Option Value) (mg mb : Str → Option Value) (fa : Addr) (h : Heap), (K w.params).In h → Top q lo mean mg mb h → mg d.name = some (.ref fa) → LawAtS l w (K w.params) C8.CX0 k n x mg fa h) : WalkO q loose XP YP l.row.toRowW d [] (fun f vs => PySem.call f vs) := by
  refine attach_callB hn hdf fun w s₀ s₁ mg mb fa o pm cd doc a vs ns G Y ho hd hcd hmg hobj hints hlen hbits hg => ?_
  have KX := hY w _ Y
  obtain ⟨fd, cs, sp, hT, nT, C, hb, hsp, hF⟩ := F w _ _ mg mb fa _ KX G.T hmg
  exact law_callTs KX G.T.g G.T.b G.T.builtins G.T.nolimit hg hT nT C G.T.bmain hobj hints (Nat.le_trans hlen hn2) hr hF hb (fun H hH hS => hsp H a ns hlen hbits hH hS) fun H e s' z => z
end
end
def top (i : Nat) : Stmt := PySem.Challenge.pw_keepbefore_k03_invalid_disks.main.body.getD i (.Pass ⟨0, 0, 0, 0⟩)
abbrev s_is_number : Stmt := top 30
theorem sc_is_number : FnScope ["thing"] ["thing"] (defScope s_is_number) := ⟨rfl, rfl, rfl, by decide +kernel, rfl, by decide +kernel, by decide +kernel⟩
abbrev s_is_number_from : Stmt := top 31
theorem sc_is_number_from : FnScope ["thing", "least", "most"] ["thing", "least", "most"] (defScope s_is_number_from) := ⟨rfl, rfl, rfl, by decide +kernel, rfl, by decide +kernel, by decide +kernel⟩
abbrev s_Disk___init__ : Stmt := inClass (top 34) 0
theorem sc_Disk___init__ : FnScope ["self", "cells", "content"] ["self", "cells", "content"] (defScope s_Disk___init__) := ⟨rfl, rfl, rfl, by decide +kernel, rfl, by decide +kernel, by decide +kernel⟩
abbrev s_Disk_read : Stmt := inClass (top 34) 2
theorem sc_Disk_read : FnScope ["self", "cell"] ["self", "cell"] (defScope s_Disk_read) := ⟨rfl, rfl, rfl, by decide +kernel, rfl, by decide +kernel, by decide +kernel⟩
abbrev s_Disk_write : Stmt := inClass (top 34) 3
theorem sc_Disk_write : FnScope ["self", "cell", "content"] ["self", "cell", "content"] (defScope s_Disk_write) := ⟨rfl, rfl, rfl, by decide +kernel, rfl, by decide +kernel, by decide +kernel⟩
abbrev s_Disk_fail : Stmt := inClass (top 34) 5
theorem sc_Disk_fail : FnScope ["self", "kept", "number", "cell", "content"] ["self", "kept"] (defScope s_Disk_fail) := ⟨rfl, rfl, rfl, by decide +kernel, rfl, by decide +kernel, by decide +kernel⟩
abbrev s_Disk_contents : Stmt := inClass (top 34) 6
theorem sc_Disk_contents : FnScope ["self"] ["self"] (defScope s_Disk_contents) := ⟨rfl, rfl, rfl, by decide +kernel, rfl, by decide +kernel, by decide +kernel⟩
abbrev s_Disk_lasting : Stmt := inClass (top 34) 7
theorem sc_Disk_lasting : FnScope ["self"] ["self"] (defScope s_Disk_lasting) := ⟨rfl, rfl, rfl, by decide +kernel, rfl, by decide +kernel, by decide +kernel⟩
abbrev s_Disk_pending : Stmt := inClass (top 34) 8
theorem sc_Disk_pending : FnScope ["self"] ["self"] (defScope s_Disk_pending) := ⟨rfl, rfl, rfl, by decide +kernel, rfl, by decide +kernel, by decide +kernel⟩
abbrev s_Disk_counts : Stmt := inClass (top 34) 9
theorem sc_Disk_counts : FnScope ["self"] ["self"] (defScope s_Disk_counts) := ⟨rfl, rfl, rfl, by decide +kernel, rfl, by decide +kernel, by decide +kernel⟩
abbrev s_Disk__check_cell : Stmt := inClass (top 34) 10
theorem sc_Disk__check_cell : FnScope ["self", "cell"] ["self", "cell"] (defScope s_Disk__check_cell) := ⟨rfl, rfl, rfl, by decide +kernel, rfl, by decide +kernel, by decide +kernel⟩
abbrev s_are_kept : Stmt := top 35
theorem sc_are_kept : FnScope ["kept", "many", "least", "number"] ["kept", "many"] (defScope s_are_kept) := ⟨rfl, rfl, rfl, by decide +kernel, rfl, by decide +kernel, by decide +kernel⟩
abbrev s__law_random : Stmt := top 37
theorem sc__law_random : FnScope ["_law_script", "_law_salt", "_law_seed", "_law_cell"] ["_law_script", "_law_salt"] (defScope s__law_random) := ⟨rfl, rfl, rfl, by decide +kernel, rfl, by decide +kernel, by decide +kernel⟩
abbrev s__law_below : Stmt := top 38
theorem sc__law_below : FnScope ["_law_d", "_law_limit", "_law_result"] ["_law_d", "_law_limit"] (defScope s__law_below) := ⟨rfl, rfl, rfl, by decide +kernel, rfl, by decide +kernel, by decide +kernel⟩
abbrev s__law_told_of : Stmt := top 39
theorem sc__law_told_of : FnScope ["_law_e", "_law_name"] ["_law_e", "_law_name"] (defScope s__law_told_of) := ⟨rfl, rfl, rfl, by decide +kernel, rfl, by decide +kernel, by decide +kernel⟩
abbrev s__law_error_of : Stmt := top 40
theorem sc__law_error_of : FnScope ["_law_call", "_law_e", "_law_kinds", "_law_names"] ["_law_call"] (defScope s__law_error_of) := ⟨rfl, rfl, rfl, by decide +kernel, rfl, by decide +kernel, by decide +kernel⟩
abbrev s__law_all_raise : Stmt := top 41
theorem sc__law_all_raise : FnScope ["_law_calls", "_law_expected", "_law_call"] ["_law_calls", "_law_expected"] (defScope s__law_all_raise) := ⟨rfl, rfl, rfl, by decide +kernel, rfl, by decide +kernel, by decide +kernel⟩
abbrev s_law : Stmt := top 42
theorem sc_law : FnScope ["_law_script", "_law_d", "_law_far", "_law_cells", "_law_k", "_law_before", "_law_calls", "_law_cell", "_law_disk", "_law_kept", "_law_size"] ["_law_script"] (defScope s_law) := ⟨rfl, rfl, rfl, by decide +kernel, rfl, by decide +kernel, by decide +kernel⟩
structure Gx (K : PySem.W.Frag) (mg : Str → Option Value) where
  C_Disk : Addr
  cl_Disk : Cls K C_Disk
  gC_Disk : mg "Disk" = some (.ref C_Disk)
  n_Disk__contents : NoAttr K C_Disk "_contents"
  n_Disk__lasting : NoAttr K C_Disk "_lasting"
  n_Disk__pending : NoAttr K C_Disk "_pending"
  n_Disk__reads : NoAttr K C_Disk "_reads"
  n_Disk__writes : NoAttr K C_Disk "_writes"
  n_Disk__syncs : NoAttr K C_Disk "_syncs"
  f_is_number : Addr
  fd_is_number : FuncData
  F_is_number : Fun K "is_number" "is_number" s_is_number f_is_number fd_is_number
  g_is_number : mg "is_number" = some (.ref f_is_number)
  f_is_number_from : Addr
  fd_is_number_from : FuncData
  F_is_number_from : Fun K "is_number_from" "is_number_from" s_is_number_from f_is_number_from fd_is_number_from
  g_is_number_from : mg "is_number_from" = some (.ref f_is_number_from)
  f_Disk___init__ : Addr
  fd_Disk___init__ : FuncData
  F_Disk___init__ : FunD K "__init__" "Disk.__init__" (defArgs s_Disk___init__) (defBody s_Disk___init__) (defScope s_Disk___init__) [] [("content", .int 0)] f_Disk___init__ fd_Disk___init__
  M_Disk___init__ : Mk K C_Disk f_Disk___init__
  f_Disk_read : Addr
  fd_Disk_read : FuncData
  F_Disk_read : Fun K "read" "Disk.read" s_Disk_read f_Disk_read fd_Disk_read
  m_Disk_read : Meth K C_Disk "read" f_Disk_read
  f_Disk_write : Addr
  fd_Disk_write : FuncData
  F_Disk_write : Fun K "write" "Disk.write" s_Disk_write f_Disk_write fd_Disk_write
  m_Disk_write : Meth K C_Disk "write" f_Disk_write
  f_Disk_fail : Addr
  fd_Disk_fail : FuncData
  F_Disk_fail : Fun K "fail" "Disk.fail" s_Disk_fail f_Disk_fail fd_Disk_fail
  m_Disk_fail : Meth K C_Disk "fail" f_Disk_fail
  f_Disk_contents : Addr
  fd_Disk_contents : FuncData
  F_Disk_contents : Fun K "contents" "Disk.contents" s_Disk_contents f_Disk_contents fd_Disk_contents
  p_Disk_contents : Addr
  P_Disk_contents : PropOf K C_Disk "contents" p_Disk_contents f_Disk_contents
  f_Disk_lasting : Addr
  fd_Disk_lasting : FuncData
  F_Disk_lasting : Fun K "lasting" "Disk.lasting" s_Disk_lasting f_Disk_lasting fd_Disk_lasting
  p_Disk_lasting : Addr
  P_Disk_lasting : PropOf K C_Disk "lasting" p_Disk_lasting f_Disk_lasting
  f_Disk_pending : Addr
  fd_Disk_pending : FuncData
  F_Disk_pending : Fun K "pending" "Disk.pending" s_Disk_pending f_Disk_pending fd_Disk_pending
  p_Disk_pending : Addr
  P_Disk_pending : PropOf K C_Disk "pending" p_Disk_pending f_Disk_pending
  f_Disk_counts : Addr
  fd_Disk_counts : FuncData
  F_Disk_counts : Fun K "counts" "Disk.counts" s_Disk_counts f_Disk_counts fd_Disk_counts
  p_Disk_counts : Addr
  P_Disk_counts : PropOf K C_Disk "counts" p_Disk_counts f_Disk_counts
  f_Disk__check_cell : Addr
  fd_Disk__check_cell : FuncData
  F_Disk__check_cell : Fun K "_check_cell" "Disk._check_cell" s_Disk__check_cell f_Disk__check_cell fd_Disk__check_cell
  m_Disk__check_cell : Meth K C_Disk "_check_cell" f_Disk__check_cell
  f_are_kept : Addr
  fd_are_kept : FuncData
  F_are_kept : Fun K "are_kept" "are_kept" s_are_kept f_are_kept fd_are_kept
  g_are_kept : mg "are_kept" = some (.ref f_are_kept)
  f__law_random : Addr
  fd__law_random : FuncData
  F__law_random : Fun K "_law_random" "_law_random" s__law_random f__law_random fd__law_random
  g__law_random : mg "_law_random" = some (.ref f__law_random)
  f__law_below : Addr
  fd__law_below : FuncData
  F__law_below : Fun K "_law_below" "_law_below" s__law_below f__law_below fd__law_below
  g__law_below : mg "_law_below" = some (.ref f__law_below)
  f__law_told_of : Addr
  fd__law_told_of : FuncData
  F__law_told_of : Fun K "_law_told_of" "_law_told_of" s__law_told_of f__law_told_of fd__law_told_of
  g__law_told_of : mg "_law_told_of" = some (.ref f__law_told_of)
  f__law_error_of : Addr
  fd__law_error_of : FuncData
  F__law_error_of : Fun K "_law_error_of" "_law_error_of" s__law_error_of f__law_error_of fd__law_error_of
  g__law_error_of : mg "_law_error_of" = some (.ref f__law_error_of)
  f__law_all_raise : Addr
  fd__law_all_raise : FuncData
  F__law_all_raise : Fun K "_law_all_raise" "_law_all_raise" s__law_all_raise f__law_all_raise fd__law_all_raise
  g__law_all_raise : mg "_law_all_raise" = some (.ref f__law_all_raise)
  z_isinstance : mg "isinstance" = none
  z_int : mg "int" = none
  z_bool : mg "bool" = none
  z_str : mg "str" = none
  z_list : mg "list" = none
  z_tuple : mg "tuple" = none
  z_len : mg "len" = none
  z_abs : mg "abs" = none
  z_range : mg "range" = none
  z_ValueError : mg "ValueError" = none
  t_MOST_CELLS : Tok
  c_MOST_CELLS : mg "MOST_CELLS" = some (.int 64 t_MOST_CELLS)
  file : Str
  third : PySem.W.nsIn K cStatics "thirdparty.any" = some none
  C_InvalidSize : Addr
  gC_InvalidSize : mg "InvalidSize" = some (.ref C_InvalidSize)
  ic_InvalidSize : PySem.W.isClsIn K C_InvalidSize = true
  ty_InvalidSize : PySem.W.typeIn K (.ref C_InvalidSize) = some (.type "type")
  C_InvalidCell : Addr
  gC_InvalidCell : mg "InvalidCell" = some (.ref C_InvalidCell)
  ic_InvalidCell : PySem.W.isClsIn K C_InvalidCell = true
  ty_InvalidCell : PySem.W.typeIn K (.ref C_InvalidCell) = some (.type "type")
  C_InvalidKept : Addr
  gC_InvalidKept : mg "InvalidKept" = some (.ref C_InvalidKept)
  ic_InvalidKept : PySem.W.isClsIn K C_InvalidKept = true
  ty_InvalidKept : PySem.W.typeIn K (.ref C_InvalidKept) = some (.type "type")
  C_InvalidBlock : Addr
  gC_InvalidBlock : mg "InvalidBlock" = some (.ref C_InvalidBlock)
  ic_InvalidBlock : PySem.W.isClsIn K C_InvalidBlock = true
  ty_InvalidBlock : PySem.W.typeIn K (.ref C_InvalidBlock) = some (.type "type")
  C_InvalidValue : Addr
  gC_InvalidValue : mg "InvalidValue" = some (.ref C_InvalidValue)
  ic_InvalidValue : PySem.W.isClsIn K C_InvalidValue = true
  ty_InvalidValue : PySem.W.typeIn K (.ref C_InvalidValue) = some (.type "type")
  C_InvalidCount : Addr
  gC_InvalidCount : mg "InvalidCount" = some (.ref C_InvalidCount)
  ic_InvalidCount : PySem.W.isClsIn K C_InvalidCount = true
  ty_InvalidCount : PySem.W.typeIn K (.ref C_InvalidCount) = some (.type "type")
  C_InvalidSlot : Addr
  gC_InvalidSlot : mg "InvalidSlot" = some (.ref C_InvalidSlot)
  ic_InvalidSlot : PySem.W.isClsIn K C_InvalidSlot = true
  ty_InvalidSlot : PySem.W.typeIn K (.ref C_InvalidSlot) = some (.type "type")
  C_InvalidWord : Addr
  gC_InvalidWord : mg "InvalidWord" = some (.ref C_InvalidWord)
  ic_InvalidWord : PySem.W.isClsIn K C_InvalidWord = true
  ty_InvalidWord : PySem.W.typeIn K (.ref C_InvalidWord) = some (.type "type")
  C_InvalidStory : Addr
  gC_InvalidStory : mg "InvalidStory" = some (.ref C_InvalidStory)
  ic_InvalidStory : PySem.W.isClsIn K C_InvalidStory = true
  ty_InvalidStory : PySem.W.typeIn K (.ref C_InvalidStory) = some (.type "type")
  C_PowerOff : Addr
  gC_PowerOff : mg "PowerOff" = some (.ref C_PowerOff)
  ic_PowerOff : PySem.W.isClsIn K C_PowerOff = true
  ty_PowerOff : PySem.W.typeIn K (.ref C_PowerOff) = some (.type "type")
  C_PowerOn : Addr
  gC_PowerOn : mg "PowerOn" = some (.ref C_PowerOn)
  ic_PowerOn : PySem.W.isClsIn K C_PowerOn = true
  ty_PowerOn : PySem.W.typeIn K (.ref C_PowerOn) = some (.type "type")
  C_NoFastDisk : Addr
  gC_NoFastDisk : mg "NoFastDisk" = some (.ref C_NoFastDisk)
  ic_NoFastDisk : PySem.W.isClsIn K C_NoFastDisk = true
  ty_NoFastDisk : PySem.W.typeIn K (.ref C_NoFastDisk) = some (.type "type")
  C_HasFastDisk : Addr
  gC_HasFastDisk : mg "HasFastDisk" = some (.ref C_HasFastDisk)
  ic_HasFastDisk : PySem.W.isClsIn K C_HasFastDisk = true
  ty_HasFastDisk : PySem.W.typeIn K (.ref C_HasFastDisk) = some (.type "type")
  C_Unsettled : Addr
  gC_Unsettled : mg "Unsettled" = some (.ref C_Unsettled)
  ic_Unsettled : PySem.W.isClsIn K C_Unsettled = true
  ty_Unsettled : PySem.W.typeIn K (.ref C_Unsettled) = some (.type "type")
  C_Contradiction : Addr
  gC_Contradiction : mg "Contradiction" = some (.ref C_Contradiction)
  ic_Contradiction : PySem.W.isClsIn K C_Contradiction = true
  ty_Contradiction : PySem.W.typeIn K (.ref C_Contradiction) = some (.type "type")
  C_InvalidName : Addr
  gC_InvalidName : mg "InvalidName" = some (.ref C_InvalidName)
  ic_InvalidName : PySem.W.isClsIn K C_InvalidName = true
  ty_InvalidName : PySem.W.typeIn K (.ref C_InvalidName) = some (.type "type")
  C_UnknownName : Addr
  gC_UnknownName : mg "UnknownName" = some (.ref C_UnknownName)
  ic_UnknownName : PySem.W.isClsIn K C_UnknownName = true
  ty_UnknownName : PySem.W.typeIn K (.ref C_UnknownName) = some (.type "type")
  C_InvalidRules : Addr
  gC_InvalidRules : mg "InvalidRules" = some (.ref C_InvalidRules)
  ic_InvalidRules : PySem.W.isClsIn K C_InvalidRules = true
  ty_InvalidRules : PySem.W.typeIn K (.ref C_InvalidRules) = some (.type "type")
  C_InvalidRecipes : Addr
  gC_InvalidRecipes : mg "InvalidRecipes" = some (.ref C_InvalidRecipes)
  ic_InvalidRecipes : PySem.W.isClsIn K C_InvalidRecipes = true
  ty_InvalidRecipes : PySem.W.typeIn K (.ref C_InvalidRecipes) = some (.type "type")
  C_InvalidRequests : Addr
  gC_InvalidRequests : mg "InvalidRequests" = some (.ref C_InvalidRequests)
  ic_InvalidRequests : PySem.W.isClsIn K C_InvalidRequests = true
  ty_InvalidRequests : PySem.W.typeIn K (.ref C_InvalidRequests) = some (.type "type")
  C_InvalidPrices : Addr
  gC_InvalidPrices : mg "InvalidPrices" = some (.ref C_InvalidPrices)
  ic_InvalidPrices : PySem.W.isClsIn K C_InvalidPrices = true
  ty_InvalidPrices : PySem.W.typeIn K (.ref C_InvalidPrices) = some (.type "type")
  C_InvalidPlan : Addr
  gC_InvalidPlan : mg "InvalidPlan" = some (.ref C_InvalidPlan)
  ic_InvalidPlan : PySem.W.isClsIn K C_InvalidPlan = true
  ty_InvalidPlan : PySem.W.typeIn K (.ref C_InvalidPlan) = some (.type "type")
  C_PowerFailed : Addr
  gC_PowerFailed : mg "PowerFailed" = some (.ref C_PowerFailed)
  ic_PowerFailed : PySem.W.isClsIn K C_PowerFailed = true
  ty_PowerFailed : PySem.W.typeIn K (.ref C_PowerFailed) = some (.type "type")
  C_InvalidOperation : Addr
  gC_InvalidOperation : mg "InvalidOperation" = some (.ref C_InvalidOperation)
  ic_InvalidOperation : PySem.W.isClsIn K C_InvalidOperation = true
  ty_InvalidOperation : PySem.W.typeIn K (.ref C_InvalidOperation) = some (.type "type")
  C_NotationError : Addr
  gC_NotationError : mg "NotationError" = some (.ref C_NotationError)
  ic_NotationError : PySem.W.isClsIn K C_NotationError = true
  ty_NotationError : PySem.W.typeIn K (.ref C_NotationError) = some (.type "type")
  C_DecodeError : Addr
  gC_DecodeError : mg "DecodeError" = some (.ref C_DecodeError)
  ic_DecodeError : PySem.W.isClsIn K C_DecodeError = true
  ty_DecodeError : PySem.W.typeIn K (.ref C_DecodeError) = some (.type "type")
  C_PairError : Addr
  gC_PairError : mg "PairError" = some (.ref C_PairError)
  ic_PairError : PySem.W.isClsIn K C_PairError = true
  ty_PairError : PySem.W.typeIn K (.ref C_PairError) = some (.type "type")
  pb : PySem.W.subIn K (.ref C_PairError) (.type "BaseException") = some true
  ph : PySem.W.hasDictIn K C_PairError = true
  sb_InvalidSize_InvalidSize : PySem.W.subIn K (.ref C_InvalidSize) (.ref C_InvalidSize) = some true
  sb_InvalidSize_InvalidCell : PySem.W.subIn K (.ref C_InvalidSize) (.ref C_InvalidCell) = some false
  sb_InvalidSize_InvalidKept : PySem.W.subIn K (.ref C_InvalidSize) (.ref C_InvalidKept) = some false
  sb_InvalidSize_InvalidBlock : PySem.W.subIn K (.ref C_InvalidSize) (.ref C_InvalidBlock) = some false
  sb_InvalidSize_InvalidValue : PySem.W.subIn K (.ref C_InvalidSize) (.ref C_InvalidValue) = some false
  sb_InvalidSize_InvalidCount : PySem.W.subIn K (.ref C_InvalidSize) (.ref C_InvalidCount) = some false
  sb_InvalidSize_InvalidSlot : PySem.W.subIn K (.ref C_InvalidSize) (.ref C_InvalidSlot) = some false
  sb_InvalidSize_InvalidWord : PySem.W.subIn K (.ref C_InvalidSize) (.ref C_InvalidWord) = some false
  sb_InvalidSize_InvalidStory : PySem.W.subIn K (.ref C_InvalidSize) (.ref C_InvalidStory) = some false
  sb_InvalidSize_PowerOff : PySem.W.subIn K (.ref C_InvalidSize) (.ref C_PowerOff) = some false
  sb_InvalidSize_PowerOn : PySem.W.subIn K (.ref C_InvalidSize) (.ref C_PowerOn) = some false
  sb_InvalidSize_NoFastDisk : PySem.W.subIn K (.ref C_InvalidSize) (.ref C_NoFastDisk) = some false
  sb_InvalidSize_HasFastDisk : PySem.W.subIn K (.ref C_InvalidSize) (.ref C_HasFastDisk) = some false
  sb_InvalidSize_Unsettled : PySem.W.subIn K (.ref C_InvalidSize) (.ref C_Unsettled) = some false
  sb_InvalidSize_Contradiction : PySem.W.subIn K (.ref C_InvalidSize) (.ref C_Contradiction) = some false
  sb_InvalidSize_InvalidName : PySem.W.subIn K (.ref C_InvalidSize) (.ref C_InvalidName) = some false
  sb_InvalidSize_UnknownName : PySem.W.subIn K (.ref C_InvalidSize) (.ref C_UnknownName) = some false
  sb_InvalidSize_InvalidRules : PySem.W.subIn K (.ref C_InvalidSize) (.ref C_InvalidRules) = some false
  sb_InvalidSize_InvalidRecipes : PySem.W.subIn K (.ref C_InvalidSize) (.ref C_InvalidRecipes) = some false
  sb_InvalidSize_InvalidRequests : PySem.W.subIn K (.ref C_InvalidSize) (.ref C_InvalidRequests) = some false
  sb_InvalidSize_InvalidPrices : PySem.W.subIn K (.ref C_InvalidSize) (.ref C_InvalidPrices) = some false
  sb_InvalidSize_InvalidPlan : PySem.W.subIn K (.ref C_InvalidSize) (.ref C_InvalidPlan) = some false
  sb_InvalidSize_PowerFailed : PySem.W.subIn K (.ref C_InvalidSize) (.ref C_PowerFailed) = some false
  sb_InvalidSize_InvalidOperation : PySem.W.subIn K (.ref C_InvalidSize) (.ref C_InvalidOperation) = some false
  sb_InvalidSize_NotationError : PySem.W.subIn K (.ref C_InvalidSize) (.ref C_NotationError) = some false
  sb_InvalidSize_DecodeError : PySem.W.subIn K (.ref C_InvalidSize) (.ref C_DecodeError) = some false
  sb_InvalidSize_PairError : PySem.W.subIn K (.ref C_InvalidSize) (.ref C_PairError) = some true
  vb_InvalidSize : PySem.W.subIn K (.ref C_InvalidSize) (.type "ValueError") = some true
  E_InvalidSize : ExcC K C_InvalidSize
  kp_InvalidSize : PySem.W.keepIn K (.ref C_InvalidSize) = true
  pl_InvalidSize : PySem.W.excIn K C_InvalidSize PySem.HandSPX.veTail "ValueError.__new__" = true
  sb_InvalidCell_InvalidSize : PySem.W.subIn K (.ref C_InvalidCell) (.ref C_InvalidSize) = some false
  sb_InvalidCell_InvalidCell : PySem.W.subIn K (.ref C_InvalidCell) (.ref C_InvalidCell) = some true
  sb_InvalidCell_InvalidKept : PySem.W.subIn K (.ref C_InvalidCell) (.ref C_InvalidKept) = some false
  sb_InvalidCell_InvalidBlock : PySem.W.subIn K (.ref C_InvalidCell) (.ref C_InvalidBlock) = some false
  sb_InvalidCell_InvalidValue : PySem.W.subIn K (.ref C_InvalidCell) (.ref C_InvalidValue) = some false
  sb_InvalidCell_InvalidCount : PySem.W.subIn K (.ref C_InvalidCell) (.ref C_InvalidCount) = some false
  sb_InvalidCell_InvalidSlot : PySem.W.subIn K (.ref C_InvalidCell) (.ref C_InvalidSlot) = some false
  sb_InvalidCell_InvalidWord : PySem.W.subIn K (.ref C_InvalidCell) (.ref C_InvalidWord) = some false
  sb_InvalidCell_InvalidStory : PySem.W.subIn K (.ref C_InvalidCell) (.ref C_InvalidStory) = some false
  sb_InvalidCell_PowerOff : PySem.W.subIn K (.ref C_InvalidCell) (.ref C_PowerOff) = some false
  sb_InvalidCell_PowerOn : PySem.W.subIn K (.ref C_InvalidCell) (.ref C_PowerOn) = some false
  sb_InvalidCell_NoFastDisk : PySem.W.subIn K (.ref C_InvalidCell) (.ref C_NoFastDisk) = some false
  sb_InvalidCell_HasFastDisk : PySem.W.subIn K (.ref C_InvalidCell) (.ref C_HasFastDisk) = some false
  sb_InvalidCell_Unsettled : PySem.W.subIn K (.ref C_InvalidCell) (.ref C_Unsettled) = some false
  sb_InvalidCell_Contradiction : PySem.W.subIn K (.ref C_InvalidCell) (.ref C_Contradiction) = some false
  sb_InvalidCell_InvalidName : PySem.W.subIn K (.ref C_InvalidCell) (.ref C_InvalidName) = some false
  sb_InvalidCell_UnknownName : PySem.W.subIn K (.ref C_InvalidCell) (.ref C_UnknownName) = some false
  sb_InvalidCell_InvalidRules : PySem.W.subIn K (.ref C_InvalidCell) (.ref C_InvalidRules) = some false
  sb_InvalidCell_InvalidRecipes : PySem.W.subIn K (.ref C_InvalidCell) (.ref C_InvalidRecipes) = some false
  sb_InvalidCell_InvalidRequests : PySem.W.subIn K (.ref C_InvalidCell) (.ref C_InvalidRequests) = some false
  sb_InvalidCell_InvalidPrices : PySem.W.subIn K (.ref C_InvalidCell) (.ref C_InvalidPrices) = some false
  sb_InvalidCell_InvalidPlan : PySem.W.subIn K (.ref C_InvalidCell) (.ref C_InvalidPlan) = some false
  sb_InvalidCell_PowerFailed : PySem.W.subIn K (.ref C_InvalidCell) (.ref C_PowerFailed) = some false
  sb_InvalidCell_InvalidOperation : PySem.W.subIn K (.ref C_InvalidCell) (.ref C_InvalidOperation) = some false
  sb_InvalidCell_NotationError : PySem.W.subIn K (.ref C_InvalidCell) (.ref C_NotationError) = some false
  sb_InvalidCell_DecodeError : PySem.W.subIn K (.ref C_InvalidCell) (.ref C_DecodeError) = some false
  sb_InvalidCell_PairError : PySem.W.subIn K (.ref C_InvalidCell) (.ref C_PairError) = some true
  vb_InvalidCell : PySem.W.subIn K (.ref C_InvalidCell) (.type "ValueError") = some true
  E_InvalidCell : ExcC K C_InvalidCell
  kp_InvalidCell : PySem.W.keepIn K (.ref C_InvalidCell) = true
  pl_InvalidCell : PySem.W.excIn K C_InvalidCell PySem.HandSPX.veTail "ValueError.__new__" = true
  sb_InvalidKept_InvalidSize : PySem.W.subIn K (.ref C_InvalidKept) (.ref C_InvalidSize) = some false
  sb_InvalidKept_InvalidCell : PySem.W.subIn K (.ref C_InvalidKept) (.ref C_InvalidCell) = some false
  sb_InvalidKept_InvalidKept : PySem.W.subIn K (.ref C_InvalidKept) (.ref C_InvalidKept) = some true
  sb_InvalidKept_InvalidBlock : PySem.W.subIn K (.ref C_InvalidKept) (.ref C_InvalidBlock) = some false
  sb_InvalidKept_InvalidValue : PySem.W.subIn K (.ref C_InvalidKept) (.ref C_InvalidValue) = some false
  sb_InvalidKept_InvalidCount : PySem.W.subIn K (.ref C_InvalidKept) (.ref C_InvalidCount) = some false
  sb_InvalidKept_InvalidSlot : PySem.W.subIn K (.ref C_InvalidKept) (.ref C_InvalidSlot) = some false
  sb_InvalidKept_InvalidWord : PySem.W.subIn K (.ref C_InvalidKept) (.ref C_InvalidWord) = some false
  sb_InvalidKept_InvalidStory : PySem.W.subIn K (.ref C_InvalidKept) (.ref C_InvalidStory) = some false
  sb_InvalidKept_PowerOff : PySem.W.subIn K (.ref C_InvalidKept) (.ref C_PowerOff) = some false
  sb_InvalidKept_PowerOn : PySem.W.subIn K (.ref C_InvalidKept) (.ref C_PowerOn) = some false
  sb_InvalidKept_NoFastDisk : PySem.W.subIn K (.ref C_InvalidKept) (.ref C_NoFastDisk) = some false
  sb_InvalidKept_HasFastDisk : PySem.W.subIn K (.ref C_InvalidKept) (.ref C_HasFastDisk) = some false
  sb_InvalidKept_Unsettled : PySem.W.subIn K (.ref C_InvalidKept) (.ref C_Unsettled) = some false
  sb_InvalidKept_Contradiction : PySem.W.subIn K (.ref C_InvalidKept) (.ref C_Contradiction) = some false
  sb_InvalidKept_InvalidName : PySem.W.subIn K (.ref C_InvalidKept) (.ref C_InvalidName) = some false
  sb_InvalidKept_UnknownName : PySem.W.subIn K (.ref C_InvalidKept) (.ref C_UnknownName) = some false
  sb_InvalidKept_InvalidRules : PySem.W.subIn K (.ref C_InvalidKept) (.ref C_InvalidRules) = some false
  sb_InvalidKept_InvalidRecipes : PySem.W.subIn K (.ref C_InvalidKept) (.ref C_InvalidRecipes) = some false
  sb_InvalidKept_InvalidRequests : PySem.W.subIn K (.ref C_InvalidKept) (.ref C_InvalidRequests) = some false
  sb_InvalidKept_InvalidPrices : PySem.W.subIn K (.ref C_InvalidKept) (.ref C_InvalidPrices) = some false
  sb_InvalidKept_InvalidPlan : PySem.W.subIn K (.ref C_InvalidKept) (.ref C_InvalidPlan) = some false
  sb_InvalidKept_PowerFailed : PySem.W.subIn K (.ref C_InvalidKept) (.ref C_PowerFailed) = some false
  sb_InvalidKept_InvalidOperation : PySem.W.subIn K (.ref C_InvalidKept) (.ref C_InvalidOperation) = some false
  sb_InvalidKept_NotationError : PySem.W.subIn K (.ref C_InvalidKept) (.ref C_NotationError) = some false
  sb_InvalidKept_DecodeError : PySem.W.subIn K (.ref C_InvalidKept) (.ref C_DecodeError) = some false
  sb_InvalidKept_PairError : PySem.W.subIn K (.ref C_InvalidKept) (.ref C_PairError) = some true
  vb_InvalidKept : PySem.W.subIn K (.ref C_InvalidKept) (.type "ValueError") = some true
  E_InvalidKept : ExcC K C_InvalidKept
  kp_InvalidKept : PySem.W.keepIn K (.ref C_InvalidKept) = true
  pl_InvalidKept : PySem.W.excIn K C_InvalidKept PySem.HandSPX.veTail "ValueError.__new__" = true
section
variable {K : PySem.W.Frag} {mg : Str → Option Value}
theorem b_is_number (T : Gx K mg) : Binds K T.fd_is_number ["thing"] [] := T.F_is_number.binds (ps := ["thing"]) fun _ _ _ _ _ _ us hl => match us, hl with | [_], _ => rfl
theorem b_is_number_from (T : Gx K mg) : Binds K T.fd_is_number_from ["thing", "least", "most"] [] := T.F_is_number_from.binds (ps := ["thing", "least", "most"]) fun _ _ _ _ _ _ us hl => match us, hl with | [_, _, _], _ => rfl
theorem b_Disk_read (T : Gx K mg) : Binds K T.fd_Disk_read ["self", "cell"] [] := T.F_Disk_read.binds (ps := ["self", "cell"]) fun _ _ _ _ _ _ us hl => match us, hl with | [_, _], _ => rfl
theorem b_Disk_write (T : Gx K mg) : Binds K T.fd_Disk_write ["self", "cell", "content"] [] := T.F_Disk_write.binds (ps := ["self", "cell", "content"]) fun _ _ _ _ _ _ us hl => match us, hl with | [_, _, _], _ => rfl
theorem b_Disk_fail (T : Gx K mg) : Binds K T.fd_Disk_fail ["self", "kept"] [] := T.F_Disk_fail.binds (ps := ["self", "kept"]) fun _ _ _ _ _ _ us hl => match us, hl with | [_, _], _ => rfl
theorem b_Disk_contents (T : Gx K mg) : Binds K T.fd_Disk_contents ["self"] [] := T.F_Disk_contents.binds (ps := ["self"]) fun _ _ _ _ _ _ us hl => match us, hl with | [_], _ => rfl
theorem b_Disk_lasting (T : Gx K mg) : Binds K T.fd_Disk_lasting ["self"] [] := T.F_Disk_lasting.binds (ps := ["self"]) fun _ _ _ _ _ _ us hl => match us, hl with | [_], _ => rfl
theorem b_Disk_pending (T : Gx K mg) : Binds K T.fd_Disk_pending ["self"] [] := T.F_Disk_pending.binds (ps := ["self"]) fun _ _ _ _ _ _ us hl => match us, hl with | [_], _ => rfl
theorem b_Disk_counts (T : Gx K mg) : Binds K T.fd_Disk_counts ["self"] [] := T.F_Disk_counts.binds (ps := ["self"]) fun _ _ _ _ _ _ us hl => match us, hl with | [_], _ => rfl
theorem b_Disk__check_cell (T : Gx K mg) : Binds K T.fd_Disk__check_cell ["self", "cell"] [] := T.F_Disk__check_cell.binds (ps := ["self", "cell"]) fun _ _ _ _ _ _ us hl => match us, hl with | [_, _], _ => rfl
theorem b_are_kept (T : Gx K mg) : Binds K T.fd_are_kept ["kept", "many"] [] := T.F_are_kept.binds (ps := ["kept", "many"]) fun _ _ _ _ _ _ us hl => match us, hl with | [_, _], _ => rfl
theorem b__law_random (T : Gx K mg) : Binds K T.fd__law_random ["_law_script", "_law_salt"] [] := T.F__law_random.binds (ps := ["_law_script", "_law_salt"]) fun _ _ _ _ _ _ us hl => match us, hl with | [_, _], _ => rfl
theorem b__law_below (T : Gx K mg) : Binds K T.fd__law_below ["_law_d", "_law_limit"] [] := T.F__law_below.binds (ps := ["_law_d", "_law_limit"]) fun _ _ _ _ _ _ us hl => match us, hl with | [_, _], _ => rfl
theorem b__law_told_of (T : Gx K mg) : Binds K T.fd__law_told_of ["_law_e", "_law_name"] [] := T.F__law_told_of.binds (ps := ["_law_e", "_law_name"]) fun _ _ _ _ _ _ us hl => match us, hl with | [_, _], _ => rfl
theorem b__law_error_of (T : Gx K mg) : Binds K T.fd__law_error_of ["_law_call"] [] := T.F__law_error_of.binds (ps := ["_law_call"]) fun _ _ _ _ _ _ us hl => match us, hl with | [_], _ => rfl
theorem b__law_all_raise (T : Gx K mg) : Binds K T.fd__law_all_raise ["_law_calls", "_law_expected"] [] := T.F__law_all_raise.binds (ps := ["_law_calls", "_law_expected"]) fun _ _ _ _ _ _ us hl => match us, hl with | [_, _], _ => rfl
end
/-! ### the law's random list -/
def Rnd (H : Hp) (r : Addr) : Prop := ∃ (a b : Int) (ns : List Int), H r = some (.lst (V.int a :: V.int b :: ns.map V.int))
def spBelow : Sp := fun vs H Q _ => ∃ (r : Addr) (lim : Nat), vs = [.ref r, .int (lim : Int)] ∧ Rnd H r ∧ 0 < lim ∧ lim < 1000000 ∧ ∀ (z : Nat) (H' : Hp), z < lim → Fr [r] H H' → Rnd H' r → Q (.int (z : Int)) H'
theorem Rnd.put {H : Hp} {r : Addr} (a b : Int) (ns : List Int) : Rnd (upd H r (.lst (V.int a :: V.int b :: ns.map V.int))) r := ⟨a, b, ns, upd_same⟩
theorem Rnd.notup {H : Hp} {r : Addr} (h : Rnd H r) : ∀ b ∈ [r], ∀ xs, H b ≠ some (.tup xs) := by
  obtain ⟨a, b, ns, e⟩ := h
  intro b hb xs
  rw [List.mem_singleton.mp hb, e]
  simp
theorem Rnd.keep {H H' : Hp} {r : Addr} {S : List Addr} (h : Rnd H r) (f : Fr S H H') (n : r ∉ S) : Rnd H' r := by
  obtain ⟨a, b, ns, e⟩ := h
  exact ⟨a, b, ns, f _ _ e n⟩
section
variable {P : Program} {w : World} {K : PySem.W.Frag} {mg : Str → Option Value} {base : Heap}
theorem ok_below (T : Gx K mg) : FnOk P w K mg base CX0 1 T.f__law_below T.fd__law_below ["_law_d", "_law_limit"] spBelow := by
  refine T.F__law_below.ok sc__law_below (fun vs H Q E h => ?_) (fun cdv A outer s H vs Q E hr h => ?_)
  · obtain ⟨r, lim, rfl, _⟩ := h
    rfl
  · obtain ⟨r, lin, rfl, hR, h0', h1', k'⟩ := h
    obtain ⟨lim, hlim⟩ : ∃ lim : Int, lim = (lin : Int) := ⟨_, rfl⟩
    have h0 : 0 < lim := by omega
    have h1 : lim < 1000000 := by omega
    have k : ∀ (z : Int) (H' : Hp), 0 ≤ z → z < lim → Fr [r] H H' → Rnd H' r → Q (.int z) H' := fun z H' a b f g => by
      obtain ⟨n, rfl⟩ := Int.eq_ofNat_of_zero_le a
      exact k' n H' (by omega) f g
    rw [← hlim]
    refine ⟨_, C8.pss_cut (ps_if (PW.pt (pw_and (pt_cmpR op_eq (pe_ix ix_list (pv 0) pe_int (fun _ _ => rfl)) pe_int (nomark _))
          (pw_and1 (pt_cmpR op_gt (pe_callB call_len_seq (by rfl) T.z_len PySem.boot_len (pa_cons (pv 0) pa_nil)) pe_int (nomark _)))))
        (pss_one (ps_asg (pe_bm PySem.F.plainAttrs_list PySem.F.slot_list_pop PySem.F.type_list_pop mt_popAt (pv 0) (pa_cons pe_int pa_nil)) (pg_sub (pv 0) pe_int set_list))) pss_nil)
      (pss_cons (ps_if (pt_cmpR op_gt (pe_ix ix_list (pv 0) pe_int (fun _ _ => rfl)) pe_int (nomark _))
        (pss_cons (ps_set (i := 2) sc__law_below.nd rfl (.inl rfl) (pe_op op_mod (pe_callTy call_int1 (by rfl) T.z_int (by decide +kernel) (pa_cons (pe_ix ix_list (pv 0) pe_int (fun _ _ => rfl)) pa_nil)) (pv 1)))
        (pss_cons (ps_asg (pe_op op_fdiv (pe_ix ix_list (pv 0) pe_int (fun _ _ => rfl)) (pv 1)) (pg_sub (pv 0) pe_int set_list))
        (pss_one (ps_ret (pv 2))))) pss_nil)
      (pss_cons (ps_asg (pe_op op_mod (pe_callTy call_int1 (by rfl) T.z_int (by decide +kernel) (pa_cons (pe_op op_add (pe_op op_mul (pe_ix ix_list (pv 0) pe_int (fun _ _ => rfl)) pe_int) pe_int) pa_nil)) pe_int) (pg_sub (pv 0) pe_int set_list))
      (pss_one (ps_ret (pe_op op_mod (pe_callTy call_int1 (by rfl) T.z_int (by decide +kernel) (pa_cons (pe_op op_fdiv (pe_ix ix_list (pv 0) pe_int (fun _ _ => rfl)) pe_int) pa_nil)) (pv 1)))))), ?_⟩
    refine ⟨fun σ H1 => σ = [some (.ref r), some (.int lim), none] ∧ Rnd H1 r ∧ Fr [r] H H1, ?_, ?_⟩
    · obtain ⟨a, b, ns, e⟩ := hR
      have hR0 : Rnd H r := ⟨a, b, ns, e⟩
      refine ⟨_, rfl, r, _, 1, .int b, rfl, rfl, SqL.of e, atI_nat (j := 1) rfl, rfl, _, rfl, ite2 (fun hb => ?_) (fun hb => ?_)⟩
      · refine ⟨_, rfl, r, _, rfl, .inl (SqL.of e), _, _, rfl, rfl, _, rfl, ite2 (fun hl => ?_) (fun hl => ?_)⟩
        · have hl' : (2 : Int) < ((V.int a :: V.int b :: ns.map V.int).length : Int) := of_decide_eq_true hl
          cases ns with
          | nil => exact absurd hl' (by simp)
          | cons c rest =>
            refine ⟨_, rfl, .inl ⟨rfl, _, SqL.of e⟩, r, _, 2, 2, .int c, rfl, rfl, e, by decide, by decide, ?_, rfl, ?_⟩
            · show seqIndex? 2 _ = some 2
              unfold seqIndex?
              rw [List.length_cons, List.length_cons, List.map_cons, List.length_cons]
              simp
              omega
            · refine ⟨_, rfl, r, _, 1, 1, rfl, rfl, upd_same, ?_, rfl, ?_, ?_⟩
              · exact ix_at 1 (by simp [List.length_eraseIdx])
              · rw [upd_upd]
                exact Rnd.put a c rest
              · rw [upd_upd]
                exact Fr.put (List.mem_singleton.mpr rfl)
        · exact ⟨rfl, hR0, Fr.refl _ _⟩
      · exact ⟨rfl, hR0, Fr.refl _ _⟩
    · rintro σ' H1 ⟨rfl, ⟨a, b, ns, e⟩, fr⟩
      refine ⟨_, rfl, r, _, 1, .int b, rfl, rfl, SqL.of e, atI_nat (j := 1) rfl, _, _, rfl, rfl, _, rfl, ite2 (fun hb => ?_) (fun hb => ?_)⟩
      · refine ⟨_, rfl, r, _, 1, .int b, rfl, rfl, SqL.of e, atI_nat (j := 1) rfl, .inl ⟨_, rfl, ?_⟩⟩
        refine ⟨_, rfl, _, _, rfl, rfl, h0, ?_⟩
        refine ⟨_, rfl, r, _, 1, .int b, rfl, rfl, SqL.of e, atI_nat (j := 1) rfl, _, rfl, _, _, rfl, rfl, ⟨h0, by omega⟩, ?_⟩
        refine ⟨_, rfl, r, _, 1, 1, rfl, rfl, e, ix_at 1 (by simp), ?_⟩
        refine ⟨_, rfl, k _ _ (Int.emod_nonneg _ (by omega)) (Int.emod_lt_of_pos _ h0) (fr.trans (Fr.put (List.mem_singleton.mpr rfl))) (Rnd.put a _ ns)⟩
      · refine ⟨_, rfl, r, _, 0, .int a, rfl, rfl, SqL.of e, atI_nat (j := 0) rfl, _, _, rfl, rfl, .inr (by decide), _, _, rfl, rfl, .inl ⟨_, rfl, _, _, rfl, rfl, (by show (0 : Int) < 2147483647; decide), ?_⟩⟩
        refine ⟨_, rfl, r, _, 0, 0, rfl, rfl, e, ix_at 0 (by simp), ?_⟩
        refine ⟨_, rfl, r, _, 0, _, rfl, rfl, SqL.of upd_same, atI_nat (j := 0) rfl, _, _, rfl, rfl, ⟨by decide, by decide⟩, .inl ⟨_, rfl, _, rfl, _, _, rfl, rfl, h0, ?_⟩⟩
        exact k _ _ (Int.emod_nonneg _ (by omega)) (Int.emod_lt_of_pos _ h0) (fr.trans (Fr.put (List.mem_singleton.mpr rfl))) (Rnd.put _ b ns)
end
def spRandom (K : PySem.W.Frag) : Sp := fun vs H Q _ => ∃ (a : Addr) (salt : Int) (ns : List Int), vs = [.ref a, .int salt] ∧ SqL K H a (ns.map V.int) ∧ ns.length ≤ 63 ∧ ∀ (r : Addr) (H' : Hp), H r = none → Fr [] H H' → Rnd H' r → Q (.ref r) H'
section
variable {P : Program} {w : World} {K : PySem.W.Frag} {mg : Str → Option Value} {base : Heap}
theorem ok_random (T : Gx K mg) : FnOk P w K mg base CX0 1 T.f__law_random T.fd__law_random ["_law_script", "_law_salt"] (spRandom K) := by
  refine T.F__law_random.ok sc__law_random (fun vs H Q E h => ?_) (fun cdv A outer s H vs Q E hr h => ?_)
  · obtain ⟨a, salt, ns, rfl, _⟩ := h
    rfl
  · obtain ⟨a, salt, ns, rfl, hS, hlen, k⟩ := h
    refine ⟨_, pss_cons (ps_set (i := 2) sc__law_random.nd rfl (.inl rfl) (pv 1))
      (pss_cons (ps_for PassesOwn.never rfl (pi_list (pv 0)) (pg_name (i := 3) sc__law_random.nd rfl (.inl rfl))
        (pss_one (ps_set (i := 2) sc__law_random.nd rfl (.inl rfl) (pe_op op_mod (pe_callTy call_int1 (by rfl) T.z_int (by decide +kernel) (pa_cons (pe_op op_add (pe_op op_mul (pv 2) pe_int) (pe_callB call_abs (by rfl) T.z_abs (by decide +kernel) (pa_cons (pv 3) pa_nil))) pa_nil)) pe_int))))
      (pss_one (ps_ret (pe_op op_cat (pe_lst (pa_cons (pv 2) (pa_cons pe_int pa_nil))) (pe_lc (own := [("_law_cell", 3)]) (g := gName 3) rfl sc__law_random.nd (pi_list (pv 0)) (blkOk_by (N := ["_law_script", "_law_salt", "_law_seed", "_law_cell"]) (sc := defScope s__law_random) (by decide +kernel)) (fun _ _ _ _ _ => pg_name (i := 3) sc__law_random.nd rfl (.inl rfl)) (fun _ _ _ _ _ => pts_one (pt_cmpR op_ge (pv 3) (pe_op op_pow pe_int pe_int) (nomark _))) (fun _ _ _ _ _ => pv 3)))))), ?_⟩
    refine ⟨_, rfl, _, rfl, a, rfl, ⟨_, hS⟩, for_list (K := K) (a := a) (xs := ns.map V.int) (fun i σ H' => H' = H ∧ ∃ (z : Int) (v : Option V), σ = [some (.ref a), some (.int salt), some (.int z), v]) ⟨rfl, salt, none, rfl⟩ (fun i σ H' _ e => by rw [e.1]; exact hS) ?_ ?_⟩
    · rintro i x σ H' hi ⟨rfl, z, v, rfl⟩
      obtain ⟨u, rfl, _⟩ := int_at hi
      exact ⟨_, rfl, _, _, rfl, rfl, .inr (by decide), _, rfl, _, rfl, _, _, rfl, rfl, .inl ⟨_, rfl, _, _, rfl, rfl, (by show (0 : Int) < 2147483647; decide), rfl, _, _, rfl⟩⟩
    · rintro σ H' ⟨rfl, z, v, rfl⟩
      refine ⟨_, rfl, sz_le (by simp), fun l hl => ?_⟩
      have sl : Fr [] H' (upd H' l (.lst [V.int z, V.int 0])) := Fr.new hl
      have hS1 : SqL K (upd H' l (.lst [V.int z, V.int 0])) a (ns.map V.int) := sl.seq (by simp) hS
      refine ⟨_, rfl, a, rfl, ⟨_, hS1⟩, fun D hD => ?_⟩
      have hDl := free_upd hD
      refine lc_list (K := K) (a := a) (xs := ns.map V.int) (fun i H2 => ∃ ms : List Int, ms.length ≤ i ∧ H2 = upd (upd H' l (.lst [V.int z, V.int 0])) D (.lst (ms.map V.int))) ⟨[], Nat.le_refl _, rfl⟩ ?_ ?_ ?_
      · rintro i H2 _ ⟨ms, _, rfl⟩
        exact (Fr.new (S := []) hD).seq (by simp) hS1
      · rintro i x H2 hi ⟨ms, hm, rfl⟩
        obtain ⟨u, rfl, _⟩ := int_at hi
        have li := lt_of_at hi
        rw [List.length_map] at li
        refine ⟨rfl, _, rfl, _, _, rfl, rfl, ⟨by decide, by decide, by decide⟩, _, _, rfl, rfl, _, rfl, ite2 (fun _ => ?_) (fun _ => ?_)⟩
        · refine ⟨_, rfl, _, upd_same, ?_, ms ++ [u], ?_, ?_⟩
          · rw [List.length_map]
            exact sz_lt (by omega)
          · rw [List.length_append, List.length_singleton]
            omega
          · rw [upd_upd, List.map_append]
            rfl
        · exact ⟨ms, by omega, rfl⟩
      · rintro H2 ⟨ms, hm, rfl⟩
        rw [List.length_map] at hm
        refine ⟨l, D, [V.int z, V.int 0], _, rfl, rfl, ?_, upd_same, ?_, fun p hp => ?_⟩
        · rw [upd_ne hDl.2.symm]
          exact upd_same
        · rw [List.length_map]
          exact sz_le (by simp; omega)
        · obtain ⟨hp1, _⟩ := free_upd hp
          obtain ⟨hp2, _⟩ := free_upd hp1
          exact k p _ hp2 ((sl.trans (Fr.new hD)).trans (Fr.new hp)) ⟨z, 0, ms, upd_same⟩
end
/-! ### what counts as a number -/
def spNum (K : PySem.W.Frag) : Sp := fun vs H Q _ => ∃ (v : V) (t : Value) (b1 b2 : Bool), vs = [v] ∧ TyX K H v t ∧ PySem.W.kitOne K t (.type "int") = some b1 ∧ PySem.W.kitOne K t (.type "bool") = some b2 ∧ Q (.bl (b1 && !b2)) H
def spNumFrom (K : PySem.W.Frag) : Sp := fun vs H Q _ => ∃ (v : V) (lo hi : Int), vs = [v, .int lo, .int hi] ∧
  ((∃ i : Int, v = .int i ∧ Q (.bl (decide (lo ≤ i) && decide (i ≤ hi))) H) ∨ ∃ (t : Value) (b1 b2 : Bool), TyX K H v t ∧ PySem.W.kitOne K t (.type "int") = some b1 ∧ PySem.W.kitOne K t (.type "bool") = some b2 ∧ (b1 && !b2) = false ∧ Q (.bl false) H)
section
variable {P : Program} {w : World} {K : PySem.W.Frag} {mg : Str → Option Value} {base : Heap}
theorem ok_num (T : Gx K mg) : FnOk P w K mg base CX0 1 T.f_is_number T.fd_is_number ["thing"] (spNum K) := by
  refine T.F_is_number.ok sc_is_number (fun vs H Q E h => ?_) (fun cdv A outer s H vs Q E hr h => ?_)
  · obtain ⟨v, t, b1, b2, rfl, _⟩ := h
    rfl
  · obtain ⟨v, t, b1, b2, rfl, ty, e1, e2, k⟩ := h
    refine ⟨_, pss_one (ps_ret (pe_and (pe_callB call_isi (by rfl) T.z_isinstance (by decide +kernel) (pa_cons (pv 0) (pa_cons (pe_bltn (v := .ty "int") (by rfl) T.z_int (by decide +kernel) rfl) pa_nil)))
      (pe_one (pe_not (pe_callB call_isi (by rfl) T.z_isinstance (by decide +kernel) (pa_cons (pv 0) (pa_cons (pe_bltn (v := .ty "bool") (by rfl) T.z_bool (by decide +kernel) rfl) pa_nil))))))), ?_⟩
    refine ⟨v, rfl, v, .ty "int", t, _, b1, rfl, ClsV.ty "int", ty, e1, b1, rfl, ?_⟩
    cases b1 with
    | false => exact iteF k
    | true => exact iteT ⟨v, rfl, v, .ty "bool", t, _, b2, rfl, ClsV.ty "bool", ty, e2, b2, rfl, k⟩
theorem ok_numFrom (T : Gx K mg) : FnOk P w K mg base CX0 2 T.f_is_number_from T.fd_is_number_from ["thing", "least", "most"] (spNumFrom K) := by
  have G1 : FnOk P w K mg base CX0 1 T.f_is_number T.fd_is_number ["thing"] (spNum K) := ok_num T
  refine T.F_is_number_from.ok sc_is_number_from (fun vs H Q E h => ?_) (fun cdv A outer s H vs Q E hr h => ?_)
  · obtain ⟨v, lo, hi, rfl, _⟩ := h
    rfl
  · obtain ⟨v, lo, hi, rfl, h⟩ := h
    refine ⟨_, pss_one (ps_ret (pe_and (pe_call G1 hr (by rfl) T.g_is_number T.F_is_number.kp (b_is_number T) .nil pass0 (pa_cons (pv 0) pa_nil)) (pe_one (pe_chain op_le op_le (pv 1) (pv 0) (pv 2))))), ?_⟩
    rcases h with ⟨i, rfl, k⟩ | ⟨t, b1, b2, ty, e1, e2, e3, k⟩
    · refine ⟨_, rfl, .int i, .type "int", true, false, rfl, .base (.int i), kit_ty (by decide +kernel), kit_ty (by decide +kernel), true, rfl, iteT ?_⟩
      refine ⟨_, rfl, _, rfl, _, _, rfl, rfl, _, rfl, ?_⟩
      by_cases hl : lo ≤ i
      · rw [decide_eq_true hl] at k ⊢
        exact iteT ⟨_, rfl, _, _, rfl, rfl, k⟩
      · rw [decide_eq_false hl] at k ⊢
        exact iteF k
    · refine ⟨_, rfl, v, t, b1, b2, rfl, ty, e1, e2, _, rfl, ?_⟩
      rw [e3]
      exact iteF k
end
/-! ### a disk's attributes -/
def dF (a b c d e f : V) : List (Str × V) := [("_contents", a), ("_lasting", b), ("_pending", c), ("_reads", d), ("_writes", e), ("_syncs", f)]
theorem nf01 : ¬ (("_contents" : Str) = "_lasting") := by decide +kernel
theorem bf01 : (("_contents" : Str) == "_lasting") = false := by decide +kernel
theorem nf02 : ¬ (("_contents" : Str) = "_pending") := by decide +kernel
theorem bf02 : (("_contents" : Str) == "_pending") = false := by decide +kernel
theorem nf03 : ¬ (("_contents" : Str) = "_reads") := by decide +kernel
theorem bf03 : (("_contents" : Str) == "_reads") = false := by decide +kernel
theorem nf04 : ¬ (("_contents" : Str) = "_writes") := by decide +kernel
theorem bf04 : (("_contents" : Str) == "_writes") = false := by decide +kernel
theorem nf05 : ¬ (("_contents" : Str) = "_syncs") := by decide +kernel
theorem bf05 : (("_contents" : Str) == "_syncs") = false := by decide +kernel
theorem nf10 : ¬ (("_lasting" : Str) = "_contents") := by decide +kernel
theorem bf10 : (("_lasting" : Str) == "_contents") = false := by decide +kernel
theorem nf12 : ¬ (("_lasting" : Str) = "_pending") := by decide +kernel
theorem bf12 : (("_lasting" : Str) == "_pending") = false := by decide +kernel
theorem nf13 : ¬ (("_lasting" : Str) = "_reads") := by decide +kernel
theorem bf13 : (("_lasting" : Str) == "_reads") = false := by decide +kernel
theorem nf14 : ¬ (("_lasting" : Str) = "_writes") := by decide +kernel
theorem bf14 : (("_lasting" : Str) == "_writes") = false := by decide +kernel
theorem nf15 : ¬ (("_lasting" : Str) = "_syncs") := by decide +kernel
theorem bf15 : (("_lasting" : Str) == "_syncs") = false := by decide +kernel
theorem nf20 : ¬ (("_pending" : Str) = "_contents") := by decide +kernel
theorem bf20 : (("_pending" : Str) == "_contents") = false := by decide +kernel
theorem nf21 : ¬ (("_pending" : Str) = "_lasting") := by decide +kernel
theorem bf21 : (("_pending" : Str) == "_lasting") = false := by decide +kernel
theorem nf23 : ¬ (("_pending" : Str) = "_reads") := by decide +kernel
theorem bf23 : (("_pending" : Str) == "_reads") = false := by decide +kernel
theorem nf24 : ¬ (("_pending" : Str) = "_writes") := by decide +kernel
theorem bf24 : (("_pending" : Str) == "_writes") = false := by decide +kernel
theorem nf25 : ¬ (("_pending" : Str) = "_syncs") := by decide +kernel
theorem bf25 : (("_pending" : Str) == "_syncs") = false := by decide +kernel
theorem nf30 : ¬ (("_reads" : Str) = "_contents") := by decide +kernel
theorem bf30 : (("_reads" : Str) == "_contents") = false := by decide +kernel
theorem nf31 : ¬ (("_reads" : Str) = "_lasting") := by decide +kernel
theorem bf31 : (("_reads" : Str) == "_lasting") = false := by decide +kernel
theorem nf32 : ¬ (("_reads" : Str) = "_pending") := by decide +kernel
theorem bf32 : (("_reads" : Str) == "_pending") = false := by decide +kernel
theorem nf34 : ¬ (("_reads" : Str) = "_writes") := by decide +kernel
theorem bf34 : (("_reads" : Str) == "_writes") = false := by decide +kernel
theorem nf35 : ¬ (("_reads" : Str) = "_syncs") := by decide +kernel
theorem bf35 : (("_reads" : Str) == "_syncs") = false := by decide +kernel
theorem nf40 : ¬ (("_writes" : Str) = "_contents") := by decide +kernel
theorem bf40 : (("_writes" : Str) == "_contents") = false := by decide +kernel
theorem nf41 : ¬ (("_writes" : Str) = "_lasting") := by decide +kernel
theorem bf41 : (("_writes" : Str) == "_lasting") = false := by decide +kernel
theorem nf42 : ¬ (("_writes" : Str) = "_pending") := by decide +kernel
theorem bf42 : (("_writes" : Str) == "_pending") = false := by decide +kernel
theorem nf43 : ¬ (("_writes" : Str) = "_reads") := by decide +kernel
theorem bf43 : (("_writes" : Str) == "_reads") = false := by decide +kernel
theorem nf45 : ¬ (("_writes" : Str) = "_syncs") := by decide +kernel
theorem bf45 : (("_writes" : Str) == "_syncs") = false := by decide +kernel
theorem nf50 : ¬ (("_syncs" : Str) = "_contents") := by decide +kernel
theorem bf50 : (("_syncs" : Str) == "_contents") = false := by decide +kernel
theorem nf51 : ¬ (("_syncs" : Str) = "_lasting") := by decide +kernel
theorem bf51 : (("_syncs" : Str) == "_lasting") = false := by decide +kernel
theorem nf52 : ¬ (("_syncs" : Str) = "_pending") := by decide +kernel
theorem bf52 : (("_syncs" : Str) == "_pending") = false := by decide +kernel
theorem nf53 : ¬ (("_syncs" : Str) = "_reads") := by decide +kernel
theorem bf53 : (("_syncs" : Str) == "_reads") = false := by decide +kernel
theorem nf54 : ¬ (("_syncs" : Str) = "_writes") := by decide +kernel
theorem bf54 : (("_syncs" : Str) == "_writes") = false := by decide +kernel
theorem bf00 : (("_contents" : Str) == "_contents") = true := by decide +kernel
theorem bf11 : (("_lasting" : Str) == "_lasting") = true := by decide +kernel
theorem bf22 : (("_pending" : Str) == "_pending") = true := by decide +kernel
theorem bf33 : (("_reads" : Str) == "_reads") = true := by decide +kernel
theorem bf44 : (("_writes" : Str) == "_writes") = true := by decide +kernel
theorem bf55 : (("_syncs" : Str) == "_syncs") = true := by decide +kernel
theorem dF_get0 {a b c d e f : V} : (dF a b c d e f).lookup ("_contents" : Str) = some a := by
  unfold dF
  simp only [List.lookup, bf00]
theorem dF_put0 {a b c d e f z : V} : putF "_contents" z (dF a b c d e f) = dF z b c d e f := by
  unfold dF
  simp only [putF, if_true, eq_self_iff_true]
theorem dF_get1 {a b c d e f : V} : (dF a b c d e f).lookup ("_lasting" : Str) = some b := by
  unfold dF
  simp only [List.lookup, bf10, bf11]
theorem dF_put1 {a b c d e f z : V} : putF "_lasting" z (dF a b c d e f) = dF a z c d e f := by
  unfold dF
  simp only [putF, if_neg nf01, if_true, eq_self_iff_true]
theorem dF_get2 {a b c d e f : V} : (dF a b c d e f).lookup ("_pending" : Str) = some c := by
  unfold dF
  simp only [List.lookup, bf20, bf21, bf22]
theorem dF_put2 {a b c d e f z : V} : putF "_pending" z (dF a b c d e f) = dF a b z d e f := by
  unfold dF
  simp only [putF, if_neg nf02, if_neg nf12, if_true, eq_self_iff_true]
theorem dF_get3 {a b c d e f : V} : (dF a b c d e f).lookup ("_reads" : Str) = some d := by
  unfold dF
  simp only [List.lookup, bf30, bf31, bf32, bf33]
theorem dF_put3 {a b c d e f z : V} : putF "_reads" z (dF a b c d e f) = dF a b c z e f := by
  unfold dF
  simp only [putF, if_neg nf03, if_neg nf13, if_neg nf23, if_true, eq_self_iff_true]
theorem dF_get4 {a b c d e f : V} : (dF a b c d e f).lookup ("_writes" : Str) = some e := by
  unfold dF
  simp only [List.lookup, bf40, bf41, bf42, bf43, bf44]
theorem dF_put4 {a b c d e f z : V} : putF "_writes" z (dF a b c d e f) = dF a b c d z f := by
  unfold dF
  simp only [putF, if_neg nf04, if_neg nf14, if_neg nf24, if_neg nf34, if_true, eq_self_iff_true]
theorem dF_get5 {a b c d e f : V} : (dF a b c d e f).lookup ("_syncs" : Str) = some f := by
  unfold dF
  simp only [List.lookup, bf50, bf51, bf52, bf53, bf54, bf55]
theorem dF_put5 {a b c d e f z : V} : putF "_syncs" z (dF a b c d e f) = dF a b c d e z := by
  unfold dF
  simp only [putF, if_neg nf05, if_neg nf15, if_neg nf25, if_neg nf35, if_neg nf45, if_true, eq_self_iff_true]
theorem dF_made {a b c d e f : V} : putF "_syncs" f (putF "_writes" e (putF "_reads" d (putF "_pending" c (putF "_lasting" b (putF "_contents" a []))))) = dF a b c d e f := by
  unfold dF
  simp only [putF, if_neg nf01, if_neg nf02, if_neg nf03, if_neg nf04, if_neg nf05, if_neg nf12, if_neg nf13, if_neg nf14, if_neg nf15, if_neg nf23, if_neg nf24, if_neg nf25, if_neg nf34, if_neg nf35, if_neg nf45]
theorem dF_no_write {a b c d e f : V} : (dF a b c d e f).lookup ("write" : Str) = none := by
  unfold dF
  simp only [List.lookup, (show (("write" : Str) == "_contents") = false by decide +kernel), (show (("write" : Str) == "_lasting") = false by decide +kernel), (show (("write" : Str) == "_pending") = false by decide +kernel), (show (("write" : Str) == "_reads") = false by decide +kernel), (show (("write" : Str) == "_writes") = false by decide +kernel), (show (("write" : Str) == "_syncs") = false by decide +kernel)]
theorem dF_no_sync {a b c d e f : V} : (dF a b c d e f).lookup ("sync" : Str) = none := by
  unfold dF
  simp only [List.lookup, (show (("sync" : Str) == "_contents") = false by decide +kernel), (show (("sync" : Str) == "_lasting") = false by decide +kernel), (show (("sync" : Str) == "_pending") = false by decide +kernel), (show (("sync" : Str) == "_reads") = false by decide +kernel), (show (("sync" : Str) == "_writes") = false by decide +kernel), (show (("sync" : Str) == "_syncs") = false by decide +kernel)]
theorem dF_no_fail {a b c d e f : V} : (dF a b c d e f).lookup ("fail" : Str) = none := by
  unfold dF
  simp only [List.lookup, (show (("fail" : Str) == "_contents") = false by decide +kernel), (show (("fail" : Str) == "_lasting") = false by decide +kernel), (show (("fail" : Str) == "_pending") = false by decide +kernel), (show (("fail" : Str) == "_reads") = false by decide +kernel), (show (("fail" : Str) == "_writes") = false by decide +kernel), (show (("fail" : Str) == "_syncs") = false by decide +kernel)]
theorem dF_no__check_cell {a b c d e f : V} : (dF a b c d e f).lookup ("_check_cell" : Str) = none := by
  unfold dF
  simp only [List.lookup, (show (("_check_cell" : Str) == "_contents") = false by decide +kernel), (show (("_check_cell" : Str) == "_lasting") = false by decide +kernel), (show (("_check_cell" : Str) == "_pending") = false by decide +kernel), (show (("_check_cell" : Str) == "_reads") = false by decide +kernel), (show (("_check_cell" : Str) == "_writes") = false by decide +kernel), (show (("_check_cell" : Str) == "_syncs") = false by decide +kernel)]
theorem dF_no_read {a b c d e f : V} : (dF a b c d e f).lookup ("read" : Str) = none := by
  unfold dF
  simp only [List.lookup, (show (("read" : Str) == "_contents") = false by decide +kernel), (show (("read" : Str) == "_lasting") = false by decide +kernel), (show (("read" : Str) == "_pending") = false by decide +kernel), (show (("read" : Str) == "_reads") = false by decide +kernel), (show (("read" : Str) == "_writes") = false by decide +kernel), (show (("read" : Str) == "_syncs") = false by decide +kernel)]
theorem dF_len {a b c d e f : V} : (dF a b c d e f).length < 1000 := by
  unfold dF
  simp
theorem putF_len (f : Str) (v : V) : ∀ fs : List (Str × V), (putF f v fs).length ≤ fs.length + 1
  | [] => Nat.le_refl _
  | (g, x) :: r => by
    show (if g = f then (g, v) :: r else (g, x) :: putF f v r).length ≤ r.length + 1 + 1
    split
    · simp
    · have := putF_len f v r
      simp only [List.length_cons]
      omega
/-! ### disks -/
structure Dk where
  p : Addr
  dx : Addr
  c : Addr
  l : Addr
  d : Addr
def Dk.own (D : Dk) : List Addr := [D.p, D.c, D.l, D.d]
def Pend (H : Hp) (ts : List Addr) (ps : List (Nat × V)) : Prop := ts.length = ps.length ∧ ∀ (i : Nat) (t : Addr) (q : Nat × V), ts[i]? = some t → ps[i]? = some q → H t = some (.tup [.int (q.1 : Int), q.2])
structure DiskAt (C : Addr) (H : Hp) (D : Dk) (cs ls : List V) (ps : List (Nat × V)) (r w s : Int) : Prop where
  ins : H D.p = some (.ins C D.dx (dF (.ref D.c) (.ref D.l) (.ref D.d) (.int r) (.int w) (.int s)))
  cs_ : H D.c = some (.lst cs)
  ls_ : H D.l = some (.lst ls)
  pend : ∃ ts : List Addr, H D.d = some (.lst (ts.map V.ref)) ∧ Pend H ts ps
  cl : D.c ≠ D.l
  cd : D.c ≠ D.d
  ld : D.l ≠ D.d
  len : cs.length = ls.length
  small : cs.length ≤ 64
  ok : ∀ q ∈ ps, q.1 < ls.length
theorem Pend.keep {H H' : Hp} {ts : List Addr} {ps : List (Nat × V)} {S : List Addr} (h : Pend H ts ps) (f : Fr S H H') (n : ∀ b ∈ S, ∀ xs, H b ≠ some (.tup xs)) : Pend H' ts ps :=
  ⟨h.1, fun i t q e1 e2 => f _ _ (h.2 i t q e1 e2) (fun z => n t z _ (h.2 i t q e1 e2))⟩
theorem Pend.snoc {H : Hp} {ts : List Addr} {ps : List (Nat × V)} {t : Addr} {i : Nat} {v : V} (h : Pend H ts ps) (e : H t = some (.tup [.int (i : Int), v])) : Pend H (ts ++ [t]) (ps ++ [(i, v)]) := by
  refine ⟨by rw [List.length_append, List.length_append, h.1]; rfl, fun j u q e1 e2 => ?_⟩
  by_cases hj : j < ts.length
  · rw [List.getElem?_append_left hj] at e1
    rw [List.getElem?_append_left (by rw [← h.1]; exact hj)] at e2
    exact h.2 j u q e1 e2
  · rw [List.getElem?_append_right (by omega)] at e1
    rw [List.getElem?_append_right (by rw [← h.1]; omega)] at e2
    rw [← h.1] at e2
    have hz : j - ts.length = 0 := by
      have := lt_of_at e1
      simp at this
      omega
    rw [hz] at e1 e2
    cases e1
    cases e2
    exact e
section
variable {C : Addr} {H H' : Hp} {D : Dk} {cs ls : List V} {ps : List (Nat × V)} {r w s : Int}
theorem DiskAt.there (h : DiskAt C H D cs ls ps r w s) : ∀ b ∈ D.own, ∃ o, H b = some o := by
  obtain ⟨ts, e, _⟩ := h.pend
  intro b hb
  simp only [Dk.own, List.mem_cons, List.not_mem_nil, or_false] at hb
  rcases hb with rfl | rfl | rfl | rfl
  · exact ⟨_, h.ins⟩
  · exact ⟨_, h.cs_⟩
  · exact ⟨_, h.ls_⟩
  · exact ⟨_, e⟩
theorem DiskAt.notup (h : DiskAt C H D cs ls ps r w s) : ∀ b ∈ D.own, ∀ xs, H b ≠ some (.tup xs) := by
  obtain ⟨ts, e, _⟩ := h.pend
  intro b hb xs
  simp only [Dk.own, List.mem_cons, List.not_mem_nil, or_false] at hb
  rcases hb with rfl | rfl | rfl | rfl
  · rw [h.ins]; simp
  · rw [h.cs_]; simp
  · rw [h.ls_]; simp
  · rw [e]; simp
theorem DiskAt.pc (h : DiskAt C H D cs ls ps r w s) : D.p ≠ D.c := ne_of h.ins h.cs_ (by simp)
theorem DiskAt.pl (h : DiskAt C H D cs ls ps r w s) : D.p ≠ D.l := ne_of h.ins h.ls_ (by simp)
theorem DiskAt.pd (h : DiskAt C H D cs ls ps r w s) : D.p ≠ D.d := by
  obtain ⟨ts, e, _⟩ := h.pend
  exact ne_of h.ins e (by simp)
/-- a disk stays where only what it does not own changes (and no tuple does) -/
theorem DiskAt.keep {S : List Addr} (h : DiskAt C H D cs ls ps r w s) (f : Fr S H H') (n : ∀ b ∈ D.own, b ∉ S) (m : ∀ b ∈ S, ∀ xs, H b ≠ some (.tup xs)) : DiskAt C H' D cs ls ps r w s := by
  obtain ⟨ts, e, pn⟩ := h.pend
  have hp : D.p ∉ S := n _ (by simp [Dk.own])
  have hc : D.c ∉ S := n _ (by simp [Dk.own])
  have hl : D.l ∉ S := n _ (by simp [Dk.own])
  have hd : D.d ∉ S := n _ (by simp [Dk.own])
  exact ⟨f _ _ h.ins hp, f _ _ h.cs_ hc, f _ _ h.ls_ hl, ⟨ts, f _ _ e hd, pn.keep f m⟩, h.cl, h.cd, h.ld, h.len, h.small, h.ok⟩
end
/-! ### the promises -/
def spCheck (C : Addr) : Sp := fun vs H Q _ => ∃ (D : Dk) (cs ls : List V) (ps : List (Nat × V)) (r w s i : Int), vs = [.ref D.p, .int i] ∧ DiskAt C H D cs ls ps r w s ∧ 0 ≤ i ∧ i < cs.length ∧ Q .non H
def spInit (C : Addr) : Sp := fun vs H Q _ => ∃ (p dx : Addr) (n : Nat) (v : V), vs = [.ref p, .int (n : Int), v] ∧ 1 ≤ n ∧ n ≤ 64 ∧ H p = some (.ins C dx []) ∧
  ∀ (D : Dk) (H' : Hp), D.p = p → Fr [p] H H' → DiskAt C H' D (List.replicate n v) (List.replicate n v) [] 0 0 0 → H D.c = none → H D.l = none → H D.d = none → Q .non H'
def spWrite (C : Addr) : Sp := fun vs H Q _ => ∃ (D : Dk) (cs ls : List V) (ps : List (Nat × V)) (r w s : Int) (i : Nat) (v : V), vs = [.ref D.p, .int (i : Int), v] ∧ DiskAt C H D cs ls ps r w s ∧ i < cs.length ∧ ps.length ≤ 1000 ∧
  ∀ H' : Hp, Fr D.own H H' → DiskAt C H' D (cs.set i v) ls (ps ++ [(i, v)]) r (w + 1) s → Q .non H'
def spSync (C : Addr) : Sp := fun vs H Q _ => ∃ (D : Dk) (cs ls : List V) (ps : List (Nat × V)) (r w s : Int), vs = [.ref D.p] ∧ DiskAt C H D cs ls ps r w s ∧
  ∀ (D' : Dk) (H' : Hp), D'.p = D.p → (∀ b ∈ D'.own, b ∈ D.own ∨ H b = none) → Fr D.own H H' → DiskAt C H' D' cs cs [] r w (s + 1) → Q .non H'
section
variable {P : Program} {w : World} {K : PySem.W.Frag} {mg : Str → Option Value} {base : Heap}
theorem ok_check (T : Gx K mg) : FnOk P w K mg base CX0 3 T.f_Disk__check_cell T.fd_Disk__check_cell ["self", "cell"] (spCheck T.C_Disk) := by
  have GN : FnOk P w K mg base CX0 2 T.f_is_number_from T.fd_is_number_from ["thing", "least", "most"] (spNumFrom K) := ok_numFrom T
  refine T.F_Disk__check_cell.ok sc_Disk__check_cell (fun vs H Q E h => ?_) (fun cdv A outer s H vs Q E hr h => ?_)
  · obtain ⟨D, cs, ls, ps, r, w', s', i, rfl, _⟩ := h
    rfl
  · obtain ⟨D, cs, ls, ps, r, w', s', i, rfl, hD, h0, h1, k⟩ := h
    refine ⟨_, pss_one (ps_if (pt_not (pt_val (pe_call GN hr (by rfl) T.g_is_number_from T.F_is_number_from.kp (b_is_number_from T) .nil pass0
      (pa_cons (pv 1) (pa_cons pe_int (pa_cons (pe_op op_sub (pe_callB call_len_seq (by rfl) T.z_len PySem.boot_len (pa_cons (pe_fld (pv 0) rfl) pa_nil)) pe_int) pa_nil)))))) (pss_one ps_never) pss_nil), ?_⟩
    refine ⟨_, rfl, _, rfl, D.p, T.C_Disk, _, _, _, rfl, hD.ins, T.cl_Disk, T.n_Disk__contents, dF_get0, D.c, cs, rfl, .inl (SqL.of hD.cs_), _, _, rfl, rfl, ?_⟩
    refine ⟨.int i, 0, _, rfl, .inl ⟨i, rfl, _, rfl, ?_⟩⟩
    have e : (decide ((0 : Int) ≤ i) && decide (i ≤ (cs.length : Int) - 1)) = true := by
      rw [Bool.and_eq_true, decide_eq_true_eq, decide_eq_true_eq]
      omega
    rw [e]
    exact iteF k
theorem ok_init (T : Gx K mg) : FnOk P w K mg base CX0 3 T.f_Disk___init__ T.fd_Disk___init__ ["self", "cells", "content"] (spInit T.C_Disk) := by
  have GN : FnOk P w K mg base CX0 2 T.f_is_number_from T.fd_is_number_from ["thing", "least", "most"] (spNumFrom K) := ok_numFrom T
  refine T.F_Disk___init__.ok sc_Disk___init__ (fun vs H Q E h => ?_) (fun cdv A outer s H vs Q E hr h => ?_)
  · obtain ⟨p, dx, n, v, rfl, _⟩ := h
    rfl
  · obtain ⟨p, dx, n, v, rfl, h1, h64, hp, k⟩ := h
    refine ⟨_, PSs.nox (pss_cons (ps_if (pt_not (pt_val (pe_call GN hr (by rfl) T.g_is_number_from T.F_is_number_from.kp (b_is_number_from T) .nil pass0
        (pa_cons (pv 1) (pa_cons pe_int (pa_cons (pe_glob (v := .int 64) (by rfl) T.c_MOST_CELLS ⟨_, rfl⟩) pa_nil)))))) (pss_one ps_never) pss_nil)
      (pss_cons (ps_fld (pv 0) (pe_op op_rep (pe_lst (pa_cons (pv 2) pa_nil)) (pv 1)) rfl)
      (pss_cons (ps_fld (pv 0) (pe_op op_rep (pe_lst (pa_cons (pv 2) pa_nil)) (pv 1)) rfl)
      (pss_cons (ps_fld (pv 0) (pe_lst pa_nil) rfl)
      (pss_cons (ps_fld (pv 0) pe_int rfl) (pss_cons (ps_fld (pv 0) pe_int rfl) (pss_one (ps_fld (pv 0) pe_int rfl)))))))), ?_⟩
    refine ⟨_, rfl, .int (n : Int), 1, 64, rfl, .inl ⟨n, rfl, _, rfl, ?_⟩⟩
    have e : (decide ((1 : Int) ≤ (n : Int)) && decide ((n : Int) ≤ 64)) = true := by
      rw [Bool.and_eq_true, decide_eq_true_eq, decide_eq_true_eq]
      omega
    rw [e]
    refine iteF ?_
    have fl : (List.replicate (n : Int).toNat [v]).flatten = List.replicate n v := by
      rw [Int.toNat_natCast]
      simp
    -- self._contents = [content] * cells
    refine ⟨_, rfl, sz_le (by simp), fun q1 hq1 => ⟨_, rfl, q1, n, [v], rfl, rfl, upd_same, by omega, by omega, sz_le (by simp; omega), fun c hc => ?_⟩⟩
    rw [fl]
    have hcq := free_upd hc
    have pq1 : p ≠ q1 := ne_of_none hp hq1
    have pc : p ≠ c := ne_of_none hp hcq.1
    refine ⟨_, rfl, p, T.C_Disk, dx, [], rfl, (by rw [upd_ne pc, upd_ne pq1]; exact hp), T.cl_Disk, T.n_Disk__contents, by simp, ?_⟩
    -- self._lasting = [content] * cells
    refine ⟨_, rfl, sz_le (by simp), fun q2 hq2 => ⟨_, rfl, q2, n, [v], rfl, rfl, upd_same, by omega, by omega, sz_le (by simp; omega), fun l hl => ?_⟩⟩
    rw [fl]
    have hq2' := free_upd hq2
    have hq2'' := free_upd hq2'.1
    have hlq := free_upd hl
    have hlq2 := free_upd hlq.1
    have hlq3 := free_upd hlq2.1
    have pq2 : p ≠ q2 := hq2'.2.symm
    have pl : p ≠ l := hlq2.2.symm
    refine ⟨_, rfl, p, T.C_Disk, dx, _, rfl, (by rw [upd_ne pl, upd_ne pq2]; exact upd_same), T.cl_Disk, T.n_Disk__lasting, Nat.lt_of_le_of_lt (putF_len _ _ _) (by simp), ?_⟩
    -- self._pending = []
    refine ⟨sz_le (by simp), fun d hd => ?_⟩
    have hd1 := free_upd hd
    have hd2 := free_upd hd1.1
    have hd3 := free_upd hd2.1
    have hd4 := free_upd hd3.1
    have hd5 := free_upd hd4.1
    have hd6 := free_upd hd5.1
    refine ⟨_, rfl, p, T.C_Disk, dx, _, rfl, (by rw [upd_ne hd1.2.symm]; exact upd_same), T.cl_Disk, T.n_Disk__pending, Nat.lt_of_le_of_lt (putF_len _ _ _) (Nat.lt_of_le_of_lt (Nat.succ_le_succ (putF_len _ _ _)) (by simp)), ?_⟩
    refine ⟨_, rfl, p, T.C_Disk, dx, _, rfl, upd_same, T.cl_Disk, T.n_Disk__reads, Nat.lt_of_le_of_lt (putF_len _ _ _) (Nat.lt_of_le_of_lt (Nat.succ_le_succ (Nat.le_trans (putF_len _ _ _) (Nat.succ_le_succ (putF_len _ _ _)))) (by simp)), ?_⟩
    refine ⟨_, rfl, p, T.C_Disk, dx, _, rfl, upd_same, T.cl_Disk, T.n_Disk__writes, Nat.lt_of_le_of_lt (putF_len _ _ _) (Nat.lt_of_le_of_lt (Nat.succ_le_succ (Nat.le_trans (putF_len _ _ _) (Nat.succ_le_succ (Nat.le_trans (putF_len _ _ _) (Nat.succ_le_succ (putF_len _ _ _)))))) (by simp)), ?_⟩
    refine ⟨_, rfl, p, T.C_Disk, dx, _, rfl, upd_same, T.cl_Disk, T.n_Disk__syncs, Nat.lt_of_le_of_lt (putF_len _ _ _) (Nat.lt_of_le_of_lt (Nat.succ_le_succ (Nat.le_trans (putF_len _ _ _) (Nat.succ_le_succ (Nat.le_trans (putF_len _ _ _) (Nat.succ_le_succ (Nat.le_trans (putF_len _ _ _) (Nat.succ_le_succ (putF_len _ _ _)))))))) (by simp)), ?_⟩
    rw [dF_made, upd_upd, upd_upd, upd_upd]
    refine k ⟨p, dx, c, l, d⟩ _ rfl ?_ ⟨upd_same, ?_, ?_, ⟨[], ?_, rfl, fun i t q e _ => by simp at e⟩, hlq3.2.symm, hd5.2.symm, hd2.2.symm, rfl, by simp; omega, fun q hq => by cases hq⟩ hcq.1 (free_upd hlq3.1).1 hd6.1
    · exact (((((((Fr.new hq1).trans (Fr.new hc)).trans (Fr.put (by simp))).trans (Fr.new hq2)).trans (Fr.new hl)).trans (Fr.put (by simp))).trans (Fr.new hd)).trans (Fr.put (by simp))
    · show (upd _ p _) c = _
      rw [upd_ne pc.symm, upd_ne hd5.2.symm, upd_ne pc.symm, upd_ne hlq3.2.symm, upd_ne hq2''.2.symm, upd_ne pc.symm]
      exact upd_same
    · show (upd _ p _) l = _
      rw [upd_ne pl.symm, upd_ne hd2.2.symm, upd_ne pl.symm]
      exact upd_same
    · show (upd _ p _) d = _
      rw [upd_ne hd1.2]
      exact upd_same
end
section
variable {P : Program} {w : World} {K : PySem.W.Frag} {mg : Str → Option Value} {base : Heap}
theorem ok_write (T : Gx K mg) : FnOk P w K mg base CX0 4 T.f_Disk_write T.fd_Disk_write ["self", "cell", "content"] (spWrite T.C_Disk) := by
  have GC : FnOk P w K mg base CX0 3 T.f_Disk__check_cell T.fd_Disk__check_cell ["self", "cell"] (spCheck T.C_Disk) := ok_check T
  refine T.F_Disk_write.ok sc_Disk_write (fun vs H Q E h => ?_) (fun cdv A outer s H vs Q E hr h => ?_)
  · obtain ⟨D, cs, ls, ps, r, w', s', i, v, rfl, _⟩ := h
    rfl
  · obtain ⟨D, cs, ls, ps, r, w', s', i, v, rfl, hD, hi, hp, k⟩ := h
    obtain ⟨ts, e, pn⟩ := hD.pend
    have pl := hD.pl
    have pc := hD.pc
    have pd := hD.pd
    refine ⟨_, pss_cons (ps_expr (pe_meth (pv 0) T.cl_Disk T.m_Disk__check_cell GC hr (b_Disk__check_cell T) .nil pass0 (pa_cons (pv 1) pa_nil)))
      (pss_cons (ps_fldaug (pv 0) pe_int in_add)
      (pss_cons (ps_asg (pv 2) (pg_sub (pe_fld (pv 0) rfl) (pv 1) set_list))
      (pss_one (ps_expr (pe_bm PySem.F.plainAttrs_list PySem.F.slot_list_append PySem.F.type_list_append mt_append (pe_fld (pv 0) rfl) (pa_cons (pe_tup (pa_cons (pv 1) (pa_cons (pv 2) pa_nil))) pa_nil)))))), ?_⟩
    refine ⟨_, rfl, D.p, D.dx, _, rfl, hD.ins, dF_no__check_cell, _, rfl, D, cs, ls, ps, r, w', s', i, rfl, hD, by omega, by omega, ?_⟩
    refine ⟨_, rfl, D.p, T.C_Disk, D.dx, _, _, rfl, hD.ins, T.cl_Disk, T.n_Disk__writes, dF_get4, _, _, rfl, rfl, D.dx, _, hD.ins, dF_len, ?_⟩
    rw [dF_put4]
    refine ⟨_, rfl, _, rfl, D.p, T.C_Disk, D.dx, _, _, rfl, upd_same, T.cl_Disk, T.n_Disk__contents, dF_get0, _, rfl, D.c, cs, (i : Int), i, rfl, rfl, (by rw [upd_ne pc.symm]; exact hD.cs_), ix_at i hi, ?_⟩
    refine ⟨_, rfl, D.p, T.C_Disk, D.dx, _, _, rfl, Eq.trans (upd_ne pc) upd_same, T.cl_Disk, T.n_Disk__pending, dF_get2, .inl ⟨rfl, _, SqL.of (xs := ts.map V.ref) ?_⟩, ?_⟩
    · rw [upd_ne hD.cd.symm, upd_ne pd.symm]
      exact e
    · refine ⟨_, rfl, _, rfl, sz_le (by simp), fun t ht => ?_⟩
      have t1 := free_upd ht
      have t2 := free_upd t1.1
      have dt : D.d ≠ t := ne_of_none e t2.1
      have pt : D.p ≠ t := t2.2.symm
      have ct : D.c ≠ t := t1.2.symm
      have lt : D.l ≠ t := ne_of_none hD.ls_ t2.1
      refine ⟨D.d, ts.map V.ref, .ref t, rfl, rfl, ?_, ?_, ?_⟩
      · rw [upd_ne dt, upd_ne hD.cd.symm, upd_ne pd.symm]
        exact e
      · rw [List.length_map, pn.1]
        exact sz_lt (by omega)
      · have f : Fr D.own H (upd (upd (upd (upd H D.p (.ins T.C_Disk D.dx (dF (.ref D.c) (.ref D.l) (.ref D.d) (.int r) (.int (w' + 1)) (.int s')))) D.c (.lst (cs.set i v))) t (.tup [.int (i : Int), v])) D.d (.lst (ts.map V.ref ++ [.ref t]))) :=
          (((Fr.put (by simp [Dk.own])).trans (Fr.put (by simp [Dk.own]))).trans (Fr.new ht)).trans (Fr.put (by simp [Dk.own]))
        refine k _ f ⟨?_, ?_, ?_, ⟨ts ++ [t], ?_, (pn.keep f hD.notup).snoc ?_⟩, hD.cl, hD.cd, hD.ld, by rw [List.length_set]; exact hD.len, by rw [List.length_set]; exact hD.small, fun q hq => ?_⟩
        · rw [upd_ne pd, upd_ne pt, upd_ne pc]
          exact upd_same
        · rw [upd_ne hD.cd, upd_ne ct]
          exact upd_same
        · rw [upd_ne hD.ld, upd_ne lt, upd_ne hD.cl.symm, upd_ne pl.symm]
          exact hD.ls_
        · rw [List.map_append]
          exact upd_same
        · rw [upd_ne dt.symm]
          exact upd_same
        · rcases List.mem_append.mp hq with z | z
          · exact hD.ok q z
          · rw [List.mem_singleton.mp z, ← hD.len]
            exact hi
end
/-! ### what is kept -/
/-- strictly ascending, from lo on, below m -/
def Asc (m : Nat) : Nat → List Nat → Prop
  | _, [] => True
  | lo, k :: r => lo ≤ k ∧ k < m ∧ Asc m (k + 1) r
def stepK (ps : List (Nat × V)) (ls : List V) (k : Nat) : List V := match ps[k]? with
  | some q => ls.set q.1 q.2
  | none => ls
def applyK (ps : List (Nat × V)) (ls : List V) (ks : List Nat) : List V := ks.foldl (stepK ps) ls
theorem stepK_len (ps : List (Nat × V)) (ls : List V) (k : Nat) : (stepK ps ls k).length = ls.length := by
  unfold stepK
  split
  · exact List.length_set
  · rfl
theorem applyK_len (ps : List (Nat × V)) : ∀ (ks : List Nat) (ls : List V), (applyK ps ls ks).length = ls.length
  | [], _ => rfl
  | k :: r, ls => by
    show (applyK ps (stepK ps ls k) r).length = ls.length
    rw [applyK_len ps r, stepK_len]
theorem applyK_snoc (ps : List (Nat × V)) (ls : List V) (ks : List Nat) (k : Nat) : applyK ps ls (ks ++ [k]) = stepK ps (applyK ps ls ks) k := by
  unfold applyK
  rw [List.foldl_append]
  rfl
def kepV (ks : List Nat) : List V := ks.map fun (k : Nat) => V.int (k : Int)
theorem kV_at {ks : List Nat} {i : Nat} {x : V} (h : (kepV ks)[i]? = some x) : ∃ k : Nat, x = V.int (k : Int) ∧ ks[i]? = some k := by
  unfold kepV at h
  rw [List.getElem?_map] at h
  cases e : ks[i]? with
  | none =>
    rw [e] at h
    cases h
  | some u =>
    rw [e] at h
    exact ⟨u, (Option.some.inj h).symm, rfl⟩
theorem Asc.drop {m : Nat} : ∀ {lo : Nat} {ks : List Nat}, Asc m lo ks → ∀ (i k : Nat), ks[i]? = some k → ∃ lo', Asc m lo' (ks.drop i) ∧ lo' ≤ k
  | _, [], _, i, k, e => by simp at e
  | lo, a :: r, h, 0, k, e => by
    cases e
    exact ⟨lo, h, h.1⟩
  | lo, a :: r, h, i + 1, k, e => by
    obtain ⟨lo', h', hk⟩ := Asc.drop h.2.2 i k (by simpa using e)
    exact ⟨lo', h', hk⟩
theorem Asc.lt {m : Nat} : ∀ {lo : Nat} {ks : List Nat}, Asc m lo ks → ∀ (i k : Nat), ks[i]? = some k → k < m
  | _, [], _, i, k, e => by simp at e
  | lo, a :: r, h, 0, k, e => by
    cases e
    exact h.2.1
  | lo, a :: r, h, i + 1, k, e => Asc.lt h.2.2 i k (by simpa using e)
theorem Asc.len {m : Nat} : ∀ {lo : Nat} {ks : List Nat}, Asc m lo ks → lo ≤ m → ks.length + lo ≤ m
  | _, [], _, h => by simpa using h
  | lo, a :: r, h, _ => by
    have := Asc.len h.2.2 (by have := h.2.1; omega)
    have := h.1
    simp only [List.length_cons]
    omega
def spAreKept : Sp := fun vs H Q _ => ∃ (kt : Addr) (ks : List Nat) (m : Nat), vs = [.ref kt, .int (m : Int)] ∧ H kt = some (.tup (kepV ks)) ∧ Asc m 0 ks ∧ Q (.bl true) H
def spFail (C : Addr) : Sp := fun vs H Q _ => ∃ (D : Dk) (cs ls : List V) (ps : List (Nat × V)) (r w s : Int) (kt : Addr) (ks : List Nat), vs = [.ref D.p, .ref kt] ∧ DiskAt C H D cs ls ps r w s ∧ H kt = some (.tup (kepV ks)) ∧ Asc ps.length 0 ks ∧
  ∀ (D' : Dk) (H' : Hp), D'.p = D.p → (∀ b ∈ D'.own, b ∈ D.own ∨ H b = none) → Fr D.own H H' → DiskAt C H' D' (applyK ps ls ks) (applyK ps ls ks) [] r w s → Q .non H'
def spContents (C : Addr) : Sp := fun vs H Q _ => ∃ (D : Dk) (cs ls : List V) (ps : List (Nat × V)) (r w s : Int), vs = [.ref D.p] ∧ DiskAt C H D cs ls ps r w s ∧ ∀ t, H t = none → Q (.ref t) (upd H t (.tup cs))
def spLasting (C : Addr) : Sp := fun vs H Q _ => ∃ (D : Dk) (cs ls : List V) (ps : List (Nat × V)) (r w s : Int), vs = [.ref D.p] ∧ DiskAt C H D cs ls ps r w s ∧ ∀ t, H t = none → Q (.ref t) (upd H t (.tup ls))
def spPending (C : Addr) : Sp := fun vs H Q _ => ∃ (D : Dk) (cs ls : List V) (ps : List (Nat × V)) (r w s : Int), vs = [.ref D.p] ∧ DiskAt C H D cs ls ps r w s ∧ ∀ (t : Addr) (ts : List Addr), H t = none → Pend H ts ps → Q (.ref t) (upd H t (.lst (ts.map V.ref)))
section
variable {P : Program} {w : World} {K : PySem.W.Frag} {mg : Str → Option Value} {base : Heap}
theorem ok_contents (T : Gx K mg) : FnOk P w K mg base CX0 1 T.f_Disk_contents T.fd_Disk_contents ["self"] (spContents T.C_Disk) := by
  refine T.F_Disk_contents.ok sc_Disk_contents (fun vs H Q E h => ?_) (fun cdv A outer s H vs Q E hr h => ?_)
  · obtain ⟨D, cs, ls, ps, r, w', s', rfl, _⟩ := h
    rfl
  · obtain ⟨D, cs, ls, ps, r, w', s', rfl, hD, k⟩ := h
    refine ⟨_, pss_one (ps_ret (pe_callTy call_tuple_of (by rfl) T.z_tuple (by decide +kernel) (pa_cons (pe_fld (pv 0) rfl) pa_nil))), ?_⟩
    exact ⟨_, rfl, D.p, T.C_Disk, _, _, _, rfl, hD.ins, T.cl_Disk, T.n_Disk__contents, dF_get0, D.c, cs, rfl, .inl ⟨SqL.of hD.cs_, k⟩⟩
theorem ok_lasting (T : Gx K mg) : FnOk P w K mg base CX0 1 T.f_Disk_lasting T.fd_Disk_lasting ["self"] (spLasting T.C_Disk) := by
  refine T.F_Disk_lasting.ok sc_Disk_lasting (fun vs H Q E h => ?_) (fun cdv A outer s H vs Q E hr h => ?_)
  · obtain ⟨D, cs, ls, ps, r, w', s', rfl, _⟩ := h
    rfl
  · obtain ⟨D, cs, ls, ps, r, w', s', rfl, hD, k⟩ := h
    refine ⟨_, pss_one (ps_ret (pe_callTy call_tuple_of (by rfl) T.z_tuple (by decide +kernel) (pa_cons (pe_fld (pv 0) rfl) pa_nil))), ?_⟩
    exact ⟨_, rfl, D.p, T.C_Disk, _, _, _, rfl, hD.ins, T.cl_Disk, T.n_Disk__lasting, dF_get1, D.l, ls, rfl, .inl ⟨SqL.of hD.ls_, k⟩⟩
theorem ok_pending (T : Gx K mg) : FnOk P w K mg base CX0 1 T.f_Disk_pending T.fd_Disk_pending ["self"] (spPending T.C_Disk) := by
  refine T.F_Disk_pending.ok sc_Disk_pending (fun vs H Q E h => ?_) (fun cdv A outer s H vs Q E hr h => ?_)
  · obtain ⟨D, cs, ls, ps, r, w', s', rfl, _⟩ := h
    rfl
  · obtain ⟨D, cs, ls, ps, r, w', s', rfl, hD, k⟩ := h
    obtain ⟨ts, e, pn⟩ := hD.pend
    refine ⟨_, pss_one (ps_ret (pe_callTy call_list_of (by rfl) T.z_list (by decide +kernel) (pa_cons (pe_fld (pv 0) rfl) pa_nil))), ?_⟩
    exact ⟨_, rfl, D.p, T.C_Disk, _, _, _, rfl, hD.ins, T.cl_Disk, T.n_Disk__pending, dF_get2, D.d, _, rfl, .inl (SqL.of e), fun t ht => k t ts ht pn⟩
end
/-! ### plain contents: None, bools, ints -/
def isF : V → Bool
  | .non => true
  | .bl _ => true
  | .int _ => true
  | _ => false
def toD : V → PyData
  | .non => .none
  | .bl b => .bool b
  | .int i => .int i
  | _ => .none
def AllF (xs : List V) : Prop := ∀ v ∈ xs, isF v = true
theorem dpAll_flat {K : PySem.W.Frag} {H : Hp} : ∀ {xs : List V}, AllF xs → DpAll K H xs (xs.map toD)
  | [], _ => .nil
  | x :: r, h => by
    refine .cons ?_ (dpAll_flat fun v hv => h v (List.mem_cons_of_mem _ hv))
    have hx := h x List.mem_cons_self
    cases x with
    | non => exact .non
    | bl b => exact .bl b
    | int i => exact .int i
    | str _ => cases hx
    | byt _ => cases hx
    | flt _ => cases hx
    | ref _ => cases hx
    | ty _ => cases hx
theorem lay_flat : ∀ xs : List V, PyData.canLayAll0 (xs.map toD) = true
  | [] => rfl
  | x :: r => by
    show (PyData.canLay0 (toD x) && PyData.canLayAll0 (r.map toD)) = true
    rw [lay_flat r]
    cases x <;> rfl
theorem dep_flat : ∀ xs : List V, PyData.depthAll (xs.map toD) ≤ 1
  | [] => by simp [PyData.depthAll]
  | x :: r => by
    have h := dep_flat r
    show PyData.depthAll (toD x :: r.map toD) ≤ 1
    simp only [PyData.depthAll]
    have hx : PyData.depth (toD x) ≤ 1 := by cases x <;> simp [toD, PyData.depth]
    omega
theorem shaped_tup (xs : List V) : SeqAt.shaped (.tuple (xs.map toD)) = true := by
  unfold SeqAt.shaped
  rw [Bool.and_eq_true, decide_eq_true_eq]
  refine ⟨lay_flat xs, ?_⟩
  have := dep_flat xs
  simp only [PyData.depth]
  omega
theorem shaped_lst (xs : List V) : SeqAt.shaped (.list (xs.map toD)) = true := by
  unfold SeqAt.shaped
  rw [Bool.and_eq_true, decide_eq_true_eq]
  refine ⟨lay_flat xs, ?_⟩
  have := dep_flat xs
  simp only [PyData.depth]
  omega
theorem eqv_tup (xs : List V) : PyData.eqv (.tuple (xs.map toD)) (.tuple (xs.map toD)) = true := SeqAt.eqv_refl _ (lay_flat xs)
theorem eqv_lst (xs : List V) : PyData.eqv (.list (xs.map toD)) (.list (xs.map toD)) = true := SeqAt.eqv_refl _ (lay_flat xs)
theorem AllF.set {xs : List V} {v : V} (h : AllF xs) (hv : isF v = true) (i : Nat) : AllF (xs.set i v) := fun u hu => by
  rcases List.mem_or_eq_of_mem_set hu with z | z
  · exact h u z
  · rw [z]
    exact hv
theorem AllF.rep (n : Nat) {v : V} (hv : isF v = true) : AllF (List.replicate n v) := fun u hu => by
  rw [List.eq_of_mem_replicate hu]
  exact hv
/-! ### what is new stands apart -/
theorem made_fr {H H' : Hp} {p dx C : Addr} (hp : H p = none) (hdx : H dx = none) (f : Fr [p] (upd (upd H dx (.own p)) p (.ins C dx [])) H') : Fr [] H H' := fun b o e _ => by
  have n1 : b ≠ p := ne_of_none e hp
  have n2 : b ≠ dx := ne_of_none e hdx
  exact f b o (by rw [upd_ne n1, upd_ne n2]; exact e) (by simpa using n1)
theorem made_none {H : Hp} {p dx C b : Addr} (h : (upd (upd H dx (.own p)) p (.ins C dx [])) b = none) : H b = none := (free_upd (free_upd h).1).1
theorem out_of_new {H : Hp} {S : List Addr} {r : Addr} {o : HO} (e : H r = some o) (n : ∀ b ∈ S, H b = none) : r ∉ S := fun h => by
  rw [n r h] at e
  cases e
theorem out_of_grow {H : Hp} {S S' : List Addr} {r : Addr} {o : HO} (e : H r = some o) (hr : r ∉ S) (g : ∀ b ∈ S', b ∈ S ∨ H b = none) : r ∉ S' := fun h => by
  rcases g r h with z | z
  · exact hr z
  · rw [z] at e
    cases e
theorem Rnd.some {H : Hp} {r : Addr} (h : Rnd H r) : ∃ o, H r = some o := by
  obtain ⟨a, b, ns, e⟩ := h
  exact ⟨_, e⟩
theorem Rnd.new {H : Hp} {r p : Addr} {o : HO} (h : Rnd H r) (hp : H p = none) : Rnd (upd H p o) r := h.keep (S := []) (Fr.new hp) (by simp)
theorem DiskAt.new {C : Addr} {H : Hp} {D : Dk} {cs ls : List V} {ps : List (Nat × V)} {r w s : Int} {p : Addr} {o : HO} (h : DiskAt C H D cs ls ps r w s) (hp : H p = none) : DiskAt C (upd H p o) D cs ls ps r w s := h.keep (S := []) (Fr.new hp) (by simp) (by simp)
theorem DiskAt.draw {C : Addr} {H H' : Hp} {D : Dk} {cs ls : List V} {ps : List (Nat × V)} {r w s : Int} {x : Addr} (h : DiskAt C H D cs ls ps r w s) (hR : Rnd H x) (n : x ∉ D.own) (f : Fr [x] H H') : DiskAt C H' D cs ls ps r w s :=
  h.keep f (fun b hb hx => n (by rw [← List.mem_singleton.mp hx]; exact hb)) hR.notup
theorem DiskAt.other {C : Addr} {H H' : Hp} {D T : Dk} {cs ls cs' ls' : List V} {ps ps' : List (Nat × V)} {r w s r' w' s' : Int} (h : DiskAt C H D cs ls ps r w s) (hT : DiskAt C H T cs' ls' ps' r' w' s') (n : Sep D.own T.own) (f : Fr T.own H H') : DiskAt C H' D cs ls ps r w s :=
  h.keep f (fun b hb => n b hb) hT.notup
def spCounts (C : Addr) : Sp := fun vs H Q _ => ∃ (D : Dk) (cs ls : List V) (ps : List (Nat × V)) (r w s : Int), vs = [.ref D.p] ∧ DiskAt C H D cs ls ps r w s ∧ ∀ t, H t = none → Q (.ref t) (upd H t (.tup [.int r, .int w, .int s]))
section
variable {P : Program} {w : World} {K : PySem.W.Frag} {mg : Str → Option Value} {base : Heap}
theorem ok_counts (T : Gx K mg) : FnOk P w K mg base CX0 1 T.f_Disk_counts T.fd_Disk_counts ["self"] (spCounts T.C_Disk) := by
  refine T.F_Disk_counts.ok sc_Disk_counts (fun vs H Q E h => ?_) (fun cdv A outer s H vs Q E hr h => ?_)
  · obtain ⟨D, cs, ls, ps, r, w', s', rfl, _⟩ := h
    rfl
  · obtain ⟨D, cs, ls, ps, r, w', s', rfl, hD, k⟩ := h
    refine ⟨_, (pss_one (ps_ret (pe_tup (pa_cons (pe_fld (pv 0) rfl) (pa_cons (pe_fld (pv 0) rfl) (pa_cons (pe_fld (pv 0) rfl) pa_nil)))))), ?_⟩
    exact ⟨_, rfl, D.p, T.C_Disk, _, _, _, rfl, hD.ins, T.cl_Disk, T.n_Disk__reads, dF_get3, _, rfl, D.p, T.C_Disk, _, _, _, rfl, hD.ins, T.cl_Disk, T.n_Disk__writes, dF_get4, _, rfl, D.p, T.C_Disk, _, _, _, rfl, hD.ins, T.cl_Disk, T.n_Disk__syncs, dF_get5, sz_le (by simp), k⟩
end
theorem some_of {H H' : Hp} {S : List Addr} (f : Fr S H H') (hs : ∀ b ∈ S, ∃ o, H' b = some o) {p : Addr} (h : H' p = none) : H p = none := by
  cases e : H p with
  | none => rfl
  | some o =>
    by_cases hp : p ∈ S
    · obtain ⟨o', e'⟩ := hs p hp
      rw [e'] at h
      cases h
    · rw [f p o e hp] at h
      cases h
theorem pe_never {X : Cx} {e : Expr} : PE X e (fun _ _ _ => False) := ⟨fun _ _ _ _ _ _ h => h.elim⟩
theorem iteFb {A B : Prop} {b : Bool} (e : b = false) (h : B) : if b = true then A else B := by
  rw [if_neg (by rw [e]; simp)]
  exact h
theorem iteTb {A B : Prop} {b : Bool} (e : b = true) (h : A) : if b = true then A else B := by
  rw [if_pos e]
  exact h
/-! ### kinds of an error -/
theorem kit_own {K : PySem.W.Frag} {C : Addr} {t : Value} {b : Bool} (hc : PySem.W.isClsIn K C = true) (ht : PySem.W.typeIn K (.ref C) = some (.type "type")) (hs : PySem.W.subIn K t (.ref C) = some b) (hne : (t == .ref C) = true → b = true) : PySem.W.kitOne K t (.ref C) = some b := by
  unfold PySem.W.kitOne
  split
  · rename_i e
    rw [hne e]
  · unfold PySem.W.kitCls
    have h1 : (PySem.W.clsIn K C).isSome = true := hc
    simp only [h1, ht, beq_self_eq_true, Bool.and_true, if_true]
    exact hs
theorem ne_of_sub {K : PySem.W.Frag} {D X : Addr} (h1 : PySem.W.subIn K (.ref D) (.ref X) = some false) (h2 : PySem.W.subIn K (.ref D) (.ref D) = some true) (e : (Value.ref D == Value.ref X) = true) : false = true := by
  have e' : D = X := by simpa using e
  rw [← e', h2] at h1
  cases h1
theorem kit_ve {K : PySem.W.Frag} {D : Addr} (h : PySem.W.subIn K (.ref D) (.type "ValueError") = some true) : PySem.W.kitOne K (.ref D) (.type "ValueError") = some true := by
  unfold PySem.W.kitOne
  rw [if_neg (by simp)]
  unfold PySem.W.kitCls
  simp only [h]
  first
    | rfl
    | simp
def suiteOf : List Stmt → List Stmt
  | .Try _ (.ExceptHandler _ _ s _ :: _) _ _ _ :: _ => s
  | _ => []
section
open PySem.W
theorem pe_isi {X : Cx} {D a C : Addr} {oe : Obj} {d : Option Addr} {i : Nat} {x c : Str} {b : Bool} {p p1 p2 pos : Pos} (hE : ExcC X.K D) (hC : Cgt X D a oe d) (hg : Gl X "isinstance") (hm : X.mg "isinstance" = none) (hN : X.N[i]? = some x) (hv : Vis X.env.scope x) (hgC : Gl X c) (hmC : X.mg c = some (.ref C)) (kit : kitOne X.K (.ref D) (.ref C) = some b)
    (hd : (x == ("__debug__" : Str)) = false := by decide) (hcd : (x == ("__classdict__" : Str)) = false := by decide) (hdc : (c == ("__debug__" : Str)) = false := by decide) : PE X (.Call (.Name "isinstance" p) [.Name x p1, .Name c p2] [] pos) (fun σ H Q => (σ[i]? = some (some (.ref a)) ∧ ∃ fs, FldsAt H d fs) ∧ Q (.bl b) H) := by
  refine ⟨fun pins s σ H Q I h => PE.run (pe_callB (call_isC hE hC) hg hm (by decide +kernel) (pa_cons (pe_var hN hv hd hcd) (pa_cons (pe_glob (v := .ref C) hgC hmC rfl hdc) pa_nil))) pins s σ H Q I ?_⟩
  obtain ⟨⟨h1, fs, hf⟩, q⟩ := h
  exact ⟨_, h1, _, .ref C, _, fs, rfl, hf, (fun _ z => z), kit, q⟩
end
/-! ### what the law's _law_error_of tells -/
def ENAMES : Str := (("size cell kept block value count slot word story off on nofast hasfast unsettled" : Str) ++ (" contradiction name unknown rules recipes requests prices plan" : Str)) ++ (" failed operation notation decode" : Str)
theorem new_at {H : Hp} {p : Addr} (_ : H p = none) (o : HO) : upd H p o p = some o := upd_same
theorem split_names : (Txt.split ENAMES " ") = ([("size" : Str), ("cell" : Str), ("kept" : Str), ("block" : Str), ("value" : Str), ("count" : Str), ("slot" : Str), ("word" : Str), ("story" : Str), ("off" : Str), ("on" : Str), ("nofast" : Str), ("hasfast" : Str), ("unsettled" : Str), ("contradiction" : Str), ("name" : Str), ("unknown" : Str), ("rules" : Str), ("recipes" : Str), ("requests" : Str), ("prices" : Str), ("plan" : Str), ("failed" : Str), ("operation" : Str), ("notation" : Str), ("decode" : Str)] : List Str) := by decide +kernel
theorem idx_first {ys : List V} {y : V} {j : Nat} (h : (ys.take j).all (fun z => !eqV z y) = true) : ∀ (m : Nat) (z' : V), m < j → ys[m]? = some z' → eqV z' y = false := fun m z' hm hz => by
  have e : (ys.take j)[m]? = some z' := by rw [List.getElem?_take_of_lt hm]; exact hz
  have q := List.all_eq_true.mp h z' (List.mem_of_getElem? e)
  simpa using q

section
variable {P : Program} {w : World} {K : PySem.W.Frag} {mg : Str → Option Value} {base : Heap}
/-- the ways in which a call that is asked about may end by an error -/
def ErrEnd (T : Gx K mg) (cls : Value) (d : Option Addr) (H : Hp) (Q : VK) : Prop :=
  (cls = .ref T.C_InvalidSize ∧ (∃ fs, FldsAt H d fs) ∧ ∀ (t : Addr) (H'' : Hp), H t = none → Fr [] H H'' → H'' t = some (.tup [.str "size", .int 0]) → Q (.ref t) H'')
  ∨ (cls = .ref T.C_InvalidCell ∧ (∃ fs, FldsAt H d fs) ∧ ∀ (t : Addr) (H'' : Hp), H t = none → Fr [] H H'' → H'' t = some (.tup [.str "cell", .int 0]) → Q (.ref t) H'')
  ∨ (cls = .ref T.C_InvalidKept ∧ (∃ fs, FldsAt H d fs) ∧ ∀ (t : Addr) (H'' : Hp), H t = none → Fr [] H H'' → H'' t = some (.tup [.str "kept", .int 0]) → Q (.ref t) H'')
theorem ok_told_InvalidSize (T : Gx K mg) {a : Addr} {oe : Obj} {d : Option Addr} (hz : L2N.Zn (.ref T.C_InvalidSize) d oe) (hf : ∃ vs, oe.data = .fields vs) : FnP P w K mg base C8.CX0 1 T.f__law_told_of (a, oe)
    (fun vs H Q _ => vs = [.ref a, .str "size"] ∧ ∀ (t : Addr) (H'' : Hp), H t = none → Fr [] H H'' → H'' t = some (.tup [.str "size", .int 0]) → Q (.ref t) H'') := by
  refine FunOkP T.F__law_told_of (b__law_told_of T) sc__law_told_of (fun vs H Q E h => by obtain ⟨rfl, _⟩ := h; rfl) (fun cdv A outer s H vs Q E hr h => ?_)
  have hC : ∀ {X : Cx}, X.pn = [(a, oe)] → Cgt X T.C_InvalidSize a oe d := fun e => ⟨by rw [e]; exact List.mem_cons_self, hz, hf⟩
  have hX : PySem.W.Frag → XfC K T.C_InvalidSize := fun _ => ⟨T.E_InvalidSize.hg, T.E_InvalidSize.hk, T.E_InvalidSize.hs, T.E_InvalidSize.hd⟩
  obtain ⟨rfl, k⟩ := h
  refine ⟨_, (pss_cons (ps_if (pt_cmpR op_eq (pv 1) pe_str (nomark _)) pss_never pss_nil) (pss_cons (ps_if (pt_cmpR op_eq (pv 1) pe_str (nomark _)) pss_never pss_nil) (pss_cons (ps_if (pt_cmpR op_in_seq (pv 1) (pe_lst (pa_cons pe_str (pa_cons pe_str (pa_cons pe_str pa_nil)))) (by rfl)) pss_never pss_nil) (pss_cons (ps_if (pt_cmpR op_eq (pv 1) pe_str (nomark _)) pss_never pss_nil) (pss_cons (ps_if (pt_cmpR op_eq (pv 1) pe_str (nomark _)) pss_never pss_nil) (pss_cons (ps_if (pt_cmpR op_eq (pv 1) pe_str (nomark _)) pss_never pss_nil) (pss_one (ps_ret (pe_tup (pa_cons (pv 1) (pa_cons (pe_ifExp (pt_cmpR op_eq (pv 1) pe_str (nomark _)) pe_never pe_int) pa_nil))))))))))), ?_⟩
  refine ⟨_, rfl, rfl, _, rfl, iteF ?_⟩
  refine ⟨_, rfl, rfl, _, rfl, iteF ?_⟩
  refine ⟨_, rfl, sz_le (by simp), fun g hg => ⟨g, _, rfl, .inl (SqL.of upd_same), rfl, rfl, _, rfl, ?_⟩⟩
  refine iteFb (by decide +kernel) ?_
  refine ⟨_, rfl, rfl, _, rfl, iteF ?_⟩
  refine ⟨_, rfl, rfl, _, rfl, iteF ?_⟩
  refine ⟨_, rfl, rfl, _, rfl, iteF ?_⟩
  refine ⟨_, rfl, _, rfl, rfl, _, rfl, iteF ?_⟩
  exact ⟨sz_le (by simp), fun t ht => k t _ (free_upd ht).1 ((Fr.new hg).trans (Fr.new ht)) upd_same⟩
theorem ok_told_InvalidCell (T : Gx K mg) {a : Addr} {oe : Obj} {d : Option Addr} (hz : L2N.Zn (.ref T.C_InvalidCell) d oe) (hf : ∃ vs, oe.data = .fields vs) : FnP P w K mg base C8.CX0 1 T.f__law_told_of (a, oe)
    (fun vs H Q _ => vs = [.ref a, .str "cell"] ∧ ∀ (t : Addr) (H'' : Hp), H t = none → Fr [] H H'' → H'' t = some (.tup [.str "cell", .int 0]) → Q (.ref t) H'') := by
  refine FunOkP T.F__law_told_of (b__law_told_of T) sc__law_told_of (fun vs H Q E h => by obtain ⟨rfl, _⟩ := h; rfl) (fun cdv A outer s H vs Q E hr h => ?_)
  have hC : ∀ {X : Cx}, X.pn = [(a, oe)] → Cgt X T.C_InvalidCell a oe d := fun e => ⟨by rw [e]; exact List.mem_cons_self, hz, hf⟩
  have hX : PySem.W.Frag → XfC K T.C_InvalidCell := fun _ => ⟨T.E_InvalidCell.hg, T.E_InvalidCell.hk, T.E_InvalidCell.hs, T.E_InvalidCell.hd⟩
  obtain ⟨rfl, k⟩ := h
  refine ⟨_, (pss_cons (ps_if (pt_cmpR op_eq (pv 1) pe_str (nomark _)) pss_never pss_nil) (pss_cons (ps_if (pt_cmpR op_eq (pv 1) pe_str (nomark _)) pss_never pss_nil) (pss_cons (ps_if (pt_cmpR op_in_seq (pv 1) (pe_lst (pa_cons pe_str (pa_cons pe_str (pa_cons pe_str pa_nil)))) (by rfl)) pss_never pss_nil) (pss_cons (ps_if (pt_cmpR op_eq (pv 1) pe_str (nomark _)) pss_never pss_nil) (pss_cons (ps_if (pt_cmpR op_eq (pv 1) pe_str (nomark _)) pss_never pss_nil) (pss_cons (ps_if (pt_cmpR op_eq (pv 1) pe_str (nomark _)) pss_never pss_nil) (pss_one (ps_ret (pe_tup (pa_cons (pv 1) (pa_cons (pe_ifExp (pt_cmpR op_eq (pv 1) pe_str (nomark _)) pe_never pe_int) pa_nil))))))))))), ?_⟩
  refine ⟨_, rfl, rfl, _, rfl, iteF ?_⟩
  refine ⟨_, rfl, rfl, _, rfl, iteF ?_⟩
  refine ⟨_, rfl, sz_le (by simp), fun g hg => ⟨g, _, rfl, .inl (SqL.of upd_same), rfl, rfl, _, rfl, ?_⟩⟩
  refine iteFb (by decide +kernel) ?_
  refine ⟨_, rfl, rfl, _, rfl, iteF ?_⟩
  refine ⟨_, rfl, rfl, _, rfl, iteF ?_⟩
  refine ⟨_, rfl, rfl, _, rfl, iteF ?_⟩
  refine ⟨_, rfl, _, rfl, rfl, _, rfl, iteF ?_⟩
  exact ⟨sz_le (by simp), fun t ht => k t _ (free_upd ht).1 ((Fr.new hg).trans (Fr.new ht)) upd_same⟩
theorem ok_told_InvalidKept (T : Gx K mg) {a : Addr} {oe : Obj} {d : Option Addr} (hz : L2N.Zn (.ref T.C_InvalidKept) d oe) (hf : ∃ vs, oe.data = .fields vs) : FnP P w K mg base C8.CX0 1 T.f__law_told_of (a, oe)
    (fun vs H Q _ => vs = [.ref a, .str "kept"] ∧ ∀ (t : Addr) (H'' : Hp), H t = none → Fr [] H H'' → H'' t = some (.tup [.str "kept", .int 0]) → Q (.ref t) H'') := by
  refine FunOkP T.F__law_told_of (b__law_told_of T) sc__law_told_of (fun vs H Q E h => by obtain ⟨rfl, _⟩ := h; rfl) (fun cdv A outer s H vs Q E hr h => ?_)
  have hC : ∀ {X : Cx}, X.pn = [(a, oe)] → Cgt X T.C_InvalidKept a oe d := fun e => ⟨by rw [e]; exact List.mem_cons_self, hz, hf⟩
  have hX : PySem.W.Frag → XfC K T.C_InvalidKept := fun _ => ⟨T.E_InvalidKept.hg, T.E_InvalidKept.hk, T.E_InvalidKept.hs, T.E_InvalidKept.hd⟩
  obtain ⟨rfl, k⟩ := h
  refine ⟨_, (pss_cons (ps_if (pt_cmpR op_eq (pv 1) pe_str (nomark _)) pss_never pss_nil) (pss_cons (ps_if (pt_cmpR op_eq (pv 1) pe_str (nomark _)) pss_never pss_nil) (pss_cons (ps_if (pt_cmpR op_in_seq (pv 1) (pe_lst (pa_cons pe_str (pa_cons pe_str (pa_cons pe_str pa_nil)))) (by rfl)) pss_never pss_nil) (pss_cons (ps_if (pt_cmpR op_eq (pv 1) pe_str (nomark _)) pss_never pss_nil) (pss_cons (ps_if (pt_cmpR op_eq (pv 1) pe_str (nomark _)) pss_never pss_nil) (pss_cons (ps_if (pt_cmpR op_eq (pv 1) pe_str (nomark _)) pss_never pss_nil) (pss_one (ps_ret (pe_tup (pa_cons (pv 1) (pa_cons (pe_ifExp (pt_cmpR op_eq (pv 1) pe_str (nomark _)) pe_never pe_int) pa_nil))))))))))), ?_⟩
  refine ⟨_, rfl, rfl, _, rfl, iteF ?_⟩
  refine ⟨_, rfl, rfl, _, rfl, iteF ?_⟩
  refine ⟨_, rfl, sz_le (by simp), fun g hg => ⟨g, _, rfl, .inl (SqL.of upd_same), rfl, rfl, _, rfl, ?_⟩⟩
  refine iteFb (by decide +kernel) ?_
  refine ⟨_, rfl, rfl, _, rfl, iteF ?_⟩
  refine ⟨_, rfl, rfl, _, rfl, iteF ?_⟩
  refine ⟨_, rfl, rfl, _, rfl, iteF ?_⟩
  refine ⟨_, rfl, _, rfl, rfl, _, rfl, iteF ?_⟩
  exact ⟨sz_le (by simp), fun t ht => k t _ (free_upd ht).1 ((Fr.new hg).trans (Fr.new ht)) upd_same⟩
def kinds_InvalidSize : List V := [.bl true, .bl false, .bl false, .bl false, .bl false, .bl false, .bl false, .bl false, .bl false, .bl false, .bl false, .bl false, .bl false, .bl false, .bl false, .bl false, .bl false, .bl false, .bl false, .bl false, .bl false, .bl false, .bl false, .bl false, .bl false, .bl false]
theorem kinds_InvalidSize_cnt : kinds_InvalidSize.countP (fun z => eqV z (.bl true)) = 1 := by decide +kernel
theorem kinds_InvalidSize_all : kinds_InvalidSize.all flatV = true := by decide +kernel
theorem kinds_InvalidSize_at : kinds_InvalidSize[0]? = some (.bl true) := by decide +kernel
theorem kinds_InvalidSize_fst : ∀ (m : Nat) (z' : V), m < 0 → kinds_InvalidSize[m]? = some z' → eqV z' (.bl true) = false := idx_first (by decide +kernel)
theorem suite_InvalidSize (T : Gx K mg) {A : Around} {outer : List Env} {s : Shared} {H0 : Hp} {E : XK} {cdv : Value} {a : Addr} {oe : Obj} {d : Option Addr} {pn : List (Addr × Obj)} (hr : Room 2 (A.deeper (PyProof.Rows.envOfC "_law_error_of" (defScope s__law_error_of) s.heap.objs.size T.f__law_error_of cdv))) (hz : L2N.Zn (.ref T.C_InvalidSize) d oe) (hf : ∃ vs, oe.data = .fields vs) :
    PSs ((cxOf C8.CX0 P w K mg base ["_law_call", "_law_e", "_law_kinds", "_law_names"] "_law_error_of" (defScope s__law_error_of) T.f__law_error_of cdv A outer s H0 E).suite a ((a, oe) :: pn)) (suiteOf (defBody s__law_error_of)) (fun D σ H => (∃ (x : V) (v2 v3 : Option V), σ = [some x, some (.ref a), v2, v3]) ∧ ((∃ fs, FldsAt H d fs) ∧ ∀ (t : Addr) (H'' : Hp), H t = none → Fr [] H H'' → H'' t = some (.tup [.str "size", .int 0]) → D.rt (.ref t) H'')) := by
  have hC : Cgt ((cxOf C8.CX0 P w K mg base ["_law_call", "_law_e", "_law_kinds", "_law_names"] "_law_error_of" (defScope s__law_error_of) T.f__law_error_of cdv A outer s H0 E).suite a ((a, oe) :: pn)) T.C_InvalidSize a oe d := ⟨List.mem_cons_self, hz, hf⟩
  have hE : ExcC ((cxOf C8.CX0 P w K mg base ["_law_call", "_law_e", "_law_kinds", "_law_names"] "_law_error_of" (defScope s__law_error_of) T.f__law_error_of cdv A outer s H0 E).suite a ((a, oe) :: pn)).K T.C_InvalidSize := T.E_InvalidSize
  have hT := ok_told_InvalidSize (P := P) (w := w) (base := base) T (a := a) hz hf
  have hHot : L2H.Hot1 ((cxOf C8.CX0 P w K mg base ["_law_call", "_law_e", "_law_kinds", "_law_names"] "_law_error_of" (defScope s__law_error_of) T.f__law_error_of cdv A outer s H0 E).suite a ((a, oe) :: pn)).A (a, oe) := ⟨rfl, by
    obtain ⟨vs, hv⟩ := hf
    exact ⟨vs, hv, hz.2.2 vs hv⟩⟩
  refine ⟨fun pins s' σ H D I h => PSs.run (C8.pss_cut (ps_set (i := 2) sc__law_error_of.nd rfl (.inl rfl) (pe_lst (pa_cons (pe_isi (i := 1) hE hC (by rfl) T.z_isinstance rfl (by first | exact Or.inl rfl | exact Or.inr (Or.inl rfl) | exact Or.inr (Or.inr rfl)) (by rfl) T.gC_InvalidSize (kit_own T.ic_InvalidSize T.ty_InvalidSize T.sb_InvalidSize_InvalidSize (fun _ => rfl))) (pa_cons (pe_isi (i := 1) hE hC (by rfl) T.z_isinstance rfl (by first | exact Or.inl rfl | exact Or.inr (Or.inl rfl) | exact Or.inr (Or.inr rfl)) (by rfl) T.gC_InvalidCell (kit_own T.ic_InvalidCell T.ty_InvalidCell T.sb_InvalidSize_InvalidCell (fun e => (ne_of_sub T.sb_InvalidSize_InvalidCell T.sb_InvalidSize_InvalidSize e)))) (pa_cons (pe_isi (i := 1) hE hC (by rfl) T.z_isinstance rfl (by first | exact Or.inl rfl | exact Or.inr (Or.inl rfl) | exact Or.inr (Or.inr rfl)) (by rfl) T.gC_InvalidKept (kit_own T.ic_InvalidKept T.ty_InvalidKept T.sb_InvalidSize_InvalidKept (fun e => (ne_of_sub T.sb_InvalidSize_InvalidKept T.sb_InvalidSize_InvalidSize e)))) pa_nil)))))
      (C8.pss_cut (ps_set (i := 2) sc__law_error_of.nd rfl (.inl rfl) (pe_op op_cat (pv 2) (pe_lst (pa_cons (pe_isi (i := 1) hE hC (by rfl) T.z_isinstance rfl (by first | exact Or.inl rfl | exact Or.inr (Or.inl rfl) | exact Or.inr (Or.inr rfl)) (by rfl) T.gC_InvalidBlock (kit_own T.ic_InvalidBlock T.ty_InvalidBlock T.sb_InvalidSize_InvalidBlock (fun e => (ne_of_sub T.sb_InvalidSize_InvalidBlock T.sb_InvalidSize_InvalidSize e)))) (pa_cons (pe_isi (i := 1) hE hC (by rfl) T.z_isinstance rfl (by first | exact Or.inl rfl | exact Or.inr (Or.inl rfl) | exact Or.inr (Or.inr rfl)) (by rfl) T.gC_InvalidValue (kit_own T.ic_InvalidValue T.ty_InvalidValue T.sb_InvalidSize_InvalidValue (fun e => (ne_of_sub T.sb_InvalidSize_InvalidValue T.sb_InvalidSize_InvalidSize e)))) (pa_cons (pe_isi (i := 1) hE hC (by rfl) T.z_isinstance rfl (by first | exact Or.inl rfl | exact Or.inr (Or.inl rfl) | exact Or.inr (Or.inr rfl)) (by rfl) T.gC_InvalidCount (kit_own T.ic_InvalidCount T.ty_InvalidCount T.sb_InvalidSize_InvalidCount (fun e => (ne_of_sub T.sb_InvalidSize_InvalidCount T.sb_InvalidSize_InvalidSize e)))) pa_nil))))))
      (C8.pss_cut (ps_set (i := 2) sc__law_error_of.nd rfl (.inl rfl) (pe_op op_cat (pv 2) (pe_lst (pa_cons (pe_isi (i := 1) hE hC (by rfl) T.z_isinstance rfl (by first | exact Or.inl rfl | exact Or.inr (Or.inl rfl) | exact Or.inr (Or.inr rfl)) (by rfl) T.gC_InvalidSlot (kit_own T.ic_InvalidSlot T.ty_InvalidSlot T.sb_InvalidSize_InvalidSlot (fun e => (ne_of_sub T.sb_InvalidSize_InvalidSlot T.sb_InvalidSize_InvalidSize e)))) (pa_cons (pe_isi (i := 1) hE hC (by rfl) T.z_isinstance rfl (by first | exact Or.inl rfl | exact Or.inr (Or.inl rfl) | exact Or.inr (Or.inr rfl)) (by rfl) T.gC_InvalidWord (kit_own T.ic_InvalidWord T.ty_InvalidWord T.sb_InvalidSize_InvalidWord (fun e => (ne_of_sub T.sb_InvalidSize_InvalidWord T.sb_InvalidSize_InvalidSize e)))) (pa_cons (pe_isi (i := 1) hE hC (by rfl) T.z_isinstance rfl (by first | exact Or.inl rfl | exact Or.inr (Or.inl rfl) | exact Or.inr (Or.inr rfl)) (by rfl) T.gC_InvalidStory (kit_own T.ic_InvalidStory T.ty_InvalidStory T.sb_InvalidSize_InvalidStory (fun e => (ne_of_sub T.sb_InvalidSize_InvalidStory T.sb_InvalidSize_InvalidSize e)))) pa_nil))))))
      (C8.pss_cut (ps_set (i := 2) sc__law_error_of.nd rfl (.inl rfl) (pe_op op_cat (pv 2) (pe_lst (pa_cons (pe_isi (i := 1) hE hC (by rfl) T.z_isinstance rfl (by first | exact Or.inl rfl | exact Or.inr (Or.inl rfl) | exact Or.inr (Or.inr rfl)) (by rfl) T.gC_PowerOff (kit_own T.ic_PowerOff T.ty_PowerOff T.sb_InvalidSize_PowerOff (fun e => (ne_of_sub T.sb_InvalidSize_PowerOff T.sb_InvalidSize_InvalidSize e)))) (pa_cons (pe_isi (i := 1) hE hC (by rfl) T.z_isinstance rfl (by first | exact Or.inl rfl | exact Or.inr (Or.inl rfl) | exact Or.inr (Or.inr rfl)) (by rfl) T.gC_PowerOn (kit_own T.ic_PowerOn T.ty_PowerOn T.sb_InvalidSize_PowerOn (fun e => (ne_of_sub T.sb_InvalidSize_PowerOn T.sb_InvalidSize_InvalidSize e)))) (pa_cons (pe_isi (i := 1) hE hC (by rfl) T.z_isinstance rfl (by first | exact Or.inl rfl | exact Or.inr (Or.inl rfl) | exact Or.inr (Or.inr rfl)) (by rfl) T.gC_NoFastDisk (kit_own T.ic_NoFastDisk T.ty_NoFastDisk T.sb_InvalidSize_NoFastDisk (fun e => (ne_of_sub T.sb_InvalidSize_NoFastDisk T.sb_InvalidSize_InvalidSize e)))) pa_nil))))))
      (C8.pss_cut (ps_set (i := 2) sc__law_error_of.nd rfl (.inl rfl) (pe_op op_cat (pv 2) (pe_lst (pa_cons (pe_isi (i := 1) hE hC (by rfl) T.z_isinstance rfl (by first | exact Or.inl rfl | exact Or.inr (Or.inl rfl) | exact Or.inr (Or.inr rfl)) (by rfl) T.gC_HasFastDisk (kit_own T.ic_HasFastDisk T.ty_HasFastDisk T.sb_InvalidSize_HasFastDisk (fun e => (ne_of_sub T.sb_InvalidSize_HasFastDisk T.sb_InvalidSize_InvalidSize e)))) (pa_cons (pe_isi (i := 1) hE hC (by rfl) T.z_isinstance rfl (by first | exact Or.inl rfl | exact Or.inr (Or.inl rfl) | exact Or.inr (Or.inr rfl)) (by rfl) T.gC_Unsettled (kit_own T.ic_Unsettled T.ty_Unsettled T.sb_InvalidSize_Unsettled (fun e => (ne_of_sub T.sb_InvalidSize_Unsettled T.sb_InvalidSize_InvalidSize e)))) (pa_cons (pe_isi (i := 1) hE hC (by rfl) T.z_isinstance rfl (by first | exact Or.inl rfl | exact Or.inr (Or.inl rfl) | exact Or.inr (Or.inr rfl)) (by rfl) T.gC_Contradiction (kit_own T.ic_Contradiction T.ty_Contradiction T.sb_InvalidSize_Contradiction (fun e => (ne_of_sub T.sb_InvalidSize_Contradiction T.sb_InvalidSize_InvalidSize e)))) pa_nil))))))
      (C8.pss_cut (ps_set (i := 2) sc__law_error_of.nd rfl (.inl rfl) (pe_op op_cat (pv 2) (pe_lst (pa_cons (pe_isi (i := 1) hE hC (by rfl) T.z_isinstance rfl (by first | exact Or.inl rfl | exact Or.inr (Or.inl rfl) | exact Or.inr (Or.inr rfl)) (by rfl) T.gC_InvalidName (kit_own T.ic_InvalidName T.ty_InvalidName T.sb_InvalidSize_InvalidName (fun e => (ne_of_sub T.sb_InvalidSize_InvalidName T.sb_InvalidSize_InvalidSize e)))) (pa_cons (pe_isi (i := 1) hE hC (by rfl) T.z_isinstance rfl (by first | exact Or.inl rfl | exact Or.inr (Or.inl rfl) | exact Or.inr (Or.inr rfl)) (by rfl) T.gC_UnknownName (kit_own T.ic_UnknownName T.ty_UnknownName T.sb_InvalidSize_UnknownName (fun e => (ne_of_sub T.sb_InvalidSize_UnknownName T.sb_InvalidSize_InvalidSize e)))) (pa_cons (pe_isi (i := 1) hE hC (by rfl) T.z_isinstance rfl (by first | exact Or.inl rfl | exact Or.inr (Or.inl rfl) | exact Or.inr (Or.inr rfl)) (by rfl) T.gC_InvalidRules (kit_own T.ic_InvalidRules T.ty_InvalidRules T.sb_InvalidSize_InvalidRules (fun e => (ne_of_sub T.sb_InvalidSize_InvalidRules T.sb_InvalidSize_InvalidSize e)))) pa_nil))))))
      (C8.pss_cut (ps_set (i := 2) sc__law_error_of.nd rfl (.inl rfl) (pe_op op_cat (pv 2) (pe_lst (pa_cons (pe_isi (i := 1) hE hC (by rfl) T.z_isinstance rfl (by first | exact Or.inl rfl | exact Or.inr (Or.inl rfl) | exact Or.inr (Or.inr rfl)) (by rfl) T.gC_InvalidRecipes (kit_own T.ic_InvalidRecipes T.ty_InvalidRecipes T.sb_InvalidSize_InvalidRecipes (fun e => (ne_of_sub T.sb_InvalidSize_InvalidRecipes T.sb_InvalidSize_InvalidSize e)))) (pa_cons (pe_isi (i := 1) hE hC (by rfl) T.z_isinstance rfl (by first | exact Or.inl rfl | exact Or.inr (Or.inl rfl) | exact Or.inr (Or.inr rfl)) (by rfl) T.gC_InvalidRequests (kit_own T.ic_InvalidRequests T.ty_InvalidRequests T.sb_InvalidSize_InvalidRequests (fun e => (ne_of_sub T.sb_InvalidSize_InvalidRequests T.sb_InvalidSize_InvalidSize e)))) (pa_cons (pe_isi (i := 1) hE hC (by rfl) T.z_isinstance rfl (by first | exact Or.inl rfl | exact Or.inr (Or.inl rfl) | exact Or.inr (Or.inr rfl)) (by rfl) T.gC_InvalidPrices (kit_own T.ic_InvalidPrices T.ty_InvalidPrices T.sb_InvalidSize_InvalidPrices (fun e => (ne_of_sub T.sb_InvalidSize_InvalidPrices T.sb_InvalidSize_InvalidSize e)))) pa_nil))))))
      (C8.pss_cut (ps_set (i := 2) sc__law_error_of.nd rfl (.inl rfl) (pe_op op_cat (pv 2) (pe_lst (pa_cons (pe_isi (i := 1) hE hC (by rfl) T.z_isinstance rfl (by first | exact Or.inl rfl | exact Or.inr (Or.inl rfl) | exact Or.inr (Or.inr rfl)) (by rfl) T.gC_InvalidPlan (kit_own T.ic_InvalidPlan T.ty_InvalidPlan T.sb_InvalidSize_InvalidPlan (fun e => (ne_of_sub T.sb_InvalidSize_InvalidPlan T.sb_InvalidSize_InvalidSize e)))) (pa_cons (pe_isi (i := 1) hE hC (by rfl) T.z_isinstance rfl (by first | exact Or.inl rfl | exact Or.inr (Or.inl rfl) | exact Or.inr (Or.inr rfl)) (by rfl) T.gC_PowerFailed (kit_own T.ic_PowerFailed T.ty_PowerFailed T.sb_InvalidSize_PowerFailed (fun e => (ne_of_sub T.sb_InvalidSize_PowerFailed T.sb_InvalidSize_InvalidSize e)))) (pa_cons (pe_isi (i := 1) hE hC (by rfl) T.z_isinstance rfl (by first | exact Or.inl rfl | exact Or.inr (Or.inl rfl) | exact Or.inr (Or.inr rfl)) (by rfl) T.gC_InvalidOperation (kit_own T.ic_InvalidOperation T.ty_InvalidOperation T.sb_InvalidSize_InvalidOperation (fun e => (ne_of_sub T.sb_InvalidSize_InvalidOperation T.sb_InvalidSize_InvalidSize e)))) pa_nil))))))
      (C8.pss_cut (ps_set (i := 2) sc__law_error_of.nd rfl (.inl rfl) (pe_op op_cat (pv 2) (pe_lst (pa_cons (pe_isi (i := 1) hE hC (by rfl) T.z_isinstance rfl (by first | exact Or.inl rfl | exact Or.inr (Or.inl rfl) | exact Or.inr (Or.inr rfl)) (by rfl) T.gC_NotationError (kit_own T.ic_NotationError T.ty_NotationError T.sb_InvalidSize_NotationError (fun e => (ne_of_sub T.sb_InvalidSize_NotationError T.sb_InvalidSize_InvalidSize e)))) (pa_cons (pe_isi (i := 1) hE hC (by rfl) T.z_isinstance rfl (by first | exact Or.inl rfl | exact Or.inr (Or.inl rfl) | exact Or.inr (Or.inr rfl)) (by rfl) T.gC_DecodeError (kit_own T.ic_DecodeError T.ty_DecodeError T.sb_InvalidSize_DecodeError (fun e => (ne_of_sub T.sb_InvalidSize_DecodeError T.sb_InvalidSize_InvalidSize e)))) pa_nil)))))
      (pss_cons (ps_if (PW.pt (pw_or (pt_cmpR op_ne (pe_bm PySem.F.plainAttrs_list PySem.F.slot_list_count PySem.F.type_list_count mt_lcountV (pv 2) (pa_cons pe_bl pa_nil)) pe_int (nomark _)) (pw_or1 (pt_not (pt_val (pe_callB (call_isC hE hC) (by rfl) T.z_isinstance (by decide +kernel) (pa_cons (pv 1) (pa_cons (pe_bltn (v := .ty "ValueError") (by rfl) T.z_ValueError (by decide +kernel) rfl) pa_nil)))))))) (pss_one (ps_ret (pe_tup (pa_cons pe_str (pa_cons pe_int pa_nil))))) pss_nil)
      (pss_cons (ps_set (i := 3) sc__law_error_of.nd rfl (.inl rfl) pe_str)
      (pss_cons (ps_set (i := 3) sc__law_error_of.nd rfl (.inl rfl) (pe_op op_add_str (pv 3) pe_str))
      (pss_cons (ps_set (i := 3) sc__law_error_of.nd rfl (.inl rfl) (pe_op op_add_str (pv 3) pe_str))
      (pss_one (ps_ret (pe_callP hT (L2H.roomH_mark (hr.mono (by first | decide | omega)) _) hHot List.mem_cons_self (by rfl) T.g__law_told_of T.F__law_told_of.kp (pa_cons (pv 1) (pa_cons (pe_ix ix_list (pe_bm PySem.F.plainAttrs_str PySem.F.slot_str_split PySem.F.type_str_split mt_split (pv 3) (pa_cons pe_str pa_nil)) (pe_bm PySem.F.plainAttrs_list PySem.F.slot_list_index PySem.F.type_list_index mt_index (pv 2) (pa_cons pe_bl pa_nil)) (fun _ _ => rfl)) pa_nil)))))))))))))))))) pins s' σ H D I ?_⟩
  obtain ⟨⟨x, v2, v3, rfl⟩, ⟨fs, hfl⟩, k⟩ := h
  have F0 := Fr.refl [] H
  refine ⟨fun σ' H' => ∃ k : Addr, σ' = [some x, some (.ref a), some (.ref k), v3] ∧ Fr [] H H' ∧ FldsAt H' d fs ∧ H' k = some (.lst (kinds_InvalidSize.take 3)), ?_, ?_⟩
  · exact ⟨⟨rfl, _, hfl⟩, ⟨⟨rfl, _, hfl⟩, ⟨⟨rfl, _, hfl⟩, ⟨sz_le (by decide), fun q hq => ⟨q, rfl, Fr.new hq, FldsAt.keep (S := []) hfl (Fr.new hq) (by simp), upd_same⟩⟩⟩⟩⟩
  rintro _ G1 ⟨k1, rfl, F1, h1, r1⟩
  refine ⟨fun σ' H' => ∃ k : Addr, σ' = [some x, some (.ref a), some (.ref k), v3] ∧ Fr [] H H' ∧ FldsAt H' d fs ∧ H' k = some (.lst (kinds_InvalidSize.take 6)), ?_, ?_⟩
  · exact ⟨_, rfl, ⟨⟨rfl, _, h1⟩, ⟨⟨rfl, _, h1⟩, ⟨⟨rfl, _, h1⟩, ⟨sz_le (by decide), fun q hq => ⟨k1, q, _, _, rfl, rfl, (upd_ne (ne_of_none r1 hq)).trans r1, upd_same, sz_le (by decide), fun k' hk' => ⟨k', rfl, (F1.trans (Fr.new hq)).trans (Fr.new hk'), FldsAt.keep (S := []) (FldsAt.keep (S := []) h1 (Fr.new hq) (by simp)) (Fr.new hk') (by simp), upd_same⟩⟩⟩⟩⟩⟩⟩
  rintro _ G2 ⟨k2, rfl, F2, h2, r2⟩
  refine ⟨fun σ' H' => ∃ k : Addr, σ' = [some x, some (.ref a), some (.ref k), v3] ∧ Fr [] H H' ∧ FldsAt H' d fs ∧ H' k = some (.lst (kinds_InvalidSize.take 9)), ?_, ?_⟩
  · exact ⟨_, rfl, ⟨⟨rfl, _, h2⟩, ⟨⟨rfl, _, h2⟩, ⟨⟨rfl, _, h2⟩, ⟨sz_le (by decide), fun q hq => ⟨k2, q, _, _, rfl, rfl, (upd_ne (ne_of_none r2 hq)).trans r2, upd_same, sz_le (by decide), fun k' hk' => ⟨k', rfl, (F2.trans (Fr.new hq)).trans (Fr.new hk'), FldsAt.keep (S := []) (FldsAt.keep (S := []) h2 (Fr.new hq) (by simp)) (Fr.new hk') (by simp), upd_same⟩⟩⟩⟩⟩⟩⟩
  rintro _ G3 ⟨k3, rfl, F3, h3, r3⟩
  refine ⟨fun σ' H' => ∃ k : Addr, σ' = [some x, some (.ref a), some (.ref k), v3] ∧ Fr [] H H' ∧ FldsAt H' d fs ∧ H' k = some (.lst (kinds_InvalidSize.take 12)), ?_, ?_⟩
  · exact ⟨_, rfl, ⟨⟨rfl, _, h3⟩, ⟨⟨rfl, _, h3⟩, ⟨⟨rfl, _, h3⟩, ⟨sz_le (by decide), fun q hq => ⟨k3, q, _, _, rfl, rfl, (upd_ne (ne_of_none r3 hq)).trans r3, upd_same, sz_le (by decide), fun k' hk' => ⟨k', rfl, (F3.trans (Fr.new hq)).trans (Fr.new hk'), FldsAt.keep (S := []) (FldsAt.keep (S := []) h3 (Fr.new hq) (by simp)) (Fr.new hk') (by simp), upd_same⟩⟩⟩⟩⟩⟩⟩
  rintro _ G4 ⟨k4, rfl, F4, h4, r4⟩
  refine ⟨fun σ' H' => ∃ k : Addr, σ' = [some x, some (.ref a), some (.ref k), v3] ∧ Fr [] H H' ∧ FldsAt H' d fs ∧ H' k = some (.lst (kinds_InvalidSize.take 15)), ?_, ?_⟩
  · exact ⟨_, rfl, ⟨⟨rfl, _, h4⟩, ⟨⟨rfl, _, h4⟩, ⟨⟨rfl, _, h4⟩, ⟨sz_le (by decide), fun q hq => ⟨k4, q, _, _, rfl, rfl, (upd_ne (ne_of_none r4 hq)).trans r4, upd_same, sz_le (by decide), fun k' hk' => ⟨k', rfl, (F4.trans (Fr.new hq)).trans (Fr.new hk'), FldsAt.keep (S := []) (FldsAt.keep (S := []) h4 (Fr.new hq) (by simp)) (Fr.new hk') (by simp), upd_same⟩⟩⟩⟩⟩⟩⟩
  rintro _ G5 ⟨k5, rfl, F5, h5, r5⟩
  refine ⟨fun σ' H' => ∃ k : Addr, σ' = [some x, some (.ref a), some (.ref k), v3] ∧ Fr [] H H' ∧ FldsAt H' d fs ∧ H' k = some (.lst (kinds_InvalidSize.take 18)), ?_, ?_⟩
  · exact ⟨_, rfl, ⟨⟨rfl, _, h5⟩, ⟨⟨rfl, _, h5⟩, ⟨⟨rfl, _, h5⟩, ⟨sz_le (by decide), fun q hq => ⟨k5, q, _, _, rfl, rfl, (upd_ne (ne_of_none r5 hq)).trans r5, upd_same, sz_le (by decide), fun k' hk' => ⟨k', rfl, (F5.trans (Fr.new hq)).trans (Fr.new hk'), FldsAt.keep (S := []) (FldsAt.keep (S := []) h5 (Fr.new hq) (by simp)) (Fr.new hk') (by simp), upd_same⟩⟩⟩⟩⟩⟩⟩
  rintro _ G6 ⟨k6, rfl, F6, h6, r6⟩
  refine ⟨fun σ' H' => ∃ k : Addr, σ' = [some x, some (.ref a), some (.ref k), v3] ∧ Fr [] H H' ∧ FldsAt H' d fs ∧ H' k = some (.lst (kinds_InvalidSize.take 21)), ?_, ?_⟩
  · exact ⟨_, rfl, ⟨⟨rfl, _, h6⟩, ⟨⟨rfl, _, h6⟩, ⟨⟨rfl, _, h6⟩, ⟨sz_le (by decide), fun q hq => ⟨k6, q, _, _, rfl, rfl, (upd_ne (ne_of_none r6 hq)).trans r6, upd_same, sz_le (by decide), fun k' hk' => ⟨k', rfl, (F6.trans (Fr.new hq)).trans (Fr.new hk'), FldsAt.keep (S := []) (FldsAt.keep (S := []) h6 (Fr.new hq) (by simp)) (Fr.new hk') (by simp), upd_same⟩⟩⟩⟩⟩⟩⟩
  rintro _ G7 ⟨k7, rfl, F7, h7, r7⟩
  refine ⟨fun σ' H' => ∃ k : Addr, σ' = [some x, some (.ref a), some (.ref k), v3] ∧ Fr [] H H' ∧ FldsAt H' d fs ∧ H' k = some (.lst (kinds_InvalidSize.take 24)), ?_, ?_⟩
  · exact ⟨_, rfl, ⟨⟨rfl, _, h7⟩, ⟨⟨rfl, _, h7⟩, ⟨⟨rfl, _, h7⟩, ⟨sz_le (by decide), fun q hq => ⟨k7, q, _, _, rfl, rfl, (upd_ne (ne_of_none r7 hq)).trans r7, upd_same, sz_le (by decide), fun k' hk' => ⟨k', rfl, (F7.trans (Fr.new hq)).trans (Fr.new hk'), FldsAt.keep (S := []) (FldsAt.keep (S := []) h7 (Fr.new hq) (by simp)) (Fr.new hk') (by simp), upd_same⟩⟩⟩⟩⟩⟩⟩
  rintro _ G8 ⟨k8, rfl, F8, h8, r8⟩
  refine ⟨fun σ' H' => ∃ k : Addr, σ' = [some x, some (.ref a), some (.ref k), v3] ∧ Fr [] H H' ∧ FldsAt H' d fs ∧ H' k = some (.lst (kinds_InvalidSize.take 26)), ?_, ?_⟩
  · exact ⟨_, rfl, ⟨⟨rfl, _, h8⟩, ⟨⟨rfl, _, h8⟩, ⟨sz_le (by decide), fun q hq => ⟨k8, q, _, _, rfl, rfl, (upd_ne (ne_of_none r8 hq)).trans r8, upd_same, sz_le (by decide), fun k' hk' => ⟨k', rfl, (F8.trans (Fr.new hq)).trans (Fr.new hk'), FldsAt.keep (S := []) (FldsAt.keep (S := []) h8 (Fr.new hq) (by simp)) (Fr.new hk') (by simp), upd_same⟩⟩⟩⟩⟩⟩
  rintro _ G9 ⟨k9, rfl, F9, h9, r9⟩
  have rk : G9 k9 = some (HO.lst kinds_InvalidSize) := r9
  refine ⟨_, rfl, .inl ⟨rfl, _, SqL.of rk⟩, k9, kinds_InvalidSize, .bl true, rfl, rfl, SqL.of rk, rfl, kinds_InvalidSize_all, ?_⟩
  rw [kinds_InvalidSize_cnt]
  refine ⟨rfl, _, rfl, iteF ?_⟩
  refine ⟨_, rfl, _, .type "ValueError", true, _, rfl, h9, (fun _ z => z), kit_ve T.vb_InvalidSize, _, rfl, iteF ?_⟩
  refine ⟨_, rfl, _, _, rfl, rfl, sz_le (by decide), ?_⟩
  refine ⟨_, rfl, _, _, rfl, rfl, sz_le (by decide), ?_⟩
  refine ⟨_, rfl, _, rfl, rfl, _, _, rfl, rfl, by decide +kernel, sz_le (by decide +kernel), fun z hz' => ?_⟩
  have rz := (upd_ne (o := .lst ((Txt.split ENAMES " ").map V.str)) (ne_of_none rk hz')).trans rk
  refine ⟨_, rfl, .inl ⟨rfl, _, SqL.of rz⟩, k9, kinds_InvalidSize, .bl true, 0, .bl true, rfl, rfl, SqL.of rz, rfl, kinds_InvalidSize_all, kinds_InvalidSize_at, rfl, kinds_InvalidSize_fst, ?_⟩
  refine ⟨z, _, (0 : Int), .str "size", rfl, rfl, SqL.of upd_same, atI_nat (j := 0) (by show ((Txt.split ENAMES " ").map V.str)[0]? = _; rw [split_names]; rfl), rfl, ?_⟩
  have hZ := FldsAt.keep (S := []) h9 (Fr.new (o := .lst ((Txt.split ENAMES " ").map V.str)) hz') (by simp)
  have FZ := F9.trans (Fr.new (o := .lst ((Txt.split ENAMES " ").map V.str)) hz')
  exact fun t H'' ht f et => k t H'' (some_of FZ (by simp) ht) (FZ.trans f) et
def kinds_InvalidCell : List V := [.bl false, .bl true, .bl false, .bl false, .bl false, .bl false, .bl false, .bl false, .bl false, .bl false, .bl false, .bl false, .bl false, .bl false, .bl false, .bl false, .bl false, .bl false, .bl false, .bl false, .bl false, .bl false, .bl false, .bl false, .bl false, .bl false]
theorem kinds_InvalidCell_cnt : kinds_InvalidCell.countP (fun z => eqV z (.bl true)) = 1 := by decide +kernel
theorem kinds_InvalidCell_all : kinds_InvalidCell.all flatV = true := by decide +kernel
theorem kinds_InvalidCell_at : kinds_InvalidCell[1]? = some (.bl true) := by decide +kernel
theorem kinds_InvalidCell_fst : ∀ (m : Nat) (z' : V), m < 1 → kinds_InvalidCell[m]? = some z' → eqV z' (.bl true) = false := idx_first (by decide +kernel)
theorem suite_InvalidCell (T : Gx K mg) {A : Around} {outer : List Env} {s : Shared} {H0 : Hp} {E : XK} {cdv : Value} {a : Addr} {oe : Obj} {d : Option Addr} {pn : List (Addr × Obj)} (hr : Room 2 (A.deeper (PyProof.Rows.envOfC "_law_error_of" (defScope s__law_error_of) s.heap.objs.size T.f__law_error_of cdv))) (hz : L2N.Zn (.ref T.C_InvalidCell) d oe) (hf : ∃ vs, oe.data = .fields vs) :
    PSs ((cxOf C8.CX0 P w K mg base ["_law_call", "_law_e", "_law_kinds", "_law_names"] "_law_error_of" (defScope s__law_error_of) T.f__law_error_of cdv A outer s H0 E).suite a ((a, oe) :: pn)) (suiteOf (defBody s__law_error_of)) (fun D σ H => (∃ (x : V) (v2 v3 : Option V), σ = [some x, some (.ref a), v2, v3]) ∧ ((∃ fs, FldsAt H d fs) ∧ ∀ (t : Addr) (H'' : Hp), H t = none → Fr [] H H'' → H'' t = some (.tup [.str "cell", .int 0]) → D.rt (.ref t) H'')) := by
  have hC : Cgt ((cxOf C8.CX0 P w K mg base ["_law_call", "_law_e", "_law_kinds", "_law_names"] "_law_error_of" (defScope s__law_error_of) T.f__law_error_of cdv A outer s H0 E).suite a ((a, oe) :: pn)) T.C_InvalidCell a oe d := ⟨List.mem_cons_self, hz, hf⟩
  have hE : ExcC ((cxOf C8.CX0 P w K mg base ["_law_call", "_law_e", "_law_kinds", "_law_names"] "_law_error_of" (defScope s__law_error_of) T.f__law_error_of cdv A outer s H0 E).suite a ((a, oe) :: pn)).K T.C_InvalidCell := T.E_InvalidCell
  have hT := ok_told_InvalidCell (P := P) (w := w) (base := base) T (a := a) hz hf
  have hHot : L2H.Hot1 ((cxOf C8.CX0 P w K mg base ["_law_call", "_law_e", "_law_kinds", "_law_names"] "_law_error_of" (defScope s__law_error_of) T.f__law_error_of cdv A outer s H0 E).suite a ((a, oe) :: pn)).A (a, oe) := ⟨rfl, by
    obtain ⟨vs, hv⟩ := hf
    exact ⟨vs, hv, hz.2.2 vs hv⟩⟩
  refine ⟨fun pins s' σ H D I h => PSs.run (C8.pss_cut (ps_set (i := 2) sc__law_error_of.nd rfl (.inl rfl) (pe_lst (pa_cons (pe_isi (i := 1) hE hC (by rfl) T.z_isinstance rfl (by first | exact Or.inl rfl | exact Or.inr (Or.inl rfl) | exact Or.inr (Or.inr rfl)) (by rfl) T.gC_InvalidSize (kit_own T.ic_InvalidSize T.ty_InvalidSize T.sb_InvalidCell_InvalidSize (fun e => (ne_of_sub T.sb_InvalidCell_InvalidSize T.sb_InvalidCell_InvalidCell e)))) (pa_cons (pe_isi (i := 1) hE hC (by rfl) T.z_isinstance rfl (by first | exact Or.inl rfl | exact Or.inr (Or.inl rfl) | exact Or.inr (Or.inr rfl)) (by rfl) T.gC_InvalidCell (kit_own T.ic_InvalidCell T.ty_InvalidCell T.sb_InvalidCell_InvalidCell (fun _ => rfl))) (pa_cons (pe_isi (i := 1) hE hC (by rfl) T.z_isinstance rfl (by first | exact Or.inl rfl | exact Or.inr (Or.inl rfl) | exact Or.inr (Or.inr rfl)) (by rfl) T.gC_InvalidKept (kit_own T.ic_InvalidKept T.ty_InvalidKept T.sb_InvalidCell_InvalidKept (fun e => (ne_of_sub T.sb_InvalidCell_InvalidKept T.sb_InvalidCell_InvalidCell e)))) pa_nil)))))
      (C8.pss_cut (ps_set (i := 2) sc__law_error_of.nd rfl (.inl rfl) (pe_op op_cat (pv 2) (pe_lst (pa_cons (pe_isi (i := 1) hE hC (by rfl) T.z_isinstance rfl (by first | exact Or.inl rfl | exact Or.inr (Or.inl rfl) | exact Or.inr (Or.inr rfl)) (by rfl) T.gC_InvalidBlock (kit_own T.ic_InvalidBlock T.ty_InvalidBlock T.sb_InvalidCell_InvalidBlock (fun e => (ne_of_sub T.sb_InvalidCell_InvalidBlock T.sb_InvalidCell_InvalidCell e)))) (pa_cons (pe_isi (i := 1) hE hC (by rfl) T.z_isinstance rfl (by first | exact Or.inl rfl | exact Or.inr (Or.inl rfl) | exact Or.inr (Or.inr rfl)) (by rfl) T.gC_InvalidValue (kit_own T.ic_InvalidValue T.ty_InvalidValue T.sb_InvalidCell_InvalidValue (fun e => (ne_of_sub T.sb_InvalidCell_InvalidValue T.sb_InvalidCell_InvalidCell e)))) (pa_cons (pe_isi (i := 1) hE hC (by rfl) T.z_isinstance rfl (by first | exact Or.inl rfl | exact Or.inr (Or.inl rfl) | exact Or.inr (Or.inr rfl)) (by rfl) T.gC_InvalidCount (kit_own T.ic_InvalidCount T.ty_InvalidCount T.sb_InvalidCell_InvalidCount (fun e => (ne_of_sub T.sb_InvalidCell_InvalidCount T.sb_InvalidCell_InvalidCell e)))) pa_nil))))))
      (C8.pss_cut (ps_set (i := 2) sc__law_error_of.nd rfl (.inl rfl) (pe_op op_cat (pv 2) (pe_lst (pa_cons (pe_isi (i := 1) hE hC (by rfl) T.z_isinstance rfl (by first | exact Or.inl rfl | exact Or.inr (Or.inl rfl) | exact Or.inr (Or.inr rfl)) (by rfl) T.gC_InvalidSlot (kit_own T.ic_InvalidSlot T.ty_InvalidSlot T.sb_InvalidCell_InvalidSlot (fun e => (ne_of_sub T.sb_InvalidCell_InvalidSlot T.sb_InvalidCell_InvalidCell e)))) (pa_cons (pe_isi (i := 1) hE hC (by rfl) T.z_isinstance rfl (by first | exact Or.inl rfl | exact Or.inr (Or.inl rfl) | exact Or.inr (Or.inr rfl)) (by rfl) T.gC_InvalidWord (kit_own T.ic_InvalidWord T.ty_InvalidWord T.sb_InvalidCell_InvalidWord (fun e => (ne_of_sub T.sb_InvalidCell_InvalidWord T.sb_InvalidCell_InvalidCell e)))) (pa_cons (pe_isi (i := 1) hE hC (by rfl) T.z_isinstance rfl (by first | exact Or.inl rfl | exact Or.inr (Or.inl rfl) | exact Or.inr (Or.inr rfl)) (by rfl) T.gC_InvalidStory (kit_own T.ic_InvalidStory T.ty_InvalidStory T.sb_InvalidCell_InvalidStory (fun e => (ne_of_sub T.sb_InvalidCell_InvalidStory T.sb_InvalidCell_InvalidCell e)))) pa_nil))))))
      (C8.pss_cut (ps_set (i := 2) sc__law_error_of.nd rfl (.inl rfl) (pe_op op_cat (pv 2) (pe_lst (pa_cons (pe_isi (i := 1) hE hC (by rfl) T.z_isinstance rfl (by first | exact Or.inl rfl | exact Or.inr (Or.inl rfl) | exact Or.inr (Or.inr rfl)) (by rfl) T.gC_PowerOff (kit_own T.ic_PowerOff T.ty_PowerOff T.sb_InvalidCell_PowerOff (fun e => (ne_of_sub T.sb_InvalidCell_PowerOff T.sb_InvalidCell_InvalidCell e)))) (pa_cons (pe_isi (i := 1) hE hC (by rfl) T.z_isinstance rfl (by first | exact Or.inl rfl | exact Or.inr (Or.inl rfl) | exact Or.inr (Or.inr rfl)) (by rfl) T.gC_PowerOn (kit_own T.ic_PowerOn T.ty_PowerOn T.sb_InvalidCell_PowerOn (fun e => (ne_of_sub T.sb_InvalidCell_PowerOn T.sb_InvalidCell_InvalidCell e)))) (pa_cons (pe_isi (i := 1) hE hC (by rfl) T.z_isinstance rfl (by first | exact Or.inl rfl | exact Or.inr (Or.inl rfl) | exact Or.inr (Or.inr rfl)) (by rfl) T.gC_NoFastDisk (kit_own T.ic_NoFastDisk T.ty_NoFastDisk T.sb_InvalidCell_NoFastDisk (fun e => (ne_of_sub T.sb_InvalidCell_NoFastDisk T.sb_InvalidCell_InvalidCell e)))) pa_nil))))))
      (C8.pss_cut (ps_set (i := 2) sc__law_error_of.nd rfl (.inl rfl) (pe_op op_cat (pv 2) (pe_lst (pa_cons (pe_isi (i := 1) hE hC (by rfl) T.z_isinstance rfl (by first | exact Or.inl rfl | exact Or.inr (Or.inl rfl) | exact Or.inr (Or.inr rfl)) (by rfl) T.gC_HasFastDisk (kit_own T.ic_HasFastDisk T.ty_HasFastDisk T.sb_InvalidCell_HasFastDisk (fun e => (ne_of_sub T.sb_InvalidCell_HasFastDisk T.sb_InvalidCell_InvalidCell e)))) (pa_cons (pe_isi (i := 1) hE hC (by rfl) T.z_isinstance rfl (by first | exact Or.inl rfl | exact Or.inr (Or.inl rfl) | exact Or.inr (Or.inr rfl)) (by rfl) T.gC_Unsettled (kit_own T.ic_Unsettled T.ty_Unsettled T.sb_InvalidCell_Unsettled (fun e => (ne_of_sub T.sb_InvalidCell_Unsettled T.sb_InvalidCell_InvalidCell e)))) (pa_cons (pe_isi (i := 1) hE hC (by rfl) T.z_isinstance rfl (by first | exact Or.inl rfl | exact Or.inr (Or.inl rfl) | exact Or.inr (Or.inr rfl)) (by rfl) T.gC_Contradiction (kit_own T.ic_Contradiction T.ty_Contradiction T.sb_InvalidCell_Contradiction (fun e => (ne_of_sub T.sb_InvalidCell_Contradiction T.sb_InvalidCell_InvalidCell e)))) pa_nil))))))
      (C8.pss_cut (ps_set (i := 2) sc__law_error_of.nd rfl (.inl rfl) (pe_op op_cat (pv 2) (pe_lst (pa_cons (pe_isi (i := 1) hE hC (by rfl) T.z_isinstance rfl (by first | exact Or.inl rfl | exact Or.inr (Or.inl rfl) | exact Or.inr (Or.inr rfl)) (by rfl) T.gC_InvalidName (kit_own T.ic_InvalidName T.ty_InvalidName T.sb_InvalidCell_InvalidName (fun e => (ne_of_sub T.sb_InvalidCell_InvalidName T.sb_InvalidCell_InvalidCell e)))) (pa_cons (pe_isi (i := 1) hE hC (by rfl) T.z_isinstance rfl (by first | exact Or.inl rfl | exact Or.inr (Or.inl rfl) | exact Or.inr (Or.inr rfl)) (by rfl) T.gC_UnknownName (kit_own T.ic_UnknownName T.ty_UnknownName T.sb_InvalidCell_UnknownName (fun e => (ne_of_sub T.sb_InvalidCell_UnknownName T.sb_InvalidCell_InvalidCell e)))) (pa_cons (pe_isi (i := 1) hE hC (by rfl) T.z_isinstance rfl (by first | exact Or.inl rfl | exact Or.inr (Or.inl rfl) | exact Or.inr (Or.inr rfl)) (by rfl) T.gC_InvalidRules (kit_own T.ic_InvalidRules T.ty_InvalidRules T.sb_InvalidCell_InvalidRules (fun e => (ne_of_sub T.sb_InvalidCell_InvalidRules T.sb_InvalidCell_InvalidCell e)))) pa_nil))))))
      (C8.pss_cut (ps_set (i := 2) sc__law_error_of.nd rfl (.inl rfl) (pe_op op_cat (pv 2) (pe_lst (pa_cons (pe_isi (i := 1) hE hC (by rfl) T.z_isinstance rfl (by first | exact Or.inl rfl | exact Or.inr (Or.inl rfl) | exact Or.inr (Or.inr rfl)) (by rfl) T.gC_InvalidRecipes (kit_own T.ic_InvalidRecipes T.ty_InvalidRecipes T.sb_InvalidCell_InvalidRecipes (fun e => (ne_of_sub T.sb_InvalidCell_InvalidRecipes T.sb_InvalidCell_InvalidCell e)))) (pa_cons (pe_isi (i := 1) hE hC (by rfl) T.z_isinstance rfl (by first | exact Or.inl rfl | exact Or.inr (Or.inl rfl) | exact Or.inr (Or.inr rfl)) (by rfl) T.gC_InvalidRequests (kit_own T.ic_InvalidRequests T.ty_InvalidRequests T.sb_InvalidCell_InvalidRequests (fun e => (ne_of_sub T.sb_InvalidCell_InvalidRequests T.sb_InvalidCell_InvalidCell e)))) (pa_cons (pe_isi (i := 1) hE hC (by rfl) T.z_isinstance rfl (by first | exact Or.inl rfl | exact Or.inr (Or.inl rfl) | exact Or.inr (Or.inr rfl)) (by rfl) T.gC_InvalidPrices (kit_own T.ic_InvalidPrices T.ty_InvalidPrices T.sb_InvalidCell_InvalidPrices (fun e => (ne_of_sub T.sb_InvalidCell_InvalidPrices T.sb_InvalidCell_InvalidCell e)))) pa_nil))))))
      (C8.pss_cut (ps_set (i := 2) sc__law_error_of.nd rfl (.inl rfl) (pe_op op_cat (pv 2) (pe_lst (pa_cons (pe_isi (i := 1) hE hC (by rfl) T.z_isinstance rfl (by first | exact Or.inl rfl | exact Or.inr (Or.inl rfl) | exact Or.inr (Or.inr rfl)) (by rfl) T.gC_InvalidPlan (kit_own T.ic_InvalidPlan T.ty_InvalidPlan T.sb_InvalidCell_InvalidPlan (fun e => (ne_of_sub T.sb_InvalidCell_InvalidPlan T.sb_InvalidCell_InvalidCell e)))) (pa_cons (pe_isi (i := 1) hE hC (by rfl) T.z_isinstance rfl (by first | exact Or.inl rfl | exact Or.inr (Or.inl rfl) | exact Or.inr (Or.inr rfl)) (by rfl) T.gC_PowerFailed (kit_own T.ic_PowerFailed T.ty_PowerFailed T.sb_InvalidCell_PowerFailed (fun e => (ne_of_sub T.sb_InvalidCell_PowerFailed T.sb_InvalidCell_InvalidCell e)))) (pa_cons (pe_isi (i := 1) hE hC (by rfl) T.z_isinstance rfl (by first | exact Or.inl rfl | exact Or.inr (Or.inl rfl) | exact Or.inr (Or.inr rfl)) (by rfl) T.gC_InvalidOperation (kit_own T.ic_InvalidOperation T.ty_InvalidOperation T.sb_InvalidCell_InvalidOperation (fun e => (ne_of_sub T.sb_InvalidCell_InvalidOperation T.sb_InvalidCell_InvalidCell e)))) pa_nil))))))
      (C8.pss_cut (ps_set (i := 2) sc__law_error_of.nd rfl (.inl rfl) (pe_op op_cat (pv 2) (pe_lst (pa_cons (pe_isi (i := 1) hE hC (by rfl) T.z_isinstance rfl (by first | exact Or.inl rfl | exact Or.inr (Or.inl rfl) | exact Or.inr (Or.inr rfl)) (by rfl) T.gC_NotationError (kit_own T.ic_NotationError T.ty_NotationError T.sb_InvalidCell_NotationError (fun e => (ne_of_sub T.sb_InvalidCell_NotationError T.sb_InvalidCell_InvalidCell e)))) (pa_cons (pe_isi (i := 1) hE hC (by rfl) T.z_isinstance rfl (by first | exact Or.inl rfl | exact Or.inr (Or.inl rfl) | exact Or.inr (Or.inr rfl)) (by rfl) T.gC_DecodeError (kit_own T.ic_DecodeError T.ty_DecodeError T.sb_InvalidCell_DecodeError (fun e => (ne_of_sub T.sb_InvalidCell_DecodeError T.sb_InvalidCell_InvalidCell e)))) pa_nil)))))
      (pss_cons (ps_if (PW.pt (pw_or (pt_cmpR op_ne (pe_bm PySem.F.plainAttrs_list PySem.F.slot_list_count PySem.F.type_list_count mt_lcountV (pv 2) (pa_cons pe_bl pa_nil)) pe_int (nomark _)) (pw_or1 (pt_not (pt_val (pe_callB (call_isC hE hC) (by rfl) T.z_isinstance (by decide +kernel) (pa_cons (pv 1) (pa_cons (pe_bltn (v := .ty "ValueError") (by rfl) T.z_ValueError (by decide +kernel) rfl) pa_nil)))))))) (pss_one (ps_ret (pe_tup (pa_cons pe_str (pa_cons pe_int pa_nil))))) pss_nil)
      (pss_cons (ps_set (i := 3) sc__law_error_of.nd rfl (.inl rfl) pe_str)
      (pss_cons (ps_set (i := 3) sc__law_error_of.nd rfl (.inl rfl) (pe_op op_add_str (pv 3) pe_str))
      (pss_cons (ps_set (i := 3) sc__law_error_of.nd rfl (.inl rfl) (pe_op op_add_str (pv 3) pe_str))
      (pss_one (ps_ret (pe_callP hT (L2H.roomH_mark (hr.mono (by first | decide | omega)) _) hHot List.mem_cons_self (by rfl) T.g__law_told_of T.F__law_told_of.kp (pa_cons (pv 1) (pa_cons (pe_ix ix_list (pe_bm PySem.F.plainAttrs_str PySem.F.slot_str_split PySem.F.type_str_split mt_split (pv 3) (pa_cons pe_str pa_nil)) (pe_bm PySem.F.plainAttrs_list PySem.F.slot_list_index PySem.F.type_list_index mt_index (pv 2) (pa_cons pe_bl pa_nil)) (fun _ _ => rfl)) pa_nil)))))))))))))))))) pins s' σ H D I ?_⟩
  obtain ⟨⟨x, v2, v3, rfl⟩, ⟨fs, hfl⟩, k⟩ := h
  have F0 := Fr.refl [] H
  refine ⟨fun σ' H' => ∃ k : Addr, σ' = [some x, some (.ref a), some (.ref k), v3] ∧ Fr [] H H' ∧ FldsAt H' d fs ∧ H' k = some (.lst (kinds_InvalidCell.take 3)), ?_, ?_⟩
  · exact ⟨⟨rfl, _, hfl⟩, ⟨⟨rfl, _, hfl⟩, ⟨⟨rfl, _, hfl⟩, ⟨sz_le (by decide), fun q hq => ⟨q, rfl, Fr.new hq, FldsAt.keep (S := []) hfl (Fr.new hq) (by simp), upd_same⟩⟩⟩⟩⟩
  rintro _ G1 ⟨k1, rfl, F1, h1, r1⟩
  refine ⟨fun σ' H' => ∃ k : Addr, σ' = [some x, some (.ref a), some (.ref k), v3] ∧ Fr [] H H' ∧ FldsAt H' d fs ∧ H' k = some (.lst (kinds_InvalidCell.take 6)), ?_, ?_⟩
  · exact ⟨_, rfl, ⟨⟨rfl, _, h1⟩, ⟨⟨rfl, _, h1⟩, ⟨⟨rfl, _, h1⟩, ⟨sz_le (by decide), fun q hq => ⟨k1, q, _, _, rfl, rfl, (upd_ne (ne_of_none r1 hq)).trans r1, upd_same, sz_le (by decide), fun k' hk' => ⟨k', rfl, (F1.trans (Fr.new hq)).trans (Fr.new hk'), FldsAt.keep (S := []) (FldsAt.keep (S := []) h1 (Fr.new hq) (by simp)) (Fr.new hk') (by simp), upd_same⟩⟩⟩⟩⟩⟩⟩
  rintro _ G2 ⟨k2, rfl, F2, h2, r2⟩
  refine ⟨fun σ' H' => ∃ k : Addr, σ' = [some x, some (.ref a), some (.ref k), v3] ∧ Fr [] H H' ∧ FldsAt H' d fs ∧ H' k = some (.lst (kinds_InvalidCell.take 9)), ?_, ?_⟩
  · exact ⟨_, rfl, ⟨⟨rfl, _, h2⟩, ⟨⟨rfl, _, h2⟩, ⟨⟨rfl, _, h2⟩, ⟨sz_le (by decide), fun q hq => ⟨k2, q, _, _, rfl, rfl, (upd_ne (ne_of_none r2 hq)).trans r2, upd_same, sz_le (by decide), fun k' hk' => ⟨k', rfl, (F2.trans (Fr.new hq)).trans (Fr.new hk'), FldsAt.keep (S := []) (FldsAt.keep (S := []) h2 (Fr.new hq) (by simp)) (Fr.new hk') (by simp), upd_same⟩⟩⟩⟩⟩⟩⟩
  rintro _ G3 ⟨k3, rfl, F3, h3, r3⟩
  refine ⟨fun σ' H' => ∃ k : Addr, σ' = [some x, some (.ref a), some (.ref k), v3] ∧ Fr [] H H' ∧ FldsAt H' d fs ∧ H' k = some (.lst (kinds_InvalidCell.take 12)), ?_, ?_⟩
  · exact ⟨_, rfl, ⟨⟨rfl, _, h3⟩, ⟨⟨rfl, _, h3⟩, ⟨⟨rfl, _, h3⟩, ⟨sz_le (by decide), fun q hq => ⟨k3, q, _, _, rfl, rfl, (upd_ne (ne_of_none r3 hq)).trans r3, upd_same, sz_le (by decide), fun k' hk' => ⟨k', rfl, (F3.trans (Fr.new hq)).trans (Fr.new hk'), FldsAt.keep (S := []) (FldsAt.keep (S := []) h3 (Fr.new hq) (by simp)) (Fr.new hk') (by simp), upd_same⟩⟩⟩⟩⟩⟩⟩
  rintro _ G4 ⟨k4, rfl, F4, h4, r4⟩
  refine ⟨fun σ' H' => ∃ k : Addr, σ' = [some x, some (.ref a), some (.ref k), v3] ∧ Fr [] H H' ∧ FldsAt H' d fs ∧ H' k = some (.lst (kinds_InvalidCell.take 15)), ?_, ?_⟩
  · exact ⟨_, rfl, ⟨⟨rfl, _, h4⟩, ⟨⟨rfl, _, h4⟩, ⟨⟨rfl, _, h4⟩, ⟨sz_le (by decide), fun q hq => ⟨k4, q, _, _, rfl, rfl, (upd_ne (ne_of_none r4 hq)).trans r4, upd_same, sz_le (by decide), fun k' hk' => ⟨k', rfl, (F4.trans (Fr.new hq)).trans (Fr.new hk'), FldsAt.keep (S := []) (FldsAt.keep (S := []) h4 (Fr.new hq) (by simp)) (Fr.new hk') (by simp), upd_same⟩⟩⟩⟩⟩⟩⟩
  rintro _ G5 ⟨k5, rfl, F5, h5, r5⟩
  refine ⟨fun σ' H' => ∃ k : Addr, σ' = [some x, some (.ref a), some (.ref k), v3] ∧ Fr [] H H' ∧ FldsAt H' d fs ∧ H' k = some (.lst (kinds_InvalidCell.take 18)), ?_, ?_⟩
  · exact ⟨_, rfl, ⟨⟨rfl, _, h5⟩, ⟨⟨rfl, _, h5⟩, ⟨⟨rfl, _, h5⟩, ⟨sz_le (by decide), fun q hq => ⟨k5, q, _, _, rfl, rfl, (upd_ne (ne_of_none r5 hq)).trans r5, upd_same, sz_le (by decide), fun k' hk' => ⟨k', rfl, (F5.trans (Fr.new hq)).trans (Fr.new hk'), FldsAt.keep (S := []) (FldsAt.keep (S := []) h5 (Fr.new hq) (by simp)) (Fr.new hk') (by simp), upd_same⟩⟩⟩⟩⟩⟩⟩
  rintro _ G6 ⟨k6, rfl, F6, h6, r6⟩
  refine ⟨fun σ' H' => ∃ k : Addr, σ' = [some x, some (.ref a), some (.ref k), v3] ∧ Fr [] H H' ∧ FldsAt H' d fs ∧ H' k = some (.lst (kinds_InvalidCell.take 21)), ?_, ?_⟩
  · exact ⟨_, rfl, ⟨⟨rfl, _, h6⟩, ⟨⟨rfl, _, h6⟩, ⟨⟨rfl, _, h6⟩, ⟨sz_le (by decide), fun q hq => ⟨k6, q, _, _, rfl, rfl, (upd_ne (ne_of_none r6 hq)).trans r6, upd_same, sz_le (by decide), fun k' hk' => ⟨k', rfl, (F6.trans (Fr.new hq)).trans (Fr.new hk'), FldsAt.keep (S := []) (FldsAt.keep (S := []) h6 (Fr.new hq) (by simp)) (Fr.new hk') (by simp), upd_same⟩⟩⟩⟩⟩⟩⟩
  rintro _ G7 ⟨k7, rfl, F7, h7, r7⟩
  refine ⟨fun σ' H' => ∃ k : Addr, σ' = [some x, some (.ref a), some (.ref k), v3] ∧ Fr [] H H' ∧ FldsAt H' d fs ∧ H' k = some (.lst (kinds_InvalidCell.take 24)), ?_, ?_⟩
  · exact ⟨_, rfl, ⟨⟨rfl, _, h7⟩, ⟨⟨rfl, _, h7⟩, ⟨⟨rfl, _, h7⟩, ⟨sz_le (by decide), fun q hq => ⟨k7, q, _, _, rfl, rfl, (upd_ne (ne_of_none r7 hq)).trans r7, upd_same, sz_le (by decide), fun k' hk' => ⟨k', rfl, (F7.trans (Fr.new hq)).trans (Fr.new hk'), FldsAt.keep (S := []) (FldsAt.keep (S := []) h7 (Fr.new hq) (by simp)) (Fr.new hk') (by simp), upd_same⟩⟩⟩⟩⟩⟩⟩
  rintro _ G8 ⟨k8, rfl, F8, h8, r8⟩
  refine ⟨fun σ' H' => ∃ k : Addr, σ' = [some x, some (.ref a), some (.ref k), v3] ∧ Fr [] H H' ∧ FldsAt H' d fs ∧ H' k = some (.lst (kinds_InvalidCell.take 26)), ?_, ?_⟩
  · exact ⟨_, rfl, ⟨⟨rfl, _, h8⟩, ⟨⟨rfl, _, h8⟩, ⟨sz_le (by decide), fun q hq => ⟨k8, q, _, _, rfl, rfl, (upd_ne (ne_of_none r8 hq)).trans r8, upd_same, sz_le (by decide), fun k' hk' => ⟨k', rfl, (F8.trans (Fr.new hq)).trans (Fr.new hk'), FldsAt.keep (S := []) (FldsAt.keep (S := []) h8 (Fr.new hq) (by simp)) (Fr.new hk') (by simp), upd_same⟩⟩⟩⟩⟩⟩
  rintro _ G9 ⟨k9, rfl, F9, h9, r9⟩
  have rk : G9 k9 = some (HO.lst kinds_InvalidCell) := r9
  refine ⟨_, rfl, .inl ⟨rfl, _, SqL.of rk⟩, k9, kinds_InvalidCell, .bl true, rfl, rfl, SqL.of rk, rfl, kinds_InvalidCell_all, ?_⟩
  rw [kinds_InvalidCell_cnt]
  refine ⟨rfl, _, rfl, iteF ?_⟩
  refine ⟨_, rfl, _, .type "ValueError", true, _, rfl, h9, (fun _ z => z), kit_ve T.vb_InvalidCell, _, rfl, iteF ?_⟩
  refine ⟨_, rfl, _, _, rfl, rfl, sz_le (by decide), ?_⟩
  refine ⟨_, rfl, _, _, rfl, rfl, sz_le (by decide), ?_⟩
  refine ⟨_, rfl, _, rfl, rfl, _, _, rfl, rfl, by decide +kernel, sz_le (by decide +kernel), fun z hz' => ?_⟩
  have rz := (upd_ne (o := .lst ((Txt.split ENAMES " ").map V.str)) (ne_of_none rk hz')).trans rk
  refine ⟨_, rfl, .inl ⟨rfl, _, SqL.of rz⟩, k9, kinds_InvalidCell, .bl true, 1, .bl true, rfl, rfl, SqL.of rz, rfl, kinds_InvalidCell_all, kinds_InvalidCell_at, rfl, kinds_InvalidCell_fst, ?_⟩
  refine ⟨z, _, (1 : Int), .str "cell", rfl, rfl, SqL.of upd_same, atI_nat (j := 1) (by show ((Txt.split ENAMES " ").map V.str)[1]? = _; rw [split_names]; rfl), rfl, ?_⟩
  have hZ := FldsAt.keep (S := []) h9 (Fr.new (o := .lst ((Txt.split ENAMES " ").map V.str)) hz') (by simp)
  have FZ := F9.trans (Fr.new (o := .lst ((Txt.split ENAMES " ").map V.str)) hz')
  exact fun t H'' ht f et => k t H'' (some_of FZ (by simp) ht) (FZ.trans f) et
def kinds_InvalidKept : List V := [.bl false, .bl false, .bl true, .bl false, .bl false, .bl false, .bl false, .bl false, .bl false, .bl false, .bl false, .bl false, .bl false, .bl false, .bl false, .bl false, .bl false, .bl false, .bl false, .bl false, .bl false, .bl false, .bl false, .bl false, .bl false, .bl false]
theorem kinds_InvalidKept_cnt : kinds_InvalidKept.countP (fun z => eqV z (.bl true)) = 1 := by decide +kernel
theorem kinds_InvalidKept_all : kinds_InvalidKept.all flatV = true := by decide +kernel
theorem kinds_InvalidKept_at : kinds_InvalidKept[2]? = some (.bl true) := by decide +kernel
theorem kinds_InvalidKept_fst : ∀ (m : Nat) (z' : V), m < 2 → kinds_InvalidKept[m]? = some z' → eqV z' (.bl true) = false := idx_first (by decide +kernel)
theorem suite_InvalidKept (T : Gx K mg) {A : Around} {outer : List Env} {s : Shared} {H0 : Hp} {E : XK} {cdv : Value} {a : Addr} {oe : Obj} {d : Option Addr} {pn : List (Addr × Obj)} (hr : Room 2 (A.deeper (PyProof.Rows.envOfC "_law_error_of" (defScope s__law_error_of) s.heap.objs.size T.f__law_error_of cdv))) (hz : L2N.Zn (.ref T.C_InvalidKept) d oe) (hf : ∃ vs, oe.data = .fields vs) :
    PSs ((cxOf C8.CX0 P w K mg base ["_law_call", "_law_e", "_law_kinds", "_law_names"] "_law_error_of" (defScope s__law_error_of) T.f__law_error_of cdv A outer s H0 E).suite a ((a, oe) :: pn)) (suiteOf (defBody s__law_error_of)) (fun D σ H => (∃ (x : V) (v2 v3 : Option V), σ = [some x, some (.ref a), v2, v3]) ∧ ((∃ fs, FldsAt H d fs) ∧ ∀ (t : Addr) (H'' : Hp), H t = none → Fr [] H H'' → H'' t = some (.tup [.str "kept", .int 0]) → D.rt (.ref t) H'')) := by
  have hC : Cgt ((cxOf C8.CX0 P w K mg base ["_law_call", "_law_e", "_law_kinds", "_law_names"] "_law_error_of" (defScope s__law_error_of) T.f__law_error_of cdv A outer s H0 E).suite a ((a, oe) :: pn)) T.C_InvalidKept a oe d := ⟨List.mem_cons_self, hz, hf⟩
  have hE : ExcC ((cxOf C8.CX0 P w K mg base ["_law_call", "_law_e", "_law_kinds", "_law_names"] "_law_error_of" (defScope s__law_error_of) T.f__law_error_of cdv A outer s H0 E).suite a ((a, oe) :: pn)).K T.C_InvalidKept := T.E_InvalidKept
  have hT := ok_told_InvalidKept (P := P) (w := w) (base := base) T (a := a) hz hf
  have hHot : L2H.Hot1 ((cxOf C8.CX0 P w K mg base ["_law_call", "_law_e", "_law_kinds", "_law_names"] "_law_error_of" (defScope s__law_error_of) T.f__law_error_of cdv A outer s H0 E).suite a ((a, oe) :: pn)).A (a, oe) := ⟨rfl, by
    obtain ⟨vs, hv⟩ := hf
    exact ⟨vs, hv, hz.2.2 vs hv⟩⟩
  refine ⟨fun pins s' σ H D I h => PSs.run (C8.pss_cut (ps_set (i := 2) sc__law_error_of.nd rfl (.inl rfl) (pe_lst (pa_cons (pe_isi (i := 1) hE hC (by rfl) T.z_isinstance rfl (by first | exact Or.inl rfl | exact Or.inr (Or.inl rfl) | exact Or.inr (Or.inr rfl)) (by rfl) T.gC_InvalidSize (kit_own T.ic_InvalidSize T.ty_InvalidSize T.sb_InvalidKept_InvalidSize (fun e => (ne_of_sub T.sb_InvalidKept_InvalidSize T.sb_InvalidKept_InvalidKept e)))) (pa_cons (pe_isi (i := 1) hE hC (by rfl) T.z_isinstance rfl (by first | exact Or.inl rfl | exact Or.inr (Or.inl rfl) | exact Or.inr (Or.inr rfl)) (by rfl) T.gC_InvalidCell (kit_own T.ic_InvalidCell T.ty_InvalidCell T.sb_InvalidKept_InvalidCell (fun e => (ne_of_sub T.sb_InvalidKept_InvalidCell T.sb_InvalidKept_InvalidKept e)))) (pa_cons (pe_isi (i := 1) hE hC (by rfl) T.z_isinstance rfl (by first | exact Or.inl rfl | exact Or.inr (Or.inl rfl) | exact Or.inr (Or.inr rfl)) (by rfl) T.gC_InvalidKept (kit_own T.ic_InvalidKept T.ty_InvalidKept T.sb_InvalidKept_InvalidKept (fun _ => rfl))) pa_nil)))))
      (C8.pss_cut (ps_set (i := 2) sc__law_error_of.nd rfl (.inl rfl) (pe_op op_cat (pv 2) (pe_lst (pa_cons (pe_isi (i := 1) hE hC (by rfl) T.z_isinstance rfl (by first | exact Or.inl rfl | exact Or.inr (Or.inl rfl) | exact Or.inr (Or.inr rfl)) (by rfl) T.gC_InvalidBlock (kit_own T.ic_InvalidBlock T.ty_InvalidBlock T.sb_InvalidKept_InvalidBlock (fun e => (ne_of_sub T.sb_InvalidKept_InvalidBlock T.sb_InvalidKept_InvalidKept e)))) (pa_cons (pe_isi (i := 1) hE hC (by rfl) T.z_isinstance rfl (by first | exact Or.inl rfl | exact Or.inr (Or.inl rfl) | exact Or.inr (Or.inr rfl)) (by rfl) T.gC_InvalidValue (kit_own T.ic_InvalidValue T.ty_InvalidValue T.sb_InvalidKept_InvalidValue (fun e => (ne_of_sub T.sb_InvalidKept_InvalidValue T.sb_InvalidKept_InvalidKept e)))) (pa_cons (pe_isi (i := 1) hE hC (by rfl) T.z_isinstance rfl (by first | exact Or.inl rfl | exact Or.inr (Or.inl rfl) | exact Or.inr (Or.inr rfl)) (by rfl) T.gC_InvalidCount (kit_own T.ic_InvalidCount T.ty_InvalidCount T.sb_InvalidKept_InvalidCount (fun e => (ne_of_sub T.sb_InvalidKept_InvalidCount T.sb_InvalidKept_InvalidKept e)))) pa_nil))))))
      (C8.pss_cut (ps_set (i := 2) sc__law_error_of.nd rfl (.inl rfl) (pe_op op_cat (pv 2) (pe_lst (pa_cons (pe_isi (i := 1) hE hC (by rfl) T.z_isinstance rfl (by first | exact Or.inl rfl | exact Or.inr (Or.inl rfl) | exact Or.inr (Or.inr rfl)) (by rfl) T.gC_InvalidSlot (kit_own T.ic_InvalidSlot T.ty_InvalidSlot T.sb_InvalidKept_InvalidSlot (fun e => (ne_of_sub T.sb_InvalidKept_InvalidSlot T.sb_InvalidKept_InvalidKept e)))) (pa_cons (pe_isi (i := 1) hE hC (by rfl) T.z_isinstance rfl (by first | exact Or.inl rfl | exact Or.inr (Or.inl rfl) | exact Or.inr (Or.inr rfl)) (by rfl) T.gC_InvalidWord (kit_own T.ic_InvalidWord T.ty_InvalidWord T.sb_InvalidKept_InvalidWord (fun e => (ne_of_sub T.sb_InvalidKept_InvalidWord T.sb_InvalidKept_InvalidKept e)))) (pa_cons (pe_isi (i := 1) hE hC (by rfl) T.z_isinstance rfl (by first | exact Or.inl rfl | exact Or.inr (Or.inl rfl) | exact Or.inr (Or.inr rfl)) (by rfl) T.gC_InvalidStory (kit_own T.ic_InvalidStory T.ty_InvalidStory T.sb_InvalidKept_InvalidStory (fun e => (ne_of_sub T.sb_InvalidKept_InvalidStory T.sb_InvalidKept_InvalidKept e)))) pa_nil))))))
      (C8.pss_cut (ps_set (i := 2) sc__law_error_of.nd rfl (.inl rfl) (pe_op op_cat (pv 2) (pe_lst (pa_cons (pe_isi (i := 1) hE hC (by rfl) T.z_isinstance rfl (by first | exact Or.inl rfl | exact Or.inr (Or.inl rfl) | exact Or.inr (Or.inr rfl)) (by rfl) T.gC_PowerOff (kit_own T.ic_PowerOff T.ty_PowerOff T.sb_InvalidKept_PowerOff (fun e => (ne_of_sub T.sb_InvalidKept_PowerOff T.sb_InvalidKept_InvalidKept e)))) (pa_cons (pe_isi (i := 1) hE hC (by rfl) T.z_isinstance rfl (by first | exact Or.inl rfl | exact Or.inr (Or.inl rfl) | exact Or.inr (Or.inr rfl)) (by rfl) T.gC_PowerOn (kit_own T.ic_PowerOn T.ty_PowerOn T.sb_InvalidKept_PowerOn (fun e => (ne_of_sub T.sb_InvalidKept_PowerOn T.sb_InvalidKept_InvalidKept e)))) (pa_cons (pe_isi (i := 1) hE hC (by rfl) T.z_isinstance rfl (by first | exact Or.inl rfl | exact Or.inr (Or.inl rfl) | exact Or.inr (Or.inr rfl)) (by rfl) T.gC_NoFastDisk (kit_own T.ic_NoFastDisk T.ty_NoFastDisk T.sb_InvalidKept_NoFastDisk (fun e => (ne_of_sub T.sb_InvalidKept_NoFastDisk T.sb_InvalidKept_InvalidKept e)))) pa_nil))))))
      (C8.pss_cut (ps_set (i := 2) sc__law_error_of.nd rfl (.inl rfl) (pe_op op_cat (pv 2) (pe_lst (pa_cons (pe_isi (i := 1) hE hC (by rfl) T.z_isinstance rfl (by first | exact Or.inl rfl | exact Or.inr (Or.inl rfl) | exact Or.inr (Or.inr rfl)) (by rfl) T.gC_HasFastDisk (kit_own T.ic_HasFastDisk T.ty_HasFastDisk T.sb_InvalidKept_HasFastDisk (fun e => (ne_of_sub T.sb_InvalidKept_HasFastDisk T.sb_InvalidKept_InvalidKept e)))) (pa_cons (pe_isi (i := 1) hE hC (by rfl) T.z_isinstance rfl (by first | exact Or.inl rfl | exact Or.inr (Or.inl rfl) | exact Or.inr (Or.inr rfl)) (by rfl) T.gC_Unsettled (kit_own T.ic_Unsettled T.ty_Unsettled T.sb_InvalidKept_Unsettled (fun e => (ne_of_sub T.sb_InvalidKept_Unsettled T.sb_InvalidKept_InvalidKept e)))) (pa_cons (pe_isi (i := 1) hE hC (by rfl) T.z_isinstance rfl (by first | exact Or.inl rfl | exact Or.inr (Or.inl rfl) | exact Or.inr (Or.inr rfl)) (by rfl) T.gC_Contradiction (kit_own T.ic_Contradiction T.ty_Contradiction T.sb_InvalidKept_Contradiction (fun e => (ne_of_sub T.sb_InvalidKept_Contradiction T.sb_InvalidKept_InvalidKept e)))) pa_nil))))))
      (C8.pss_cut (ps_set (i := 2) sc__law_error_of.nd rfl (.inl rfl) (pe_op op_cat (pv 2) (pe_lst (pa_cons (pe_isi (i := 1) hE hC (by rfl) T.z_isinstance rfl (by first | exact Or.inl rfl | exact Or.inr (Or.inl rfl) | exact Or.inr (Or.inr rfl)) (by rfl) T.gC_InvalidName (kit_own T.ic_InvalidName T.ty_InvalidName T.sb_InvalidKept_InvalidName (fun e => (ne_of_sub T.sb_InvalidKept_InvalidName T.sb_InvalidKept_InvalidKept e)))) (pa_cons (pe_isi (i := 1) hE hC (by rfl) T.z_isinstance rfl (by first | exact Or.inl rfl | exact Or.inr (Or.inl rfl) | exact Or.inr (Or.inr rfl)) (by rfl) T.gC_UnknownName (kit_own T.ic_UnknownName T.ty_UnknownName T.sb_InvalidKept_UnknownName (fun e => (ne_of_sub T.sb_InvalidKept_UnknownName T.sb_InvalidKept_InvalidKept e)))) (pa_cons (pe_isi (i := 1) hE hC (by rfl) T.z_isinstance rfl (by first | exact Or.inl rfl | exact Or.inr (Or.inl rfl) | exact Or.inr (Or.inr rfl)) (by rfl) T.gC_InvalidRules (kit_own T.ic_InvalidRules T.ty_InvalidRules T.sb_InvalidKept_InvalidRules (fun e => (ne_of_sub T.sb_InvalidKept_InvalidRules T.sb_InvalidKept_InvalidKept e)))) pa_nil))))))
      (C8.pss_cut (ps_set (i := 2) sc__law_error_of.nd rfl (.inl rfl) (pe_op op_cat (pv 2) (pe_lst (pa_cons (pe_isi (i := 1) hE hC (by rfl) T.z_isinstance rfl (by first | exact Or.inl rfl | exact Or.inr (Or.inl rfl) | exact Or.inr (Or.inr rfl)) (by rfl) T.gC_InvalidRecipes (kit_own T.ic_InvalidRecipes T.ty_InvalidRecipes T.sb_InvalidKept_InvalidRecipes (fun e => (ne_of_sub T.sb_InvalidKept_InvalidRecipes T.sb_InvalidKept_InvalidKept e)))) (pa_cons (pe_isi (i := 1) hE hC (by rfl) T.z_isinstance rfl (by first | exact Or.inl rfl | exact Or.inr (Or.inl rfl) | exact Or.inr (Or.inr rfl)) (by rfl) T.gC_InvalidRequests (kit_own T.ic_InvalidRequests T.ty_InvalidRequests T.sb_InvalidKept_InvalidRequests (fun e => (ne_of_sub T.sb_InvalidKept_InvalidRequests T.sb_InvalidKept_InvalidKept e)))) (pa_cons (pe_isi (i := 1) hE hC (by rfl) T.z_isinstance rfl (by first | exact Or.inl rfl | exact Or.inr (Or.inl rfl) | exact Or.inr (Or.inr rfl)) (by rfl) T.gC_InvalidPrices (kit_own T.ic_InvalidPrices T.ty_InvalidPrices T.sb_InvalidKept_InvalidPrices (fun e => (ne_of_sub T.sb_InvalidKept_InvalidPrices T.sb_InvalidKept_InvalidKept e)))) pa_nil))))))
      (C8.pss_cut (ps_set (i := 2) sc__law_error_of.nd rfl (.inl rfl) (pe_op op_cat (pv 2) (pe_lst (pa_cons (pe_isi (i := 1) hE hC (by rfl) T.z_isinstance rfl (by first | exact Or.inl rfl | exact Or.inr (Or.inl rfl) | exact Or.inr (Or.inr rfl)) (by rfl) T.gC_InvalidPlan (kit_own T.ic_InvalidPlan T.ty_InvalidPlan T.sb_InvalidKept_InvalidPlan (fun e => (ne_of_sub T.sb_InvalidKept_InvalidPlan T.sb_InvalidKept_InvalidKept e)))) (pa_cons (pe_isi (i := 1) hE hC (by rfl) T.z_isinstance rfl (by first | exact Or.inl rfl | exact Or.inr (Or.inl rfl) | exact Or.inr (Or.inr rfl)) (by rfl) T.gC_PowerFailed (kit_own T.ic_PowerFailed T.ty_PowerFailed T.sb_InvalidKept_PowerFailed (fun e => (ne_of_sub T.sb_InvalidKept_PowerFailed T.sb_InvalidKept_InvalidKept e)))) (pa_cons (pe_isi (i := 1) hE hC (by rfl) T.z_isinstance rfl (by first | exact Or.inl rfl | exact Or.inr (Or.inl rfl) | exact Or.inr (Or.inr rfl)) (by rfl) T.gC_InvalidOperation (kit_own T.ic_InvalidOperation T.ty_InvalidOperation T.sb_InvalidKept_InvalidOperation (fun e => (ne_of_sub T.sb_InvalidKept_InvalidOperation T.sb_InvalidKept_InvalidKept e)))) pa_nil))))))
      (C8.pss_cut (ps_set (i := 2) sc__law_error_of.nd rfl (.inl rfl) (pe_op op_cat (pv 2) (pe_lst (pa_cons (pe_isi (i := 1) hE hC (by rfl) T.z_isinstance rfl (by first | exact Or.inl rfl | exact Or.inr (Or.inl rfl) | exact Or.inr (Or.inr rfl)) (by rfl) T.gC_NotationError (kit_own T.ic_NotationError T.ty_NotationError T.sb_InvalidKept_NotationError (fun e => (ne_of_sub T.sb_InvalidKept_NotationError T.sb_InvalidKept_InvalidKept e)))) (pa_cons (pe_isi (i := 1) hE hC (by rfl) T.z_isinstance rfl (by first | exact Or.inl rfl | exact Or.inr (Or.inl rfl) | exact Or.inr (Or.inr rfl)) (by rfl) T.gC_DecodeError (kit_own T.ic_DecodeError T.ty_DecodeError T.sb_InvalidKept_DecodeError (fun e => (ne_of_sub T.sb_InvalidKept_DecodeError T.sb_InvalidKept_InvalidKept e)))) pa_nil)))))
      (pss_cons (ps_if (PW.pt (pw_or (pt_cmpR op_ne (pe_bm PySem.F.plainAttrs_list PySem.F.slot_list_count PySem.F.type_list_count mt_lcountV (pv 2) (pa_cons pe_bl pa_nil)) pe_int (nomark _)) (pw_or1 (pt_not (pt_val (pe_callB (call_isC hE hC) (by rfl) T.z_isinstance (by decide +kernel) (pa_cons (pv 1) (pa_cons (pe_bltn (v := .ty "ValueError") (by rfl) T.z_ValueError (by decide +kernel) rfl) pa_nil)))))))) (pss_one (ps_ret (pe_tup (pa_cons pe_str (pa_cons pe_int pa_nil))))) pss_nil)
      (pss_cons (ps_set (i := 3) sc__law_error_of.nd rfl (.inl rfl) pe_str)
      (pss_cons (ps_set (i := 3) sc__law_error_of.nd rfl (.inl rfl) (pe_op op_add_str (pv 3) pe_str))
      (pss_cons (ps_set (i := 3) sc__law_error_of.nd rfl (.inl rfl) (pe_op op_add_str (pv 3) pe_str))
      (pss_one (ps_ret (pe_callP hT (L2H.roomH_mark (hr.mono (by first | decide | omega)) _) hHot List.mem_cons_self (by rfl) T.g__law_told_of T.F__law_told_of.kp (pa_cons (pv 1) (pa_cons (pe_ix ix_list (pe_bm PySem.F.plainAttrs_str PySem.F.slot_str_split PySem.F.type_str_split mt_split (pv 3) (pa_cons pe_str pa_nil)) (pe_bm PySem.F.plainAttrs_list PySem.F.slot_list_index PySem.F.type_list_index mt_index (pv 2) (pa_cons pe_bl pa_nil)) (fun _ _ => rfl)) pa_nil)))))))))))))))))) pins s' σ H D I ?_⟩
  obtain ⟨⟨x, v2, v3, rfl⟩, ⟨fs, hfl⟩, k⟩ := h
  have F0 := Fr.refl [] H
  refine ⟨fun σ' H' => ∃ k : Addr, σ' = [some x, some (.ref a), some (.ref k), v3] ∧ Fr [] H H' ∧ FldsAt H' d fs ∧ H' k = some (.lst (kinds_InvalidKept.take 3)), ?_, ?_⟩
  · exact ⟨⟨rfl, _, hfl⟩, ⟨⟨rfl, _, hfl⟩, ⟨⟨rfl, _, hfl⟩, ⟨sz_le (by decide), fun q hq => ⟨q, rfl, Fr.new hq, FldsAt.keep (S := []) hfl (Fr.new hq) (by simp), upd_same⟩⟩⟩⟩⟩
  rintro _ G1 ⟨k1, rfl, F1, h1, r1⟩
  refine ⟨fun σ' H' => ∃ k : Addr, σ' = [some x, some (.ref a), some (.ref k), v3] ∧ Fr [] H H' ∧ FldsAt H' d fs ∧ H' k = some (.lst (kinds_InvalidKept.take 6)), ?_, ?_⟩
  · exact ⟨_, rfl, ⟨⟨rfl, _, h1⟩, ⟨⟨rfl, _, h1⟩, ⟨⟨rfl, _, h1⟩, ⟨sz_le (by decide), fun q hq => ⟨k1, q, _, _, rfl, rfl, (upd_ne (ne_of_none r1 hq)).trans r1, upd_same, sz_le (by decide), fun k' hk' => ⟨k', rfl, (F1.trans (Fr.new hq)).trans (Fr.new hk'), FldsAt.keep (S := []) (FldsAt.keep (S := []) h1 (Fr.new hq) (by simp)) (Fr.new hk') (by simp), upd_same⟩⟩⟩⟩⟩⟩⟩
  rintro _ G2 ⟨k2, rfl, F2, h2, r2⟩
  refine ⟨fun σ' H' => ∃ k : Addr, σ' = [some x, some (.ref a), some (.ref k), v3] ∧ Fr [] H H' ∧ FldsAt H' d fs ∧ H' k = some (.lst (kinds_InvalidKept.take 9)), ?_, ?_⟩
  · exact ⟨_, rfl, ⟨⟨rfl, _, h2⟩, ⟨⟨rfl, _, h2⟩, ⟨⟨rfl, _, h2⟩, ⟨sz_le (by decide), fun q hq => ⟨k2, q, _, _, rfl, rfl, (upd_ne (ne_of_none r2 hq)).trans r2, upd_same, sz_le (by decide), fun k' hk' => ⟨k', rfl, (F2.trans (Fr.new hq)).trans (Fr.new hk'), FldsAt.keep (S := []) (FldsAt.keep (S := []) h2 (Fr.new hq) (by simp)) (Fr.new hk') (by simp), upd_same⟩⟩⟩⟩⟩⟩⟩
  rintro _ G3 ⟨k3, rfl, F3, h3, r3⟩
  refine ⟨fun σ' H' => ∃ k : Addr, σ' = [some x, some (.ref a), some (.ref k), v3] ∧ Fr [] H H' ∧ FldsAt H' d fs ∧ H' k = some (.lst (kinds_InvalidKept.take 12)), ?_, ?_⟩
  · exact ⟨_, rfl, ⟨⟨rfl, _, h3⟩, ⟨⟨rfl, _, h3⟩, ⟨⟨rfl, _, h3⟩, ⟨sz_le (by decide), fun q hq => ⟨k3, q, _, _, rfl, rfl, (upd_ne (ne_of_none r3 hq)).trans r3, upd_same, sz_le (by decide), fun k' hk' => ⟨k', rfl, (F3.trans (Fr.new hq)).trans (Fr.new hk'), FldsAt.keep (S := []) (FldsAt.keep (S := []) h3 (Fr.new hq) (by simp)) (Fr.new hk') (by simp), upd_same⟩⟩⟩⟩⟩⟩⟩
  rintro _ G4 ⟨k4, rfl, F4, h4, r4⟩
  refine ⟨fun σ' H' => ∃ k : Addr, σ' = [some x, some (.ref a), some (.ref k), v3] ∧ Fr [] H H' ∧ FldsAt H' d fs ∧ H' k = some (.lst (kinds_InvalidKept.take 15)), ?_, ?_⟩
  · exact ⟨_, rfl, ⟨⟨rfl, _, h4⟩, ⟨⟨rfl, _, h4⟩, ⟨⟨rfl, _, h4⟩, ⟨sz_le (by decide), fun q hq => ⟨k4, q, _, _, rfl, rfl, (upd_ne (ne_of_none r4 hq)).trans r4, upd_same, sz_le (by decide), fun k' hk' => ⟨k', rfl, (F4.trans (Fr.new hq)).trans (Fr.new hk'), FldsAt.keep (S := []) (FldsAt.keep (S := []) h4 (Fr.new hq) (by simp)) (Fr.new hk') (by simp), upd_same⟩⟩⟩⟩⟩⟩⟩
  rintro _ G5 ⟨k5, rfl, F5, h5, r5⟩
  refine ⟨fun σ' H' => ∃ k : Addr, σ' = [some x, some (.ref a), some (.ref k), v3] ∧ Fr [] H H' ∧ FldsAt H' d fs ∧ H' k = some (.lst (kinds_InvalidKept.take 18)), ?_, ?_⟩
  · exact ⟨_, rfl, ⟨⟨rfl, _, h5⟩, ⟨⟨rfl, _, h5⟩, ⟨⟨rfl, _, h5⟩, ⟨sz_le (by decide), fun q hq => ⟨k5, q, _, _, rfl, rfl, (upd_ne (ne_of_none r5 hq)).trans r5, upd_same, sz_le (by decide), fun k' hk' => ⟨k', rfl, (F5.trans (Fr.new hq)).trans (Fr.new hk'), FldsAt.keep (S := []) (FldsAt.keep (S := []) h5 (Fr.new hq) (by simp)) (Fr.new hk') (by simp), upd_same⟩⟩⟩⟩⟩⟩⟩
  rintro _ G6 ⟨k6, rfl, F6, h6, r6⟩
  refine ⟨fun σ' H' => ∃ k : Addr, σ' = [some x, some (.ref a), some (.ref k), v3] ∧ Fr [] H H' ∧ FldsAt H' d fs ∧ H' k = some (.lst (kinds_InvalidKept.take 21)), ?_, ?_⟩
  · exact ⟨_, rfl, ⟨⟨rfl, _, h6⟩, ⟨⟨rfl, _, h6⟩, ⟨⟨rfl, _, h6⟩, ⟨sz_le (by decide), fun q hq => ⟨k6, q, _, _, rfl, rfl, (upd_ne (ne_of_none r6 hq)).trans r6, upd_same, sz_le (by decide), fun k' hk' => ⟨k', rfl, (F6.trans (Fr.new hq)).trans (Fr.new hk'), FldsAt.keep (S := []) (FldsAt.keep (S := []) h6 (Fr.new hq) (by simp)) (Fr.new hk') (by simp), upd_same⟩⟩⟩⟩⟩⟩⟩
  rintro _ G7 ⟨k7, rfl, F7, h7, r7⟩
  refine ⟨fun σ' H' => ∃ k : Addr, σ' = [some x, some (.ref a), some (.ref k), v3] ∧ Fr [] H H' ∧ FldsAt H' d fs ∧ H' k = some (.lst (kinds_InvalidKept.take 24)), ?_, ?_⟩
  · exact ⟨_, rfl, ⟨⟨rfl, _, h7⟩, ⟨⟨rfl, _, h7⟩, ⟨⟨rfl, _, h7⟩, ⟨sz_le (by decide), fun q hq => ⟨k7, q, _, _, rfl, rfl, (upd_ne (ne_of_none r7 hq)).trans r7, upd_same, sz_le (by decide), fun k' hk' => ⟨k', rfl, (F7.trans (Fr.new hq)).trans (Fr.new hk'), FldsAt.keep (S := []) (FldsAt.keep (S := []) h7 (Fr.new hq) (by simp)) (Fr.new hk') (by simp), upd_same⟩⟩⟩⟩⟩⟩⟩
  rintro _ G8 ⟨k8, rfl, F8, h8, r8⟩
  refine ⟨fun σ' H' => ∃ k : Addr, σ' = [some x, some (.ref a), some (.ref k), v3] ∧ Fr [] H H' ∧ FldsAt H' d fs ∧ H' k = some (.lst (kinds_InvalidKept.take 26)), ?_, ?_⟩
  · exact ⟨_, rfl, ⟨⟨rfl, _, h8⟩, ⟨⟨rfl, _, h8⟩, ⟨sz_le (by decide), fun q hq => ⟨k8, q, _, _, rfl, rfl, (upd_ne (ne_of_none r8 hq)).trans r8, upd_same, sz_le (by decide), fun k' hk' => ⟨k', rfl, (F8.trans (Fr.new hq)).trans (Fr.new hk'), FldsAt.keep (S := []) (FldsAt.keep (S := []) h8 (Fr.new hq) (by simp)) (Fr.new hk') (by simp), upd_same⟩⟩⟩⟩⟩⟩
  rintro _ G9 ⟨k9, rfl, F9, h9, r9⟩
  have rk : G9 k9 = some (HO.lst kinds_InvalidKept) := r9
  refine ⟨_, rfl, .inl ⟨rfl, _, SqL.of rk⟩, k9, kinds_InvalidKept, .bl true, rfl, rfl, SqL.of rk, rfl, kinds_InvalidKept_all, ?_⟩
  rw [kinds_InvalidKept_cnt]
  refine ⟨rfl, _, rfl, iteF ?_⟩
  refine ⟨_, rfl, _, .type "ValueError", true, _, rfl, h9, (fun _ z => z), kit_ve T.vb_InvalidKept, _, rfl, iteF ?_⟩
  refine ⟨_, rfl, _, _, rfl, rfl, sz_le (by decide), ?_⟩
  refine ⟨_, rfl, _, _, rfl, rfl, sz_le (by decide), ?_⟩
  refine ⟨_, rfl, _, rfl, rfl, _, _, rfl, rfl, by decide +kernel, sz_le (by decide +kernel), fun z hz' => ?_⟩
  have rz := (upd_ne (o := .lst ((Txt.split ENAMES " ").map V.str)) (ne_of_none rk hz')).trans rk
  refine ⟨_, rfl, .inl ⟨rfl, _, SqL.of rz⟩, k9, kinds_InvalidKept, .bl true, 2, .bl true, rfl, rfl, SqL.of rz, rfl, kinds_InvalidKept_all, kinds_InvalidKept_at, rfl, kinds_InvalidKept_fst, ?_⟩
  refine ⟨z, _, (2 : Int), .str "kept", rfl, rfl, SqL.of upd_same, atI_nat (j := 2) (by show ((Txt.split ENAMES " ").map V.str)[2]? = _; rw [split_names]; rfl), rfl, ?_⟩
  have hZ := FldsAt.keep (S := []) h9 (Fr.new (o := .lst ((Txt.split ENAMES " ").map V.str)) hz') (by simp)
  have FZ := F9.trans (Fr.new (o := .lst ((Txt.split ENAMES " ").map V.str)) hz')
  exact fun t H'' ht f et => k t H'' (some_of FZ (by simp) ht) (FZ.trans f) et
end
theorem takesN0 {X : Cx} : L2N.Takes X (fun _ _ _ _ => False) := fun _ _ x => by
  obtain ⟨_, _, _, _, _, _, _, _, _, _, _, _, _, _, _, _, z⟩ := x
  exact z.elim
section
variable {P : Program} {w : World} {K : PySem.W.Frag} {mg : Str → Option Value} {base : Heap}
theorem ErrEnd.pair {T : Gx K mg} {cls : Value} {d : Option Addr} {H : Hp} {Q : VK} (h : ErrEnd T cls d H Q) : PySem.W.exmOne K cls (.ref T.C_PairError) = some true := by
  rcases h with ⟨rfl, _⟩ | ⟨rfl, _⟩ | ⟨rfl, _⟩
  · exact PySem.W.exm_ref T.pb T.ph T.ty_PairError T.sb_InvalidSize_PairError
  · exact PySem.W.exm_ref T.pb T.ph T.ty_PairError T.sb_InvalidCell_PairError
  · exact PySem.W.exm_ref T.pb T.ph T.ty_PairError T.sb_InvalidKept_PairError
def spErr (P : Program) (w : World) (base : Heap) (T : Gx K mg) : SpS := fun vs outer s H Q _ => ∃ (f : Addr) (F : LF) (fr : List Str) (ws : List (Option V)) (lp : List (Option V) → Hp → VK → XK → Prop), vs = [.ref f] ∧ LOk P w K mg base (L2N.CX P w) 8 f F fr lp ∧ Act f F fr ws (frs outer) s H ∧
  ∀ (Q' : VK) (E' : XK), (∀ v H', Q .non H' → Q' v H') → (∀ cls d H', ErrEnd T cls d H' Q → E' cls d H') → lp ws H Q' E'
theorem ok_errorOf (T : Gx K mg) : FnS P w K mg base C8.CX0 10 T.f__law_error_of ["_law_call"] (spErr P w base T) := by
  refine FunOkS T.F__law_error_of (b__law_error_of T) sc__law_error_of (fun vs o s H Q E h => by obtain ⟨f, F, fr, ws, lp, rfl, _⟩ := h; rfl) (fun cdv A outer s H vs Q E hr h => ?_)
  obtain ⟨f, F, fr, ws, lp, rfl, L, a0, hlp⟩ := h
  refine ⟨_, pss_cons (L2N.ps_try_as (i := 1) (c := .ref T.C_PairError) (Wout := fun _ _ _ _ => False) (ts := fun a cls d D σ H => (∃ (x : V) (v2 v3 : Option V), σ = [some x, some (.ref a), v2, v3]) ∧ ErrEnd T cls d H D.rt) rfl rfl sc__law_error_of.nd rfl rfl ⟨by rfl, by decide, .inl T.gC_PairError⟩ takesN0
    (fun W pn xe tk po => pss_one (ps_expr (pe_act (i := 0) L a0 rfl (hr.mono (by decide)) (fun σ => L2N.passAt tk σ) rfl (by first | exact Or.inl rfl | exact Or.inr (Or.inl rfl) | exact Or.inr (Or.inr rfl)))))
    (fun a oe cls d pn hz hf => ⟨fun pins s' σ H' D I h => ?_⟩)) (pss_one (ps_ret pe_non)), ?_⟩
  · obtain ⟨hσ, h⟩ := h
    rcases h with ⟨rfl, hf', k⟩ | ⟨rfl, hf', k⟩ | ⟨rfl, hf', k⟩
    · exact (suite_InvalidSize T (hr.mono (by decide)) hz hf).run pins s' σ H' D I ⟨hσ, hf', k⟩
    · exact (suite_InvalidCell T (hr.mono (by decide)) hz hf).run pins s' σ H' D I ⟨hσ, hf', k⟩
    · exact (suite_InvalidKept T (hr.mono (by decide)) hz hf).run pins s' σ H' D I ⟨hσ, hf', k⟩
  · refine ⟨rfl, a0.lv, hlp _ _ (fun v H' q => q) (fun cls d H' he => ⟨true, he.pair, fun _ a ha => ⟨⟨.ref f, none, none, rfl⟩, he⟩, fun z => by cases z⟩)⟩
end
/-! ### what is no number of a range, no tuple -/
def NoNum (H : Hp) (lo hi : Int) (v : V) : Prop := (∃ i : Int, v = .int i ∧ (decide (lo ≤ i) && decide (i ≤ hi)) = false) ∨ v = .non ∨ (∃ b, v = .bl b) ∨ (∃ z, v = .str z) ∨ ∃ (t : Addr) (xs : List V), v = .ref t ∧ H t = some (.tup xs)
theorem NoNum.ext {H H' : Hp} {lo hi : Int} {v : V} (h : NoNum H lo hi v) (f : ∀ b xs, H b = some (.tup xs) → H' b = some (.tup xs)) : NoNum H' lo hi v := by
  rcases h with h | h | h | h | ⟨t, xs, e, ht⟩
  · exact .inl h
  · exact .inr (.inl h)
  · exact .inr (.inr (.inl h))
  · exact .inr (.inr (.inr (.inl h)))
  · exact .inr (.inr (.inr (.inr ⟨t, xs, e, f _ _ ht⟩)))
theorem NoNum.num {K : PySem.W.Frag} {H : Hp} {lo hi : Int} {v : V} {Q : VK} {E : XK} (h : NoNum H lo hi v) (q : Q (.bl false) H) : spNumFrom K [v, .int lo, .int hi] H Q E := by
  rcases h with ⟨i, rfl, hi⟩ | rfl | ⟨b, rfl⟩ | ⟨z, rfl⟩ | ⟨t, xs, rfl, ht⟩
  · exact ⟨_, _, _, rfl, .inl ⟨i, rfl, by rw [hi]; exact q⟩⟩
  · exact ⟨_, _, _, rfl, .inr ⟨_, false, false, .base .non, kit_ty (by decide +kernel), kit_ty (by decide +kernel), rfl, q⟩⟩
  · exact ⟨_, _, _, rfl, .inr ⟨_, true, true, .base (.bl b), kit_ty (by decide +kernel), kit_ty (by decide +kernel), rfl, q⟩⟩
  · exact ⟨_, _, _, rfl, .inr ⟨_, false, false, .base (.str z), kit_ty (by decide +kernel), kit_ty (by decide +kernel), rfl, q⟩⟩
  · exact ⟨_, _, _, rfl, .inr ⟨_, false, false, .base (.tup ht), kit_ty (by decide +kernel), kit_ty (by decide +kernel), rfl, q⟩⟩
def NoTup (H : Hp) (v : V) : Prop := v = .non ∨ (∃ i, v = .int i) ∨ ∃ (l : Addr) (xs : List V), v = .ref l ∧ H l = some (.lst xs)
theorem NoTup.ty {K : PySem.W.Frag} {H : Hp} {v : V} (h : NoTup H v) : ∃ t : Value, TyX K H v t ∧ PySem.W.kitOne K t (.type "tuple") = some false := by
  rcases h with rfl | ⟨i, rfl⟩ | ⟨l, xs, rfl, hl⟩
  · exact ⟨_, .base .non, kit_ty (by decide +kernel)⟩
  · exact ⟨_, .base (.int i), kit_ty (by decide +kernel)⟩
  · exact ⟨_, .base (.lst hl), kit_ty (by decide +kernel)⟩
/-- no kept writes of m -/
def BadK (H : Hp) (v : V) (m : Nat) : Prop := NoTup H v ∨ ∃ (p : Addr) (x : V) (rest : List V), v = .ref p ∧
  ((H p = some (.tup (x :: rest)) ∧ NoNum H 0 ((m : Int) - 1) x) ∨ ∃ k : Nat, H p = some (.tup (.int (k : Int) :: x :: rest)) ∧ k < m ∧ NoNum H ((k : Int) + 1) ((m : Int) - 1) x)
theorem BadK.ext {H H' : Hp} {v : V} {m : Nat} (h : BadK H v m) (f : ∀ b xs, H b = some (.tup xs) → H' b = some (.tup xs)) (g : ∀ b xs, v = .ref b → H b = some (.lst xs) → H' b = some (.lst xs)) : BadK H' v m := by
  rcases h with h | ⟨p, x, rest, e, h⟩
  · rcases h with h | h | ⟨l, xs, e, hl⟩
    · exact .inl (.inl h)
    · exact .inl (.inr (.inl h))
    · exact .inl (.inr (.inr ⟨l, xs, e, g _ _ e hl⟩))
  · refine .inr ⟨p, x, rest, e, ?_⟩
    rcases h with ⟨h1, h2⟩ | ⟨k, h1, h2, h3⟩
    · exact .inl ⟨f _ _ h1, h2.ext f⟩
    · exact .inr ⟨k, f _ _ h1, h2, h3.ext f⟩
def spNumB (K : PySem.W.Frag) : Sp := fun vs H Q E => spNumFrom K vs H Q E ∨ ∃ (v : V) (lo hi : Int), vs = [v, .int lo, .int hi] ∧ NoNum H lo hi v ∧ Q (.bl false) H
theorem ok_numB {P : Program} {w : World} {K : PySem.W.Frag} {mg : Str → Option Value} {base : Heap} (T : Gx K mg) : FnOk P w K mg base CX0 2 T.f_is_number_from T.fd_is_number_from ["thing", "least", "most"] (spNumB K) := by
  have a : FnOk P w K mg base CX0 2 T.f_is_number_from T.fd_is_number_from ["thing", "least", "most"] (spNumFrom K) := ok_numFrom T
  have im : ∀ vs H Q E, spNumB K vs H Q E → spNumFrom K vs H Q E := fun vs H Q E h => by
    rcases h with h | ⟨v, lo, hi, rfl, nn, q⟩
    · exact h
    · exact nn.num q
  exact ⟨fun vs H Q E h => a.len vs H Q E (im _ _ _ _ h), fun A o s H ar us vs Q E hr e0 hb r h => a.run A o s H ar us vs Q E hr e0 hb r (im _ _ _ _ h)⟩
/-! ### calls of disks that raise -/
def spInitBad (X C : Addr) : Sp := fun vs H _ E => ∃ (p dx : Addr) (v c : V), vs = [.ref p, v, c] ∧ H p = some (.ins C dx []) ∧ NoNum H 1 64 v ∧ E (.ref X) none H
def spCheckBad (X C : Addr) : Sp := fun vs H _ E => ∃ (D : Dk) (cs ls : List V) (ps : List (Nat × V)) (r w s : Int) (v : V), vs = [.ref D.p, v] ∧ DiskAt C H D cs ls ps r w s ∧ NoNum H 0 ((cs.length : Int) - 1) v ∧ E (.ref X) none H
def spWriteBad (X C : Addr) : Sp := fun vs H _ E => ∃ (D : Dk) (cs ls : List V) (ps : List (Nat × V)) (r w s : Int) (v x : V), vs = [.ref D.p, v, x] ∧ DiskAt C H D cs ls ps r w s ∧ NoNum H 0 ((cs.length : Int) - 1) v ∧ E (.ref X) none H
def spAreBad : Sp := fun vs H Q _ => ∃ (v : V) (m : Nat), vs = [v, .int (m : Int)] ∧ BadK H v m ∧ Q (.bl false) H
def spFailBad (X C : Addr) : Sp := fun vs H _ E => ∃ (D : Dk) (cs ls : List V) (ps : List (Nat × V)) (r w s : Int) (v : V), vs = [.ref D.p, v] ∧ DiskAt C H D cs ls ps r w s ∧ BadK H v ps.length ∧ E (.ref X) none H
section
open PySem.Spec PySem.Calls PySem.W PyProof.Rows
variable {P : Program} {w : World} {K : PySem.W.Frag} {mg : Str → Option Value} {base : Heap}
theorem ok_initBad (T : Gx K mg) : FnOk P w K mg base (L2N.CX P w) 3 T.f_Disk___init__ T.fd_Disk___init__ ["self", "cells", "content"] (spInitBad T.C_InvalidSize T.C_Disk) := by
  have G_is_number_from := ok_numB (P := P) (w := w) (base := base) T
  refine T.F_Disk___init__.ok sc_Disk___init__ (fun vs H Q E h => ?_) (fun cdv A outer s H vs Q E hr h => ?_)
  · obtain ⟨p, dx, v, c, rfl, _⟩ := h
    rfl
  · obtain ⟨p, dx, v, c, rfl, hp, nn, k⟩ := h
    refine ⟨_, (pss_cons (ps_if (pt_not (pt_val (pe_call G_is_number_from (hr.mono (by first | decide | omega)) (by rfl) T.g_is_number_from T.F_is_number_from.kp (b_is_number_from T) .nil pass0 (pa_cons (pv 1) (pa_cons pe_int (pa_cons (pe_glob (v := .int 64) (by rfl) T.c_MOST_CELLS ⟨_, rfl⟩) pa_nil)))))) (pss_one (L2N.ps_raise rfl (L2N.takes_of rfl rfl rfl rfl) (L2N.pmk_own PySem.F.excBase_ValueError T.pl_InvalidSize T.gC_InvalidSize T.kp_InvalidSize (raises_own T.E_InvalidSize.hs T.ty_InvalidSize) (by rfl)))) pss_nil) pss_never), ?_⟩
    exact ⟨_, rfl, .inr ⟨_, _, _, rfl, nn, _, rfl, iteT k⟩⟩
theorem ok_checkBad (T : Gx K mg) : FnOk P w K mg base (L2N.CX P w) 3 T.f_Disk__check_cell T.fd_Disk__check_cell ["self", "cell"] (spCheckBad T.C_InvalidCell T.C_Disk) := by
  have G_is_number_from := ok_numB (P := P) (w := w) (base := base) T
  refine FunOkC T.F_Disk__check_cell sc_Disk__check_cell (fun vs H Q E h => ?_) (fun cdv A outer s H vs Q E hr h => ?_)
  · obtain ⟨D, cs, ls, ps, r, w', s', v, rfl, _⟩ := h
    rfl
  · obtain ⟨D, cs, ls, ps, r, w', s', v, rfl, hD, nn, k⟩ := h
    refine ⟨_, (pss_one (ps_if (pt_not (pt_val (pe_call G_is_number_from (hr.mono (by first | decide | omega)) (by rfl) T.g_is_number_from T.F_is_number_from.kp (b_is_number_from T) .nil pass0 (pa_cons (pv 1) (pa_cons pe_int (pa_cons (pe_op op_sub (pe_callB call_len_seq (by rfl) T.z_len (by decide +kernel) (pa_cons (pe_fld (pv 0) rfl) pa_nil)) pe_int) pa_nil)))))) (pss_one (L2N.ps_raise rfl (L2N.takes_of rfl rfl rfl rfl) (L2N.pmk_own PySem.F.excBase_ValueError T.pl_InvalidCell T.gC_InvalidCell T.kp_InvalidCell (raises_own T.E_InvalidCell.hs T.ty_InvalidCell) (by rfl)))) pss_nil)), ?_⟩
    refine ⟨_, rfl, _, rfl, D.p, T.C_Disk, _, _, _, rfl, hD.ins, T.cl_Disk, T.n_Disk__contents, dF_get0, D.c, cs, rfl, .inl (SqL.of hD.cs_), _, _, rfl, rfl, ?_⟩
    exact .inr ⟨_, _, _, rfl, nn, _, rfl, iteT k⟩
theorem ok_readBad (T : Gx K mg) : FnOk P w K mg base (L2N.CX P w) 4 T.f_Disk_read T.fd_Disk_read ["self", "cell"] (spCheckBad T.C_InvalidCell T.C_Disk) := by
  have G_Disk__check_cell := ok_checkBad (P := P) (w := w) (base := base) T
  refine FunOkC T.F_Disk_read sc_Disk_read (fun vs H Q E h => ?_) (fun cdv A outer s H vs Q E hr h => ?_)
  · obtain ⟨D, cs, ls, ps, r, w', s', v, rfl, _⟩ := h
    rfl
  · obtain ⟨D, cs, ls, ps, r, w', s', v, rfl, hD, nn, k⟩ := h
    refine ⟨_, (pss_cons (ps_expr (pe_meth (pv 0) T.cl_Disk T.m_Disk__check_cell G_Disk__check_cell (hr.mono (by first | decide | omega)) (b_Disk__check_cell T) .nil (L2N.passes_call (L2N.takes_of rfl rfl rfl rfl) (fun _ _ _ _ h => h)) (pa_cons (pv 1) pa_nil))) pss_never), ?_⟩
    exact ⟨_, rfl, D.p, D.dx, _, rfl, hD.ins, dF_no__check_cell, _, rfl, D, cs, ls, ps, r, w', s', v, rfl, hD, nn, k⟩
theorem ok_writeBad (T : Gx K mg) : FnOk P w K mg base (L2N.CX P w) 4 T.f_Disk_write T.fd_Disk_write ["self", "cell", "content"] (spWriteBad T.C_InvalidCell T.C_Disk) := by
  have G_Disk__check_cell := ok_checkBad (P := P) (w := w) (base := base) T
  refine FunOkC T.F_Disk_write sc_Disk_write (fun vs H Q E h => ?_) (fun cdv A outer s H vs Q E hr h => ?_)
  · obtain ⟨D, cs, ls, ps, r, w', s', v, x, rfl, _⟩ := h
    rfl
  · obtain ⟨D, cs, ls, ps, r, w', s', v, x, rfl, hD, nn, k⟩ := h
    refine ⟨_, (pss_cons (ps_expr (pe_meth (pv 0) T.cl_Disk T.m_Disk__check_cell G_Disk__check_cell (hr.mono (by first | decide | omega)) (b_Disk__check_cell T) .nil (L2N.passes_call (L2N.takes_of rfl rfl rfl rfl) (fun _ _ _ _ h => h)) (pa_cons (pv 1) pa_nil))) pss_never), ?_⟩
    exact ⟨_, rfl, D.p, D.dx, _, rfl, hD.ins, dF_no__check_cell, _, rfl, D, cs, ls, ps, r, w', s', v, rfl, hD, nn, k⟩
theorem ok_areBad (T : Gx K mg) : FnOk P w K mg base C8.CX0 3 T.f_are_kept T.fd_are_kept ["kept", "many"] spAreBad := by
  have G_is_number_from := ok_numB (P := P) (w := w) (base := base) T
  refine T.F_are_kept.ok sc_are_kept (fun vs H Q E h => ?_) (fun cdv A outer s H vs Q E hr h => ?_)
  · obtain ⟨v, m, rfl, _⟩ := h
    rfl
  · obtain ⟨v, m, rfl, hb, k⟩ := h
    refine ⟨_, (pss_cons (ps_if (pt_not (pt_val (pe_callB call_isi (by rfl) T.z_isinstance (by decide +kernel) (pa_cons (pv 0) (pa_cons (pe_bltn (v := .ty "tuple") (by rfl) T.z_tuple (by decide +kernel) rfl) pa_nil))))) (pss_one (ps_ret pe_bl)) pss_nil)
      (pss_cons (ps_set (i := 2) sc_are_kept.nd rfl (.inl rfl) pe_int)
      (pss_cons (ps_for PassesOwn.never rfl (pi_tup (pv 0)) (pg_name (i := 3) sc_are_kept.nd rfl (.inl rfl)) (pss_cons (ps_if (pt_not (pt_val (pe_call G_is_number_from (hr.mono (by first | decide | omega)) (by rfl) T.g_is_number_from T.F_is_number_from.kp (b_is_number_from T) .nil pass0 (pa_cons (pv 3) (pa_cons (pv 2) (pa_cons (pe_op op_sub (pv 1) pe_int) pa_nil)))))) (pss_one (ps_ret pe_bl)) pss_nil)
      (pss_one (ps_set (i := 2) sc_are_kept.nd rfl (.inl rfl) (pe_op op_add (pv 3) pe_int)))))
      (pss_one (ps_ret pe_bl))))), ?_⟩
    rcases hb with nt | ⟨p, x, rest, rfl, hb⟩
    · obtain ⟨t, ty, kt⟩ := nt.ty (K := K)
      exact ⟨_, rfl, v, .ty "tuple", _, _, false, rfl, ClsV.ty "tuple", ty, kt, _, rfl, iteT k⟩
    · rcases hb with ⟨hp, nn⟩ | ⟨kk, hp, hk, nn⟩
      · refine ⟨_, rfl, .ref p, .ty "tuple", .type "tuple", _, true, rfl, ClsV.ty "tuple", .base (.tup hp), kit_ty (by decide +kernel), _, rfl, iteF ?_⟩
        refine ⟨_, rfl, p, rfl, ⟨_, SqT.of hp⟩, for_tup (K := K) (a := p) (xs := x :: rest) (fun i σ H' => i = 0 ∧ H' = H ∧ ∃ v3 : Option V, σ = [some (.ref p), some (.int (m : Int)), some (.int 0), v3]) ⟨rfl, rfl, none, rfl⟩ (fun i σ H' _ e => by rw [e.2.1]; exact SqT.of hp) ?_ ?_⟩
        · rintro i y σ H' hi ⟨rfl, rfl, v3, rfl⟩
          cases hi
          exact ⟨_, rfl, _, rfl, _, rfl, _, _, rfl, rfl, .inr ⟨_, _, _, rfl, nn, _, rfl, iteT k⟩⟩
        · rintro σ H' ⟨e, _⟩
          simp at e
      · refine ⟨_, rfl, .ref p, .ty "tuple", .type "tuple", _, true, rfl, ClsV.ty "tuple", .base (.tup hp), kit_ty (by decide +kernel), _, rfl, iteF ?_⟩
        refine ⟨_, rfl, p, rfl, ⟨_, SqT.of hp⟩, for_tup (K := K) (a := p) (xs := .int (kk : Int) :: x :: rest) (fun i σ H' => i ≤ 1 ∧ H' = H ∧ ∃ v3 : Option V, σ = [some (.ref p), some (.int (m : Int)), some (.int (if i = 0 then 0 else (kk : Int) + 1)), v3]) ⟨Nat.zero_le _, rfl, none, rfl⟩ (fun i σ H' _ e => by rw [e.2.1]; exact SqT.of hp) ?_ ?_⟩
        · rintro i y σ H' hi ⟨h1, rfl, v3, rfl⟩
          match i, h1, hi with
          | 0, _, hi =>
            cases hi
            refine ⟨_, rfl, _, rfl, _, rfl, _, _, rfl, rfl, .inl ⟨.int (kk : Int), 0, _, rfl, .inl ⟨kk, rfl, _, rfl, ?_⟩⟩⟩
            have e : (decide ((0 : Int) ≤ (kk : Int)) && decide ((kk : Int) ≤ (m : Int) - 1)) = true := by
              rw [Bool.and_eq_true, decide_eq_true_eq, decide_eq_true_eq]
              omega
            rw [e]
            exact iteF ⟨_, rfl, _, _, rfl, rfl, Nat.le_refl _, rfl, _, rfl⟩
          | 1, _, hi =>
            cases hi
            exact ⟨_, rfl, _, rfl, _, rfl, _, _, rfl, rfl, .inr ⟨_, _, _, rfl, nn, _, rfl, iteT k⟩⟩
          | i + 2, h1, _ => exact absurd h1 (by omega)
        · rintro σ H' ⟨e, _⟩
          simp at e
theorem ok_failBad (T : Gx K mg) : FnOk P w K mg base (L2N.CX P w) 4 T.f_Disk_fail T.fd_Disk_fail ["self", "kept"] (spFailBad T.C_InvalidKept T.C_Disk) := by
  have G_are_kept := ok_areBad (P := P) (w := w) (base := base) T
  refine FunOkC T.F_Disk_fail sc_Disk_fail (fun vs H Q E h => ?_) (fun cdv A outer s H vs Q E hr h => ?_)
  · obtain ⟨D, cs, ls, ps, r, w', s', v, rfl, _⟩ := h
    rfl
  · obtain ⟨D, cs, ls, ps, r, w', s', v, rfl, hD, bk, k⟩ := h
    obtain ⟨ts, e, pn⟩ := hD.pend
    refine ⟨_, (pss_cons (ps_if (pt_not (pt_val (pe_call G_are_kept (hr.mono (by first | decide | omega)) (by rfl) T.g_are_kept T.F_are_kept.kp (b_are_kept T) .nil pass0 (pa_cons (pv 1) (pa_cons (pe_callB call_len_seq (by rfl) T.z_len (by decide +kernel) (pa_cons (pe_fld (pv 0) rfl) pa_nil)) pa_nil))))) (pss_one (L2N.ps_raise rfl (L2N.takes_of rfl rfl rfl rfl) (L2N.pmk_own PySem.F.excBase_ValueError T.pl_InvalidKept T.gC_InvalidKept T.kp_InvalidKept (raises_own T.E_InvalidKept.hs T.ty_InvalidKept) (by rfl)))) pss_nil) pss_never), ?_⟩
    refine ⟨_, rfl, _, rfl, D.p, T.C_Disk, _, _, _, rfl, hD.ins, T.cl_Disk, T.n_Disk__pending, dF_get2, D.d, ts.map V.ref, rfl, .inl (SqL.of e), v, ps.length, ?_, bk, _, rfl, iteT k⟩
    rw [List.length_map, pn.1]
    rfl
end
/-! ### the law's lambdas -/
def lamA : Expr → Arguments
  | .Lambda a _ _ _ => a
  | _ => defArgs s_law
def lamB : Expr → Expr
  | .Lambda _ b _ _ => b
  | e => e
def lamS : Expr → Scope
  | .Lambda _ _ s _ => s
  | _ => defScope s_law
def nthE : Nat → List Expr → Expr
  | 0, e :: _ => e
  | n + 1, _ :: r => nthE n r
  | _, [] => .Tuple [] 0 ⟨0, 0, 0, 0⟩
def lamAt (n : Nat) : Stmt → Expr
  | .If (.Compare (.Call _ (l :: _) _ _) _ _ _) _ _ _ => l
  | .If (.BoolOp _ (.Compare (.Call _ (l :: _) _ _) _ _ _ :: _) _) _ _ _ => l
  | .Assign _ (.List es _) _ => nthE n es
  | _ => .Tuple [] 0 ⟨0, 0, 0, 0⟩
abbrev nthS (n : Nat) : Stmt := (defBody s_law).getD n (.Pass ⟨0, 0, 0, 0⟩)
abbrev lam1 : Expr := lamAt 0 (nthS 3)
abbrev lam2 : Expr := lamAt 0 (nthS 8)
abbrev lam3 : Expr := lamAt 1 (nthS 8)
abbrev lam4 : Expr := lamAt 0 (nthS 11)
theorem make_free {H : Hp} {x dx C : Addr} (hx : H x = none) (hdx : H dx = none) (hne : dx ≠ x) : Fr [] H (upd (upd H dx (.own x)) x (.ins C dx [])) := (Fr.new hdx).trans (Fr.new (by rw [upd_ne hne.symm]; exact hx))
section
open LamX NdefX
variable {P : Program} {w : World} {K : PySem.W.Frag} {mg : Str → Option Value} {base : Heap}
def lpS (T : Gx K mg) : List (Option V) → Hp → VK → XK → Prop := fun ws H _ E => ∃ v : V, ws = [some v] ∧ NoNum H 1 64 v ∧ ∀ H' : Hp, Fr [] H H' → E (.ref T.C_InvalidSize) none H'
def lpC (T : Gx K mg) : List (Option V) → Hp → VK → XK → Prop := fun ws H _ E => ∃ (D : Dk) (cs ls : List V) (ps : List (Nat × V)) (r w s : Int) (v : V), ws = [some (.ref D.p), some v] ∧ DiskAt T.C_Disk H D cs ls ps r w s ∧ NoNum H 0 ((cs.length : Int) - 1) v ∧ E (.ref T.C_InvalidCell) none H
def lpK (T : Gx K mg) : List (Option V) → Hp → VK → XK → Prop := fun ws H _ E => ∃ (D : Dk) (cs ls : List V) (ps : List (Nat × V)) (r w s : Int) (v : V), ws = [some (.ref D.p), some v] ∧ DiskAt T.C_Disk H D cs ls ps r w s ∧ BadK H v ps.length ∧ E (.ref T.C_InvalidKept) none H
theorem lok_size (T : Gx K mg) {f : Addr} {F : LF} (eb : F.body = lamB lam1) (es : F.scope = lamS lam1) (ep : F.params = lamA lam1) (ed : F.df.isSome = !(lamA lam1).defaults.isEmpty) : LOk P w K mg base (L2N.CX P w) 8 f F ["_law_size"] (lpS T) := by
  have G := ok_initBad (P := P) (w := w) (base := base) T
  obtain ⟨q, pr, bd, sc, cl, c, df⟩ := F
  have eb' : bd = lamB lam1 := eb
  have es' : sc = lamS lam1 := es
  have ep' : pr = lamA lam1 := ep
  have ed' : df.isSome = false := ed
  subst eb' es' ep'
  obtain rfl : df = none := by cases df with
    | none => rfl
    | some t => cases ed'
  refine lok_of (k := 7) (N := ["_law_size"]) (lscope_by (show lscB ["_law_size"] (lamS lam1) = true from by decide +kernel)) (lbind0 fun pm ct => rfl) (fun A outer s H ws Q E hr L hl h => ?_)
  obtain ⟨v, rfl, nn, k⟩ := h
  obtain ⟨ds, rd, bI⟩ := T.F_Disk___init__.binds0 (ps := ["self", "cells", "content"]) 2 (by simp) rfl (fun D doc pm an cdv ct us ks hu hk => match us, hu, ks, hk with
    | [_, _], _, [_], _ => ⟨_, _, _, _, _, _, rfl, rfl, rfl⟩)
  refine ⟨_, pe_make T.M_Disk___init__ G (hr.mono (by decide)) (by rfl) T.gC_Disk bI rd (L2N.passes_call (L2N.takes_of rfl rfl rfl rfl) (fun _ _ _ _ h => h)) (pa_cons (pv 0) pa_nil), ?_⟩
  refine ⟨_, rfl, fun x dx hx hdx hne => ?_⟩
  have f0 : Fr [] H (upd (upd H dx (.own x)) x (.ins T.C_Disk dx [])) := make_free hx hdx hne
  exact ⟨x, dx, v, .int 0, rfl, upd_same, nn.ext fun b xs e => f0 _ _ e (by simp), k _ f0⟩
theorem lok_read (T : Gx K mg) {f : Addr} {F : LF} (eb : F.body = lamB lam2) (es : F.scope = lamS lam2) (ep : F.params = lamA lam2) (ed : F.df.isSome = !(lamA lam2).defaults.isEmpty) : LOk P w K mg base (L2N.CX P w) 8 f F ["_law_disk", "_law_cell"] (lpC T) := by
  have G := ok_readBad (P := P) (w := w) (base := base) T
  obtain ⟨q, pr, bd, sc, cl, c, df⟩ := F
  have eb' : bd = lamB lam2 := eb
  have es' : sc = lamS lam2 := es
  have ep' : pr = lamA lam2 := ep
  have ed' : df.isSome = false := ed
  subst eb' es' ep'
  obtain rfl : df = none := by cases df with
    | none => rfl
    | some t => cases ed'
  refine lok_of (k := 7) (N := ["_law_disk", "_law_cell"]) (lscope_by (show lscB ["_law_disk", "_law_cell"] (lamS lam2) = true from by decide +kernel)) (lbind0 fun pm ct => rfl) (fun A outer s H ws Q E hr L hl h => ?_)
  obtain ⟨D, cs, ls, ps, r, w', s', v, rfl, hD, nn, k⟩ := h
  refine ⟨_, pe_meth (pv 0) T.cl_Disk T.m_Disk_read G (hr.mono (by decide)) (b_Disk_read T) .nil (L2N.passes_call (L2N.takes_of rfl rfl rfl rfl) (fun _ _ _ _ h => h)) (pa_cons (pv 1) pa_nil), ?_⟩
  exact ⟨_, rfl, D.p, D.dx, _, rfl, hD.ins, dF_no_read, _, rfl, D, cs, ls, ps, r, w', s', v, rfl, hD, nn, k⟩
theorem lok_write (T : Gx K mg) {f : Addr} {F : LF} (eb : F.body = lamB lam3) (es : F.scope = lamS lam3) (ep : F.params = lamA lam3) (ed : F.df.isSome = !(lamA lam3).defaults.isEmpty) : LOk P w K mg base (L2N.CX P w) 8 f F ["_law_disk", "_law_cell"] (lpC T) := by
  have G := ok_writeBad (P := P) (w := w) (base := base) T
  obtain ⟨q, pr, bd, sc, cl, c, df⟩ := F
  have eb' : bd = lamB lam3 := eb
  have es' : sc = lamS lam3 := es
  have ep' : pr = lamA lam3 := ep
  have ed' : df.isSome = true := ed
  subst eb' es' ep'
  obtain ⟨t, rfl⟩ : ∃ t, df = some t := by cases df with
    | none => cases ed'
    | some t => exact ⟨t, rfl⟩
  refine lok_of (k := 7) (N := ["_law_disk", "_law_cell"]) (lscope_by (show lscB ["_law_disk", "_law_cell"] (lamS lam3) = true from by decide +kernel)) (lbind1 (x := "_law_a") rfl (fun pm ct u => ⟨_, rfl, rfl⟩) (show (lamS lam3).names.lookup ("_law_a" : Str) = some .local from by decide +kernel)) (fun A outer s H ws Q E hr L hl h => ?_)
  obtain ⟨D, cs, ls, ps, r, w', s', v, rfl, hD, nn, k⟩ := h
  refine ⟨_, pe_meth (pv 0) T.cl_Disk T.m_Disk_write G (hr.mono (by decide)) (b_Disk_write T) .nil (L2N.passes_call (L2N.takes_of rfl rfl rfl rfl) (fun _ _ _ _ h => h)) (pa_cons (pv 1) (pa_cons pe_int pa_nil)), ?_⟩
  exact ⟨_, rfl, D.p, D.dx, _, rfl, hD.ins, dF_no_write, _, rfl, D, cs, ls, ps, r, w', s', v, _, rfl, hD, nn, k⟩
theorem lok_fail (T : Gx K mg) {f : Addr} {F : LF} (eb : F.body = lamB lam4) (es : F.scope = lamS lam4) (ep : F.params = lamA lam4) (ed : F.df.isSome = !(lamA lam4).defaults.isEmpty) : LOk P w K mg base (L2N.CX P w) 8 f F ["_law_disk", "_law_kept"] (lpK T) := by
  have G := ok_failBad (P := P) (w := w) (base := base) T
  obtain ⟨q, pr, bd, sc, cl, c, df⟩ := F
  have eb' : bd = lamB lam4 := eb
  have es' : sc = lamS lam4 := es
  have ep' : pr = lamA lam4 := ep
  have ed' : df.isSome = true := ed
  subst eb' es' ep'
  obtain ⟨t, rfl⟩ : ∃ t, df = some t := by cases df with
    | none => cases ed'
    | some t => exact ⟨t, rfl⟩
  refine lok_of (k := 7) (N := ["_law_disk", "_law_kept"]) (lscope_by (show lscB ["_law_disk", "_law_kept"] (lamS lam4) = true from by decide +kernel)) (lbind1 (x := "_law_b") rfl (fun pm ct u => ⟨_, rfl, rfl⟩) (show (lamS lam4).names.lookup ("_law_b" : Str) = some .local from by decide +kernel)) (fun A outer s H ws Q E hr L hl h => ?_)
  obtain ⟨D, cs, ls, ps, r, w', s', v, rfl, hD, bk, k⟩ := h
  refine ⟨_, pe_meth (pv 0) T.cl_Disk T.m_Disk_fail G (hr.mono (by decide)) (b_Disk_fail T) .nil (L2N.passes_call (L2N.takes_of rfl rfl rfl rfl) (fun _ _ _ _ h => h)) (pa_cons (pv 1) pa_nil), ?_⟩
  exact ⟨_, rfl, D.p, D.dx, _, rfl, hD.ins, dF_no_fail, _, rfl, D, cs, ls, ps, r, w', s', v, rfl, hD, bk, k⟩
end
/-! ### calls told one after another: what their cells hold lies still -/
section
open PySem.Spec PySem.Calls PySem.W PyProof.Rows LamX NdefX
section
variable {P : Program} {w : World} {K : Frag} {mg : Str → Option Value} {base : Heap}
theorem op_neDK {X : Cx} (e : X.K = K) (hu : X.A.units + 64 < cLine) : OpR X (compareOp .NotEq) (rNeD K) := by
  subst e
  exact op_neD hu
/-- a def whose body may take all that is untracked for fixed -/
theorem FunOkB {CX : CXT} {x qual : Str} {st : Stmt} {f : Addr} {fd : FuncData} {N ps : List Str} {k : Nat} {sp : SpS} (F : L2.Fun K x qual st f fd) (hb : Binds K fd ps []) (S : FnScope N ps (defScope st)) (len : ∀ vs o s H Q E, sp vs o s H Q E → vs.length = ps.length)
    (hbody : ∀ (b2 : Heap) (cdv : Value) (A : Around) (outer : List Env) (s : Shared) (H : Hp) (vs : List V) (Q : VK) (E : XK), (∀ b o, s.heap.get? b = some o → H b = none → b ∉ frs outer → b2.get? b = some o) → Room k (A.deeper (envOfC qual (defScope st) s.heap.objs.size f cdv)) → sp vs outer s H Q E →
      ∃ t, PSs (cxOf CX P w K mg b2 N qual (defScope st) f cdv A outer s H E) (defBody st) t ∧ t { nx := fun _ H' => Q .non H', rt := Q } (L2.start N vs) H) : FnS P w K mg base CX (k + 1) f ps sp := by
  obtain ⟨oc, od, kV, doc, pm, an, cdv, ct, osl, rfl, lk, hcd⟩ := F.ex
  refine ⟨len, fun A outer s H us vs Q E hr e0 r hsp => ?_⟩
  have hl := len _ _ _ _ _ _ hsp
  have KX : K.In s.heap := e0.mod.kin.keeps fun b o z => (e0.bs b o z).1
  have b2 := hb s us KX (by rw [List.append_nil, ← hl]; exact r.length.symm)
  rw [List.append_nil] at b2
  have up : ∀ b o, s.heap.get? b = some o → H b = none → b ∉ frs outer → (hideAll (hidT s.heap H) (frs outer)).get? b = some o := fun b o e n hf => hideAll_get _ (hidT_get e n) hf
  have kb : ∀ b o, base.get? b = some o → (hideAll (hidT s.heap H) (frs outer)).get? b = some o := fun b o e => by
    refine up b o (e0.bs b o e).1 (e0.bs b o e).2 fun hm => ?_
    have z := (e0.funs.mem hm).1
    rw [e] at z
    cases z
  have e1 : Env0 P w K mg (hideAll (hidT s.heap H) (frs outer)) A outer s H := by
    refine ⟨e0.frames, ⟨e0.mod.kin.keeps kb, e0.mod.glob.keeps kb, ?_, e0.mod.nolimit.keeps kb⟩, fun b o e => of_hidT (of_hideAll _ e), ?_, funFrames_none e0.funs (fun L hL => hideAll_none _ hL), e0.frf, e0.hok, e0.bare⟩
    · obtain ⟨mb, h1, h2⟩ := e0.mod.blt
      exact ⟨mb, h1.keeps kb, h2⟩
    · rw [hideAll_size, hidT_size]
      exact Nat.le_refl _
  exact run_ofS (us := us) (vs := vs) lk hcd S hr e1 b2 r hl fun hr' => hbody _ cdv A outer s H vs Q E up hr' hsp
end
/-- the lambda's cells lie in the base -/
structure BAct (base : Heap) (F : LF) (fr : List Str) (ws : List (Option V)) : Prop where
  len : ws.length = fr.length
  all : ∀ y c, F.cl.lookup y = some c → ∃ v, base.IsCell c v
  inj : ∀ x y c, F.cl.lookup x = some c → F.cl.lookup y = some c → x = y
  has : ∀ (i : Nat) (y : Str), fr[i]? = some y → ∃ c, F.cl.lookup y = some c ∧ ∀ v, ws[i]? = some (some v) → ∃ u, L2.RelV v u ∧ base.IsCell c (some u)
theorem Act.based {f : Addr} {F : LF} {fr : List Str} {ws : List (Option V)} {fs : List Addr} {s : Shared} {H : Hp} {base : Heap} (a : Act f F fr ws fs s H) (h : ∀ b o, s.heap.get? b = some o → H b = none → b ∉ fs → base.get? b = some o) : BAct base F fr ws := by
  have up : ∀ {y c v}, F.cl.lookup y = some c → s.heap.IsCell c v → base.IsCell c v := fun {y c v} e hc => by
    obtain ⟨o, ho, hd⟩ := hc
    exact ⟨o, h c o ho (a.cells.all y c e).1 (a.nf y c e), hd⟩
  refine ⟨a.cells.len, fun y c e => ?_, a.cells.inj, fun i y e => ?_⟩
  · obtain ⟨_, v, hc⟩ := a.cells.all y c e
    exact ⟨v, up e hc⟩
  · obtain ⟨c, hc, hv⟩ := a.cells.has i y e
    refine ⟨c, hc, fun v ev => ?_⟩
    obtain ⟨u, ru, hu⟩ := hv v ev
    exact ⟨u, ru, up hc hu⟩
theorem BAct.act {Y : Cx} {pins : List (Addr × Obj)} {σ : L2.St} {H : Hp} {s : Shared} {f : Addr} {F : LF} {fr : List Str} {ws : List (Option V)} (a : BAct Y.base F fr ws) (I : Inv Y pins σ H s) (L : Lv f F H) : Act f F fr ws (frs Y.stack) s H := by
  have dn : ∀ {c v}, Y.base.IsCell c v → s.heap.IsCell c v ∧ H c = none := fun {c v} hc => by
    obtain ⟨o, ho, hd⟩ := hc
    exact ⟨⟨o, (I.bs c o ho).1, hd⟩, (I.bs c o ho).2⟩
  refine ⟨L, ⟨a.len, fun y c e => ?_, a.inj, fun i y e => ?_⟩, fun y c e hm => ?_⟩
  · obtain ⟨v, hc⟩ := a.all y c e
    exact ⟨(dn hc).2, v, (dn hc).1⟩
  · obtain ⟨c, hc, hv⟩ := a.has i y e
    refine ⟨c, hc, fun v ev => ?_⟩
    obtain ⟨u, ru, hu⟩ := hv v ev
    exact ⟨u, ru, (dn hu).1⟩
  · obtain ⟨v, o, ho, hd⟩ := a.all y c e
    rcases List.mem_cons.mp (I.stkSub c hm) with z | z
    · have h1 := Heap.lt_size ho
      have h2 := I.ok.bsz
      have h3 := I.ok.above
      rw [z] at h1
      exact absurd (Nat.lt_of_lt_of_le h1 (Nat.le_trans h2 h3)) (Nat.lt_irrefl _)
    · have z2 := (I.ok.funs.mem z).1
      rw [ho] at z2
      cases z2
theorem Lv.fr {f : Addr} {F : LF} {H H' : Hp} (L : Lv f F H) (e : Fr [] H H') : Lv f F H' := L.keep fun b o h _ _ _ => e b o h (by simp)
section
variable {P : Program} {w : World} {K : Frag} {mg : Str → Option Value} {base : Heap}
/-- error_of(c), c a name that holds a lambda -/
theorem pe_errB {Y : Cx} {i : Nat} {a : Str} {p p1 pos : Pos} (T : Gx K mg) (eP : Y.prog = P) (ew : Y.w = w) (eK : Y.K = K) (em : Y.mg = mg) (eb : Y.base = base) (hr : Room 10 Y.A) (hg : Gl Y "_law_error_of") (hN : Y.N[i]? = some a) (hv : Vis Y.env.scope a) (hd : (a == ("__debug__" : Str)) = false := by decide) (hcd : (a == ("__classdict__" : Str)) = false := by decide)
    (he : starEach [.Name a p1] Y.env = (false, eval (.Name a p1) Y.env) :: starEach [] Y.env := by rfl) (hpl : (backTo pos (starEach [] Y.env)).any (·.1) = false := by rfl) :
    PE Y (.Call (.Name "_law_error_of" p) [.Name a p1] [] pos) (fun σ H Q => ∃ (f : Addr) (F : LF) (fr : List Str) (ws : List (Option V)) (lp : List (Option V) → Hp → VK → XK → Prop), σ[i]? = some (some (.ref f)) ∧ LOk P w K mg base (L2N.CX P w) 8 f F fr lp ∧ BAct base F fr ws ∧ Lv f F H ∧
      ∀ (Q' : VK) (E' : XK), (∀ v H', Q .non H' → Q' v H') → (∀ cls d H', ErrEnd T cls d H' Q → E' cls d H') → lp ws H Q' E') := by
  subst eP ew eK em eb
  refine ⟨fun pins s σ H Q I h => ?_⟩
  obtain ⟨f, F, fr, ws, lp, h1, L, b, lv, hl⟩ := h
  refine (pe_callS (ok_errorOf (w := Y.w) (base := Y.base) T) hr hg T.g__law_error_of T.F__law_error_of.kp (C8.pass0 (E := C8.E0)) (pa_cons (pe_var (i := i) hN hv hd hcd) pa_nil) rfl he hpl).run pins s σ H Q I ?_
  exact ⟨_, h1, fun pins1 s1 I1 => ⟨f, F, fr, ws, lp, rfl, L, b.act I1 lv, hl⟩⟩
end
/-- a lambda that always ends by this error -/
def OkL {K : Frag} {mg : Str → Option Value} (P : Program) (w : World) (T : Gx K mg) (outer : List Env) (s : Shared) (H : Hp) (f : Addr) : Prop := ∃ (F : LF) (fr : List Str) (ws : List (Option V)) (lp : List (Option V) → Hp → VK → XK → Prop), (∀ base, LOk P w K mg base (L2N.CX P w) 8 f F fr lp) ∧ Act f F fr ws (frs outer) s H ∧
  ∀ H', Fr [] H H' → ∀ (Q' : VK) (E' : XK), (∀ H'', Fr [] H' H'' → E' (.ref T.C_InvalidCell) none H'') → lp ws H' Q' E'
def spAll {K : Frag} {mg : Str → Option Value} (P : Program) (w : World) (T : Gx K mg) : SpS := fun vs outer s H Q _ => ∃ (l e : Addr) (fs : List Addr), vs = [.ref l, .ref e] ∧ H l = some (.lst (fs.map V.ref)) ∧ fs.length ≤ 100 ∧ H e = some (.tup [.str "cell", .int 0]) ∧ (∀ f ∈ fs, OkL P w T outer s H f) ∧ ∀ H', Fr [] H H' → Q (.bl true) H'
section
variable {P : Program} {w : World} {K : Frag} {mg : Str → Option Value} {base : Heap}
theorem ok_all (T : Gx K mg) : FnS P w K mg base C8.CX0 12 T.f__law_all_raise ["_law_calls", "_law_expected"] (spAll P w T) := by
  refine FunOkB T.F__law_all_raise (b__law_all_raise T) sc__law_all_raise (fun vs o s H Q E h => by obtain ⟨l, e, fs, rfl, _⟩ := h; rfl) (fun b2 cdv A outer s H vs Q E hb hr h => ?_)
  obtain ⟨l, e, fs, rfl, hl, hz, he, hf, k⟩ := h
  refine ⟨_, (pss_one (ps_ret (pe_cmpR (op_eqD hr.units) (pe_lc (own := [("_law_call", 2)]) (g := gName 2) rfl sc__law_all_raise.nd (pi_list (pv 0)) (blkOk_by (N := ["_law_calls", "_law_expected", "_law_call"]) (sc := defScope s__law_all_raise) (by decide +kernel)) (fun _ _ _ _ _ => pg_name (i := 2) sc__law_all_raise.nd rfl (.inl rfl)) (fun _ _ _ _ _ => (pts_one (pt_cmpR (op_neDK (K := K) rfl hr.units) (pe_errB (i := 2) (P := P) (w := w) (base := b2) T rfl rfl rfl rfl rfl (hr.mono (by decide)) (by rfl) rfl (by first | exact Or.inl rfl | exact Or.inr (Or.inl rfl) | exact Or.inr (Or.inr rfl))) (pv 1) (nomark _)))) (fun _ _ _ _ _ => (pv 2))) (pe_lst pa_nil) (nomark _)))), ?_⟩
  refine ⟨_, rfl, l, rfl, ⟨_, SqL.of hl⟩, fun D hD => ?_⟩
  refine lc_list (K := K) (a := l) (xs := fs.map V.ref) (fun i H2 => Fr [] (upd H D (.lst [])) H2) (Fr.refl _ _) ?_ ?_ ?_
  · intro i H2 _ f2
    exact SqL.of (f2 _ _ (Fr.new (S := []) hD _ _ hl (by simp)) (by simp))
  · intro i x H2 hi f2
    obtain ⟨f, rfl, hfi⟩ : ∃ f, x = .ref f ∧ f ∈ fs := by
      rw [List.getElem?_map] at hi
      cases e1 : fs[i]? with
      | none => rw [e1] at hi; cases hi
      | some u =>
        rw [e1] at hi
        exact ⟨u, (Option.some.inj hi).symm, List.mem_of_getElem? e1⟩
    have f0 : Fr [] H H2 := (Fr.new hD).trans f2
    obtain ⟨F, fr, ws, lp, L, act, hlp⟩ := hf f hfi
    refine ⟨rfl, f, F, fr, ws, lp, rfl, L b2, act.based hb, act.lv.fr f0, fun Q' E' hq hx => hlp H2 f0 Q' E' fun H3 f3 => hx _ _ _ (.inr (.inl ⟨rfl, ⟨[], rfl⟩, fun t H4 ht f4 et => ?_⟩))⟩
    have f5 : Fr [] H H4 := (f0.trans f3).trans f4
    refine ⟨_, rfl, .tuple [.str "cell", .int 0], .tuple [.str "cell", .int 0], .tup (SqT.of et) (.cons (.str _) (.cons (.int _) .nil)), .tup (SqT.of (f5 _ _ he (by simp))) (.cons (.str _) (.cons (.int _) .nil)), by decide +kernel, by decide +kernel, _, rfl, ?_⟩
    refine iteFb (by decide +kernel) ?_
    exact (f2.trans f3).trans f4
  · intro H2 f2
    have eD : H2 D = some (.lst []) := f2 _ _ upd_same (by simp)
    refine ⟨sz_le (by simp), fun g hg => ?_⟩
    have eq : PyData.eqv (.list []) (.list []) = true := by decide +kernel
    refine ⟨.list [], .list [], .lst (SqL.of (Fr.new (S := []) hg _ _ eD (by simp))) .nil, .lst (SqL.of upd_same) .nil, by decide +kernel, by decide +kernel, ?_⟩
    rw [eq]
    exact k _ (((Fr.new hD).trans f2).trans (Fr.new hg))
end
end
/-! ### what goes along: the drawings, the table -/
section
open LamX NdefX
def nmL : Nat → Nat → Str := fun _ _ => (PyProof.Rows.envOfC "law" (defScope s_law) 0 0 .none).qual ++ "<lambda>"
theorem hmL (P : Addr) : (P, nmL) ∈ [(P, nmL)] := List.mem_cons_self
theorem huL (P : Addr) : ∀ p ∈ [(P, nmL)], p.1 = P → p.2 = nmL := fun p hp _ => by rw [List.mem_singleton.mp hp]
theorem cap1 : ∀ y ∈ (lamS lam1).names, y.2 = .free → (defScope s_law).names.lookup y.1 = some .cell ∨ (defScope s_law).names.lookup y.1 = some .free := by decide +kernel
theorem free1 : ∀ y ∈ (["_law_size"] : List Str), (y, NameKind.free) ∈ (lamS lam1).names := by decide +kernel
theorem cap2 : ∀ y ∈ (lamS lam2).names, y.2 = .free → (defScope s_law).names.lookup y.1 = some .cell ∨ (defScope s_law).names.lookup y.1 = some .free := by decide +kernel
theorem free2 : ∀ y ∈ (["_law_disk", "_law_cell"] : List Str), (y, NameKind.free) ∈ (lamS lam2).names := by decide +kernel
theorem cap3 : ∀ y ∈ (lamS lam3).names, y.2 = .free → (defScope s_law).names.lookup y.1 = some .cell ∨ (defScope s_law).names.lookup y.1 = some .free := by decide +kernel
theorem free3 : ∀ y ∈ (["_law_disk", "_law_cell"] : List Str), (y, NameKind.free) ∈ (lamS lam3).names := by decide +kernel
theorem cap4 : ∀ y ∈ (lamS lam4).names, y.2 = .free → (defScope s_law).names.lookup y.1 = some .cell ∨ (defScope s_law).names.lookup y.1 = some .free := by decide +kernel
theorem free4 : ∀ y ∈ (["_law_disk", "_law_kept"] : List Str), (y, NameKind.free) ∈ (lamS lam4).names := by decide +kernel
structure Wd (P r : Addr) (H : Hp) : Prop where
  rnd : Rnd H r
  tab : TabsN [(P, nmL)] H
theorem tabN_lst {H H' : Hp} {P r : Addr} {nm : Nat → Nat → Str} (t : TabN H P nm) (f : Fr [r] H H') (hr : ∃ xs, H r = some (.lst xs)) : TabN H' P nm := by
  obtain ⟨ps, h1, h2, h3⟩ := t
  obtain ⟨xs, e⟩ := hr
  refine ⟨ps, f _ _ h1 (fun z => ?_), h2, fun pos cv hc => ?_⟩
  · rw [List.mem_singleton.mp z, e] at h1
    cases h1
  · obtain ⟨c, e1, e2⟩ := h3 pos cv hc
    refine ⟨c, e1, f _ _ e2 (fun z => ?_)⟩
    rw [List.mem_singleton.mp z, e] at e2
    unfold CodeO at e2
    cases e2
theorem Wd.keep0 {P r : Addr} {H H' : Hp} (h : Wd P r H) (f : Fr [] H H') : Wd P r H' := ⟨h.rnd.keep f (by simp), h.tab.ext fun b o e => f b o e (by simp)⟩
theorem Wd.draw {P r : Addr} {H H' : Hp} (h : Wd P r H) (f : Fr [r] H H') (R : Rnd H' r) : Wd P r H' := ⟨R, fun p hp => tabN_lst (h.tab p hp) f (by
  obtain ⟨a, b, ns, e⟩ := h.rnd
  exact ⟨_, e⟩)⟩
theorem Wd.new {P r : Addr} {H : Hp} {p : Addr} {o : HO} (h : Wd P r H) (n : H p = none) : Wd P r (upd H p o) := h.keep0 (Fr.new n)
theorem Wd.out {P r : Addr} {H : Hp} {p : Addr} (h : Wd P r H) (n : H p = none) : p ≠ r := fun e => by
  obtain ⟨a, b, ns, e2⟩ := h.rnd
  rw [e, e2] at n
  cases n
theorem Wd.lam {P r : Addr} {H H' : Hp} (h : Wd P r H) (f : ExtN H H') (t : TabsN [(P, nmL)] H') : Wd P r H' := ⟨by
  obtain ⟨a, b, ns, e⟩ := h.rnd
  exact ⟨a, b, ns, f _ _ e (fun _ z => by cases z)⟩, t⟩
end
/-! ### what is drawn -/
theorem size_at {H : Hp} {q : Addr} {z far : Nat} (hq : H q = some (.tup [.int 2])) (hz : z < 8) : ∃ v, atI [.int 0, .int 65, .int (65 + (far : Int)), .int (0 - (far : Int)), .non, .bl true, .str "3", .ref q] (z : Int) = some v ∧ NoNum H 1 64 v := by
  match z, hz with
  | 0, _ => exact ⟨_, atI_nat (j := 0) rfl, .inl ⟨_, rfl, by decide⟩⟩
  | 1, _ => exact ⟨_, atI_nat (j := 1) rfl, .inl ⟨_, rfl, by decide⟩⟩
  | 2, _ => exact ⟨_, atI_nat (j := 2) rfl, .inl ⟨_, rfl, by rw [Bool.and_eq_false_iff]; exact .inr (decide_eq_false (by omega))⟩⟩
  | 3, _ => exact ⟨_, atI_nat (j := 3) rfl, .inl ⟨_, rfl, by rw [Bool.and_eq_false_iff]; exact .inl (decide_eq_false (by omega))⟩⟩
  | 4, _ => exact ⟨_, atI_nat (j := 4) rfl, .inr (.inl rfl)⟩
  | 5, _ => exact ⟨_, atI_nat (j := 5) rfl, .inr (.inr (.inl ⟨_, rfl⟩))⟩
  | 6, _ => exact ⟨_, atI_nat (j := 6) rfl, .inr (.inr (.inr (.inl ⟨_, rfl⟩)))⟩
  | 7, _ => exact ⟨_, atI_nat (j := 7) rfl, .inr (.inr (.inr (.inr ⟨q, _, rfl, hq⟩)))⟩
theorem cell_at {H : Hp} {q : Addr} {z far n : Nat} (hq : H q = some (.tup [.int 0])) (hz : z < 6) : ∃ v, atI [.int (0 - 1 - (far : Int)), .int ((n : Int) + (far : Int)), .non, .bl true, .str "0", .ref q] (z : Int) = some v ∧ NoNum H 0 ((n : Int) - 1) v := by
  match z, hz with
  | 0, _ => exact ⟨_, atI_nat (j := 0) rfl, .inl ⟨_, rfl, by rw [Bool.and_eq_false_iff]; exact .inl (decide_eq_false (by omega))⟩⟩
  | 1, _ => exact ⟨_, atI_nat (j := 1) rfl, .inl ⟨_, rfl, by rw [Bool.and_eq_false_iff]; exact .inr (decide_eq_false (by omega))⟩⟩
  | 2, _ => exact ⟨_, atI_nat (j := 2) rfl, .inr (.inl rfl)⟩
  | 3, _ => exact ⟨_, atI_nat (j := 3) rfl, .inr (.inr (.inl ⟨_, rfl⟩))⟩
  | 4, _ => exact ⟨_, atI_nat (j := 4) rfl, .inr (.inr (.inr (.inl ⟨_, rfl⟩)))⟩
  | 5, _ => exact ⟨_, atI_nat (j := 5) rfl, .inr (.inr (.inr (.inr ⟨q, _, rfl, hq⟩)))⟩
/-- ten things of which some are tuples: the eleven that are kept -/
theorem kept_at {H : Hp} {l a1 a2 a3 a4 a5 a6 a7 a8 : Addr} {z far : Nat} (hl : H l = some (.lst [.int 0])) (h1 : H a1 = some (.tup [.int 1, .int 0])) (h2 : H a2 = some (.tup [.int 0, .int 0])) (h3 : H a3 = some (.tup [.int 3])) (h4 : H a4 = some (.tup [.int (3 + (far : Int))])) (h5 : H a5 = some (.tup [.int (0 - 1)]))
    (h6 : H a6 = some (.tup [.bl true])) (h7 : H a7 = some (.tup [.int 0, .non])) (h8 : H a8 = some (.tup [.str "0"])) (hz : z < 11) :
    ∃ v, atI [.ref l, .non, .int 0, .ref a1, .ref a2, .ref a3, .ref a4, .ref a5, .ref a6, .ref a7, .ref a8] (z : Int) = some v ∧ BadK H v 3 ∧ ∀ b, v = .ref b → b = l ∨ ∃ xs, H b = some (.tup xs) := by
  match z, hz with
  | 0, _ => exact ⟨_, atI_nat (j := 0) rfl, .inl (.inr (.inr ⟨l, _, rfl, hl⟩)), fun b e => by cases e; exact .inl rfl⟩
  | 1, _ => exact ⟨_, atI_nat (j := 1) rfl, .inl (.inl rfl), fun b e => by cases e⟩
  | 2, _ => exact ⟨_, atI_nat (j := 2) rfl, .inl (.inr (.inl ⟨_, rfl⟩)), fun b e => by cases e⟩
  | 3, _ => exact ⟨_, atI_nat (j := 3) rfl, .inr ⟨a1, _, [], rfl, .inr ⟨1, h1, by decide, .inl ⟨0, rfl, by decide⟩⟩⟩, fun b e => by cases e; exact .inr ⟨_, h1⟩⟩
  | 4, _ => exact ⟨_, atI_nat (j := 4) rfl, .inr ⟨a2, _, [], rfl, .inr ⟨0, h2, by decide, .inl ⟨0, rfl, by decide⟩⟩⟩, fun b e => by cases e; exact .inr ⟨_, h2⟩⟩
  | 5, _ => exact ⟨_, atI_nat (j := 5) rfl, .inr ⟨a3, _, [], rfl, .inl ⟨h3, .inl ⟨3, rfl, by decide⟩⟩⟩, fun b e => by cases e; exact .inr ⟨_, h3⟩⟩
  | 6, _ => exact ⟨_, atI_nat (j := 6) rfl, .inr ⟨a4, _, [], rfl, .inl ⟨h4, .inl ⟨_, rfl, by rw [Bool.and_eq_false_iff]; exact .inr (decide_eq_false (by omega))⟩⟩⟩, fun b e => by cases e; exact .inr ⟨_, h4⟩⟩
  | 7, _ => exact ⟨_, atI_nat (j := 7) rfl, .inr ⟨a5, _, [], rfl, .inl ⟨h5, .inl ⟨_, rfl, by decide⟩⟩⟩, fun b e => by cases e; exact .inr ⟨_, h5⟩⟩
  | 8, _ => exact ⟨_, atI_nat (j := 8) rfl, .inr ⟨a6, _, [], rfl, .inl ⟨h6, .inr (.inr (.inl ⟨_, rfl⟩))⟩⟩, fun b e => by cases e; exact .inr ⟨_, h6⟩⟩
  | 9, _ => exact ⟨_, atI_nat (j := 9) rfl, .inr ⟨a7, _, [], rfl, .inr ⟨0, h7, by decide, .inr (.inl rfl)⟩⟩, fun b e => by cases e; exact .inr ⟨_, h7⟩⟩
  | 10, _ => exact ⟨_, atI_nat (j := 10) rfl, .inr ⟨a8, _, [], rfl, .inl ⟨h8, .inr (.inr (.inr (.inl ⟨_, rfl⟩)))⟩⟩, fun b e => by cases e; exact .inr ⟨_, h8⟩⟩
/-! ### what a disk shows, as data -/
def pairD (q : Nat × V) : PyData := .tuple [.int (q.1 : Int), toD q.2]
theorem flat_dp {K : PySem.W.Frag} {H : Hp} {v : V} (h : isF v = true) : Dp K H v (toD v) := by
  cases v with
  | non => exact .non
  | bl b => exact .bl b
  | int i => exact .int i
  | str _ => cases h
  | byt _ => cases h
  | flt _ => cases h
  | ref _ => cases h
  | ty _ => cases h
theorem dpAll_pend {K : PySem.W.Frag} {H : Hp} : ∀ {ts : List Addr} {ps : List (Nat × V)}, Pend H ts ps → (∀ q ∈ ps, isF q.2 = true) → DpAll K H (ts.map V.ref) (ps.map pairD)
  | [], [], _, _ => .nil
  | [], _ :: _, h, _ => by cases h.1
  | _ :: _, [], h, _ => by cases h.1
  | t :: ts, q :: ps, h, hf => by
    have h0 := h.2 0 t q rfl rfl
    refine .cons (.tup (SqT.of h0) (.cons (.int _) (.cons (flat_dp (hf q List.mem_cons_self)) .nil))) (dpAll_pend ⟨by simpa using h.1, fun i u p e1 e2 => h.2 (i + 1) u p (by simpa using e1) (by simpa using e2)⟩ fun p hp => hf p (List.mem_cons_of_mem _ hp))
theorem lay_pairs : ∀ ps : List (Nat × V), PyData.canLayAll0 (ps.map pairD) = true
  | [] => rfl
  | q :: r => by
    show (PyData.canLayAll0 [.int (q.1 : Int), toD q.2] && PyData.canLayAll0 (r.map pairD)) = true
    rw [lay_pairs r]
    have : PyData.canLay0 (toD q.2) = true := by cases q.2 <;> rfl
    simp [PyData.canLayAll0, PyData.canLay0, this]
theorem dep_pairs : ∀ ps : List (Nat × V), PyData.depthAll (ps.map pairD) ≤ 2
  | [] => by simp [PyData.depthAll]
  | q :: r => by
    have h := dep_pairs r
    have hx : PyData.depth (toD q.2) ≤ 1 := by cases q.2 <;> simp [toD, PyData.depth]
    show PyData.depthAll (pairD q :: r.map pairD) ≤ 2
    simp only [PyData.depthAll, pairD, PyData.depth]
    omega
def PD (cs ls : List V) (ps : List (Nat × V)) (a b c : Int) : PyData := .list [.tuple (cs.map toD), .tuple (ls.map toD), .list (ps.map pairD), .tuple [.int a, .int b, .int c]]
theorem lay_PD (cs ls : List V) (ps : List (Nat × V)) (a b c : Int) : PyData.canLay0 (PD cs ls ps a b c) = true := by
  have h1 := lay_flat cs
  have h2 := lay_flat ls
  have h3 := lay_pairs ps
  simp [PD, PyData.canLay0, PyData.canLayAll0, h1, h2, h3]
theorem shaped_PD (cs ls : List V) (ps : List (Nat × V)) (a b c : Int) : SeqAt.shaped (PD cs ls ps a b c) = true := by
  unfold SeqAt.shaped
  rw [Bool.and_eq_true, decide_eq_true_eq]
  refine ⟨lay_PD cs ls ps a b c, ?_⟩
  have h1 := dep_flat cs
  have h2 := dep_flat ls
  have h3 := dep_pairs ps
  simp only [PD, PyData.depth, PyData.depthAll]
  omega
theorem eqv_PD (cs ls : List V) (ps : List (Nat × V)) (a b c : Int) : PyData.eqv (PD cs ls ps a b c) (PD cs ls ps a b c) = true := SeqAt.eqv_refl _ (lay_PD cs ls ps a b c)
/-- what stood before -/
structure Bef (K : PySem.W.Frag) (H : Hp) (r lb : Addr) (cs ls : List V) (ps : List (Nat × V)) (a b c : Int) : Prop where
  ex : ∃ (t1 t2 t3 t4 : Addr) (ts : List Addr), H lb = some (.lst [.ref t1, .ref t2, .ref t3, .ref t4]) ∧ H t1 = some (.tup cs) ∧ H t2 = some (.tup ls) ∧ H t3 = some (.lst (ts.map V.ref)) ∧ t3 ≠ r ∧ Pend H ts ps ∧ H t4 = some (.tup [.int a, .int b, .int c])
  nr : lb ≠ r
theorem Bef.keep {K : PySem.W.Frag} {H H' : Hp} {S : List Addr} {r lb : Addr} {cs ls : List V} {ps : List (Nat × V)} {a b c : Int} (h : Bef K H r lb cs ls ps a b c) (f : Fr S H H') (hS : ∀ b ∈ S, b = r) (n : ∀ b ∈ S, ∀ xs, H b ≠ some (.tup xs)) : Bef K H' r lb cs ls ps a b c := by
  obtain ⟨⟨t1, t2, t3, t4, ts, e0, e1, e2, e3, n3, pn, e4⟩, nr⟩ := h
  exact ⟨⟨t1, t2, t3, t4, ts, f _ _ e0 (fun z => nr (hS _ z)), f _ _ e1 (fun z => n _ z _ e1), f _ _ e2 (fun z => n _ z _ e2), f _ _ e3 (fun z => n3 (hS _ z)), n3, pn.keep f n, f _ _ e4 (fun z => n _ z _ e4)⟩, nr⟩
theorem Bef.dp {K : PySem.W.Frag} {H : Hp} {r lb : Addr} {cs ls : List V} {ps : List (Nat × V)} {a b c : Int} (h : Bef K H r lb cs ls ps a b c) (h1 : AllF cs) (h2 : AllF ls) (h3 : ∀ q ∈ ps, isF q.2 = true) : Dp K H (.ref lb) (PD cs ls ps a b c) := by
  obtain ⟨⟨t1, t2, t3, t4, ts, e0, e1, e2, e3, n3, pn, e4⟩, nr⟩ := h
  exact .lst (SqL.of e0) (.cons (.tup (SqT.of e1) (dpAll_flat h1)) (.cons (.tup (SqT.of e2) (dpAll_flat h2)) (.cons (.lst (SqL.of e3) (dpAll_pend pn h3)) (.cons (.tup (SqT.of e4) (.cons (.int _) (.cons (.int _) (.cons (.int _) .nil)))) .nil))))
theorem rep_flat (n : Nat) (v : V) : (List.replicate n [v]).flatten = List.replicate n v := by
  induction n with
  | zero => rfl
  | succ n ih => rw [List.replicate_succ, List.flatten_cons, ih]; rfl
section
open LamX NdefX
theorem NoNum.keepN {H H' : Hp} {lo hi : Int} {v : V} (h : NoNum H lo hi v) (f : ExtN H H') : NoNum H' lo hi v := h.ext fun b xs e => f _ _ e (fun _ z => by cases z)
theorem NoNum.keep0 {H H' : Hp} {lo hi : Int} {v : V} (h : NoNum H lo hi v) (f : Fr [] H H') : NoNum H' lo hi v := h.ext fun b xs e => f _ _ e (by simp)
theorem DiskAt.keepN {C : Addr} {H H' : Hp} {D : Dk} {cs ls : List V} {ps : List (Nat × V)} {r w s : Int} (h : DiskAt C H D cs ls ps r w s) (f : ExtN H H') : DiskAt C H' D cs ls ps r w s := by
  obtain ⟨ts, e, pn⟩ := h.pend
  exact ⟨f _ _ h.ins (fun _ z => by cases z), f _ _ h.cs_ (fun _ z => by cases z), f _ _ h.ls_ (fun _ z => by cases z), ⟨ts, f _ _ e (fun _ z => by cases z), pn.1, fun i t q a b => f _ _ (pn.2 i t q a b) (fun _ z => by cases z)⟩, h.cl, h.cd, h.ld, h.len, h.small, h.ok⟩
theorem DiskAt.keep0 {C : Addr} {H H' : Hp} {D : Dk} {cs ls : List V} {ps : List (Nat × V)} {r w s : Int} (h : DiskAt C H D cs ls ps r w s) (f : Fr [] H H') : DiskAt C H' D cs ls ps r w s := h.keep f (by simp) (by simp)
theorem Bef.keepN {K : PySem.W.Frag} {H H' : Hp} {r lb : Addr} {cs ls : List V} {ps : List (Nat × V)} {a b c : Int} (h : Bef K H r lb cs ls ps a b c) (f : ExtN H H') : Bef K H' r lb cs ls ps a b c := by
  obtain ⟨⟨t1, t2, t3, t4, ts, e0, e1, e2, e3, n3, pn, e4⟩, nr⟩ := h
  exact ⟨⟨t1, t2, t3, t4, ts, f _ _ e0 (fun _ z => by cases z), f _ _ e1 (fun _ z => by cases z), f _ _ e2 (fun _ z => by cases z), f _ _ e3 (fun _ z => by cases z), n3, ⟨pn.1, fun i t q a b => f _ _ (pn.2 i t q a b) (fun _ z => by cases z)⟩, f _ _ e4 (fun _ z => by cases z)⟩, nr⟩
end
section
open LamX NdefX
theorem DiskAt.kinds {C : Addr} {H : Hp} {D : Dk} {cs ls : List V} {ps : List (Nat × V)} {r w s : Int} (h : DiskAt C H D cs ls ps r w s) : ∀ b ∈ D.own, (∃ xs, H b = some (.lst xs)) ∨ ∃ C dx fs, H b = some (.ins C dx fs) := by
  obtain ⟨ts, e, _⟩ := h.pend
  intro b hb
  simp only [Dk.own, List.mem_cons, List.not_mem_nil, or_false] at hb
  rcases hb with rfl | rfl | rfl | rfl
  · exact .inr ⟨_, _, _, h.ins⟩
  · exact .inl ⟨_, h.cs_⟩
  · exact .inl ⟨_, h.ls_⟩
  · exact .inl ⟨_, e⟩
theorem tabN_own {H H' : Hp} {P : Addr} {S : List Addr} {nm : Nat → Nat → Str} (t : TabN H P nm) (f : Fr S H H') (hr : ∀ b ∈ S, (∃ xs, H b = some (.lst xs)) ∨ ∃ C dx fs, H b = some (.ins C dx fs)) : TabN H' P nm := by
  obtain ⟨ps, h1, h2, h3⟩ := t
  refine ⟨ps, f _ _ h1 (fun z => ?_), h2, fun pos cv hc => ?_⟩
  · rcases hr _ z with ⟨xs, e⟩ | ⟨C, dx, fs, e⟩
    · rw [e] at h1; cases h1
    · rw [e] at h1; cases h1
  · obtain ⟨c, e1, e2⟩ := h3 pos cv hc
    refine ⟨c, e1, f _ _ e2 (fun z => ?_)⟩
    unfold CodeO at e2
    rcases hr _ z with ⟨xs, e⟩ | ⟨C, dx, fs, e⟩
    · rw [e] at e2; cases e2
    · rw [e] at e2; cases e2
end
/-! ### the law -/
def spLaw (K : PySem.W.Frag) (P : Addr) : Sp := fun vs H Q _ => ∃ (a : Addr) (ns : List Int), vs = [.ref a] ∧ SqL K H a (ns.map V.int) ∧ ns.length ≤ 63 ∧ H P = some (.tbl #[]) ∧ ∀ H', Q (.bl true) H'
section
open LamX NdefX
variable {P : Program} {w : World} {K : PySem.W.Frag} {mg : Str → Option Value} {base : Heap}
theorem ok_law {oc : Value} {od an : Option Addr} {kV dc pm ct : Value} {osl : Array (Option Value)} {f cd Pt : Addr} (T : Gx K mg) (HP : ProgOk P T.file) (lk : K.lookup f = some ⟨oc, od, .func (PySem.W.fnOf "law" "law" (defArgs s_law) (defBody s_law) (defScope s_law) .none kV dc pm an (.ref cd) ct), osl⟩)
    (hcd : PySem.W.codeIn K (.ref cd) "law" = true) (TB : TabB base mg cd Pt) : FnOk P w K mg base C8.CX0 14 f (PySem.W.fnOf "law" "law" (defArgs s_law) (defBody s_law) (defScope s_law) .none kV dc pm an (.ref cd) ct) ["_law_script"] (spLaw K Pt) := by
  have G__law_random : FnOk P w K mg base CX0 1 T.f__law_random T.fd__law_random ["_law_script", "_law_salt"] (spRandom K) := ok_random T
  have G__law_below : FnOk P w K mg base CX0 1 T.f__law_below T.fd__law_below ["_law_d", "_law_limit"] spBelow := ok_below T
  have G_Disk___init__ : FnOk P w K mg base CX0 3 T.f_Disk___init__ T.fd_Disk___init__ ["self", "cells", "content"] (spInit T.C_Disk) := ok_init T
  have G_Disk_write : FnOk P w K mg base CX0 4 T.f_Disk_write T.fd_Disk_write ["self", "cell", "content"] (spWrite T.C_Disk) := ok_write T
  have G_Disk_contents : FnOk P w K mg base CX0 1 T.f_Disk_contents T.fd_Disk_contents ["self"] (spContents T.C_Disk) := ok_contents T
  have G_Disk_lasting : FnOk P w K mg base CX0 1 T.f_Disk_lasting T.fd_Disk_lasting ["self"] (spLasting T.C_Disk) := ok_lasting T
  have G_Disk_pending : FnOk P w K mg base CX0 1 T.f_Disk_pending T.fd_Disk_pending ["self"] (spPending T.C_Disk) := ok_pending T
  have G_Disk_counts : FnOk P w K mg base CX0 1 T.f_Disk_counts T.fd_Disk_counts ["self"] (spCounts T.C_Disk) := ok_counts T
  have GE : FnS P w K mg base C8.CX0 10 T.f__law_error_of ["_law_call"] (spErr P w base T) := ok_errorOf T
  have GA : FnS P w K mg base C8.CX0 12 T.f__law_all_raise ["_law_calls", "_law_expected"] (spAll P w T) := ok_all T
  obtain ⟨ds, rd, bI⟩ := T.F_Disk___init__.binds0 (ps := ["self", "cells", "content"]) 2 (by simp) rfl (fun D doc pm an cdv ct us ks hu hk => match us, hu, ks, hk with
    | [_, _], _, [_], _ => ⟨_, _, _, _, _, _, rfl, rfl, rfl⟩)
  refine fn_of lk hcd sc_law (fun vs H Q E h => ?_) (fun A outer s H vs Q E hr h => ?_)
  · obtain ⟨a, ns, rfl, _⟩ := h
    rfl
  · obtain ⟨a, ns, rfl, hS, hlen, hP, k⟩ := h
    refine ⟨_, (pss_cons (ps_set (i := 1) sc_law.nd rfl (.inl rfl) (pe_call G__law_random (hr.mono (by first | decide | omega)) (by rfl) T.g__law_random T.F__law_random.kp (b__law_random T) .nil pass0 (pa_cons (pv 0) (pa_cons pe_int pa_nil))))
      (pss_cons (ps_set (i := 2) sc_law.nd rfl (.inl rfl) (pe_op op_mul (pe_call G__law_below (hr.mono (by first | decide | omega)) (by rfl) T.g__law_below T.F__law_below.kp (b__law_below T) .nil pass0 (pa_cons (pv 1) (pa_cons pe_int pa_nil))) (pe_call G__law_below (hr.mono (by first | decide | omega)) (by rfl) T.g__law_below T.F__law_below.kp (b__law_below T) .nil pass0 (pa_cons (pv 1) (pa_cons pe_int pa_nil)))))
      (C8.pss_cut (ps_set (i := 10) sc_law.nd rfl (.inr rfl) (pe_ix ix_list (pe_lst (pa_cons pe_int (pa_cons pe_int (pa_cons (pe_op op_add pe_int (pv 2)) (pa_cons (pe_op op_sub pe_int (pv 2)) (pa_cons pe_non (pa_cons pe_bl (pa_cons pe_str (pa_cons (pe_tup (pa_cons pe_int pa_nil)) pa_nil))))))))) (pe_call G__law_below (hr.mono (by first | decide | omega)) (by rfl) T.g__law_below T.F__law_below.kp (b__law_below T) .nil pass0 (pa_cons (pv 1) (pa_cons pe_int pa_nil))) (fun _ _ => rfl)))
      (C8.pss_cut (ps_if (PW.pt (pw_or (pt_cmpR (op_neD hr.units) (pe_callS GE (hr.mono (by first | decide | omega)) (by rfl) T.g__law_error_of T.F__law_error_of.kp (C8.pass0 (E := C8.E0)) (pa_cons (pe_lamV TB rfl (hmL Pt) rfl (huL Pt) cap1 rfl (.inl ⟨rfl, rfl⟩)) pa_nil)) (pe_tup (pa_cons pe_str (pa_cons pe_int pa_nil))) (nomark _)) (pw_or1 (pt_cmpR (op_neD hr.units) (pe_prop (pe_make T.M_Disk___init__ G_Disk___init__ (hr.mono (by first | decide | omega)) (by rfl) T.gC_Disk bI rd pass0 (pa_cons pe_int pa_nil)) T.cl_Disk T.P_Disk_contents G_Disk_contents (hr.mono (by first | decide | omega)) (b_Disk_contents T) .nil pass0 rfl) (pe_op op_repT (pe_tup (pa_cons pe_int pa_nil)) pe_int) (nomark _))))) (pss_one (ps_ret pe_bl)) pss_nil)
      (pss_cons (ps_set (i := 3) sc_law.nd rfl (.inl rfl) (pe_op op_add pe_int (pe_call G__law_below (hr.mono (by first | decide | omega)) (by rfl) T.g__law_below T.F__law_below.kp (b__law_below T) .nil pass0 (pa_cons (pv 1) (pa_cons pe_int pa_nil)))))
      (C8.pss_cut (ps_asg (pe_tup (pa_cons (pe_make T.M_Disk___init__ G_Disk___init__ (hr.mono (by first | decide | omega)) (by rfl) T.gC_Disk bI rd pass0 (pa_cons (pv 3) pa_nil)) (pa_cons (pe_ix ix_list (pe_lst (pa_cons (pe_op op_sub (pe_op op_sub pe_int pe_int) (pv 2)) (pa_cons (pe_op op_add (pv 3) (pv 2)) (pa_cons pe_non (pa_cons pe_bl (pa_cons pe_str (pa_cons (pe_tup (pa_cons pe_int pa_nil)) pa_nil))))))) (pe_call G__law_below (hr.mono (by first | decide | omega)) (by rfl) T.g__law_below T.F__law_below.kp (b__law_below T) .nil pass0 (pa_cons (pv 1) (pa_cons pe_int pa_nil))) (fun _ _ => rfl)) pa_nil))) (pg_tup (by rfl) (pgs_cons (pg_name (i := 8) sc_law.nd rfl (.inr rfl)) (pgs_cons (pg_name (i := 7) sc_law.nd rfl (.inr rfl)) pgs_nil))))
      (C8.pss_cut (ps_for PassesOwn.leaving rfl (pi_range1 (by rfl) T.z_range (pa_cons pe_int pa_nil)) (pg_name (i := 4) sc_law.nd rfl (.inl rfl)) (pss_one (ps_expr (pe_meth (pv 8) T.cl_Disk T.m_Disk_write G_Disk_write (hr.mono (by first | decide | omega)) (b_Disk_write T) .nil pass0 (pa_cons (pe_call G__law_below (hr.mono (by first | decide | omega)) (by rfl) T.g__law_below T.F__law_below.kp (b__law_below T) .nil pass0 (pa_cons (pv 1) (pa_cons (pv 3) pa_nil))) (pa_cons (pv 4) pa_nil))))))
      (C8.pss_cut (ps_set (i := 5) sc_law.nd rfl (.inl rfl) (pe_lst (pa_cons (pe_prop (pv 8) T.cl_Disk T.P_Disk_contents G_Disk_contents (hr.mono (by first | decide | omega)) (b_Disk_contents T) .nil pass0 rfl) (pa_cons (pe_prop (pv 8) T.cl_Disk T.P_Disk_lasting G_Disk_lasting (hr.mono (by first | decide | omega)) (b_Disk_lasting T) .nil pass0 rfl) (pa_cons (pe_prop (pv 8) T.cl_Disk T.P_Disk_pending G_Disk_pending (hr.mono (by first | decide | omega)) (b_Disk_pending T) .nil pass0 rfl) (pa_cons (pe_prop (pv 8) T.cl_Disk T.P_Disk_counts G_Disk_counts (hr.mono (by first | decide | omega)) (b_Disk_counts T) .nil pass0 rfl) pa_nil))))))
      (C8.pss_cut (ps_set (i := 6) sc_law.nd rfl (.inl rfl) (pe_lst (pa_cons (pe_lamV TB rfl (hmL Pt) rfl (huL Pt) cap2 rfl (.inl ⟨rfl, rfl⟩)) (pa_cons (pe_lamV TB rfl (hmL Pt) rfl (huL Pt) cap3 rfl (.inr ⟨.Constant (.int 0) 0 _, rfl, rfl, pe_int⟩)) pa_nil))))
      (C8.pss_cut (ps_if (pt_not (pt_val (pe_callS GA (hr.mono (by first | decide | omega)) (by rfl) T.g__law_all_raise T.F__law_all_raise.kp (C8.pass0 (E := C8.E0)) (pa_cons (pv 6) (pa_cons (pe_tup (pa_cons pe_str (pa_cons pe_int pa_nil))) pa_nil))))) (pss_one (ps_ret pe_bl)) pss_nil)
      (C8.pss_cut (ps_set (i := 9) sc_law.nd rfl (.inr rfl) (pe_ix ix_list (pe_lst (pa_cons (pe_lst (pa_cons pe_int pa_nil)) (pa_cons pe_non (pa_cons pe_int (pa_cons (pe_tup (pa_cons pe_int (pa_cons pe_int pa_nil))) (pa_cons (pe_tup (pa_cons pe_int (pa_cons pe_int pa_nil))) (pa_cons (pe_tup (pa_cons pe_int pa_nil)) (pa_cons (pe_tup (pa_cons (pe_op op_add pe_int (pv 2)) pa_nil)) (pa_cons (pe_tup (pa_cons (pe_op op_sub pe_int pe_int) pa_nil)) (pa_cons (pe_tup (pa_cons pe_bl pa_nil)) (pa_cons (pe_tup (pa_cons pe_int (pa_cons pe_non pa_nil))) (pa_cons (pe_tup (pa_cons pe_str pa_nil)) pa_nil)))))))))))) (pe_call G__law_below (hr.mono (by first | decide | omega)) (by rfl) T.g__law_below T.F__law_below.kp (b__law_below T) .nil pass0 (pa_cons (pv 1) (pa_cons pe_int pa_nil))) (fun _ _ => rfl)))
      (C8.pss_cut (ps_if (pt_cmpR (op_neD hr.units) (pe_callS GE (hr.mono (by first | decide | omega)) (by rfl) T.g__law_error_of T.F__law_error_of.kp (C8.pass0 (E := C8.E0)) (pa_cons (pe_lamV TB rfl (hmL Pt) rfl (huL Pt) cap4 rfl (.inr ⟨.Constant (.int 0) 0 _, rfl, rfl, pe_int⟩)) pa_nil)) (pe_tup (pa_cons pe_str (pa_cons pe_int pa_nil))) (nomark _)) (pss_one (ps_ret pe_bl)) pss_nil)
      (pss_one (ps_ret (pe_cmpR (op_eqD hr.units) (pe_lst (pa_cons (pe_prop (pv 8) T.cl_Disk T.P_Disk_contents G_Disk_contents (hr.mono (by first | decide | omega)) (b_Disk_contents T) .nil pass0 rfl) (pa_cons (pe_prop (pv 8) T.cl_Disk T.P_Disk_lasting G_Disk_lasting (hr.mono (by first | decide | omega)) (b_Disk_lasting T) .nil pass0 rfl) (pa_cons (pe_prop (pv 8) T.cl_Disk T.P_Disk_pending G_Disk_pending (hr.mono (by first | decide | omega)) (b_Disk_pending T) .nil pass0 rfl) (pa_cons (pe_prop (pv 8) T.cl_Disk T.P_Disk_counts G_Disk_counts (hr.mono (by first | decide | omega)) (b_Disk_counts T) .nil pass0 rfl) pa_nil))))) (pv 5) (nomark _)))))))))))))))), ?_⟩
    refine ⟨_, rfl, a, 3, ns, rfl, hS, hlen, fun r H1 r0 f1 R1 => ?_⟩
    have W1 : Wd Pt r H1 := ⟨R1, fun p hp => by rw [List.mem_singleton.mp hp]; exact TabN.nil (f1 _ _ hP (by simp))⟩
    -- far
    refine ⟨_, rfl, r, 2, rfl, W1.rnd, by decide, by decide, fun z1 H2 hz1 f2 R2 => ?_⟩
    have W2 := W1.draw f2 R2
    refine ⟨_, rfl, r, 999, rfl, W2.rnd, by decide, by decide, fun z2 H3 hz2 f3 R3 => ?_⟩
    have W3 := W2.draw f3 R3
    refine ⟨_, _, rfl, rfl, .inr ⟨by omega, by omega⟩, ?_⟩
    obtain ⟨far, hfar⟩ : ∃ far : Nat, ((z1 : Int) * (z2 : Int)) = (far : Int) := ⟨z1 * z2, by push_cast; rfl⟩
    have ev : (fun i j : Int => V.int (i * j)) (z1 : Int) (z2 : Int) = V.int (far : Int) := by
      show V.int _ = _
      rw [hfar]
    rw [ev]
    clear ev
    clear W1 W2 R1 R2 R3 f1 f2 f3 hfar hz1 hz2 z1 z2
    -- size
    refine ⟨fun σ' H' => ∃ v : V, σ' = [some (.ref a), some (.ref r), some (.int (far : Int)), none, none, none, none, none, none, none, some v] ∧ Wd Pt r H' ∧ NoNum H' 1 64 v, ?_, ?_⟩
    · refine ⟨_, rfl, _, _, rfl, rfl, _, rfl, _, _, rfl, rfl, sz_le (by simp), fun q hq => ?_⟩
      have W4 := W3.new (o := .tup [.int 2]) hq
      refine ⟨sz_le (by simp), fun g hg => ?_⟩
      have W5 := W4.new (o := .lst [.int 0, .int 65, .int (65 + (far : Int)), .int (0 - (far : Int)), .non, .bl true, .str "3", .ref q]) hg
      refine ⟨_, rfl, r, 8, rfl, W5.rnd, by decide, by decide, fun z H6 hz f6 R6 => ?_⟩
      have eq6 : H6 q = some (.tup [.int 2]) := f6 _ _ ((upd_ne (free_upd hg).2.symm).trans upd_same) (by simpa using W3.out hq)
      obtain ⟨v, hv, nn⟩ := size_at (far := far) eq6 hz
      refine ⟨g, _, (z : Int), v, rfl, rfl, SqL.of (f6 _ _ upd_same (by simpa using W4.out hg)), hv, ?_⟩
      exact ⟨v, rfl, W5.draw f6 R6, nn⟩
    clear W3
    rintro _ HA ⟨v, rfl, WA, nn⟩
    -- the first question, and a disk of 64 cells
    refine ⟨fun σ' H' => ∃ v10 : Option V, σ' = [some (.ref a), some (.ref r), some (.int (far : Int)), none, none, none, none, none, none, none, v10] ∧ Wd Pt r H', ?_, ?_⟩
    · refine ⟨WA.tab, fun fl F HB q1 q2 q3 q4 q5 q6 eN TB' hf L pins s1 I => ?_⟩
      refine ⟨fl, F, ["_law_size"], [some v], lpS T, rfl, lok_size T q3 q4 q2 q6, Act.made (js := [10]) (fun _ => rfl) I L (by rw [q5]; exact Caps.made I.ok cap1 free1 rfl), fun Q' E' hq he => ?_⟩
      refine ⟨v, rfl, nn.keepN eN, fun HC fC => he _ _ _ (.inl ⟨rfl, ⟨[], rfl⟩, fun u HD hu fD eu => ?_⟩)⟩
      have WD := ((WA.lam eN TB').keep0 fC).keep0 fD
      refine ⟨sz_le (by simp), fun u2 hu2 => ?_⟩
      have WE := WD.new (o := .tup [.str "size", .int 0]) hu2
      refine ⟨.tuple [.str "size", .int 0], .tuple [.str "size", .int 0], .tup (SqT.of ((Fr.new (S := []) hu2) _ _ eu (by simp))) (.cons (.str _) (.cons (.int _) .nil)), .tup (SqT.of upd_same) (.cons (.str _) (.cons (.int _) .nil)), by decide +kernel, by decide +kernel, _, rfl, ?_⟩
      refine iteFb (by decide +kernel) ?_
      -- Disk(64)
      refine fun x dx hx hdx hne => ⟨x, dx, 64, .int 0, rfl, by decide, by decide, upd_same, fun D HE eD fE hD n1 n2 n3 => ⟨rfl, D.p, D.dx, _, by rw [eD], hD.ins, D, _, _, [], _, _, _, rfl, hD, fun t ht => ?_⟩⟩
      have WF := (WE.keep0 (made_fr hx hdx fE)).new (o := .tup (List.replicate 64 (.int 0))) ht
      refine ⟨sz_le (by simp), fun p hp => ?_⟩
      refine ⟨p, 64, [.int 0], rfl, rfl, SqT.of upd_same, by simp, by decide, by decide, by simp, fun q hq => ?_⟩
      have F2 := (Fr.new (S := []) (o := .tup [.int 0]) hp).trans (Fr.new (o := .tup (List.replicate (Int.toNat 64) [V.int 0]).flatten) hq)
      refine ⟨.tuple ((List.replicate 64 (V.int 0)).map toD), .tuple ((List.replicate 64 (V.int 0)).map toD), .tup (SqT.of (F2 _ _ upd_same (by simp))) (dpAll_flat (AllF.rep 64 rfl)), .tup (SqT.of (by rw [upd_same]; exact congrArg (fun l => some (HO.tup l)) (rep_flat 64 _))) (dpAll_flat (AllF.rep 64 rfl)), shaped_tup _, shaped_tup _, _, rfl, ?_⟩
      rw [eqv_tup]
      exact iteF ⟨_, rfl, WF.keep0 F2⟩
    clear WA nn
    rintro _ HB ⟨v10, rfl, WB⟩
    -- cells
    refine ⟨_, rfl, r, 9, rfl, WB.rnd, by decide, by decide, fun z HC hz fC RC => ?_⟩
    have WC := WB.draw fC RC
    refine ⟨_, _, rfl, rfl, ?_⟩
    obtain ⟨n, hn, hn1, hn9⟩ : ∃ n : Nat, 1 + (z : Int) = (n : Int) ∧ 1 ≤ n ∧ n ≤ 9 := ⟨z + 1, by omega, by omega, by omega⟩
    have ev : (fun i j : Int => V.int (i + j)) 1 (z : Int) = V.int (n : Int) := by
      show V.int _ = _
      rw [hn]
    rw [ev]
    clear ev hn hz
    -- disk, cell
    refine ⟨fun σ' H' => ∃ (D : Dk) (v : V), σ' = [some (.ref a), some (.ref r), some (.int (far : Int)), some (.int (n : Int)), none, none, none, some v, some (.ref D.p), none, v10] ∧ Wd Pt r H' ∧ DiskAt T.C_Disk H' D (List.replicate n (.int 0)) (List.replicate n (.int 0)) [] 0 0 0 ∧ r ∉ D.own ∧ NoNum H' 0 ((n : Int) - 1) v, ?_, ?_⟩
    · refine ⟨_, rfl, fun x dx hx hdx hne => ⟨x, dx, n, .int 0, rfl, hn1, by omega, upd_same, fun D HE eD fE hD n1 n2 n3 => ⟨rfl, ?_⟩⟩⟩
      have WE := WC.keep0 (made_fr hx hdx fE)
      obtain ⟨o, er⟩ := WC.rnd.some
      have nD : r ∉ D.own := out_of_new er (fun b hb => by
        simp only [Dk.own, List.mem_cons, List.not_mem_nil, or_false] at hb
        rcases hb with e | e | e | e
        · rw [e, eD]; exact hx
        · rw [e]; exact made_none n1
        · rw [e]; exact made_none n2
        · rw [e]; exact made_none n3)
      refine ⟨_, _, rfl, rfl, _, rfl, _, _, rfl, rfl, _, rfl, _, rfl, _, _, rfl, rfl, sz_le (by simp), fun q hq => ?_⟩
      have WF := WE.new (o := .tup [.int 0]) hq
      refine ⟨sz_le (by simp), fun g hg => ?_⟩
      have WG := WF.new (o := .lst [.int (0 - 1 - (far : Int)), .int ((n : Int) + (far : Int)), .non, .bl true, .str "0", .ref q]) hg
      have hD2 := (hD.new (o := .tup [.int 0]) hq).new (o := .lst [.int (0 - 1 - (far : Int)), .int ((n : Int) + (far : Int)), .non, .bl true, .str "0", .ref q]) hg
      refine ⟨_, rfl, r, 6, rfl, WG.rnd, by decide, by decide, fun z H6 hz f6 R6 => ?_⟩
      have eq6 : H6 q = some (.tup [.int 0]) := f6 _ _ ((upd_ne (free_upd hg).2.symm).trans upd_same) (by simpa using WE.out hq)
      obtain ⟨v, hv, nn⟩ := cell_at (far := far) (n := n) eq6 hz
      refine ⟨g, _, (z : Int), v, rfl, rfl, SqL.of (f6 _ _ upd_same (by simpa using WF.out hg)), hv, ?_⟩
      refine ⟨sz_le (by simp), fun t ht => ?_⟩
      refine ⟨t, _, rfl, SqT.of upd_same, rfl, ?_⟩
      have ft : Fr [] H6 (upd H6 t (.tup [.ref x, v])) := Fr.new ht
      refine ⟨_, _, rfl, ⟨_, _, rfl, ?_⟩⟩
      exact ⟨rfl, D, v, by rw [eD]; rfl, (WG.draw f6 R6).keep0 ft, (hD2.draw WG.rnd nD f6).keep0 ft, nD, nn.keep0 ft⟩
    clear WB WC RC fC
    rintro _ HD ⟨D, v, rfl, WD, hD, nD, nn⟩
    -- three writes
    refine ⟨fun σ' H' => ∃ (cs : List V) (ps : List (Nat × V)) (v4 : Option V), σ' = [some (.ref a), some (.ref r), some (.int (far : Int)), some (.int (n : Int)), v4, none, none, some v, some (.ref D.p), none, v10] ∧ Wd Pt r H' ∧ DiskAt T.C_Disk H' D cs (List.replicate n (.int 0)) ps 0 3 0 ∧ NoNum H' 0 ((n : Int) - 1) v ∧ cs.length = n ∧ ps.length = 3 ∧ AllF cs ∧ ∀ q ∈ ps, isF q.2 = true, ?_, ?_⟩
    · refine ⟨3, rfl, by decide, by decide, for_range (lo := 0) (n := 3) (fun i σ' H' => ∃ (cs : List V) (ps : List (Nat × V)) (v4 : Option V), σ' = [some (.ref a), some (.ref r), some (.int (far : Int)), some (.int (n : Int)), v4, none, none, some v, some (.ref D.p), none, v10] ∧ Wd Pt r H' ∧ DiskAt T.C_Disk H' D cs (List.replicate n (.int 0)) ps 0 (i : Nat) 0 ∧ NoNum H' 0 ((n : Int) - 1) v ∧ cs.length = n ∧ ps.length = i ∧ AllF cs ∧ ∀ q ∈ ps, isF q.2 = true)
        ⟨_, _, _, rfl, WD, hD, nn, by simp, rfl, AllF.rep n rfl, fun q hq => by cases hq⟩ ?_ ?_⟩
      · rintro i σ' H1 hi ⟨cs, ps, v4, rfl, W1, hD1, nn1, hc, hp, fc, fp⟩
        refine ⟨_, rfl, D.p, D.dx, _, rfl, hD1.ins, dF_no_write, _, rfl, _, rfl, r, n, rfl, W1.rnd, by omega, by omega, fun z H2 hz f2 R2 => ?_⟩
        have W2 := W1.draw f2 R2
        have hD2 := hD1.draw W1.rnd nD f2
        have nn2 : NoNum H2 0 ((n : Int) - 1) v := nn1.ext fun b xs e => f2 _ _ e fun hb => W1.rnd.notup b hb _ e
        refine ⟨_, rfl, D, cs, _, ps, _, _, _, z, .int (0 + (i : Int)), rfl, hD2, by omega, by omega, fun H3 f3 hD3 => ?_⟩
        have R3 : Rnd H3 r := W2.rnd.keep f3 nD
        refine ⟨_, _, _, rfl, ⟨R3, fun p hp => ?_⟩, hD3, nn2.ext fun b xs e => f3 _ _ e fun hb => hD2.notup b hb _ e, by rw [List.length_set]; exact hc, by rw [List.length_append, hp]; rfl, fc.set rfl z, fun q hq => ?_⟩
        · exact tabN_own (W2.tab p hp) f3 hD2.kinds
        · rcases List.mem_append.mp hq with e | e
          · exact fp q e
          · rw [List.mem_singleton.mp e]
            rfl
      · rintro σ' H1 ⟨cs, ps, v4, rfl, W1, hD1, nn1, hc, hp, fc, fp⟩
        exact ⟨cs, ps, v4, rfl, W1, hD1, nn1, hc, hp, fc, fp⟩
    clear WD hD nn
    rintro _ HE ⟨cs, ps, v4, rfl, WE, hD, nn, hc, hp, fc, fp⟩
    -- before
    refine ⟨fun σ' H' => ∃ lb : Addr, σ' = [some (.ref a), some (.ref r), some (.int (far : Int)), some (.int (n : Int)), v4, some (.ref lb), none, some v, some (.ref D.p), none, v10] ∧ Wd Pt r H' ∧ DiskAt T.C_Disk H' D cs (List.replicate n (.int 0)) ps 0 3 0 ∧ NoNum H' 0 ((n : Int) - 1) v ∧ Bef K H' r lb cs (List.replicate n (.int 0)) ps 0 3 0, ?_, ?_⟩
    · refine ⟨_, rfl, D.p, D.dx, _, rfl, hD.ins, D, _, _, ps, _, _, _, rfl, hD, fun t1 ht1 => ?_⟩
      have hD1 := hD.new (o := .tup cs) ht1
      refine ⟨_, rfl, D.p, D.dx, _, rfl, hD1.ins, D, _, _, ps, _, _, _, rfl, hD1, fun t2 ht2 => ?_⟩
      have hD2 := hD1.new (o := .tup (List.replicate n (.int 0))) ht2
      refine ⟨_, rfl, D.p, D.dx, _, rfl, hD2.ins, D, _, _, ps, _, _, _, rfl, hD2, fun t3 ts3 ht3 pn3 => ?_⟩
      have hD3 := hD2.new (o := .lst (ts3.map V.ref)) ht3
      refine ⟨_, rfl, D.p, D.dx, _, rfl, hD3.ins, D, _, _, ps, _, _, _, rfl, hD3, fun t4 ht4 => ?_⟩
      have hD4 := hD3.new (o := .tup [.int 0, .int 3, .int 0]) ht4
      refine ⟨sz_le (by simp), fun lb hlb => ?_⟩
      have F5 := Fr.new (S := []) (o := .lst [.ref t1, .ref t2, .ref t3, .ref t4]) hlb
      have F4 := (Fr.new (S := []) (o := .tup [.int 0, .int 3, .int 0]) ht4).trans F5
      have F3 := (Fr.new (S := []) (o := .lst (ts3.map V.ref)) ht3).trans F4
      have F2 := (Fr.new (S := []) (o := .tup (List.replicate n (.int 0))) ht2).trans F3
      have F1 := (Fr.new (S := []) (o := .tup cs) ht1).trans F2
      have n3 : t3 ≠ r := ((WE.new ht1).new ht2).out ht3
      have nb : lb ≠ r := ((((WE.new ht1).new ht2).new ht3).new ht4).out hlb
      exact ⟨lb, rfl, WE.keep0 F1, hD4.keep0 F5, nn.keep0 F1, ⟨⟨t1, t2, t3, t4, ts3, upd_same, F2 _ _ upd_same (by simp), F3 _ _ upd_same (by simp), F4 _ _ upd_same (by simp), n3, pn3.keep F3 (by simp), F5 _ _ upd_same (by simp)⟩, nb⟩⟩
    clear WE hD nn
    rintro _ HF ⟨lb, rfl, WF, hD, nn, bF⟩
    -- calls
    refine ⟨fun σ' H' => ∃ (lc c1 c2 : Addr), σ' = [some (.ref a), some (.ref r), some (.int (far : Int)), some (.int (n : Int)), v4, some (.ref lb), some (.ref lc), some v, some (.ref D.p), none, v10] ∧ Wd Pt r H' ∧ DiskAt T.C_Disk H' D cs (List.replicate n (.int 0)) ps 0 3 0 ∧ NoNum H' 0 ((n : Int) - 1) v ∧ Bef K H' r lb cs (List.replicate n (.int 0)) ps 0 3 0 ∧ H' lc = some (.lst [.ref c1, .ref c2]) ∧
        (∃ F : LF, Lv c1 F H' ∧ F.cl = cloFrom (PyProof.Rows.envOfC "law" (defScope s_law) s.heap.objs.size f (.ref cd)).cells (lamS lam2).names [] ∧ ∀ b2, LOk P w K mg b2 (L2N.CX P w) 8 c1 F ["_law_disk", "_law_cell"] (lpC T)) ∧
        (∃ F : LF, Lv c2 F H' ∧ F.cl = cloFrom (PyProof.Rows.envOfC "law" (defScope s_law) s.heap.objs.size f (.ref cd)).cells (lamS lam3).names [] ∧ ∀ b2, LOk P w K mg b2 (L2N.CX P w) 8 c2 F ["_law_disk", "_law_cell"] (lpC T)), ?_, ?_⟩
    · refine ⟨WF.tab, fun c1 F1 H1 q1 q2 q3 q4 q5 q6 eN1 TB1 hf1 L1 => ⟨TB1, fun c2 F2 H2 p1 p2 p3 p4 p5 p6 eN2 TB2 hf2 L2 => ⟨sz_le (by simp), fun lc hlc => ?_⟩⟩⟩
      have fl : Fr [] H2 (upd H2 lc (.lst [.ref c1, .ref c2])) := Fr.new hlc
      exact ⟨lc, c1, c2, rfl, ((WF.lam eN1 TB1).lam eN2 TB2).keep0 fl, ((hD.keepN eN1).keepN eN2).keep0 fl, ((nn.keepN eN1).keepN eN2).keep0 fl, ((bF.keepN eN1).keepN eN2).keep fl (by simp) (by simp), upd_same,
        ⟨F1, (L1.keep fun b o e _ nt _ => eN2 b o e nt).fr fl, q5, fun b2 => lok_read T q3 q4 q2 q6⟩, ⟨F2, L2.fr fl, p5, fun b2 => lok_write T p3 p4 p2 p6⟩⟩
    clear WF hD nn bF
    rintro _ HG ⟨lc, c1, c2, rfl, WG, hD, nn, bG, ec, ⟨F1, L1, k1, o1⟩, ⟨F2, L2, k2, o2⟩⟩
    -- the second question
    refine ⟨fun σ' H' => ∃ (v6 v7 : Option V), σ' = [some (.ref a), some (.ref r), some (.int (far : Int)), some (.int (n : Int)), v4, some (.ref lb), v6, v7, some (.ref D.p), none, v10] ∧ Wd Pt r H' ∧ DiskAt T.C_Disk H' D cs (List.replicate n (.int 0)) ps 0 3 0 ∧ Bef K H' r lb cs (List.replicate n (.int 0)) ps 0 3 0, ?_, ?_⟩
    · refine ⟨_, rfl, sz_le (by simp), fun e he pins s1 I => ?_⟩
      have fe : Fr [] HG (upd HG e (.tup [.str "cell", .int 0])) := Fr.new he
      have lp : ∀ H', Fr [] (upd HG e (.tup [.str "cell", .int 0])) H' → ∀ (Q' : VK) (E' : XK), (∀ H'', Fr [] H' H'' → E' (.ref T.C_InvalidCell) none H'') → lpC T [some (.ref D.p), some v] H' Q' E' := fun H' f' Q' E' hE =>
        ⟨D, cs, _, ps, _, _, _, v, rfl, (hD.keep0 fe).keep0 f', by rw [hc]; exact (nn.keep0 fe).keep0 f', hE _ (Fr.refl _ _)⟩
      refine ⟨lc, e, [c1, c2], rfl, fe _ _ ec (by simp), by simp, upd_same, fun c hcm => ?_, fun H' f' => ?_⟩
      · rcases List.mem_cons.mp hcm with rfl | hcm
        · exact ⟨F1, ["_law_disk", "_law_cell"], [some (.ref D.p), some v], lpC T, o1, Act.made (js := [8, 7]) (fun _ => rfl) I (L1.fr fe) (by rw [k1]; exact Caps.made I.ok cap2 free2 rfl), lp⟩
        · rw [List.mem_singleton.mp hcm]
          exact ⟨F2, ["_law_disk", "_law_cell"], [some (.ref D.p), some v], lpC T, o2, Act.made (js := [8, 7]) (fun _ => rfl) I (L2.fr fe) (by rw [k2]; exact Caps.made I.ok cap3 free3 rfl), lp⟩
      · have ff := fe.trans f'
        exact ⟨_, rfl, iteF ⟨_, _, rfl, WG.keep0 ff, hD.keep0 ff, bG.keep ff (by simp) (by simp)⟩⟩
    clear WG hD nn bG ec L1 L2 o1 o2 k1 k2
    clear F1 F2 c1 c2 lc
    rintro _ HH ⟨v6, v7, rfl, WH, hD, bH⟩
    -- kept
    refine ⟨fun σ' H' => ∃ kv : V, σ' = [some (.ref a), some (.ref r), some (.int (far : Int)), some (.int (n : Int)), v4, some (.ref lb), v6, v7, some (.ref D.p), some kv, v10] ∧ Wd Pt r H' ∧ DiskAt T.C_Disk H' D cs (List.replicate n (.int 0)) ps 0 3 0 ∧ Bef K H' r lb cs (List.replicate n (.int 0)) ps 0 3 0 ∧ BadK H' kv 3, ?_, ?_⟩
    · refine ⟨sz_le (by simp), fun l hl => ⟨sz_le (by simp), fun a1 h1 => ⟨sz_le (by simp), fun a2 h2 => ⟨sz_le (by simp), fun a3 h3 => ⟨_, rfl, _, _, rfl, rfl, sz_le (by simp), fun a4 h4 => ⟨_, _, rfl, rfl, sz_le (by simp), fun a5 h5 => ⟨sz_le (by simp), fun a6 h6 => ⟨sz_le (by simp), fun a7 h7 => ⟨sz_le (by simp), fun a8 h8 => ⟨sz_le (by simp), fun g hg => ?_⟩⟩⟩⟩⟩⟩⟩⟩⟩⟩
      have Fg := Fr.new (S := []) (o := .lst [.ref l, .non, .int 0, .ref a1, .ref a2, .ref a3, .ref a4, .ref a5, .ref a6, .ref a7, .ref a8]) hg
      have F8 := (Fr.new h8).trans Fg
      have F7 := (Fr.new h7).trans F8
      have F6 := (Fr.new h6).trans F7
      have F5 := (Fr.new h5).trans F6
      have F4 := (Fr.new h4).trans F5
      have F3 := (Fr.new h3).trans F4
      have F2 := (Fr.new h2).trans F3
      have F1 := (Fr.new h1).trans F2
      have F0 := (Fr.new hl).trans F1
      have W5 := WH.keep0 F0
      refine ⟨_, rfl, r, 11, rfl, W5.rnd, by decide, by decide, fun z H6 hz f6 R6 => ?_⟩
      have T6 : ∀ b xs, (upd _ g (.lst [.ref l, .non, .int 0, .ref a1, .ref a2, .ref a3, .ref a4, .ref a5, .ref a6, .ref a7, .ref a8])) b = some (.tup xs) → H6 b = some (.tup xs) := fun b xs e => f6 _ _ e fun hb => W5.rnd.notup b hb _ e
      obtain ⟨kv, hv, bk, _⟩ := kept_at (far := far) (f6 _ _ (F1 _ _ upd_same (by simp)) (by simpa using WH.out hl)) (T6 _ _ (F2 _ _ upd_same (by simp))) (T6 _ _ (F3 _ _ upd_same (by simp))) (T6 _ _ (F4 _ _ upd_same (by simp))) (T6 _ _ (F5 _ _ upd_same (by simp))) (T6 _ _ (F6 _ _ upd_same (by simp))) (T6 _ _ (F7 _ _ upd_same (by simp))) (T6 _ _ (F8 _ _ upd_same (by simp))) (T6 _ _ (Fg _ _ upd_same (by simp))) hz
      have gr : g ≠ r := by
        have W4 := WH.rnd
        intro e
        obtain ⟨c1, c2, ms, e2⟩ := (WH.keep0 (((((((((Fr.new (S := []) hl).trans (Fr.new h1)).trans (Fr.new h2)).trans (Fr.new h3)).trans (Fr.new h4)).trans (Fr.new h5)).trans (Fr.new h6)).trans (Fr.new h7)).trans (Fr.new h8))).rnd
        rw [e] at hg
        rw [e2] at hg
        cases hg
      refine ⟨g, _, (z : Int), kv, rfl, rfl, SqL.of (f6 _ _ upd_same (by simpa using gr)), hv, ?_⟩
      exact ⟨kv, rfl, W5.draw f6 R6, (hD.keep0 F0).draw W5.rnd nD f6, (bH.keep F0 (by simp) (by simp)).keep f6 (by simp) W5.rnd.notup, bk⟩
    clear WH hD bH
    rintro _ HI ⟨kv, rfl, WI, hD, bI2, bk⟩
    -- the third question
    refine ⟨fun σ' H' => ∃ (v9 : Option V), σ' = [some (.ref a), some (.ref r), some (.int (far : Int)), some (.int (n : Int)), v4, some (.ref lb), v6, v7, some (.ref D.p), v9, v10] ∧ Wd Pt r H' ∧ DiskAt T.C_Disk H' D cs (List.replicate n (.int 0)) ps 0 3 0 ∧ Bef K H' r lb cs (List.replicate n (.int 0)) ps 0 3 0, ?_, ?_⟩
    · refine ⟨WI.tab, fun fl F HB q1 q2 q3 q4 q5 q6 eN TB' hf L pins s1 I => ?_⟩
      refine ⟨fl, F, ["_law_disk", "_law_kept"], [some (.ref D.p), some kv], lpK T, rfl, lok_fail T q3 q4 q2 q6, Act.made (js := [8, 9]) (fun _ => rfl) I L (by rw [q5]; exact Caps.made I.ok cap4 free4 rfl), fun Q' E' hq he => ?_⟩
      refine ⟨D, cs, _, ps, _, _, _, kv, rfl, hD.keepN eN, ?_, he _ _ _ (.inr (.inr ⟨rfl, ⟨[], rfl⟩, fun u HD hu fD eu => ?_⟩))⟩
      · rw [hp]
        exact bk.ext (fun b xs e => eN _ _ e (fun _ z => by cases z)) fun b xs _ e => eN _ _ e (fun _ z => by cases z)
      refine ⟨sz_le (by simp), fun u2 hu2 => ?_⟩
      have ff := fD.trans (Fr.new (o := .tup [.str "kept", .int 0]) hu2)
      refine ⟨.tuple [.str "kept", .int 0], .tuple [.str "kept", .int 0], .tup (SqT.of ((Fr.new (S := []) hu2) _ _ eu (by simp))) (.cons (.str _) (.cons (.int _) .nil)), .tup (SqT.of upd_same) (.cons (.str _) (.cons (.int _) .nil)), by decide +kernel, by decide +kernel, _, rfl, ?_⟩
      refine iteFb (by decide +kernel) ?_
      exact ⟨_, rfl, (WI.lam eN TB').keep0 ff, (hD.keepN eN).keep0 ff, (bI2.keepN eN).keep ff (by simp) (by simp)⟩
    clear WI hD bI2 bk
    rintro _ HJ ⟨v9, rfl, WJ, hD, bJ⟩
    -- nothing has changed
    refine ⟨_, rfl, D.p, D.dx, _, rfl, hD.ins, D, _, _, ps, _, _, _, rfl, hD, fun t1 ht1 => ?_⟩
    have hD1 := hD.new (o := .tup cs) ht1
    refine ⟨_, rfl, D.p, D.dx, _, rfl, hD1.ins, D, _, _, ps, _, _, _, rfl, hD1, fun t2 ht2 => ?_⟩
    have hD2 := hD1.new (o := .tup (List.replicate n (.int 0))) ht2
    refine ⟨_, rfl, D.p, D.dx, _, rfl, hD2.ins, D, _, _, ps, _, _, _, rfl, hD2, fun t3 ts3 ht3 pn3 => ?_⟩
    have hD3 := hD2.new (o := .lst (ts3.map V.ref)) ht3
    refine ⟨_, rfl, D.p, D.dx, _, rfl, hD3.ins, D, _, _, ps, _, _, _, rfl, hD3, fun t4 ht4 => ?_⟩
    refine ⟨sz_le (by simp), fun l2 hl2 => ?_⟩
    have F5 := Fr.new (S := []) (o := .lst [.ref t1, .ref t2, .ref t3, .ref t4]) hl2
    have F4 := (Fr.new (S := []) (o := .tup [.int 0, .int 3, .int 0]) ht4).trans F5
    have F3 := (Fr.new (S := []) (o := .lst (ts3.map V.ref)) ht3).trans F4
    have F2 := (Fr.new (S := []) (o := .tup (List.replicate n (.int 0))) ht2).trans F3
    have F1 := (Fr.new (S := []) (o := .tup cs) ht1).trans F2
    have n3 : t3 ≠ r := ((WJ.new ht1).new ht2).out ht3
    have nb : l2 ≠ r := ((((WJ.new ht1).new ht2).new ht3).new ht4).out hl2
    have b2 : Bef K _ r l2 cs (List.replicate n (.int 0)) ps 0 3 0 := ⟨⟨t1, t2, t3, t4, ts3, upd_same, F2 _ _ upd_same (by simp), F3 _ _ upd_same (by simp), F4 _ _ upd_same (by simp), n3, pn3.keep F3 (by simp), F5 _ _ upd_same (by simp)⟩, nb⟩
    have b1 := bJ.keep F1 (by simp) (by simp)
    refine ⟨_, rfl, PD cs (List.replicate n (.int 0)) ps 0 3 0, PD cs (List.replicate n (.int 0)) ps 0 3 0, b2.dp fc (AllF.rep n rfl) fp, b1.dp fc (AllF.rep n rfl) fp, shaped_PD _ _ _ _ _ _, shaped_PD _ _ _ _ _ _, ?_⟩
    rw [eqv_PD]
    exact k _
end
open PySem.Spec PySem.Calls PySem.W PyProof.Rows LamX NdefX in
theorem all_mk {l : PySem.W.OpenLaw} {w : World} {K : PySem.W.Frag} {q : Program} {lo : List Str} {mean : ExcName → Option Value} {d : DefRec} {h : Heap} {mg mb : Str → Option Value} {fa C_Disk f_is_number f_is_number_from f_Disk___init__ D_Disk___init__ f_Disk_read f_Disk_write f_Disk_fail f_Disk_contents p_Disk_contents f_Disk_lasting p_Disk_lasting f_Disk_pending p_Disk_pending f_Disk_counts p_Disk_counts f_Disk__check_cell f_are_kept f__law_random f__law_below f__law_told_of f__law_error_of f__law_all_raise f_law cda_law P_law C_InvalidSize C_InvalidCell C_InvalidKept C_InvalidBlock C_InvalidValue C_InvalidCount C_InvalidSlot C_InvalidWord C_InvalidStory C_PowerOff C_PowerOn C_NoFastDisk C_HasFastDisk C_Unsettled C_Contradiction C_InvalidName C_UnknownName C_InvalidRules C_InvalidRecipes C_InvalidRequests C_InvalidPrices C_InvalidPlan C_PowerFailed C_InvalidOperation C_NotationError C_DecodeError C_PairError : Addr} (TT : Top q lo mean mg mb h) (X : K.In h) (hfa : mg "law" = some (.ref fa)) (nt : noTabs K = true) (hrec : (recsOf q).find? (fun e => e.name == ("law" : Str)) = some d)
    {od_is_number an_is_number od_is_number_from an_is_number_from od_Disk___init__ an_Disk___init__ od_Disk_read an_Disk_read od_Disk_write an_Disk_write od_Disk_fail an_Disk_fail od_Disk_contents an_Disk_contents od_Disk_lasting an_Disk_lasting od_Disk_pending an_Disk_pending od_Disk_counts an_Disk_counts od_Disk__check_cell an_Disk__check_cell od_are_kept an_are_kept od__law_random an__law_random od__law_below an__law_below od__law_told_of an__law_told_of od__law_error_of an__law_error_of od__law_all_raise an__law_all_raise od_law an_law cdd_law : Option Addr} {sl_is_number sl_is_number_from sl_Disk___init__ sl_Disk_read sl_Disk_write sl_Disk_fail sl_Disk_contents sl_Disk_lasting sl_Disk_pending sl_Disk_counts sl_Disk__check_cell sl_are_kept sl__law_random sl__law_below sl__law_told_of sl__law_error_of sl__law_all_raise sl_law csl_law : Array (Option Value)} {oc_is_number dc_is_number pm_is_number cd_is_number ct_is_number kV_is_number oc_is_number_from dc_is_number_from pm_is_number_from cd_is_number_from ct_is_number_from kV_is_number_from oc_Disk___init__ dc_Disk___init__ pm_Disk___init__ cd_Disk___init__ ct_Disk___init__ oc_Disk_read dc_Disk_read pm_Disk_read cd_Disk_read ct_Disk_read kV_Disk_read oc_Disk_write dc_Disk_write pm_Disk_write cd_Disk_write ct_Disk_write kV_Disk_write oc_Disk_fail dc_Disk_fail pm_Disk_fail cd_Disk_fail ct_Disk_fail kV_Disk_fail oc_Disk_contents dc_Disk_contents pm_Disk_contents cd_Disk_contents ct_Disk_contents kV_Disk_contents oc_Disk_lasting dc_Disk_lasting pm_Disk_lasting cd_Disk_lasting ct_Disk_lasting kV_Disk_lasting oc_Disk_pending dc_Disk_pending pm_Disk_pending cd_Disk_pending ct_Disk_pending kV_Disk_pending oc_Disk_counts dc_Disk_counts pm_Disk_counts cd_Disk_counts ct_Disk_counts kV_Disk_counts oc_Disk__check_cell dc_Disk__check_cell pm_Disk__check_cell cd_Disk__check_cell ct_Disk__check_cell kV_Disk__check_cell oc_are_kept dc_are_kept pm_are_kept cd_are_kept ct_are_kept kV_are_kept oc__law_random dc__law_random pm__law_random cd__law_random ct__law_random kV__law_random oc__law_below dc__law_below pm__law_below cd__law_below ct__law_below kV__law_below oc__law_told_of dc__law_told_of pm__law_told_of cd__law_told_of ct__law_told_of kV__law_told_of oc__law_error_of dc__law_error_of pm__law_error_of cd__law_error_of ct__law_error_of kV__law_error_of oc__law_all_raise dc__law_all_raise pm__law_all_raise cd__law_all_raise ct__law_all_raise kV__law_all_raise oc_law dc_law pm_law ct_law cl_law kV_law : Value} {t_MOST_CELLS : Tok}
    (aC_Disk : PySem.W.nsIn K mainGlobals "Disk" = some (some (.ref C_Disk)))
    (pg_Disk : PySem.W.plainGet K C_Disk Str.empty = true) (hd_Disk : PySem.W.hasDictIn K C_Disk = true) (po_Disk : PySem.W.plainOver K C_Disk = true) (sa_Disk : PySem.W.findIn K (.ref C_Disk) "__setattr__" = some (some (.builtin "object.__setattr__")))
    (n_Disk__contents : PySem.W.findIn K (.ref C_Disk) "_contents" = some none)
    (n_Disk__lasting : PySem.W.findIn K (.ref C_Disk) "_lasting" = some none)
    (n_Disk__pending : PySem.W.findIn K (.ref C_Disk) "_pending" = some none)
    (n_Disk__reads : PySem.W.findIn K (.ref C_Disk) "_reads" = some none)
    (n_Disk__writes : PySem.W.findIn K (.ref C_Disk) "_writes" = some none)
    (n_Disk__syncs : PySem.W.findIn K (.ref C_Disk) "_syncs" = some none)
    (a_is_number : PySem.W.nsIn K mainGlobals "is_number" = some (some (.ref f_is_number)))
    (l_is_number : K.lookup f_is_number = some ⟨oc_is_number, od_is_number, .func (PySem.W.fnOf "is_number" "is_number" (defArgs s_is_number) (defBody s_is_number) (defScope s_is_number) .none kV_is_number dc_is_number pm_is_number an_is_number cd_is_number ct_is_number), sl_is_number⟩) (c_is_number : PySem.W.codeIn K cd_is_number "is_number" = true) (k_is_number : PySem.W.keepIn K (.ref f_is_number) = true)
    (a_is_number_from : PySem.W.nsIn K mainGlobals "is_number_from" = some (some (.ref f_is_number_from)))
    (l_is_number_from : K.lookup f_is_number_from = some ⟨oc_is_number_from, od_is_number_from, .func (PySem.W.fnOf "is_number_from" "is_number_from" (defArgs s_is_number_from) (defBody s_is_number_from) (defScope s_is_number_from) .none kV_is_number_from dc_is_number_from pm_is_number_from an_is_number_from cd_is_number_from ct_is_number_from), sl_is_number_from⟩) (c_is_number_from : PySem.W.codeIn K cd_is_number_from "is_number_from" = true) (k_is_number_from : PySem.W.keepIn K (.ref f_is_number_from) = true)
    (a_Disk___init__ : PySem.W.findIn K (.ref C_Disk) "__init__" = some (some (.ref f_Disk___init__))) (i_Disk___init__ : PySem.W.isFn K (.ref f_Disk___init__) = true) (mk_Disk___init__ : PySem.W.makesIn K C_Disk = true) (kc_Disk___init__ : PySem.W.keepIn K (.ref C_Disk) = true)
    (l_Disk___init__ : K.lookup f_Disk___init__ = some ⟨oc_Disk___init__, od_Disk___init__, .func (PySem.W.fnOf "__init__" "Disk.__init__" (defArgs s_Disk___init__) (defBody s_Disk___init__) (defScope s_Disk___init__) .none (.ref D_Disk___init__) dc_Disk___init__ pm_Disk___init__ an_Disk___init__ cd_Disk___init__ ct_Disk___init__), sl_Disk___init__⟩) (c_Disk___init__ : PySem.W.codeIn K cd_Disk___init__ "Disk.__init__" = true) (k_Disk___init__ : PySem.W.keepIn K (.ref f_Disk___init__) = true)
    {td_Disk___init___content : Tok} (kd_Disk___init___content : PySem.W.nsIn K D_Disk___init__ "content" = some (some (.int 0 td_Disk___init___content)))
    (a_Disk_read : PySem.W.findIn K (.ref C_Disk) "read" = some (some (.ref f_Disk_read))) (i_Disk_read : PySem.W.isFn K (.ref f_Disk_read) = true)
    (l_Disk_read : K.lookup f_Disk_read = some ⟨oc_Disk_read, od_Disk_read, .func (PySem.W.fnOf "read" "Disk.read" (defArgs s_Disk_read) (defBody s_Disk_read) (defScope s_Disk_read) .none kV_Disk_read dc_Disk_read pm_Disk_read an_Disk_read cd_Disk_read ct_Disk_read), sl_Disk_read⟩) (c_Disk_read : PySem.W.codeIn K cd_Disk_read "Disk.read" = true) (k_Disk_read : PySem.W.keepIn K (.ref f_Disk_read) = true)
    (a_Disk_write : PySem.W.findIn K (.ref C_Disk) "write" = some (some (.ref f_Disk_write))) (i_Disk_write : PySem.W.isFn K (.ref f_Disk_write) = true)
    (l_Disk_write : K.lookup f_Disk_write = some ⟨oc_Disk_write, od_Disk_write, .func (PySem.W.fnOf "write" "Disk.write" (defArgs s_Disk_write) (defBody s_Disk_write) (defScope s_Disk_write) .none kV_Disk_write dc_Disk_write pm_Disk_write an_Disk_write cd_Disk_write ct_Disk_write), sl_Disk_write⟩) (c_Disk_write : PySem.W.codeIn K cd_Disk_write "Disk.write" = true) (k_Disk_write : PySem.W.keepIn K (.ref f_Disk_write) = true)
    (a_Disk_fail : PySem.W.findIn K (.ref C_Disk) "fail" = some (some (.ref f_Disk_fail))) (i_Disk_fail : PySem.W.isFn K (.ref f_Disk_fail) = true)
    (l_Disk_fail : K.lookup f_Disk_fail = some ⟨oc_Disk_fail, od_Disk_fail, .func (PySem.W.fnOf "fail" "Disk.fail" (defArgs s_Disk_fail) (defBody s_Disk_fail) (defScope s_Disk_fail) .none kV_Disk_fail dc_Disk_fail pm_Disk_fail an_Disk_fail cd_Disk_fail ct_Disk_fail), sl_Disk_fail⟩) (c_Disk_fail : PySem.W.codeIn K cd_Disk_fail "Disk.fail" = true) (k_Disk_fail : PySem.W.keepIn K (.ref f_Disk_fail) = true)
    {rest_Disk_contents : List Value} (a_Disk_contents : PySem.W.findIn K (.ref C_Disk) "contents" = some (some (.ref p_Disk_contents))) (ge_Disk_contents : PySem.W.specialIn K (.ref p_Disk_contents) "__get__" = some (some (.builtin "property.__get__"))) (tk_Disk_contents : PySem.W.takesIn K (.ref p_Disk_contents) = some true) (rc_Disk_contents : PySem.W.recIn K p_Disk_contents "property" = some (.ref f_Disk_contents :: rest_Disk_contents))
    (l_Disk_contents : K.lookup f_Disk_contents = some ⟨oc_Disk_contents, od_Disk_contents, .func (PySem.W.fnOf "contents" "Disk.contents" (defArgs s_Disk_contents) (defBody s_Disk_contents) (defScope s_Disk_contents) .none kV_Disk_contents dc_Disk_contents pm_Disk_contents an_Disk_contents cd_Disk_contents ct_Disk_contents), sl_Disk_contents⟩) (c_Disk_contents : PySem.W.codeIn K cd_Disk_contents "Disk.contents" = true) (k_Disk_contents : PySem.W.keepIn K (.ref f_Disk_contents) = true)
    {rest_Disk_lasting : List Value} (a_Disk_lasting : PySem.W.findIn K (.ref C_Disk) "lasting" = some (some (.ref p_Disk_lasting))) (ge_Disk_lasting : PySem.W.specialIn K (.ref p_Disk_lasting) "__get__" = some (some (.builtin "property.__get__"))) (tk_Disk_lasting : PySem.W.takesIn K (.ref p_Disk_lasting) = some true) (rc_Disk_lasting : PySem.W.recIn K p_Disk_lasting "property" = some (.ref f_Disk_lasting :: rest_Disk_lasting))
    (l_Disk_lasting : K.lookup f_Disk_lasting = some ⟨oc_Disk_lasting, od_Disk_lasting, .func (PySem.W.fnOf "lasting" "Disk.lasting" (defArgs s_Disk_lasting) (defBody s_Disk_lasting) (defScope s_Disk_lasting) .none kV_Disk_lasting dc_Disk_lasting pm_Disk_lasting an_Disk_lasting cd_Disk_lasting ct_Disk_lasting), sl_Disk_lasting⟩) (c_Disk_lasting : PySem.W.codeIn K cd_Disk_lasting "Disk.lasting" = true) (k_Disk_lasting : PySem.W.keepIn K (.ref f_Disk_lasting) = true)
    {rest_Disk_pending : List Value} (a_Disk_pending : PySem.W.findIn K (.ref C_Disk) "pending" = some (some (.ref p_Disk_pending))) (ge_Disk_pending : PySem.W.specialIn K (.ref p_Disk_pending) "__get__" = some (some (.builtin "property.__get__"))) (tk_Disk_pending : PySem.W.takesIn K (.ref p_Disk_pending) = some true) (rc_Disk_pending : PySem.W.recIn K p_Disk_pending "property" = some (.ref f_Disk_pending :: rest_Disk_pending))
    (l_Disk_pending : K.lookup f_Disk_pending = some ⟨oc_Disk_pending, od_Disk_pending, .func (PySem.W.fnOf "pending" "Disk.pending" (defArgs s_Disk_pending) (defBody s_Disk_pending) (defScope s_Disk_pending) .none kV_Disk_pending dc_Disk_pending pm_Disk_pending an_Disk_pending cd_Disk_pending ct_Disk_pending), sl_Disk_pending⟩) (c_Disk_pending : PySem.W.codeIn K cd_Disk_pending "Disk.pending" = true) (k_Disk_pending : PySem.W.keepIn K (.ref f_Disk_pending) = true)
    {rest_Disk_counts : List Value} (a_Disk_counts : PySem.W.findIn K (.ref C_Disk) "counts" = some (some (.ref p_Disk_counts))) (ge_Disk_counts : PySem.W.specialIn K (.ref p_Disk_counts) "__get__" = some (some (.builtin "property.__get__"))) (tk_Disk_counts : PySem.W.takesIn K (.ref p_Disk_counts) = some true) (rc_Disk_counts : PySem.W.recIn K p_Disk_counts "property" = some (.ref f_Disk_counts :: rest_Disk_counts))
    (l_Disk_counts : K.lookup f_Disk_counts = some ⟨oc_Disk_counts, od_Disk_counts, .func (PySem.W.fnOf "counts" "Disk.counts" (defArgs s_Disk_counts) (defBody s_Disk_counts) (defScope s_Disk_counts) .none kV_Disk_counts dc_Disk_counts pm_Disk_counts an_Disk_counts cd_Disk_counts ct_Disk_counts), sl_Disk_counts⟩) (c_Disk_counts : PySem.W.codeIn K cd_Disk_counts "Disk.counts" = true) (k_Disk_counts : PySem.W.keepIn K (.ref f_Disk_counts) = true)
    (a_Disk__check_cell : PySem.W.findIn K (.ref C_Disk) "_check_cell" = some (some (.ref f_Disk__check_cell))) (i_Disk__check_cell : PySem.W.isFn K (.ref f_Disk__check_cell) = true)
    (l_Disk__check_cell : K.lookup f_Disk__check_cell = some ⟨oc_Disk__check_cell, od_Disk__check_cell, .func (PySem.W.fnOf "_check_cell" "Disk._check_cell" (defArgs s_Disk__check_cell) (defBody s_Disk__check_cell) (defScope s_Disk__check_cell) .none kV_Disk__check_cell dc_Disk__check_cell pm_Disk__check_cell an_Disk__check_cell cd_Disk__check_cell ct_Disk__check_cell), sl_Disk__check_cell⟩) (c_Disk__check_cell : PySem.W.codeIn K cd_Disk__check_cell "Disk._check_cell" = true) (k_Disk__check_cell : PySem.W.keepIn K (.ref f_Disk__check_cell) = true)
    (a_are_kept : PySem.W.nsIn K mainGlobals "are_kept" = some (some (.ref f_are_kept)))
    (l_are_kept : K.lookup f_are_kept = some ⟨oc_are_kept, od_are_kept, .func (PySem.W.fnOf "are_kept" "are_kept" (defArgs s_are_kept) (defBody s_are_kept) (defScope s_are_kept) .none kV_are_kept dc_are_kept pm_are_kept an_are_kept cd_are_kept ct_are_kept), sl_are_kept⟩) (c_are_kept : PySem.W.codeIn K cd_are_kept "are_kept" = true) (k_are_kept : PySem.W.keepIn K (.ref f_are_kept) = true)
    (a__law_random : PySem.W.nsIn K mainGlobals "_law_random" = some (some (.ref f__law_random)))
    (l__law_random : K.lookup f__law_random = some ⟨oc__law_random, od__law_random, .func (PySem.W.fnOf "_law_random" "_law_random" (defArgs s__law_random) (defBody s__law_random) (defScope s__law_random) .none kV__law_random dc__law_random pm__law_random an__law_random cd__law_random ct__law_random), sl__law_random⟩) (c__law_random : PySem.W.codeIn K cd__law_random "_law_random" = true) (k__law_random : PySem.W.keepIn K (.ref f__law_random) = true)
    (a__law_below : PySem.W.nsIn K mainGlobals "_law_below" = some (some (.ref f__law_below)))
    (l__law_below : K.lookup f__law_below = some ⟨oc__law_below, od__law_below, .func (PySem.W.fnOf "_law_below" "_law_below" (defArgs s__law_below) (defBody s__law_below) (defScope s__law_below) .none kV__law_below dc__law_below pm__law_below an__law_below cd__law_below ct__law_below), sl__law_below⟩) (c__law_below : PySem.W.codeIn K cd__law_below "_law_below" = true) (k__law_below : PySem.W.keepIn K (.ref f__law_below) = true)
    (a__law_told_of : PySem.W.nsIn K mainGlobals "_law_told_of" = some (some (.ref f__law_told_of)))
    (l__law_told_of : K.lookup f__law_told_of = some ⟨oc__law_told_of, od__law_told_of, .func (PySem.W.fnOf "_law_told_of" "_law_told_of" (defArgs s__law_told_of) (defBody s__law_told_of) (defScope s__law_told_of) .none kV__law_told_of dc__law_told_of pm__law_told_of an__law_told_of cd__law_told_of ct__law_told_of), sl__law_told_of⟩) (c__law_told_of : PySem.W.codeIn K cd__law_told_of "_law_told_of" = true) (k__law_told_of : PySem.W.keepIn K (.ref f__law_told_of) = true)
    (a__law_error_of : PySem.W.nsIn K mainGlobals "_law_error_of" = some (some (.ref f__law_error_of)))
    (l__law_error_of : K.lookup f__law_error_of = some ⟨oc__law_error_of, od__law_error_of, .func (PySem.W.fnOf "_law_error_of" "_law_error_of" (defArgs s__law_error_of) (defBody s__law_error_of) (defScope s__law_error_of) .none kV__law_error_of dc__law_error_of pm__law_error_of an__law_error_of cd__law_error_of ct__law_error_of), sl__law_error_of⟩) (c__law_error_of : PySem.W.codeIn K cd__law_error_of "_law_error_of" = true) (k__law_error_of : PySem.W.keepIn K (.ref f__law_error_of) = true)
    (a__law_all_raise : PySem.W.nsIn K mainGlobals "_law_all_raise" = some (some (.ref f__law_all_raise)))
    (l__law_all_raise : K.lookup f__law_all_raise = some ⟨oc__law_all_raise, od__law_all_raise, .func (PySem.W.fnOf "_law_all_raise" "_law_all_raise" (defArgs s__law_all_raise) (defBody s__law_all_raise) (defScope s__law_all_raise) .none kV__law_all_raise dc__law_all_raise pm__law_all_raise an__law_all_raise cd__law_all_raise ct__law_all_raise), sl__law_all_raise⟩) (c__law_all_raise : PySem.W.codeIn K cd__law_all_raise "_law_all_raise" = true) (k__law_all_raise : PySem.W.keepIn K (.ref f__law_all_raise) = true)
    (a_law : PySem.W.nsIn K mainGlobals "law" = some (some (.ref f_law)))
    (l_law : K.lookup f_law = some ⟨oc_law, od_law, .func (PySem.W.fnOf "law" "law" (defArgs s_law) (defBody s_law) (defScope s_law) .none kV_law dc_law pm_law an_law (.ref cda_law) ct_law), sl_law⟩) (c_law : PySem.W.codeIn K (.ref cda_law) "law" = true) (k_law : PySem.W.keepIn K (.ref f_law) = true)
    {vs_law : Array Value} (lc_law : K.lookup cda_law = some ⟨cl_law, cdd_law, .fields vs_law, csl_law⟩) (tp_law : (vs_law[11]? : Option Value) = some (.ref P_law))
    (z_isinstance : PySem.W.nsIn K mainGlobals "isinstance" = some none)
    (z_int : PySem.W.nsIn K mainGlobals "int" = some none)
    (z_bool : PySem.W.nsIn K mainGlobals "bool" = some none)
    (z_str : PySem.W.nsIn K mainGlobals "str" = some none)
    (z_list : PySem.W.nsIn K mainGlobals "list" = some none)
    (z_tuple : PySem.W.nsIn K mainGlobals "tuple" = some none)
    (z_len : PySem.W.nsIn K mainGlobals "len" = some none)
    (z_abs : PySem.W.nsIn K mainGlobals "abs" = some none)
    (z_range : PySem.W.nsIn K mainGlobals "range" = some none)
    (z_ValueError : PySem.W.nsIn K mainGlobals "ValueError" = some none)
    (c_MOST_CELLS : PySem.W.nsIn K mainGlobals "MOST_CELLS" = some (some (.int 64 t_MOST_CELLS)))
    {file : Str}
    (third : PySem.W.nsIn K cStatics "thirdparty.any" = some none)
    (aC_InvalidSize : PySem.W.nsIn K mainGlobals "InvalidSize" = some (some (.ref C_InvalidSize)))
    (ic_InvalidSize : PySem.W.isClsIn K C_InvalidSize = true)
    (ty_InvalidSize : PySem.W.typeIn K (.ref C_InvalidSize) = some (.type "type"))
    (aC_InvalidCell : PySem.W.nsIn K mainGlobals "InvalidCell" = some (some (.ref C_InvalidCell)))
    (ic_InvalidCell : PySem.W.isClsIn K C_InvalidCell = true)
    (ty_InvalidCell : PySem.W.typeIn K (.ref C_InvalidCell) = some (.type "type"))
    (aC_InvalidKept : PySem.W.nsIn K mainGlobals "InvalidKept" = some (some (.ref C_InvalidKept)))
    (ic_InvalidKept : PySem.W.isClsIn K C_InvalidKept = true)
    (ty_InvalidKept : PySem.W.typeIn K (.ref C_InvalidKept) = some (.type "type"))
    (aC_InvalidBlock : PySem.W.nsIn K mainGlobals "InvalidBlock" = some (some (.ref C_InvalidBlock)))
    (ic_InvalidBlock : PySem.W.isClsIn K C_InvalidBlock = true)
    (ty_InvalidBlock : PySem.W.typeIn K (.ref C_InvalidBlock) = some (.type "type"))
    (aC_InvalidValue : PySem.W.nsIn K mainGlobals "InvalidValue" = some (some (.ref C_InvalidValue)))
    (ic_InvalidValue : PySem.W.isClsIn K C_InvalidValue = true)
    (ty_InvalidValue : PySem.W.typeIn K (.ref C_InvalidValue) = some (.type "type"))
    (aC_InvalidCount : PySem.W.nsIn K mainGlobals "InvalidCount" = some (some (.ref C_InvalidCount)))
    (ic_InvalidCount : PySem.W.isClsIn K C_InvalidCount = true)
    (ty_InvalidCount : PySem.W.typeIn K (.ref C_InvalidCount) = some (.type "type"))
    (aC_InvalidSlot : PySem.W.nsIn K mainGlobals "InvalidSlot" = some (some (.ref C_InvalidSlot)))
    (ic_InvalidSlot : PySem.W.isClsIn K C_InvalidSlot = true)
    (ty_InvalidSlot : PySem.W.typeIn K (.ref C_InvalidSlot) = some (.type "type"))
    (aC_InvalidWord : PySem.W.nsIn K mainGlobals "InvalidWord" = some (some (.ref C_InvalidWord)))
    (ic_InvalidWord : PySem.W.isClsIn K C_InvalidWord = true)
    (ty_InvalidWord : PySem.W.typeIn K (.ref C_InvalidWord) = some (.type "type"))
    (aC_InvalidStory : PySem.W.nsIn K mainGlobals "InvalidStory" = some (some (.ref C_InvalidStory)))
    (ic_InvalidStory : PySem.W.isClsIn K C_InvalidStory = true)
    (ty_InvalidStory : PySem.W.typeIn K (.ref C_InvalidStory) = some (.type "type"))
    (aC_PowerOff : PySem.W.nsIn K mainGlobals "PowerOff" = some (some (.ref C_PowerOff)))
    (ic_PowerOff : PySem.W.isClsIn K C_PowerOff = true)
    (ty_PowerOff : PySem.W.typeIn K (.ref C_PowerOff) = some (.type "type"))
    (aC_PowerOn : PySem.W.nsIn K mainGlobals "PowerOn" = some (some (.ref C_PowerOn)))
    (ic_PowerOn : PySem.W.isClsIn K C_PowerOn = true)
    (ty_PowerOn : PySem.W.typeIn K (.ref C_PowerOn) = some (.type "type"))
    (aC_NoFastDisk : PySem.W.nsIn K mainGlobals "NoFastDisk" = some (some (.ref C_NoFastDisk)))
    (ic_NoFastDisk : PySem.W.isClsIn K C_NoFastDisk = true)
    (ty_NoFastDisk : PySem.W.typeIn K (.ref C_NoFastDisk) = some (.type "type"))
    (aC_HasFastDisk : PySem.W.nsIn K mainGlobals "HasFastDisk" = some (some (.ref C_HasFastDisk)))
    (ic_HasFastDisk : PySem.W.isClsIn K C_HasFastDisk = true)
    (ty_HasFastDisk : PySem.W.typeIn K (.ref C_HasFastDisk) = some (.type "type"))
    (aC_Unsettled : PySem.W.nsIn K mainGlobals "Unsettled" = some (some (.ref C_Unsettled)))
    (ic_Unsettled : PySem.W.isClsIn K C_Unsettled = true)
    (ty_Unsettled : PySem.W.typeIn K (.ref C_Unsettled) = some (.type "type"))
    (aC_Contradiction : PySem.W.nsIn K mainGlobals "Contradiction" = some (some (.ref C_Contradiction)))
    (ic_Contradiction : PySem.W.isClsIn K C_Contradiction = true)
    (ty_Contradiction : PySem.W.typeIn K (.ref C_Contradiction) = some (.type "type"))
    (aC_InvalidName : PySem.W.nsIn K mainGlobals "InvalidName" = some (some (.ref C_InvalidName)))
    (ic_InvalidName : PySem.W.isClsIn K C_InvalidName = true)
    (ty_InvalidName : PySem.W.typeIn K (.ref C_InvalidName) = some (.type "type"))
    (aC_UnknownName : PySem.W.nsIn K mainGlobals "UnknownName" = some (some (.ref C_UnknownName)))
    (ic_UnknownName : PySem.W.isClsIn K C_UnknownName = true)
    (ty_UnknownName : PySem.W.typeIn K (.ref C_UnknownName) = some (.type "type"))
    (aC_InvalidRules : PySem.W.nsIn K mainGlobals "InvalidRules" = some (some (.ref C_InvalidRules)))
    (ic_InvalidRules : PySem.W.isClsIn K C_InvalidRules = true)
    (ty_InvalidRules : PySem.W.typeIn K (.ref C_InvalidRules) = some (.type "type"))
    (aC_InvalidRecipes : PySem.W.nsIn K mainGlobals "InvalidRecipes" = some (some (.ref C_InvalidRecipes)))
    (ic_InvalidRecipes : PySem.W.isClsIn K C_InvalidRecipes = true)
    (ty_InvalidRecipes : PySem.W.typeIn K (.ref C_InvalidRecipes) = some (.type "type"))
    (aC_InvalidRequests : PySem.W.nsIn K mainGlobals "InvalidRequests" = some (some (.ref C_InvalidRequests)))
    (ic_InvalidRequests : PySem.W.isClsIn K C_InvalidRequests = true)
    (ty_InvalidRequests : PySem.W.typeIn K (.ref C_InvalidRequests) = some (.type "type"))
    (aC_InvalidPrices : PySem.W.nsIn K mainGlobals "InvalidPrices" = some (some (.ref C_InvalidPrices)))
    (ic_InvalidPrices : PySem.W.isClsIn K C_InvalidPrices = true)
    (ty_InvalidPrices : PySem.W.typeIn K (.ref C_InvalidPrices) = some (.type "type"))
    (aC_InvalidPlan : PySem.W.nsIn K mainGlobals "InvalidPlan" = some (some (.ref C_InvalidPlan)))
    (ic_InvalidPlan : PySem.W.isClsIn K C_InvalidPlan = true)
    (ty_InvalidPlan : PySem.W.typeIn K (.ref C_InvalidPlan) = some (.type "type"))
    (aC_PowerFailed : PySem.W.nsIn K mainGlobals "PowerFailed" = some (some (.ref C_PowerFailed)))
    (ic_PowerFailed : PySem.W.isClsIn K C_PowerFailed = true)
    (ty_PowerFailed : PySem.W.typeIn K (.ref C_PowerFailed) = some (.type "type"))
    (aC_InvalidOperation : PySem.W.nsIn K mainGlobals "InvalidOperation" = some (some (.ref C_InvalidOperation)))
    (ic_InvalidOperation : PySem.W.isClsIn K C_InvalidOperation = true)
    (ty_InvalidOperation : PySem.W.typeIn K (.ref C_InvalidOperation) = some (.type "type"))
    (aC_NotationError : PySem.W.nsIn K mainGlobals "NotationError" = some (some (.ref C_NotationError)))
    (ic_NotationError : PySem.W.isClsIn K C_NotationError = true)
    (ty_NotationError : PySem.W.typeIn K (.ref C_NotationError) = some (.type "type"))
    (aC_DecodeError : PySem.W.nsIn K mainGlobals "DecodeError" = some (some (.ref C_DecodeError)))
    (ic_DecodeError : PySem.W.isClsIn K C_DecodeError = true)
    (ty_DecodeError : PySem.W.typeIn K (.ref C_DecodeError) = some (.type "type"))
    (aC_PairError : PySem.W.nsIn K mainGlobals "PairError" = some (some (.ref C_PairError)))
    (ic_PairError : PySem.W.isClsIn K C_PairError = true)
    (ty_PairError : PySem.W.typeIn K (.ref C_PairError) = some (.type "type"))
    (pb : PySem.W.subIn K (.ref C_PairError) (.type "BaseException") = some true)
    (ph : PySem.W.hasDictIn K C_PairError = true)
    (xn : PySem.W.specialIn K (.builtin "object.__class__") "__get__" = some (some (.builtin "getset_descriptor.__get__")))
    (xt : PySem.W.takesIn K (.builtin "object.__class__") = some true)
    (sb_InvalidSize_InvalidSize : PySem.W.subIn K (.ref C_InvalidSize) (.ref C_InvalidSize) = some true)
    (sb_InvalidSize_InvalidCell : PySem.W.subIn K (.ref C_InvalidSize) (.ref C_InvalidCell) = some false)
    (sb_InvalidSize_InvalidKept : PySem.W.subIn K (.ref C_InvalidSize) (.ref C_InvalidKept) = some false)
    (sb_InvalidSize_InvalidBlock : PySem.W.subIn K (.ref C_InvalidSize) (.ref C_InvalidBlock) = some false)
    (sb_InvalidSize_InvalidValue : PySem.W.subIn K (.ref C_InvalidSize) (.ref C_InvalidValue) = some false)
    (sb_InvalidSize_InvalidCount : PySem.W.subIn K (.ref C_InvalidSize) (.ref C_InvalidCount) = some false)
    (sb_InvalidSize_InvalidSlot : PySem.W.subIn K (.ref C_InvalidSize) (.ref C_InvalidSlot) = some false)
    (sb_InvalidSize_InvalidWord : PySem.W.subIn K (.ref C_InvalidSize) (.ref C_InvalidWord) = some false)
    (sb_InvalidSize_InvalidStory : PySem.W.subIn K (.ref C_InvalidSize) (.ref C_InvalidStory) = some false)
    (sb_InvalidSize_PowerOff : PySem.W.subIn K (.ref C_InvalidSize) (.ref C_PowerOff) = some false)
    (sb_InvalidSize_PowerOn : PySem.W.subIn K (.ref C_InvalidSize) (.ref C_PowerOn) = some false)
    (sb_InvalidSize_NoFastDisk : PySem.W.subIn K (.ref C_InvalidSize) (.ref C_NoFastDisk) = some false)
    (sb_InvalidSize_HasFastDisk : PySem.W.subIn K (.ref C_InvalidSize) (.ref C_HasFastDisk) = some false)
    (sb_InvalidSize_Unsettled : PySem.W.subIn K (.ref C_InvalidSize) (.ref C_Unsettled) = some false)
    (sb_InvalidSize_Contradiction : PySem.W.subIn K (.ref C_InvalidSize) (.ref C_Contradiction) = some false)
    (sb_InvalidSize_InvalidName : PySem.W.subIn K (.ref C_InvalidSize) (.ref C_InvalidName) = some false)
    (sb_InvalidSize_UnknownName : PySem.W.subIn K (.ref C_InvalidSize) (.ref C_UnknownName) = some false)
    (sb_InvalidSize_InvalidRules : PySem.W.subIn K (.ref C_InvalidSize) (.ref C_InvalidRules) = some false)
    (sb_InvalidSize_InvalidRecipes : PySem.W.subIn K (.ref C_InvalidSize) (.ref C_InvalidRecipes) = some false)
    (sb_InvalidSize_InvalidRequests : PySem.W.subIn K (.ref C_InvalidSize) (.ref C_InvalidRequests) = some false)
    (sb_InvalidSize_InvalidPrices : PySem.W.subIn K (.ref C_InvalidSize) (.ref C_InvalidPrices) = some false)
    (sb_InvalidSize_InvalidPlan : PySem.W.subIn K (.ref C_InvalidSize) (.ref C_InvalidPlan) = some false)
    (sb_InvalidSize_PowerFailed : PySem.W.subIn K (.ref C_InvalidSize) (.ref C_PowerFailed) = some false)
    (sb_InvalidSize_InvalidOperation : PySem.W.subIn K (.ref C_InvalidSize) (.ref C_InvalidOperation) = some false)
    (sb_InvalidSize_NotationError : PySem.W.subIn K (.ref C_InvalidSize) (.ref C_NotationError) = some false)
    (sb_InvalidSize_DecodeError : PySem.W.subIn K (.ref C_InvalidSize) (.ref C_DecodeError) = some false)
    (sb_InvalidSize_PairError : PySem.W.subIn K (.ref C_InvalidSize) (.ref C_PairError) = some true)
    (vb_InvalidSize : PySem.W.subIn K (.ref C_InvalidSize) (.type "ValueError") = some true)
    (xg_InvalidSize : PySem.W.findIn K (.ref C_InvalidSize) "__getattribute__" = some (some (.builtin "BaseException.__getattribute__")))
    (xk_InvalidSize : PySem.W.findIn K (.ref C_InvalidSize) "__getattr__" = some none)
    (xs_InvalidSize : PySem.W.subIn K (.ref C_InvalidSize) (.type "BaseException") = some true)
    (xd_InvalidSize : PySem.W.hasDictIn K C_InvalidSize = true)
    (xa_InvalidSize : PySem.W.findIn K (.ref C_InvalidSize) "__class__" = some (some (.builtin "object.__class__")))
    (xm_InvalidSize : PySem.W.mroIn K C_InvalidSize (.type "object") = some true)
    (kp_InvalidSize : PySem.W.keepIn K (.ref C_InvalidSize) = true)
    (pl_InvalidSize : PySem.W.excIn K C_InvalidSize PySem.HandSPX.veTail "ValueError.__new__" = true)
    (sb_InvalidCell_InvalidSize : PySem.W.subIn K (.ref C_InvalidCell) (.ref C_InvalidSize) = some false)
    (sb_InvalidCell_InvalidCell : PySem.W.subIn K (.ref C_InvalidCell) (.ref C_InvalidCell) = some true)
    (sb_InvalidCell_InvalidKept : PySem.W.subIn K (.ref C_InvalidCell) (.ref C_InvalidKept) = some false)
    (sb_InvalidCell_InvalidBlock : PySem.W.subIn K (.ref C_InvalidCell) (.ref C_InvalidBlock) = some false)
    (sb_InvalidCell_InvalidValue : PySem.W.subIn K (.ref C_InvalidCell) (.ref C_InvalidValue) = some false)
    (sb_InvalidCell_InvalidCount : PySem.W.subIn K (.ref C_InvalidCell) (.ref C_InvalidCount) = some false)
    (sb_InvalidCell_InvalidSlot : PySem.W.subIn K (.ref C_InvalidCell) (.ref C_InvalidSlot) = some false)
    (sb_InvalidCell_InvalidWord : PySem.W.subIn K (.ref C_InvalidCell) (.ref C_InvalidWord) = some false)
    (sb_InvalidCell_InvalidStory : PySem.W.subIn K (.ref C_InvalidCell) (.ref C_InvalidStory) = some false)
    (sb_InvalidCell_PowerOff : PySem.W.subIn K (.ref C_InvalidCell) (.ref C_PowerOff) = some false)
    (sb_InvalidCell_PowerOn : PySem.W.subIn K (.ref C_InvalidCell) (.ref C_PowerOn) = some false)
    (sb_InvalidCell_NoFastDisk : PySem.W.subIn K (.ref C_InvalidCell) (.ref C_NoFastDisk) = some false)
    (sb_InvalidCell_HasFastDisk : PySem.W.subIn K (.ref C_InvalidCell) (.ref C_HasFastDisk) = some false)
    (sb_InvalidCell_Unsettled : PySem.W.subIn K (.ref C_InvalidCell) (.ref C_Unsettled) = some false)
    (sb_InvalidCell_Contradiction : PySem.W.subIn K (.ref C_InvalidCell) (.ref C_Contradiction) = some false)
    (sb_InvalidCell_InvalidName : PySem.W.subIn K (.ref C_InvalidCell) (.ref C_InvalidName) = some false)
    (sb_InvalidCell_UnknownName : PySem.W.subIn K (.ref C_InvalidCell) (.ref C_UnknownName) = some false)
    (sb_InvalidCell_InvalidRules : PySem.W.subIn K (.ref C_InvalidCell) (.ref C_InvalidRules) = some false)
    (sb_InvalidCell_InvalidRecipes : PySem.W.subIn K (.ref C_InvalidCell) (.ref C_InvalidRecipes) = some false)
    (sb_InvalidCell_InvalidRequests : PySem.W.subIn K (.ref C_InvalidCell) (.ref C_InvalidRequests) = some false)
    (sb_InvalidCell_InvalidPrices : PySem.W.subIn K (.ref C_InvalidCell) (.ref C_InvalidPrices) = some false)
    (sb_InvalidCell_InvalidPlan : PySem.W.subIn K (.ref C_InvalidCell) (.ref C_InvalidPlan) = some false)
    (sb_InvalidCell_PowerFailed : PySem.W.subIn K (.ref C_InvalidCell) (.ref C_PowerFailed) = some false)
    (sb_InvalidCell_InvalidOperation : PySem.W.subIn K (.ref C_InvalidCell) (.ref C_InvalidOperation) = some false)
    (sb_InvalidCell_NotationError : PySem.W.subIn K (.ref C_InvalidCell) (.ref C_NotationError) = some false)
    (sb_InvalidCell_DecodeError : PySem.W.subIn K (.ref C_InvalidCell) (.ref C_DecodeError) = some false)
    (sb_InvalidCell_PairError : PySem.W.subIn K (.ref C_InvalidCell) (.ref C_PairError) = some true)
    (vb_InvalidCell : PySem.W.subIn K (.ref C_InvalidCell) (.type "ValueError") = some true)
    (xg_InvalidCell : PySem.W.findIn K (.ref C_InvalidCell) "__getattribute__" = some (some (.builtin "BaseException.__getattribute__")))
    (xk_InvalidCell : PySem.W.findIn K (.ref C_InvalidCell) "__getattr__" = some none)
    (xs_InvalidCell : PySem.W.subIn K (.ref C_InvalidCell) (.type "BaseException") = some true)
    (xd_InvalidCell : PySem.W.hasDictIn K C_InvalidCell = true)
    (xa_InvalidCell : PySem.W.findIn K (.ref C_InvalidCell) "__class__" = some (some (.builtin "object.__class__")))
    (xm_InvalidCell : PySem.W.mroIn K C_InvalidCell (.type "object") = some true)
    (kp_InvalidCell : PySem.W.keepIn K (.ref C_InvalidCell) = true)
    (pl_InvalidCell : PySem.W.excIn K C_InvalidCell PySem.HandSPX.veTail "ValueError.__new__" = true)
    (sb_InvalidKept_InvalidSize : PySem.W.subIn K (.ref C_InvalidKept) (.ref C_InvalidSize) = some false)
    (sb_InvalidKept_InvalidCell : PySem.W.subIn K (.ref C_InvalidKept) (.ref C_InvalidCell) = some false)
    (sb_InvalidKept_InvalidKept : PySem.W.subIn K (.ref C_InvalidKept) (.ref C_InvalidKept) = some true)
    (sb_InvalidKept_InvalidBlock : PySem.W.subIn K (.ref C_InvalidKept) (.ref C_InvalidBlock) = some false)
    (sb_InvalidKept_InvalidValue : PySem.W.subIn K (.ref C_InvalidKept) (.ref C_InvalidValue) = some false)
    (sb_InvalidKept_InvalidCount : PySem.W.subIn K (.ref C_InvalidKept) (.ref C_InvalidCount) = some false)
    (sb_InvalidKept_InvalidSlot : PySem.W.subIn K (.ref C_InvalidKept) (.ref C_InvalidSlot) = some false)
    (sb_InvalidKept_InvalidWord : PySem.W.subIn K (.ref C_InvalidKept) (.ref C_InvalidWord) = some false)
    (sb_InvalidKept_InvalidStory : PySem.W.subIn K (.ref C_InvalidKept) (.ref C_InvalidStory) = some false)
    (sb_InvalidKept_PowerOff : PySem.W.subIn K (.ref C_InvalidKept) (.ref C_PowerOff) = some false)
    (sb_InvalidKept_PowerOn : PySem.W.subIn K (.ref C_InvalidKept) (.ref C_PowerOn) = some false)
    (sb_InvalidKept_NoFastDisk : PySem.W.subIn K (.ref C_InvalidKept) (.ref C_NoFastDisk) = some false)
    (sb_InvalidKept_HasFastDisk : PySem.W.subIn K (.ref C_InvalidKept) (.ref C_HasFastDisk) = some false)
    (sb_InvalidKept_Unsettled : PySem.W.subIn K (.ref C_InvalidKept) (.ref C_Unsettled) = some false)
    (sb_InvalidKept_Contradiction : PySem.W.subIn K (.ref C_InvalidKept) (.ref C_Contradiction) = some false)
    (sb_InvalidKept_InvalidName : PySem.W.subIn K (.ref C_InvalidKept) (.ref C_InvalidName) = some false)
    (sb_InvalidKept_UnknownName : PySem.W.subIn K (.ref C_InvalidKept) (.ref C_UnknownName) = some false)
    (sb_InvalidKept_InvalidRules : PySem.W.subIn K (.ref C_InvalidKept) (.ref C_InvalidRules) = some false)
    (sb_InvalidKept_InvalidRecipes : PySem.W.subIn K (.ref C_InvalidKept) (.ref C_InvalidRecipes) = some false)
    (sb_InvalidKept_InvalidRequests : PySem.W.subIn K (.ref C_InvalidKept) (.ref C_InvalidRequests) = some false)
    (sb_InvalidKept_InvalidPrices : PySem.W.subIn K (.ref C_InvalidKept) (.ref C_InvalidPrices) = some false)
    (sb_InvalidKept_InvalidPlan : PySem.W.subIn K (.ref C_InvalidKept) (.ref C_InvalidPlan) = some false)
    (sb_InvalidKept_PowerFailed : PySem.W.subIn K (.ref C_InvalidKept) (.ref C_PowerFailed) = some false)
    (sb_InvalidKept_InvalidOperation : PySem.W.subIn K (.ref C_InvalidKept) (.ref C_InvalidOperation) = some false)
    (sb_InvalidKept_NotationError : PySem.W.subIn K (.ref C_InvalidKept) (.ref C_NotationError) = some false)
    (sb_InvalidKept_DecodeError : PySem.W.subIn K (.ref C_InvalidKept) (.ref C_DecodeError) = some false)
    (sb_InvalidKept_PairError : PySem.W.subIn K (.ref C_InvalidKept) (.ref C_PairError) = some true)
    (vb_InvalidKept : PySem.W.subIn K (.ref C_InvalidKept) (.type "ValueError") = some true)
    (xg_InvalidKept : PySem.W.findIn K (.ref C_InvalidKept) "__getattribute__" = some (some (.builtin "BaseException.__getattribute__")))
    (xk_InvalidKept : PySem.W.findIn K (.ref C_InvalidKept) "__getattr__" = some none)
    (xs_InvalidKept : PySem.W.subIn K (.ref C_InvalidKept) (.type "BaseException") = some true)
    (xd_InvalidKept : PySem.W.hasDictIn K C_InvalidKept = true)
    (xa_InvalidKept : PySem.W.findIn K (.ref C_InvalidKept) "__class__" = some (some (.builtin "object.__class__")))
    (xm_InvalidKept : PySem.W.mroIn K C_InvalidKept (.type "object") = some true)
    (kp_InvalidKept : PySem.W.keepIn K (.ref C_InvalidKept) = true)
    (pl_InvalidKept : PySem.W.excIn K C_InvalidKept PySem.HandSPX.veTail "ValueError.__new__" = true)
    (fl : ((l.prog.main.file : Str) == file) = true) (stop : (l.prog.main.scope.names.lookup ("super" : Str)).isSome = false)
    : LawAtS l w K C8.CX0 14 63 "_law_script" mg fa h := by
  have G := TT.g
  have e := hfa.symm.trans (mg_of X G a_law)
  cases e
  obtain ⟨T, hT⟩ : ∃ T : Gx K mg, T.file = file := ⟨{
    C_Disk := C_Disk, cl_Disk := ⟨pg_Disk, hd_Disk, po_Disk, sa_Disk⟩, gC_Disk := PySem.W.mg_of X G aC_Disk,
    n_Disk__contents := n_Disk__contents,
    n_Disk__lasting := n_Disk__lasting,
    n_Disk__pending := n_Disk__pending,
    n_Disk__reads := n_Disk__reads,
    n_Disk__writes := n_Disk__writes,
    n_Disk__syncs := n_Disk__syncs,
    f_is_number := f_is_number, fd_is_number := _,
    F_is_number := fun_mk (st := s_is_number) l_is_number c_is_number k_is_number,
    g_is_number := PySem.W.mg_of X G a_is_number,
    f_is_number_from := f_is_number_from, fd_is_number_from := _,
    F_is_number_from := fun_mk (st := s_is_number_from) l_is_number_from c_is_number_from k_is_number_from,
    g_is_number_from := PySem.W.mg_of X G a_is_number_from,
    f_Disk___init__ := f_Disk___init__, fd_Disk___init__ := _,
    F_Disk___init__ := ⟨⟨oc_Disk___init__, od_Disk___init__, .none, .ref D_Disk___init__, dc_Disk___init__, pm_Disk___init__, an_Disk___init__, cd_Disk___init__, ct_Disk___init__, sl_Disk___init__, rfl, l_Disk___init__, c_Disk___init__, .inl ⟨rfl, rfl⟩, .inr ⟨D_Disk___init__, rfl, by intro q hq; simp only [List.mem_cons, List.not_mem_nil, or_false] at hq; subst hq; first | exact ⟨_, kd_Disk___init___content, ⟨_, rfl⟩⟩⟩⟩, k_Disk___init__⟩,
    M_Disk___init__ := ⟨mk_Disk___init__, a_Disk___init__, i_Disk___init__, kc_Disk___init__⟩,
    f_Disk_read := f_Disk_read, fd_Disk_read := _,
    F_Disk_read := fun_mk (st := s_Disk_read) l_Disk_read c_Disk_read k_Disk_read,
    m_Disk_read := ⟨a_Disk_read, i_Disk_read, k_Disk_read⟩,
    f_Disk_write := f_Disk_write, fd_Disk_write := _,
    F_Disk_write := fun_mk (st := s_Disk_write) l_Disk_write c_Disk_write k_Disk_write,
    m_Disk_write := ⟨a_Disk_write, i_Disk_write, k_Disk_write⟩,
    f_Disk_fail := f_Disk_fail, fd_Disk_fail := _,
    F_Disk_fail := fun_mk (st := s_Disk_fail) l_Disk_fail c_Disk_fail k_Disk_fail,
    m_Disk_fail := ⟨a_Disk_fail, i_Disk_fail, k_Disk_fail⟩,
    f_Disk_contents := f_Disk_contents, fd_Disk_contents := _,
    F_Disk_contents := fun_mk (st := s_Disk_contents) l_Disk_contents c_Disk_contents k_Disk_contents,
    p_Disk_contents := p_Disk_contents, P_Disk_contents := ⟨a_Disk_contents, ge_Disk_contents, tk_Disk_contents, ⟨_, rc_Disk_contents⟩⟩,
    f_Disk_lasting := f_Disk_lasting, fd_Disk_lasting := _,
    F_Disk_lasting := fun_mk (st := s_Disk_lasting) l_Disk_lasting c_Disk_lasting k_Disk_lasting,
    p_Disk_lasting := p_Disk_lasting, P_Disk_lasting := ⟨a_Disk_lasting, ge_Disk_lasting, tk_Disk_lasting, ⟨_, rc_Disk_lasting⟩⟩,
    f_Disk_pending := f_Disk_pending, fd_Disk_pending := _,
    F_Disk_pending := fun_mk (st := s_Disk_pending) l_Disk_pending c_Disk_pending k_Disk_pending,
    p_Disk_pending := p_Disk_pending, P_Disk_pending := ⟨a_Disk_pending, ge_Disk_pending, tk_Disk_pending, ⟨_, rc_Disk_pending⟩⟩,
    f_Disk_counts := f_Disk_counts, fd_Disk_counts := _,
    F_Disk_counts := fun_mk (st := s_Disk_counts) l_Disk_counts c_Disk_counts k_Disk_counts,
    p_Disk_counts := p_Disk_counts, P_Disk_counts := ⟨a_Disk_counts, ge_Disk_counts, tk_Disk_counts, ⟨_, rc_Disk_counts⟩⟩,
    f_Disk__check_cell := f_Disk__check_cell, fd_Disk__check_cell := _,
    F_Disk__check_cell := fun_mk (st := s_Disk__check_cell) l_Disk__check_cell c_Disk__check_cell k_Disk__check_cell,
    m_Disk__check_cell := ⟨a_Disk__check_cell, i_Disk__check_cell, k_Disk__check_cell⟩,
    f_are_kept := f_are_kept, fd_are_kept := _,
    F_are_kept := fun_mk (st := s_are_kept) l_are_kept c_are_kept k_are_kept,
    g_are_kept := PySem.W.mg_of X G a_are_kept,
    f__law_random := f__law_random, fd__law_random := _,
    F__law_random := fun_mk (st := s__law_random) l__law_random c__law_random k__law_random,
    g__law_random := PySem.W.mg_of X G a__law_random,
    f__law_below := f__law_below, fd__law_below := _,
    F__law_below := fun_mk (st := s__law_below) l__law_below c__law_below k__law_below,
    g__law_below := PySem.W.mg_of X G a__law_below,
    f__law_told_of := f__law_told_of, fd__law_told_of := _,
    F__law_told_of := fun_mk (st := s__law_told_of) l__law_told_of c__law_told_of k__law_told_of,
    g__law_told_of := PySem.W.mg_of X G a__law_told_of,
    f__law_error_of := f__law_error_of, fd__law_error_of := _,
    F__law_error_of := fun_mk (st := s__law_error_of) l__law_error_of c__law_error_of k__law_error_of,
    g__law_error_of := PySem.W.mg_of X G a__law_error_of,
    f__law_all_raise := f__law_all_raise, fd__law_all_raise := _,
    F__law_all_raise := fun_mk (st := s__law_all_raise) l__law_all_raise c__law_all_raise k__law_all_raise,
    g__law_all_raise := PySem.W.mg_of X G a__law_all_raise,
    z_isinstance := PySem.W.mg_none_of X G z_isinstance,
    z_int := PySem.W.mg_none_of X G z_int,
    z_bool := PySem.W.mg_none_of X G z_bool,
    z_str := PySem.W.mg_none_of X G z_str,
    z_list := PySem.W.mg_none_of X G z_list,
    z_tuple := PySem.W.mg_none_of X G z_tuple,
    z_len := PySem.W.mg_none_of X G z_len,
    z_abs := PySem.W.mg_none_of X G z_abs,
    z_range := PySem.W.mg_none_of X G z_range,
    z_ValueError := PySem.W.mg_none_of X G z_ValueError,
    t_MOST_CELLS := t_MOST_CELLS, c_MOST_CELLS := PySem.W.mg_of X G c_MOST_CELLS,
    third := third,
    file := file,
    C_InvalidSize := C_InvalidSize, gC_InvalidSize := PySem.W.mg_of X G aC_InvalidSize,
    ic_InvalidSize := ic_InvalidSize,
    ty_InvalidSize := ty_InvalidSize,
    C_InvalidCell := C_InvalidCell, gC_InvalidCell := PySem.W.mg_of X G aC_InvalidCell,
    ic_InvalidCell := ic_InvalidCell,
    ty_InvalidCell := ty_InvalidCell,
    C_InvalidKept := C_InvalidKept, gC_InvalidKept := PySem.W.mg_of X G aC_InvalidKept,
    ic_InvalidKept := ic_InvalidKept,
    ty_InvalidKept := ty_InvalidKept,
    C_InvalidBlock := C_InvalidBlock, gC_InvalidBlock := PySem.W.mg_of X G aC_InvalidBlock,
    ic_InvalidBlock := ic_InvalidBlock,
    ty_InvalidBlock := ty_InvalidBlock,
    C_InvalidValue := C_InvalidValue, gC_InvalidValue := PySem.W.mg_of X G aC_InvalidValue,
    ic_InvalidValue := ic_InvalidValue,
    ty_InvalidValue := ty_InvalidValue,
    C_InvalidCount := C_InvalidCount, gC_InvalidCount := PySem.W.mg_of X G aC_InvalidCount,
    ic_InvalidCount := ic_InvalidCount,
    ty_InvalidCount := ty_InvalidCount,
    C_InvalidSlot := C_InvalidSlot, gC_InvalidSlot := PySem.W.mg_of X G aC_InvalidSlot,
    ic_InvalidSlot := ic_InvalidSlot,
    ty_InvalidSlot := ty_InvalidSlot,
    C_InvalidWord := C_InvalidWord, gC_InvalidWord := PySem.W.mg_of X G aC_InvalidWord,
    ic_InvalidWord := ic_InvalidWord,
    ty_InvalidWord := ty_InvalidWord,
    C_InvalidStory := C_InvalidStory, gC_InvalidStory := PySem.W.mg_of X G aC_InvalidStory,
    ic_InvalidStory := ic_InvalidStory,
    ty_InvalidStory := ty_InvalidStory,
    C_PowerOff := C_PowerOff, gC_PowerOff := PySem.W.mg_of X G aC_PowerOff,
    ic_PowerOff := ic_PowerOff,
    ty_PowerOff := ty_PowerOff,
    C_PowerOn := C_PowerOn, gC_PowerOn := PySem.W.mg_of X G aC_PowerOn,
    ic_PowerOn := ic_PowerOn,
    ty_PowerOn := ty_PowerOn,
    C_NoFastDisk := C_NoFastDisk, gC_NoFastDisk := PySem.W.mg_of X G aC_NoFastDisk,
    ic_NoFastDisk := ic_NoFastDisk,
    ty_NoFastDisk := ty_NoFastDisk,
    C_HasFastDisk := C_HasFastDisk, gC_HasFastDisk := PySem.W.mg_of X G aC_HasFastDisk,
    ic_HasFastDisk := ic_HasFastDisk,
    ty_HasFastDisk := ty_HasFastDisk,
    C_Unsettled := C_Unsettled, gC_Unsettled := PySem.W.mg_of X G aC_Unsettled,
    ic_Unsettled := ic_Unsettled,
    ty_Unsettled := ty_Unsettled,
    C_Contradiction := C_Contradiction, gC_Contradiction := PySem.W.mg_of X G aC_Contradiction,
    ic_Contradiction := ic_Contradiction,
    ty_Contradiction := ty_Contradiction,
    C_InvalidName := C_InvalidName, gC_InvalidName := PySem.W.mg_of X G aC_InvalidName,
    ic_InvalidName := ic_InvalidName,
    ty_InvalidName := ty_InvalidName,
    C_UnknownName := C_UnknownName, gC_UnknownName := PySem.W.mg_of X G aC_UnknownName,
    ic_UnknownName := ic_UnknownName,
    ty_UnknownName := ty_UnknownName,
    C_InvalidRules := C_InvalidRules, gC_InvalidRules := PySem.W.mg_of X G aC_InvalidRules,
    ic_InvalidRules := ic_InvalidRules,
    ty_InvalidRules := ty_InvalidRules,
    C_InvalidRecipes := C_InvalidRecipes, gC_InvalidRecipes := PySem.W.mg_of X G aC_InvalidRecipes,
    ic_InvalidRecipes := ic_InvalidRecipes,
    ty_InvalidRecipes := ty_InvalidRecipes,
    C_InvalidRequests := C_InvalidRequests, gC_InvalidRequests := PySem.W.mg_of X G aC_InvalidRequests,
    ic_InvalidRequests := ic_InvalidRequests,
    ty_InvalidRequests := ty_InvalidRequests,
    C_InvalidPrices := C_InvalidPrices, gC_InvalidPrices := PySem.W.mg_of X G aC_InvalidPrices,
    ic_InvalidPrices := ic_InvalidPrices,
    ty_InvalidPrices := ty_InvalidPrices,
    C_InvalidPlan := C_InvalidPlan, gC_InvalidPlan := PySem.W.mg_of X G aC_InvalidPlan,
    ic_InvalidPlan := ic_InvalidPlan,
    ty_InvalidPlan := ty_InvalidPlan,
    C_PowerFailed := C_PowerFailed, gC_PowerFailed := PySem.W.mg_of X G aC_PowerFailed,
    ic_PowerFailed := ic_PowerFailed,
    ty_PowerFailed := ty_PowerFailed,
    C_InvalidOperation := C_InvalidOperation, gC_InvalidOperation := PySem.W.mg_of X G aC_InvalidOperation,
    ic_InvalidOperation := ic_InvalidOperation,
    ty_InvalidOperation := ty_InvalidOperation,
    C_NotationError := C_NotationError, gC_NotationError := PySem.W.mg_of X G aC_NotationError,
    ic_NotationError := ic_NotationError,
    ty_NotationError := ty_NotationError,
    C_DecodeError := C_DecodeError, gC_DecodeError := PySem.W.mg_of X G aC_DecodeError,
    ic_DecodeError := ic_DecodeError,
    ty_DecodeError := ty_DecodeError,
    C_PairError := C_PairError, gC_PairError := PySem.W.mg_of X G aC_PairError,
    ic_PairError := ic_PairError,
    ty_PairError := ty_PairError,
    pb := pb,
    ph := ph,
    sb_InvalidSize_InvalidSize := sb_InvalidSize_InvalidSize,
    sb_InvalidSize_InvalidCell := sb_InvalidSize_InvalidCell,
    sb_InvalidSize_InvalidKept := sb_InvalidSize_InvalidKept,
    sb_InvalidSize_InvalidBlock := sb_InvalidSize_InvalidBlock,
    sb_InvalidSize_InvalidValue := sb_InvalidSize_InvalidValue,
    sb_InvalidSize_InvalidCount := sb_InvalidSize_InvalidCount,
    sb_InvalidSize_InvalidSlot := sb_InvalidSize_InvalidSlot,
    sb_InvalidSize_InvalidWord := sb_InvalidSize_InvalidWord,
    sb_InvalidSize_InvalidStory := sb_InvalidSize_InvalidStory,
    sb_InvalidSize_PowerOff := sb_InvalidSize_PowerOff,
    sb_InvalidSize_PowerOn := sb_InvalidSize_PowerOn,
    sb_InvalidSize_NoFastDisk := sb_InvalidSize_NoFastDisk,
    sb_InvalidSize_HasFastDisk := sb_InvalidSize_HasFastDisk,
    sb_InvalidSize_Unsettled := sb_InvalidSize_Unsettled,
    sb_InvalidSize_Contradiction := sb_InvalidSize_Contradiction,
    sb_InvalidSize_InvalidName := sb_InvalidSize_InvalidName,
    sb_InvalidSize_UnknownName := sb_InvalidSize_UnknownName,
    sb_InvalidSize_InvalidRules := sb_InvalidSize_InvalidRules,
    sb_InvalidSize_InvalidRecipes := sb_InvalidSize_InvalidRecipes,
    sb_InvalidSize_InvalidRequests := sb_InvalidSize_InvalidRequests,
    sb_InvalidSize_InvalidPrices := sb_InvalidSize_InvalidPrices,
    sb_InvalidSize_InvalidPlan := sb_InvalidSize_InvalidPlan,
    sb_InvalidSize_PowerFailed := sb_InvalidSize_PowerFailed,
    sb_InvalidSize_InvalidOperation := sb_InvalidSize_InvalidOperation,
    sb_InvalidSize_NotationError := sb_InvalidSize_NotationError,
    sb_InvalidSize_DecodeError := sb_InvalidSize_DecodeError,
    sb_InvalidSize_PairError := sb_InvalidSize_PairError,
    vb_InvalidSize := vb_InvalidSize,
    E_InvalidSize := ⟨xg_InvalidSize, xk_InvalidSize, xs_InvalidSize, xd_InvalidSize, xa_InvalidSize, xn, xt, xm_InvalidSize⟩,
    kp_InvalidSize := kp_InvalidSize,
    pl_InvalidSize := pl_InvalidSize,
    sb_InvalidCell_InvalidSize := sb_InvalidCell_InvalidSize,
    sb_InvalidCell_InvalidCell := sb_InvalidCell_InvalidCell,
    sb_InvalidCell_InvalidKept := sb_InvalidCell_InvalidKept,
    sb_InvalidCell_InvalidBlock := sb_InvalidCell_InvalidBlock,
    sb_InvalidCell_InvalidValue := sb_InvalidCell_InvalidValue,
    sb_InvalidCell_InvalidCount := sb_InvalidCell_InvalidCount,
    sb_InvalidCell_InvalidSlot := sb_InvalidCell_InvalidSlot,
    sb_InvalidCell_InvalidWord := sb_InvalidCell_InvalidWord,
    sb_InvalidCell_InvalidStory := sb_InvalidCell_InvalidStory,
    sb_InvalidCell_PowerOff := sb_InvalidCell_PowerOff,
    sb_InvalidCell_PowerOn := sb_InvalidCell_PowerOn,
    sb_InvalidCell_NoFastDisk := sb_InvalidCell_NoFastDisk,
    sb_InvalidCell_HasFastDisk := sb_InvalidCell_HasFastDisk,
    sb_InvalidCell_Unsettled := sb_InvalidCell_Unsettled,
    sb_InvalidCell_Contradiction := sb_InvalidCell_Contradiction,
    sb_InvalidCell_InvalidName := sb_InvalidCell_InvalidName,
    sb_InvalidCell_UnknownName := sb_InvalidCell_UnknownName,
    sb_InvalidCell_InvalidRules := sb_InvalidCell_InvalidRules,
    sb_InvalidCell_InvalidRecipes := sb_InvalidCell_InvalidRecipes,
    sb_InvalidCell_InvalidRequests := sb_InvalidCell_InvalidRequests,
    sb_InvalidCell_InvalidPrices := sb_InvalidCell_InvalidPrices,
    sb_InvalidCell_InvalidPlan := sb_InvalidCell_InvalidPlan,
    sb_InvalidCell_PowerFailed := sb_InvalidCell_PowerFailed,
    sb_InvalidCell_InvalidOperation := sb_InvalidCell_InvalidOperation,
    sb_InvalidCell_NotationError := sb_InvalidCell_NotationError,
    sb_InvalidCell_DecodeError := sb_InvalidCell_DecodeError,
    sb_InvalidCell_PairError := sb_InvalidCell_PairError,
    vb_InvalidCell := vb_InvalidCell,
    E_InvalidCell := ⟨xg_InvalidCell, xk_InvalidCell, xs_InvalidCell, xd_InvalidCell, xa_InvalidCell, xn, xt, xm_InvalidCell⟩,
    kp_InvalidCell := kp_InvalidCell,
    pl_InvalidCell := pl_InvalidCell,
    sb_InvalidKept_InvalidSize := sb_InvalidKept_InvalidSize,
    sb_InvalidKept_InvalidCell := sb_InvalidKept_InvalidCell,
    sb_InvalidKept_InvalidKept := sb_InvalidKept_InvalidKept,
    sb_InvalidKept_InvalidBlock := sb_InvalidKept_InvalidBlock,
    sb_InvalidKept_InvalidValue := sb_InvalidKept_InvalidValue,
    sb_InvalidKept_InvalidCount := sb_InvalidKept_InvalidCount,
    sb_InvalidKept_InvalidSlot := sb_InvalidKept_InvalidSlot,
    sb_InvalidKept_InvalidWord := sb_InvalidKept_InvalidWord,
    sb_InvalidKept_InvalidStory := sb_InvalidKept_InvalidStory,
    sb_InvalidKept_PowerOff := sb_InvalidKept_PowerOff,
    sb_InvalidKept_PowerOn := sb_InvalidKept_PowerOn,
    sb_InvalidKept_NoFastDisk := sb_InvalidKept_NoFastDisk,
    sb_InvalidKept_HasFastDisk := sb_InvalidKept_HasFastDisk,
    sb_InvalidKept_Unsettled := sb_InvalidKept_Unsettled,
    sb_InvalidKept_Contradiction := sb_InvalidKept_Contradiction,
    sb_InvalidKept_InvalidName := sb_InvalidKept_InvalidName,
    sb_InvalidKept_UnknownName := sb_InvalidKept_UnknownName,
    sb_InvalidKept_InvalidRules := sb_InvalidKept_InvalidRules,
    sb_InvalidKept_InvalidRecipes := sb_InvalidKept_InvalidRecipes,
    sb_InvalidKept_InvalidRequests := sb_InvalidKept_InvalidRequests,
    sb_InvalidKept_InvalidPrices := sb_InvalidKept_InvalidPrices,
    sb_InvalidKept_InvalidPlan := sb_InvalidKept_InvalidPlan,
    sb_InvalidKept_PowerFailed := sb_InvalidKept_PowerFailed,
    sb_InvalidKept_InvalidOperation := sb_InvalidKept_InvalidOperation,
    sb_InvalidKept_NotationError := sb_InvalidKept_NotationError,
    sb_InvalidKept_DecodeError := sb_InvalidKept_DecodeError,
    sb_InvalidKept_PairError := sb_InvalidKept_PairError,
    vb_InvalidKept := vb_InvalidKept,
    E_InvalidKept := ⟨xg_InvalidKept, xk_InvalidKept, xs_InvalidKept, xd_InvalidKept, xa_InvalidKept, xn, xt, xm_InvalidKept⟩,
    kp_InvalidKept := kp_InvalidKept,
    pl_InvalidKept := pl_InvalidKept }, rfl⟩
  have HP : ProgOk l.prog T.file := by
    rw [hT]
    exact ⟨fl, stop⟩
  exact lawat (fd := fnOf "law" "law" (defArgs s_law) (defBody s_law) (defScope s_law) .none kV_law dc_law pm_law an_law (.ref cda_law) ct_law) (sp := spLaw K P_law) TT X nt hrec (tabIn_of a_law l_law rfl lc_law tp_law) (fun s v => .of_eq rfl) (fun base _ _ TB => ok_law T HP l_law c_law TB) (fun H a ns hl hT hS => ⟨a, ns, rfl, hS, hl, hT, fun _ => rfl⟩)
end Kb
open PySem PySem.W PyProof.Rows in
set_option maxRecDepth 100000 in
set_option maxHeartbeats 0 in
theorem PySem.Challenge.cw_keepbefore_k03_invalid_disks_holds : PySem.Challenge.rw_keepbefore_k03_invalid_disks.Holds := by
  w_on; o_law; k_head; (case hw => w_witness2)
  k_fill
  refine Kb.walk_lam (l := PySem.Challenge.rw_keepbefore_k03_invalid_disks) (n := 63) (k := 14) (x := "_law_script") rfl (by decide) rfl ⟨rfl, by decide, by decide⟩ (fun w h Y => by first | exact PySem.W.km_in_of Y | exact PySem.W.kIn_of Y) ?F
  case F =>
    intro w lo mean mg mb fa h KX TT hmg
    refine' Kb.all_mk TT KX hmg (by kernel_rfl) rfl ?aC_Disk ?pg_Disk ?hd_Disk ?po_Disk ?sa_Disk ?n_Disk__contents ?n_Disk__lasting ?n_Disk__pending ?n_Disk__reads ?n_Disk__writes ?n_Disk__syncs ?a_is_number ?l_is_number ?c_is_number ?k_is_number ?a_is_number_from ?l_is_number_from ?c_is_number_from ?k_is_number_from ?a_Disk___init__ ?i_Disk___init__ ?mk_Disk___init__ ?kc_Disk___init__ ?l_Disk___init__ ?c_Disk___init__ ?k_Disk___init__ ?kd_Disk___init___content ?a_Disk_read ?i_Disk_read ?l_Disk_read ?c_Disk_read ?k_Disk_read ?a_Disk_write ?i_Disk_write ?l_Disk_write ?c_Disk_write ?k_Disk_write ?a_Disk_fail ?i_Disk_fail ?l_Disk_fail ?c_Disk_fail ?k_Disk_fail ?a_Disk_contents ?ge_Disk_contents ?tk_Disk_contents ?rc_Disk_contents ?l_Disk_contents ?c_Disk_contents ?k_Disk_contents ?a_Disk_lasting ?ge_Disk_lasting ?tk_Disk_lasting ?rc_Disk_lasting ?l_Disk_lasting ?c_Disk_lasting ?k_Disk_lasting ?a_Disk_pending ?ge_Disk_pending ?tk_Disk_pending ?rc_Disk_pending ?l_Disk_pending ?c_Disk_pending ?k_Disk_pending ?a_Disk_counts ?ge_Disk_counts ?tk_Disk_counts ?rc_Disk_counts ?l_Disk_counts ?c_Disk_counts ?k_Disk_counts ?a_Disk__check_cell ?i_Disk__check_cell ?l_Disk__check_cell ?c_Disk__check_cell ?k_Disk__check_cell ?a_are_kept ?l_are_kept ?c_are_kept ?k_are_kept ?a__law_random ?l__law_random ?c__law_random ?k__law_random ?a__law_below ?l__law_below ?c__law_below ?k__law_below ?a__law_told_of ?l__law_told_of ?c__law_told_of ?k__law_told_of ?a__law_error_of ?l__law_error_of ?c__law_error_of ?k__law_error_of ?a__law_all_raise ?l__law_all_raise ?c__law_all_raise ?k__law_all_raise ?a_law ?l_law ?c_law ?k_law ?lc_law ?tp_law ?z_isinstance ?z_int ?z_bool ?z_str ?z_list ?z_tuple ?z_len ?z_abs ?z_range ?z_ValueError ?c_MOST_CELLS ?third ?aC_InvalidSize ?ic_InvalidSize ?ty_InvalidSize ?aC_InvalidCell ?ic_InvalidCell ?ty_InvalidCell ?aC_InvalidKept ?ic_InvalidKept ?ty_InvalidKept ?aC_InvalidBlock ?ic_InvalidBlock ?ty_InvalidBlock ?aC_InvalidValue ?ic_InvalidValue ?ty_InvalidValue ?aC_InvalidCount ?ic_InvalidCount ?ty_InvalidCount ?aC_InvalidSlot ?ic_InvalidSlot ?ty_InvalidSlot ?aC_InvalidWord ?ic_InvalidWord ?ty_InvalidWord ?aC_InvalidStory ?ic_InvalidStory ?ty_InvalidStory ?aC_PowerOff ?ic_PowerOff ?ty_PowerOff ?aC_PowerOn ?ic_PowerOn ?ty_PowerOn ?aC_NoFastDisk ?ic_NoFastDisk ?ty_NoFastDisk ?aC_HasFastDisk ?ic_HasFastDisk ?ty_HasFastDisk ?aC_Unsettled ?ic_Unsettled ?ty_Unsettled ?aC_Contradiction ?ic_Contradiction ?ty_Contradiction ?aC_InvalidName ?ic_InvalidName ?ty_InvalidName ?aC_UnknownName ?ic_UnknownName ?ty_UnknownName ?aC_InvalidRules ?ic_InvalidRules ?ty_InvalidRules ?aC_InvalidRecipes ?ic_InvalidRecipes ?ty_InvalidRecipes ?aC_InvalidRequests ?ic_InvalidRequests ?ty_InvalidRequests ?aC_InvalidPrices ?ic_InvalidPrices ?ty_InvalidPrices ?aC_InvalidPlan ?ic_InvalidPlan ?ty_InvalidPlan ?aC_PowerFailed ?ic_PowerFailed ?ty_PowerFailed ?aC_InvalidOperation ?ic_InvalidOperation ?ty_InvalidOperation ?aC_NotationError ?ic_NotationError ?ty_NotationError ?aC_DecodeError ?ic_DecodeError ?ty_DecodeError ?aC_PairError ?ic_PairError ?ty_PairError ?pb ?ph ?xn ?xt ?sb_InvalidSize_InvalidSize ?sb_InvalidSize_InvalidCell ?sb_InvalidSize_InvalidKept ?sb_InvalidSize_InvalidBlock ?sb_InvalidSize_InvalidValue ?sb_InvalidSize_InvalidCount ?sb_InvalidSize_InvalidSlot ?sb_InvalidSize_InvalidWord ?sb_InvalidSize_InvalidStory ?sb_InvalidSize_PowerOff ?sb_InvalidSize_PowerOn ?sb_InvalidSize_NoFastDisk ?sb_InvalidSize_HasFastDisk ?sb_InvalidSize_Unsettled ?sb_InvalidSize_Contradiction ?sb_InvalidSize_InvalidName ?sb_InvalidSize_UnknownName ?sb_InvalidSize_InvalidRules ?sb_InvalidSize_InvalidRecipes ?sb_InvalidSize_InvalidRequests ?sb_InvalidSize_InvalidPrices ?sb_InvalidSize_InvalidPlan ?sb_InvalidSize_PowerFailed ?sb_InvalidSize_InvalidOperation ?sb_InvalidSize_NotationError ?sb_InvalidSize_DecodeError ?sb_InvalidSize_PairError ?vb_InvalidSize ?xg_InvalidSize ?xk_InvalidSize ?xs_InvalidSize ?xd_InvalidSize ?xa_InvalidSize ?xm_InvalidSize ?kp_InvalidSize ?pl_InvalidSize ?sb_InvalidCell_InvalidSize ?sb_InvalidCell_InvalidCell ?sb_InvalidCell_InvalidKept ?sb_InvalidCell_InvalidBlock ?sb_InvalidCell_InvalidValue ?sb_InvalidCell_InvalidCount ?sb_InvalidCell_InvalidSlot ?sb_InvalidCell_InvalidWord ?sb_InvalidCell_InvalidStory ?sb_InvalidCell_PowerOff ?sb_InvalidCell_PowerOn ?sb_InvalidCell_NoFastDisk ?sb_InvalidCell_HasFastDisk ?sb_InvalidCell_Unsettled ?sb_InvalidCell_Contradiction ?sb_InvalidCell_InvalidName ?sb_InvalidCell_UnknownName ?sb_InvalidCell_InvalidRules ?sb_InvalidCell_InvalidRecipes ?sb_InvalidCell_InvalidRequests ?sb_InvalidCell_InvalidPrices ?sb_InvalidCell_InvalidPlan ?sb_InvalidCell_PowerFailed ?sb_InvalidCell_InvalidOperation ?sb_InvalidCell_NotationError ?sb_InvalidCell_DecodeError ?sb_InvalidCell_PairError ?vb_InvalidCell ?xg_InvalidCell ?xk_InvalidCell ?xs_InvalidCell ?xd_InvalidCell ?xa_InvalidCell ?xm_InvalidCell ?kp_InvalidCell ?pl_InvalidCell ?sb_InvalidKept_InvalidSize ?sb_InvalidKept_InvalidCell ?sb_InvalidKept_InvalidKept ?sb_InvalidKept_InvalidBlock ?sb_InvalidKept_InvalidValue ?sb_InvalidKept_InvalidCount ?sb_InvalidKept_InvalidSlot ?sb_InvalidKept_InvalidWord ?sb_InvalidKept_InvalidStory ?sb_InvalidKept_PowerOff ?sb_InvalidKept_PowerOn ?sb_InvalidKept_NoFastDisk ?sb_InvalidKept_HasFastDisk ?sb_InvalidKept_Unsettled ?sb_InvalidKept_Contradiction ?sb_InvalidKept_InvalidName ?sb_InvalidKept_UnknownName ?sb_InvalidKept_InvalidRules ?sb_InvalidKept_InvalidRecipes ?sb_InvalidKept_InvalidRequests ?sb_InvalidKept_InvalidPrices ?sb_InvalidKept_InvalidPlan ?sb_InvalidKept_PowerFailed ?sb_InvalidKept_InvalidOperation ?sb_InvalidKept_NotationError ?sb_InvalidKept_DecodeError ?sb_InvalidKept_PairError ?vb_InvalidKept ?xg_InvalidKept ?xk_InvalidKept ?xs_InvalidKept ?xd_InvalidKept ?xa_InvalidKept ?xm_InvalidKept ?kp_InvalidKept ?pl_InvalidKept ?fl ?stop
    (case aC_Disk => k_is)
    (case pg_Disk => k_is)
    (case hd_Disk => k_is)
    (case po_Disk => k_is)
    (case sa_Disk => k_is)
    (case n_Disk__contents => k_is)
    (case n_Disk__lasting => k_is)
    (case n_Disk__pending => k_is)
    (case n_Disk__reads => k_is)
    (case n_Disk__writes => k_is)
    (case n_Disk__syncs => k_is)
    (case a_is_number => k_is)
    (case l_is_number => k_is)
    (case c_is_number => k_is)
    (case k_is_number => k_is)
    (case a_is_number_from => k_is)
    (case l_is_number_from => k_is)
    (case c_is_number_from => k_is)
    (case k_is_number_from => k_is)
    (case a_Disk___init__ => k_is)
    (case i_Disk___init__ => k_is)
    (case mk_Disk___init__ => k_is)
    (case kc_Disk___init__ => k_is)
    (case l_Disk___init__ => k_is)
    (case c_Disk___init__ => k_is)
    (case k_Disk___init__ => k_is)
    (case kd_Disk___init___content => k_is)
    (case a_Disk_read => k_is)
    (case i_Disk_read => k_is)
    (case l_Disk_read => k_is)
    (case c_Disk_read => k_is)
    (case k_Disk_read => k_is)
    (case a_Disk_write => k_is)
    (case i_Disk_write => k_is)
    (case l_Disk_write => k_is)
    (case c_Disk_write => k_is)
    (case k_Disk_write => k_is)
    (case a_Disk_fail => k_is)
    (case i_Disk_fail => k_is)
    (case l_Disk_fail => k_is)
    (case c_Disk_fail => k_is)
    (case k_Disk_fail => k_is)
    (case a_Disk_contents => k_is)
    (case ge_Disk_contents => k_is)
    (case tk_Disk_contents => k_is)
    (case rc_Disk_contents => k_is)
    (case l_Disk_contents => k_is)
    (case c_Disk_contents => k_is)
    (case k_Disk_contents => k_is)
    (case a_Disk_lasting => k_is)
    (case ge_Disk_lasting => k_is)
    (case tk_Disk_lasting => k_is)
    (case rc_Disk_lasting => k_is)
    (case l_Disk_lasting => k_is)
    (case c_Disk_lasting => k_is)
    (case k_Disk_lasting => k_is)
    (case a_Disk_pending => k_is)
    (case ge_Disk_pending => k_is)
    (case tk_Disk_pending => k_is)
    (case rc_Disk_pending => k_is)
    (case l_Disk_pending => k_is)
    (case c_Disk_pending => k_is)
    (case k_Disk_pending => k_is)
    (case a_Disk_counts => k_is)
    (case ge_Disk_counts => k_is)
    (case tk_Disk_counts => k_is)
    (case rc_Disk_counts => k_is)
    (case l_Disk_counts => k_is)
    (case c_Disk_counts => k_is)
    (case k_Disk_counts => k_is)
    (case a_Disk__check_cell => k_is)
    (case i_Disk__check_cell => k_is)
    (case l_Disk__check_cell => k_is)
    (case c_Disk__check_cell => k_is)
    (case k_Disk__check_cell => k_is)
    (case a_are_kept => k_is)
    (case l_are_kept => k_is)
    (case c_are_kept => k_is)
    (case k_are_kept => k_is)
    (case a__law_random => k_is)
    (case l__law_random => k_is)
    (case c__law_random => k_is)
    (case k__law_random => k_is)
    (case a__law_below => k_is)
    (case l__law_below => k_is)
    (case c__law_below => k_is)
    (case k__law_below => k_is)
    (case a__law_told_of => k_is)
    (case l__law_told_of => k_is)
    (case c__law_told_of => k_is)
    (case k__law_told_of => k_is)
    (case a__law_error_of => k_is)
    (case l__law_error_of => k_is)
    (case c__law_error_of => k_is)
    (case k__law_error_of => k_is)
    (case a__law_all_raise => k_is)
    (case l__law_all_raise => k_is)
    (case c__law_all_raise => k_is)
    (case k__law_all_raise => k_is)
    (case a_law => k_is)
    (case l_law => k_is)
    (case c_law => k_is)
    (case k_law => k_is)
    (case lc_law => k_is)
    (case tp_law => rfl)
    (case z_isinstance => k_is)
    (case z_int => k_is)
    (case z_bool => k_is)
    (case z_str => k_is)
    (case z_list => k_is)
    (case z_tuple => k_is)
    (case z_len => k_is)
    (case z_abs => k_is)
    (case z_range => k_is)
    (case z_ValueError => k_is)
    (case c_MOST_CELLS => k_is)
    (case third => k_is)
    (case aC_InvalidSize => k_is)
    (case ic_InvalidSize => k_is)
    (case ty_InvalidSize => k_is)
    (case aC_InvalidCell => k_is)
    (case ic_InvalidCell => k_is)
    (case ty_InvalidCell => k_is)
    (case aC_InvalidKept => k_is)
    (case ic_InvalidKept => k_is)
    (case ty_InvalidKept => k_is)
    (case aC_InvalidBlock => k_is)
    (case ic_InvalidBlock => k_is)
    (case ty_InvalidBlock => k_is)
    (case aC_InvalidValue => k_is)
    (case ic_InvalidValue => k_is)
    (case ty_InvalidValue => k_is)
    (case aC_InvalidCount => k_is)
    (case ic_InvalidCount => k_is)
    (case ty_InvalidCount => k_is)
    (case aC_InvalidSlot => k_is)
    (case ic_InvalidSlot => k_is)
    (case ty_InvalidSlot => k_is)
    (case aC_InvalidWord => k_is)
    (case ic_InvalidWord => k_is)
    (case ty_InvalidWord => k_is)
    (case aC_InvalidStory => k_is)
    (case ic_InvalidStory => k_is)
    (case ty_InvalidStory => k_is)
    (case aC_PowerOff => k_is)
    (case ic_PowerOff => k_is)
    (case ty_PowerOff => k_is)
    (case aC_PowerOn => k_is)
    (case ic_PowerOn => k_is)
    (case ty_PowerOn => k_is)
    (case aC_NoFastDisk => k_is)
    (case ic_NoFastDisk => k_is)
    (case ty_NoFastDisk => k_is)
    (case aC_HasFastDisk => k_is)
    (case ic_HasFastDisk => k_is)
    (case ty_HasFastDisk => k_is)
    (case aC_Unsettled => k_is)
    (case ic_Unsettled => k_is)
    (case ty_Unsettled => k_is)
    (case aC_Contradiction => k_is)
    (case ic_Contradiction => k_is)
    (case ty_Contradiction => k_is)
    (case aC_InvalidName => k_is)
    (case ic_InvalidName => k_is)
    (case ty_InvalidName => k_is)
    (case aC_UnknownName => k_is)
    (case ic_UnknownName => k_is)
    (case ty_UnknownName => k_is)
    (case aC_InvalidRules => k_is)
    (case ic_InvalidRules => k_is)
    (case ty_InvalidRules => k_is)
    (case aC_InvalidRecipes => k_is)
    (case ic_InvalidRecipes => k_is)
    (case ty_InvalidRecipes => k_is)
    (case aC_InvalidRequests => k_is)
    (case ic_InvalidRequests => k_is)
    (case ty_InvalidRequests => k_is)
    (case aC_InvalidPrices => k_is)
    (case ic_InvalidPrices => k_is)
    (case ty_InvalidPrices => k_is)
    (case aC_InvalidPlan => k_is)
    (case ic_InvalidPlan => k_is)
    (case ty_InvalidPlan => k_is)
    (case aC_PowerFailed => k_is)
    (case ic_PowerFailed => k_is)
    (case ty_PowerFailed => k_is)
    (case aC_InvalidOperation => k_is)
    (case ic_InvalidOperation => k_is)
    (case ty_InvalidOperation => k_is)
    (case aC_NotationError => k_is)
    (case ic_NotationError => k_is)
    (case ty_NotationError => k_is)
    (case aC_DecodeError => k_is)
    (case ic_DecodeError => k_is)
    (case ty_DecodeError => k_is)
    (case aC_PairError => k_is)
    (case ic_PairError => k_is)
    (case ty_PairError => k_is)
    (case pb => k_is)
    (case ph => k_is)
    (case xn => k_is)
    (case xt => k_is)
    (case sb_InvalidSize_InvalidSize => k_is)
    (case sb_InvalidSize_InvalidCell => k_is)
    (case sb_InvalidSize_InvalidKept => k_is)
    (case sb_InvalidSize_InvalidBlock => k_is)
    (case sb_InvalidSize_InvalidValue => k_is)
    (case sb_InvalidSize_InvalidCount => k_is)
    (case sb_InvalidSize_InvalidSlot => k_is)
    (case sb_InvalidSize_InvalidWord => k_is)
    (case sb_InvalidSize_InvalidStory => k_is)
    (case sb_InvalidSize_PowerOff => k_is)
    (case sb_InvalidSize_PowerOn => k_is)
    (case sb_InvalidSize_NoFastDisk => k_is)
    (case sb_InvalidSize_HasFastDisk => k_is)
    (case sb_InvalidSize_Unsettled => k_is)
    (case sb_InvalidSize_Contradiction => k_is)
    (case sb_InvalidSize_InvalidName => k_is)
    (case sb_InvalidSize_UnknownName => k_is)
    (case sb_InvalidSize_InvalidRules => k_is)
    (case sb_InvalidSize_InvalidRecipes => k_is)
    (case sb_InvalidSize_InvalidRequests => k_is)
    (case sb_InvalidSize_InvalidPrices => k_is)
    (case sb_InvalidSize_InvalidPlan => k_is)
    (case sb_InvalidSize_PowerFailed => k_is)
    (case sb_InvalidSize_InvalidOperation => k_is)
    (case sb_InvalidSize_NotationError => k_is)
    (case sb_InvalidSize_DecodeError => k_is)
    (case sb_InvalidSize_PairError => k_is)
    (case vb_InvalidSize => k_is)
    (case xg_InvalidSize => k_is)
    (case xk_InvalidSize => k_is)
    (case xs_InvalidSize => k_is)
    (case xd_InvalidSize => k_is)
    (case xa_InvalidSize => k_is)
    (case xm_InvalidSize => k_is)
    (case kp_InvalidSize => k_is)
    (case pl_InvalidSize => k_exc)
    (case sb_InvalidCell_InvalidSize => k_is)
    (case sb_InvalidCell_InvalidCell => k_is)
    (case sb_InvalidCell_InvalidKept => k_is)
    (case sb_InvalidCell_InvalidBlock => k_is)
    (case sb_InvalidCell_InvalidValue => k_is)
    (case sb_InvalidCell_InvalidCount => k_is)
    (case sb_InvalidCell_InvalidSlot => k_is)
    (case sb_InvalidCell_InvalidWord => k_is)
    (case sb_InvalidCell_InvalidStory => k_is)
    (case sb_InvalidCell_PowerOff => k_is)
    (case sb_InvalidCell_PowerOn => k_is)
    (case sb_InvalidCell_NoFastDisk => k_is)
    (case sb_InvalidCell_HasFastDisk => k_is)
    (case sb_InvalidCell_Unsettled => k_is)
    (case sb_InvalidCell_Contradiction => k_is)
    (case sb_InvalidCell_InvalidName => k_is)
    (case sb_InvalidCell_UnknownName => k_is)
    (case sb_InvalidCell_InvalidRules => k_is)
    (case sb_InvalidCell_InvalidRecipes => k_is)
    (case sb_InvalidCell_InvalidRequests => k_is)
    (case sb_InvalidCell_InvalidPrices => k_is)
    (case sb_InvalidCell_InvalidPlan => k_is)
    (case sb_InvalidCell_PowerFailed => k_is)
    (case sb_InvalidCell_InvalidOperation => k_is)
    (case sb_InvalidCell_NotationError => k_is)
    (case sb_InvalidCell_DecodeError => k_is)
    (case sb_InvalidCell_PairError => k_is)
    (case vb_InvalidCell => k_is)
    (case xg_InvalidCell => k_is)
    (case xk_InvalidCell => k_is)
    (case xs_InvalidCell => k_is)
    (case xd_InvalidCell => k_is)
    (case xa_InvalidCell => k_is)
    (case xm_InvalidCell => k_is)
    (case kp_InvalidCell => k_is)
    (case pl_InvalidCell => k_exc)
    (case sb_InvalidKept_InvalidSize => k_is)
    (case sb_InvalidKept_InvalidCell => k_is)
    (case sb_InvalidKept_InvalidKept => k_is)
    (case sb_InvalidKept_InvalidBlock => k_is)
    (case sb_InvalidKept_InvalidValue => k_is)
    (case sb_InvalidKept_InvalidCount => k_is)
    (case sb_InvalidKept_InvalidSlot => k_is)
    (case sb_InvalidKept_InvalidWord => k_is)
    (case sb_InvalidKept_InvalidStory => k_is)
    (case sb_InvalidKept_PowerOff => k_is)
    (case sb_InvalidKept_PowerOn => k_is)
    (case sb_InvalidKept_NoFastDisk => k_is)
    (case sb_InvalidKept_HasFastDisk => k_is)
    (case sb_InvalidKept_Unsettled => k_is)
    (case sb_InvalidKept_Contradiction => k_is)
    (case sb_InvalidKept_InvalidName => k_is)
    (case sb_InvalidKept_UnknownName => k_is)
    (case sb_InvalidKept_InvalidRules => k_is)
    (case sb_InvalidKept_InvalidRecipes => k_is)
    (case sb_InvalidKept_InvalidRequests => k_is)
    (case sb_InvalidKept_InvalidPrices => k_is)
    (case sb_InvalidKept_InvalidPlan => k_is)
    (case sb_InvalidKept_PowerFailed => k_is)
    (case sb_InvalidKept_InvalidOperation => k_is)
    (case sb_InvalidKept_NotationError => k_is)
    (case sb_InvalidKept_DecodeError => k_is)
    (case sb_InvalidKept_PairError => k_is)
    (case vb_InvalidKept => k_is)
    (case xg_InvalidKept => k_is)
    (case xk_InvalidKept => k_is)
    (case xs_InvalidKept => k_is)
    (case xd_InvalidKept => k_is)
    (case xa_InvalidKept => k_is)
    (case xm_InvalidKept => k_is)
    (case kp_InvalidKept => k_is)
    (case pl_InvalidKept => k_exc)
    (case fl => exact beq_self_eq_true (α := PySem.Str) _)
    (case stop => first | rfl | decide +kernel)
