import PyProof.Rows.All
import Wide.All
import OpenK.AllK
import Wide.FinOn
import HandS.ForMost
import HandS.Defaults
import HandS.Property
import HandS.IsInst
import HandS.Conv
import HandS.Codes
import HandS.MakeKwOnly
import HandS.GenYield
import HandS.TupAny
import HandS.Zip
import HandS.Walk
import HandS.Wide
import HandS.Small
import HandS.RaiseMore
import KE.DatumOrd
import HandS.Style
import HandS.Nested
import HandS.ExcInit
import HandS.ExcField
import HandS.ExcIs
import HandS.FStr
import HandS.WordsExc
import HandS.TryOnly
import KE.KExcSuper
import KE.KExcIs
import HandS.ExcSuper
import HandS.HotCalls
import HandS.ExcInitHot
import HandS.NestedHot
import HandS.ClsMeth
import HandS.EndTab
import HandS.EndBits
import HandS.StrSplit
import HandS.Strs
import HandS.Deep
import PySem.Challenge.RW_keepbefore_k60_plans_judged
set_option Elab.async false
set_option linter.all false
set_option maxRecDepth 100000
set_option maxHeartbeats 4000000
namespace Kb
open PySem L2
/-! ### heaps and frames -/
/-- outside S all that was tracked is as it was -/
def Fr (S : List Addr) (H H' : Hp) : Prop := ∀ b o, H b = some o → b ∉ S → H' b = some o
theorem Fr.refl (S : List Addr) (H : Hp) : Fr S H H := fun _ _ h _ => h
theorem Fr.trans {S : List Addr} {H H1 H2 : Hp} (a : Fr S H H1) (b : Fr S H1 H2) : Fr S H H2 := fun c o h n => b c o (a c o h n) n
theorem Fr.mono {S T : List Addr} {H H' : Hp} (a : Fr S H H') (h : ∀ b ∈ S, b ∈ T) : Fr T H H' := fun b o e n => a b o e (fun z => n (h b z))
theorem Fr.put {S : List Addr} {H : Hp} {a : Addr} {o : HO} (h : a ∈ S) : Fr S H (upd H a o) := fun b u e n => by
  rw [upd_ne (fun z => n (by rw [z]; exact h))]
  exact e
theorem Fr.new {S : List Addr} {H : Hp} {p : Addr} {o : HO} (h : H p = none) : Fr S H (upd H p o) := fun b u e _ => by
  rw [upd_ne (ne_of_none e h)]
  exact e
theorem Fr.nil_of {S : List Addr} {H H' : Hp} (a : Fr [] H H') : Fr S H H' := a.mono (fun _ h => by cases h)
theorem Fr.at_ {S : List Addr} {H H' : Hp} {b : Addr} {o : HO} (f : Fr S H H') (e : H b = some o) (n : b ∉ S) : H' b = some o := f b o e n
theorem fresh_out {H : Hp} {b : Addr} {o : HO} {p : Addr} (e : H b = some o) (n : H p = none) : b ≠ p := ne_of_none e n
/-- S and T share nothing -/
def Sep (S T : List Addr) : Prop := ∀ b ∈ S, b ∉ T
theorem Sep.symm {S T : List Addr} (h : Sep S T) : Sep T S := fun b hb hs => h b hs hb
/-- what owns S' came of S or is new, and so is apart from what stood in H -/
theorem Sep.grow {H : Hp} {S S' T : List Addr} (h : Sep S T) (g : ∀ b ∈ S', b ∈ S ∨ H b = none) (t : ∀ b ∈ T, ∃ o, H b = some o) : Sep S' T := fun b hb ht => by
  rcases g b hb with z | z
  · exact h b z ht
  · obtain ⟨o, e⟩ := t b ht
    rw [z] at e
    cases e
theorem vlen {α β : Type} {xs : List α} {f : α → β} : (xs.map f).length = xs.length := List.length_map f
theorem sz_le {n : Nat} (h : n ≤ 100000) : n ≤ sizeLine := Nat.le_trans h (by decide)
theorem sz_lt {n : Nat} (h : n < 100000) : n < sizeLine := Nat.lt_of_lt_of_le h (by decide)
theorem ix_at {n : Nat} (j : Nat) (h : j < n) : ixN n (j : Int) = some j := by
  unfold ixN
  rw [if_pos (Int.natCast_nonneg j), if_pos (by omega)]
  rfl
theorem free_upd {H : Hp} {a p : Addr} {o : HO} (h : upd H a o p = none) : H p = none ∧ p ≠ a := by
  by_cases e : p = a
  · rw [e, upd_same] at h
    cases h
  · rw [upd_ne e] at h
    exact ⟨h, e⟩
theorem int_at {ns : List Int} {i : Nat} {x : V} (h : (ns.map V.int)[i]? = some x) : ∃ u, x = V.int u ∧ ns[i]? = some u := by
  rw [List.getElem?_map] at h
  cases e : ns[i]? with
  | none =>
    rw [e] at h
    cases h
  | some u =>
    rw [e] at h
    exact ⟨u, (Option.some.inj h).symm, rfl⟩
theorem lt_of_at {α : Type} {xs : List α} {i : Nat} {x : α} (h : xs[i]? = some x) : i < xs.length := (List.getElem?_eq_some_iff.mp h).1
theorem Fr.seq {K : PySem.W.Frag} {S : List Addr} {H H' : Hp} {a : Addr} {xs : List V} (f : Fr S H H') (n : a ∉ S) (h : SqL K H a xs) : SqL K H' a xs := by
  rcases h with (h | ⟨o, h⟩) | h
  · exact .inl (.inl (f _ _ h n))
  · exact .inl (.inr ⟨o, f _ _ h n⟩)
  · exact .inr h
theorem Fr.tup {K : PySem.W.Frag} {S : List Addr} {H H' : Hp} {a : Addr} {xs : List V} (f : Fr S H H') (n : a ∉ S) (h : SqT K H a xs) : SqT K H' a xs := by
  rcases h with (h | ⟨o, h⟩) | h
  · exact .inl (.inl (f _ _ h n))
  · exact .inl (.inr ⟨o, f _ _ h n⟩)
  · exact .inr h
/-! ### lambdas as values: with no parameter, or one that falls back on a number -/
section
open PySem.Spec PySem.Calls PySem.W PyProof.Rows LamX NdefX
/-- the words of a lambda, the cells that it captured, its code object, the tuple of what its parameter falls back on -/
structure LF where
  qual : Str
  params : Arguments
  body : Expr
  scope : Scope
  cl : List (Str × Addr)
  c : Addr
  df : Option Addr
def dfV : Option Addr → Value
  | none => .none
  | some t => .ref t
abbrev LF.fd (F : LF) (pm ct : Value) : FuncData :=
  { name := "<lambda>", qualname := F.qual, params := F.params, body := .expr F.body, scope := F.scope, globals := mainGlobals, closure := F.cl, defaults := dfV F.df, kwdefaults := .none, doc := .none, pyModule := pm, annotations := none, code := .ref F.c, closureTuple := ct, builtins := builtinsNs }
def LamO (f : Addr) (F : LF) : HO := .ext fun h => ∃ (od : Option Addr) (sl : Array (Option Value)) (pm ct : Value), h.get? f = some (⟨.type "function", od, .func (F.fd pm ct), sl⟩ : Obj)
theorem LamO.ne {f : Addr} {F : LF} (ps : Array Value) : LamO f F ≠ .tbl ps := fun z => by
  unfold LamO at z
  cases z
theorem LamO.at_ {P : Program} {w : World} {H : Hp} {h : Heap} {f : Addr} {F : LF} (hok : HOk P w H h) (e : H f = some (LamO f F)) : ∃ (od : Option Addr) (sl : Array (Option Value)) (pm ct : Value), h.get? f = some (⟨.type "function", od, .func (F.fd pm ct), sl⟩ : Obj) := (hok f _ e).1
/-- all of it stands -/
structure Lv (f : Addr) (F : LF) (H : Hp) : Prop where
  fn : H f = some (LamO f F)
  co : H F.c = some (CodeO F.c F.qual)
  df : ∀ t, F.df = some t → H t = some (.tup [.int 0])
theorem Lv.keep {f : Addr} {F : LF} {H H' : Hp} (L : Lv f F H) (e : ∀ b o, H b = some o → (∀ xs, o ≠ .lst xs) → (∀ ps, o ≠ .tbl ps) → (∀ C dx fs, o ≠ .ins C dx fs) → H' b = some o) : Lv f F H' :=
  ⟨e _ _ L.fn (fun _ z => by unfold LamO at z; cases z) (fun _ => LamO.ne _) (fun _ _ _ z => by unfold LamO at z; cases z), e _ _ L.co (fun _ z => by unfold CodeO at z; cases z) (fun _ => codeO_ne _) (fun _ _ _ z => by unfold CodeO at z; cases z),
    fun t h => e _ _ (L.df t h) (fun _ z => by cases z) (fun _ z => by cases z) (fun _ _ _ z => by cases z)⟩
section
variable {M : Model} {A : Around} {E : Value → Shared → Prop} {s : Shared} {q : Str} {params : Arguments} {body : Expr} {scope : Scope} {env : Env} {c P : Addr} {ps : Array Value} {pos : Pos} {ln : Nat} {mg : Str → Option Value} {clos : List (Str × Addr)} {Q : Value → Shared → Prop} {d : Option Addr}
theorem lam_tail (hcl : closureFor scope env = pure clos) (hge : env.globals = mainGlobals) (hg : s.heap.Ns mainGlobals mg) (hcode : env.code = .ref c) (C : CodeHd s.heap c P) (hP : s.heap.get? P = some { cls := .none, data := .fields ps }) (ht : TriplesOk ps.toList) (hgP : mainGlobals ≠ P) (hb : s.heap.BuiltinsAt mg P)
    (hit : ∀ cv, codeAmong pos ps.toList = some cv → ∀ (ct : Value) (h' : Heap) (tk : Tok) (fd : FuncData), (∀ b o, s.heap.get? b = some o → h'.get? b = some o) → s.heap.objs.size ≤ h'.objs.size →
      fd = { name := "<lambda>", qualname := q, params := params, body := .expr body, scope := scope, globals := mainGlobals, closure := clos, defaults := dfV d, kwdefaults := .none, doc := .none, pyModule := (mg "__name__").getD .none, annotations := none, code := cv, closureTuple := ct, builtins := builtinsNs } →
      Q (.ref h'.objs.size) { s with heap := h'.push { cls := .type "function", data := .func fd }, toks := tk })
    (new : codeAmong pos ps.toList = none → ∀ (c' : Addr) (ct : Value) (h' : Heap) (tk : Tok) (fd : FuncData), Heap.ExtBut P s.heap h' → s.heap.objs.size ≤ c' → c' < h'.objs.size → h'.CodeRec (.ref c') q → h'.get? P = some { cls := .none, data := .fields (ps ++ #[rawInt pos.line, rawInt pos.col, .ref c']) } →
      fd = { name := "<lambda>", qualname := q, params := params, body := .expr body, scope := scope, globals := mainGlobals, closure := clos, defaults := dfV d, kwdefaults := .none, doc := .none, pyModule := (mg "__name__").getD .none, annotations := none, code := .ref c', closureTuple := ct, builtins := builtinsNs } →
      Q (.ref h'.objs.size) { s with heap := h'.push { cls := .type "function", data := .func fd }, toks := tk }) :
    wpAny M A (makeTail "<lambda>" q params (.expr body) scope env (dfV d) .none none pos ln) Q E s := by
  obtain ⟨bm, ob, hbm, hne0, _, hneP, hbo, hcls, hdict, hdata⟩ := hb
  have up : ∀ (o : Obj) b u, s.heap.get? b = some u → (s.heap.push o).get? b = some u := fun o b u e => Heap.get?_push_of_some o e
  unfold makeTail
  rw [hcl, hge]
  apply wpAny_bind
  apply wpAny_pure
  cases hc : codeAmong pos ps.toList with
  | some cv =>
    by_cases hk : clos.isEmpty = true
    · simp only [hk, if_true]
      apply wpAny_bind; apply wpAny_pure
      apply wpAny_bind; apply wpAny_functionCode_hit hcode (C.code hP ht) hc
      apply wpAny_bind; apply wpAny_builtinsFor hg hbm hne0 hbo hcls hdict hdata
      apply wpAny_bind; apply wpAny_nsGet hg
      apply wpAny_bind; apply wpAny_pure
      exact wpAny_newObj_type (hit cv hc _ s.heap s.toks _ (fun _ _ e => e) (Nat.le_refl _) rfl) (by size_fits)
    · simp only [Bool.not_eq_true] at hk
      simp only [hk, Bool.false_eq_true, if_false]
      apply wpAny_bind; apply wpAny_newTextTuple
      apply wpAny_bind; apply wpAny_functionCode_hit hcode ((C.keeps (up _)).code (up _ _ _ hP) ht) hc
      apply wpAny_bind; apply wpAny_builtinsFor (hg.push _) hbm hne0 (up _ _ _ hbo) hcls hdict hdata
      apply wpAny_bind; apply wpAny_nsGet (hg.push _)
      apply wpAny_bind; apply wpAny_pure
      exact wpAny_newObj_type (hit cv hc _ _ s.toks _ (up _) (by rw [Heap.size_push]; exact Nat.le_succ _) rfl) (by size_fits)
  | none =>
    by_cases hk : clos.isEmpty = true
    · simp only [hk, if_true]
      apply wpAny_bind; apply wpAny_pure
      apply wpAny_bind
      refine wpAny_functionCodeX hcode (C.code hP ht) (C.tab hP) hc fun c' h' tk hx l1 l2 _ hrec htb _ => ?_
      apply wpAny_bind; apply wpAny_builtinsFor (hg.extBut hx hgP) hbm hne0 (hx _ _ hneP hbo) hcls hdict hdata
      apply wpAny_bind; apply wpAny_nsGet (hg.extBut hx hgP)
      apply wpAny_bind; apply wpAny_pure
      exact wpAny_newObj_type (new hc c' _ h' tk _ hx l1 l2 hrec htb.2 rfl) (by size_fits)
    · simp only [Bool.not_eq_true] at hk
      simp only [hk, Bool.false_eq_true, if_false]
      apply wpAny_bind; apply wpAny_newTextTuple
      apply wpAny_bind
      refine wpAny_functionCodeX hcode ((C.keeps (up _)).code (up _ _ _ hP) ht) ((C.keeps (up _)).tab (up _ _ _ hP)) hc fun c' h' tk hx l1 l2 _ hrec htb _ => ?_
      have hx' : Heap.ExtBut P s.heap h' := fun b o hb e => hx b o hb (up _ _ _ e)
      apply wpAny_bind; apply wpAny_builtinsFor ((hg.push _).extBut hx hgP) hbm hne0 (hx' _ _ hneP hbo) hcls hdict hdata
      apply wpAny_bind; apply wpAny_nsGet ((hg.push _).extBut hx hgP)
      apply wpAny_bind; apply wpAny_pure
      exact wpAny_newObj_type (new hc c' _ h' tk _ hx' (Nat.le_trans (by rw [Heap.size_push]; exact Nat.le_succ _) l1) l2 hrec htb.2 rfl) (by size_fits)
end
end
section
open PySem.Spec PySem.Calls PySem.W PyProof.Rows LamX NdefX
section
variable {X : Cx} {pins : List (Addr × Obj)} {σ : L2.St} {H : Hp} {s : Shared}
theorem inv_lam {F : LF} {o : Obj} {tk : Nat} {pm ct : Value} (I : Inv X pins σ H s) (ho : o = { cls := .type "function", data := .func (F.fd pm ct) }) :
    Inv X pins σ (upd H s.heap.objs.size (LamO s.heap.objs.size F)) { s with heap := s.heap.push o, toks := tk } := by
  cases ho
  have e : (s.heap.push ({ cls := .type "function", data := .func (F.fd pm ct) } : Obj)).get? s.heap.objs.size = some ({ cls := .type "function", data := .func (F.fd pm ct) } : Obj) := Heap.get?_push_size _ rfl
  exact I.laid (a := s.heap.objs.size) (fun b u z => Heap.get?_push_of_some _ z) (Nat.le_refl _) ⟨⟨_, _, pm, ct, e⟩, ⟨_, e⟩, fun h1 h2 ⟨od, sl, p, t, z⟩ st => ⟨od, sl, p, t, st _ z⟩⟩
/-- the making of the function's object, the fallback tuple (if any) laid before -/
theorem lam_make {T : List NTab} {nm : Nat → Nat → Str} {c P : Addr} {params : Arguments} {body : Expr} {scope : Scope} {pos : Pos} {d : Option Addr} {ln : Nat} {E : Value → Shared → Prop} {Q : Value → Shared → Prop} (I : Inv X pins σ H s) (TB : TabB X.base X.mg c P) (hcode : X.env.code = .ref c)
    (hm : (P, nm) ∈ T) (hn : nm pos.line pos.col = X.env.qual ++ "<lambda>") (hu : ∀ p ∈ T, p.1 = P → p.2 = nm) (hT : TabsN T H) (hfree : ∀ y ∈ scope.names, y.2 = .free → ∃ c, X.env.cells.lookup y.1 = some c) (hd : ∀ t, d = some t → H t = some (.tup [.int 0]))
    (h : ∀ (f : Addr) (F : LF) (H1 : Hp) (s' : Shared), F.qual = X.env.qual ++ "<lambda>" → F.params = params → F.body = body → F.scope = scope → F.cl = cloFrom X.env.cells scope.names [] → F.df = d → Inv X pins σ H1 s' → ExtN H H1 → TabsN T H1 → H f = none → Lv f F H1 → Q (.ref f) s') :
    wpAny (model X.prog X.w) X.A (makeTail "<lambda>" (X.env.qual ++ "<lambda>") params (.expr body) scope X.env (dfV d) .none none pos ln) Q E s := by
  obtain ⟨ps, hP, ht, ha⟩ := (show TabN H P nm from hT _ hm)
  have hP' : s.heap.get? P = some { cls := .none, data := .fields ps } := I.hok P _ hP
  refine lam_tail (c := c) (P := P) (ps := ps) (mg := X.mg) (closure_ok hfree) I.ok.glob (I.mod.glob.keeps I.bk) hcode (TB.code.keeps I.bk) hP' ht TB.gP (TB.bm.keeps I.bk) (fun cv hc ct h' tk fd kp hz efd => ?_) fun hc c' ct h' tk fd hx l1 l2 hrec htb efd => ?_
  · obtain ⟨c', rfl, hco⟩ := ha pos cv hc
    rw [hn] at hco
    have I1 : Inv X pins σ H { s with heap := h', toks := tk } := I.kept kp
    have nF : H h'.objs.size = none := I1.hok.fresh (Nat.le_refl _)
    have I2 := inv_lam (F := ⟨X.env.qual ++ "<lambda>", params, body, scope, cloFrom X.env.cells scope.names [], c', d⟩) (o := { cls := .type "function", data := .func fd }) (tk := tk) (pm := (X.mg "__name__").getD .none) (ct := ct) I1 (by rw [efd])
    refine h h'.objs.size _ _ _ rfl rfl rfl rfl rfl rfl I2 (fun b o e n => (upd_ne (ne_of_none e nF)).trans e) (hT.ext fun b o e => (upd_ne (ne_of_none e nF)).trans e) nF ⟨upd_same, (upd_ne (ne_of_none hco nF)).trans hco, fun t et => (upd_ne (ne_of_none (hd t et) nF)).trans (hd t et)⟩
  · obtain ⟨c2, oc, vs, t, e2, hoc, hdt, hv⟩ := hrec
    cases e2
    have nC : H c' = none := I.hok.fresh l1
    have I1 := inv_table (t' := tk) (more := #[rawInt pos.line, rawInt pos.col, .ref c']) (h' := h') I hP (fun b o hb e => hx b o hb e) htb l1 ⟨oc, vs, t, hoc, hdt, hv⟩
    have hE : ExtN H (upd (upd H P (.tbl (ps ++ #[rawInt pos.line, rawInt pos.col, .ref c']))) c' (CodeO c' (X.env.qual ++ "<lambda>"))) := fun b o e n => by
      have nb : b ≠ P := fun z => n ps (Option.some.inj (e.symm.trans (by rw [z]; exact hP)))
      rw [upd_ne (ne_of_none e nC), upd_ne nb]
      exact e
    have eL : (ps ++ #[rawInt pos.line, rawInt pos.col, .ref c']).toList = ps.toList ++ [rawInt pos.line, rawInt pos.col, .ref c'] := by simp
    have T1 : TabsN T (upd (upd H P (.tbl (ps ++ #[rawInt pos.line, rawInt pos.col, .ref c']))) c' (CodeO c' (X.env.qual ++ "<lambda>"))) := fun p hp => by
      by_cases hb : p.1 = P
      · rw [hu p hp hb, hb]
        refine ⟨_, (upd_ne (ne_of_none hP nC)).trans upd_same, by rw [eL]; exact PySem.TriplesOk_snoc _ _ _ _ ht, fun p' cv hcv => ?_⟩
        rw [eL] at hcv
        rcases among_app2 _ ht hcv with z | ⟨z, z1, z2⟩
        · obtain ⟨c0, e1, e2⟩ := ha p' cv z
          exact ⟨c0, e1, hE _ _ e2 (codeO_ne)⟩
        · exact ⟨c', z, by rw [← z1, ← z2, hn]; exact upd_same⟩
      · obtain ⟨ps', a1, a2, a3⟩ := hT p hp
        refine ⟨ps', (upd_ne (ne_of_none a1 nC)).trans ((upd_ne hb).trans a1), a2, fun p' cv hcv => ?_⟩
        obtain ⟨c0, e1, e2⟩ := a3 p' cv hcv
        exact ⟨c0, e1, hE _ _ e2 (codeO_ne)⟩
    have nF := I1.hok.fresh (Nat.le_refl _)
    have I2 := inv_lam (F := ⟨X.env.qual ++ "<lambda>", params, body, scope, cloFrom X.env.cells scope.names [], c', d⟩) (o := { cls := .type "function", data := .func fd }) (tk := tk) (pm := (X.mg "__name__").getD .none) (ct := ct) I1 (by rw [efd])
    refine h h'.objs.size _ _ _ rfl rfl rfl rfl rfl rfl I2 (fun b o e n => (upd_ne (ne_of_none (hE b o e n) nF)).trans (hE b o e n)) (T1.ext fun b o e => (upd_ne (ne_of_none e nF)).trans e) (I.hok.fresh (Nat.le_trans l1 (Nat.le_of_lt l2))) ⟨upd_same, (upd_ne (Nat.ne_of_lt l2)).trans upd_same, fun t et => ?_⟩
    have e0 := hE _ _ (hd t et) (fun _ z => by cases z)
    exact (upd_ne (ne_of_none e0 nF)).trans e0
end
/-- what it yields -/
def tLamV (T : List NTab) (X : Cx) (params : Arguments) (body : Expr) (scope : Scope) : TE := fun _ H Q => TabsN T H ∧ ∀ (f : Addr) (F : LF) (H1 : Hp), F.qual = X.env.qual ++ "<lambda>" → F.params = params → F.body = body → F.scope = scope → F.cl = cloFrom X.env.cells scope.names [] →
  (F.df.isSome = !params.defaults.isEmpty) → ExtN H H1 → TabsN T H1 → H f = none → Lv f F H1 → Q (.ref f) H1
section
variable {X : Cx} {T : List NTab} {nm : Nat → Nat → Str} {c P : Addr} {params : Arguments} {body : Expr} {scope : Scope} {pos : Pos}
theorem pe_lamV (TB : TabB X.base X.mg c P) (hcode : X.env.code = .ref c) (hm : (P, nm) ∈ T) (hn : nm pos.line pos.col = X.env.qual ++ "<lambda>") (hu : ∀ p ∈ T, p.1 = P → p.2 = nm)
    (hfree : ∀ y ∈ scope.names, y.2 = .free → X.env.scope.names.lookup y.1 = some .cell ∨ X.env.scope.names.lookup y.1 = some .free) (hk0 : params.kwonlyargs = [])
    (hdef : (defaultsOf params X.env = ([], []) ∧ params.defaults = []) ∨ ∃ e, defaultsOf params X.env = ([eval e X.env], []) ∧ params.defaults = [e] ∧ PE X e (tC (.int 0))) :
    PE X (.Lambda params body scope pos) (tLamV T X params body scope) := by
  refine ⟨fun pins s σ H Q I h => ?_⟩
  obtain ⟨hT, h⟩ := h
  have hfr : ∀ y ∈ scope.names, y.2 = .free → ∃ c, X.env.cells.lookup y.1 = some c := fun y hy e => (hfree y hy e).elim (fun z => I.ok.has _ (.inl z)) fun z => I.ok.has _ (.inr z)
  rw [arm_eval_Lambda]
  rcases hdef with ⟨hd, hp⟩ | ⟨e, hd, hp, he⟩
  · rw [hd]
    apply wpAny_bind
    apply wpAny_pure
    apply wpAny_bind
    apply wpAny_holding
    apply wpAny_pure
    rw [makeFunction_eq]
    simp only [List.zip_nil_right, List.filterMap_nil, List.isEmpty_nil, if_true, pure_bind]
    exact lam_make (d := none) I TB hcode hm hn hu hT hfr (fun _ z => by cases z) fun f F H1 s' q1 q2 q3 q4 q5 q6 I1 eN T1 hf L => ⟨.ref f, H1, I1, rfl, h f F H1 q1 q2 q3 q4 q5 (by rw [q6, hp]; rfl) eN T1 hf L⟩
  · rw [hd]
    apply wpAny_bind
    apply wpAny_evalAll_cons
    refine thn (he.run pins s σ H (fun v H1 => v = .int 0 ∧ H1 = H) I ⟨rfl, rfl⟩) fun u s1 hu1 => ?_
    obtain ⟨v, H1, I1, rv, rfl, rfl⟩ := hu1
    apply wpAny_evalAll_nil
    apply wpAny_bind
    apply wpAny_holding
    apply wpAny_pure
    rw [makeFunction_eq]
    simp only [List.zip_nil_right, List.filterMap_nil, List.isEmpty_nil, List.isEmpty_cons, Bool.false_eq_true, if_false, if_true, pure_bind]
    apply wpAny_bind
    apply wpAny_newTextTuple
    have hn0 : H1 s1.heap.objs.size = none := I1.hok.fresh (Nat.le_refl _)
    have J : Inv X pins σ (upd H1 s1.heap.objs.size (.tup [.int 0])) { s1 with heap := s1.heap.push { cls := .type "tuple", data := .seq [u].toArray }, toks := s1.toks } :=
      I1.laid (t' := s1.toks) (o := .tup [.int 0]) (fun b ob q => Heap.get?_push_of_some _ q) (Nat.le_refl _) ⟨sz_le (by decide), [u], .cons rv .nil, _, Heap.get?_push_size _ rfl, rfl, _, rfl⟩
    have e0 : ∀ b o, H1 b = some o → (upd H1 s1.heap.objs.size (.tup [.int 0])) b = some o := fun b o e => (upd_ne (ne_of_none e hn0)).trans e
    refine lam_make (d := some s1.heap.objs.size) J TB hcode hm hn hu (hT.ext e0) hfr (fun t z => by cases z; exact upd_same) fun f F H2 s' q1 q2 q3 q4 q5 q6 I2 eN T1 hf L => ⟨.ref f, H2, I2, rfl, h f F H2 q1 q2 q3 q4 q5 (by rw [q6, hp]; rfl) (fun b o e n => eN b o (e0 b o e) n) T1 (free_upd hf).1 L⟩
end
end
section
open PySem.Spec PySem.Calls PySem.W PyProof.Rows LamX NdefX
/-- a lambda's names: none of its own but the parameters, the captured ones, globals -/
structure LScope (N fr : List Str) (sc : Scope) : Prop where
  kind : sc.kind = .function
  co : sc.isCoroutine = false
  gen : sc.isGenerator = false
  nocell : ∀ y ∈ sc.names, y.2 ≠ .cell
  free : ∀ y ∈ sc.names, y.2 = .free → y.1 ∈ fr
  frk : ∀ x ∈ fr, sc.names.lookup x = some .free
  eq : N = fr
def lscB (fr : List Str) (sc : Scope) : Bool :=
  decide (sc.kind = .function) && (!sc.isCoroutine && (!sc.isGenerator && (sc.names.all (fun y => !decide (y.2 = .cell)) && (sc.names.all (fun y => !decide (y.2 = .free) || decide (y.1 ∈ fr)) && fr.all (fun x => decide (sc.names.lookup x = some .free))))))
theorem lscope_by {fr : List Str} {sc : Scope} (h : lscB fr sc = true) : LScope fr fr sc := by
  unfold lscB at h
  simp only [Bool.and_eq_true, Bool.not_eq_true', decide_eq_true_eq, List.all_eq_true, Bool.or_eq_true, decide_eq_false_iff_not] at h
  obtain ⟨h1, h2, h3, h4, h5, h6⟩ := h
  exact ⟨h1, h2, h3, h4, fun y hy e => (h5 y hy).elim (fun z => absurd e z) id, h6, rfl⟩
abbrev LF.nf (F : LF) : NF := ⟨"<lambda>", F.qual, F.params, [], F.scope, F.cl, F.c⟩
/-- how it binds when nothing is given -/
def LBind (f : Addr) (F : LF) : Prop := ∀ (P : Program) (w : World) (s : Shared) (H : Hp) (pm ct : Value), Lv f F H → HOk P w H s.heap → ∃ bs : List (Str × Value), BindsTo s (F.fd pm ct) ⟨[], []⟩ bs ∧ ∀ x ∈ bs, F.scope.names.lookup x.1 = some .local
/-- with no parameter -/
theorem lbind0 {f : Addr} {F : LF} (h : ∀ pm ct, bindArgs (F.fd pm ct) ⟨[], []⟩ = pure []) : LBind f F := fun P w s H pm ct L hok => ⟨[], .of_eq (h pm ct), fun x hx => by cases hx⟩
/-- one that falls back on the number in its tuple -/
theorem lbind1 {f t : Addr} {F : LF} {x : Str} (e : F.df = some t) (h : ∀ pm ct u, ∃ k, bindArgs (F.fd pm ct) ⟨[], []⟩ = (seqItems? (F.fd pm ct).defaults >>= k) ∧ k (some #[u]) = pure [(x, u)]) (hl : F.scope.names.lookup x = some .local) : LBind f F := fun P w s H pm ct L hok => by
  obtain ⟨hz, us, rv, o, ho, hc, n, hd⟩ := hok t _ (L.df t e)
  cases rv with
  | cons r rr =>
    cases rr
    rename_i u
    obtain ⟨k, h1, h2⟩ := h pm ct u
    refine ⟨[(x, u)], .of_defaults (T := t) (by show dfV F.df = _; rw [e]; rfl) ho hd h1 h2, fun y hy => ?_⟩
    rw [List.mem_singleton.mp hy]
    exact hl
/-- the promise of the lambda F at f: sp, by what its captured cells hold at the call -/
def LOk (P : Program) (w : World) (K : PySem.W.Frag) (mg : Str → Option Value) (base : Heap) (CX : CXT) (k : Nat) (f : Addr) (F : LF) (fr : List Str) (sp : List (Option V) → Hp → VK → XK → Prop) : Prop :=
  ∀ (A : Around) (outer : List Env) (s : Shared) (H : Hp) (ws : List (Option V)) (Q : VK) (E : XK), Room k A → Env0 P w K mg base A outer s H → Lv f F H → CellsAt F.cl fr ws s.heap H → sp ws H Q E → codeAny (model P w) A (.call (.ref f) ⟨[], []⟩) (CR CX outer P w H s Q E) s
section
variable {CX : CXT} {P : Program} {w : World} {K : PySem.W.Frag} {mg : Str → Option Value} {base : Heap} {N fr : List Str} {F : LF} {f : Addr} {A : Around} {outer : List Env} {s : Shared} {H : Hp} {E : XK} {ws : List (Option V)} {k : Nat} {sp : List (Option V) → Hp → VK → XK → Prop}
abbrev lcx (CX : CXT) (P : Program) (w : World) (K : PySem.W.Frag) (mg : Str → Option Value) (base : Heap) (N : List Str) (F : LF) (f : Addr) (A : Around) (outer : List Env) (s : Shared) (H : Hp) (E : XK) : Cx := ncx CX P w K mg base N F.nf f A outer s H E
/-- THE RULE: a lambda by its body -/
theorem lok_of (S : LScope N fr F.scope) (hb : LBind f F)
    (hbody : ∀ (A : Around) (outer : List Env) (s : Shared) (H : Hp) (ws : List (Option V)) (Q : VK) (E : XK), Room k (A.deeper (envF F.nf f s.heap.objs.size)) → Lv f F H → ws.length = fr.length → sp ws H Q E →
      ∃ t, PE (lcx CX P w K mg base N F f A outer s H E) F.body t ∧ t ws H Q) : LOk P w K mg base CX (k + 1) f F fr sp := by
  intro A outer s H ws Q E hr e0 L C hsp
  have lim : s.heap.NoLimit := e0.mod.nolimit.keeps fun b o e => (e0.bs b o e).1
  obtain ⟨od, sl, pm, ct, ho⟩ := LamO.at_ e0.hok L.fn
  obtain ⟨bs, b1, b2⟩ := hb P w s H pm ct L e0.hok
  refine kla_callFunE hr.depth ho rfl S.co S.gen rfl (codeO_at e0.hok L.co) (b1 _ _ _ _ ?_)
  refine wpAny_newFunctionEnv S.nocell b2 (fun h₁ hns hsb => ⟨lim.fresh _ hsb, ?_⟩) S.kind
  show codeAny _ _ (.expr F.body (envF F.nf f s.heap.objs.size)) _ _
  have kp : ∀ b o, s.heap.get? b = some o → h₁.get? b = some o := fun b o e => hsb.extBut b o (Nat.ne_of_lt (Heap.lt_size e)) (Heap.get?_push_of_some _ e)
  obtain ⟨t, ht, hq⟩ := hbody A outer s H ws Q E (hr.deeper _) L C.len hsp
  have eN := S.eq
  have noA : ∀ b : Addr, b ∉ (lcx CX P w K mg base N F f A outer s H E).ex := fun b z => absurd (show b ∈ ([] : List Addr) from z) (by simp)
  have cellK : ∀ {c : Addr} {v : Option Value}, s.heap.IsCell c v → h₁.IsCell c v := fun {c v} ⟨o, ho, hd⟩ => ⟨o, kp _ _ ho, hd⟩
  have I : Inv (lcx CX P w K mg base N F f A outer s H E) [] ws H { s with heap := h₁, toks := s.toks + bs.length } := by
    refine ⟨⟨e0.mod, S.kind, rfl, rfl, Nat.le_refl _, C.inj, fun y hy => ?_, fun y c z _ => ?_, fun _ => hr.hd, Around.frames_deeper e0.frames, .inr ⟨rfl, rfl⟩, fun b z => absurd z (noA b), e0.bs, e0.bsz, fun b _ _ => noA b, fun b z => absurd z (noA b), e0.funs, e0.frf⟩,
      rfl, e0.bare, Un.kept kp, ⟨_, hns, fun i y v e1 e2 e3 => ?_⟩, fun y c e => ?_, e0.hok.fresh (Nat.le_refl _), fun y c e => (C.all y c e).1, fun q hq => absurd (show q ∈ ([] : List (Addr × Obj)) ++ [] from hq) (by simp), e0.hok.kept kp, ?_⟩
    · rcases (show F.scope.names.lookup y = some .cell ∨ F.scope.names.lookup y = some .free from hy) with hy | hy
      · exact absurd rfl (S.nocell _ (PySem.mem_of_lookup hy))
      · obtain ⟨i, hi⟩ := List.mem_iff_getElem?.mp (S.free _ (PySem.mem_of_lookup hy) rfl)
        obtain ⟨c, hc, _⟩ := C.has i y hi
        exact ⟨c, hc⟩
    · exact absurd (show false = true from z) (by simp)
    · have e1 : N[i]? = some y := e1
      rw [eN] at e1
      obtain ⟨c, hc, hv⟩ := C.has i y e1
      obtain ⟨u, ru, hu⟩ := hv v e2
      exact ⟨u, ru, .inr ⟨.inr (S.frk y (List.mem_of_getElem? e1)), c, hc, cellK hu⟩⟩
    · obtain ⟨v, z⟩ := (C.all y c e).2
      exact ⟨v, cellK z⟩
    · show ws.length = N.length
      rw [eN]
      exact C.len
  refine kla_codeExpr (wpAny_mono (ht.run [] _ ws H Q I hq) (fun v s' hs => ?_) fun e s' hs => hs)
  obtain ⟨u, H', J, rv, q⟩ := hs
  exact ⟨u, H', J.os, J.bare, J.base, J.hok, rv, q⟩
end
/-! ### what may be asked of a value that is called with nothing -/
/-- in the state (s, H), with the callers' frames fs: f is a lambda that lives, its cells hold ws, none of the cells is a frame's -/
structure Act (f : Addr) (F : LF) (fr : List Str) (ws : List (Option V)) (fs : List Addr) (s : Shared) (H : Hp) : Prop where
  lv : Lv f F H
  cells : CellsAt F.cl fr ws s.heap H
  nf : ∀ y c, F.cl.lookup y = some c → c ∉ fs
section
variable {X : Cx} {pins : List (Addr × Obj)} {σ : L2.St} {H : Hp} {s : Shared} {f : Addr} {F : LF} {fr : List Str} {ws : List (Option V)}
/-- a callee's own state, from its entry's -/
theorem Act.later (a : Act f F fr ws X.fs X.s_0 X.H_0) (hx : X.ex = []) (I : Inv X pins σ H s) (L : Lv f F H) : Act f F fr ws X.fs s H :=
  ⟨L, a.cells.later a.nf (fun _ _ _ z => by rw [hx] at z; cases z) I, a.nf⟩
/-- .. and handed on to a callee of its own: that frame is no cell -/
theorem Act.on (a : Act f F fr ws X.fs s H) (I : Inv X pins σ H s) : Act f F fr ws (frs X.stack) s H := by
  refine ⟨a.lv, a.cells, fun y c e hm => ?_⟩
  rcases List.mem_cons.mp (I.stkSub c hm) with z | z
  · obtain ⟨v, o, ho, hd⟩ := (a.cells.all y c e).2
    obtain ⟨m, ⟨o', es, ep, ho', hd', _⟩, _⟩ := I.loc
    rw [z, ho'] at ho
    cases ho
    rw [hd'] at hd
    cases hd
  · exact a.nf y c e z
/-- the maker's own state -/
theorem Act.made {js : List Nat} (hfn : ∀ x, X.fn x = true) (I : Inv X pins σ H s) (L : Lv f F H) (c : Caps X F.cl fr js) : Act f F fr (js.map (slotAt σ)) (frs X.stack) s H := by
  refine ⟨L, cells_of I c, fun y a e hm => ?_⟩
  have e' := c.sub y a e
  obtain ⟨v, o, ho, hd⟩ := I.cell y a e'
  rcases List.mem_cons.mp (I.stkSub a hm) with z | z
  · exact I.cne y a e' z
  · obtain ⟨_, o', ho', _⟩ := I.ok.funs.mem z
    exact absurd (Nat.lt_of_lt_of_le (Heap.lt_size ho') (I.ok.cab y a (hfn y) e')) (Nat.lt_irrefl _)
end
end
section
open PySem.Spec PySem.Calls PySem.W PyProof.Rows LamX NdefX
/-! ### an own exception whose __init__ begins with super().__init__(..) -/
section
variable {prog : Program} {w : World} {A : Around} {E : Value → Shared → Prop} {h : Heap} {g : Array GenState} {d : Drawn} {t : Nat} {os : OsState} {nm q : Str} {C N : Addr} {bs bm : List Value} {sn : List Str} {sub : List Value} {ab : Bool} {col : Option Bool} {dd : Option Addr} {k0 k1 k2 k3 k5 : Option Value}
theorem mw_check {M : Model} {e : Addr} {oe : Obj} {rest : List Value} {Q : Unit → Shared → Prop} (hC : h.get? C = some (excClassObj nm q C N bs bm true sn sub ab col dd k0 k1 k2 k3 k5 "ValueError.__new__")) (he : h.get? e = some oe) (hcls : oe.cls = .ref C) (hq : Q () ⟨h, g, d, t, os⟩) :
    wpAny M A (checkBoundCall "ValueError.__init__" ⟨.ref e :: rest, []⟩) Q E ⟨h, g, d, t, os⟩ := ESX.check_bound F.excBase_ValueError hC he hcls hq
/-- the wrapper is called: the args are laid anew -/
theorem mw_call {u e t0 : Addr} {rest : List Value} {Q : Value → Shared → Prop} (hC : h.get? C = some (excClassObj nm q C N bs bm true sn sub ab col dd k0 k1 k2 k3 k5 "ValueError.__new__")) (he : h.get? e = some (HandSPX.excO C t0)) (hu : h.get? u = some (kxs_mw "ValueError.__init__" e)) (hl : rest.length ≤ sizeLine)
    (hq : ∀ h' t1, (∀ b o, b ≠ e → h.get? b = some o → h'.get? b = some o) → h'.get? e = some (HandSPX.excO C t1) → Q .none ⟨h', g, d, t, os⟩) : wpAny (model prog w) A (call (.ref u) rest) Q E ⟨h, g, d, t, os⟩ := by
  apply wpAny_call
  apply codeAny_of_tree
  show wpAny _ A.in1 (callAny (.ref u) ⟨rest, []⟩) _ _ _
  simp only [callAny]
  apply wpAny_bind
  apply wpAny_load hu
  simp only [kxs_mw, show (Value.type "method-wrapper" == Value.type "method" || Value.type "method-wrapper" == Value.type "builtin_function_or_method" || Value.type "method-wrapper" == Value.type "method-wrapper") = true by decide, if_true]
  refine KFB.if_so (by decide) ?_
  refine wpAny_bind (mw_check hC he rfl ?_)
  refine wpAny_bind (wpAny_pure (wpAny_pure ?_))
  refine ⟨Code.quiet_builtin _ (by decide +kernel), codeAny_builtin F.excBase_ValueError.initEntry ?_⟩
  rw [Around.under_plainId F.excBase_ValueError.init.plain _]
  wp_walk
  refine hq _ h.objs.size (fun b o hb ho => ?_) ?_
  · rw [Heap.get?_update_other _ _ (fun z => hb z.symm)]
    exact Heap.get?_push_of_some _ ho
  · rw [Heap.get?_update_self _ (Heap.get?_push_of_some _ he) rfl]
    rfl
end
/-- such a def of the class at D, its cell at cc -/
structure ProgOk (P : Program) (file : Str) : Prop where
  file_ : ((P.main.file : Str) == file) = true
  top_ : (P.main.scope.names.lookup ("super" : Str)).isSome = false
structure FunS (K : Frag) (file : Str) (x qual : Str) (st : Stmt) (D cc : Addr) (f : Addr) (fd : FuncData) : Prop where
  ex : ∃ (oc : Value) (od : Option Addr) (kV doc pm : Value) (an : Option Addr) (cda : Addr) (ct : Value) (osl : Array (Option Value)) (cl : Value) (cdd : Option Addr) (vs : Array Value) (csl : Array (Option Value)) (tf : Tok) (ec : Value) (ed : Option Addr) (es : Array (Option Value)),
    fd = ksFn x qual (defArgs st) (defBody st) (defScope st) .none kV doc pm an (.ref cda) ct cc ∧ K.lookup f = some ⟨oc, od, .func fd, osl⟩ ∧ codeIn K (.ref cda) qual = true ∧ K.lookup cda = some ⟨cl, cdd, .fields vs, csl⟩ ∧ vs[2]? = some (.str file tf) ∧ K.lookup cc = some ⟨ec, ed, .cell (some (.ref D)), es⟩
  kp : keepIn K (.ref f) = true
section
variable {P : Program} {w : World} {K : Frag} {mg : Str → Option Value} {base : Heap}
theorem FunS.ok {CX : CXT} {x qual : Str} {st : Stmt} {D cc f : Addr} {fd : FuncData} {N ps : List Str} {k : Nat} {sp : Sp} {ar : Arg} {e : Expr} {rest : List Stmt} {p0 p1 apos pos epos : Pos} {file : Str} (HP : ProgOk P file) (F : FunS K file x qual st D cc f fd) (S : NScope N ps ["__class__"] (defScope st)) (len : ∀ vs H Q E, sp vs H Q E → vs.length = ps.length)
    (hst : defBody st = .Expr (.Call (.Attribute (.Call (.Name "super" p0) [] [] p1) "__init__" apos) [e] [] pos) epos :: rest) (hks : (defScope st).names.lookup ("super" : Str) = some .globalImplicit) (hint : ∀ env : Env, env.scope = defScope st → interactive env = false) (pl : Env → Sem Bool)
    (hev : ∀ env : Env, eval (.Call (.Attribute (.Call (.Name "super" p0) [] [] p1) "__init__" apos) [e] [] pos) env = (do
      let ov ← attributeBase (.Call (.Name "super" p0) [] [] p1) "__init__" env (eval (.Call (.Name "super" p0) [] [] p1) env)
      standAt apos.atName
      let (f, first) ← holding [ov] (getMethod ov "__init__" (pl env))
      callWith pos f first (backTo pos (starEach [e] env)) [])) (hse : ∀ env : Env, starEach [e] env = [(false, eval e env)]) (har : ((defArgs st).posonlyargs ++ (defArgs st).args).head? = some ar) (hp0 : ps.head? = some ar.arg)
    (hms : mg "super" = none) (hthird : nsIn K cStatics "thirdparty.any" = some none)
    (hbody : ∀ (F' : NF) (A : Around) (outer : List Env) (s : Shared) (H : Hp) (vs : List V) (Q : VK) (E : XK), F'.scope = defScope st → Room k (A.deeper (envF F' f s.heap.objs.size)) → sp vs H Q E →
      ∃ (te : TE) (tb : TS) (a C : Addr) (z : V), vs.head? = some (.ref a) ∧ H a = some (exo a C none) ∧ OexC K C ∧ (∃ cdD, clsIn K D = some cdD) ∧ mroIn K C (.ref D) = some true ∧ ks_superIn K C D "__init__" = some (some (.builtin "ValueError.__init__")) ∧ subIn K (.ref C) (.type "ValueError") = some true ∧
        PE (ncx CX P w K mg base N F' f A outer s H E) e te ∧ PSs (ncx CX P w K mg base N F' f A outer s H E) rest tb ∧ (∀ Q' : VK, Q' z H → te (startF N vs [none]) H Q') ∧ tb { nx := fun _ H' => Q .non H', rt := Q } (startF N vs [none]) H) :
    FnOk P w K mg base CX (k + 1) f fd ps sp := by
  obtain ⟨oc, od, kV, doc, pm, an, cda, ct, osl, cl, cdd, vs2, csl, tf, ec, ed, es, rfl, lk, hcd, lcd, h2, lcc⟩ := F.ex
  obtain ⟨hfile, htop⟩ := HP
  refine ⟨len, fun A outer s H args us vs Q E hr e0 hb r hsp => ?_⟩
  have hl := len _ _ _ _ hsp
  have KX : K.In s.heap := e0.mod.kin.keeps fun b o e => (e0.bs b o e).1
  have lim : s.heap.NoLimit := e0.mod.nolimit.keeps fun b o e => (e0.bs b o e).1
  let F' : NF := ⟨x, qual, defArgs st, defBody st, defScope st, [("__class__", cc)], cda⟩
  obtain ⟨te, tb, a, C, z, hva, ha, T, ⟨cdD, hD⟩, hmro, hsup, hVE, he, hrest, hte, htb⟩ := hbody F' A outer s H vs Q E rfl (hr.deeper _) hsp
  refine codeAny_call_function hr.depth (KX _ _ lk) rfl S.co S.gen rfl (codeRec_of KX hcd) (hb _ _ _ _ ?_)
  refine wpAny_newFunctionEnv S.nocell (fun ⟨n, _⟩ hy => S.par n (List.of_mem_zip hy).1) (fun h₁ hns hsb => ⟨lim.fresh _ hsb, ?_⟩) S.kind
  show codeAny _ _ (.func (defBody st) (envF F' f s.heap.objs.size)) _ _
  refine ks_codeAny_funcAt ?_
  have kp : ∀ b o, s.heap.get? b = some o → h₁.get? b = some o := fun b o e => hsb.extBut b o (Nat.ne_of_lt (Heap.lt_size e)) (Heap.get?_push_of_some _ e)
  have CA : CellsAt F'.cl ["__class__"] [none] s.heap H := by
    have lk1 : ∀ y c, F'.cl.lookup y = some c → y = "__class__" ∧ c = cc := fun y c e => by
      have e' : ([("__class__", cc)] : List (Str × Addr)).lookup y = some c := e
      by_cases hy : y = "__class__"
      · rw [hy] at e'
        exact ⟨hy, (Option.some.inj e').symm⟩
      · have hb : (y == ("__class__" : Str)) = false := beq_eq_false_iff_ne.mpr hy
        simp only [List.lookup, hb] at e'
        cases e'
    refine ⟨rfl, fun y c e => ?_, fun y1 y2 c e1 e2 => by rw [(lk1 y1 c e1).1, (lk1 y2 c e2).1], fun i y hy => ⟨cc, ?_, fun v hv => ?_⟩⟩
    · rw [(lk1 y c e).2]
      exact ⟨(e0.bs cc _ (e0.mod.kin _ _ lcc)).2, _, _, KX _ _ lcc, rfl⟩
    · cases i with
      | zero => cases hy; rfl
      | succ n => simp at hy
    · cases i with
      | zero => cases hv
      | succ n => simp at hv
  have I : Inv (ncx CX P w K mg base N F' f A outer s H E) [] (startF N vs [none]) H { s with heap := h₁, toks := s.toks + (ps.zip us).length } := inv_startN S hr.hd e0 hl r CA hns kp
  rw [hst]
  refine ks_wpAt_execs_cons (ks_wpAt_Expr_any (ks_wpAt_MethodCall (pl := pl _) ?_ (hev _)) (hint _ rfl))
  have hk0 : (defScope st).names.lookup ar.arg = some .local := S.par _ (List.mem_of_head? hp0)
  have hkc : (defScope st).names.lookup ("__class__" : Str) = some .free := S.frk _ List.mem_cons_self
  have K1 : K.In h₁ := fun b o e => kp b o (KX b o e)
  obtain ⟨oD, hD1, hD2⟩ : ∃ oD, h₁.get? D = some oD ∧ oD.data = .cls cdD := by
    unfold clsIn at hD
    split at hD
    · rename_i c0 d0 cd' sl ho
      cases hD
      exact ⟨_, K1 _ _ ho, rfl⟩
    · cases hD
  obtain ⟨t0, hea⟩ := exo_at I.hok ha
  obtain ⟨cd, hcl⟩ : ∃ cd, clsIn K C = some cd := by
    unfold ks_superIn at hsup
    cases hc : clsIn K C with
    | none => rw [hc] at hsup; cases hsup
    | some cd => exact ⟨cd, rfl⟩
  have hal : alongIn K "__init__" ((cd.mro.dropWhile (· != .ref D)).drop 1) = some (some (.builtin "ValueError.__init__")) := by
    unfold ks_superIn at hsup
    rw [hcl] at hsup
    exact hsup
  have hself : (ps.zip us).reverse.lookup ar.arg = some (.ref a) := by
    have ndP : ps.Nodup := (List.nodup_append.mp (S.pre ▸ S.nd.sublist (List.take_sublist (ps.length + 1) N))).1
    have hps : ps[0]? = some ar.arg := by rw [← List.head?_eq_getElem?]; exact hp0
    have hvs0 : vs[0]? = some (.ref a) := by rw [← List.head?_eq_getElem?]; exact hva
    obtain ⟨u, hu, ru⟩ := r.get hvs0
    obtain rfl : u = Value.ref a := ru
    exact zip_look ndP hps hu
  obtain ⟨mb, hb1, hb2⟩ := I.mod.blt
  refine ks_wpAt_super_base (prog := P) (w := w) (env := envF F' f s.heap.objs.size) hks hkc (by decide) rfl (K1 _ _ lk) rfl har rfl (K1 _ _ lcd) rfl h2 hfile htop ?_
  refine ks_loadName_global S.kind hks (loadGlobal_builtin (env := envF F' f s.heap.objs.size) (I.mod.glob.keeps I.bk) hms (hb1.keeps I.bk) ((hb2 _ (by decide)).trans (by first | boot_by_name | rfl | kernel_rfl)) ⟨rfl, ?_⟩)
  refine wpAny_loadName_free (env := envF F' f s.heap.objs.size) S.kind hkc rfl ⟨_, K1 _ _ lcc, rfl⟩ ?_
  refine wpAny_loadName_local (env := envF F' f s.heap.objs.size) S.kind hk0 hns hself ?_
  refine ks_wpAny_isType_cls hD1 hD2 ⟨rfl, ?_⟩
  refine ks_wpAny_call_super hD1 hD2 hea rfl (fun c z => by cases z) (looks_mroIn K1 hmro) (fun h2' eso k2 => ?_)
  have K2 : K.In h2' := fun b o e => k2 b o (K1 b o e)
  have Ia : Inv (ncx CX P w K mg base N F' f A outer s H E) [] (startF N vs [none]) H { s with heap := h2', toks := s.toks + (ps.zip us).length } := I.kept k2
  have hea2 := k2 _ _ hea
  have hne : a ≠ C := fun z => by
    have hC0 : ∃ o cd', h2'.get? C = some o ∧ o.data = .cls cd' := by
      unfold clsIn at hcl
      split at hcl
      · rename_i c0 d0 cd' sl ho
        exact ⟨_, _, K2 _ _ ho, rfl⟩
      · cases hcl
    obtain ⟨o, cd', e1, e2⟩ := hC0
    rw [← z, hea2] at e1
    cases e1
    cases e2
  have tyA : Looks (model P w) h2' (typeOf (.ref a)) (.ref C) := fun A Q E s k q => wpAny_typeOf_ref (k _ _ hea2) q
  refine kxs_getMethod (h := h2') kxs_ValueError eso (looks_opaque K2 hthird) (l₀ := cd.mro) (fun A Q E s k q => wpAny_bind ((looks_clsIn K2 hcl) A _ E s k (wpAny_pure q))) rfl K2 hal (tyA.andThen (looks_subIn K2 hVE)) hne (by decide) ?_
  have I2 := ClX.pin_new (a := h2'.objs.size) (o := kxs_mw "ValueError.__init__" a) (h' := h2'.push (kxs_mw "ValueError.__init__" a)) (t' := s.toks + (ps.zip us).length + 1) Ia (fun b u z => Heap.get?_push_of_some _ z) (Nat.le_refl _) (Heap.get?_push_size _ rfl) (fun v z => nomatch z)
  have hpa : PA (ncx CX P w K mg base N F' f A outer s H E) [e] (tCons te tNil) := pa_cons he pa_nil (by rw [show starEach [e] (ncx CX P w K mg base N F' f A outer s H E).env = _ from hse _]; rfl)
  refine kxs_callWith (i := "ValueError.__init__") (x := a) (by rw [hse]; rfl) ?_
  have hrun := hpa.run pos _ _ _ _ (fun xs H1 => xs = [z] ∧ H1 = H) I2 (hte _ ⟨rfl, rfl⟩)
  have est : backTo pos (starEach [e] (envF F' f s.heap.objs.size)) = [(false, eval e (envF F' f s.heap.objs.size))] := by
    rw [hse]
    rfl
  rw [est]
  refine evalArgs_plain (thn (show wpAny _ _ (spliced [(false, eval e (envF F' f s.heap.objs.size))]) _ _ _ from est ▸ hrun) fun xs s3 h3 => ?_)
  obtain ⟨zs, H3, I3, rv, ezs, eH⟩ := h3
  subst ezs
  rw [eH] at I3
  refine ⟨(I3.pin _ (List.mem_append_right _ List.mem_cons_self)).1, ?_⟩
  obtain ⟨nmC, qC, NC, bsC, bmC, snC, subC, abC, colC, ddC, c0, c1, c2, c3, c5, hC, hbm⟩ := T.cls
  obtain ⟨t3, he3⟩ := exo_at I3.hok ha
  have hu3 := (I3.pin _ (List.mem_append_right _ List.mem_cons_self)).1
  have hlx : xs.length ≤ sizeLine := by
    have := Paired.length rv
    simp at this
    rw [← this]
    exact sz_le (by decide)
  obtain ⟨hp3, g3, d3, tk3, os3⟩ := s3
  show wpAny _ _ (call (.ref h2'.objs.size) ([] ++ xs)) _ _ _
  refine mw_call (I3.kIn _ _ hC) he3 hu3 hlx (fun h4 t4 k4 he4 => ?_)
  have J := (ClX.unpin I3).write (t' := tk3) (x := a) (e := a) (o := exo a C none) (by rw [ha]; exact True.intro) (.inl rfl) k4 ⟨_, he4⟩ (exo_ok he4)
  have eu : upd H a (exo a C none) = H := by
    funext b
    by_cases hb : b = a
    · rw [hb, upd_same, ha]
    · rw [upd_ne hb]
  rw [eu] at J
  refine wpAt_of_wpAny (wpAny_mono (hrest.run [] _ _ _ _ J htb) (fun fl s' hs => ?_) fun e s' hs => hs)
  have fin : ∀ {σ' : L2.St} {H' : Hp} {v : V} {u : Value}, Inv (ncx CX P w K mg base N F' f A outer s H E) [] σ' H' s' → L2.RelV v u → Q v H' → CE outer P w H s Q u s' :=
    fun {σ' H' v u} J rv q => ⟨v, H', J.os, J.bare, J.base, J.hok, rv, q⟩
  cases fl with
  | ret u =>
    obtain ⟨v, σ', H', J, rv, q⟩ := hs
    exact fin J rv q
  | next =>
    obtain ⟨σ', H', J, q⟩ := hs
    exact fin (v := V.non) (u := Value.none) J rfl q
  | brk =>
    obtain ⟨_, _, _, q⟩ := hs
    exact False.elim q
  | cont =>
    obtain ⟨_, _, _, q⟩ := hs
    exact False.elim q
end
end
section
open PySem.Spec PySem.Calls PySem.W PyProof.Rows LamX NdefX
/-! ### an own exception made, its context None -/
section
variable {X : Cx} {e : Expr} {es : List Expr} {ta : TA} {p pos : Pos}
theorem pmkN {CX : CXT} {x : Str} {C fI : Addr} {k : Nat} {fd : FuncData} {ps : List Str} {sp : Sp} (T : OexC X.K C) (iC : findIn X.K (.ref C) "__init__" = some (some (.ref fI))) (tI : typeIn X.K (.ref fI) = some (.type "function")) (F1 : FnOk X.prog X.w X.K X.mg X.base CX k fI fd ps sp) (hr : Room (k + 1) X.A)
    (hb : Binds X.K fd ps []) (hx : Passes CX X (fun _ _ _ => False)) (hg : Gl X x) (hm : X.mg x = some (.ref C)) (ha : PA X (e :: es) ta) (hdb : (x == ("__debug__" : Str)) = false := by decide) (he : starEach (e :: es) X.env = (false, eval e X.env) :: starEach es X.env := by rfl)
    (hpl : (backTo pos (starEach es X.env)).any (·.1) = false := by rfl) : L2N.PMk X (.Call (.Name x p) (e :: es) [] pos) (tMkO C sp [] ta) := by
  intro pins s σ H Q I h
  obtain ⟨nm, q, N, bs, bm, sn, sub, ab, col, dd, k0, k1, k2, k3, k5, hC, hbm⟩ := T.cls
  refine wpAny_Call_Name_kw (ld_glob I hg hm ?_ hdb)
  refine PySem.W.callWith_K (h₀ := X.base) I.ok.mod.kin T.kC (thn (ha.run pos pins s σ H _ I h) fun us s1 hh => ?_) he hpl
  obtain ⟨vs, H1, I1, r1, hz, q1⟩ := hh
  refine ⟨I1.kIn, ?_⟩
  obtain ⟨hp, g, dr, tk, os⟩ := s1
  let a : Addr := hp.objs.size + 1
  let h2 : Heap := (hp.push (kdv_tup us)).push (HandSPX.excO C hp.objs.size)
  have hsz : hp.objs.size ≤ a := Nat.le_succ _
  have hq := q1 a (I1.hok.fresh hsz)
  rw [List.append_nil] at hq
  have kk : ∀ b o, hp.get? b = some o → h2.get? b = some o := fun b o z => Heap.get?_push_of_some _ (Heap.get?_push_of_some _ z)
  have hget : h2.get? a = some (HandSPX.excO C hp.objs.size) := by
    show ((hp.push (kdv_tup us)).push (HandSPX.excO C hp.objs.size)).get? (hp.objs.size + 1) = _
    heap_get
  have I2 : Inv X pins σ (upd H1 a (exo a C none)) ⟨h2, g, dr, tk, os⟩ := I1.laid (t' := tk) (a := a) (o := exo a C none) (h' := h2) kk hsz (exo_ok hget)
  have hus : us.length ≤ sizeLine := by
    rw [← Paired.length r1, sizeLine_eq]
    omega
  have hl : (Value.ref a :: us).length = ps.length := by
    have z := F1.len _ _ _ _ hq
    rw [← z]
    show us.length + 1 = vs.length + 1
    rw [r1.length]
  have b2 := hb ⟨h2, g, dr, tk, os⟩ (Value.ref a :: us) I2.kIn (by rw [List.append_nil]; exact hl)
  rw [List.append_nil] at b2
  apply wpAny_call
  refine HandSPX.call_own F.excBase_ValueError (fun Y => HandSPX.refsVE_contains Y bm hbm) (I1.kIn _ _ hC) (looks_findIn I1.kIn iC) (fun self => bind_fn I1.kIn self tI) hus ?_
  refine codeAny_mono (F1.run _ X.stack _ _ ⟨Value.ref a :: us, []⟩ (Value.ref a :: us) (V.ref a :: vs) _ (fun _ _ _ => False) (hr.make C us []) (I2.env0.make C us []) b2 (.cons rfl r1) hq) fun r s' hq' => ?_
  match r, hq' with
  | .error er, hq' => exact hx pins σ _ _ er s' I2 hq'
  | .ok .next, hq' => exact False.elim hq'
  | .ok .brk, hq' => exact False.elim hq'
  | .ok .cont, hq' => exact False.elim hq'
  | .ok (.ret u), hq' =>
    obtain ⟨v, H2, os2, bare2, un2, hok2, rv, ev, d, fs, ea, ed, hd1, q2⟩ := hq'
    subst ev
    obtain ⟨h3, g2, d2, t2, os'⟩ := s'
    obtain ⟨t0, G, J, kG, ge, hoe, na⟩ := mk_end0 (d2 := d2) (t2 := t2) I1 hsz kk un2 hok2 os2 bare2 ea ed hd1
    exact ⟨rv, a, _, _, ⟨G, g2, d2, t2, os'⟩, _, .ref C, some d, rfl, J, kG, ge, hoe, ⟨rfl, rfl, fun ws z => by cases z; rfl⟩, rfl, rfl, na, rfl, bare2, raises_own T.exC T.tyC, q2⟩
end
/-- nothing leaves, seen from a place whence something may -/
theorem passN {X : Cx} : Passes C8.CX0 X (fun _ _ _ => False) := fun _ _ _ _ _ _ _ h => h.elim
section
variable {P : Program} {w : World} {K : Frag} {mg : Str → Option Value} {base : Heap}
/-- a def of the text by its body, whatever it may let out -/
theorem FunOkC {CX : CXT} {x qual : Str} {st : Stmt} {f : Addr} {fd : FuncData} {N ps : List Str} {k : Nat} {sp : Sp} (F : L2.Fun K x qual st f fd) (S : FnScope N ps (defScope st)) (len : ∀ vs H Q E, sp vs H Q E → vs.length = ps.length)
    (hbody : ∀ (cdv : Value) (A : Around) (outer : List Env) (s : Shared) (H : Hp) (vs : List V) (Q : VK) (E : XK), Room k (A.deeper (envOfC qual (defScope st) s.heap.objs.size f cdv)) → sp vs H Q E →
      ∃ t, PSs (cxOf CX P w K mg base N qual (defScope st) f cdv A outer s H E) (defBody st) t ∧ t { nx := fun _ H' => Q .non H', rt := Q } (L2.start N vs) H) : FnOk P w K mg base CX (k + 1) f fd ps sp := by
  obtain ⟨oc, od, kV, doc, pm, an, cdv, ct, osl, rfl, lk, hcd⟩ := F.ex
  exact fn_of lk hcd S len fun A outer s H vs Q E hr hsp => hbody cdv A outer s H vs Q E hr hsp
/-! ### a promise of the very state -/
abbrev SpS := List V → List Env → Shared → Hp → VK → XK → Prop
structure FnS (P : Program) (w : World) (K : Frag) (mg : Str → Option Value) (base : Heap) (CX : CXT) (k : Nat) (f : Addr) (ps : List Str) (sp : SpS) : Prop where
  len : ∀ vs o s H Q E, sp vs o s H Q E → vs.length = ps.length
  run : ∀ (A : Around) (outer : List Env) (s : Shared) (H : Hp) (us : List Value) (vs : List V) (Q : VK) (E : XK), Room k A → Env0 P w K mg base A outer s H → Vals vs us → sp vs outer s H Q E → codeAny (model P w) A (.call (.ref f) ⟨us, []⟩) (CR CX outer P w H s Q E) s
theorem FunOkS {CX : CXT} {x qual : Str} {st : Stmt} {f : Addr} {fd : FuncData} {N ps : List Str} {k : Nat} {sp : SpS} (F : L2.Fun K x qual st f fd) (hb : Binds K fd ps []) (S : FnScope N ps (defScope st)) (len : ∀ vs o s H Q E, sp vs o s H Q E → vs.length = ps.length)
    (hbody : ∀ (cdv : Value) (A : Around) (outer : List Env) (s : Shared) (H : Hp) (vs : List V) (Q : VK) (E : XK), Room k (A.deeper (envOfC qual (defScope st) s.heap.objs.size f cdv)) → sp vs outer s H Q E →
      ∃ t, PSs (cxOf CX P w K mg base N qual (defScope st) f cdv A outer s H E) (defBody st) t ∧ t { nx := fun _ H' => Q .non H', rt := Q } (L2.start N vs) H) : FnS P w K mg base CX (k + 1) f ps sp := by
  obtain ⟨oc, od, kV, doc, pm, an, cdv, ct, osl, rfl, lk, hcd⟩ := F.ex
  refine ⟨len, fun A outer s H us vs Q E hr e0 r hsp => ?_⟩
  have hl := len _ _ _ _ _ _ hsp
  have KX : K.In s.heap := e0.mod.kin.keeps fun b o z => (e0.bs b o z).1
  have b2 := hb s us KX (by rw [List.append_nil, ← hl]; exact r.length.symm)
  rw [List.append_nil] at b2
  exact run_ofS (us := us) (vs := vs) lk hcd S hr e0 b2 r hl fun hr' => hbody cdv A outer s H vs Q E hr' hsp
end
section
variable {X : Cx} {CX : CXT} {k i : Nat} {f g : Addr} {ps fr : List Str} {F : LF} {ws : List (Option V)} {sp : SpS} {E : XK} {x a : Str} {p p1 p2 pos : Pos} {e : Expr} {es : List Expr} {t : TA} {lp : List (Option V) → Hp → VK → XK → Prop}
theorem pe_callS (G : FnS X.prog X.w X.K X.mg X.base CX k g ps sp) (hr : Room k X.A) (hg : Gl X x) (hm : X.mg x = some (.ref g)) (hk : keepIn X.K (.ref g) = true) (hx : Passes CX X E) (ha : PA X (e :: es) t) (hdb : (x == ("__debug__" : Str)) = false := by decide)
    (he : starEach (e :: es) X.env = (false, eval e X.env) :: starEach es X.env := by rfl) (hpl : (backTo pos (starEach es X.env)).any (·.1) = false := by rfl) :
    PE X (.Call (.Name x p) (e :: es) [] pos) (fun σ H Q => t σ H fun vs H1 => ∀ pins s1, Inv X pins σ H1 s1 → sp vs X.stack s1 H1 Q E) := by
  refine ⟨fun pins s σ H Q I h => ?_⟩
  refine wpAny_Call_Name_kw (ld_glob I hg hm ?_ hdb)
  refine callWith_K (h₀ := X.base) I.ok.mod.kin hk (thn (ha.run pos pins s σ H _ I h) fun us s1 hh => ?_) he hpl
  obtain ⟨vs, H1, I1, r, q⟩ := hh
  refine ⟨I1.kIn, wpAny_call (codeAny_mono (G.run X.A X.stack s1 H1 us vs Q E hr I1.env0 r (q pins s1 I1)) fun r s' hq => ?_)⟩
  match r, hq with
  | .error er, hq => exact hx pins σ H1 s1 er s' I1 hq
  | .ok (.ret u), hq => exact I1.after hq
  | .ok .next, hq => exact False.elim hq
  | .ok .brk, hq => exact False.elim hq
  | .ok .cont, hq => exact False.elim hq
/-- a(), a the slot that holds the lambda -/
theorem pe_act {E : L2.St → XK} (L : LOk X.prog X.w X.K X.mg X.base CX k f F fr lp) (A0 : Act f F fr ws X.fs X.s_0 X.H_0) (hex : X.ex = []) (hr : Room k X.A) (hx : ∀ σ, PassesAt CX X σ (E σ)) (hN : X.N[i]? = some a) (hv : Vis X.env.scope a) (hd : (a == ("__debug__" : Str)) = false := by decide) (hcd : (a == ("__classdict__" : Str)) = false := by decide) :
    PE X (.Call (.Name a p1) [] [] p2) (fun σ H Q => σ[i]? = some (some (.ref f)) ∧ Lv f F H ∧ lp ws H Q (E σ)) := by
  refine ⟨fun pins s σ H Q I h => ?_⟩
  obtain ⟨hs, lv, hq⟩ := h
  refine wpAny_Call_Name_kw (thn ((pe_var (pos := p1) (i := i) hN hv hd hcd).run pins s σ H (fun v H1 => v = .ref f ∧ H1 = H) I ⟨.ref f, hs, rfl, rfl⟩) fun u s1 hh => ?_)
  obtain ⟨v, H1, I1, r1, ev, eH⟩ := hh
  subst ev
  rw [eH] at I1
  cases r1
  obtain ⟨od, sl, pm, ct, ho⟩ := LamO.at_ I1.hok lv.fn
  refine callWith_F0 ⟨_, _, _, _, ho⟩ (wpAny_call (codeAny_mono (L X.A X.stack s1 H ws Q (E σ) hr I1.env0 lv (A0.later hex I1 lv).cells hq) fun r s' hq' => ?_))
  match r, hq' with
  | .error er, hq' => exact hx σ pins H s1 er s' I1 hq'
  | .ok (.ret u), hq' => exact I1.after hq'
  | .ok .next, hq' => exact False.elim hq'
  | .ok .brk, hq' => exact False.elim hq'
  | .ok .cont, hq' => exact False.elim hq'
end
end
section
open PySem.Spec PySem.Calls PySem.W PyProof.Rows LamX NdefX
/-! ### the caught exception, where it is pinned -/
/-- it stands at a, of the class at D, its fields fs -/
structure Cgt (X : Cx) (D a : Addr) (oe : Obj) (d : Option Addr) : Prop where
  mem : (a, oe) ∈ X.pn
  zn : L2N.Zn (.ref D) d oe
  fl : ∃ vs, oe.data = .fields vs
def FldsAt (H : Hp) (d : Option Addr) (fs : List (Str × V)) : Prop := match d with
  | none => fs = []
  | some dd => H dd = some (.xd fs)
theorem FldsAt.keep {H H' : Hp} {S : List Addr} {d : Option Addr} {fs : List (Str × V)} (h : FldsAt H d fs) (f : Fr S H H') (n : ∀ b ∈ S, ∀ fs, H b ≠ some (.xd fs)) : FldsAt H' d fs := by
  cases d with
  | none => exact h
  | some dd => exact f dd _ h fun hb => n dd hb fs h
section
variable {X : Cx} {D a : Addr} {oe : Obj} {d : Option Addr} {pins : List (Addr × Obj)} {σ : L2.St} {H : Hp} {s : Shared} {fs : List (Str × V)}
theorem Cgt.inst (c : Cgt X D a oe d) (I : Inv X pins σ H s) (hf : FldsAt H d fs) : ∃ od, InstAt s.heap a oe D od ∧ (∀ o, od = some o → ∃ mA : Str → Option Value, (∀ n, lookIn n o = some (mA n)) ∧ ∀ n, RelO (fs.lookup n) (mA n)) ∧ (od = none ↔ d = none) := by
  obtain ⟨hget, _⟩ := I.pin (a, oe) (List.mem_append_left _ c.mem)
  obtain ⟨vs, hv⟩ := c.fl
  obtain ⟨z1, z2, _⟩ := c.zn
  cases d with
  | none =>
    refine ⟨none, ⟨hget, z1, ?_, ?_⟩, (fun o z => by cases z), by simp⟩
    · unfold notCls
      rw [hv] <;> rfl
    · rw [z2]
      trivial
  | some dd =>
    have hx : ObjOk X.prog X.w H s.heap dd (.xd fs) := I.hok dd _ hf
    obtain ⟨mA, hns, hr⟩ := hx
    obtain ⟨od, ho, hl⟩ := lookIn_ns hns
    refine ⟨some od, ⟨hget, z1, ?_, ?_⟩, fun o z => by cases z; exact ⟨mA, hl, hr⟩, by simp⟩
    · unfold notCls
      rw [hv] <;> rfl
    · rw [z2]
      exact ho
/-- isinstance(e, c) -/
def rIsC (K : Frag) (D a : Addr) (d : Option Addr) : List V → Hp → VK → Prop := fun xs H Q => ∃ (c : V) (cv : Value) (b : Bool) (fs : List (Str × V)), xs = [.ref a, c] ∧ FldsAt H d fs ∧ (∀ u, RelV c u → u = cv) ∧ kitOne K (.ref D) cv = some b ∧ Q (.bl b) H
theorem call_isC (C : ExcC X.K D) (c : Cgt X D a oe d) : CallR X (.builtin "isinstance") (rIsC X.K D a d) := by
  intro pins s σ H xs us Q I r h
  obtain ⟨cl, cv, b, fs, rfl, hf, hcv, e, q⟩ := h
  cases r with
  | cons rx rr =>
    cases rr with
    | cons rt rr =>
      cases rr
      cases rx
      cases hcv _ rt
      obtain ⟨od, J, _⟩ := c.inst I hf
      have hcl : (clsIn X.K D).isSome = true := by
        obtain ⟨cd, z, _⟩ := any_some C.hd
        rw [z]
        rfl
      exact kia_one (kitx_exc hcl C.hg C.hk C.hs C.ha C.hn C.ht C.hm) I.kIn J e (fun z => nomatch z) fun tk => ⟨.bl b, H, I.kept (t' := tk) fun _ _ z => z, rfl, q⟩
/-- e.n -/
def tFldC (D a : Addr) (d : Option Addr) (n : Str) (te : TE) : TE := fun σ H Q => te σ H fun x H1 => x = .ref a ∧ ∃ (fs : List (Str × V)) (v : V), d ≠ none ∧ FldsAt H1 d fs ∧ fs.lookup n = some v ∧ Q v H1
theorem pe_fldC {e : Expr} {te : TE} {pos : Pos} {n : Str} (T : XfC X.K D) (hno : findIn X.K (.ref D) n = some none) (c : Cgt X D a oe d) (he : PE X e te) (hb : attributeBase e n X.env (eval e X.env) = eval e X.env := by rfl) : PE X (.Attribute e n pos) (tFldC D a d n te) := by
  refine ⟨fun pins s σ H Q I h => ?_⟩
  refine attr_of hb (thn (he.run pins s σ H _ I h) fun u s1 hh => ?_)
  obtain ⟨x, H1, I1, rx, ex, fs, v, hd, hf, l, q⟩ := hh
  subst ex
  obtain rfl : u = Value.ref a := rx
  obtain ⟨od, J, hA, hn⟩ := c.inst I1 hf
  cases od with
  | none => exact absurd (hn.mp rfl) hd
  | some o =>
    obtain ⟨mA, hl, hr⟩ := hA o rfl
    obtain ⟨w, hw, rw'⟩ := RelO.some_of (v := v) (o := mA n) (by rw [← l]; exact hr n)
    exact HandSPX.exc_get I1.kIn J T.ga T.gg T.exC (findObj_own T.hdC hno rfl (by rw [hl, hw])) (handed_of rw') ⟨v, H1, I1.tok _, rw', q⟩
end
/-! ### defs called while the exception p is handled -/
def FnP (P : Program) (w : World) (K : Frag) (mg : Str → Option Value) (base : Heap) (CX : CXT) (k : Nat) (f : Addr) (p : Addr × Obj) (sp : Sp) : Prop :=
  ∀ (A : Around) (outer : List Env) (s : Shared) (H : Hp) (us : List Value) (vs : List V) (Q : VK) (E : XK), L2H.RoomH k A → L2H.Hot1 A p → L2H.PinOk outer H s p → Env0 P w K mg base A outer s H → Vals vs us → sp vs H Q E → codeAny (model P w) A (.call (.ref f) ⟨us, []⟩) (CR CX outer P w H s Q E) s
section
variable {P : Program} {w : World} {K : Frag} {mg : Str → Option Value} {base : Heap}
theorem FunOkP {CX : CXT} {x qual : Str} {st : Stmt} {f : Addr} {fd : FuncData} {N ps : List Str} {k : Nat} {sp : Sp} {p : Addr × Obj} (F : L2.Fun K x qual st f fd) (hb : Binds K fd ps []) (S : FnScope N ps (defScope st)) (len : ∀ vs H Q E, sp vs H Q E → vs.length = ps.length)
    (hbody : ∀ (cdv : Value) (A : Around) (outer : List Env) (s : Shared) (H : Hp) (vs : List V) (Q : VK) (E : XK), L2H.RoomH k (A.deeper (envOfC qual (defScope st) s.heap.objs.size f cdv)) → sp vs H Q E →
      ∃ t, PSs (L2H.cxH CX P w K mg base N qual (defScope st) f cdv A outer s H E p) (defBody st) t ∧ t { nx := fun _ H' => Q .non H', rt := Q } (L2.start N vs) H) : FnP P w K mg base CX (k + 1) f p sp := by
  obtain ⟨oc, od, kV, doc, pm, an, cdv, ct, osl, rfl, lk, hcd⟩ := F.ex
  intro A outer s H us vs Q E hr hot hpin e0 r hsp
  have hl := len _ _ _ _ hsp
  have KX : K.In s.heap := e0.mod.kin.keeps fun b o z => (e0.bs b o z).1
  have lim : s.heap.NoLimit := e0.mod.nolimit.keeps fun b o z => (e0.bs b o z).1
  have b2 := hb s us KX (by rw [List.append_nil, ← hl]; exact r.length.symm)
  rw [List.append_nil] at b2
  have hkind : ∀ y ∈ ps.zip us, (defScope st).names.lookup y.1 = some .local ∨ ((defScope st).names.lookup y.1 = some .cell ∧ ((cellsFrom (s.heap.objs.size + 1) (defScope st).names []).lookup y.1).isSome = true) := fun ⟨n, v⟩ hy =>
    (S.par n (List.of_mem_zip hy).1).elim .inl fun z => .inr ⟨z, cellsFrom_some _ _ _ (.inl z)⟩
  refine codeAny_call_function hr.depth (KX _ _ lk) rfl S.co S.gen rfl (codeRec_of KX hcd) (b2 _ _ _ _ ?_)
  refine wpAny_newFunctionEnv_cells S.kind hkind fun env he s1 x => ?_
  subst he
  refine ⟨lim.keeps x.toInCall.keep, codeAny_func ?_⟩
  obtain ⟨t, ht, hq⟩ := hbody cdv A outer s H vs Q E (hr.deeper _) hsp
  refine wpAny_mono (ht.run [] s1 (L2.start N vs) H _ (L2H.inv_startH S hpin e0 hl r x) hq) (fun fl s' hs => ?_) fun e s' hs => hs
  match fl, hs with
  | .ret u, hs =>
    obtain ⟨v, σ', H', J, rv, q⟩ := hs
    exact ⟨v, H', J.os, J.bare, J.base, J.hok, rv, q⟩
  | .next, hs =>
    obtain ⟨σ', H', J, q⟩ := hs
    exact ⟨.non, H', J.os, J.bare, J.base, J.hok, rfl, q⟩
  | .brk, hs =>
    obtain ⟨_, _, _, q⟩ := hs
    exact False.elim q
  | .cont, hs =>
    obtain ⟨_, _, _, q⟩ := hs
    exact False.elim q
end
section
variable {X : Cx} {k : Nat} {f : Addr} {p : Addr × Obj} {sp : Sp} {E : XK} {x : Str} {q pos : Pos} {e : Expr} {es : List Expr} {t : TA}
theorem pe_callP (F : FnP X.prog X.w X.K X.mg X.base C8.CX0 k f p sp) (hr : L2H.RoomH k X.A) (hot : L2H.Hot1 X.A p) (hp : p ∈ X.pn) (hg : Gl X x) (hm : X.mg x = some (.ref f)) (hk : keepIn X.K (.ref f) = true) (ha : PA X (e :: es) t) (hdb : (x == ("__debug__" : Str)) = false := by decide)
    (he : starEach (e :: es) X.env = (false, eval e X.env) :: starEach es X.env := by rfl) (hpl : (backTo pos (starEach es X.env)).any (·.1) = false := by rfl) : PE X (.Call (.Name x q) (e :: es) [] pos) (tCall sp [] C8.E0 t) := by
  refine ⟨fun pins s σ H Q I h => ?_⟩
  refine wpAny_Call_Name_kw (ld_glob I hg hm ?_ hdb)
  refine callWith_K (h₀ := X.base) I.ok.mod.kin hk (thn (ha.run pos pins s σ H _ I h) fun us s1 hh => ?_) he hpl
  obtain ⟨vs, H1, I1, r, q1⟩ := hh
  rw [List.append_nil] at q1
  have P1 := I1.pin p (List.mem_append_left _ hp)
  have hpin : L2H.PinOk X.stack H1 s1 p := ⟨P1.1, P1.2.1, fun hm => (List.mem_cons.mp (I1.stkSub p.1 hm)).elim P1.2.2.1 P1.2.2.2.1, P1.2.2.2.2⟩
  refine ⟨I1.kIn, wpAny_call (codeAny_mono (F X.A X.stack s1 H1 us vs Q C8.E0 hr hot hpin I1.env0 r q1) fun r s' hq => ?_)⟩
  match r, hq with
  | .error er, hq => exact False.elim hq
  | .ok (.ret u), hq => exact I1.after hq
  | .ok .next, hq => exact False.elim hq
  | .ok .brk, hq => exact False.elim hq
  | .ok .cont, hq => exact False.elim hq
theorem any_eqU_n {x : V} : ∀ {xs : List V} {us : List Value}, Vals xs us → xs.all flatV = true → us.countP (eqU x) = xs.countP fun y => eqV y x
  | _, _, .nil, _ => rfl
  | y :: xs, u :: us, .cons r t, f => by
    rw [List.all_cons, Bool.and_eq_true] at f
    rw [List.countP_cons, List.countP_cons, any_eqU_n t f.2, eqU_of r f.1]
def rCntV (K : Frag) : V → List V → Hp → VK → Prop := fun x xs H Q => ∃ (p : Addr) (ys : List V) (y : V), x = .ref p ∧ xs = [y] ∧ SqL K H p ys ∧ flatV y = true ∧ ys.all flatV = true ∧ Q (.int (ys.countP (fun z => eqV z y) : Nat)) H
theorem mt_lcountV : MtR X "list.count" (rCntV X.K) := by
  intro pins s σ H x xs v us Q I rx rxs h
  obtain ⟨p, ys, y, rfl, rfl, hs, fy, fys, q⟩ := h
  cases rx
  obtain ⟨u, rfl, ru⟩ := rxs.one
  obtain ⟨its, rv, ⟨⟨cls, dd, data, sl⟩, n, ho, hc, hdn, hd⟩, hlen⟩ := I.list hs
  simp only at hc hd
  subst hc hd
  refine call_meets PySem.F.slot_list_count ⟨_, ho, rfl⟩ PySem.F.entry_list_count (PySem.F.args_list_count_2 _ _) (SeqAt.list_countAt p its.toArray n dd sl u (eqU y)) ⟨ho, fun z hz => mem_eqAt ru fy rv fys z (by simpa using hz), ?_⟩
  have ec : its.toArray.toList.countP (eqU y) = ys.countP fun z => eqV z y := by
    rw [show its.toArray.toList = its from rfl]
    exact any_eqU_n rv fys
  refine ⟨.int (ys.countP (fun z => eqV z y) : Nat), H, I.tok _, ⟨s.toks, ?_⟩, q⟩
  show Value.int ((its.toArray.toList.countP (eqU y) : Nat) : Int) s.toks = _
  rw [ec]
end
end
section
open PySem.Spec PySem.Calls PySem.W PyProof.Rows LamX NdefX
/-! ### the law's row, where the law makes lambdas -/
section
open Att
theorem tabIn_of {K : Frag} {x : Str} {f c P : Addr} {oc : Value} {od : Option Addr} {fd : FuncData} {sl : Array (Option Value)} {cl : Value} {cdd : Option Addr} {vs : Array Value} {csl : Array (Option Value)} (a : nsIn K mainGlobals x = some (some (.ref f))) (l : K.lookup f = some ⟨oc, od, .func fd, sl⟩) (hc : fd.code = .ref c)
    (lc : K.lookup c = some ⟨cl, cdd, .fields vs, csl⟩) (tp : (vs[11]? : Option Value) = some (.ref P)) : tabIn K x = some (c, P) := by
  unfold tabIn
  rw [a]
  simp only [l, hc, lc, tp]
theorem lawat {l : OpenLaw} {w : World} {K : Frag} {q : Program} {loose : List Str} {mean : ExcName → Option Value} {d : DefRec} {h : Heap} {mg mb : Str → Option Value} {fa c P : Addr} {fd : FuncData} {k n : Nat} {x : Str} {sp : Sp} (TT : Top q loose mean mg mb h) (X : K.In h) (nt : noTabs K = true)
    (hrec : (recsOf q).find? (fun e => e.name == ("law" : Str)) = some d) (ti : tabIn K "law" = some (c, P)) (hb : ∀ (s : Shared) (u : Value), BindsTo s fd ⟨[u], []⟩ [(x, u)]) (F : ∀ base : Heap, K.In base → base.Ns mainGlobals mg → TabB base mg c P → FnOk l.prog w K mg base C8.CX0 k fa fd [x] sp)
    (hsp : ∀ (H : Hp) (a : Addr) (ns : List Int), ns.length ≤ n → H P = some (.tbl #[]) → SqL K H a (ns.map V.int) → sp [.ref a] H (fun v _ => v = .bl true) fun _ _ _ => False) : LawAtS l w K C8.CX0 k n x mg fa h := by
  obtain ⟨C, hT⟩ := tab_of TT X hrec ti
  have one : ∀ {α : Prop} {p : Addr × Addr}, p ∈ [(c, P)] → ((p = (c, P)) → α) → α := fun hp f => f (List.mem_singleton.mp hp)
  refine ⟨fd, [(c, P)], sp, fun p hp => by rw [List.mem_singleton.mp hp]; exact hT, fun p hp => ?_, fun p hp => by rw [List.mem_singleton.mp hp]; exact C, hb, fun H a ns hl _ hH hS => hsp H a ns hl (hH (c, P) (List.mem_singleton.mpr rfl)) hS, fun base KB GB hTB => F base KB GB (hTB (c, P) (List.mem_singleton.mpr rfl))⟩
  rw [List.mem_singleton.mp hp]
  show K.lookup P = none
  cases hk : K.lookup P with
  | none => rfl
  | some o =>
    have e := X _ _ hk
    rw [hT] at e
    cases e
    unfold noTabs at nt
    have z := List.all_eq_true.mp nt _ (mem_of_lookupK hk)
    simp [tabObj] at z
theorem lawat2 {l : OpenLaw} {w : World} {K : Frag} {q : Program} {loose : List Str} {mean : ExcName → Option Value} {d d2 : DefRec} {h : Heap} {mg mb : Str → Option Value} {fa c P c2 P2 : Addr} {fd : FuncData} {k n : Nat} {x x2 : Str} {sp : Sp} (TT : Top q loose mean mg mb h) (X : K.In h) (nt : noTabs K = true)
    (hrec : (recsOf q).find? (fun e => e.name == ("law" : Str)) = some d) (ti : tabIn K "law" = some (c, P)) (hrec2 : (recsOf q).find? (fun e => e.name == x2) = some d2) (ti2 : tabIn K x2 = some (c2, P2)) (hb : ∀ (s : Shared) (u : Value), BindsTo s fd ⟨[u], []⟩ [(x, u)]) (F : ∀ base : Heap, K.In base → base.Ns mainGlobals mg → TabB base mg c P → TabB base mg c2 P2 → FnOk l.prog w K mg base C8.CX0 k fa fd [x] sp)
    (hsp : ∀ (H : Hp) (a : Addr) (ns : List Int), ns.length ≤ n → H P = some (.tbl #[]) → H P2 = some (.tbl #[]) → SqL K H a (ns.map V.int) → sp [.ref a] H (fun v _ => v = .bl true) fun _ _ _ => False) : LawAtS l w K C8.CX0 k n x mg fa h := by
  obtain ⟨C, hT⟩ := tab_of TT X hrec ti
  obtain ⟨C2, hT2⟩ := tab_of TT X hrec2 ti2
  have none_of : ∀ {c P : Addr}, h.get? P = some { cls := .none, data := .fields #[] } → K.lookup P = none := fun {c P} hT => by
    cases hk : K.lookup P with
    | none => rfl
    | some o =>
      have e := X _ _ hk
      rw [hT] at e
      cases e
      unfold noTabs at nt
      have z := List.all_eq_true.mp nt _ (mem_of_lookupK hk)
      simp [tabObj] at z
  have two : ∀ {R : Addr × Addr → Prop}, R (c, P) → R (c2, P2) → ∀ p ∈ [(c, P), (c2, P2)], R p := fun r1 r2 p hp => by
    rcases List.mem_cons.mp hp with e | hp
    · rw [e]; exact r1
    · rw [List.mem_singleton.mp hp]; exact r2
  exact ⟨fd, [(c, P), (c2, P2)], sp, two (R := fun p => h.get? p.2 = some { cls := .none, data := .fields #[] }) hT hT2, two (R := fun p => K.lookup p.2 = none) (none_of (c := c) hT) (none_of (c := c) hT2), two (R := fun p => CodeHd h p.1 p.2) C C2, hb,
    fun H a ns hl _ hH hS => hsp H a ns hl (hH (c, P) (List.mem_cons_self)) (hH (c2, P2) (List.mem_cons_of_mem _ (List.mem_singleton.mpr rfl))) hS, fun base KB GB hTB => F base KB GB (hTB (c, P) (List.mem_cons_self)) (hTB (c2, P2) (List.mem_cons_of_mem _ (List.mem_singleton.mpr rfl)))⟩
theorem walk_lam {l : OpenLaw} {n k : Nat} {q : Program} {loose : List Str} {XP : (Str → Option Value) → Heap → Prop} {YP : World → Heap → Prop} {d : DefRec} {K : Params → Frag} {x : Str} (hn : l.most = some n) (hn2 : n ≤ sizeLine) (hdf : d.params.defaults = []) (hr : Room k callerA) (hY : ∀ (w : World) (h : Heap), YP w h → (K w.params).In h)
    (F : ∀ (w : World) (lo : List Str) (mean : ExcName → Option Value) (mg mb : Str → Option Value) (fa : Addr) (h : Heap), (K w.params).In h → Top q lo mean mg mb h → mg d.name = some (.ref fa) → LawAtS l w (K w.params) C8.CX0 k n x mg fa h) : WalkO q loose XP YP l.row.toRowW d [] (fun f vs => PySem.call f vs) := by
  refine attach_callB hn hdf fun w s₀ s₁ mg mb fa o pm cd doc a vs ns G Y ho hd hcd hmg hobj hints hlen hbits hg => ?_
  have KX := hY w _ Y
  obtain ⟨fd, cs, sp, hT, nT, C, hb, hsp, hF⟩ := F w _ _ mg mb fa _ KX G.T hmg
  exact law_callTs KX G.T.g G.T.b G.T.builtins G.T.nolimit hg hT nT C G.T.bmain hobj hints (Nat.le_trans hlen hn2) hr hF hb (fun H hH hS => hsp H a ns hlen hbits hH hS) fun H e s' z => z
end
end
def top (i : Nat) : Stmt := PySem.Challenge.pw_keepbefore_k60_plans_judged.main.body.getD i (.Pass ⟨0, 0, 0, 0⟩)
abbrev s_is_number : Stmt := top 30
theorem sc_is_number : FnScope ["thing"] ["thing"] (defScope s_is_number) := ⟨rfl, rfl, rfl, by decide +kernel, rfl, by decide +kernel, by decide +kernel⟩
abbrev s_is_number_from : Stmt := top 31
theorem sc_is_number_from : FnScope ["thing", "least", "most"] ["thing", "least", "most"] (defScope s_is_number_from) := ⟨rfl, rfl, rfl, by decide +kernel, rfl, by decide +kernel, by decide +kernel⟩
abbrev s_check_slots : Stmt := top 32
theorem sc_check_slots : FnScope ["slots", "most"] ["slots", "most"] (defScope s_check_slots) := ⟨rfl, rfl, rfl, by decide +kernel, rfl, by decide +kernel, by decide +kernel⟩
abbrev s_fewest_misses : Stmt := top 36
theorem sc_fewest_misses : FnScope ["slots", "blocks", "kept", "plan", "at", "block", "entry"] ["slots", "blocks"] (defScope s_fewest_misses) := ⟨rfl, rfl, rfl, by decide +kernel, rfl, by decide +kernel, by decide +kernel⟩
abbrev s_judge_plan : Stmt := top 37
theorem sc_judge_plan : FnScope ["slots", "blocks", "plan", "kept", "misses", "at", "block"] ["slots", "blocks", "plan"] (defScope s_judge_plan) := ⟨rfl, rfl, rfl, by decide +kernel, rfl, by decide +kernel, by decide +kernel⟩
abbrev s__check_reads : Stmt := top 38
theorem sc__check_reads : FnScope ["slots", "blocks", "index", "block"] ["slots", "blocks"] (defScope s__check_reads) := ⟨rfl, rfl, rfl, by decide +kernel, rfl, by decide +kernel, by decide +kernel⟩
abbrev s__can_be : Stmt := top 41
theorem sc__can_be : FnScope ["slots", "kept", "block", "entry"] ["slots", "kept", "block", "entry"] (defScope s__can_be) := ⟨rfl, rfl, rfl, by decide +kernel, rfl, by decide +kernel, by decide +kernel⟩
abbrev s__kept_after : Stmt := top 42
theorem sc__kept_after : FnScope ["kept", "block", "entry", "other"] ["kept", "block", "entry"] (defScope s__kept_after) := ⟨rfl, rfl, rfl, by decide +kernel, rfl, by decide +kernel, by decide +kernel⟩
abbrev s__law_random : Stmt := top 44
theorem sc__law_random : FnScope ["_law_script", "_law_salt", "_law_seed", "_law_cell"] ["_law_script", "_law_salt"] (defScope s__law_random) := ⟨rfl, rfl, rfl, by decide +kernel, rfl, by decide +kernel, by decide +kernel⟩
abbrev s__law_below : Stmt := top 45
theorem sc__law_below : FnScope ["_law_d", "_law_limit", "_law_result"] ["_law_d", "_law_limit"] (defScope s__law_below) := ⟨rfl, rfl, rfl, by decide +kernel, rfl, by decide +kernel, by decide +kernel⟩
abbrev s__law_equal : Stmt := top 50
theorem sc__law_equal : FnScope ["_law_actual", "_law_expected", "_law_k"] ["_law_actual", "_law_expected"] (defScope s__law_equal) := ⟨rfl, rfl, rfl, by decide +kernel, rfl, by decide +kernel, by decide +kernel⟩
abbrev s__law_told_of : Stmt := top 46
theorem sc__law_told_of : FnScope ["_law_e", "_law_name"] ["_law_e", "_law_name"] (defScope s__law_told_of) := ⟨rfl, rfl, rfl, by decide +kernel, rfl, by decide +kernel, by decide +kernel⟩
abbrev s__law_error_of : Stmt := top 47
theorem sc__law_error_of : FnScope ["_law_call", "_law_e", "_law_kinds", "_law_names"] ["_law_call"] (defScope s__law_error_of) := ⟨rfl, rfl, rfl, by decide +kernel, rfl, by decide +kernel, by decide +kernel⟩
abbrev s__law_all_raise : Stmt := top 48
theorem sc__law_all_raise : FnScope ["_law_calls", "_law_expected", "_law_call"] ["_law_calls", "_law_expected"] (defScope s__law_all_raise) := ⟨rfl, rfl, rfl, by decide +kernel, rfl, by decide +kernel, by decide +kernel⟩
abbrev s__law_are_refused : Stmt := top 49
theorem sc__law_are_refused : FnScope ["_law_d", "_law_far", "_law_calls", "_law_good", "_law_at", "_law_odd", "_law_index", "_law_given", "_law_size", "_law_slots", "_law_k"] ["_law_d"] (defScope s__law_are_refused) := ⟨rfl, rfl, rfl, by decide +kernel, rfl, by decide +kernel, by decide +kernel⟩
abbrev s_law : Stmt := top 51
theorem sc_law : FnScope ["_law_script", "_law_d", "_law_step", "_law_few", "_law_kept", "_law_plan", "_law_misses", "_law_bad", "_law_block", "_law_some", "_law_entry", "_law_odd", "_law_at", "_law_index", "_law_blocks", "_law_given", "_law_slots", "_law_k", "_law_other"] ["_law_script"] (defScope s_law) := ⟨rfl, rfl, rfl, by decide +kernel, rfl, by decide +kernel, by decide +kernel⟩
abbrev s_InvalidRequests___init__ : Stmt := inClass (top 13) 0
theorem sc_InvalidRequests___init__ : NdefX.NScope ["self", "index", "__class__"] ["self", "index"] ["__class__"] (defScope s_InvalidRequests___init__) := NdefX.nscope_by (by decide +kernel)
abbrev s_InvalidPlan___init__ : Stmt := inClass (top 15) 0
theorem sc_InvalidPlan___init__ : NdefX.NScope ["self", "index", "__class__"] ["self", "index"] ["__class__"] (defScope s_InvalidPlan___init__) := NdefX.nscope_by (by decide +kernel)
structure Gx (K : PySem.W.Frag) (mg : Str → Option Value) where
  f_is_number : Addr
  fd_is_number : FuncData
  F_is_number : Fun K "is_number" "is_number" s_is_number f_is_number fd_is_number
  g_is_number : mg "is_number" = some (.ref f_is_number)
  f_is_number_from : Addr
  fd_is_number_from : FuncData
  F_is_number_from : Fun K "is_number_from" "is_number_from" s_is_number_from f_is_number_from fd_is_number_from
  g_is_number_from : mg "is_number_from" = some (.ref f_is_number_from)
  f_check_slots : Addr
  fd_check_slots : FuncData
  F_check_slots : FunD K "check_slots" "check_slots" (defArgs s_check_slots) (defBody s_check_slots) (defScope s_check_slots) [.int 8] [] f_check_slots fd_check_slots
  g_check_slots : mg "check_slots" = some (.ref f_check_slots)
  f_fewest_misses : Addr
  fd_fewest_misses : FuncData
  F_fewest_misses : Fun K "fewest_misses" "fewest_misses" s_fewest_misses f_fewest_misses fd_fewest_misses
  g_fewest_misses : mg "fewest_misses" = some (.ref f_fewest_misses)
  f_judge_plan : Addr
  fd_judge_plan : FuncData
  F_judge_plan : Fun K "judge_plan" "judge_plan" s_judge_plan f_judge_plan fd_judge_plan
  g_judge_plan : mg "judge_plan" = some (.ref f_judge_plan)
  f__check_reads : Addr
  fd__check_reads : FuncData
  F__check_reads : Fun K "_check_reads" "_check_reads" s__check_reads f__check_reads fd__check_reads
  g__check_reads : mg "_check_reads" = some (.ref f__check_reads)
  f__can_be : Addr
  fd__can_be : FuncData
  F__can_be : Fun K "_can_be" "_can_be" s__can_be f__can_be fd__can_be
  g__can_be : mg "_can_be" = some (.ref f__can_be)
  f__kept_after : Addr
  fd__kept_after : FuncData
  F__kept_after : Fun K "_kept_after" "_kept_after" s__kept_after f__kept_after fd__kept_after
  g__kept_after : mg "_kept_after" = some (.ref f__kept_after)
  f__law_random : Addr
  fd__law_random : FuncData
  F__law_random : Fun K "_law_random" "_law_random" s__law_random f__law_random fd__law_random
  g__law_random : mg "_law_random" = some (.ref f__law_random)
  f__law_below : Addr
  fd__law_below : FuncData
  F__law_below : Fun K "_law_below" "_law_below" s__law_below f__law_below fd__law_below
  g__law_below : mg "_law_below" = some (.ref f__law_below)
  f__law_equal : Addr
  fd__law_equal : FuncData
  F__law_equal : Fun K "_law_equal" "_law_equal" s__law_equal f__law_equal fd__law_equal
  g__law_equal : mg "_law_equal" = some (.ref f__law_equal)
  f__law_told_of : Addr
  fd__law_told_of : FuncData
  F__law_told_of : Fun K "_law_told_of" "_law_told_of" s__law_told_of f__law_told_of fd__law_told_of
  g__law_told_of : mg "_law_told_of" = some (.ref f__law_told_of)
  f__law_error_of : Addr
  fd__law_error_of : FuncData
  F__law_error_of : Fun K "_law_error_of" "_law_error_of" s__law_error_of f__law_error_of fd__law_error_of
  g__law_error_of : mg "_law_error_of" = some (.ref f__law_error_of)
  f__law_all_raise : Addr
  fd__law_all_raise : FuncData
  F__law_all_raise : Fun K "_law_all_raise" "_law_all_raise" s__law_all_raise f__law_all_raise fd__law_all_raise
  g__law_all_raise : mg "_law_all_raise" = some (.ref f__law_all_raise)
  f__law_are_refused : Addr
  g__law_are_refused : mg "_law_are_refused" = some (.ref f__law_are_refused)
  kp__law_are_refused : PySem.W.keepIn K (.ref f__law_are_refused) = true
  z_isinstance : mg "isinstance" = none
  z_int : mg "int" = none
  z_bool : mg "bool" = none
  z_str : mg "str" = none
  z_list : mg "list" = none
  z_tuple : mg "tuple" = none
  z_len : mg "len" = none
  z_abs : mg "abs" = none
  z_range : mg "range" = none
  z_enumerate : mg "enumerate" = none
  z_min : mg "min" = none
  z_max : mg "max" = none
  z_all : mg "all" = none
  z_super : mg "super" = none
  z_ValueError : mg "ValueError" = none
  t_MOST_READS : Tok
  c_MOST_READS : mg "MOST_READS" = some (.int 14 t_MOST_READS)
  t_MOST_READ_BLOCK : Tok
  c_MOST_READ_BLOCK : mg "MOST_READ_BLOCK" = some (.int 15 t_MOST_READ_BLOCK)
  file : Str
  third : PySem.W.nsIn K cStatics "thirdparty.any" = some none
  C_InvalidSize : Addr
  gC_InvalidSize : mg "InvalidSize" = some (.ref C_InvalidSize)
  ic_InvalidSize : PySem.W.isClsIn K C_InvalidSize = true
  ty_InvalidSize : PySem.W.typeIn K (.ref C_InvalidSize) = some (.type "type")
  C_InvalidCell : Addr
  gC_InvalidCell : mg "InvalidCell" = some (.ref C_InvalidCell)
  ic_InvalidCell : PySem.W.isClsIn K C_InvalidCell = true
  ty_InvalidCell : PySem.W.typeIn K (.ref C_InvalidCell) = some (.type "type")
  C_InvalidKept : Addr
  gC_InvalidKept : mg "InvalidKept" = some (.ref C_InvalidKept)
  ic_InvalidKept : PySem.W.isClsIn K C_InvalidKept = true
  ty_InvalidKept : PySem.W.typeIn K (.ref C_InvalidKept) = some (.type "type")
  C_InvalidBlock : Addr
  gC_InvalidBlock : mg "InvalidBlock" = some (.ref C_InvalidBlock)
  ic_InvalidBlock : PySem.W.isClsIn K C_InvalidBlock = true
  ty_InvalidBlock : PySem.W.typeIn K (.ref C_InvalidBlock) = some (.type "type")
  C_InvalidValue : Addr
  gC_InvalidValue : mg "InvalidValue" = some (.ref C_InvalidValue)
  ic_InvalidValue : PySem.W.isClsIn K C_InvalidValue = true
  ty_InvalidValue : PySem.W.typeIn K (.ref C_InvalidValue) = some (.type "type")
  C_InvalidCount : Addr
  gC_InvalidCount : mg "InvalidCount" = some (.ref C_InvalidCount)
  ic_InvalidCount : PySem.W.isClsIn K C_InvalidCount = true
  ty_InvalidCount : PySem.W.typeIn K (.ref C_InvalidCount) = some (.type "type")
  C_InvalidSlot : Addr
  gC_InvalidSlot : mg "InvalidSlot" = some (.ref C_InvalidSlot)
  ic_InvalidSlot : PySem.W.isClsIn K C_InvalidSlot = true
  ty_InvalidSlot : PySem.W.typeIn K (.ref C_InvalidSlot) = some (.type "type")
  C_InvalidWord : Addr
  gC_InvalidWord : mg "InvalidWord" = some (.ref C_InvalidWord)
  ic_InvalidWord : PySem.W.isClsIn K C_InvalidWord = true
  ty_InvalidWord : PySem.W.typeIn K (.ref C_InvalidWord) = some (.type "type")
  C_InvalidStory : Addr
  gC_InvalidStory : mg "InvalidStory" = some (.ref C_InvalidStory)
  ic_InvalidStory : PySem.W.isClsIn K C_InvalidStory = true
  ty_InvalidStory : PySem.W.typeIn K (.ref C_InvalidStory) = some (.type "type")
  C_PowerOff : Addr
  gC_PowerOff : mg "PowerOff" = some (.ref C_PowerOff)
  ic_PowerOff : PySem.W.isClsIn K C_PowerOff = true
  ty_PowerOff : PySem.W.typeIn K (.ref C_PowerOff) = some (.type "type")
  C_PowerOn : Addr
  gC_PowerOn : mg "PowerOn" = some (.ref C_PowerOn)
  ic_PowerOn : PySem.W.isClsIn K C_PowerOn = true
  ty_PowerOn : PySem.W.typeIn K (.ref C_PowerOn) = some (.type "type")
  C_NoFastDisk : Addr
  gC_NoFastDisk : mg "NoFastDisk" = some (.ref C_NoFastDisk)
  ic_NoFastDisk : PySem.W.isClsIn K C_NoFastDisk = true
  ty_NoFastDisk : PySem.W.typeIn K (.ref C_NoFastDisk) = some (.type "type")
  C_HasFastDisk : Addr
  gC_HasFastDisk : mg "HasFastDisk" = some (.ref C_HasFastDisk)
  ic_HasFastDisk : PySem.W.isClsIn K C_HasFastDisk = true
  ty_HasFastDisk : PySem.W.typeIn K (.ref C_HasFastDisk) = some (.type "type")
  C_Unsettled : Addr
  gC_Unsettled : mg "Unsettled" = some (.ref C_Unsettled)
  ic_Unsettled : PySem.W.isClsIn K C_Unsettled = true
  ty_Unsettled : PySem.W.typeIn K (.ref C_Unsettled) = some (.type "type")
  C_Contradiction : Addr
  gC_Contradiction : mg "Contradiction" = some (.ref C_Contradiction)
  ic_Contradiction : PySem.W.isClsIn K C_Contradiction = true
  ty_Contradiction : PySem.W.typeIn K (.ref C_Contradiction) = some (.type "type")
  C_InvalidName : Addr
  gC_InvalidName : mg "InvalidName" = some (.ref C_InvalidName)
  ic_InvalidName : PySem.W.isClsIn K C_InvalidName = true
  ty_InvalidName : PySem.W.typeIn K (.ref C_InvalidName) = some (.type "type")
  C_UnknownName : Addr
  gC_UnknownName : mg "UnknownName" = some (.ref C_UnknownName)
  ic_UnknownName : PySem.W.isClsIn K C_UnknownName = true
  ty_UnknownName : PySem.W.typeIn K (.ref C_UnknownName) = some (.type "type")
  C_InvalidRules : Addr
  gC_InvalidRules : mg "InvalidRules" = some (.ref C_InvalidRules)
  ic_InvalidRules : PySem.W.isClsIn K C_InvalidRules = true
  ty_InvalidRules : PySem.W.typeIn K (.ref C_InvalidRules) = some (.type "type")
  C_InvalidRecipes : Addr
  gC_InvalidRecipes : mg "InvalidRecipes" = some (.ref C_InvalidRecipes)
  ic_InvalidRecipes : PySem.W.isClsIn K C_InvalidRecipes = true
  ty_InvalidRecipes : PySem.W.typeIn K (.ref C_InvalidRecipes) = some (.type "type")
  C_InvalidRequests : Addr
  gC_InvalidRequests : mg "InvalidRequests" = some (.ref C_InvalidRequests)
  ic_InvalidRequests : PySem.W.isClsIn K C_InvalidRequests = true
  ty_InvalidRequests : PySem.W.typeIn K (.ref C_InvalidRequests) = some (.type "type")
  C_InvalidPrices : Addr
  gC_InvalidPrices : mg "InvalidPrices" = some (.ref C_InvalidPrices)
  ic_InvalidPrices : PySem.W.isClsIn K C_InvalidPrices = true
  ty_InvalidPrices : PySem.W.typeIn K (.ref C_InvalidPrices) = some (.type "type")
  C_InvalidPlan : Addr
  gC_InvalidPlan : mg "InvalidPlan" = some (.ref C_InvalidPlan)
  ic_InvalidPlan : PySem.W.isClsIn K C_InvalidPlan = true
  ty_InvalidPlan : PySem.W.typeIn K (.ref C_InvalidPlan) = some (.type "type")
  C_PowerFailed : Addr
  gC_PowerFailed : mg "PowerFailed" = some (.ref C_PowerFailed)
  ic_PowerFailed : PySem.W.isClsIn K C_PowerFailed = true
  ty_PowerFailed : PySem.W.typeIn K (.ref C_PowerFailed) = some (.type "type")
  C_InvalidOperation : Addr
  gC_InvalidOperation : mg "InvalidOperation" = some (.ref C_InvalidOperation)
  ic_InvalidOperation : PySem.W.isClsIn K C_InvalidOperation = true
  ty_InvalidOperation : PySem.W.typeIn K (.ref C_InvalidOperation) = some (.type "type")
  C_NotationError : Addr
  gC_NotationError : mg "NotationError" = some (.ref C_NotationError)
  ic_NotationError : PySem.W.isClsIn K C_NotationError = true
  ty_NotationError : PySem.W.typeIn K (.ref C_NotationError) = some (.type "type")
  C_DecodeError : Addr
  gC_DecodeError : mg "DecodeError" = some (.ref C_DecodeError)
  ic_DecodeError : PySem.W.isClsIn K C_DecodeError = true
  ty_DecodeError : PySem.W.typeIn K (.ref C_DecodeError) = some (.type "type")
  C_PairError : Addr
  gC_PairError : mg "PairError" = some (.ref C_PairError)
  ic_PairError : PySem.W.isClsIn K C_PairError = true
  ty_PairError : PySem.W.typeIn K (.ref C_PairError) = some (.type "type")
  pb : PySem.W.subIn K (.ref C_PairError) (.type "BaseException") = some true
  ph : PySem.W.hasDictIn K C_PairError = true
  sb_InvalidSize_InvalidSize : PySem.W.subIn K (.ref C_InvalidSize) (.ref C_InvalidSize) = some true
  sb_InvalidSize_InvalidCell : PySem.W.subIn K (.ref C_InvalidSize) (.ref C_InvalidCell) = some false
  sb_InvalidSize_InvalidKept : PySem.W.subIn K (.ref C_InvalidSize) (.ref C_InvalidKept) = some false
  sb_InvalidSize_InvalidBlock : PySem.W.subIn K (.ref C_InvalidSize) (.ref C_InvalidBlock) = some false
  sb_InvalidSize_InvalidValue : PySem.W.subIn K (.ref C_InvalidSize) (.ref C_InvalidValue) = some false
  sb_InvalidSize_InvalidCount : PySem.W.subIn K (.ref C_InvalidSize) (.ref C_InvalidCount) = some false
  sb_InvalidSize_InvalidSlot : PySem.W.subIn K (.ref C_InvalidSize) (.ref C_InvalidSlot) = some false
  sb_InvalidSize_InvalidWord : PySem.W.subIn K (.ref C_InvalidSize) (.ref C_InvalidWord) = some false
  sb_InvalidSize_InvalidStory : PySem.W.subIn K (.ref C_InvalidSize) (.ref C_InvalidStory) = some false
  sb_InvalidSize_PowerOff : PySem.W.subIn K (.ref C_InvalidSize) (.ref C_PowerOff) = some false
  sb_InvalidSize_PowerOn : PySem.W.subIn K (.ref C_InvalidSize) (.ref C_PowerOn) = some false
  sb_InvalidSize_NoFastDisk : PySem.W.subIn K (.ref C_InvalidSize) (.ref C_NoFastDisk) = some false
  sb_InvalidSize_HasFastDisk : PySem.W.subIn K (.ref C_InvalidSize) (.ref C_HasFastDisk) = some false
  sb_InvalidSize_Unsettled : PySem.W.subIn K (.ref C_InvalidSize) (.ref C_Unsettled) = some false
  sb_InvalidSize_Contradiction : PySem.W.subIn K (.ref C_InvalidSize) (.ref C_Contradiction) = some false
  sb_InvalidSize_InvalidName : PySem.W.subIn K (.ref C_InvalidSize) (.ref C_InvalidName) = some false
  sb_InvalidSize_UnknownName : PySem.W.subIn K (.ref C_InvalidSize) (.ref C_UnknownName) = some false
  sb_InvalidSize_InvalidRules : PySem.W.subIn K (.ref C_InvalidSize) (.ref C_InvalidRules) = some false
  sb_InvalidSize_InvalidRecipes : PySem.W.subIn K (.ref C_InvalidSize) (.ref C_InvalidRecipes) = some false
  sb_InvalidSize_InvalidRequests : PySem.W.subIn K (.ref C_InvalidSize) (.ref C_InvalidRequests) = some false
  sb_InvalidSize_InvalidPrices : PySem.W.subIn K (.ref C_InvalidSize) (.ref C_InvalidPrices) = some false
  sb_InvalidSize_InvalidPlan : PySem.W.subIn K (.ref C_InvalidSize) (.ref C_InvalidPlan) = some false
  sb_InvalidSize_PowerFailed : PySem.W.subIn K (.ref C_InvalidSize) (.ref C_PowerFailed) = some false
  sb_InvalidSize_InvalidOperation : PySem.W.subIn K (.ref C_InvalidSize) (.ref C_InvalidOperation) = some false
  sb_InvalidSize_NotationError : PySem.W.subIn K (.ref C_InvalidSize) (.ref C_NotationError) = some false
  sb_InvalidSize_DecodeError : PySem.W.subIn K (.ref C_InvalidSize) (.ref C_DecodeError) = some false
  sb_InvalidSize_PairError : PySem.W.subIn K (.ref C_InvalidSize) (.ref C_PairError) = some true
  vb_InvalidSize : PySem.W.subIn K (.ref C_InvalidSize) (.type "ValueError") = some true
  E_InvalidSize : ExcC K C_InvalidSize
  kp_InvalidSize : PySem.W.keepIn K (.ref C_InvalidSize) = true
  pl_InvalidSize : PySem.W.excIn K C_InvalidSize PySem.HandSPX.veTail "ValueError.__new__" = true
  sb_InvalidRequests_InvalidSize : PySem.W.subIn K (.ref C_InvalidRequests) (.ref C_InvalidSize) = some false
  sb_InvalidRequests_InvalidCell : PySem.W.subIn K (.ref C_InvalidRequests) (.ref C_InvalidCell) = some false
  sb_InvalidRequests_InvalidKept : PySem.W.subIn K (.ref C_InvalidRequests) (.ref C_InvalidKept) = some false
  sb_InvalidRequests_InvalidBlock : PySem.W.subIn K (.ref C_InvalidRequests) (.ref C_InvalidBlock) = some false
  sb_InvalidRequests_InvalidValue : PySem.W.subIn K (.ref C_InvalidRequests) (.ref C_InvalidValue) = some false
  sb_InvalidRequests_InvalidCount : PySem.W.subIn K (.ref C_InvalidRequests) (.ref C_InvalidCount) = some false
  sb_InvalidRequests_InvalidSlot : PySem.W.subIn K (.ref C_InvalidRequests) (.ref C_InvalidSlot) = some false
  sb_InvalidRequests_InvalidWord : PySem.W.subIn K (.ref C_InvalidRequests) (.ref C_InvalidWord) = some false
  sb_InvalidRequests_InvalidStory : PySem.W.subIn K (.ref C_InvalidRequests) (.ref C_InvalidStory) = some false
  sb_InvalidRequests_PowerOff : PySem.W.subIn K (.ref C_InvalidRequests) (.ref C_PowerOff) = some false
  sb_InvalidRequests_PowerOn : PySem.W.subIn K (.ref C_InvalidRequests) (.ref C_PowerOn) = some false
  sb_InvalidRequests_NoFastDisk : PySem.W.subIn K (.ref C_InvalidRequests) (.ref C_NoFastDisk) = some false
  sb_InvalidRequests_HasFastDisk : PySem.W.subIn K (.ref C_InvalidRequests) (.ref C_HasFastDisk) = some false
  sb_InvalidRequests_Unsettled : PySem.W.subIn K (.ref C_InvalidRequests) (.ref C_Unsettled) = some false
  sb_InvalidRequests_Contradiction : PySem.W.subIn K (.ref C_InvalidRequests) (.ref C_Contradiction) = some false
  sb_InvalidRequests_InvalidName : PySem.W.subIn K (.ref C_InvalidRequests) (.ref C_InvalidName) = some false
  sb_InvalidRequests_UnknownName : PySem.W.subIn K (.ref C_InvalidRequests) (.ref C_UnknownName) = some false
  sb_InvalidRequests_InvalidRules : PySem.W.subIn K (.ref C_InvalidRequests) (.ref C_InvalidRules) = some false
  sb_InvalidRequests_InvalidRecipes : PySem.W.subIn K (.ref C_InvalidRequests) (.ref C_InvalidRecipes) = some false
  sb_InvalidRequests_InvalidRequests : PySem.W.subIn K (.ref C_InvalidRequests) (.ref C_InvalidRequests) = some true
  sb_InvalidRequests_InvalidPrices : PySem.W.subIn K (.ref C_InvalidRequests) (.ref C_InvalidPrices) = some false
  sb_InvalidRequests_InvalidPlan : PySem.W.subIn K (.ref C_InvalidRequests) (.ref C_InvalidPlan) = some false
  sb_InvalidRequests_PowerFailed : PySem.W.subIn K (.ref C_InvalidRequests) (.ref C_PowerFailed) = some false
  sb_InvalidRequests_InvalidOperation : PySem.W.subIn K (.ref C_InvalidRequests) (.ref C_InvalidOperation) = some false
  sb_InvalidRequests_NotationError : PySem.W.subIn K (.ref C_InvalidRequests) (.ref C_NotationError) = some false
  sb_InvalidRequests_DecodeError : PySem.W.subIn K (.ref C_InvalidRequests) (.ref C_DecodeError) = some false
  sb_InvalidRequests_PairError : PySem.W.subIn K (.ref C_InvalidRequests) (.ref C_PairError) = some true
  vb_InvalidRequests : PySem.W.subIn K (.ref C_InvalidRequests) (.type "ValueError") = some true
  E_InvalidRequests : ExcC K C_InvalidRequests
  kp_InvalidRequests : PySem.W.keepIn K (.ref C_InvalidRequests) = true
  f_InvalidRequests___init__ : Addr
  fd_InvalidRequests___init__ : FuncData
  cc_InvalidRequests___init__ : Addr
  S_InvalidRequests___init__ : FunS K file "__init__" "InvalidRequests.__init__" s_InvalidRequests___init__ C_InvalidRequests cc_InvalidRequests___init__ f_InvalidRequests___init__ fd_InvalidRequests___init__
  O_InvalidRequests : OexC K C_InvalidRequests
  iC_InvalidRequests : PySem.W.findIn K (.ref C_InvalidRequests) "__init__" = some (some (.ref f_InvalidRequests___init__))
  tI_InvalidRequests : PySem.W.typeIn K (.ref f_InvalidRequests___init__) = some (.type "function")
  mr_InvalidRequests : PySem.W.mroIn K C_InvalidRequests (.ref C_InvalidRequests) = some true
  su_InvalidRequests : PySem.W.ks_superIn K C_InvalidRequests C_InvalidRequests "__init__" = some (some (.builtin "ValueError.__init__"))
  no_InvalidRequests_index : PySem.W.findIn K (.ref C_InvalidRequests) "index" = some none
  sb_InvalidPlan_InvalidSize : PySem.W.subIn K (.ref C_InvalidPlan) (.ref C_InvalidSize) = some false
  sb_InvalidPlan_InvalidCell : PySem.W.subIn K (.ref C_InvalidPlan) (.ref C_InvalidCell) = some false
  sb_InvalidPlan_InvalidKept : PySem.W.subIn K (.ref C_InvalidPlan) (.ref C_InvalidKept) = some false
  sb_InvalidPlan_InvalidBlock : PySem.W.subIn K (.ref C_InvalidPlan) (.ref C_InvalidBlock) = some false
  sb_InvalidPlan_InvalidValue : PySem.W.subIn K (.ref C_InvalidPlan) (.ref C_InvalidValue) = some false
  sb_InvalidPlan_InvalidCount : PySem.W.subIn K (.ref C_InvalidPlan) (.ref C_InvalidCount) = some false
  sb_InvalidPlan_InvalidSlot : PySem.W.subIn K (.ref C_InvalidPlan) (.ref C_InvalidSlot) = some false
  sb_InvalidPlan_InvalidWord : PySem.W.subIn K (.ref C_InvalidPlan) (.ref C_InvalidWord) = some false
  sb_InvalidPlan_InvalidStory : PySem.W.subIn K (.ref C_InvalidPlan) (.ref C_InvalidStory) = some false
  sb_InvalidPlan_PowerOff : PySem.W.subIn K (.ref C_InvalidPlan) (.ref C_PowerOff) = some false
  sb_InvalidPlan_PowerOn : PySem.W.subIn K (.ref C_InvalidPlan) (.ref C_PowerOn) = some false
  sb_InvalidPlan_NoFastDisk : PySem.W.subIn K (.ref C_InvalidPlan) (.ref C_NoFastDisk) = some false
  sb_InvalidPlan_HasFastDisk : PySem.W.subIn K (.ref C_InvalidPlan) (.ref C_HasFastDisk) = some false
  sb_InvalidPlan_Unsettled : PySem.W.subIn K (.ref C_InvalidPlan) (.ref C_Unsettled) = some false
  sb_InvalidPlan_Contradiction : PySem.W.subIn K (.ref C_InvalidPlan) (.ref C_Contradiction) = some false
  sb_InvalidPlan_InvalidName : PySem.W.subIn K (.ref C_InvalidPlan) (.ref C_InvalidName) = some false
  sb_InvalidPlan_UnknownName : PySem.W.subIn K (.ref C_InvalidPlan) (.ref C_UnknownName) = some false
  sb_InvalidPlan_InvalidRules : PySem.W.subIn K (.ref C_InvalidPlan) (.ref C_InvalidRules) = some false
  sb_InvalidPlan_InvalidRecipes : PySem.W.subIn K (.ref C_InvalidPlan) (.ref C_InvalidRecipes) = some false
  sb_InvalidPlan_InvalidRequests : PySem.W.subIn K (.ref C_InvalidPlan) (.ref C_InvalidRequests) = some false
  sb_InvalidPlan_InvalidPrices : PySem.W.subIn K (.ref C_InvalidPlan) (.ref C_InvalidPrices) = some false
  sb_InvalidPlan_InvalidPlan : PySem.W.subIn K (.ref C_InvalidPlan) (.ref C_InvalidPlan) = some true
  sb_InvalidPlan_PowerFailed : PySem.W.subIn K (.ref C_InvalidPlan) (.ref C_PowerFailed) = some false
  sb_InvalidPlan_InvalidOperation : PySem.W.subIn K (.ref C_InvalidPlan) (.ref C_InvalidOperation) = some false
  sb_InvalidPlan_NotationError : PySem.W.subIn K (.ref C_InvalidPlan) (.ref C_NotationError) = some false
  sb_InvalidPlan_DecodeError : PySem.W.subIn K (.ref C_InvalidPlan) (.ref C_DecodeError) = some false
  sb_InvalidPlan_PairError : PySem.W.subIn K (.ref C_InvalidPlan) (.ref C_PairError) = some true
  vb_InvalidPlan : PySem.W.subIn K (.ref C_InvalidPlan) (.type "ValueError") = some true
  E_InvalidPlan : ExcC K C_InvalidPlan
  kp_InvalidPlan : PySem.W.keepIn K (.ref C_InvalidPlan) = true
  f_InvalidPlan___init__ : Addr
  fd_InvalidPlan___init__ : FuncData
  cc_InvalidPlan___init__ : Addr
  S_InvalidPlan___init__ : FunS K file "__init__" "InvalidPlan.__init__" s_InvalidPlan___init__ C_InvalidPlan cc_InvalidPlan___init__ f_InvalidPlan___init__ fd_InvalidPlan___init__
  O_InvalidPlan : OexC K C_InvalidPlan
  iC_InvalidPlan : PySem.W.findIn K (.ref C_InvalidPlan) "__init__" = some (some (.ref f_InvalidPlan___init__))
  tI_InvalidPlan : PySem.W.typeIn K (.ref f_InvalidPlan___init__) = some (.type "function")
  mr_InvalidPlan : PySem.W.mroIn K C_InvalidPlan (.ref C_InvalidPlan) = some true
  su_InvalidPlan : PySem.W.ks_superIn K C_InvalidPlan C_InvalidPlan "__init__" = some (some (.builtin "ValueError.__init__"))
  no_InvalidPlan_index : PySem.W.findIn K (.ref C_InvalidPlan) "index" = some none
section
variable {K : PySem.W.Frag} {mg : Str → Option Value}
theorem b_is_number (T : Gx K mg) : Binds K T.fd_is_number ["thing"] [] := T.F_is_number.binds (ps := ["thing"]) fun _ _ _ _ _ _ us hl => match us, hl with | [_], _ => rfl
theorem b_is_number_from (T : Gx K mg) : Binds K T.fd_is_number_from ["thing", "least", "most"] [] := T.F_is_number_from.binds (ps := ["thing", "least", "most"]) fun _ _ _ _ _ _ us hl => match us, hl with | [_, _, _], _ => rfl
theorem b_fewest_misses (T : Gx K mg) : Binds K T.fd_fewest_misses ["slots", "blocks"] [] := T.F_fewest_misses.binds (ps := ["slots", "blocks"]) fun _ _ _ _ _ _ us hl => match us, hl with | [_, _], _ => rfl
theorem b_judge_plan (T : Gx K mg) : Binds K T.fd_judge_plan ["slots", "blocks", "plan"] [] := T.F_judge_plan.binds (ps := ["slots", "blocks", "plan"]) fun _ _ _ _ _ _ us hl => match us, hl with | [_, _, _], _ => rfl
theorem b__check_reads (T : Gx K mg) : Binds K T.fd__check_reads ["slots", "blocks"] [] := T.F__check_reads.binds (ps := ["slots", "blocks"]) fun _ _ _ _ _ _ us hl => match us, hl with | [_, _], _ => rfl
theorem b__can_be (T : Gx K mg) : Binds K T.fd__can_be ["slots", "kept", "block", "entry"] [] := T.F__can_be.binds (ps := ["slots", "kept", "block", "entry"]) fun _ _ _ _ _ _ us hl => match us, hl with | [_, _, _, _], _ => rfl
theorem b__kept_after (T : Gx K mg) : Binds K T.fd__kept_after ["kept", "block", "entry"] [] := T.F__kept_after.binds (ps := ["kept", "block", "entry"]) fun _ _ _ _ _ _ us hl => match us, hl with | [_, _, _], _ => rfl
theorem b__law_random (T : Gx K mg) : Binds K T.fd__law_random ["_law_script", "_law_salt"] [] := T.F__law_random.binds (ps := ["_law_script", "_law_salt"]) fun _ _ _ _ _ _ us hl => match us, hl with | [_, _], _ => rfl
theorem b__law_below (T : Gx K mg) : Binds K T.fd__law_below ["_law_d", "_law_limit"] [] := T.F__law_below.binds (ps := ["_law_d", "_law_limit"]) fun _ _ _ _ _ _ us hl => match us, hl with | [_, _], _ => rfl
theorem b__law_equal (T : Gx K mg) : Binds K T.fd__law_equal ["_law_actual", "_law_expected"] [] := T.F__law_equal.binds (ps := ["_law_actual", "_law_expected"]) fun _ _ _ _ _ _ us hl => match us, hl with | [_, _], _ => rfl
theorem b__law_told_of (T : Gx K mg) : Binds K T.fd__law_told_of ["_law_e", "_law_name"] [] := T.F__law_told_of.binds (ps := ["_law_e", "_law_name"]) fun _ _ _ _ _ _ us hl => match us, hl with | [_, _], _ => rfl
theorem b__law_error_of (T : Gx K mg) : Binds K T.fd__law_error_of ["_law_call"] [] := T.F__law_error_of.binds (ps := ["_law_call"]) fun _ _ _ _ _ _ us hl => match us, hl with | [_], _ => rfl
theorem b__law_all_raise (T : Gx K mg) : Binds K T.fd__law_all_raise ["_law_calls", "_law_expected"] [] := T.F__law_all_raise.binds (ps := ["_law_calls", "_law_expected"]) fun _ _ _ _ _ _ us hl => match us, hl with | [_, _], _ => rfl
end
theorem some_of {H H' : Hp} {S : List Addr} (f : Fr S H H') (hs : ∀ b ∈ S, ∃ o, H' b = some o) {p : Addr} (h : H' p = none) : H p = none := by
  cases e : H p with
  | none => rfl
  | some o =>
    by_cases hp : p ∈ S
    · obtain ⟨o', e'⟩ := hs p hp
      rw [e'] at h
      cases h
    · rw [f p o e hp] at h
      cases h
theorem pe_never {X : Cx} {e : Expr} : PE X e (fun _ _ _ => False) := ⟨fun _ _ _ _ _ _ h => h.elim⟩
theorem iteFb {A B : Prop} {b : Bool} (e : b = false) (h : B) : if b = true then A else B := by
  rw [if_neg (by rw [e]; simp)]
  exact h
theorem iteTb {A B : Prop} {b : Bool} (e : b = true) (h : A) : if b = true then A else B := by
  rw [if_pos e]
  exact h
/-! ### the law's random list -/
def Rnd (H : Hp) (r : Addr) : Prop := ∃ (a b : Int) (ns : List Int), H r = some (.lst (V.int a :: V.int b :: ns.map V.int))
def spBelow : Sp := fun vs H Q _ => ∃ (r : Addr) (lim : Nat), vs = [.ref r, .int (lim : Int)] ∧ Rnd H r ∧ 0 < lim ∧ lim < 1180591620717411303424 ∧ ∀ (z : Nat) (H' : Hp), z < lim → Fr [r] H H' → Rnd H' r → Q (.int (z : Int)) H'
theorem Rnd.put {H : Hp} {r : Addr} (a b : Int) (ns : List Int) : Rnd (upd H r (.lst (V.int a :: V.int b :: ns.map V.int))) r := ⟨a, b, ns, upd_same⟩
theorem Rnd.notup {H : Hp} {r : Addr} (h : Rnd H r) : ∀ b ∈ [r], ∀ xs, H b ≠ some (.tup xs) := by
  obtain ⟨a, b, ns, e⟩ := h
  intro b hb xs
  rw [List.mem_singleton.mp hb, e]
  simp
theorem Rnd.keep {H H' : Hp} {r : Addr} {S : List Addr} (h : Rnd H r) (f : Fr S H H') (n : r ∉ S) : Rnd H' r := by
  obtain ⟨a, b, ns, e⟩ := h
  exact ⟨a, b, ns, f _ _ e n⟩
section
variable {P : Program} {w : World} {K : PySem.W.Frag} {mg : Str → Option Value} {base : Heap}
theorem ok_below (T : Gx K mg) : FnOk P w K mg base CX0 1 T.f__law_below T.fd__law_below ["_law_d", "_law_limit"] spBelow := by
  refine T.F__law_below.ok sc__law_below (fun vs H Q E h => ?_) (fun cdv A outer s H vs Q E hr h => ?_)
  · obtain ⟨r, lim, rfl, _⟩ := h
    rfl
  · obtain ⟨r, lin, rfl, hR, h0', h1', k'⟩ := h
    obtain ⟨lim, hlim⟩ : ∃ lim : Int, lim = (lin : Int) := ⟨_, rfl⟩
    have h0 : 0 < lim := by omega
    have h1 : lim < 1180591620717411303424 := by omega
    have k : ∀ (z : Int) (H' : Hp), 0 ≤ z → z < lim → Fr [r] H H' → Rnd H' r → Q (.int z) H' := fun z H' a b f g => by
      obtain ⟨n, rfl⟩ := Int.eq_ofNat_of_zero_le a
      exact k' n H' (by omega) f g
    rw [← hlim]
    refine ⟨_, C8.pss_cut (ps_if (PW.pt (pw_and (pt_cmpR op_eq (pe_ix ix_list (pv 0) pe_int (fun _ _ => rfl)) pe_int (nomark _))
          (pw_and1 (pt_cmpR op_gt (pe_callB call_len_seq (by rfl) T.z_len PySem.boot_len (pa_cons (pv 0) pa_nil)) pe_int (nomark _)))))
        (pss_one (ps_asg (pe_bm PySem.F.plainAttrs_list PySem.F.slot_list_pop PySem.F.type_list_pop mt_popAt (pv 0) (pa_cons pe_int pa_nil)) (pg_sub (pv 0) pe_int set_list))) pss_nil)
      (pss_cons (ps_if (pt_cmpR op_gt (pe_ix ix_list (pv 0) pe_int (fun _ _ => rfl)) pe_int (nomark _))
        (pss_cons (ps_set (i := 2) sc__law_below.nd rfl (.inl rfl) (pe_op op_mod (pe_callTy call_int1 (by rfl) T.z_int (by decide +kernel) (pa_cons (pe_ix ix_list (pv 0) pe_int (fun _ _ => rfl)) pa_nil)) (pv 1)))
        (pss_cons (ps_asg (pe_op op_fdivW (pe_ix ix_list (pv 0) pe_int (fun _ _ => rfl)) (pv 1)) (pg_sub (pv 0) pe_int set_list))
        (pss_one (ps_ret (pv 2))))) pss_nil)
      (pss_cons (ps_asg (pe_op op_mod (pe_callTy call_int1 (by rfl) T.z_int (by decide +kernel) (pa_cons (pe_op op_add (pe_op op_mul (pe_ix ix_list (pv 0) pe_int (fun _ _ => rfl)) pe_int) pe_int) pa_nil)) pe_int) (pg_sub (pv 0) pe_int set_list))
      (pss_one (ps_ret (pe_op op_mod (pe_callTy call_int1 (by rfl) T.z_int (by decide +kernel) (pa_cons (pe_op op_fdiv (pe_ix ix_list (pv 0) pe_int (fun _ _ => rfl)) pe_int) pa_nil)) (pv 1)))))), ?_⟩
    refine ⟨fun σ H1 => σ = [some (.ref r), some (.int lim), none] ∧ Rnd H1 r ∧ Fr [r] H H1, ?_, ?_⟩
    · obtain ⟨a, b, ns, e⟩ := hR
      have hR0 : Rnd H r := ⟨a, b, ns, e⟩
      refine ⟨_, rfl, r, _, 1, .int b, rfl, rfl, SqL.of e, atI_nat (j := 1) rfl, rfl, _, rfl, ite2 (fun hb => ?_) (fun hb => ?_)⟩
      · refine ⟨_, rfl, r, _, rfl, .inl (SqL.of e), _, _, rfl, rfl, _, rfl, ite2 (fun hl => ?_) (fun hl => ?_)⟩
        · have hl' : (2 : Int) < ((V.int a :: V.int b :: ns.map V.int).length : Int) := of_decide_eq_true hl
          cases ns with
          | nil => exact absurd hl' (by simp)
          | cons c rest =>
            refine ⟨_, rfl, .inl ⟨rfl, _, SqL.of e⟩, r, _, 2, 2, .int c, rfl, rfl, e, by decide, by decide, ?_, rfl, ?_⟩
            · show seqIndex? 2 _ = some 2
              unfold seqIndex?
              rw [List.length_cons, List.length_cons, List.map_cons, List.length_cons]
              simp
              omega
            · refine ⟨_, rfl, r, _, 1, 1, rfl, rfl, upd_same, ?_, rfl, ?_, ?_⟩
              · exact ix_at 1 (by simp [List.length_eraseIdx])
              · rw [upd_upd]
                exact Rnd.put a c rest
              · rw [upd_upd]
                exact Fr.put (List.mem_singleton.mpr rfl)
        · exact ⟨rfl, hR0, Fr.refl _ _⟩
      · exact ⟨rfl, hR0, Fr.refl _ _⟩
    · rintro σ' H1 ⟨rfl, ⟨a, b, ns, e⟩, fr⟩
      refine ⟨_, rfl, r, _, 1, .int b, rfl, rfl, SqL.of e, atI_nat (j := 1) rfl, _, _, rfl, rfl, _, rfl, ite2 (fun hb => ?_) (fun hb => ?_)⟩
      · refine ⟨_, rfl, r, _, 1, .int b, rfl, rfl, SqL.of e, atI_nat (j := 1) rfl, .inl ⟨_, rfl, ?_⟩⟩
        refine ⟨_, rfl, _, _, rfl, rfl, h0, ?_⟩
        refine ⟨_, rfl, r, _, 1, .int b, rfl, rfl, SqL.of e, atI_nat (j := 1) rfl, _, rfl, _, _, rfl, rfl, wide_div (b := 70) h0 (by omega) (by decide) (by decide), ?_⟩
        refine ⟨_, rfl, r, _, 1, 1, rfl, rfl, e, ix_at 1 (by simp), ?_⟩
        refine ⟨_, rfl, k _ _ (Int.emod_nonneg _ (by omega)) (Int.emod_lt_of_pos _ h0) (fr.trans (Fr.put (List.mem_singleton.mpr rfl))) (Rnd.put a _ ns)⟩
      · refine ⟨_, rfl, r, _, 0, .int a, rfl, rfl, SqL.of e, atI_nat (j := 0) rfl, _, _, rfl, rfl, .inr (by decide), _, _, rfl, rfl, .inl ⟨_, rfl, _, _, rfl, rfl, (by show (0 : Int) < 2147483647; decide), ?_⟩⟩
        refine ⟨_, rfl, r, _, 0, 0, rfl, rfl, e, ix_at 0 (by simp), ?_⟩
        refine ⟨_, rfl, r, _, 0, _, rfl, rfl, SqL.of upd_same, atI_nat (j := 0) rfl, _, _, rfl, rfl, ⟨by decide, by decide⟩, .inl ⟨_, rfl, _, rfl, _, _, rfl, rfl, h0, ?_⟩⟩
        exact k _ _ (Int.emod_nonneg _ (by omega)) (Int.emod_lt_of_pos _ h0) (fr.trans (Fr.put (List.mem_singleton.mpr rfl))) (Rnd.put _ b ns)
end
def spRandom (K : PySem.W.Frag) : Sp := fun vs H Q _ => ∃ (a : Addr) (salt : Int) (ns : List Int), vs = [.ref a, .int salt] ∧ SqL K H a (ns.map V.int) ∧ ns.length ≤ 63 ∧ ∀ (r : Addr) (H' : Hp), H r = none → Fr [] H H' → Rnd H' r → Q (.ref r) H'
section
variable {P : Program} {w : World} {K : PySem.W.Frag} {mg : Str → Option Value} {base : Heap}
theorem ok_random (T : Gx K mg) : FnOk P w K mg base CX0 1 T.f__law_random T.fd__law_random ["_law_script", "_law_salt"] (spRandom K) := by
  refine T.F__law_random.ok sc__law_random (fun vs H Q E h => ?_) (fun cdv A outer s H vs Q E hr h => ?_)
  · obtain ⟨a, salt, ns, rfl, _⟩ := h
    rfl
  · obtain ⟨a, salt, ns, rfl, hS, hlen, k⟩ := h
    refine ⟨_, pss_cons (ps_set (i := 2) sc__law_random.nd rfl (.inl rfl) (pv 1))
      (pss_cons (ps_for PassesOwn.never rfl (pi_list (pv 0)) (pg_name (i := 3) sc__law_random.nd rfl (.inl rfl))
        (pss_one (ps_set (i := 2) sc__law_random.nd rfl (.inl rfl) (pe_op op_mod (pe_callTy call_int1 (by rfl) T.z_int (by decide +kernel) (pa_cons (pe_op op_add (pe_op op_mul (pv 2) pe_int) (pe_callB call_abs (by rfl) T.z_abs (by decide +kernel) (pa_cons (pv 3) pa_nil))) pa_nil)) pe_int))))
      (pss_one (ps_ret (pe_op op_cat (pe_lst (pa_cons (pv 2) (pa_cons pe_int pa_nil))) (pe_lc (own := [("_law_cell", 3)]) (g := gName 3) rfl sc__law_random.nd (pi_list (pv 0)) (blkOk_by (N := ["_law_script", "_law_salt", "_law_seed", "_law_cell"]) (sc := defScope s__law_random) (by decide +kernel)) (fun _ _ _ _ _ => pg_name (i := 3) sc__law_random.nd rfl (.inl rfl)) (fun _ _ _ _ _ => pts_one (pt_cmpR op_ge (pv 3) (pe_op op_pow pe_int pe_int) (nomark _))) (fun _ _ _ _ _ => pv 3)))))), ?_⟩
    refine ⟨_, rfl, _, rfl, a, rfl, ⟨_, hS⟩, for_list (K := K) (a := a) (xs := ns.map V.int) (fun i σ H' => H' = H ∧ ∃ (z : Int) (v : Option V), σ = [some (.ref a), some (.int salt), some (.int z), v]) ⟨rfl, salt, none, rfl⟩ (fun i σ H' _ e => by rw [e.1]; exact hS) ?_ ?_⟩
    · rintro i x σ H' hi ⟨rfl, z, v, rfl⟩
      obtain ⟨u, rfl, _⟩ := int_at hi
      exact ⟨_, rfl, _, _, rfl, rfl, .inr (by decide), _, rfl, _, rfl, _, _, rfl, rfl, .inl ⟨_, rfl, _, _, rfl, rfl, (by show (0 : Int) < 2147483647; decide), rfl, _, _, rfl⟩⟩
    · rintro σ H' ⟨rfl, z, v, rfl⟩
      refine ⟨_, rfl, sz_le (by simp), fun l hl => ?_⟩
      have sl : Fr [] H' (upd H' l (.lst [V.int z, V.int 0])) := Fr.new hl
      have hS1 : SqL K (upd H' l (.lst [V.int z, V.int 0])) a (ns.map V.int) := sl.seq (by simp) hS
      refine ⟨_, rfl, a, rfl, ⟨_, hS1⟩, fun D hD => ?_⟩
      have hDl := free_upd hD
      refine lc_list (K := K) (a := a) (xs := ns.map V.int) (fun i H2 => ∃ ms : List Int, ms.length ≤ i ∧ H2 = upd (upd H' l (.lst [V.int z, V.int 0])) D (.lst (ms.map V.int))) ⟨[], Nat.le_refl _, rfl⟩ ?_ ?_ ?_
      · rintro i H2 _ ⟨ms, _, rfl⟩
        exact (Fr.new (S := []) hD).seq (by simp) hS1
      · rintro i x H2 hi ⟨ms, hm, rfl⟩
        obtain ⟨u, rfl, _⟩ := int_at hi
        have li := lt_of_at hi
        rw [List.length_map] at li
        refine ⟨rfl, _, rfl, _, _, rfl, rfl, ⟨by decide, by decide, by decide⟩, _, _, rfl, rfl, _, rfl, ite2 (fun _ => ?_) (fun _ => ?_)⟩
        · refine ⟨_, rfl, _, upd_same, ?_, ms ++ [u], ?_, ?_⟩
          · rw [List.length_map]
            exact sz_lt (by omega)
          · rw [List.length_append, List.length_singleton]
            omega
          · rw [upd_upd, List.map_append]
            rfl
        · exact ⟨ms, by omega, rfl⟩
      · rintro H2 ⟨ms, hm, rfl⟩
        rw [List.length_map] at hm
        refine ⟨l, D, [V.int z, V.int 0], _, rfl, rfl, ?_, upd_same, ?_, fun p hp => ?_⟩
        · rw [upd_ne hDl.2.symm]
          exact upd_same
        · rw [List.length_map]
          exact sz_le (by simp; omega)
        · obtain ⟨hp1, _⟩ := free_upd hp
          obtain ⟨hp2, _⟩ := free_upd hp1
          exact k p _ hp2 ((sl.trans (Fr.new hD)).trans (Fr.new hp)) ⟨z, 0, ms, upd_same⟩
end
/-! ### what counts as a number -/
def spNum (K : PySem.W.Frag) : Sp := fun vs H Q _ => ∃ (v : V) (t : Value) (b1 b2 : Bool), vs = [v] ∧ TyX K H v t ∧ PySem.W.kitOne K t (.type "int") = some b1 ∧ PySem.W.kitOne K t (.type "bool") = some b2 ∧ Q (.bl (b1 && !b2)) H
def spNumFrom (K : PySem.W.Frag) : Sp := fun vs H Q _ => ∃ (v : V) (lo hi : Int), vs = [v, .int lo, .int hi] ∧
  ((∃ i : Int, v = .int i ∧ Q (.bl (decide (lo ≤ i) && decide (i ≤ hi))) H) ∨ ∃ (t : Value) (b1 b2 : Bool), TyX K H v t ∧ PySem.W.kitOne K t (.type "int") = some b1 ∧ PySem.W.kitOne K t (.type "bool") = some b2 ∧ (b1 && !b2) = false ∧ Q (.bl false) H)
section
variable {P : Program} {w : World} {K : PySem.W.Frag} {mg : Str → Option Value} {base : Heap}
theorem ok_num (T : Gx K mg) : FnOk P w K mg base CX0 1 T.f_is_number T.fd_is_number ["thing"] (spNum K) := by
  refine T.F_is_number.ok sc_is_number (fun vs H Q E h => ?_) (fun cdv A outer s H vs Q E hr h => ?_)
  · obtain ⟨v, t, b1, b2, rfl, _⟩ := h
    rfl
  · obtain ⟨v, t, b1, b2, rfl, ty, e1, e2, k⟩ := h
    refine ⟨_, pss_one (ps_ret (pe_and (pe_callB call_isi (by rfl) T.z_isinstance (by decide +kernel) (pa_cons (pv 0) (pa_cons (pe_bltn (v := .ty "int") (by rfl) T.z_int (by decide +kernel) rfl) pa_nil)))
      (pe_one (pe_not (pe_callB call_isi (by rfl) T.z_isinstance (by decide +kernel) (pa_cons (pv 0) (pa_cons (pe_bltn (v := .ty "bool") (by rfl) T.z_bool (by decide +kernel) rfl) pa_nil))))))), ?_⟩
    refine ⟨v, rfl, v, .ty "int", t, _, b1, rfl, ClsV.ty "int", ty, e1, b1, rfl, ?_⟩
    cases b1 with
    | false => exact iteF k
    | true => exact iteT ⟨v, rfl, v, .ty "bool", t, _, b2, rfl, ClsV.ty "bool", ty, e2, b2, rfl, k⟩
theorem ok_numFrom (T : Gx K mg) : FnOk P w K mg base CX0 2 T.f_is_number_from T.fd_is_number_from ["thing", "least", "most"] (spNumFrom K) := by
  have G1 : FnOk P w K mg base CX0 1 T.f_is_number T.fd_is_number ["thing"] (spNum K) := ok_num T
  refine T.F_is_number_from.ok sc_is_number_from (fun vs H Q E h => ?_) (fun cdv A outer s H vs Q E hr h => ?_)
  · obtain ⟨v, lo, hi, rfl, _⟩ := h
    rfl
  · obtain ⟨v, lo, hi, rfl, h⟩ := h
    refine ⟨_, pss_one (ps_ret (pe_and (pe_call G1 hr (by rfl) T.g_is_number T.F_is_number.kp (b_is_number T) .nil pass0 (pa_cons (pv 0) pa_nil)) (pe_one (pe_chain op_le op_le (pv 1) (pv 0) (pv 2))))), ?_⟩
    rcases h with ⟨i, rfl, k⟩ | ⟨t, b1, b2, ty, e1, e2, e3, k⟩
    · refine ⟨_, rfl, .int i, .type "int", true, false, rfl, .base (.int i), kit_ty (by decide +kernel), kit_ty (by decide +kernel), true, rfl, iteT ?_⟩
      refine ⟨_, rfl, _, rfl, _, _, rfl, rfl, _, rfl, ?_⟩
      by_cases hl : lo ≤ i
      · rw [decide_eq_true hl] at k ⊢
        exact iteT ⟨_, rfl, _, _, rfl, rfl, k⟩
      · rw [decide_eq_false hl] at k ⊢
        exact iteF k
    · refine ⟨_, rfl, v, t, b1, b2, rfl, ty, e1, e2, _, rfl, ?_⟩
      rw [e3]
      exact iteF k
end
theorem ix_listK {X : Cx} {K : PySem.W.Frag} (h : X.K = K) : IxR X (rIxL K) := by
  subst h
  exact ix_list
theorem ix_tupK {X : Cx} {K : PySem.W.Frag} (h : X.K = K) : IxR X (rIxT K) := by
  subst h
  exact ix_tup
theorem Fr.upd0 {H H1 : Hp} {D : Addr} {o : HO} (f : Fr [] H H1) (h : H D = none) : Fr [] H (upd H1 D o) := fun b u e n => by
  have hb : b ≠ D := fun z => by rw [z, h] at e; cases e
  rw [upd_ne hb]
  exact f b u e n
theorem for_enumL {K : PySem.W.Frag} {a : Addr} {xs : List V} {g : TG} {tb : TS} {D : Ends} {σ : L2.St} {H : Hp} (Pv : Nat → L2.St → Hp → Prop) (h0 : Pv 0 σ H) (hl : ∀ i σ H, i ≤ xs.length → Pv i σ H → SqL K H a xs)
    (hs : ∀ i x σ H T, xs[i]? = some x → Pv i σ H → H T = none → g (.ref T) σ (upd H T (.tup [.int (i : Nat), x])) fun σ2 H2 => tb { D with nx := Pv (i + 1), ct := Pv (i + 1), bk := D.nx } σ2 H2) (hd : ∀ σ H, Pv xs.length σ H → D.nx σ H) :
    ∃ W : Nat → Nat → L2.St → Hp → Prop, (∃ m, W 0 m σ H) ∧ ∀ i m σ H, W i m σ H →
      ((Ite K a).stop i H ∧ D.nx σ H) ∨ ((Ite K a).go i H ∧ ∃ N : L2.St → Hp → Prop, (∀ σ' H', N σ' H' → ∃ m', m' < m ∧ W (i + 1) m' σ' H') ∧ ∀ x H', (Ite K a).yld i H x H' → g x σ H' fun σ2 H2 => tb { D with nx := N, ct := N, bk := D.nx } σ2 H2) := by
  refine for_it (walk_enum (K := K) (a := a) (xs := xs)) Pv h0 hl (fun i x σ H H' hi p y => ?_) hd
  obtain ⟨T, x', y', rfl, hT, rfl, e1, e2⟩ := y
  cases e1
  exact hs i y' σ H T e2 p hT
/-! ### plans -/
/-- an entry that is none, "keep", or a block -/
inductive Ent where
  | no
  | keep
  | drop (n : Int)
def Ent.v : Ent → V
  | .no => .non
  | .keep => .str "keep"
  | .drop n => .int n
def keptAfter (kept : List Int) (b : Int) : Ent → List Int
  | .no => kept
  | .keep => kept ++ [b]
  | .drop n => kept.filter (fun o => decide (o ≠ n)) ++ [b]
def canBe (s : Int) (kept : List Int) (b : Int) : Ent → Bool
  | .no => true
  | .keep => decide (b ∉ kept) && decide ((kept.length : Int) < s)
  | .drop n => decide (b ∉ kept) && decide (n ∈ kept)
def keptOf (l : List (Int × Ent)) : List Int := l.foldl (fun k q => keptAfter k q.1 q.2) []
def missOf : List Int → List (Int × Ent) → Int
  | _, [] => 0
  | k, q :: l => (if q.1 ∈ k then 0 else 1) + missOf (keptAfter k q.1 q.2) l
theorem keptOf_snoc (l : List (Int × Ent)) (q : Int × Ent) : keptOf (l ++ [q]) = keptAfter (keptOf l) q.1 q.2 := by
  unfold keptOf
  rw [List.foldl_append]
  rfl
theorem missOf_snoc (q : Int × Ent) : ∀ (k : List Int) (l : List (Int × Ent)), missOf k (l ++ [q]) = missOf k l + (if q.1 ∈ l.foldl (fun k q => keptAfter k q.1 q.2) k then 0 else 1)
  | k, [] => by
    show (if q.1 ∈ k then 0 else 1) + (0 : Int) = 0 + (if q.1 ∈ k then 0 else 1)
    omega
  | k, p :: l => by
    show (if p.1 ∈ k then 0 else 1) + missOf (keptAfter k p.1 p.2) (l ++ [q]) = (if p.1 ∈ k then 0 else 1) + missOf (keptAfter k p.1 p.2) l + _
    rw [missOf_snoc q (keptAfter k p.1 p.2) l]
    show _ = (if p.1 ∈ k then 0 else 1) + missOf (keptAfter k p.1 p.2) l + (if q.1 ∈ l.foldl (fun k q => keptAfter k q.1 q.2) (keptAfter k p.1 p.2) then 0 else 1)
    omega
theorem after_len (kept : List Int) (b : Int) (e : Ent) : (keptAfter kept b e).length ≤ kept.length + 1 := by
  cases e with
  | no => exact Nat.le_succ _
  | keep => simp [keptAfter]
  | drop n =>
    show (kept.filter _ ++ [b]).length ≤ _
    rw [List.length_append]
    have := List.length_filter_le (fun o => decide (o ≠ n)) kept
    simp only [List.length_cons, List.length_nil]
    omega
theorem keptOf_len (l : List (Int × Ent)) : (keptOf l).length ≤ l.length := by
  have : ∀ (l : List (Int × Ent)) (k : List Int), (l.foldl (fun k q => keptAfter k q.1 q.2) k).length ≤ k.length + l.length := fun l => by
    induction l with
    | nil => intro k; exact Nat.le_refl _
    | cons q l ih =>
      intro k
      have h1 := ih (keptAfter k q.1 q.2)
      have h2 := after_len k q.1 q.2
      simp only [List.foldl_cons, List.length_cons]
      omega
  have h := this l []
  rw [List.length_nil, Nat.zero_add] at h
  exact h
/-- what an entry is: one of the three, or odd -/
inductive Can (H : Hp) (s : Int) (kept : List Int) (b : Int) : V → Bool → Prop
  | ent (e : Ent) : Can H s kept b e.v (canBe s kept b e)
  | word : Can H s kept b (.str "Keep") false
  | bool : Can H s kept b (.bl true) false
  | tup (t : Addr) (h : H t = some (.tup [.int 0])) : Can H s kept b (.ref t) false
theorem Can.keep {H H' : Hp} {s : Int} {kept : List Int} {b : Int} {v : V} {c : Bool} (h : Can H s kept b v c) (f : ∀ b xs, H b = some (.tup xs) → H' b = some (.tup xs)) : Can H' s kept b v c := by
  cases h with
  | ent e => exact .ent e
  | word => exact .word
  | bool => exact .bool
  | tup t h => exact .tup t (f _ _ h)
theorem flat_ints : ∀ (xs : List Int), (xs.map V.int).all flatV = true
  | [] => rfl
  | _ :: r => flat_ints r
theorem inV_int (b : Int) : ∀ (xs : List Int), inV (.int b) (xs.map V.int) = decide (b ∈ xs)
  | [] => rfl
  | x :: r => by
    have ih := inV_int b r
    show (eqV (.int x) (.int b) || inV (.int b) (r.map V.int)) = decide (b ∈ x :: r)
    rw [ih]
    by_cases h : b = x
    · subst h
      simp [eqV]
    · have h' : ¬ x = b := fun e => h e.symm
      simp [eqV, h, h']
def spSlots : Sp := fun vs H Q _ => ∃ s : Int, vs = [.int s, .int 8] ∧ 1 ≤ s ∧ s ≤ 8 ∧ Q .non H
def GoodR (xs : List Int) : Prop := xs.length ≤ 14 ∧ ∀ x ∈ xs, 0 ≤ x ∧ x ≤ 15
def spReads : Sp := fun vs H Q _ => ∃ (s : Int) (b : Addr) (xs : List Int), vs = [.int s, .ref b] ∧ 1 ≤ s ∧ s ≤ 8 ∧ H b = some (.lst (xs.map V.int)) ∧ GoodR xs ∧ ∀ H', Fr [] H H' → Q .non H'
def spCan : Sp := fun vs H Q _ => ∃ (s : Int) (k : Addr) (kept : List Int) (b : Int) (v : V) (c : Bool), vs = [.int s, .ref k, .int b, v] ∧ H k = some (.lst (kept.map V.int)) ∧ Can H s kept b v c ∧ Q (.bl c) H
def spAfter : Sp := fun vs H Q _ => ∃ (k : Addr) (kept : List Int) (b : Int) (e : Ent), vs = [.ref k, .int b, e.v] ∧ H k = some (.lst (kept.map V.int)) ∧ kept.length ≤ 100 ∧ ∀ (k' : Addr) (H' : Hp), Fr [] H H' → H' k' = some (.lst ((keptAfter kept b e).map V.int)) → (k' = k ∨ H k' = none) → Q (.ref k') H'
theorem shaped_i (i : Int) : SeqAt.shaped (.int i) = true := by
  unfold SeqAt.shaped
  simp [PyData.canLay0, PyData.depth]
theorem decI {a b : Int} (h : a ≠ b) : decide (V.int a = V.int b) = false := decide_eq_false fun e => h (V.int.inj e)
section
variable {P : Program} {w : World} {K : PySem.W.Frag} {mg : Str → Option Value} {base : Heap}
theorem ok_slots (T : Gx K mg) : FnOk P w K mg base CX0 3 T.f_check_slots T.fd_check_slots ["slots", "most"] spSlots := by
  have G_is_number_from : FnOk P w K mg base CX0 2 T.f_is_number_from T.fd_is_number_from ["thing", "least", "most"] (spNumFrom K) := ok_numFrom T
  refine T.F_check_slots.ok sc_check_slots (fun vs H Q E h => ?_) (fun cdv A outer s H vs Q E hr h => ?_)
  · obtain ⟨s, rfl, _⟩ := h
    rfl
  · obtain ⟨s, rfl, h1, h2, k⟩ := h
    refine ⟨_, (pss_one (ps_if (pt_not (pt_val (pe_call G_is_number_from (hr.mono (by first | decide | omega)) (by rfl) T.g_is_number_from T.F_is_number_from.kp (b_is_number_from T) .nil pass0 (pa_cons (pv 0) (pa_cons pe_int (pa_cons (pv 1) pa_nil)))))) (pss_one ps_never) pss_nil)), ?_⟩
    refine ⟨_, rfl, _, rfl, _, 1, 8, rfl, .inl ⟨s, rfl, _, rfl, ?_⟩⟩
    rw [decide_eq_true h1, decide_eq_true h2]
    exact iteF k
theorem ok_reads (T : Gx K mg) : FnOk P w K mg base CX0 4 T.f__check_reads T.fd__check_reads ["slots", "blocks"] spReads := by
  have G_check_slots : FnOk P w K mg base CX0 3 T.f_check_slots T.fd_check_slots ["slots", "most"] spSlots := ok_slots T
  have G_is_number_from : FnOk P w K mg base CX0 2 T.f_is_number_from T.fd_is_number_from ["thing", "least", "most"] (spNumFrom K) := ok_numFrom T
  obtain ⟨ds, rd, bS⟩ := T.F_check_slots.binds1 (ps := ["slots", "most"]) 1 0 (by simp) rfl (fun U kV doc pm an cdv ct us its hu hi => match us, hu, its, hi with
    | [_], _, [_], _ => ⟨_, rfl, rfl⟩)
  refine T.F__check_reads.ok sc__check_reads (fun vs H Q E h => ?_) (fun cdv A outer s H vs Q E hr h => ?_)
  · obtain ⟨s, b, xs, rfl, _⟩ := h
    rfl
  · obtain ⟨n, b, xs, rfl, h1, h2, hb, hg, k⟩ := h
    refine ⟨_, (pss_cons (ps_expr (pe_call G_check_slots (hr.mono (by first | decide | omega)) (by rfl) T.g_check_slots T.F_check_slots.kp bS rd pass0 (pa_cons (pv 0) pa_nil)))
      (pss_cons (ps_if (pt_not (pt_val (pe_callB call_isi (by rfl) T.z_isinstance (by decide +kernel) (pa_cons (pv 1) (pa_cons (pe_bltn (v := .ty "list") (by rfl) T.z_list (by decide +kernel) rfl) pa_nil))))) (pss_one ps_never) pss_nil)
      (pss_one (ps_for PassesOwn.never rfl (pi_enum (by rfl) T.z_enumerate (pa_cons (pv 1) pa_nil)) (pg_tup (by rfl) (pgs_cons (pg_name (i := 2) sc__check_reads.nd rfl (.inl rfl)) (pgs_cons (pg_name (i := 3) sc__check_reads.nd rfl (.inl rfl)) pgs_nil))) (pss_one (ps_if (PW.pt (pw_or (pt_cmpR op_eq (pv 2) (pe_glob (v := .int 14) (by rfl) T.c_MOST_READS ⟨_, rfl⟩) (nomark _)) (pw_or1 (pt_not (pt_val (pe_call G_is_number_from (hr.mono (by first | decide | omega)) (by rfl) T.g_is_number_from T.F_is_number_from.kp (b_is_number_from T) .nil pass0 (pa_cons (pv 3) (pa_cons pe_int (pa_cons (pe_glob (v := .int 15) (by rfl) T.c_MOST_READ_BLOCK ⟨_, rfl⟩) pa_nil))))))))) (pss_one ps_never) pss_nil)))))), ?_⟩
    refine ⟨_, rfl, n, rfl, h1, h2, ?_⟩
    refine ⟨_, rfl, _, .ty "list", .type "list", _, true, rfl, ClsV.ty "list", .base (.lst hb), kit_ty (by decide +kernel), _, rfl, iteF ?_⟩
    refine ⟨_, rfl, b, _, rfl, SqL.of hb, for_enumL (K := K) (a := b) (xs := xs.map V.int) (fun i σ H' => Fr [] H H' ∧ ∃ v2 v3 : Option V, σ = [some (.int n), some (.ref b), v2, v3]) ⟨Fr.refl _ _, none, none, rfl⟩ (fun i σ H' _ h => SqL.of (h.1 _ _ hb (by simp))) ?_ ?_⟩
    · rintro i x σ H1 U hx ⟨f1, v2, v3, rfl⟩ hU
      obtain ⟨u, rfl, hu⟩ := int_at hx
      have hi := lt_of_at hu
      obtain ⟨g0, g1⟩ := hg.2 u (List.mem_of_getElem? hu)
      refine ⟨U, _, rfl, SqT.of upd_same, rfl, _, _, rfl, _, _, rfl, rfl, ?_⟩
      refine ⟨_, rfl, rfl, _, rfl, ?_⟩
      rw [decI (a := (i : Int)) (b := 14) (by have := hg.1; omega)]
      refine iteF ⟨_, rfl, _, 0, 15, rfl, .inl ⟨u, rfl, _, rfl, ?_⟩⟩
      rw [decide_eq_true g0, decide_eq_true g1]
      exact iteF ⟨f1.trans (Fr.new hU), _, _, rfl⟩
    · rintro σ H1 ⟨f1, v2, v3, rfl⟩
      exact k _ f1
theorem ok_can (T : Gx K mg) : FnOk P w K mg base CX0 2 T.f__can_be T.fd__can_be ["slots", "kept", "block", "entry"] spCan := by
  have G_is_number : FnOk P w K mg base CX0 1 T.f_is_number T.fd_is_number ["thing"] (spNum K) := ok_num T
  refine T.F__can_be.ok sc__can_be (fun vs H Q E h => ?_) (fun cdv A outer s H vs Q E hr h => ?_)
  · obtain ⟨s, k, kept, b, v, c, rfl, _⟩ := h
    rfl
  · obtain ⟨n, kk, kept, b, v, c, rfl, hk, hc, k⟩ := h
    refine ⟨_, (pss_cons (ps_if (pt_cmpR op_isN (pv 3) pe_non (nomark _)) (pss_one (ps_ret pe_bl)) pss_nil)
      (pss_cons (ps_if (pt_cmpR op_in_seq (pv 2) (pv 1) (by rfl)) (pss_one (ps_ret pe_bl)) pss_nil)
      (pss_cons (ps_if (pt_cmpR (op_eqD hr.units) (pv 3) pe_str (nomark _)) (pss_one (ps_ret (pe_cmpR op_lt (pe_callB call_len_seq (by rfl) T.z_len (by decide +kernel) (pa_cons (pv 1) pa_nil)) (pv 0) (nomark _)))) pss_nil)
      (pss_one (ps_ret (pe_and (pe_call G_is_number (hr.mono (by first | decide | omega)) (by rfl) T.g_is_number T.F_is_number.kp (b_is_number T) .nil pass0 (pa_cons (pv 3) pa_nil)) (pe_one (pe_cmpR op_in_seq (pv 3) (pv 1) (by rfl))))))))), ?_⟩
    have hshp : SeqAt.shaped (.str "keep") = true := by decide +kernel
    cases hc with
    | ent e =>
      cases e with
      | no => exact ⟨_, rfl, rfl, _, rfl, iteT k⟩
      | keep =>
        refine ⟨_, rfl, rfl, _, rfl, iteF ?_⟩
        refine ⟨_, rfl, _, rfl, kk, _, rfl, .inl (SqL.of hk), rfl, flat_ints kept, _, rfl, ?_⟩
        rw [inV_int]
        by_cases hm : b ∈ kept
        · rw [decide_eq_true hm]
          refine iteT ?_
          rw [show canBe n kept b .keep = false by simp [canBe, hm]] at k
          exact k
        · rw [decide_eq_false hm]
          refine iteF ⟨_, rfl, .str "keep", .str "keep", .str _, .str _, hshp, hshp, _, rfl, ?_⟩
          refine iteTb (by decide +kernel) ?_
          refine ⟨_, rfl, kk, _, rfl, .inl (SqL.of hk), _, rfl, _, _, rfl, rfl, ?_⟩
          rw [List.length_map]
          rw [show canBe n kept b .keep = decide ((kept.length : Int) < n) by simp [canBe, hm]] at k
          exact k
      | drop m =>
        refine ⟨_, rfl, rfl, _, rfl, iteF ?_⟩
        refine ⟨_, rfl, _, rfl, kk, _, rfl, .inl (SqL.of hk), rfl, flat_ints kept, _, rfl, ?_⟩
        rw [inV_int]
        by_cases hm : b ∈ kept
        · rw [decide_eq_true hm]
          refine iteT ?_
          rw [show canBe n kept b (.drop m) = false by simp [canBe, hm]] at k
          exact k
        · rw [decide_eq_false hm]
          refine iteF ⟨_, rfl, .int m, .str "keep", .int _, .str _, shaped_i m, hshp, _, rfl, ?_⟩
          refine iteFb (by simp [PyData.eqv]) ?_
          refine ⟨_, rfl, .int m, .type "int", true, false, rfl, .base (.int m), kit_ty (by decide +kernel), kit_ty (by decide +kernel), true, rfl, iteT ?_⟩
          refine ⟨_, rfl, _, rfl, kk, _, rfl, .inl (SqL.of hk), rfl, flat_ints kept, ?_⟩
          show Q (.bl (inV (.int m) (kept.map V.int))) _
          rw [inV_int]
          rw [show canBe n kept b (.drop m) = decide (m ∈ kept) by simp [canBe, hm]] at k
          exact k
    | word =>
      refine ⟨_, rfl, rfl, _, rfl, iteF ?_⟩
      refine ⟨_, rfl, _, rfl, kk, _, rfl, .inl (SqL.of hk), rfl, flat_ints kept, _, rfl, ?_⟩
      rw [inV_int]
      by_cases hm : b ∈ kept
      · rw [decide_eq_true hm]
        exact iteT k
      · rw [decide_eq_false hm]
        refine iteF ⟨_, rfl, .str "Keep", .str "keep", .str _, .str _, by decide +kernel, hshp, _, rfl, ?_⟩
        refine iteFb (by decide +kernel) ?_
        exact ⟨_, rfl, _, .type "str", false, false, rfl, .base (.str _), kit_ty (by decide +kernel), kit_ty (by decide +kernel), false, rfl, iteF k⟩
    | bool =>
      refine ⟨_, rfl, rfl, _, rfl, iteF ?_⟩
      refine ⟨_, rfl, _, rfl, kk, _, rfl, .inl (SqL.of hk), rfl, flat_ints kept, _, rfl, ?_⟩
      rw [inV_int]
      by_cases hm : b ∈ kept
      · rw [decide_eq_true hm]
        exact iteT k
      · rw [decide_eq_false hm]
        refine iteF ⟨_, rfl, .bool true, .str "keep", .bl _, .str _, by decide +kernel, hshp, _, rfl, ?_⟩
        refine iteFb (by decide +kernel) ?_
        exact ⟨_, rfl, _, .type "bool", true, true, rfl, .base (.bl true), kit_ty (by decide +kernel), kit_ty (by decide +kernel), false, rfl, iteF k⟩
    | tup t ht =>
      refine ⟨_, rfl, rfl, _, rfl, iteF ?_⟩
      refine ⟨_, rfl, _, rfl, kk, _, rfl, .inl (SqL.of hk), rfl, flat_ints kept, _, rfl, ?_⟩
      rw [inV_int]
      by_cases hm : b ∈ kept
      · rw [decide_eq_true hm]
        exact iteT k
      · rw [decide_eq_false hm]
        refine iteF ⟨_, rfl, .tuple [.int 0], .str "keep", .tup (SqT.of ht) (.cons (.int _) .nil), .str _, by decide +kernel, hshp, _, rfl, ?_⟩
        refine iteFb (by decide +kernel) ?_
        exact ⟨_, rfl, _, .type "tuple", false, false, rfl, .base (.tup ht), kit_ty (by decide +kernel), kit_ty (by decide +kernel), false, rfl, iteF k⟩
theorem ok_after (T : Gx K mg) : FnOk P w K mg base CX0 1 T.f__kept_after T.fd__kept_after ["kept", "block", "entry"] spAfter := by
  refine T.F__kept_after.ok sc__kept_after (fun vs H Q E h => ?_) (fun cdv A outer s H vs Q E hr h => ?_)
  · obtain ⟨k, kept, b, e, rfl, _⟩ := h
    rfl
  · obtain ⟨kk, kept, b, e, rfl, hk, hl, k⟩ := h
    refine ⟨_, (pss_cons (ps_if (pt_cmpR op_isN (pv 2) pe_non (nomark _)) (pss_one (ps_ret (pv 0))) pss_nil)
      (pss_one (ps_ret (pe_op op_cat (pe_lc (own := [("other", 3)]) (g := gName 3) rfl sc__kept_after.nd (pi_list (pv 0)) (blkOk_by (N := ["kept", "block", "entry", "other"]) (sc := defScope s__kept_after) (by decide +kernel)) (fun _ _ _ _ _ => pg_name (i := 3) sc__kept_after.nd rfl (.inl rfl)) (fun _ _ _ _ _ => (pts_one (pt_cmpR op_ne (pv 3) (pv 2) (nomark _)))) (fun _ _ _ _ _ => (pv 3))) (pe_lst (pa_cons (pv 1) pa_nil)))))), ?_⟩
    cases e with
    | no => exact ⟨_, rfl, rfl, _, rfl, iteT ⟨_, rfl, k kk H (Fr.refl _ _) hk (.inl rfl)⟩⟩
    | keep =>
      refine ⟨_, rfl, rfl, _, rfl, iteF ?_⟩
      refine ⟨_, rfl, kk, rfl, ⟨_, SqL.of hk⟩, fun D hD => ?_⟩
      refine lc_list (K := K) (a := kk) (xs := kept.map V.int) (fun i H' => Fr [] H H' ∧ H' D = some (.lst ((kept.take i).map V.int))) ⟨Fr.new hD, upd_same⟩ (fun i H' _ h => SqL.of (h.1 _ _ hk (by simp))) ?_ ?_
      · rintro i x H1 hx ⟨f1, e1⟩
        obtain ⟨u, rfl, hu⟩ := int_at hx
        have hi := lt_of_at hu
        refine ⟨rfl, _, rfl, _, rfl, rfl, _, rfl, iteTb (by show (!decide (V.int u = V.str "keep")) = true; simp) ⟨_, rfl, _, e1, by rw [List.length_map, List.length_take]; exact sz_lt (by omega), f1.upd0 hD, ?_⟩⟩
        rw [upd_same, List.take_succ_eq_append_getElem hi, List.map_append]
        rw [List.getElem?_eq_getElem hi] at hu
        rw [Option.some.inj hu]
        rfl
      · rintro H1 ⟨f1, e1⟩
        rw [List.length_map, List.take_length] at e1
        refine ⟨_, rfl, sz_le (by simp), fun g hg => ?_⟩
        refine ⟨D, g, _, _, rfl, rfl, (upd_ne (ne_of_none e1 hg)).trans e1, upd_same, sz_le (by simp; omega), fun p hp => ?_⟩
        refine k p _ ((f1.trans (Fr.new hg)).trans (Fr.new hp)) ?_ (.inr (some_of (f1.trans (Fr.new hg)) (by simp) hp))
        rw [upd_same]
        show _ = some (HO.lst ((kept ++ [b]).map V.int))
        rw [List.map_append]
        rfl
    | drop m =>
      refine ⟨_, rfl, rfl, _, rfl, iteF ?_⟩
      refine ⟨_, rfl, kk, rfl, ⟨_, SqL.of hk⟩, fun D hD => ?_⟩
      refine lc_list (K := K) (a := kk) (xs := kept.map V.int) (fun i H' => Fr [] H H' ∧ H' D = some (.lst (((kept.take i).filter (fun o => decide (o ≠ m))).map V.int))) ⟨Fr.new hD, upd_same⟩ (fun i H' _ h => SqL.of (h.1 _ _ hk (by simp))) ?_ ?_
      · rintro i x H1 hx ⟨f1, e1⟩
        obtain ⟨u, rfl, hu⟩ := int_at hx
        have hi := lt_of_at hu
        have hu' := hu
        rw [List.getElem?_eq_getElem hi] at hu'
        have eu := Option.some.inj hu'
        have hlf := List.length_filter_le (fun o => decide (o ≠ m)) (kept.take i)
        rw [List.length_take] at hlf
        have es : (kept.take (i + 1)).filter (fun o => decide (o ≠ m)) = (kept.take i).filter (fun o => decide (o ≠ m)) ++ (if decide (u ≠ m) = true then [u] else []) := by
          rw [List.take_succ_eq_append_getElem hi, List.filter_append, eu]
          by_cases hh : u = m <;> simp [hh]
        refine ⟨rfl, _, rfl, _, rfl, rfl, _, rfl, ?_⟩
        by_cases hh : u = m
        · rw [if_neg (by simp [hh]), List.append_nil] at es
          subst hh
          refine iteFb (by show (!decide (V.int u = V.int u)) = false; simp) ⟨f1, ?_⟩
          rw [es]
          exact e1
        · rw [if_pos (by simp [hh])] at es
          refine iteTb (by show (!decide (V.int u = V.int m)) = true; rw [decI hh]; rfl) ⟨_, rfl, _, e1, by rw [List.length_map]; exact sz_lt (by omega), f1.upd0 hD, ?_⟩
          rw [upd_same, es, List.map_append]
          rfl
      · rintro H1 ⟨f1, e1⟩
        rw [List.length_map, List.take_length] at e1
        have hlf := List.length_filter_le (fun o => decide (o ≠ m)) kept
        refine ⟨_, rfl, sz_le (by simp), fun g hg => ?_⟩
        refine ⟨D, g, _, _, rfl, rfl, (upd_ne (ne_of_none e1 hg)).trans e1, upd_same, sz_le (by simp only [List.length_map, List.length_cons, List.length_nil]; omega), fun p hp => ?_⟩
        refine k p _ ((f1.trans (Fr.new hg)).trans (Fr.new hp)) ?_ (.inr (some_of (f1.trans (Fr.new hg)) (by simp) hp))
        rw [upd_same]
        show _ = some (HO.lst ((kept.filter (fun o => decide (o ≠ m)) ++ [b]).map V.int))
        rw [List.map_append]
        rfl
end
/-! ### a plan that can be -/
def Valid (s : Int) (l : List (Int × Ent)) : Prop := ∀ (i : Nat) (q : Int × Ent), l[i]? = some q → canBe s (keptOf (l.take i)) q.1 q.2 = true
def spJudge : Sp := fun vs H Q _ => ∃ (s : Int) (b p : Addr) (l : List (Int × Ent)), vs = [.int s, .ref b, .ref p] ∧ 1 ≤ s ∧ s ≤ 8 ∧ H b = some (.lst ((l.map (·.1)).map V.int)) ∧ H p = some (.lst (l.map fun q => q.2.v)) ∧ GoodR (l.map (·.1)) ∧ Valid s l ∧ ∀ H', Fr [] H H' → Q (.int (missOf [] l)) H'
theorem take_snoc {α : Type} {l : List α} {i : Nat} {q : α} (h : l[i]? = some q) : l.take (i + 1) = l.take i ++ [q] := by
  have hi := lt_of_at h
  rw [List.getElem?_eq_getElem hi] at h
  rw [List.take_succ_eq_append_getElem hi, Option.some.inj h]
theorem miss_step {l : List (Int × Ent)} {i : Nat} {q : Int × Ent} (h : l[i]? = some q) : missOf [] (l.take (i + 1)) = missOf [] (l.take i) + (if q.1 ∈ keptOf (l.take i) then 0 else 1) := by
  rw [take_snoc h, missOf_snoc]
  rfl
theorem kept_step {l : List (Int × Ent)} {i : Nat} {q : Int × Ent} (h : l[i]? = some q) : keptOf (l.take (i + 1)) = keptAfter (keptOf (l.take i)) q.1 q.2 := by
  rw [take_snoc h, keptOf_snoc]
section
variable {P : Program} {w : World} {K : PySem.W.Frag} {mg : Str → Option Value} {base : Heap}
theorem ok_judge (T : Gx K mg) : FnOk P w K mg base CX0 5 T.f_judge_plan T.fd_judge_plan ["slots", "blocks", "plan"] spJudge := by
  have G__check_reads : FnOk P w K mg base CX0 4 T.f__check_reads T.fd__check_reads ["slots", "blocks"] spReads := ok_reads T
  have G__can_be : FnOk P w K mg base CX0 2 T.f__can_be T.fd__can_be ["slots", "kept", "block", "entry"] spCan := ok_can T
  have G__kept_after : FnOk P w K mg base CX0 1 T.f__kept_after T.fd__kept_after ["kept", "block", "entry"] spAfter := ok_after T
  refine T.F_judge_plan.ok sc_judge_plan (fun vs H Q E h => ?_) (fun cdv A outer s H vs Q E hr h => ?_)
  · obtain ⟨s, b, p, l, rfl, _⟩ := h
    rfl
  · obtain ⟨n, b, p, l, rfl, h1, h2, hb, hp, hg, hv, k⟩ := h
    refine ⟨_, (pss_cons (ps_expr (pe_call G__check_reads (hr.mono (by first | decide | omega)) (by rfl) T.g__check_reads T.F__check_reads.kp (b__check_reads T) .nil pass0 (pa_cons (pv 0) (pa_cons (pv 1) pa_nil))))
      (pss_cons (ps_if (pt_not (pt_val (pe_callB call_isi (by rfl) T.z_isinstance (by decide +kernel) (pa_cons (pv 2) (pa_cons (pe_bltn (v := .ty "list") (by rfl) T.z_list (by decide +kernel) rfl) pa_nil))))) (pss_one ps_never) pss_nil)
      (pss_cons (ps_set (i := 3) sc_judge_plan.nd rfl (.inl rfl) (pe_lst pa_nil))
      (pss_cons (ps_set (i := 4) sc_judge_plan.nd rfl (.inl rfl) pe_int)
      (pss_cons (ps_for PassesOwn.never rfl (pi_enum (by rfl) T.z_enumerate (pa_cons (pv 1) pa_nil)) (pg_tup (by rfl) (pgs_cons (pg_name (i := 5) sc_judge_plan.nd rfl (.inl rfl)) (pgs_cons (pg_name (i := 6) sc_judge_plan.nd rfl (.inl rfl)) pgs_nil))) (pss_cons (ps_if (PW.pt (pw_or (pt_cmpR op_eq (pv 5) (pe_callB call_len_seq (by rfl) T.z_len (by decide +kernel) (pa_cons (pv 2) pa_nil)) (nomark _)) (pw_or1 (pt_not (pt_val (pe_call G__can_be (hr.mono (by first | decide | omega)) (by rfl) T.g__can_be T.F__can_be.kp (b__can_be T) .nil pass0 (pa_cons (pv 0) (pa_cons (pv 3) (pa_cons (pv 6) (pa_cons (pe_ix ix_list (pv 2) (pv 5) (fun _ _ => rfl)) pa_nil)))))))))) (pss_one ps_never) pss_nil)
      (pss_cons (ps_if (pt_cmpR op_notIn_seq (pv 6) (pv 3) (by rfl)) (pss_one (ps_aug (i := 4) sc_judge_plan.nd rfl (.inl rfl) pe_int ip_add)) pss_nil)
      (pss_one (ps_set (i := 3) sc_judge_plan.nd rfl (.inl rfl) (pe_call G__kept_after (hr.mono (by first | decide | omega)) (by rfl) T.g__kept_after T.F__kept_after.kp (b__kept_after T) .nil pass0 (pa_cons (pv 3) (pa_cons (pv 6) (pa_cons (pe_ix ix_list (pv 2) (pv 5) (fun _ _ => rfl)) pa_nil)))))))))
      (pss_cons (ps_if (pt_cmpR op_gt (pe_callB call_len_seq (by rfl) T.z_len (by decide +kernel) (pa_cons (pv 2) pa_nil)) (pe_callB call_len_seq (by rfl) T.z_len (by decide +kernel) (pa_cons (pv 1) pa_nil)) (nomark _)) (pss_one ps_never) pss_nil)
      (pss_one (ps_ret (pv 4))))))))), ?_⟩
    have hl : l.length ≤ 14 := by
      have := hg.1
      rw [List.length_map] at this
      exact this
    refine ⟨_, rfl, _, rfl, n, b, _, rfl, h1, h2, hb, hg, fun H1 f1 => ?_⟩
    refine ⟨_, rfl, _, .ty "list", .type "list", _, true, rfl, ClsV.ty "list", .base (.lst (f1 _ _ hp (by simp))), kit_ty (by decide +kernel), _, rfl, iteF ?_⟩
    refine ⟨sz_le (by simp), fun kk hkk => ?_⟩
    refine ⟨_, rfl, b, _, rfl, SqL.of ((upd_ne (ne_of_none (f1 _ _ hb (by simp)) hkk)).trans (f1 _ _ hb (by simp))), for_enumL (K := K) (a := b) (xs := (l.map (·.1)).map V.int) (fun i σ H' => Fr [] H H' ∧ ∃ (kk : Addr) (v5 v6 : Option V), H' kk = some (.lst ((keptOf (l.take i)).map V.int)) ∧ σ = [some (.int n), some (.ref b), some (.ref p), some (.ref kk), some (.int (missOf [] (l.take i))), v5, v6])
      ⟨f1.trans (Fr.new hkk), kk, none, none, upd_same, rfl⟩ (fun i σ H' _ h => SqL.of (h.1 _ _ hb (by simp))) ?_ ?_⟩
    · rintro i x σ H2 U hx ⟨f2, kk, v5, v6, e2, rfl⟩ hU
      obtain ⟨u, rfl, hu⟩ := int_at hx
      obtain ⟨q, hq, rfl⟩ : ∃ q, l[i]? = some q ∧ q.1 = u := by
        rw [List.getElem?_map] at hu
        cases hq : l[i]? with
        | none => rw [hq] at hu; cases hu
        | some q => rw [hq] at hu; exact ⟨q, rfl, Option.some.inj hu⟩
      have hi := lt_of_at hq
      have hkl := keptOf_len (l.take i)
      rw [List.length_take] at hkl
      have f3 := f2.trans (Fr.new (o := .tup [.int (i : Nat), .int q.1]) hU)
      have e3 := (upd_ne (o := .tup [.int (i : Nat), .int q.1]) (ne_of_none e2 hU)).trans e2
      have hpl : (l.map fun q => q.2.v)[i]? = some q.2.v := by rw [List.getElem?_map, hq]; rfl
      refine ⟨U, _, rfl, SqT.of upd_same, rfl, _, _, rfl, _, _, rfl, rfl, ?_⟩
      refine ⟨_, rfl, _, rfl, p, _, rfl, .inl (SqL.of (f3 _ _ hp (by simp))), rfl, _, rfl, ?_⟩
      rw [List.length_map, decI (a := (i : Int)) (b := (l.length : Int)) (by omega)]
      refine iteF ⟨_, rfl, _, rfl, _, rfl, _, rfl, _, rfl, p, _, (i : Int), _, rfl, rfl, SqL.of (f3 _ _ hp (by simp)), atI_nat hpl, ?_⟩
      refine ⟨n, kk, _, q.1, _, _, rfl, e3, .ent q.2, _, rfl, ?_⟩
      rw [hv i q hq]
      refine iteF ?_
      refine ⟨_, rfl, _, rfl, kk, _, rfl, .inl (SqL.of e3), rfl, flat_ints _, _, rfl, ?_⟩
      rw [inV_int]
      have hm := miss_step hq
      by_cases hk : q.1 ∈ keptOf (l.take i)
      · rw [decide_eq_true hk]
        rw [if_pos hk, Int.add_zero] at hm
        refine iteF ?_
        refine ⟨_, rfl, _, rfl, _, rfl, _, rfl, p, _, (i : Int), _, rfl, rfl, SqL.of (f3 _ _ hp (by simp)), atI_nat hpl, ?_⟩
        refine ⟨kk, _, q.1, q.2, rfl, e3, by omega, fun k' H4 f4 e4 _ => ?_⟩
        rw [← kept_step hq] at e4
        exact ⟨f3.trans f4, k', some (.int (i : Int)), some (.int q.1), e4, by rw [hm]; rfl⟩
      · rw [decide_eq_false hk]
        rw [if_neg hk] at hm
        refine iteT ?_
        refine ⟨_, rfl, _, _, rfl, rfl, ?_⟩
        refine ⟨_, rfl, _, rfl, _, rfl, _, rfl, p, _, (i : Int), _, rfl, rfl, SqL.of (f3 _ _ hp (by simp)), atI_nat hpl, ?_⟩
        refine ⟨kk, _, q.1, q.2, rfl, e3, by omega, fun k' H4 f4 e4 _ => ?_⟩
        rw [← kept_step hq] at e4
        exact ⟨f3.trans f4, k', some (.int (i : Int)), some (.int q.1), e4, by rw [hm]; rfl⟩
    · rintro σ H2 ⟨f2, kk, v5, v6, e2, rfl⟩
      refine ⟨_, rfl, p, _, rfl, .inl (SqL.of (f2 _ _ hp (by simp))), _, rfl, b, _, rfl, .inl (SqL.of (f2 _ _ hb (by simp))), _, _, rfl, rfl, _, rfl, ?_⟩
      rw [List.length_map, List.length_map, List.length_map, decide_eq_false (by omega)]
      refine iteF ⟨_, rfl, ?_⟩
      have e := k _ f2
      rw [List.take_length]
      exact e
end
/-! ### equal, by the law's own comparison, of words too -/
def isL : V → Bool
  | .non => true
  | .bl _ => true
  | .int _ => true
  | .str _ => true
  | _ => false
def Eqn (H : Hp) : Nat → V → V → Prop
  | 0, v, e => v = e ∧ isL e = true
  | n + 1, v, e => (v = e ∧ isL e = true) ∨ (∃ (a b : Addr) (xs ys : List V), v = .ref a ∧ e = .ref b ∧ ((H a = some (.tup xs) ∧ H b = some (.tup ys)) ∨ (H a = some (.lst xs) ∧ H b = some (.lst ys))) ∧ xs.length = ys.length ∧ ys.length ≤ 2000 ∧ ∀ (i : Nat) (x y : V), xs[i]? = some x → ys[i]? = some y → Eqn H n x y)
theorem Eqn.keep {H H' : Hp} (f : Fr [] H H') : ∀ {n : Nat} {v e : V}, Eqn H n v e → Eqn H' n v e
  | 0, _, _, h => h
  | n + 1, _, _, .inl h => .inl h
  | n + 1, _, _, .inr ⟨a, b, xs, ys, e1, e2, h, h3, h5, h4⟩ => by
    refine .inr ⟨a, b, xs, ys, e1, e2, ?_, h3, h5, fun i x y q1 q2 => Eqn.keep f (h4 i x y q1 q2)⟩
    rcases h with ⟨h1, h2⟩ | ⟨h1, h2⟩
    · exact .inl ⟨f _ _ h1 (by simp), f _ _ h2 (by simp)⟩
    · exact .inr ⟨f _ _ h1 (by simp), f _ _ h2 (by simp)⟩
theorem Eqn.flat {H : Hp} {v : V} (h : isL v = true) : ∀ n, Eqn H n v v
  | 0 => ⟨rfl, h⟩
  | _ + 1 => .inl ⟨rfl, h⟩
theorem Eqn.up {H : Hp} : ∀ {n : Nat} {v e : V}, Eqn H n v e → Eqn H (n + 1) v e
  | 0, _, _, h => .inl h
  | n + 1, _, _, .inl h => .inl h
  | n + 1, _, _, .inr ⟨a, b, xs, ys, e1, e2, h, h3, h5, h4⟩ => .inr ⟨a, b, xs, ys, e1, e2, h, h3, h5, fun i x y q1 q2 => Eqn.up (h4 i x y q1 q2)⟩
/-- two lists of plain contents -/
theorem Eqn.same {H : Hp} {n : Nat} {xs : List V} (h : ∀ v ∈ xs, Eqn H n v v) : ∀ (i : Nat) (x y : V), xs[i]? = some x → xs[i]? = some y → Eqn H n x y := fun i x y e1 e2 => by
  rw [e1] at e2
  cases e2
  exact h x (List.mem_of_getElem? e1)
def spEq (n : Nat) : Sp := fun vs H Q _ => ∃ v e : V, vs = [v, e] ∧ Eqn H n v e ∧ ∀ H', Fr [] H H' → Q (.bl true) H'
theorem ix_seqK {X : Cx} {K : PySem.W.Frag} (h : X.K = K) : IxR X (rIx K) := by
  subst h
  exact ix_seq
theorem len_bool {a b : Nat} (h : a = b) : (!decide (V.int (a : Int) = V.int (b : Int))) = false := by
  rw [h]
  simp
section
variable {P : Program} {w : World} {K : PySem.W.Frag} {mg : Str → Option Value} {base : Heap}
theorem ok_equal : ∀ (n : Nat) (T : Gx K mg), FnOk P w K mg base CX0 (n + 1) T.f__law_equal T.fd__law_equal ["_law_actual", "_law_expected"] (spEq n)
  | n, T => by
    refine T.F__law_equal.ok sc__law_equal (fun vs H Q E h => ?_) (fun cdv A outer s H vs Q E hr h => ?_)
    · obtain ⟨v, e, rfl, _⟩ := h
      rfl
    · obtain ⟨v, e, rfl, hE, k⟩ := h
      have leaf : v = e → isL e = true → (∃ t, PSs (cxOf CX0 P w K mg base ["_law_actual", "_law_expected", "_law_k"] "_law_equal" (defScope s__law_equal) T.f__law_equal cdv A outer s H E).nox (defBody s__law_equal) t ∧ t { nx := fun _ H' => Q .non H', rt := Q } (start ["_law_actual", "_law_expected", "_law_k"] [v, e]) H) := by
        intro hve hF
        subst hve
        refine ⟨_, (pss_cons (ps_if (pt_cmpR op_isN (pv 1) pe_non (nomark _)) (pss_one (ps_ret (pe_cmpR op_isN (pv 0) pe_non (nomark _)))) pss_nil)
          (pss_cons (ps_if (pt_val (pe_callB call_isi (by rfl) T.z_isinstance (by decide +kernel) (pa_cons (pv 1) (pa_cons (pe_bltn (v := .ty "bool") (by rfl) T.z_bool (by decide +kernel) rfl) pa_nil)))) (pss_one (ps_ret (pe_and (pe_callB call_isi (by rfl) T.z_isinstance (by decide +kernel) (pa_cons (pv 0) (pa_cons (pe_bltn (v := .ty "bool") (by rfl) T.z_bool (by decide +kernel) rfl) pa_nil))) (pe_one (pe_cmpR op_eq (pv 0) (pv 1) (nomark _)))))) pss_nil)
          (pss_cons (ps_if (pt_val (pe_callB call_isi (by rfl) T.z_isinstance (by decide +kernel) (pa_cons (pv 1) (pa_cons (pe_bltn (v := .ty "int") (by rfl) T.z_int (by decide +kernel) rfl) pa_nil)))) (pss_one (ps_ret (pe_and (pe_callB call_isi (by rfl) T.z_isinstance (by decide +kernel) (pa_cons (pv 0) (pa_cons (pe_bltn (v := .ty "int") (by rfl) T.z_int (by decide +kernel) rfl) pa_nil))) (pe_and (pe_not (pe_callB call_isi (by rfl) T.z_isinstance (by decide +kernel) (pa_cons (pv 0) (pa_cons (pe_bltn (v := .ty "bool") (by rfl) T.z_bool (by decide +kernel) rfl) pa_nil)))) (pe_one (pe_cmpR op_eq (pv 0) (pv 1) (nomark _))))))) pss_nil)
          (pss_cons (ps_if (pt_val (pe_callB call_isi (by rfl) T.z_isinstance (by decide +kernel) (pa_cons (pv 1) (pa_cons (pe_bltn (v := .ty "str") (by rfl) T.z_str (by decide +kernel) rfl) pa_nil)))) (pss_one (ps_ret (pe_and (pe_callB call_isi (by rfl) T.z_isinstance (by decide +kernel) (pa_cons (pv 0) (pa_cons (pe_bltn (v := .ty "str") (by rfl) T.z_str (by decide +kernel) rfl) pa_nil))) (pe_one (pe_cmpR op_eq (pv 0) (pv 1) (nomark _)))))) pss_nil)
          pss_never)))), ?_⟩
        have k0 := k H (Fr.refl _ _)
        cases v with
        | non =>
          exact ⟨_, rfl, rfl, _, rfl, iteT ⟨_, rfl, rfl, k0⟩⟩
        | bl b =>
          refine ⟨_, rfl, rfl, _, rfl, iteF ?_⟩
          refine ⟨_, rfl, _, .ty "bool", .type "bool", _, true, rfl, ClsV.ty "bool", .base (.bl b), kit_ty (by decide +kernel), _, rfl, iteT ?_⟩
          refine ⟨_, rfl, _, .ty "bool", .type "bool", _, true, rfl, ClsV.ty "bool", .base (.bl b), kit_ty (by decide +kernel), _, rfl, iteT ?_⟩
          refine ⟨_, rfl, _, rfl, rfl, ?_⟩
          show Q (.bl (decide (V.bl b = V.bl b))) _
          rw [decide_eq_true rfl]
          exact k0
        | int i =>
          refine ⟨_, rfl, rfl, _, rfl, iteF ?_⟩
          refine ⟨_, rfl, _, .ty "bool", .type "int", _, false, rfl, ClsV.ty "bool", .base (.int i), kit_ty (by decide +kernel), _, rfl, iteF ?_⟩
          refine ⟨_, rfl, _, .ty "int", .type "int", _, true, rfl, ClsV.ty "int", .base (.int i), kit_ty (by decide +kernel), _, rfl, iteT ?_⟩
          refine ⟨_, rfl, _, .ty "int", .type "int", _, true, rfl, ClsV.ty "int", .base (.int i), kit_ty (by decide +kernel), _, rfl, iteT ?_⟩
          refine ⟨_, rfl, _, .ty "bool", .type "int", _, false, rfl, ClsV.ty "bool", .base (.int i), kit_ty (by decide +kernel), _, rfl, _, rfl, iteT ?_⟩
          refine ⟨_, rfl, _, rfl, rfl, ?_⟩
          show Q (.bl (decide (V.int i = V.int i))) _
          rw [decide_eq_true rfl]
          exact k0
        | str z =>
          refine ⟨_, rfl, rfl, _, rfl, iteF ?_⟩
          refine ⟨_, rfl, _, .ty "bool", .type "str", _, false, rfl, ClsV.ty "bool", .base (.str z), kit_ty (by decide +kernel), _, rfl, iteF ?_⟩
          refine ⟨_, rfl, _, .ty "int", .type "str", _, false, rfl, ClsV.ty "int", .base (.str z), kit_ty (by decide +kernel), _, rfl, iteF ?_⟩
          refine ⟨_, rfl, _, .ty "str", .type "str", _, true, rfl, ClsV.ty "str", .base (.str z), kit_ty (by decide +kernel), _, rfl, iteT ?_⟩
          refine ⟨_, rfl, _, .ty "str", .type "str", _, true, rfl, ClsV.ty "str", .base (.str z), kit_ty (by decide +kernel), _, rfl, iteT ?_⟩
          refine ⟨_, rfl, _, rfl, rfl, ?_⟩
          show Q (.bl (decide (V.str z = V.str z))) _
          rw [decide_eq_true rfl]
          exact k0
        | byt _ => cases hF
        | flt _ => cases hF
        | ref _ => cases hF
        | ty _ => cases hF
      cases n with
      | zero => exact leaf hE.1 hE.2
      | succ n =>
        rcases hE with ⟨e1, e2⟩ | ⟨a, b, xs, ys, rfl, rfl, hab, hl, h2k, hi⟩
        · exact leaf e1 e2
        · have G__law_equal : FnOk P w K mg base CX0 (n + 1) T.f__law_equal T.fd__law_equal ["_law_actual", "_law_expected"] (spEq n) := ok_equal n T
          refine ⟨_, (pss_cons (ps_if (pt_cmpR op_isN (pv 1) pe_non (nomark _)) (pss_one (ps_ret (pe_cmpR op_isN (pv 0) pe_non (nomark _)))) pss_nil)
      (pss_cons (ps_if (pt_val (pe_callB call_isi (by rfl) T.z_isinstance (by decide +kernel) (pa_cons (pv 1) (pa_cons (pe_bltn (v := .ty "bool") (by rfl) T.z_bool (by decide +kernel) rfl) pa_nil)))) (pss_one (ps_ret (pe_and (pe_callB call_isi (by rfl) T.z_isinstance (by decide +kernel) (pa_cons (pv 0) (pa_cons (pe_bltn (v := .ty "bool") (by rfl) T.z_bool (by decide +kernel) rfl) pa_nil))) (pe_one (pe_cmpR op_eq (pv 0) (pv 1) (nomark _)))))) pss_nil)
      (pss_cons (ps_if (pt_val (pe_callB call_isi (by rfl) T.z_isinstance (by decide +kernel) (pa_cons (pv 1) (pa_cons (pe_bltn (v := .ty "int") (by rfl) T.z_int (by decide +kernel) rfl) pa_nil)))) (pss_one (ps_ret (pe_and (pe_callB call_isi (by rfl) T.z_isinstance (by decide +kernel) (pa_cons (pv 0) (pa_cons (pe_bltn (v := .ty "int") (by rfl) T.z_int (by decide +kernel) rfl) pa_nil))) (pe_and (pe_not (pe_callB call_isi (by rfl) T.z_isinstance (by decide +kernel) (pa_cons (pv 0) (pa_cons (pe_bltn (v := .ty "bool") (by rfl) T.z_bool (by decide +kernel) rfl) pa_nil)))) (pe_one (pe_cmpR op_eq (pv 0) (pv 1) (nomark _))))))) pss_nil)
      (pss_cons (ps_if (pt_val (pe_callB call_isi (by rfl) T.z_isinstance (by decide +kernel) (pa_cons (pv 1) (pa_cons (pe_bltn (v := .ty "str") (by rfl) T.z_str (by decide +kernel) rfl) pa_nil)))) (pss_one (ps_ret (pe_and (pe_callB call_isi (by rfl) T.z_isinstance (by decide +kernel) (pa_cons (pv 0) (pa_cons (pe_bltn (v := .ty "str") (by rfl) T.z_str (by decide +kernel) rfl) pa_nil))) (pe_one (pe_cmpR op_eq (pv 0) (pv 1) (nomark _)))))) pss_nil)
      (pss_cons (ps_if (pt_cmpR op_ne (pe_callB call_isi (by rfl) T.z_isinstance (by decide +kernel) (pa_cons (pv 1) (pa_cons (pe_bltn (v := .ty "tuple") (by rfl) T.z_tuple (by decide +kernel) rfl) pa_nil))) (pe_callB call_isi (by rfl) T.z_isinstance (by decide +kernel) (pa_cons (pv 0) (pa_cons (pe_bltn (v := .ty "tuple") (by rfl) T.z_tuple (by decide +kernel) rfl) pa_nil))) (nomark _)) (pss_one (ps_ret pe_bl)) pss_nil)
      (pss_cons (ps_if (pt_cmpR op_ne (pe_callB call_isi (by rfl) T.z_isinstance (by decide +kernel) (pa_cons (pv 1) (pa_cons (pe_bltn (v := .ty "list") (by rfl) T.z_list (by decide +kernel) rfl) pa_nil))) (pe_callB call_isi (by rfl) T.z_isinstance (by decide +kernel) (pa_cons (pv 0) (pa_cons (pe_bltn (v := .ty "list") (by rfl) T.z_list (by decide +kernel) rfl) pa_nil))) (nomark _)) (pss_one (ps_ret pe_bl)) pss_nil)
      (pss_cons (ps_if (pt_cmpR op_ne (pe_callB call_len_seq (by rfl) T.z_len (by decide +kernel) (pa_cons (pv 0) pa_nil)) (pe_callB call_len_seq (by rfl) T.z_len (by decide +kernel) (pa_cons (pv 1) pa_nil)) (nomark _)) (pss_one (ps_ret pe_bl)) pss_nil)
      (pss_one (ps_ret (pe_callB (cr_all rfl) (by rfl) T.z_all (by decide +kernel) (pa_cons (pe_lc (own := [("_law_k", 2)]) (g := gName 2) rfl sc__law_equal.nd (pi_range1 (by rfl) T.z_range (pa_cons (pe_callB call_len_seq (by rfl) T.z_len (by decide +kernel) (pa_cons (pv 1) pa_nil)) pa_nil)) (blkOk_by (N := ["_law_actual", "_law_expected", "_law_k"]) (sc := defScope s__law_equal) (by decide +kernel)) (fun _ _ _ _ _ => pg_name (i := 2) sc__law_equal.nd rfl (.inl rfl)) (fun _ _ _ _ _ => pts_nil) (fun _ _ _ _ _ => (pe_call G__law_equal (hr.mono (by first | decide | omega)) (by rfl) T.g__law_equal T.F__law_equal.kp (b__law_equal T) .nil pass0 (pa_cons (pe_ix (ix_seqK (K := K) rfl) (pv 0) (pv 2) (fun _ _ => rfl)) (pa_cons (pe_ix (ix_seqK (K := K) rfl) (pv 1) (pv 2) (fun _ _ => rfl)) pa_nil))))) pa_nil))))))))))), ?_⟩
          obtain ⟨ty, ta, tb, t1, t2, t3, t4, bt, bl, t5, t6⟩ : ∃ ty : String, TyX K H (.ref a) (.type ty) ∧ TyX K H (.ref b) (.type ty) ∧ kitB ty "bool" = some false ∧ kitB ty "int" = some false ∧ kitB ty "str" = some false ∧ (SqL K H a xs ∧ SqL K H b ys ∨ SqT K H a xs ∧ SqT K H b ys) ∧ ∃ bt bl : Bool, kitB ty "tuple" = some bt ∧ kitB ty "list" = some bl := by
            rcases hab with ⟨h1, h2⟩ | ⟨h1, h2⟩
            · exact ⟨"tuple", .base (.tup h1), .base (.tup h2), by decide +kernel, by decide +kernel, by decide +kernel, .inr ⟨SqT.of h1, SqT.of h2⟩, true, false, by decide +kernel, by decide +kernel⟩
            · exact ⟨"list", .base (.lst h1), .base (.lst h2), by decide +kernel, by decide +kernel, by decide +kernel, .inl ⟨SqL.of h1, SqL.of h2⟩, false, true, by decide +kernel, by decide +kernel⟩
          refine ⟨_, rfl, rfl, _, rfl, iteF ?_⟩
          refine ⟨_, rfl, _, .ty "bool", .type ty, _, false, rfl, ClsV.ty "bool", tb, kit_ty t1, _, rfl, iteF ?_⟩
          refine ⟨_, rfl, _, .ty "int", .type ty, _, false, rfl, ClsV.ty "int", tb, kit_ty t2, _, rfl, iteF ?_⟩
          refine ⟨_, rfl, _, .ty "str", .type ty, _, false, rfl, ClsV.ty "str", tb, kit_ty t3, _, rfl, iteF ?_⟩
          refine ⟨_, rfl, _, .ty "tuple", .type ty, _, bt, rfl, ClsV.ty "tuple", tb, kit_ty t5, _, rfl, _, .ty "tuple", .type ty, _, bt, rfl, ClsV.ty "tuple", ta, kit_ty t5, rfl, _, rfl, ?_⟩
          rw [decide_eq_true rfl]
          refine iteF ?_
          refine ⟨_, rfl, _, .ty "list", .type ty, _, bl, rfl, ClsV.ty "list", tb, kit_ty t6, _, rfl, _, .ty "list", .type ty, _, bl, rfl, ClsV.ty "list", ta, kit_ty t6, rfl, _, rfl, ?_⟩
          rw [decide_eq_true rfl]
          refine iteF ?_
          have sa : SqL K H a xs ∨ SqT K H a xs := t4.elim (fun z => .inl z.1) (fun z => .inr z.1)
          have sb : SqL K H b ys ∨ SqT K H b ys := t4.elim (fun z => .inl z.2) (fun z => .inr z.2)
          refine ⟨_, rfl, a, xs, rfl, sa, _, rfl, b, ys, rfl, sb, rfl, _, rfl, ?_⟩
          rw [len_bool hl]
          refine iteF ?_
          refine ⟨_, rfl, b, ys, rfl, sb, (ys.length : Int), rfl, by omega, by omega, fun D hD => ?_⟩
          rw [Int.toNat_natCast]
          refine lc_range (lo := 0) (n := ys.length) (fun i H' => Fr [] H H' ∧ H' D = some (.lst ((List.replicate i true).map V.bl))) ⟨Fr.new hD, upd_same⟩ ?_ ?_
          · rintro i H1 hil ⟨f, eD⟩
            have hx : xs[i]? = some (xs[i]'(by omega)) := List.getElem?_eq_getElem (by omega)
            have hy : ys[i]? = some ys[i] := List.getElem?_eq_getElem hil
            have ea : atI xs ((0 : Int) + (i : Int)) = some (xs[i]'(by omega)) := at_of (by omega) hx
            have eb : atI ys ((0 : Int) + (i : Int)) = some ys[i] := at_of (by omega) hy
            refine ⟨rfl, _, rfl, _, rfl, ?_⟩
            have step : ∀ H2, Fr [] H1 H2 → ∃ acc, H2 D = some (.lst acc) ∧ acc.length < sizeLine ∧ Fr [] H (upd H2 D (.lst (acc ++ [.bl true]))) ∧ (upd H2 D (.lst (acc ++ [V.bl true]))) D = some (.lst ((List.replicate (i + 1) true).map V.bl)) := fun H2 f2 => by
              refine ⟨_, f2 _ _ eD (by simp), ?_, ?_, ?_⟩
              · rw [List.length_map, List.length_replicate]
                exact sz_lt (by omega)
              · intro c o ec _
                rw [upd_ne (ne_of_none ec hD)]
                exact (f.trans f2) c o ec (by simp)
              · rw [upd_same, List.replicate_succ', List.map_append]
                rfl
            have fin : spEq n [xs[i]'(by omega), ys[i]] H1 (fun y H4 => ∃ acc, H4 D = some (.lst acc) ∧ acc.length < sizeLine ∧ Fr [] H (upd H4 D (.lst (acc ++ [y]))) ∧ (upd H4 D (.lst (acc ++ [y]))) D = some (.lst ((List.replicate (i + 1) true).map V.bl))) E0 :=
              ⟨_, _, rfl, (hi i _ _ hx hy).keep f, fun H2 f2 => step H2 f2⟩
            rcases t4 with ⟨s1, s2⟩ | ⟨s1, s2⟩
            · exact .inl ⟨a, xs, _, _, rfl, rfl, f.seq (by simp) s1, ea, _, rfl, _, rfl, .inl ⟨b, ys, _, _, rfl, rfl, f.seq (by simp) s2, eb, fin⟩⟩
            · exact .inr (.inl ⟨a, xs, _, _, rfl, rfl, f.tup (by simp) s1, ea, _, rfl, _, rfl, .inr (.inl ⟨b, ys, _, _, rfl, rfl, f.tup (by simp) s2, eb, fin⟩)⟩)
          · rintro H1 ⟨f, eD⟩
            refine ⟨D, List.replicate ys.length true, rfl, SqL.of eD, ?_⟩
            have : (List.replicate ys.length true).all id = true := by simp
            rw [this]
            exact k _ f
end
/-! ### kinds of an error -/
theorem kit_own {K : PySem.W.Frag} {C : Addr} {t : Value} {b : Bool} (hc : PySem.W.isClsIn K C = true) (ht : PySem.W.typeIn K (.ref C) = some (.type "type")) (hs : PySem.W.subIn K t (.ref C) = some b) (hne : (t == .ref C) = true → b = true) : PySem.W.kitOne K t (.ref C) = some b := by
  unfold PySem.W.kitOne
  split
  · rename_i e
    rw [hne e]
  · unfold PySem.W.kitCls
    have h1 : (PySem.W.clsIn K C).isSome = true := hc
    simp only [h1, ht, beq_self_eq_true, Bool.and_true, if_true]
    exact hs
theorem ne_of_sub {K : PySem.W.Frag} {D X : Addr} (h1 : PySem.W.subIn K (.ref D) (.ref X) = some false) (h2 : PySem.W.subIn K (.ref D) (.ref D) = some true) (e : (Value.ref D == Value.ref X) = true) : false = true := by
  have e' : D = X := by simpa using e
  rw [← e', h2] at h1
  cases h1
theorem kit_ve {K : PySem.W.Frag} {D : Addr} (h : PySem.W.subIn K (.ref D) (.type "ValueError") = some true) : PySem.W.kitOne K (.ref D) (.type "ValueError") = some true := by
  unfold PySem.W.kitOne
  rw [if_neg (by simp)]
  unfold PySem.W.kitCls
  simp only [h]
  first
    | rfl
    | simp
def suiteOf : List Stmt → List Stmt
  | .Try _ (.ExceptHandler _ _ s _ :: _) _ _ _ :: _ => s
  | _ => []
section
open PySem.W
theorem pe_isi {X : Cx} {D a C : Addr} {oe : Obj} {d : Option Addr} {i : Nat} {x c : Str} {b : Bool} {p p1 p2 pos : Pos} (hE : ExcC X.K D) (hC : Cgt X D a oe d) (hg : Gl X "isinstance") (hm : X.mg "isinstance" = none) (hN : X.N[i]? = some x) (hv : Vis X.env.scope x) (hgC : Gl X c) (hmC : X.mg c = some (.ref C)) (kit : kitOne X.K (.ref D) (.ref C) = some b)
    (hd : (x == ("__debug__" : Str)) = false := by decide) (hcd : (x == ("__classdict__" : Str)) = false := by decide) (hdc : (c == ("__debug__" : Str)) = false := by decide) : PE X (.Call (.Name "isinstance" p) [.Name x p1, .Name c p2] [] pos) (fun σ H Q => (σ[i]? = some (some (.ref a)) ∧ ∃ fs, FldsAt H d fs) ∧ Q (.bl b) H) := by
  refine ⟨fun pins s σ H Q I h => PE.run (pe_callB (call_isC hE hC) hg hm (by decide +kernel) (pa_cons (pe_var hN hv hd hcd) (pa_cons (pe_glob (v := .ref C) hgC hmC rfl hdc) pa_nil))) pins s σ H Q I ?_⟩
  obtain ⟨⟨h1, fs, hf⟩, q⟩ := h
  exact ⟨_, h1, _, .ref C, _, fs, rfl, hf, (fun _ z => z), kit, q⟩
end
/-! ### what the law's _law_error_of tells -/
def ENAMES : Str := (("size cell kept block value count slot word story off on nofast hasfast unsettled" : Str) ++ (" contradiction name unknown rules recipes requests prices plan" : Str)) ++ (" failed operation notation decode" : Str)
theorem new_at {H : Hp} {p : Addr} (_ : H p = none) (o : HO) : upd H p o p = some o := upd_same
theorem split_names : (Txt.split ENAMES " ") = ([("size" : Str), ("cell" : Str), ("kept" : Str), ("block" : Str), ("value" : Str), ("count" : Str), ("slot" : Str), ("word" : Str), ("story" : Str), ("off" : Str), ("on" : Str), ("nofast" : Str), ("hasfast" : Str), ("unsettled" : Str), ("contradiction" : Str), ("name" : Str), ("unknown" : Str), ("rules" : Str), ("recipes" : Str), ("requests" : Str), ("prices" : Str), ("plan" : Str), ("failed" : Str), ("operation" : Str), ("notation" : Str), ("decode" : Str)] : List Str) := by decide +kernel
theorem idx_first {ys : List V} {y : V} {j : Nat} (h : (ys.take j).all (fun z => !eqV z y) = true) : ∀ (m : Nat) (z' : V), m < j → ys[m]? = some z' → eqV z' y = false := fun m z' hm hz => by
  have e : (ys.take j)[m]? = some z' := by rw [List.getElem?_take_of_lt hm]; exact hz
  have q := List.all_eq_true.mp h z' (List.mem_of_getElem? e)
  simpa using q

section
variable {P : Program} {w : World} {K : PySem.W.Frag} {mg : Str → Option Value} {base : Heap}
/-- the ways in which a call that is asked about may end by an error -/
def ErrEnd (T : Gx K mg) (cls : Value) (d : Option Addr) (H : Hp) (Q : VK) : Prop :=
  (cls = .ref T.C_InvalidSize ∧ (∃ fs, FldsAt H d fs) ∧ ∀ (t : Addr) (H'' : Hp), H t = none → Fr [] H H'' → H'' t = some (.tup [.str "size", .int 0]) → Q (.ref t) H'')
  ∨ (∃ p : V, cls = .ref T.C_InvalidRequests ∧ d ≠ none ∧ FldsAt H d [("index", p)] ∧ ∀ (t : Addr) (H'' : Hp), H t = none → Fr [] H H'' → H'' t = some (.tup [.str "requests", p]) → Q (.ref t) H'')
  ∨ (∃ p : V, cls = .ref T.C_InvalidPlan ∧ d ≠ none ∧ FldsAt H d [("index", p)] ∧ ∀ (t : Addr) (H'' : Hp), H t = none → Fr [] H H'' → H'' t = some (.tup [.str "plan", p]) → Q (.ref t) H'')
theorem ok_told_InvalidSize (T : Gx K mg) {a : Addr} {oe : Obj} {d : Option Addr} (hz : L2N.Zn (.ref T.C_InvalidSize) d oe) (hf : ∃ vs, oe.data = .fields vs) : FnP P w K mg base C8.CX0 1 T.f__law_told_of (a, oe)
    (fun vs H Q _ => vs = [.ref a, .str "size"] ∧ ∀ (t : Addr) (H'' : Hp), H t = none → Fr [] H H'' → H'' t = some (.tup [.str "size", .int 0]) → Q (.ref t) H'') := by
  refine FunOkP T.F__law_told_of (b__law_told_of T) sc__law_told_of (fun vs H Q E h => by obtain ⟨rfl, _⟩ := h; rfl) (fun cdv A outer s H vs Q E hr h => ?_)
  have hC : ∀ {X : Cx}, X.pn = [(a, oe)] → Cgt X T.C_InvalidSize a oe d := fun e => ⟨by rw [e]; exact List.mem_cons_self, hz, hf⟩
  have hX : PySem.W.Frag → XfC K T.C_InvalidSize := fun _ => ⟨T.E_InvalidSize.hg, T.E_InvalidSize.hk, T.E_InvalidSize.hs, T.E_InvalidSize.hd⟩
  obtain ⟨rfl, k⟩ := h
  refine ⟨_, (pss_cons (ps_if (pt_cmpR op_eq (pv 1) pe_str (nomark _)) pss_never pss_nil) (pss_cons (ps_if (pt_cmpR op_eq (pv 1) pe_str (nomark _)) pss_never pss_nil) (pss_cons (ps_if (pt_cmpR op_in_seq (pv 1) (pe_lst (pa_cons pe_str (pa_cons pe_str (pa_cons pe_str pa_nil)))) (by rfl)) pss_never pss_nil) (pss_cons (ps_if (pt_cmpR op_eq (pv 1) pe_str (nomark _)) pss_never pss_nil) (pss_cons (ps_if (pt_cmpR op_eq (pv 1) pe_str (nomark _)) pss_never pss_nil) (pss_cons (ps_if (pt_cmpR op_eq (pv 1) pe_str (nomark _)) pss_never pss_nil) (pss_one (ps_ret (pe_tup (pa_cons (pv 1) (pa_cons (pe_ifExp (pt_cmpR op_eq (pv 1) pe_str (nomark _)) pe_never pe_int) pa_nil))))))))))), ?_⟩
  refine ⟨_, rfl, rfl, _, rfl, iteF ?_⟩
  refine ⟨_, rfl, rfl, _, rfl, iteF ?_⟩
  refine ⟨_, rfl, sz_le (by simp), fun g hg => ⟨g, _, rfl, .inl (SqL.of upd_same), rfl, rfl, _, rfl, ?_⟩⟩
  refine iteFb (by decide +kernel) ?_
  refine ⟨_, rfl, rfl, _, rfl, iteF ?_⟩
  refine ⟨_, rfl, rfl, _, rfl, iteF ?_⟩
  refine ⟨_, rfl, rfl, _, rfl, iteF ?_⟩
  refine ⟨_, rfl, _, rfl, rfl, _, rfl, iteF ?_⟩
  exact ⟨sz_le (by simp), fun t ht => k t _ (free_upd ht).1 ((Fr.new hg).trans (Fr.new ht)) upd_same⟩
theorem ok_told_InvalidRequests (T : Gx K mg) {a : Addr} {oe : Obj} {d : Option Addr} (hz : L2N.Zn (.ref T.C_InvalidRequests) d oe) (hf : ∃ vs, oe.data = .fields vs) : FnP P w K mg base C8.CX0 1 T.f__law_told_of (a, oe)
    (fun vs H Q _ => vs = [.ref a, .str "requests"] ∧ ∃ p : V, d ≠ none ∧ FldsAt H d [("index", p)] ∧ ∀ (t : Addr) (H'' : Hp), H t = none → Fr [] H H'' → H'' t = some (.tup [.str "requests", p]) → Q (.ref t) H'') := by
  refine FunOkP T.F__law_told_of (b__law_told_of T) sc__law_told_of (fun vs H Q E h => by obtain ⟨rfl, _⟩ := h; rfl) (fun cdv A outer s H vs Q E hr h => ?_)
  have hC : ∀ {X : Cx}, X.pn = [(a, oe)] → Cgt X T.C_InvalidRequests a oe d := fun e => ⟨by rw [e]; exact List.mem_cons_self, hz, hf⟩
  have hX : PySem.W.Frag → XfC K T.C_InvalidRequests := fun _ => ⟨T.E_InvalidRequests.hg, T.E_InvalidRequests.hk, T.E_InvalidRequests.hs, T.E_InvalidRequests.hd⟩
  obtain ⟨rfl, p, hd, hfl, k⟩ := h
  refine ⟨_, (pss_cons (ps_if (pt_cmpR op_eq (pv 1) pe_str (nomark _)) pss_never pss_nil) (pss_cons (ps_if (pt_cmpR op_eq (pv 1) pe_str (nomark _)) pss_never pss_nil) (pss_cons (ps_if (pt_cmpR op_in_seq (pv 1) (pe_lst (pa_cons pe_str (pa_cons pe_str (pa_cons pe_str pa_nil)))) (by rfl)) (pss_one (ps_ret (pe_tup (pa_cons (pv 1) (pa_cons (pe_fldC (hX K) T.no_InvalidRequests_index (hC rfl) (pv 0)) pa_nil))))) pss_nil) pss_never))), ?_⟩
  refine ⟨_, rfl, rfl, _, rfl, iteF ?_⟩
  refine ⟨_, rfl, rfl, _, rfl, iteF ?_⟩
  refine ⟨_, rfl, sz_le (by simp), fun g hg => ⟨g, _, rfl, .inl (SqL.of upd_same), rfl, rfl, _, rfl, ?_⟩⟩
  have hG := FldsAt.keep (S := []) hfl (Fr.new (o := .lst [.str "requests", .str "prices", .str "plan"]) hg) (by simp)
  refine iteTb (by decide +kernel) ?_
  exact ⟨_, rfl, _, rfl, rfl, _, _, hd, hG, rfl, sz_le (by simp), fun t ht => k t _ (free_upd ht).1 ((Fr.new hg).trans (Fr.new ht)) upd_same⟩
theorem ok_told_InvalidPlan (T : Gx K mg) {a : Addr} {oe : Obj} {d : Option Addr} (hz : L2N.Zn (.ref T.C_InvalidPlan) d oe) (hf : ∃ vs, oe.data = .fields vs) : FnP P w K mg base C8.CX0 1 T.f__law_told_of (a, oe)
    (fun vs H Q _ => vs = [.ref a, .str "plan"] ∧ ∃ p : V, d ≠ none ∧ FldsAt H d [("index", p)] ∧ ∀ (t : Addr) (H'' : Hp), H t = none → Fr [] H H'' → H'' t = some (.tup [.str "plan", p]) → Q (.ref t) H'') := by
  refine FunOkP T.F__law_told_of (b__law_told_of T) sc__law_told_of (fun vs H Q E h => by obtain ⟨rfl, _⟩ := h; rfl) (fun cdv A outer s H vs Q E hr h => ?_)
  have hC : ∀ {X : Cx}, X.pn = [(a, oe)] → Cgt X T.C_InvalidPlan a oe d := fun e => ⟨by rw [e]; exact List.mem_cons_self, hz, hf⟩
  have hX : PySem.W.Frag → XfC K T.C_InvalidPlan := fun _ => ⟨T.E_InvalidPlan.hg, T.E_InvalidPlan.hk, T.E_InvalidPlan.hs, T.E_InvalidPlan.hd⟩
  obtain ⟨rfl, p, hd, hfl, k⟩ := h
  refine ⟨_, (pss_cons (ps_if (pt_cmpR op_eq (pv 1) pe_str (nomark _)) pss_never pss_nil) (pss_cons (ps_if (pt_cmpR op_eq (pv 1) pe_str (nomark _)) pss_never pss_nil) (pss_cons (ps_if (pt_cmpR op_in_seq (pv 1) (pe_lst (pa_cons pe_str (pa_cons pe_str (pa_cons pe_str pa_nil)))) (by rfl)) (pss_one (ps_ret (pe_tup (pa_cons (pv 1) (pa_cons (pe_fldC (hX K) T.no_InvalidPlan_index (hC rfl) (pv 0)) pa_nil))))) pss_nil) pss_never))), ?_⟩
  refine ⟨_, rfl, rfl, _, rfl, iteF ?_⟩
  refine ⟨_, rfl, rfl, _, rfl, iteF ?_⟩
  refine ⟨_, rfl, sz_le (by simp), fun g hg => ⟨g, _, rfl, .inl (SqL.of upd_same), rfl, rfl, _, rfl, ?_⟩⟩
  have hG := FldsAt.keep (S := []) hfl (Fr.new (o := .lst [.str "requests", .str "prices", .str "plan"]) hg) (by simp)
  refine iteTb (by decide +kernel) ?_
  exact ⟨_, rfl, _, rfl, rfl, _, _, hd, hG, rfl, sz_le (by simp), fun t ht => k t _ (free_upd ht).1 ((Fr.new hg).trans (Fr.new ht)) upd_same⟩
def kinds_InvalidSize : List V := [.bl true, .bl false, .bl false, .bl false, .bl false, .bl false, .bl false, .bl false, .bl false, .bl false, .bl false, .bl false, .bl false, .bl false, .bl false, .bl false, .bl false, .bl false, .bl false, .bl false, .bl false, .bl false, .bl false, .bl false, .bl false, .bl false]
theorem kinds_InvalidSize_cnt : kinds_InvalidSize.countP (fun z => eqV z (.bl true)) = 1 := by decide +kernel
theorem kinds_InvalidSize_all : kinds_InvalidSize.all flatV = true := by decide +kernel
theorem kinds_InvalidSize_at : kinds_InvalidSize[0]? = some (.bl true) := by decide +kernel
theorem kinds_InvalidSize_fst : ∀ (m : Nat) (z' : V), m < 0 → kinds_InvalidSize[m]? = some z' → eqV z' (.bl true) = false := idx_first (by decide +kernel)
theorem suite_InvalidSize (T : Gx K mg) {A : Around} {outer : List Env} {s : Shared} {H0 : Hp} {E : XK} {cdv : Value} {a : Addr} {oe : Obj} {d : Option Addr} {pn : List (Addr × Obj)} (hr : Room 2 (A.deeper (PyProof.Rows.envOfC "_law_error_of" (defScope s__law_error_of) s.heap.objs.size T.f__law_error_of cdv))) (hz : L2N.Zn (.ref T.C_InvalidSize) d oe) (hf : ∃ vs, oe.data = .fields vs) :
    PSs ((cxOf C8.CX0 P w K mg base ["_law_call", "_law_e", "_law_kinds", "_law_names"] "_law_error_of" (defScope s__law_error_of) T.f__law_error_of cdv A outer s H0 E).suite a ((a, oe) :: pn)) (suiteOf (defBody s__law_error_of)) (fun D σ H => (∃ (x : V) (v2 v3 : Option V), σ = [some x, some (.ref a), v2, v3]) ∧ ((∃ fs, FldsAt H d fs) ∧ ∀ (t : Addr) (H'' : Hp), H t = none → Fr [] H H'' → H'' t = some (.tup [.str "size", .int 0]) → D.rt (.ref t) H'')) := by
  have hC : Cgt ((cxOf C8.CX0 P w K mg base ["_law_call", "_law_e", "_law_kinds", "_law_names"] "_law_error_of" (defScope s__law_error_of) T.f__law_error_of cdv A outer s H0 E).suite a ((a, oe) :: pn)) T.C_InvalidSize a oe d := ⟨List.mem_cons_self, hz, hf⟩
  have hE : ExcC ((cxOf C8.CX0 P w K mg base ["_law_call", "_law_e", "_law_kinds", "_law_names"] "_law_error_of" (defScope s__law_error_of) T.f__law_error_of cdv A outer s H0 E).suite a ((a, oe) :: pn)).K T.C_InvalidSize := T.E_InvalidSize
  have hT := ok_told_InvalidSize (P := P) (w := w) (base := base) T (a := a) hz hf
  have hHot : L2H.Hot1 ((cxOf C8.CX0 P w K mg base ["_law_call", "_law_e", "_law_kinds", "_law_names"] "_law_error_of" (defScope s__law_error_of) T.f__law_error_of cdv A outer s H0 E).suite a ((a, oe) :: pn)).A (a, oe) := ⟨rfl, by
    obtain ⟨vs, hv⟩ := hf
    exact ⟨vs, hv, hz.2.2 vs hv⟩⟩
  refine ⟨fun pins s' σ H D I h => PSs.run (C8.pss_cut (ps_set (i := 2) sc__law_error_of.nd rfl (.inl rfl) (pe_lst (pa_cons (pe_isi (i := 1) hE hC (by rfl) T.z_isinstance rfl (by first | exact Or.inl rfl | exact Or.inr (Or.inl rfl) | exact Or.inr (Or.inr rfl)) (by rfl) T.gC_InvalidSize (kit_own T.ic_InvalidSize T.ty_InvalidSize T.sb_InvalidSize_InvalidSize (fun _ => rfl))) (pa_cons (pe_isi (i := 1) hE hC (by rfl) T.z_isinstance rfl (by first | exact Or.inl rfl | exact Or.inr (Or.inl rfl) | exact Or.inr (Or.inr rfl)) (by rfl) T.gC_InvalidCell (kit_own T.ic_InvalidCell T.ty_InvalidCell T.sb_InvalidSize_InvalidCell (fun e => (ne_of_sub T.sb_InvalidSize_InvalidCell T.sb_InvalidSize_InvalidSize e)))) (pa_cons (pe_isi (i := 1) hE hC (by rfl) T.z_isinstance rfl (by first | exact Or.inl rfl | exact Or.inr (Or.inl rfl) | exact Or.inr (Or.inr rfl)) (by rfl) T.gC_InvalidKept (kit_own T.ic_InvalidKept T.ty_InvalidKept T.sb_InvalidSize_InvalidKept (fun e => (ne_of_sub T.sb_InvalidSize_InvalidKept T.sb_InvalidSize_InvalidSize e)))) pa_nil)))))
      (C8.pss_cut (ps_set (i := 2) sc__law_error_of.nd rfl (.inl rfl) (pe_op op_cat (pv 2) (pe_lst (pa_cons (pe_isi (i := 1) hE hC (by rfl) T.z_isinstance rfl (by first | exact Or.inl rfl | exact Or.inr (Or.inl rfl) | exact Or.inr (Or.inr rfl)) (by rfl) T.gC_InvalidBlock (kit_own T.ic_InvalidBlock T.ty_InvalidBlock T.sb_InvalidSize_InvalidBlock (fun e => (ne_of_sub T.sb_InvalidSize_InvalidBlock T.sb_InvalidSize_InvalidSize e)))) (pa_cons (pe_isi (i := 1) hE hC (by rfl) T.z_isinstance rfl (by first | exact Or.inl rfl | exact Or.inr (Or.inl rfl) | exact Or.inr (Or.inr rfl)) (by rfl) T.gC_InvalidValue (kit_own T.ic_InvalidValue T.ty_InvalidValue T.sb_InvalidSize_InvalidValue (fun e => (ne_of_sub T.sb_InvalidSize_InvalidValue T.sb_InvalidSize_InvalidSize e)))) (pa_cons (pe_isi (i := 1) hE hC (by rfl) T.z_isinstance rfl (by first | exact Or.inl rfl | exact Or.inr (Or.inl rfl) | exact Or.inr (Or.inr rfl)) (by rfl) T.gC_InvalidCount (kit_own T.ic_InvalidCount T.ty_InvalidCount T.sb_InvalidSize_InvalidCount (fun e => (ne_of_sub T.sb_InvalidSize_InvalidCount T.sb_InvalidSize_InvalidSize e)))) pa_nil))))))
      (C8.pss_cut (ps_set (i := 2) sc__law_error_of.nd rfl (.inl rfl) (pe_op op_cat (pv 2) (pe_lst (pa_cons (pe_isi (i := 1) hE hC (by rfl) T.z_isinstance rfl (by first | exact Or.inl rfl | exact Or.inr (Or.inl rfl) | exact Or.inr (Or.inr rfl)) (by rfl) T.gC_InvalidSlot (kit_own T.ic_InvalidSlot T.ty_InvalidSlot T.sb_InvalidSize_InvalidSlot (fun e => (ne_of_sub T.sb_InvalidSize_InvalidSlot T.sb_InvalidSize_InvalidSize e)))) (pa_cons (pe_isi (i := 1) hE hC (by rfl) T.z_isinstance rfl (by first | exact Or.inl rfl | exact Or.inr (Or.inl rfl) | exact Or.inr (Or.inr rfl)) (by rfl) T.gC_InvalidWord (kit_own T.ic_InvalidWord T.ty_InvalidWord T.sb_InvalidSize_InvalidWord (fun e => (ne_of_sub T.sb_InvalidSize_InvalidWord T.sb_InvalidSize_InvalidSize e)))) (pa_cons (pe_isi (i := 1) hE hC (by rfl) T.z_isinstance rfl (by first | exact Or.inl rfl | exact Or.inr (Or.inl rfl) | exact Or.inr (Or.inr rfl)) (by rfl) T.gC_InvalidStory (kit_own T.ic_InvalidStory T.ty_InvalidStory T.sb_InvalidSize_InvalidStory (fun e => (ne_of_sub T.sb_InvalidSize_InvalidStory T.sb_InvalidSize_InvalidSize e)))) pa_nil))))))
      (C8.pss_cut (ps_set (i := 2) sc__law_error_of.nd rfl (.inl rfl) (pe_op op_cat (pv 2) (pe_lst (pa_cons (pe_isi (i := 1) hE hC (by rfl) T.z_isinstance rfl (by first | exact Or.inl rfl | exact Or.inr (Or.inl rfl) | exact Or.inr (Or.inr rfl)) (by rfl) T.gC_PowerOff (kit_own T.ic_PowerOff T.ty_PowerOff T.sb_InvalidSize_PowerOff (fun e => (ne_of_sub T.sb_InvalidSize_PowerOff T.sb_InvalidSize_InvalidSize e)))) (pa_cons (pe_isi (i := 1) hE hC (by rfl) T.z_isinstance rfl (by first | exact Or.inl rfl | exact Or.inr (Or.inl rfl) | exact Or.inr (Or.inr rfl)) (by rfl) T.gC_PowerOn (kit_own T.ic_PowerOn T.ty_PowerOn T.sb_InvalidSize_PowerOn (fun e => (ne_of_sub T.sb_InvalidSize_PowerOn T.sb_InvalidSize_InvalidSize e)))) (pa_cons (pe_isi (i := 1) hE hC (by rfl) T.z_isinstance rfl (by first | exact Or.inl rfl | exact Or.inr (Or.inl rfl) | exact Or.inr (Or.inr rfl)) (by rfl) T.gC_NoFastDisk (kit_own T.ic_NoFastDisk T.ty_NoFastDisk T.sb_InvalidSize_NoFastDisk (fun e => (ne_of_sub T.sb_InvalidSize_NoFastDisk T.sb_InvalidSize_InvalidSize e)))) pa_nil))))))
      (C8.pss_cut (ps_set (i := 2) sc__law_error_of.nd rfl (.inl rfl) (pe_op op_cat (pv 2) (pe_lst (pa_cons (pe_isi (i := 1) hE hC (by rfl) T.z_isinstance rfl (by first | exact Or.inl rfl | exact Or.inr (Or.inl rfl) | exact Or.inr (Or.inr rfl)) (by rfl) T.gC_HasFastDisk (kit_own T.ic_HasFastDisk T.ty_HasFastDisk T.sb_InvalidSize_HasFastDisk (fun e => (ne_of_sub T.sb_InvalidSize_HasFastDisk T.sb_InvalidSize_InvalidSize e)))) (pa_cons (pe_isi (i := 1) hE hC (by rfl) T.z_isinstance rfl (by first | exact Or.inl rfl | exact Or.inr (Or.inl rfl) | exact Or.inr (Or.inr rfl)) (by rfl) T.gC_Unsettled (kit_own T.ic_Unsettled T.ty_Unsettled T.sb_InvalidSize_Unsettled (fun e => (ne_of_sub T.sb_InvalidSize_Unsettled T.sb_InvalidSize_InvalidSize e)))) (pa_cons (pe_isi (i := 1) hE hC (by rfl) T.z_isinstance rfl (by first | exact Or.inl rfl | exact Or.inr (Or.inl rfl) | exact Or.inr (Or.inr rfl)) (by rfl) T.gC_Contradiction (kit_own T.ic_Contradiction T.ty_Contradiction T.sb_InvalidSize_Contradiction (fun e => (ne_of_sub T.sb_InvalidSize_Contradiction T.sb_InvalidSize_InvalidSize e)))) pa_nil))))))
      (C8.pss_cut (ps_set (i := 2) sc__law_error_of.nd rfl (.inl rfl) (pe_op op_cat (pv 2) (pe_lst (pa_cons (pe_isi (i := 1) hE hC (by rfl) T.z_isinstance rfl (by first | exact Or.inl rfl | exact Or.inr (Or.inl rfl) | exact Or.inr (Or.inr rfl)) (by rfl) T.gC_InvalidName (kit_own T.ic_InvalidName T.ty_InvalidName T.sb_InvalidSize_InvalidName (fun e => (ne_of_sub T.sb_InvalidSize_InvalidName T.sb_InvalidSize_InvalidSize e)))) (pa_cons (pe_isi (i := 1) hE hC (by rfl) T.z_isinstance rfl (by first | exact Or.inl rfl | exact Or.inr (Or.inl rfl) | exact Or.inr (Or.inr rfl)) (by rfl) T.gC_UnknownName (kit_own T.ic_UnknownName T.ty_UnknownName T.sb_InvalidSize_UnknownName (fun e => (ne_of_sub T.sb_InvalidSize_UnknownName T.sb_InvalidSize_InvalidSize e)))) (pa_cons (pe_isi (i := 1) hE hC (by rfl) T.z_isinstance rfl (by first | exact Or.inl rfl | exact Or.inr (Or.inl rfl) | exact Or.inr (Or.inr rfl)) (by rfl) T.gC_InvalidRules (kit_own T.ic_InvalidRules T.ty_InvalidRules T.sb_InvalidSize_InvalidRules (fun e => (ne_of_sub T.sb_InvalidSize_InvalidRules T.sb_InvalidSize_InvalidSize e)))) pa_nil))))))
      (C8.pss_cut (ps_set (i := 2) sc__law_error_of.nd rfl (.inl rfl) (pe_op op_cat (pv 2) (pe_lst (pa_cons (pe_isi (i := 1) hE hC (by rfl) T.z_isinstance rfl (by first | exact Or.inl rfl | exact Or.inr (Or.inl rfl) | exact Or.inr (Or.inr rfl)) (by rfl) T.gC_InvalidRecipes (kit_own T.ic_InvalidRecipes T.ty_InvalidRecipes T.sb_InvalidSize_InvalidRecipes (fun e => (ne_of_sub T.sb_InvalidSize_InvalidRecipes T.sb_InvalidSize_InvalidSize e)))) (pa_cons (pe_isi (i := 1) hE hC (by rfl) T.z_isinstance rfl (by first | exact Or.inl rfl | exact Or.inr (Or.inl rfl) | exact Or.inr (Or.inr rfl)) (by rfl) T.gC_InvalidRequests (kit_own T.ic_InvalidRequests T.ty_InvalidRequests T.sb_InvalidSize_InvalidRequests (fun e => (ne_of_sub T.sb_InvalidSize_InvalidRequests T.sb_InvalidSize_InvalidSize e)))) (pa_cons (pe_isi (i := 1) hE hC (by rfl) T.z_isinstance rfl (by first | exact Or.inl rfl | exact Or.inr (Or.inl rfl) | exact Or.inr (Or.inr rfl)) (by rfl) T.gC_InvalidPrices (kit_own T.ic_InvalidPrices T.ty_InvalidPrices T.sb_InvalidSize_InvalidPrices (fun e => (ne_of_sub T.sb_InvalidSize_InvalidPrices T.sb_InvalidSize_InvalidSize e)))) pa_nil))))))
      (C8.pss_cut (ps_set (i := 2) sc__law_error_of.nd rfl (.inl rfl) (pe_op op_cat (pv 2) (pe_lst (pa_cons (pe_isi (i := 1) hE hC (by rfl) T.z_isinstance rfl (by first | exact Or.inl rfl | exact Or.inr (Or.inl rfl) | exact Or.inr (Or.inr rfl)) (by rfl) T.gC_InvalidPlan (kit_own T.ic_InvalidPlan T.ty_InvalidPlan T.sb_InvalidSize_InvalidPlan (fun e => (ne_of_sub T.sb_InvalidSize_InvalidPlan T.sb_InvalidSize_InvalidSize e)))) (pa_cons (pe_isi (i := 1) hE hC (by rfl) T.z_isinstance rfl (by first | exact Or.inl rfl | exact Or.inr (Or.inl rfl) | exact Or.inr (Or.inr rfl)) (by rfl) T.gC_PowerFailed (kit_own T.ic_PowerFailed T.ty_PowerFailed T.sb_InvalidSize_PowerFailed (fun e => (ne_of_sub T.sb_InvalidSize_PowerFailed T.sb_InvalidSize_InvalidSize e)))) (pa_cons (pe_isi (i := 1) hE hC (by rfl) T.z_isinstance rfl (by first | exact Or.inl rfl | exact Or.inr (Or.inl rfl) | exact Or.inr (Or.inr rfl)) (by rfl) T.gC_InvalidOperation (kit_own T.ic_InvalidOperation T.ty_InvalidOperation T.sb_InvalidSize_InvalidOperation (fun e => (ne_of_sub T.sb_InvalidSize_InvalidOperation T.sb_InvalidSize_InvalidSize e)))) pa_nil))))))
      (C8.pss_cut (ps_set (i := 2) sc__law_error_of.nd rfl (.inl rfl) (pe_op op_cat (pv 2) (pe_lst (pa_cons (pe_isi (i := 1) hE hC (by rfl) T.z_isinstance rfl (by first | exact Or.inl rfl | exact Or.inr (Or.inl rfl) | exact Or.inr (Or.inr rfl)) (by rfl) T.gC_NotationError (kit_own T.ic_NotationError T.ty_NotationError T.sb_InvalidSize_NotationError (fun e => (ne_of_sub T.sb_InvalidSize_NotationError T.sb_InvalidSize_InvalidSize e)))) (pa_cons (pe_isi (i := 1) hE hC (by rfl) T.z_isinstance rfl (by first | exact Or.inl rfl | exact Or.inr (Or.inl rfl) | exact Or.inr (Or.inr rfl)) (by rfl) T.gC_DecodeError (kit_own T.ic_DecodeError T.ty_DecodeError T.sb_InvalidSize_DecodeError (fun e => (ne_of_sub T.sb_InvalidSize_DecodeError T.sb_InvalidSize_InvalidSize e)))) pa_nil)))))
      (pss_cons (ps_if (PW.pt (pw_or (pt_cmpR op_ne (pe_bm PySem.F.plainAttrs_list PySem.F.slot_list_count PySem.F.type_list_count mt_lcountV (pv 2) (pa_cons pe_bl pa_nil)) pe_int (nomark _)) (pw_or1 (pt_not (pt_val (pe_callB (call_isC hE hC) (by rfl) T.z_isinstance (by decide +kernel) (pa_cons (pv 1) (pa_cons (pe_bltn (v := .ty "ValueError") (by rfl) T.z_ValueError (by decide +kernel) rfl) pa_nil)))))))) (pss_one (ps_ret (pe_tup (pa_cons pe_str (pa_cons pe_int pa_nil))))) pss_nil)
      (pss_cons (ps_set (i := 3) sc__law_error_of.nd rfl (.inl rfl) pe_str)
      (pss_cons (ps_set (i := 3) sc__law_error_of.nd rfl (.inl rfl) (pe_op op_add_str (pv 3) pe_str))
      (pss_cons (ps_set (i := 3) sc__law_error_of.nd rfl (.inl rfl) (pe_op op_add_str (pv 3) pe_str))
      (pss_one (ps_ret (pe_callP hT (L2H.roomH_mark (hr.mono (by first | decide | omega)) _) hHot List.mem_cons_self (by rfl) T.g__law_told_of T.F__law_told_of.kp (pa_cons (pv 1) (pa_cons (pe_ix ix_list (pe_bm PySem.F.plainAttrs_str PySem.F.slot_str_split PySem.F.type_str_split mt_split (pv 3) (pa_cons pe_str pa_nil)) (pe_bm PySem.F.plainAttrs_list PySem.F.slot_list_index PySem.F.type_list_index mt_index (pv 2) (pa_cons pe_bl pa_nil)) (fun _ _ => rfl)) pa_nil)))))))))))))))))) pins s' σ H D I ?_⟩
  obtain ⟨⟨x, v2, v3, rfl⟩, ⟨fs, hfl⟩, k⟩ := h
  have F0 := Fr.refl [] H
  refine ⟨fun σ' H' => ∃ k : Addr, σ' = [some x, some (.ref a), some (.ref k), v3] ∧ Fr [] H H' ∧ FldsAt H' d fs ∧ H' k = some (.lst (kinds_InvalidSize.take 3)), ?_, ?_⟩
  · exact ⟨⟨rfl, _, hfl⟩, ⟨⟨rfl, _, hfl⟩, ⟨⟨rfl, _, hfl⟩, ⟨sz_le (by decide), fun q hq => ⟨q, rfl, Fr.new hq, FldsAt.keep (S := []) hfl (Fr.new hq) (by simp), upd_same⟩⟩⟩⟩⟩
  rintro _ G1 ⟨k1, rfl, F1, h1, r1⟩
  refine ⟨fun σ' H' => ∃ k : Addr, σ' = [some x, some (.ref a), some (.ref k), v3] ∧ Fr [] H H' ∧ FldsAt H' d fs ∧ H' k = some (.lst (kinds_InvalidSize.take 6)), ?_, ?_⟩
  · exact ⟨_, rfl, ⟨⟨rfl, _, h1⟩, ⟨⟨rfl, _, h1⟩, ⟨⟨rfl, _, h1⟩, ⟨sz_le (by decide), fun q hq => ⟨k1, q, _, _, rfl, rfl, (upd_ne (ne_of_none r1 hq)).trans r1, upd_same, sz_le (by decide), fun k' hk' => ⟨k', rfl, (F1.trans (Fr.new hq)).trans (Fr.new hk'), FldsAt.keep (S := []) (FldsAt.keep (S := []) h1 (Fr.new hq) (by simp)) (Fr.new hk') (by simp), upd_same⟩⟩⟩⟩⟩⟩⟩
  rintro _ G2 ⟨k2, rfl, F2, h2, r2⟩
  refine ⟨fun σ' H' => ∃ k : Addr, σ' = [some x, some (.ref a), some (.ref k), v3] ∧ Fr [] H H' ∧ FldsAt H' d fs ∧ H' k = some (.lst (kinds_InvalidSize.take 9)), ?_, ?_⟩
  · exact ⟨_, rfl, ⟨⟨rfl, _, h2⟩, ⟨⟨rfl, _, h2⟩, ⟨⟨rfl, _, h2⟩, ⟨sz_le (by decide), fun q hq => ⟨k2, q, _, _, rfl, rfl, (upd_ne (ne_of_none r2 hq)).trans r2, upd_same, sz_le (by decide), fun k' hk' => ⟨k', rfl, (F2.trans (Fr.new hq)).trans (Fr.new hk'), FldsAt.keep (S := []) (FldsAt.keep (S := []) h2 (Fr.new hq) (by simp)) (Fr.new hk') (by simp), upd_same⟩⟩⟩⟩⟩⟩⟩
  rintro _ G3 ⟨k3, rfl, F3, h3, r3⟩
  refine ⟨fun σ' H' => ∃ k : Addr, σ' = [some x, some (.ref a), some (.ref k), v3] ∧ Fr [] H H' ∧ FldsAt H' d fs ∧ H' k = some (.lst (kinds_InvalidSize.take 12)), ?_, ?_⟩
  · exact ⟨_, rfl, ⟨⟨rfl, _, h3⟩, ⟨⟨rfl, _, h3⟩, ⟨⟨rfl, _, h3⟩, ⟨sz_le (by decide), fun q hq => ⟨k3, q, _, _, rfl, rfl, (upd_ne (ne_of_none r3 hq)).trans r3, upd_same, sz_le (by decide), fun k' hk' => ⟨k', rfl, (F3.trans (Fr.new hq)).trans (Fr.new hk'), FldsAt.keep (S := []) (FldsAt.keep (S := []) h3 (Fr.new hq) (by simp)) (Fr.new hk') (by simp), upd_same⟩⟩⟩⟩⟩⟩⟩
  rintro _ G4 ⟨k4, rfl, F4, h4, r4⟩
  refine ⟨fun σ' H' => ∃ k : Addr, σ' = [some x, some (.ref a), some (.ref k), v3] ∧ Fr [] H H' ∧ FldsAt H' d fs ∧ H' k = some (.lst (kinds_InvalidSize.take 15)), ?_, ?_⟩
  · exact ⟨_, rfl, ⟨⟨rfl, _, h4⟩, ⟨⟨rfl, _, h4⟩, ⟨⟨rfl, _, h4⟩, ⟨sz_le (by decide), fun q hq => ⟨k4, q, _, _, rfl, rfl, (upd_ne (ne_of_none r4 hq)).trans r4, upd_same, sz_le (by decide), fun k' hk' => ⟨k', rfl, (F4.trans (Fr.new hq)).trans (Fr.new hk'), FldsAt.keep (S := []) (FldsAt.keep (S := []) h4 (Fr.new hq) (by simp)) (Fr.new hk') (by simp), upd_same⟩⟩⟩⟩⟩⟩⟩
  rintro _ G5 ⟨k5, rfl, F5, h5, r5⟩
  refine ⟨fun σ' H' => ∃ k : Addr, σ' = [some x, some (.ref a), some (.ref k), v3] ∧ Fr [] H H' ∧ FldsAt H' d fs ∧ H' k = some (.lst (kinds_InvalidSize.take 18)), ?_, ?_⟩
  · exact ⟨_, rfl, ⟨⟨rfl, _, h5⟩, ⟨⟨rfl, _, h5⟩, ⟨⟨rfl, _, h5⟩, ⟨sz_le (by decide), fun q hq => ⟨k5, q, _, _, rfl, rfl, (upd_ne (ne_of_none r5 hq)).trans r5, upd_same, sz_le (by decide), fun k' hk' => ⟨k', rfl, (F5.trans (Fr.new hq)).trans (Fr.new hk'), FldsAt.keep (S := []) (FldsAt.keep (S := []) h5 (Fr.new hq) (by simp)) (Fr.new hk') (by simp), upd_same⟩⟩⟩⟩⟩⟩⟩
  rintro _ G6 ⟨k6, rfl, F6, h6, r6⟩
  refine ⟨fun σ' H' => ∃ k : Addr, σ' = [some x, some (.ref a), some (.ref k), v3] ∧ Fr [] H H' ∧ FldsAt H' d fs ∧ H' k = some (.lst (kinds_InvalidSize.take 21)), ?_, ?_⟩
  · exact ⟨_, rfl, ⟨⟨rfl, _, h6⟩, ⟨⟨rfl, _, h6⟩, ⟨⟨rfl, _, h6⟩, ⟨sz_le (by decide), fun q hq => ⟨k6, q, _, _, rfl, rfl, (upd_ne (ne_of_none r6 hq)).trans r6, upd_same, sz_le (by decide), fun k' hk' => ⟨k', rfl, (F6.trans (Fr.new hq)).trans (Fr.new hk'), FldsAt.keep (S := []) (FldsAt.keep (S := []) h6 (Fr.new hq) (by simp)) (Fr.new hk') (by simp), upd_same⟩⟩⟩⟩⟩⟩⟩
  rintro _ G7 ⟨k7, rfl, F7, h7, r7⟩
  refine ⟨fun σ' H' => ∃ k : Addr, σ' = [some x, some (.ref a), some (.ref k), v3] ∧ Fr [] H H' ∧ FldsAt H' d fs ∧ H' k = some (.lst (kinds_InvalidSize.take 24)), ?_, ?_⟩
  · exact ⟨_, rfl, ⟨⟨rfl, _, h7⟩, ⟨⟨rfl, _, h7⟩, ⟨⟨rfl, _, h7⟩, ⟨sz_le (by decide), fun q hq => ⟨k7, q, _, _, rfl, rfl, (upd_ne (ne_of_none r7 hq)).trans r7, upd_same, sz_le (by decide), fun k' hk' => ⟨k', rfl, (F7.trans (Fr.new hq)).trans (Fr.new hk'), FldsAt.keep (S := []) (FldsAt.keep (S := []) h7 (Fr.new hq) (by simp)) (Fr.new hk') (by simp), upd_same⟩⟩⟩⟩⟩⟩⟩
  rintro _ G8 ⟨k8, rfl, F8, h8, r8⟩
  refine ⟨fun σ' H' => ∃ k : Addr, σ' = [some x, some (.ref a), some (.ref k), v3] ∧ Fr [] H H' ∧ FldsAt H' d fs ∧ H' k = some (.lst (kinds_InvalidSize.take 26)), ?_, ?_⟩
  · exact ⟨_, rfl, ⟨⟨rfl, _, h8⟩, ⟨⟨rfl, _, h8⟩, ⟨sz_le (by decide), fun q hq => ⟨k8, q, _, _, rfl, rfl, (upd_ne (ne_of_none r8 hq)).trans r8, upd_same, sz_le (by decide), fun k' hk' => ⟨k', rfl, (F8.trans (Fr.new hq)).trans (Fr.new hk'), FldsAt.keep (S := []) (FldsAt.keep (S := []) h8 (Fr.new hq) (by simp)) (Fr.new hk') (by simp), upd_same⟩⟩⟩⟩⟩⟩
  rintro _ G9 ⟨k9, rfl, F9, h9, r9⟩
  have rk : G9 k9 = some (HO.lst kinds_InvalidSize) := r9
  refine ⟨_, rfl, .inl ⟨rfl, _, SqL.of rk⟩, k9, kinds_InvalidSize, .bl true, rfl, rfl, SqL.of rk, rfl, kinds_InvalidSize_all, ?_⟩
  rw [kinds_InvalidSize_cnt]
  refine ⟨rfl, _, rfl, iteF ?_⟩
  refine ⟨_, rfl, _, .type "ValueError", true, _, rfl, h9, (fun _ z => z), kit_ve T.vb_InvalidSize, _, rfl, iteF ?_⟩
  refine ⟨_, rfl, _, _, rfl, rfl, sz_le (by decide), ?_⟩
  refine ⟨_, rfl, _, _, rfl, rfl, sz_le (by decide), ?_⟩
  refine ⟨_, rfl, _, rfl, rfl, _, _, rfl, rfl, by decide +kernel, sz_le (by decide +kernel), fun z hz' => ?_⟩
  have rz := (upd_ne (o := .lst ((Txt.split ENAMES " ").map V.str)) (ne_of_none rk hz')).trans rk
  refine ⟨_, rfl, .inl ⟨rfl, _, SqL.of rz⟩, k9, kinds_InvalidSize, .bl true, 0, .bl true, rfl, rfl, SqL.of rz, rfl, kinds_InvalidSize_all, kinds_InvalidSize_at, rfl, kinds_InvalidSize_fst, ?_⟩
  refine ⟨z, _, (0 : Int), .str "size", rfl, rfl, SqL.of upd_same, atI_nat (j := 0) (by show ((Txt.split ENAMES " ").map V.str)[0]? = _; rw [split_names]; rfl), rfl, ?_⟩
  have hZ := FldsAt.keep (S := []) h9 (Fr.new (o := .lst ((Txt.split ENAMES " ").map V.str)) hz') (by simp)
  have FZ := F9.trans (Fr.new (o := .lst ((Txt.split ENAMES " ").map V.str)) hz')
  exact fun t H'' ht f et => k t H'' (some_of FZ (by simp) ht) (FZ.trans f) et
def kinds_InvalidRequests : List V := [.bl false, .bl false, .bl false, .bl false, .bl false, .bl false, .bl false, .bl false, .bl false, .bl false, .bl false, .bl false, .bl false, .bl false, .bl false, .bl false, .bl false, .bl false, .bl false, .bl true, .bl false, .bl false, .bl false, .bl false, .bl false, .bl false]
theorem kinds_InvalidRequests_cnt : kinds_InvalidRequests.countP (fun z => eqV z (.bl true)) = 1 := by decide +kernel
theorem kinds_InvalidRequests_all : kinds_InvalidRequests.all flatV = true := by decide +kernel
theorem kinds_InvalidRequests_at : kinds_InvalidRequests[19]? = some (.bl true) := by decide +kernel
theorem kinds_InvalidRequests_fst : ∀ (m : Nat) (z' : V), m < 19 → kinds_InvalidRequests[m]? = some z' → eqV z' (.bl true) = false := idx_first (by decide +kernel)
theorem suite_InvalidRequests (T : Gx K mg) {A : Around} {outer : List Env} {s : Shared} {H0 : Hp} {E : XK} {cdv : Value} {a : Addr} {oe : Obj} {d : Option Addr} {pn : List (Addr × Obj)} (hr : Room 2 (A.deeper (PyProof.Rows.envOfC "_law_error_of" (defScope s__law_error_of) s.heap.objs.size T.f__law_error_of cdv))) (hz : L2N.Zn (.ref T.C_InvalidRequests) d oe) (hf : ∃ vs, oe.data = .fields vs) :
    PSs ((cxOf C8.CX0 P w K mg base ["_law_call", "_law_e", "_law_kinds", "_law_names"] "_law_error_of" (defScope s__law_error_of) T.f__law_error_of cdv A outer s H0 E).suite a ((a, oe) :: pn)) (suiteOf (defBody s__law_error_of)) (fun D σ H => (∃ (x : V) (v2 v3 : Option V), σ = [some x, some (.ref a), v2, v3]) ∧ (∃ p : V, d ≠ none ∧ FldsAt H d [("index", p)] ∧ ∀ (t : Addr) (H'' : Hp), H t = none → Fr [] H H'' → H'' t = some (.tup [.str "requests", p]) → D.rt (.ref t) H'')) := by
  have hC : Cgt ((cxOf C8.CX0 P w K mg base ["_law_call", "_law_e", "_law_kinds", "_law_names"] "_law_error_of" (defScope s__law_error_of) T.f__law_error_of cdv A outer s H0 E).suite a ((a, oe) :: pn)) T.C_InvalidRequests a oe d := ⟨List.mem_cons_self, hz, hf⟩
  have hE : ExcC ((cxOf C8.CX0 P w K mg base ["_law_call", "_law_e", "_law_kinds", "_law_names"] "_law_error_of" (defScope s__law_error_of) T.f__law_error_of cdv A outer s H0 E).suite a ((a, oe) :: pn)).K T.C_InvalidRequests := T.E_InvalidRequests
  have hT := ok_told_InvalidRequests (P := P) (w := w) (base := base) T (a := a) hz hf
  have hHot : L2H.Hot1 ((cxOf C8.CX0 P w K mg base ["_law_call", "_law_e", "_law_kinds", "_law_names"] "_law_error_of" (defScope s__law_error_of) T.f__law_error_of cdv A outer s H0 E).suite a ((a, oe) :: pn)).A (a, oe) := ⟨rfl, by
    obtain ⟨vs, hv⟩ := hf
    exact ⟨vs, hv, hz.2.2 vs hv⟩⟩
  refine ⟨fun pins s' σ H D I h => PSs.run (C8.pss_cut (ps_set (i := 2) sc__law_error_of.nd rfl (.inl rfl) (pe_lst (pa_cons (pe_isi (i := 1) hE hC (by rfl) T.z_isinstance rfl (by first | exact Or.inl rfl | exact Or.inr (Or.inl rfl) | exact Or.inr (Or.inr rfl)) (by rfl) T.gC_InvalidSize (kit_own T.ic_InvalidSize T.ty_InvalidSize T.sb_InvalidRequests_InvalidSize (fun e => (ne_of_sub T.sb_InvalidRequests_InvalidSize T.sb_InvalidRequests_InvalidRequests e)))) (pa_cons (pe_isi (i := 1) hE hC (by rfl) T.z_isinstance rfl (by first | exact Or.inl rfl | exact Or.inr (Or.inl rfl) | exact Or.inr (Or.inr rfl)) (by rfl) T.gC_InvalidCell (kit_own T.ic_InvalidCell T.ty_InvalidCell T.sb_InvalidRequests_InvalidCell (fun e => (ne_of_sub T.sb_InvalidRequests_InvalidCell T.sb_InvalidRequests_InvalidRequests e)))) (pa_cons (pe_isi (i := 1) hE hC (by rfl) T.z_isinstance rfl (by first | exact Or.inl rfl | exact Or.inr (Or.inl rfl) | exact Or.inr (Or.inr rfl)) (by rfl) T.gC_InvalidKept (kit_own T.ic_InvalidKept T.ty_InvalidKept T.sb_InvalidRequests_InvalidKept (fun e => (ne_of_sub T.sb_InvalidRequests_InvalidKept T.sb_InvalidRequests_InvalidRequests e)))) pa_nil)))))
      (C8.pss_cut (ps_set (i := 2) sc__law_error_of.nd rfl (.inl rfl) (pe_op op_cat (pv 2) (pe_lst (pa_cons (pe_isi (i := 1) hE hC (by rfl) T.z_isinstance rfl (by first | exact Or.inl rfl | exact Or.inr (Or.inl rfl) | exact Or.inr (Or.inr rfl)) (by rfl) T.gC_InvalidBlock (kit_own T.ic_InvalidBlock T.ty_InvalidBlock T.sb_InvalidRequests_InvalidBlock (fun e => (ne_of_sub T.sb_InvalidRequests_InvalidBlock T.sb_InvalidRequests_InvalidRequests e)))) (pa_cons (pe_isi (i := 1) hE hC (by rfl) T.z_isinstance rfl (by first | exact Or.inl rfl | exact Or.inr (Or.inl rfl) | exact Or.inr (Or.inr rfl)) (by rfl) T.gC_InvalidValue (kit_own T.ic_InvalidValue T.ty_InvalidValue T.sb_InvalidRequests_InvalidValue (fun e => (ne_of_sub T.sb_InvalidRequests_InvalidValue T.sb_InvalidRequests_InvalidRequests e)))) (pa_cons (pe_isi (i := 1) hE hC (by rfl) T.z_isinstance rfl (by first | exact Or.inl rfl | exact Or.inr (Or.inl rfl) | exact Or.inr (Or.inr rfl)) (by rfl) T.gC_InvalidCount (kit_own T.ic_InvalidCount T.ty_InvalidCount T.sb_InvalidRequests_InvalidCount (fun e => (ne_of_sub T.sb_InvalidRequests_InvalidCount T.sb_InvalidRequests_InvalidRequests e)))) pa_nil))))))
      (C8.pss_cut (ps_set (i := 2) sc__law_error_of.nd rfl (.inl rfl) (pe_op op_cat (pv 2) (pe_lst (pa_cons (pe_isi (i := 1) hE hC (by rfl) T.z_isinstance rfl (by first | exact Or.inl rfl | exact Or.inr (Or.inl rfl) | exact Or.inr (Or.inr rfl)) (by rfl) T.gC_InvalidSlot (kit_own T.ic_InvalidSlot T.ty_InvalidSlot T.sb_InvalidRequests_InvalidSlot (fun e => (ne_of_sub T.sb_InvalidRequests_InvalidSlot T.sb_InvalidRequests_InvalidRequests e)))) (pa_cons (pe_isi (i := 1) hE hC (by rfl) T.z_isinstance rfl (by first | exact Or.inl rfl | exact Or.inr (Or.inl rfl) | exact Or.inr (Or.inr rfl)) (by rfl) T.gC_InvalidWord (kit_own T.ic_InvalidWord T.ty_InvalidWord T.sb_InvalidRequests_InvalidWord (fun e => (ne_of_sub T.sb_InvalidRequests_InvalidWord T.sb_InvalidRequests_InvalidRequests e)))) (pa_cons (pe_isi (i := 1) hE hC (by rfl) T.z_isinstance rfl (by first | exact Or.inl rfl | exact Or.inr (Or.inl rfl) | exact Or.inr (Or.inr rfl)) (by rfl) T.gC_InvalidStory (kit_own T.ic_InvalidStory T.ty_InvalidStory T.sb_InvalidRequests_InvalidStory (fun e => (ne_of_sub T.sb_InvalidRequests_InvalidStory T.sb_InvalidRequests_InvalidRequests e)))) pa_nil))))))
      (C8.pss_cut (ps_set (i := 2) sc__law_error_of.nd rfl (.inl rfl) (pe_op op_cat (pv 2) (pe_lst (pa_cons (pe_isi (i := 1) hE hC (by rfl) T.z_isinstance rfl (by first | exact Or.inl rfl | exact Or.inr (Or.inl rfl) | exact Or.inr (Or.inr rfl)) (by rfl) T.gC_PowerOff (kit_own T.ic_PowerOff T.ty_PowerOff T.sb_InvalidRequests_PowerOff (fun e => (ne_of_sub T.sb_InvalidRequests_PowerOff T.sb_InvalidRequests_InvalidRequests e)))) (pa_cons (pe_isi (i := 1) hE hC (by rfl) T.z_isinstance rfl (by first | exact Or.inl rfl | exact Or.inr (Or.inl rfl) | exact Or.inr (Or.inr rfl)) (by rfl) T.gC_PowerOn (kit_own T.ic_PowerOn T.ty_PowerOn T.sb_InvalidRequests_PowerOn (fun e => (ne_of_sub T.sb_InvalidRequests_PowerOn T.sb_InvalidRequests_InvalidRequests e)))) (pa_cons (pe_isi (i := 1) hE hC (by rfl) T.z_isinstance rfl (by first | exact Or.inl rfl | exact Or.inr (Or.inl rfl) | exact Or.inr (Or.inr rfl)) (by rfl) T.gC_NoFastDisk (kit_own T.ic_NoFastDisk T.ty_NoFastDisk T.sb_InvalidRequests_NoFastDisk (fun e => (ne_of_sub T.sb_InvalidRequests_NoFastDisk T.sb_InvalidRequests_InvalidRequests e)))) pa_nil))))))
      (C8.pss_cut (ps_set (i := 2) sc__law_error_of.nd rfl (.inl rfl) (pe_op op_cat (pv 2) (pe_lst (pa_cons (pe_isi (i := 1) hE hC (by rfl) T.z_isinstance rfl (by first | exact Or.inl rfl | exact Or.inr (Or.inl rfl) | exact Or.inr (Or.inr rfl)) (by rfl) T.gC_HasFastDisk (kit_own T.ic_HasFastDisk T.ty_HasFastDisk T.sb_InvalidRequests_HasFastDisk (fun e => (ne_of_sub T.sb_InvalidRequests_HasFastDisk T.sb_InvalidRequests_InvalidRequests e)))) (pa_cons (pe_isi (i := 1) hE hC (by rfl) T.z_isinstance rfl (by first | exact Or.inl rfl | exact Or.inr (Or.inl rfl) | exact Or.inr (Or.inr rfl)) (by rfl) T.gC_Unsettled (kit_own T.ic_Unsettled T.ty_Unsettled T.sb_InvalidRequests_Unsettled (fun e => (ne_of_sub T.sb_InvalidRequests_Unsettled T.sb_InvalidRequests_InvalidRequests e)))) (pa_cons (pe_isi (i := 1) hE hC (by rfl) T.z_isinstance rfl (by first | exact Or.inl rfl | exact Or.inr (Or.inl rfl) | exact Or.inr (Or.inr rfl)) (by rfl) T.gC_Contradiction (kit_own T.ic_Contradiction T.ty_Contradiction T.sb_InvalidRequests_Contradiction (fun e => (ne_of_sub T.sb_InvalidRequests_Contradiction T.sb_InvalidRequests_InvalidRequests e)))) pa_nil))))))
      (C8.pss_cut (ps_set (i := 2) sc__law_error_of.nd rfl (.inl rfl) (pe_op op_cat (pv 2) (pe_lst (pa_cons (pe_isi (i := 1) hE hC (by rfl) T.z_isinstance rfl (by first | exact Or.inl rfl | exact Or.inr (Or.inl rfl) | exact Or.inr (Or.inr rfl)) (by rfl) T.gC_InvalidName (kit_own T.ic_InvalidName T.ty_InvalidName T.sb_InvalidRequests_InvalidName (fun e => (ne_of_sub T.sb_InvalidRequests_InvalidName T.sb_InvalidRequests_InvalidRequests e)))) (pa_cons (pe_isi (i := 1) hE hC (by rfl) T.z_isinstance rfl (by first | exact Or.inl rfl | exact Or.inr (Or.inl rfl) | exact Or.inr (Or.inr rfl)) (by rfl) T.gC_UnknownName (kit_own T.ic_UnknownName T.ty_UnknownName T.sb_InvalidRequests_UnknownName (fun e => (ne_of_sub T.sb_InvalidRequests_UnknownName T.sb_InvalidRequests_InvalidRequests e)))) (pa_cons (pe_isi (i := 1) hE hC (by rfl) T.z_isinstance rfl (by first | exact Or.inl rfl | exact Or.inr (Or.inl rfl) | exact Or.inr (Or.inr rfl)) (by rfl) T.gC_InvalidRules (kit_own T.ic_InvalidRules T.ty_InvalidRules T.sb_InvalidRequests_InvalidRules (fun e => (ne_of_sub T.sb_InvalidRequests_InvalidRules T.sb_InvalidRequests_InvalidRequests e)))) pa_nil))))))
      (C8.pss_cut (ps_set (i := 2) sc__law_error_of.nd rfl (.inl rfl) (pe_op op_cat (pv 2) (pe_lst (pa_cons (pe_isi (i := 1) hE hC (by rfl) T.z_isinstance rfl (by first | exact Or.inl rfl | exact Or.inr (Or.inl rfl) | exact Or.inr (Or.inr rfl)) (by rfl) T.gC_InvalidRecipes (kit_own T.ic_InvalidRecipes T.ty_InvalidRecipes T.sb_InvalidRequests_InvalidRecipes (fun e => (ne_of_sub T.sb_InvalidRequests_InvalidRecipes T.sb_InvalidRequests_InvalidRequests e)))) (pa_cons (pe_isi (i := 1) hE hC (by rfl) T.z_isinstance rfl (by first | exact Or.inl rfl | exact Or.inr (Or.inl rfl) | exact Or.inr (Or.inr rfl)) (by rfl) T.gC_InvalidRequests (kit_own T.ic_InvalidRequests T.ty_InvalidRequests T.sb_InvalidRequests_InvalidRequests (fun _ => rfl))) (pa_cons (pe_isi (i := 1) hE hC (by rfl) T.z_isinstance rfl (by first | exact Or.inl rfl | exact Or.inr (Or.inl rfl) | exact Or.inr (Or.inr rfl)) (by rfl) T.gC_InvalidPrices (kit_own T.ic_InvalidPrices T.ty_InvalidPrices T.sb_InvalidRequests_InvalidPrices (fun e => (ne_of_sub T.sb_InvalidRequests_InvalidPrices T.sb_InvalidRequests_InvalidRequests e)))) pa_nil))))))
      (C8.pss_cut (ps_set (i := 2) sc__law_error_of.nd rfl (.inl rfl) (pe_op op_cat (pv 2) (pe_lst (pa_cons (pe_isi (i := 1) hE hC (by rfl) T.z_isinstance rfl (by first | exact Or.inl rfl | exact Or.inr (Or.inl rfl) | exact Or.inr (Or.inr rfl)) (by rfl) T.gC_InvalidPlan (kit_own T.ic_InvalidPlan T.ty_InvalidPlan T.sb_InvalidRequests_InvalidPlan (fun e => (ne_of_sub T.sb_InvalidRequests_InvalidPlan T.sb_InvalidRequests_InvalidRequests e)))) (pa_cons (pe_isi (i := 1) hE hC (by rfl) T.z_isinstance rfl (by first | exact Or.inl rfl | exact Or.inr (Or.inl rfl) | exact Or.inr (Or.inr rfl)) (by rfl) T.gC_PowerFailed (kit_own T.ic_PowerFailed T.ty_PowerFailed T.sb_InvalidRequests_PowerFailed (fun e => (ne_of_sub T.sb_InvalidRequests_PowerFailed T.sb_InvalidRequests_InvalidRequests e)))) (pa_cons (pe_isi (i := 1) hE hC (by rfl) T.z_isinstance rfl (by first | exact Or.inl rfl | exact Or.inr (Or.inl rfl) | exact Or.inr (Or.inr rfl)) (by rfl) T.gC_InvalidOperation (kit_own T.ic_InvalidOperation T.ty_InvalidOperation T.sb_InvalidRequests_InvalidOperation (fun e => (ne_of_sub T.sb_InvalidRequests_InvalidOperation T.sb_InvalidRequests_InvalidRequests e)))) pa_nil))))))
      (C8.pss_cut (ps_set (i := 2) sc__law_error_of.nd rfl (.inl rfl) (pe_op op_cat (pv 2) (pe_lst (pa_cons (pe_isi (i := 1) hE hC (by rfl) T.z_isinstance rfl (by first | exact Or.inl rfl | exact Or.inr (Or.inl rfl) | exact Or.inr (Or.inr rfl)) (by rfl) T.gC_NotationError (kit_own T.ic_NotationError T.ty_NotationError T.sb_InvalidRequests_NotationError (fun e => (ne_of_sub T.sb_InvalidRequests_NotationError T.sb_InvalidRequests_InvalidRequests e)))) (pa_cons (pe_isi (i := 1) hE hC (by rfl) T.z_isinstance rfl (by first | exact Or.inl rfl | exact Or.inr (Or.inl rfl) | exact Or.inr (Or.inr rfl)) (by rfl) T.gC_DecodeError (kit_own T.ic_DecodeError T.ty_DecodeError T.sb_InvalidRequests_DecodeError (fun e => (ne_of_sub T.sb_InvalidRequests_DecodeError T.sb_InvalidRequests_InvalidRequests e)))) pa_nil)))))
      (pss_cons (ps_if (PW.pt (pw_or (pt_cmpR op_ne (pe_bm PySem.F.plainAttrs_list PySem.F.slot_list_count PySem.F.type_list_count mt_lcountV (pv 2) (pa_cons pe_bl pa_nil)) pe_int (nomark _)) (pw_or1 (pt_not (pt_val (pe_callB (call_isC hE hC) (by rfl) T.z_isinstance (by decide +kernel) (pa_cons (pv 1) (pa_cons (pe_bltn (v := .ty "ValueError") (by rfl) T.z_ValueError (by decide +kernel) rfl) pa_nil)))))))) (pss_one (ps_ret (pe_tup (pa_cons pe_str (pa_cons pe_int pa_nil))))) pss_nil)
      (pss_cons (ps_set (i := 3) sc__law_error_of.nd rfl (.inl rfl) pe_str)
      (pss_cons (ps_set (i := 3) sc__law_error_of.nd rfl (.inl rfl) (pe_op op_add_str (pv 3) pe_str))
      (pss_cons (ps_set (i := 3) sc__law_error_of.nd rfl (.inl rfl) (pe_op op_add_str (pv 3) pe_str))
      (pss_one (ps_ret (pe_callP hT (L2H.roomH_mark (hr.mono (by first | decide | omega)) _) hHot List.mem_cons_self (by rfl) T.g__law_told_of T.F__law_told_of.kp (pa_cons (pv 1) (pa_cons (pe_ix ix_list (pe_bm PySem.F.plainAttrs_str PySem.F.slot_str_split PySem.F.type_str_split mt_split (pv 3) (pa_cons pe_str pa_nil)) (pe_bm PySem.F.plainAttrs_list PySem.F.slot_list_index PySem.F.type_list_index mt_index (pv 2) (pa_cons pe_bl pa_nil)) (fun _ _ => rfl)) pa_nil)))))))))))))))))) pins s' σ H D I ?_⟩
  obtain ⟨⟨x, v2, v3, rfl⟩, p, hd, hfl, k⟩ := h
  have F0 := Fr.refl [] H
  refine ⟨fun σ' H' => ∃ k : Addr, σ' = [some x, some (.ref a), some (.ref k), v3] ∧ Fr [] H H' ∧ FldsAt H' d [("index", p)] ∧ H' k = some (.lst (kinds_InvalidRequests.take 3)), ?_, ?_⟩
  · exact ⟨⟨rfl, _, hfl⟩, ⟨⟨rfl, _, hfl⟩, ⟨⟨rfl, _, hfl⟩, ⟨sz_le (by decide), fun q hq => ⟨q, rfl, Fr.new hq, FldsAt.keep (S := []) hfl (Fr.new hq) (by simp), upd_same⟩⟩⟩⟩⟩
  rintro _ G1 ⟨k1, rfl, F1, h1, r1⟩
  refine ⟨fun σ' H' => ∃ k : Addr, σ' = [some x, some (.ref a), some (.ref k), v3] ∧ Fr [] H H' ∧ FldsAt H' d [("index", p)] ∧ H' k = some (.lst (kinds_InvalidRequests.take 6)), ?_, ?_⟩
  · exact ⟨_, rfl, ⟨⟨rfl, _, h1⟩, ⟨⟨rfl, _, h1⟩, ⟨⟨rfl, _, h1⟩, ⟨sz_le (by decide), fun q hq => ⟨k1, q, _, _, rfl, rfl, (upd_ne (ne_of_none r1 hq)).trans r1, upd_same, sz_le (by decide), fun k' hk' => ⟨k', rfl, (F1.trans (Fr.new hq)).trans (Fr.new hk'), FldsAt.keep (S := []) (FldsAt.keep (S := []) h1 (Fr.new hq) (by simp)) (Fr.new hk') (by simp), upd_same⟩⟩⟩⟩⟩⟩⟩
  rintro _ G2 ⟨k2, rfl, F2, h2, r2⟩
  refine ⟨fun σ' H' => ∃ k : Addr, σ' = [some x, some (.ref a), some (.ref k), v3] ∧ Fr [] H H' ∧ FldsAt H' d [("index", p)] ∧ H' k = some (.lst (kinds_InvalidRequests.take 9)), ?_, ?_⟩
  · exact ⟨_, rfl, ⟨⟨rfl, _, h2⟩, ⟨⟨rfl, _, h2⟩, ⟨⟨rfl, _, h2⟩, ⟨sz_le (by decide), fun q hq => ⟨k2, q, _, _, rfl, rfl, (upd_ne (ne_of_none r2 hq)).trans r2, upd_same, sz_le (by decide), fun k' hk' => ⟨k', rfl, (F2.trans (Fr.new hq)).trans (Fr.new hk'), FldsAt.keep (S := []) (FldsAt.keep (S := []) h2 (Fr.new hq) (by simp)) (Fr.new hk') (by simp), upd_same⟩⟩⟩⟩⟩⟩⟩
  rintro _ G3 ⟨k3, rfl, F3, h3, r3⟩
  refine ⟨fun σ' H' => ∃ k : Addr, σ' = [some x, some (.ref a), some (.ref k), v3] ∧ Fr [] H H' ∧ FldsAt H' d [("index", p)] ∧ H' k = some (.lst (kinds_InvalidRequests.take 12)), ?_, ?_⟩
  · exact ⟨_, rfl, ⟨⟨rfl, _, h3⟩, ⟨⟨rfl, _, h3⟩, ⟨⟨rfl, _, h3⟩, ⟨sz_le (by decide), fun q hq => ⟨k3, q, _, _, rfl, rfl, (upd_ne (ne_of_none r3 hq)).trans r3, upd_same, sz_le (by decide), fun k' hk' => ⟨k', rfl, (F3.trans (Fr.new hq)).trans (Fr.new hk'), FldsAt.keep (S := []) (FldsAt.keep (S := []) h3 (Fr.new hq) (by simp)) (Fr.new hk') (by simp), upd_same⟩⟩⟩⟩⟩⟩⟩
  rintro _ G4 ⟨k4, rfl, F4, h4, r4⟩
  refine ⟨fun σ' H' => ∃ k : Addr, σ' = [some x, some (.ref a), some (.ref k), v3] ∧ Fr [] H H' ∧ FldsAt H' d [("index", p)] ∧ H' k = some (.lst (kinds_InvalidRequests.take 15)), ?_, ?_⟩
  · exact ⟨_, rfl, ⟨⟨rfl, _, h4⟩, ⟨⟨rfl, _, h4⟩, ⟨⟨rfl, _, h4⟩, ⟨sz_le (by decide), fun q hq => ⟨k4, q, _, _, rfl, rfl, (upd_ne (ne_of_none r4 hq)).trans r4, upd_same, sz_le (by decide), fun k' hk' => ⟨k', rfl, (F4.trans (Fr.new hq)).trans (Fr.new hk'), FldsAt.keep (S := []) (FldsAt.keep (S := []) h4 (Fr.new hq) (by simp)) (Fr.new hk') (by simp), upd_same⟩⟩⟩⟩⟩⟩⟩
  rintro _ G5 ⟨k5, rfl, F5, h5, r5⟩
  refine ⟨fun σ' H' => ∃ k : Addr, σ' = [some x, some (.ref a), some (.ref k), v3] ∧ Fr [] H H' ∧ FldsAt H' d [("index", p)] ∧ H' k = some (.lst (kinds_InvalidRequests.take 18)), ?_, ?_⟩
  · exact ⟨_, rfl, ⟨⟨rfl, _, h5⟩, ⟨⟨rfl, _, h5⟩, ⟨⟨rfl, _, h5⟩, ⟨sz_le (by decide), fun q hq => ⟨k5, q, _, _, rfl, rfl, (upd_ne (ne_of_none r5 hq)).trans r5, upd_same, sz_le (by decide), fun k' hk' => ⟨k', rfl, (F5.trans (Fr.new hq)).trans (Fr.new hk'), FldsAt.keep (S := []) (FldsAt.keep (S := []) h5 (Fr.new hq) (by simp)) (Fr.new hk') (by simp), upd_same⟩⟩⟩⟩⟩⟩⟩
  rintro _ G6 ⟨k6, rfl, F6, h6, r6⟩
  refine ⟨fun σ' H' => ∃ k : Addr, σ' = [some x, some (.ref a), some (.ref k), v3] ∧ Fr [] H H' ∧ FldsAt H' d [("index", p)] ∧ H' k = some (.lst (kinds_InvalidRequests.take 21)), ?_, ?_⟩
  · exact ⟨_, rfl, ⟨⟨rfl, _, h6⟩, ⟨⟨rfl, _, h6⟩, ⟨⟨rfl, _, h6⟩, ⟨sz_le (by decide), fun q hq => ⟨k6, q, _, _, rfl, rfl, (upd_ne (ne_of_none r6 hq)).trans r6, upd_same, sz_le (by decide), fun k' hk' => ⟨k', rfl, (F6.trans (Fr.new hq)).trans (Fr.new hk'), FldsAt.keep (S := []) (FldsAt.keep (S := []) h6 (Fr.new hq) (by simp)) (Fr.new hk') (by simp), upd_same⟩⟩⟩⟩⟩⟩⟩
  rintro _ G7 ⟨k7, rfl, F7, h7, r7⟩
  refine ⟨fun σ' H' => ∃ k : Addr, σ' = [some x, some (.ref a), some (.ref k), v3] ∧ Fr [] H H' ∧ FldsAt H' d [("index", p)] ∧ H' k = some (.lst (kinds_InvalidRequests.take 24)), ?_, ?_⟩
  · exact ⟨_, rfl, ⟨⟨rfl, _, h7⟩, ⟨⟨rfl, _, h7⟩, ⟨⟨rfl, _, h7⟩, ⟨sz_le (by decide), fun q hq => ⟨k7, q, _, _, rfl, rfl, (upd_ne (ne_of_none r7 hq)).trans r7, upd_same, sz_le (by decide), fun k' hk' => ⟨k', rfl, (F7.trans (Fr.new hq)).trans (Fr.new hk'), FldsAt.keep (S := []) (FldsAt.keep (S := []) h7 (Fr.new hq) (by simp)) (Fr.new hk') (by simp), upd_same⟩⟩⟩⟩⟩⟩⟩
  rintro _ G8 ⟨k8, rfl, F8, h8, r8⟩
  refine ⟨fun σ' H' => ∃ k : Addr, σ' = [some x, some (.ref a), some (.ref k), v3] ∧ Fr [] H H' ∧ FldsAt H' d [("index", p)] ∧ H' k = some (.lst (kinds_InvalidRequests.take 26)), ?_, ?_⟩
  · exact ⟨_, rfl, ⟨⟨rfl, _, h8⟩, ⟨⟨rfl, _, h8⟩, ⟨sz_le (by decide), fun q hq => ⟨k8, q, _, _, rfl, rfl, (upd_ne (ne_of_none r8 hq)).trans r8, upd_same, sz_le (by decide), fun k' hk' => ⟨k', rfl, (F8.trans (Fr.new hq)).trans (Fr.new hk'), FldsAt.keep (S := []) (FldsAt.keep (S := []) h8 (Fr.new hq) (by simp)) (Fr.new hk') (by simp), upd_same⟩⟩⟩⟩⟩⟩
  rintro _ G9 ⟨k9, rfl, F9, h9, r9⟩
  have rk : G9 k9 = some (HO.lst kinds_InvalidRequests) := r9
  refine ⟨_, rfl, .inl ⟨rfl, _, SqL.of rk⟩, k9, kinds_InvalidRequests, .bl true, rfl, rfl, SqL.of rk, rfl, kinds_InvalidRequests_all, ?_⟩
  rw [kinds_InvalidRequests_cnt]
  refine ⟨rfl, _, rfl, iteF ?_⟩
  refine ⟨_, rfl, _, .type "ValueError", true, _, rfl, h9, (fun _ z => z), kit_ve T.vb_InvalidRequests, _, rfl, iteF ?_⟩
  refine ⟨_, rfl, _, _, rfl, rfl, sz_le (by decide), ?_⟩
  refine ⟨_, rfl, _, _, rfl, rfl, sz_le (by decide), ?_⟩
  refine ⟨_, rfl, _, rfl, rfl, _, _, rfl, rfl, by decide +kernel, sz_le (by decide +kernel), fun z hz' => ?_⟩
  have rz := (upd_ne (o := .lst ((Txt.split ENAMES " ").map V.str)) (ne_of_none rk hz')).trans rk
  refine ⟨_, rfl, .inl ⟨rfl, _, SqL.of rz⟩, k9, kinds_InvalidRequests, .bl true, 19, .bl true, rfl, rfl, SqL.of rz, rfl, kinds_InvalidRequests_all, kinds_InvalidRequests_at, rfl, kinds_InvalidRequests_fst, ?_⟩
  refine ⟨z, _, (19 : Int), .str "requests", rfl, rfl, SqL.of upd_same, atI_nat (j := 19) (by show ((Txt.split ENAMES " ").map V.str)[19]? = _; rw [split_names]; rfl), rfl, ?_⟩
  have hZ := FldsAt.keep (S := []) h9 (Fr.new (o := .lst ((Txt.split ENAMES " ").map V.str)) hz') (by simp)
  have FZ := F9.trans (Fr.new (o := .lst ((Txt.split ENAMES " ").map V.str)) hz')
  exact ⟨p, hd, hZ, fun t H'' ht f et => k t H'' (some_of FZ (by simp) ht) (FZ.trans f) et⟩
def kinds_InvalidPlan : List V := [.bl false, .bl false, .bl false, .bl false, .bl false, .bl false, .bl false, .bl false, .bl false, .bl false, .bl false, .bl false, .bl false, .bl false, .bl false, .bl false, .bl false, .bl false, .bl false, .bl false, .bl false, .bl true, .bl false, .bl false, .bl false, .bl false]
theorem kinds_InvalidPlan_cnt : kinds_InvalidPlan.countP (fun z => eqV z (.bl true)) = 1 := by decide +kernel
theorem kinds_InvalidPlan_all : kinds_InvalidPlan.all flatV = true := by decide +kernel
theorem kinds_InvalidPlan_at : kinds_InvalidPlan[21]? = some (.bl true) := by decide +kernel
theorem kinds_InvalidPlan_fst : ∀ (m : Nat) (z' : V), m < 21 → kinds_InvalidPlan[m]? = some z' → eqV z' (.bl true) = false := idx_first (by decide +kernel)
theorem suite_InvalidPlan (T : Gx K mg) {A : Around} {outer : List Env} {s : Shared} {H0 : Hp} {E : XK} {cdv : Value} {a : Addr} {oe : Obj} {d : Option Addr} {pn : List (Addr × Obj)} (hr : Room 2 (A.deeper (PyProof.Rows.envOfC "_law_error_of" (defScope s__law_error_of) s.heap.objs.size T.f__law_error_of cdv))) (hz : L2N.Zn (.ref T.C_InvalidPlan) d oe) (hf : ∃ vs, oe.data = .fields vs) :
    PSs ((cxOf C8.CX0 P w K mg base ["_law_call", "_law_e", "_law_kinds", "_law_names"] "_law_error_of" (defScope s__law_error_of) T.f__law_error_of cdv A outer s H0 E).suite a ((a, oe) :: pn)) (suiteOf (defBody s__law_error_of)) (fun D σ H => (∃ (x : V) (v2 v3 : Option V), σ = [some x, some (.ref a), v2, v3]) ∧ (∃ p : V, d ≠ none ∧ FldsAt H d [("index", p)] ∧ ∀ (t : Addr) (H'' : Hp), H t = none → Fr [] H H'' → H'' t = some (.tup [.str "plan", p]) → D.rt (.ref t) H'')) := by
  have hC : Cgt ((cxOf C8.CX0 P w K mg base ["_law_call", "_law_e", "_law_kinds", "_law_names"] "_law_error_of" (defScope s__law_error_of) T.f__law_error_of cdv A outer s H0 E).suite a ((a, oe) :: pn)) T.C_InvalidPlan a oe d := ⟨List.mem_cons_self, hz, hf⟩
  have hE : ExcC ((cxOf C8.CX0 P w K mg base ["_law_call", "_law_e", "_law_kinds", "_law_names"] "_law_error_of" (defScope s__law_error_of) T.f__law_error_of cdv A outer s H0 E).suite a ((a, oe) :: pn)).K T.C_InvalidPlan := T.E_InvalidPlan
  have hT := ok_told_InvalidPlan (P := P) (w := w) (base := base) T (a := a) hz hf
  have hHot : L2H.Hot1 ((cxOf C8.CX0 P w K mg base ["_law_call", "_law_e", "_law_kinds", "_law_names"] "_law_error_of" (defScope s__law_error_of) T.f__law_error_of cdv A outer s H0 E).suite a ((a, oe) :: pn)).A (a, oe) := ⟨rfl, by
    obtain ⟨vs, hv⟩ := hf
    exact ⟨vs, hv, hz.2.2 vs hv⟩⟩
  refine ⟨fun pins s' σ H D I h => PSs.run (C8.pss_cut (ps_set (i := 2) sc__law_error_of.nd rfl (.inl rfl) (pe_lst (pa_cons (pe_isi (i := 1) hE hC (by rfl) T.z_isinstance rfl (by first | exact Or.inl rfl | exact Or.inr (Or.inl rfl) | exact Or.inr (Or.inr rfl)) (by rfl) T.gC_InvalidSize (kit_own T.ic_InvalidSize T.ty_InvalidSize T.sb_InvalidPlan_InvalidSize (fun e => (ne_of_sub T.sb_InvalidPlan_InvalidSize T.sb_InvalidPlan_InvalidPlan e)))) (pa_cons (pe_isi (i := 1) hE hC (by rfl) T.z_isinstance rfl (by first | exact Or.inl rfl | exact Or.inr (Or.inl rfl) | exact Or.inr (Or.inr rfl)) (by rfl) T.gC_InvalidCell (kit_own T.ic_InvalidCell T.ty_InvalidCell T.sb_InvalidPlan_InvalidCell (fun e => (ne_of_sub T.sb_InvalidPlan_InvalidCell T.sb_InvalidPlan_InvalidPlan e)))) (pa_cons (pe_isi (i := 1) hE hC (by rfl) T.z_isinstance rfl (by first | exact Or.inl rfl | exact Or.inr (Or.inl rfl) | exact Or.inr (Or.inr rfl)) (by rfl) T.gC_InvalidKept (kit_own T.ic_InvalidKept T.ty_InvalidKept T.sb_InvalidPlan_InvalidKept (fun e => (ne_of_sub T.sb_InvalidPlan_InvalidKept T.sb_InvalidPlan_InvalidPlan e)))) pa_nil)))))
      (C8.pss_cut (ps_set (i := 2) sc__law_error_of.nd rfl (.inl rfl) (pe_op op_cat (pv 2) (pe_lst (pa_cons (pe_isi (i := 1) hE hC (by rfl) T.z_isinstance rfl (by first | exact Or.inl rfl | exact Or.inr (Or.inl rfl) | exact Or.inr (Or.inr rfl)) (by rfl) T.gC_InvalidBlock (kit_own T.ic_InvalidBlock T.ty_InvalidBlock T.sb_InvalidPlan_InvalidBlock (fun e => (ne_of_sub T.sb_InvalidPlan_InvalidBlock T.sb_InvalidPlan_InvalidPlan e)))) (pa_cons (pe_isi (i := 1) hE hC (by rfl) T.z_isinstance rfl (by first | exact Or.inl rfl | exact Or.inr (Or.inl rfl) | exact Or.inr (Or.inr rfl)) (by rfl) T.gC_InvalidValue (kit_own T.ic_InvalidValue T.ty_InvalidValue T.sb_InvalidPlan_InvalidValue (fun e => (ne_of_sub T.sb_InvalidPlan_InvalidValue T.sb_InvalidPlan_InvalidPlan e)))) (pa_cons (pe_isi (i := 1) hE hC (by rfl) T.z_isinstance rfl (by first | exact Or.inl rfl | exact Or.inr (Or.inl rfl) | exact Or.inr (Or.inr rfl)) (by rfl) T.gC_InvalidCount (kit_own T.ic_InvalidCount T.ty_InvalidCount T.sb_InvalidPlan_InvalidCount (fun e => (ne_of_sub T.sb_InvalidPlan_InvalidCount T.sb_InvalidPlan_InvalidPlan e)))) pa_nil))))))
      (C8.pss_cut (ps_set (i := 2) sc__law_error_of.nd rfl (.inl rfl) (pe_op op_cat (pv 2) (pe_lst (pa_cons (pe_isi (i := 1) hE hC (by rfl) T.z_isinstance rfl (by first | exact Or.inl rfl | exact Or.inr (Or.inl rfl) | exact Or.inr (Or.inr rfl)) (by rfl) T.gC_InvalidSlot (kit_own T.ic_InvalidSlot T.ty_InvalidSlot T.sb_InvalidPlan_InvalidSlot (fun e => (ne_of_sub T.sb_InvalidPlan_InvalidSlot T.sb_InvalidPlan_InvalidPlan e)))) (pa_cons (pe_isi (i := 1) hE hC (by rfl) T.z_isinstance rfl (by first | exact Or.inl rfl | exact Or.inr (Or.inl rfl) | exact Or.inr (Or.inr rfl)) (by rfl) T.gC_InvalidWord (kit_own T.ic_InvalidWord T.ty_InvalidWord T.sb_InvalidPlan_InvalidWord (fun e => (ne_of_sub T.sb_InvalidPlan_InvalidWord T.sb_InvalidPlan_InvalidPlan e)))) (pa_cons (pe_isi (i := 1) hE hC (by rfl) T.z_isinstance rfl (by first | exact Or.inl rfl | exact Or.inr (Or.inl rfl) | exact Or.inr (Or.inr rfl)) (by rfl) T.gC_InvalidStory (kit_own T.ic_InvalidStory T.ty_InvalidStory T.sb_InvalidPlan_InvalidStory (fun e => (ne_of_sub T.sb_InvalidPlan_InvalidStory T.sb_InvalidPlan_InvalidPlan e)))) pa_nil))))))
      (C8.pss_cut (ps_set (i := 2) sc__law_error_of.nd rfl (.inl rfl) (pe_op op_cat (pv 2) (pe_lst (pa_cons (pe_isi (i := 1) hE hC (by rfl) T.z_isinstance rfl (by first | exact Or.inl rfl | exact Or.inr (Or.inl rfl) | exact Or.inr (Or.inr rfl)) (by rfl) T.gC_PowerOff (kit_own T.ic_PowerOff T.ty_PowerOff T.sb_InvalidPlan_PowerOff (fun e => (ne_of_sub T.sb_InvalidPlan_PowerOff T.sb_InvalidPlan_InvalidPlan e)))) (pa_cons (pe_isi (i := 1) hE hC (by rfl) T.z_isinstance rfl (by first | exact Or.inl rfl | exact Or.inr (Or.inl rfl) | exact Or.inr (Or.inr rfl)) (by rfl) T.gC_PowerOn (kit_own T.ic_PowerOn T.ty_PowerOn T.sb_InvalidPlan_PowerOn (fun e => (ne_of_sub T.sb_InvalidPlan_PowerOn T.sb_InvalidPlan_InvalidPlan e)))) (pa_cons (pe_isi (i := 1) hE hC (by rfl) T.z_isinstance rfl (by first | exact Or.inl rfl | exact Or.inr (Or.inl rfl) | exact Or.inr (Or.inr rfl)) (by rfl) T.gC_NoFastDisk (kit_own T.ic_NoFastDisk T.ty_NoFastDisk T.sb_InvalidPlan_NoFastDisk (fun e => (ne_of_sub T.sb_InvalidPlan_NoFastDisk T.sb_InvalidPlan_InvalidPlan e)))) pa_nil))))))
      (C8.pss_cut (ps_set (i := 2) sc__law_error_of.nd rfl (.inl rfl) (pe_op op_cat (pv 2) (pe_lst (pa_cons (pe_isi (i := 1) hE hC (by rfl) T.z_isinstance rfl (by first | exact Or.inl rfl | exact Or.inr (Or.inl rfl) | exact Or.inr (Or.inr rfl)) (by rfl) T.gC_HasFastDisk (kit_own T.ic_HasFastDisk T.ty_HasFastDisk T.sb_InvalidPlan_HasFastDisk (fun e => (ne_of_sub T.sb_InvalidPlan_HasFastDisk T.sb_InvalidPlan_InvalidPlan e)))) (pa_cons (pe_isi (i := 1) hE hC (by rfl) T.z_isinstance rfl (by first | exact Or.inl rfl | exact Or.inr (Or.inl rfl) | exact Or.inr (Or.inr rfl)) (by rfl) T.gC_Unsettled (kit_own T.ic_Unsettled T.ty_Unsettled T.sb_InvalidPlan_Unsettled (fun e => (ne_of_sub T.sb_InvalidPlan_Unsettled T.sb_InvalidPlan_InvalidPlan e)))) (pa_cons (pe_isi (i := 1) hE hC (by rfl) T.z_isinstance rfl (by first | exact Or.inl rfl | exact Or.inr (Or.inl rfl) | exact Or.inr (Or.inr rfl)) (by rfl) T.gC_Contradiction (kit_own T.ic_Contradiction T.ty_Contradiction T.sb_InvalidPlan_Contradiction (fun e => (ne_of_sub T.sb_InvalidPlan_Contradiction T.sb_InvalidPlan_InvalidPlan e)))) pa_nil))))))
      (C8.pss_cut (ps_set (i := 2) sc__law_error_of.nd rfl (.inl rfl) (pe_op op_cat (pv 2) (pe_lst (pa_cons (pe_isi (i := 1) hE hC (by rfl) T.z_isinstance rfl (by first | exact Or.inl rfl | exact Or.inr (Or.inl rfl) | exact Or.inr (Or.inr rfl)) (by rfl) T.gC_InvalidName (kit_own T.ic_InvalidName T.ty_InvalidName T.sb_InvalidPlan_InvalidName (fun e => (ne_of_sub T.sb_InvalidPlan_InvalidName T.sb_InvalidPlan_InvalidPlan e)))) (pa_cons (pe_isi (i := 1) hE hC (by rfl) T.z_isinstance rfl (by first | exact Or.inl rfl | exact Or.inr (Or.inl rfl) | exact Or.inr (Or.inr rfl)) (by rfl) T.gC_UnknownName (kit_own T.ic_UnknownName T.ty_UnknownName T.sb_InvalidPlan_UnknownName (fun e => (ne_of_sub T.sb_InvalidPlan_UnknownName T.sb_InvalidPlan_InvalidPlan e)))) (pa_cons (pe_isi (i := 1) hE hC (by rfl) T.z_isinstance rfl (by first | exact Or.inl rfl | exact Or.inr (Or.inl rfl) | exact Or.inr (Or.inr rfl)) (by rfl) T.gC_InvalidRules (kit_own T.ic_InvalidRules T.ty_InvalidRules T.sb_InvalidPlan_InvalidRules (fun e => (ne_of_sub T.sb_InvalidPlan_InvalidRules T.sb_InvalidPlan_InvalidPlan e)))) pa_nil))))))
      (C8.pss_cut (ps_set (i := 2) sc__law_error_of.nd rfl (.inl rfl) (pe_op op_cat (pv 2) (pe_lst (pa_cons (pe_isi (i := 1) hE hC (by rfl) T.z_isinstance rfl (by first | exact Or.inl rfl | exact Or.inr (Or.inl rfl) | exact Or.inr (Or.inr rfl)) (by rfl) T.gC_InvalidRecipes (kit_own T.ic_InvalidRecipes T.ty_InvalidRecipes T.sb_InvalidPlan_InvalidRecipes (fun e => (ne_of_sub T.sb_InvalidPlan_InvalidRecipes T.sb_InvalidPlan_InvalidPlan e)))) (pa_cons (pe_isi (i := 1) hE hC (by rfl) T.z_isinstance rfl (by first | exact Or.inl rfl | exact Or.inr (Or.inl rfl) | exact Or.inr (Or.inr rfl)) (by rfl) T.gC_InvalidRequests (kit_own T.ic_InvalidRequests T.ty_InvalidRequests T.sb_InvalidPlan_InvalidRequests (fun e => (ne_of_sub T.sb_InvalidPlan_InvalidRequests T.sb_InvalidPlan_InvalidPlan e)))) (pa_cons (pe_isi (i := 1) hE hC (by rfl) T.z_isinstance rfl (by first | exact Or.inl rfl | exact Or.inr (Or.inl rfl) | exact Or.inr (Or.inr rfl)) (by rfl) T.gC_InvalidPrices (kit_own T.ic_InvalidPrices T.ty_InvalidPrices T.sb_InvalidPlan_InvalidPrices (fun e => (ne_of_sub T.sb_InvalidPlan_InvalidPrices T.sb_InvalidPlan_InvalidPlan e)))) pa_nil))))))
      (C8.pss_cut (ps_set (i := 2) sc__law_error_of.nd rfl (.inl rfl) (pe_op op_cat (pv 2) (pe_lst (pa_cons (pe_isi (i := 1) hE hC (by rfl) T.z_isinstance rfl (by first | exact Or.inl rfl | exact Or.inr (Or.inl rfl) | exact Or.inr (Or.inr rfl)) (by rfl) T.gC_InvalidPlan (kit_own T.ic_InvalidPlan T.ty_InvalidPlan T.sb_InvalidPlan_InvalidPlan (fun _ => rfl))) (pa_cons (pe_isi (i := 1) hE hC (by rfl) T.z_isinstance rfl (by first | exact Or.inl rfl | exact Or.inr (Or.inl rfl) | exact Or.inr (Or.inr rfl)) (by rfl) T.gC_PowerFailed (kit_own T.ic_PowerFailed T.ty_PowerFailed T.sb_InvalidPlan_PowerFailed (fun e => (ne_of_sub T.sb_InvalidPlan_PowerFailed T.sb_InvalidPlan_InvalidPlan e)))) (pa_cons (pe_isi (i := 1) hE hC (by rfl) T.z_isinstance rfl (by first | exact Or.inl rfl | exact Or.inr (Or.inl rfl) | exact Or.inr (Or.inr rfl)) (by rfl) T.gC_InvalidOperation (kit_own T.ic_InvalidOperation T.ty_InvalidOperation T.sb_InvalidPlan_InvalidOperation (fun e => (ne_of_sub T.sb_InvalidPlan_InvalidOperation T.sb_InvalidPlan_InvalidPlan e)))) pa_nil))))))
      (C8.pss_cut (ps_set (i := 2) sc__law_error_of.nd rfl (.inl rfl) (pe_op op_cat (pv 2) (pe_lst (pa_cons (pe_isi (i := 1) hE hC (by rfl) T.z_isinstance rfl (by first | exact Or.inl rfl | exact Or.inr (Or.inl rfl) | exact Or.inr (Or.inr rfl)) (by rfl) T.gC_NotationError (kit_own T.ic_NotationError T.ty_NotationError T.sb_InvalidPlan_NotationError (fun e => (ne_of_sub T.sb_InvalidPlan_NotationError T.sb_InvalidPlan_InvalidPlan e)))) (pa_cons (pe_isi (i := 1) hE hC (by rfl) T.z_isinstance rfl (by first | exact Or.inl rfl | exact Or.inr (Or.inl rfl) | exact Or.inr (Or.inr rfl)) (by rfl) T.gC_DecodeError (kit_own T.ic_DecodeError T.ty_DecodeError T.sb_InvalidPlan_DecodeError (fun e => (ne_of_sub T.sb_InvalidPlan_DecodeError T.sb_InvalidPlan_InvalidPlan e)))) pa_nil)))))
      (pss_cons (ps_if (PW.pt (pw_or (pt_cmpR op_ne (pe_bm PySem.F.plainAttrs_list PySem.F.slot_list_count PySem.F.type_list_count mt_lcountV (pv 2) (pa_cons pe_bl pa_nil)) pe_int (nomark _)) (pw_or1 (pt_not (pt_val (pe_callB (call_isC hE hC) (by rfl) T.z_isinstance (by decide +kernel) (pa_cons (pv 1) (pa_cons (pe_bltn (v := .ty "ValueError") (by rfl) T.z_ValueError (by decide +kernel) rfl) pa_nil)))))))) (pss_one (ps_ret (pe_tup (pa_cons pe_str (pa_cons pe_int pa_nil))))) pss_nil)
      (pss_cons (ps_set (i := 3) sc__law_error_of.nd rfl (.inl rfl) pe_str)
      (pss_cons (ps_set (i := 3) sc__law_error_of.nd rfl (.inl rfl) (pe_op op_add_str (pv 3) pe_str))
      (pss_cons (ps_set (i := 3) sc__law_error_of.nd rfl (.inl rfl) (pe_op op_add_str (pv 3) pe_str))
      (pss_one (ps_ret (pe_callP hT (L2H.roomH_mark (hr.mono (by first | decide | omega)) _) hHot List.mem_cons_self (by rfl) T.g__law_told_of T.F__law_told_of.kp (pa_cons (pv 1) (pa_cons (pe_ix ix_list (pe_bm PySem.F.plainAttrs_str PySem.F.slot_str_split PySem.F.type_str_split mt_split (pv 3) (pa_cons pe_str pa_nil)) (pe_bm PySem.F.plainAttrs_list PySem.F.slot_list_index PySem.F.type_list_index mt_index (pv 2) (pa_cons pe_bl pa_nil)) (fun _ _ => rfl)) pa_nil)))))))))))))))))) pins s' σ H D I ?_⟩
  obtain ⟨⟨x, v2, v3, rfl⟩, p, hd, hfl, k⟩ := h
  have F0 := Fr.refl [] H
  refine ⟨fun σ' H' => ∃ k : Addr, σ' = [some x, some (.ref a), some (.ref k), v3] ∧ Fr [] H H' ∧ FldsAt H' d [("index", p)] ∧ H' k = some (.lst (kinds_InvalidPlan.take 3)), ?_, ?_⟩
  · exact ⟨⟨rfl, _, hfl⟩, ⟨⟨rfl, _, hfl⟩, ⟨⟨rfl, _, hfl⟩, ⟨sz_le (by decide), fun q hq => ⟨q, rfl, Fr.new hq, FldsAt.keep (S := []) hfl (Fr.new hq) (by simp), upd_same⟩⟩⟩⟩⟩
  rintro _ G1 ⟨k1, rfl, F1, h1, r1⟩
  refine ⟨fun σ' H' => ∃ k : Addr, σ' = [some x, some (.ref a), some (.ref k), v3] ∧ Fr [] H H' ∧ FldsAt H' d [("index", p)] ∧ H' k = some (.lst (kinds_InvalidPlan.take 6)), ?_, ?_⟩
  · exact ⟨_, rfl, ⟨⟨rfl, _, h1⟩, ⟨⟨rfl, _, h1⟩, ⟨⟨rfl, _, h1⟩, ⟨sz_le (by decide), fun q hq => ⟨k1, q, _, _, rfl, rfl, (upd_ne (ne_of_none r1 hq)).trans r1, upd_same, sz_le (by decide), fun k' hk' => ⟨k', rfl, (F1.trans (Fr.new hq)).trans (Fr.new hk'), FldsAt.keep (S := []) (FldsAt.keep (S := []) h1 (Fr.new hq) (by simp)) (Fr.new hk') (by simp), upd_same⟩⟩⟩⟩⟩⟩⟩
  rintro _ G2 ⟨k2, rfl, F2, h2, r2⟩
  refine ⟨fun σ' H' => ∃ k : Addr, σ' = [some x, some (.ref a), some (.ref k), v3] ∧ Fr [] H H' ∧ FldsAt H' d [("index", p)] ∧ H' k = some (.lst (kinds_InvalidPlan.take 9)), ?_, ?_⟩
  · exact ⟨_, rfl, ⟨⟨rfl, _, h2⟩, ⟨⟨rfl, _, h2⟩, ⟨⟨rfl, _, h2⟩, ⟨sz_le (by decide), fun q hq => ⟨k2, q, _, _, rfl, rfl, (upd_ne (ne_of_none r2 hq)).trans r2, upd_same, sz_le (by decide), fun k' hk' => ⟨k', rfl, (F2.trans (Fr.new hq)).trans (Fr.new hk'), FldsAt.keep (S := []) (FldsAt.keep (S := []) h2 (Fr.new hq) (by simp)) (Fr.new hk') (by simp), upd_same⟩⟩⟩⟩⟩⟩⟩
  rintro _ G3 ⟨k3, rfl, F3, h3, r3⟩
  refine ⟨fun σ' H' => ∃ k : Addr, σ' = [some x, some (.ref a), some (.ref k), v3] ∧ Fr [] H H' ∧ FldsAt H' d [("index", p)] ∧ H' k = some (.lst (kinds_InvalidPlan.take 12)), ?_, ?_⟩
  · exact ⟨_, rfl, ⟨⟨rfl, _, h3⟩, ⟨⟨rfl, _, h3⟩, ⟨⟨rfl, _, h3⟩, ⟨sz_le (by decide), fun q hq => ⟨k3, q, _, _, rfl, rfl, (upd_ne (ne_of_none r3 hq)).trans r3, upd_same, sz_le (by decide), fun k' hk' => ⟨k', rfl, (F3.trans (Fr.new hq)).trans (Fr.new hk'), FldsAt.keep (S := []) (FldsAt.keep (S := []) h3 (Fr.new hq) (by simp)) (Fr.new hk') (by simp), upd_same⟩⟩⟩⟩⟩⟩⟩
  rintro _ G4 ⟨k4, rfl, F4, h4, r4⟩
  refine ⟨fun σ' H' => ∃ k : Addr, σ' = [some x, some (.ref a), some (.ref k), v3] ∧ Fr [] H H' ∧ FldsAt H' d [("index", p)] ∧ H' k = some (.lst (kinds_InvalidPlan.take 15)), ?_, ?_⟩
  · exact ⟨_, rfl, ⟨⟨rfl, _, h4⟩, ⟨⟨rfl, _, h4⟩, ⟨⟨rfl, _, h4⟩, ⟨sz_le (by decide), fun q hq => ⟨k4, q, _, _, rfl, rfl, (upd_ne (ne_of_none r4 hq)).trans r4, upd_same, sz_le (by decide), fun k' hk' => ⟨k', rfl, (F4.trans (Fr.new hq)).trans (Fr.new hk'), FldsAt.keep (S := []) (FldsAt.keep (S := []) h4 (Fr.new hq) (by simp)) (Fr.new hk') (by simp), upd_same⟩⟩⟩⟩⟩⟩⟩
  rintro _ G5 ⟨k5, rfl, F5, h5, r5⟩
  refine ⟨fun σ' H' => ∃ k : Addr, σ' = [some x, some (.ref a), some (.ref k), v3] ∧ Fr [] H H' ∧ FldsAt H' d [("index", p)] ∧ H' k = some (.lst (kinds_InvalidPlan.take 18)), ?_, ?_⟩
  · exact ⟨_, rfl, ⟨⟨rfl, _, h5⟩, ⟨⟨rfl, _, h5⟩, ⟨⟨rfl, _, h5⟩, ⟨sz_le (by decide), fun q hq => ⟨k5, q, _, _, rfl, rfl, (upd_ne (ne_of_none r5 hq)).trans r5, upd_same, sz_le (by decide), fun k' hk' => ⟨k', rfl, (F5.trans (Fr.new hq)).trans (Fr.new hk'), FldsAt.keep (S := []) (FldsAt.keep (S := []) h5 (Fr.new hq) (by simp)) (Fr.new hk') (by simp), upd_same⟩⟩⟩⟩⟩⟩⟩
  rintro _ G6 ⟨k6, rfl, F6, h6, r6⟩
  refine ⟨fun σ' H' => ∃ k : Addr, σ' = [some x, some (.ref a), some (.ref k), v3] ∧ Fr [] H H' ∧ FldsAt H' d [("index", p)] ∧ H' k = some (.lst (kinds_InvalidPlan.take 21)), ?_, ?_⟩
  · exact ⟨_, rfl, ⟨⟨rfl, _, h6⟩, ⟨⟨rfl, _, h6⟩, ⟨⟨rfl, _, h6⟩, ⟨sz_le (by decide), fun q hq => ⟨k6, q, _, _, rfl, rfl, (upd_ne (ne_of_none r6 hq)).trans r6, upd_same, sz_le (by decide), fun k' hk' => ⟨k', rfl, (F6.trans (Fr.new hq)).trans (Fr.new hk'), FldsAt.keep (S := []) (FldsAt.keep (S := []) h6 (Fr.new hq) (by simp)) (Fr.new hk') (by simp), upd_same⟩⟩⟩⟩⟩⟩⟩
  rintro _ G7 ⟨k7, rfl, F7, h7, r7⟩
  refine ⟨fun σ' H' => ∃ k : Addr, σ' = [some x, some (.ref a), some (.ref k), v3] ∧ Fr [] H H' ∧ FldsAt H' d [("index", p)] ∧ H' k = some (.lst (kinds_InvalidPlan.take 24)), ?_, ?_⟩
  · exact ⟨_, rfl, ⟨⟨rfl, _, h7⟩, ⟨⟨rfl, _, h7⟩, ⟨⟨rfl, _, h7⟩, ⟨sz_le (by decide), fun q hq => ⟨k7, q, _, _, rfl, rfl, (upd_ne (ne_of_none r7 hq)).trans r7, upd_same, sz_le (by decide), fun k' hk' => ⟨k', rfl, (F7.trans (Fr.new hq)).trans (Fr.new hk'), FldsAt.keep (S := []) (FldsAt.keep (S := []) h7 (Fr.new hq) (by simp)) (Fr.new hk') (by simp), upd_same⟩⟩⟩⟩⟩⟩⟩
  rintro _ G8 ⟨k8, rfl, F8, h8, r8⟩
  refine ⟨fun σ' H' => ∃ k : Addr, σ' = [some x, some (.ref a), some (.ref k), v3] ∧ Fr [] H H' ∧ FldsAt H' d [("index", p)] ∧ H' k = some (.lst (kinds_InvalidPlan.take 26)), ?_, ?_⟩
  · exact ⟨_, rfl, ⟨⟨rfl, _, h8⟩, ⟨⟨rfl, _, h8⟩, ⟨sz_le (by decide), fun q hq => ⟨k8, q, _, _, rfl, rfl, (upd_ne (ne_of_none r8 hq)).trans r8, upd_same, sz_le (by decide), fun k' hk' => ⟨k', rfl, (F8.trans (Fr.new hq)).trans (Fr.new hk'), FldsAt.keep (S := []) (FldsAt.keep (S := []) h8 (Fr.new hq) (by simp)) (Fr.new hk') (by simp), upd_same⟩⟩⟩⟩⟩⟩
  rintro _ G9 ⟨k9, rfl, F9, h9, r9⟩
  have rk : G9 k9 = some (HO.lst kinds_InvalidPlan) := r9
  refine ⟨_, rfl, .inl ⟨rfl, _, SqL.of rk⟩, k9, kinds_InvalidPlan, .bl true, rfl, rfl, SqL.of rk, rfl, kinds_InvalidPlan_all, ?_⟩
  rw [kinds_InvalidPlan_cnt]
  refine ⟨rfl, _, rfl, iteF ?_⟩
  refine ⟨_, rfl, _, .type "ValueError", true, _, rfl, h9, (fun _ z => z), kit_ve T.vb_InvalidPlan, _, rfl, iteF ?_⟩
  refine ⟨_, rfl, _, _, rfl, rfl, sz_le (by decide), ?_⟩
  refine ⟨_, rfl, _, _, rfl, rfl, sz_le (by decide), ?_⟩
  refine ⟨_, rfl, _, rfl, rfl, _, _, rfl, rfl, by decide +kernel, sz_le (by decide +kernel), fun z hz' => ?_⟩
  have rz := (upd_ne (o := .lst ((Txt.split ENAMES " ").map V.str)) (ne_of_none rk hz')).trans rk
  refine ⟨_, rfl, .inl ⟨rfl, _, SqL.of rz⟩, k9, kinds_InvalidPlan, .bl true, 21, .bl true, rfl, rfl, SqL.of rz, rfl, kinds_InvalidPlan_all, kinds_InvalidPlan_at, rfl, kinds_InvalidPlan_fst, ?_⟩
  refine ⟨z, _, (21 : Int), .str "plan", rfl, rfl, SqL.of upd_same, atI_nat (j := 21) (by show ((Txt.split ENAMES " ").map V.str)[21]? = _; rw [split_names]; rfl), rfl, ?_⟩
  have hZ := FldsAt.keep (S := []) h9 (Fr.new (o := .lst ((Txt.split ENAMES " ").map V.str)) hz') (by simp)
  have FZ := F9.trans (Fr.new (o := .lst ((Txt.split ENAMES " ").map V.str)) hz')
  exact ⟨p, hd, hZ, fun t H'' ht f et => k t H'' (some_of FZ (by simp) ht) (FZ.trans f) et⟩
end
theorem takesN0 {X : Cx} : L2N.Takes X (fun _ _ _ _ => False) := fun _ _ x => by
  obtain ⟨_, _, _, _, _, _, _, _, _, _, _, _, _, _, _, _, z⟩ := x
  exact z.elim
section
variable {P : Program} {w : World} {K : PySem.W.Frag} {mg : Str → Option Value} {base : Heap}
theorem ErrEnd.pair {T : Gx K mg} {cls : Value} {d : Option Addr} {H : Hp} {Q : VK} (h : ErrEnd T cls d H Q) : PySem.W.exmOne K cls (.ref T.C_PairError) = some true := by
  rcases h with ⟨rfl, _⟩ | ⟨p, rfl, _⟩ | ⟨p, rfl, _⟩
  · exact PySem.W.exm_ref T.pb T.ph T.ty_PairError T.sb_InvalidSize_PairError
  · exact PySem.W.exm_ref T.pb T.ph T.ty_PairError T.sb_InvalidRequests_PairError
  · exact PySem.W.exm_ref T.pb T.ph T.ty_PairError T.sb_InvalidPlan_PairError
def spErr (P : Program) (w : World) (base : Heap) (T : Gx K mg) : SpS := fun vs outer s H Q _ => ∃ (f : Addr) (F : LF) (fr : List Str) (ws : List (Option V)) (lp : List (Option V) → Hp → VK → XK → Prop), vs = [.ref f] ∧ LOk P w K mg base (L2N.CX P w) 8 f F fr lp ∧ Act f F fr ws (frs outer) s H ∧
  ∀ (Q' : VK) (E' : XK), (∀ v H', Q .non H' → Q' v H') → (∀ cls d H', ErrEnd T cls d H' Q → E' cls d H') → lp ws H Q' E'
theorem ok_errorOf (T : Gx K mg) : FnS P w K mg base C8.CX0 10 T.f__law_error_of ["_law_call"] (spErr P w base T) := by
  refine FunOkS T.F__law_error_of (b__law_error_of T) sc__law_error_of (fun vs o s H Q E h => by obtain ⟨f, F, fr, ws, lp, rfl, _⟩ := h; rfl) (fun cdv A outer s H vs Q E hr h => ?_)
  obtain ⟨f, F, fr, ws, lp, rfl, L, a0, hlp⟩ := h
  refine ⟨_, pss_cons (L2N.ps_try_as (i := 1) (c := .ref T.C_PairError) (Wout := fun _ _ _ _ => False) (ts := fun a cls d D σ H => (∃ (x : V) (v2 v3 : Option V), σ = [some x, some (.ref a), v2, v3]) ∧ ErrEnd T cls d H D.rt) rfl rfl sc__law_error_of.nd rfl rfl ⟨by rfl, by decide, .inl T.gC_PairError⟩ takesN0
    (fun W pn xe tk po => pss_one (ps_expr (pe_act (i := 0) L a0 rfl (hr.mono (by decide)) (fun σ => L2N.passAt tk σ) rfl (by first | exact Or.inl rfl | exact Or.inr (Or.inl rfl) | exact Or.inr (Or.inr rfl)))))
    (fun a oe cls d pn hz hf => ⟨fun pins s' σ H' D I h => ?_⟩)) (pss_one (ps_ret pe_non)), ?_⟩
  · obtain ⟨hσ, h⟩ := h
    rcases h with ⟨rfl, hf', k⟩ | ⟨p, rfl, hd, hf', k⟩ | ⟨p, rfl, hd, hf', k⟩
    · exact (suite_InvalidSize T (hr.mono (by decide)) hz hf).run pins s' σ H' D I ⟨hσ, hf', k⟩
    · exact (suite_InvalidRequests T (hr.mono (by decide)) hz hf).run pins s' σ H' D I ⟨hσ, p, hd, hf', k⟩
    · exact (suite_InvalidPlan T (hr.mono (by decide)) hz hf).run pins s' σ H' D I ⟨hσ, p, hd, hf', k⟩
  · refine ⟨rfl, a0.lv, hlp _ _ (fun v H' q => q) (fun cls d H' he => ⟨true, he.pair, fun _ a ha => ⟨⟨.ref f, none, none, rfl⟩, he⟩, fun z => by cases z⟩)⟩
end
/-! ### the errors' own __init__ -/
def spI1 (fld : Str) (C : Addr) : Sp := fun vs H Q _ => ∃ (a : Addr) (i : Nat), vs = [.ref a, .int (i : Int)] ∧ i < 64 ∧ H a = some (exo a C none) ∧ ∀ dx, H dx = none → dx ≠ a → Q .non (upd (upd H dx (exd dx [(fld, .int (i : Int))])) a (exo a C (some dx)))
theorem small_log {i : Nat} (h : i < 64) : (i : Int).natAbs.log2 < 1920 := by
  have : ∀ i : Nat, i < 64 → (i : Int).natAbs.log2 < 1920 := by decide +kernel
  exact this i h
theorem len_InvalidRequests : ∀ i : Nat, i < 64 → (Str.empty ++ ("request " : Str)).length ≤ sizeLine ∧ (Str.empty ++ ("request " : Str) ++ Str.ofString (toString (i : Int))).length ≤ sizeLine ∧ (Str.empty ++ ("request " : Str) ++ Str.ofString (toString (i : Int)) ++ (" is invalid" : Str)).length ≤ sizeLine := by decide +kernel
theorem len_InvalidPlan : ∀ i : Nat, i < 64 → (Str.empty ++ ("entry " : Str)).length ≤ sizeLine ∧ (Str.empty ++ ("entry " : Str) ++ Str.ofString (toString (i : Int))).length ≤ sizeLine ∧ (Str.empty ++ ("entry " : Str) ++ Str.ofString (toString (i : Int)) ++ (" of the plan is invalid" : Str)).length ≤ sizeLine := by decide +kernel
section
variable {P : Program} {w : World} {K : PySem.W.Frag} {mg : Str → Option Value} {base : Heap}
theorem cls_of_oex {C : Addr} (T : OexC K C) : ∃ cd, PySem.W.clsIn K C = some cd := by
  obtain ⟨nm, q, N, bs, bm, sn, sub, ab, col, dd, k0, k1, k2, k3, k5, hC, _⟩ := T.cls
  cases h : PySem.W.clsIn K C with
  | some cd => exact ⟨cd, rfl⟩
  | none =>
    unfold PySem.W.clsIn at h
    rw [hC] at h
    cases h
theorem bi_InvalidRequests (T : Gx K mg) : Binds K T.fd_InvalidRequests___init__ ["self", "index"] [] := by
  obtain ⟨oc, od, kV, dc, pm, an, cda, ct, osl, cl, cdd, vs, csl, tf, ec, ed, es, e, _⟩ := T.S_InvalidRequests___init__.ex
  rw [e]
  exact .all fun us hl => match us, hl with | [_, _], _ => rfl
theorem ok_i_InvalidRequests (HP : ProgOk P file) (T : Gx K mg) (hf : file = T.file) : FnOk P w K mg base C8.CX0 1 T.f_InvalidRequests___init__ T.fd_InvalidRequests___init__ ["self", "index"] (spI1 "index" T.C_InvalidRequests) := by
  subst hf
  refine FunS.ok HP T.S_InvalidRequests___init__ sc_InvalidRequests___init__ (fun vs H Q E h => by obtain ⟨a, i, rfl, _⟩ := h; rfl) rfl rfl (fun env e => by unfold PySem.interactive; rw [e]; rfl) _ (fun env => rfl) (fun env => rfl) rfl rfl T.z_super T.third (fun F' A outer s H vs Q E eF hr h => ?_)
  obtain ⟨a, i, rfl, hi, ha, k⟩ := h
  obtain ⟨nm, q, pr, bd, sc, cl, c⟩ := F'
  have eF' : sc = defScope s_InvalidRequests___init__ := eF
  subst eF'
  refine ⟨_, _, a, T.C_InvalidRequests, .str (Str.empty ++ ("request " : Str) ++ Str.ofString (toString (i : Int)) ++ (" is invalid" : Str)), rfl, ha, T.O_InvalidRequests, cls_of_oex T.O_InvalidRequests, T.mr_InvalidRequests, T.su_InvalidRequests, T.vb_InvalidRequests, pe_joined (.cons pe_str (.cons (pe_fmt (pv 1)) (.cons pe_str .nil))), pss_one (ps_ost (pv 0) (pv 1)), fun Q' q => ?_, ?_⟩
  · exact ⟨_, rfl, (len_InvalidRequests i hi).1, _, rfl, .inr ⟨(i : Int), rfl, small_log hi, _, rfl, (len_InvalidRequests i hi).2.1, _, rfl, (len_InvalidRequests i hi).2.2, q⟩⟩
  · exact ⟨_, rfl, _, rfl, a, T.C_InvalidRequests, rfl, T.O_InvalidRequests, T.no_InvalidRequests_index, .inl ⟨ha, fun dx hdx hne => k dx hdx hne⟩⟩
theorem bi_InvalidPlan (T : Gx K mg) : Binds K T.fd_InvalidPlan___init__ ["self", "index"] [] := by
  obtain ⟨oc, od, kV, dc, pm, an, cda, ct, osl, cl, cdd, vs, csl, tf, ec, ed, es, e, _⟩ := T.S_InvalidPlan___init__.ex
  rw [e]
  exact .all fun us hl => match us, hl with | [_, _], _ => rfl
theorem ok_i_InvalidPlan (HP : ProgOk P file) (T : Gx K mg) (hf : file = T.file) : FnOk P w K mg base C8.CX0 1 T.f_InvalidPlan___init__ T.fd_InvalidPlan___init__ ["self", "index"] (spI1 "index" T.C_InvalidPlan) := by
  subst hf
  refine FunS.ok HP T.S_InvalidPlan___init__ sc_InvalidPlan___init__ (fun vs H Q E h => by obtain ⟨a, i, rfl, _⟩ := h; rfl) rfl rfl (fun env e => by unfold PySem.interactive; rw [e]; rfl) _ (fun env => rfl) (fun env => rfl) rfl rfl T.z_super T.third (fun F' A outer s H vs Q E eF hr h => ?_)
  obtain ⟨a, i, rfl, hi, ha, k⟩ := h
  obtain ⟨nm, q, pr, bd, sc, cl, c⟩ := F'
  have eF' : sc = defScope s_InvalidPlan___init__ := eF
  subst eF'
  refine ⟨_, _, a, T.C_InvalidPlan, .str (Str.empty ++ ("entry " : Str) ++ Str.ofString (toString (i : Int)) ++ (" of the plan is invalid" : Str)), rfl, ha, T.O_InvalidPlan, cls_of_oex T.O_InvalidPlan, T.mr_InvalidPlan, T.su_InvalidPlan, T.vb_InvalidPlan, pe_joined (.cons pe_str (.cons (pe_fmt (pv 1)) (.cons pe_str .nil))), pss_one (ps_ost (pv 0) (pv 1)), fun Q' q => ?_, ?_⟩
  · exact ⟨_, rfl, (len_InvalidPlan i hi).1, _, rfl, .inr ⟨(i : Int), rfl, small_log hi, _, rfl, (len_InvalidPlan i hi).2.1, _, rfl, (len_InvalidPlan i hi).2.2, q⟩⟩
  · exact ⟨_, rfl, _, rfl, a, T.C_InvalidPlan, rfl, T.O_InvalidPlan, T.no_InvalidPlan_index, .inl ⟨ha, fun dx hdx hne => k dx hdx hne⟩⟩
end
/-! ### what is no number of a range, no tuple -/
def NoNum (H : Hp) (lo hi : Int) (v : V) : Prop := (∃ i : Int, v = .int i ∧ (decide (lo ≤ i) && decide (i ≤ hi)) = false) ∨ v = .non ∨ (∃ b, v = .bl b) ∨ (∃ z, v = .str z) ∨ ∃ (t : Addr) (xs : List V), v = .ref t ∧ H t = some (.tup xs)
theorem NoNum.ext {H H' : Hp} {lo hi : Int} {v : V} (h : NoNum H lo hi v) (f : ∀ b xs, H b = some (.tup xs) → H' b = some (.tup xs)) : NoNum H' lo hi v := by
  rcases h with h | h | h | h | ⟨t, xs, e, ht⟩
  · exact .inl h
  · exact .inr (.inl h)
  · exact .inr (.inr (.inl h))
  · exact .inr (.inr (.inr (.inl h)))
  · exact .inr (.inr (.inr (.inr ⟨t, xs, e, f _ _ ht⟩)))
theorem NoNum.num {K : PySem.W.Frag} {H : Hp} {lo hi : Int} {v : V} {Q : VK} {E : XK} (h : NoNum H lo hi v) (q : Q (.bl false) H) : spNumFrom K [v, .int lo, .int hi] H Q E := by
  rcases h with ⟨i, rfl, hi⟩ | rfl | ⟨b, rfl⟩ | ⟨z, rfl⟩ | ⟨t, xs, rfl, ht⟩
  · exact ⟨_, _, _, rfl, .inl ⟨i, rfl, by rw [hi]; exact q⟩⟩
  · exact ⟨_, _, _, rfl, .inr ⟨_, false, false, .base .non, kit_ty (by decide +kernel), kit_ty (by decide +kernel), rfl, q⟩⟩
  · exact ⟨_, _, _, rfl, .inr ⟨_, true, true, .base (.bl b), kit_ty (by decide +kernel), kit_ty (by decide +kernel), rfl, q⟩⟩
  · exact ⟨_, _, _, rfl, .inr ⟨_, false, false, .base (.str z), kit_ty (by decide +kernel), kit_ty (by decide +kernel), rfl, q⟩⟩
  · exact ⟨_, _, _, rfl, .inr ⟨_, false, false, .base (.tup ht), kit_ty (by decide +kernel), kit_ty (by decide +kernel), rfl, q⟩⟩
def NoTup (H : Hp) (v : V) : Prop := v = .non ∨ (∃ i, v = .int i) ∨ ∃ (l : Addr) (xs : List V), v = .ref l ∧ H l = some (.lst xs)
theorem NoTup.ty {K : PySem.W.Frag} {H : Hp} {v : V} (h : NoTup H v) : ∃ t : Value, TyX K H v t ∧ PySem.W.kitOne K t (.type "tuple") = some false := by
  rcases h with rfl | ⟨i, rfl⟩ | ⟨l, xs, rfl, hl⟩
  · exact ⟨_, .base .non, kit_ty (by decide +kernel)⟩
  · exact ⟨_, .base (.int i), kit_ty (by decide +kernel)⟩
  · exact ⟨_, .base (.lst hl), kit_ty (by decide +kernel)⟩
/-- no kept writes of m -/
def BadK (H : Hp) (v : V) (m : Nat) : Prop := NoTup H v ∨ ∃ (p : Addr) (x : V) (rest : List V), v = .ref p ∧
  ((H p = some (.tup (x :: rest)) ∧ NoNum H 0 ((m : Int) - 1) x) ∨ ∃ k : Nat, H p = some (.tup (.int (k : Int) :: x :: rest)) ∧ k < m ∧ NoNum H ((k : Int) + 1) ((m : Int) - 1) x)
theorem BadK.ext {H H' : Hp} {v : V} {m : Nat} (h : BadK H v m) (f : ∀ b xs, H b = some (.tup xs) → H' b = some (.tup xs)) (g : ∀ b xs, v = .ref b → H b = some (.lst xs) → H' b = some (.lst xs)) : BadK H' v m := by
  rcases h with h | ⟨p, x, rest, e, h⟩
  · rcases h with h | h | ⟨l, xs, e, hl⟩
    · exact .inl (.inl h)
    · exact .inl (.inr (.inl h))
    · exact .inl (.inr (.inr ⟨l, xs, e, g _ _ e hl⟩))
  · refine .inr ⟨p, x, rest, e, ?_⟩
    rcases h with ⟨h1, h2⟩ | ⟨k, h1, h2, h3⟩
    · exact .inl ⟨f _ _ h1, h2.ext f⟩
    · exact .inr ⟨k, f _ _ h1, h2, h3.ext f⟩
def spNumB (K : PySem.W.Frag) : Sp := fun vs H Q E => spNumFrom K vs H Q E ∨ ∃ (v : V) (lo hi : Int), vs = [v, .int lo, .int hi] ∧ NoNum H lo hi v ∧ Q (.bl false) H
theorem ok_numB {P : Program} {w : World} {K : PySem.W.Frag} {mg : Str → Option Value} {base : Heap} (T : Gx K mg) : FnOk P w K mg base CX0 2 T.f_is_number_from T.fd_is_number_from ["thing", "least", "most"] (spNumB K) := by
  have a : FnOk P w K mg base CX0 2 T.f_is_number_from T.fd_is_number_from ["thing", "least", "most"] (spNumFrom K) := ok_numFrom T
  have im : ∀ vs H Q E, spNumB K vs H Q E → spNumFrom K vs H Q E := fun vs H Q E h => by
    rcases h with h | ⟨v, lo, hi, rfl, nn, q⟩
    · exact h
    · exact nn.num q
  exact ⟨fun vs H Q E h => a.len vs H Q E (im _ _ _ _ h), fun A o s H ar us vs Q E hr e0 hb r h => a.run A o s H ar us vs Q E hr e0 hb r (im _ _ _ _ h)⟩
/-! ### an own exception without fields, its text written with values -/
section
open PySem PySem.Spec PySem.Calls PyProof.Rows L2
/-- the class called with one value, wherever that came from -/
theorem ownJ_end {X : Cx} {C : Addr} {bs : List Value} {B mk ini : String} {pins : List (Addr × Obj)} {σ : L2.St} {H : Hp} {s : Shared} {Q : XK} {u : Value} (fb : ExcBaseFacts B mk ini bs) (isx : PySem.W.excIn X.K C bs mk = true) (ra : Raises X (.ref C)) (J : Inv X pins σ H s) (q : Q (.ref C) none H) :
    wpAny (model X.prog X.w) X.A (call (.ref C) [u]) (L2N.MkP X pins σ Q) X.xe s := by
  obtain ⟨_, _, _, _, _, _, _, _, _, _, _, _, _, _, _, _, _, eC, eN, nN, tl⟩ := L2.exc_obj J.kIn isx
  have one : ([u] : List Value).length ≤ sizeLine := by
    rw [sizeLine_eq]
    exact Nat.succ_le_of_lt (by decide : 0 < 16777216)
  exact wpAny_call_exc_subT fb tl eC eN nN (fun hh e mh => L2N.mk_of J mh ra q (J.hok.gone mh.new)) one
theorem ownJ {X : Cx} {C : Addr} {bs : List Value} {B mk ini : String} {x : Str} {e : Expr} {ta : TE} {p pos : Pos} (fb : ExcBaseFacts B mk ini bs) (isx : PySem.W.excIn X.K C bs mk = true) (gC : X.mg x = some (.ref C)) (kC : PySem.W.keepIn X.K (.ref C) = true) (ra : Raises X (.ref C)) (hg : Gl X x)
    (he : PE X e ta) (hs : starEach [e] X.env = (false, eval e X.env) :: starEach [] X.env := by rfl) (hdb : (x == ("__debug__" : Str)) = false := by decide) :
    L2N.PMk X (.Call (.Name x p) [e] [] pos) (fun σ H Q => ta σ H fun _ H1 => Q (.ref C) none H1) := fun pins s σ H Q I h => by
  have args := he.run pins s σ H _ I h
  have tail : wpAny (model X.prog X.w) X.A (spliced (backTo pos (starEach [e] X.env))) (fun us s1 => X.K.In s1.heap ∧ wpAny (model X.prog X.w) X.A (call (.ref C) us) (L2N.MkP X pins σ Q) X.xe s1) X.xe s := by
    rw [hs]
    exact Calls.spliced_cons (thn args fun u s1 got => by
      obtain ⟨v, H1, J, _, q⟩ := got
      exact Calls.spliced_nil ⟨J.kIn, ownJ_end fb isx ra J q⟩)
  exact wpAny_Call_Name_kw (ld_glob I hg gC (PySem.W.callWith_K (h₀ := X.base) I.ok.mod.kin kC tail hs (by rfl)) hdb)
end
/-! ### arguments and plans that cannot be -/
theorem del_ne' {H : Hp} {a b : Addr} (h : b ≠ a) : del H a b = H b := del_ne h
/-- what stands when an exception of one field is raised -/
theorem raise_fr {H1 : Hp} {a dx : Addr} {o1 o2 o3 o4 : HO} (ha : H1 a = none) (hdx : H1 dx = none) : Fr [] H1 (upd (del (upd (upd (upd H1 a o1) dx o2) a o3) a) dx o4) := fun b u e _ => by
  have na := ne_of_none e ha
  have nd := ne_of_none e hdx
  rw [upd_ne nd, del_ne na, upd_ne na, upd_ne nd, upd_ne na]
  exact e
/-- an error with one field is raised -/
def Ixd (X : Addr) (fld : Str) (j : Nat) (H : Hp) (E : XK) : Prop := ∀ (d : Addr) (H' : Hp), H d = none → Fr [] H H' → H' d = some (.xd [(fld, .int (j : Int))]) → E (.ref X) (some d) H'
theorem Ixd.fin {X : Addr} {fld : Str} {j : Nat} {H : Hp} {E : XK} (k : Ixd X fld j H E) (h : j < 64) (H2 : Hp) (f2 : Fr [] H H2) (q : Addr) (hq : H2 q = none) : spI1 fld X (.ref q :: ([.int (j : Int)] ++ [])) (upd H2 q (exo q X none)) (fun v H3 => v = .non ∧ ∃ (d : Addr) (fs : List (Str × V)), H3 q = some (exo q X (some d)) ∧ H3 d = some (exd d fs) ∧ H2 d = none ∧ E (.ref X) (some d) (upd (del H3 q) d (.xd fs))) (fun _ _ _ => False) :=
  ⟨q, j, rfl, h, upd_same, fun dd hdd hne => ⟨rfl, dd, _, upd_same, (upd_ne hne).trans upd_same, (free_upd hdd).1, k dd _ (some_of f2 (by simp) (free_upd hdd).1) (f2.trans (raise_fr hq (free_upd hdd).1)) upd_same⟩⟩
def NoLst (H : Hp) (v : V) : Prop := v = .non ∨ (∃ i, v = .int i) ∨ (∃ z, v = .str z) ∨ ∃ (l : Addr) (xs : List V), v = .ref l ∧ H l = some (.tup xs)
theorem NoLst.ty {K : PySem.W.Frag} {H : Hp} {v : V} (h : NoLst H v) : ∃ t : Value, TyX K H v t ∧ PySem.W.kitOne K t (.type "list") = some false := by
  rcases h with rfl | ⟨i, rfl⟩ | ⟨z, rfl⟩ | ⟨l, xs, rfl, hl⟩
  · exact ⟨_, .base .non, kit_ty (by decide +kernel)⟩
  · exact ⟨_, .base (.int i), kit_ty (by decide +kernel)⟩
  · exact ⟨_, .base (.str z), kit_ty (by decide +kernel)⟩
  · exact ⟨_, .base (.tup hl), kit_ty (by decide +kernel)⟩
theorem NoLst.ext {H H' : Hp} {v : V} (h : NoLst H v) (f : ∀ b xs, H b = some (.tup xs) → H' b = some (.tup xs)) : NoLst H' v := by
  rcases h with h | h | h | ⟨l, xs, e, hl⟩
  · exact .inl h
  · exact .inr (.inl h)
  · exact .inr (.inr (.inl h))
  · exact .inr (.inr (.inr ⟨l, xs, e, f _ _ hl⟩))
/-- reads of which the first that cannot be is at j -/
def BadR (H : Hp) (v : V) (j : Nat) : Prop := (j = 0 ∧ NoLst H v) ∨ ∃ (b : Addr) (xs : List V), v = .ref b ∧ H b = some (.lst xs) ∧ j ≤ 14 ∧ j < xs.length ∧ (∀ i, i < j → ∃ n : Int, xs[i]? = some (.int n) ∧ 0 ≤ n ∧ n ≤ 15) ∧ (j < 14 → ∃ u, xs[j]? = some u ∧ NoNum H 0 15 u)
def spSlotsB (X : Addr) : Sp := fun vs H _ E => ∃ v : V, vs = [v, .int 8] ∧ NoNum H 1 8 v ∧ ∀ H', Fr [] H H' → E (.ref X) none H'
def spReadsB (X Y : Addr) : Sp := fun vs H _ E => ∃ v u : V, vs = [v, u] ∧ ((NoNum H 1 8 v ∧ ∀ H', Fr [] H H' → E (.ref X) none H') ∨ ∃ (n : Int) (j : Nat), v = .int n ∧ 1 ≤ n ∧ n ≤ 8 ∧ BadR H u j ∧ Ixd Y "index" j H E)
def spJudgeB (X Y : Addr) : Sp := fun vs H _ E => ∃ v u p : V, vs = [v, u, p] ∧ ((NoNum H 1 8 v ∧ ∀ H', Fr [] H H' → E (.ref X) none H') ∨ ∃ (n : Int) (j : Nat), v = .int n ∧ 1 ≤ n ∧ n ≤ 8 ∧ BadR H u j ∧ Ixd Y "index" j H E)
section
variable {P : Program} {w : World} {K : PySem.W.Frag} {mg : Str → Option Value} {base : Heap}
theorem ok_slotsB (T : Gx K mg) : FnOk P w K mg base (L2N.CX P w) 4 T.f_check_slots T.fd_check_slots ["slots", "most"] (spSlotsB T.C_InvalidSize) := by
  have G_is_number_from : FnOk P w K mg base CX0 2 T.f_is_number_from T.fd_is_number_from ["thing", "least", "most"] (spNumFrom K) := ok_numFrom T
  refine T.F_check_slots.ok sc_check_slots (fun vs H Q E h => ?_) (fun cdv A outer s H vs Q E hr h => ?_)
  · obtain ⟨v, rfl, _⟩ := h
    rfl
  · obtain ⟨v, rfl, nn, k⟩ := h
    refine ⟨_, (pss_one (ps_if (pt_not (pt_val (pe_call G_is_number_from (hr.mono (by first | decide | omega)) (by rfl) T.g_is_number_from T.F_is_number_from.kp (b_is_number_from T) .nil pass0 (pa_cons (pv 0) (pa_cons pe_int (pa_cons (pv 1) pa_nil)))))) (pss_one (L2N.ps_raise rfl (L2N.takes_of rfl rfl rfl rfl) (ownJ PySem.F.excBase_ValueError T.pl_InvalidSize T.gC_InvalidSize T.kp_InvalidSize (raises_own T.E_InvalidSize.hs T.ty_InvalidSize) (by rfl) (pe_joined (.cons pe_str (.cons (pe_fmt (pv 1)) (.cons pe_str .nil))))))) pss_nil)), ?_⟩
    rcases nn with ⟨n, rfl, hn⟩ | rfl | ⟨b, rfl⟩ | ⟨z, rfl⟩ | ⟨q, ys, rfl, hq⟩
    · refine ⟨_, rfl, _, rfl, _, 1, 8, rfl, .inl ⟨n, rfl, _, rfl, ?_⟩⟩
      rw [hn]
      exact iteT ⟨_, rfl, by decide +kernel, _, rfl, .inr ⟨8, rfl, by decide +kernel, _, rfl, by decide +kernel, _, rfl, by decide +kernel, k _ (Fr.refl _ _)⟩⟩
    · exact ⟨_, rfl, _, rfl, _, 1, 8, rfl, .inr ⟨_, false, false, .base .non, kit_ty (by decide +kernel), kit_ty (by decide +kernel), rfl, _, rfl, iteT ⟨_, rfl, by decide +kernel, _, rfl, .inr ⟨8, rfl, by decide +kernel, _, rfl, by decide +kernel, _, rfl, by decide +kernel, k _ (Fr.refl _ _)⟩⟩⟩⟩
    · exact ⟨_, rfl, _, rfl, _, 1, 8, rfl, .inr ⟨_, true, true, .base (.bl b), kit_ty (by decide +kernel), kit_ty (by decide +kernel), rfl, _, rfl, iteT ⟨_, rfl, by decide +kernel, _, rfl, .inr ⟨8, rfl, by decide +kernel, _, rfl, by decide +kernel, _, rfl, by decide +kernel, k _ (Fr.refl _ _)⟩⟩⟩⟩
    · exact ⟨_, rfl, _, rfl, _, 1, 8, rfl, .inr ⟨_, false, false, .base (.str z), kit_ty (by decide +kernel), kit_ty (by decide +kernel), rfl, _, rfl, iteT ⟨_, rfl, by decide +kernel, _, rfl, .inr ⟨8, rfl, by decide +kernel, _, rfl, by decide +kernel, _, rfl, by decide +kernel, k _ (Fr.refl _ _)⟩⟩⟩⟩
    · exact ⟨_, rfl, _, rfl, _, 1, 8, rfl, .inr ⟨_, false, false, .base (.tup hq), kit_ty (by decide +kernel), kit_ty (by decide +kernel), rfl, _, rfl, iteT ⟨_, rfl, by decide +kernel, _, rfl, .inr ⟨8, rfl, by decide +kernel, _, rfl, by decide +kernel, _, rfl, by decide +kernel, k _ (Fr.refl _ _)⟩⟩⟩⟩
theorem ok_readsB (HP : ProgOk P file) (T : Gx K mg) (hf : file = T.file) : FnOk P w K mg base (L2N.CX P w) 5 T.f__check_reads T.fd__check_reads ["slots", "blocks"] (spReadsB T.C_InvalidSize T.C_InvalidRequests) := by
  have G_InvalidRequests___init__ := ok_i_InvalidRequests (w := w) (base := base) HP T hf
  obtain ⟨ds, rd, bS⟩ := T.F_check_slots.binds1 (ps := ["slots", "most"]) 1 0 (by simp) rfl (fun U kV doc pm an cdv ct us its hu hi => match us, hu, its, hi with
    | [_], _, [_], _ => ⟨_, rfl, rfl⟩)
  have G_is_number_from : FnOk P w K mg base CX0 2 T.f_is_number_from T.fd_is_number_from ["thing", "least", "most"] (spNumFrom K) := ok_numFrom T
  refine FunOkC T.F__check_reads sc__check_reads (fun vs H Q E h => ?_) (fun cdv A outer s H vs Q E hr h => ?_)
  · obtain ⟨v, u, rfl, _⟩ := h
    rfl
  · obtain ⟨v, u, rfl, h⟩ := h
    rcases h with ⟨nn, k⟩ | ⟨n, j, rfl, h1, h2, hb, k⟩
    · have G_check_slots := ok_slotsB (P := P) (w := w) (base := base) T
      refine ⟨_, (pss_cons (ps_expr (pe_call G_check_slots (hr.mono (by first | decide | omega)) (by rfl) T.g_check_slots T.F_check_slots.kp bS rd (L2N.passes_call (L2N.takes_of rfl rfl rfl rfl) (fun _ _ _ _ h => h)) (pa_cons (pv 0) pa_nil))) pss_never), ?_⟩
      exact ⟨_, rfl, _, rfl, nn, k⟩
    · have G_check_slots : FnOk P w K mg base CX0 3 T.f_check_slots T.fd_check_slots ["slots", "most"] spSlots := ok_slots T
      refine ⟨_, (pss_cons (ps_expr (pe_call G_check_slots (hr.mono (by first | decide | omega)) (by rfl) T.g_check_slots T.F_check_slots.kp bS rd pass0 (pa_cons (pv 0) pa_nil)))
      (pss_cons (ps_if (pt_not (pt_val (pe_callB call_isi (by rfl) T.z_isinstance (by decide +kernel) (pa_cons (pv 1) (pa_cons (pe_bltn (v := .ty "list") (by rfl) T.z_list (by decide +kernel) rfl) pa_nil))))) (pss_one (L2N.ps_raise rfl (L2N.takes_of rfl rfl rfl rfl) (pmkN T.O_InvalidRequests T.iC_InvalidRequests T.tI_InvalidRequests G_InvalidRequests___init__ (hr.mono (by first | decide | omega)) (bi_InvalidRequests T) passN (by rfl) T.gC_InvalidRequests (pa_cons pe_int pa_nil)))) pss_nil)
      (pss_one (ps_for PassesOwn.leaving rfl (pi_enum (by rfl) T.z_enumerate (pa_cons (pv 1) pa_nil)) (pg_tup (by rfl) (pgs_cons (pg_name (i := 2) sc__check_reads.nd rfl (.inl rfl)) (pgs_cons (pg_name (i := 3) sc__check_reads.nd rfl (.inl rfl)) pgs_nil))) (pss_one (ps_if (PW.pt (pw_or (pt_cmpR op_eq (pv 2) (pe_glob (v := .int 14) (by rfl) T.c_MOST_READS ⟨_, rfl⟩) (nomark _)) (pw_or1 (pt_not (pt_val (pe_call G_is_number_from (hr.mono (by first | decide | omega)) (by rfl) T.g_is_number_from T.F_is_number_from.kp (b_is_number_from T) .nil pass0 (pa_cons (pv 3) (pa_cons pe_int (pa_cons (pe_glob (v := .int 15) (by rfl) T.c_MOST_READ_BLOCK ⟨_, rfl⟩) pa_nil))))))))) (pss_one (L2N.ps_raise rfl (L2N.takes_of rfl rfl rfl rfl) (pmkN T.O_InvalidRequests T.iC_InvalidRequests T.tI_InvalidRequests G_InvalidRequests___init__ (hr.mono (by first | decide | omega)) (bi_InvalidRequests T) passN (by rfl) T.gC_InvalidRequests (pa_cons (pv 2) pa_nil)))) pss_nil)))))), ?_⟩
      refine ⟨_, rfl, n, rfl, h1, h2, ?_⟩
      rcases hb with ⟨rfl, nl⟩ | ⟨b, xs, rfl, hb, hj, hjl, hg, hx⟩
      · obtain ⟨ty, e1, e2⟩ := nl.ty (K := K)
        exact ⟨_, rfl, _, .ty "list", ty, _, false, rfl, ClsV.ty "list", e1, e2, _, rfl, iteT ⟨by simp, k.fin (by decide) H (Fr.refl _ _)⟩⟩
      · refine ⟨_, rfl, _, .ty "list", .type "list", _, true, rfl, ClsV.ty "list", .base (.lst hb), kit_ty (by decide +kernel), _, rfl, iteF ?_⟩
        refine ⟨_, rfl, b, _, rfl, SqL.of hb, for_enumL (K := K) (a := b) (xs := xs) (fun i σ H' => i ≤ j ∧ Fr [] H H' ∧ ∃ v2 v3 : Option V, σ = [some (.int n), some (.ref b), v2, v3]) ⟨Nat.zero_le _, Fr.refl _ _, none, none, rfl⟩ (fun i σ H' _ h => SqL.of (h.2.1 _ _ hb (by simp))) ?_ ?_⟩
        · rintro i x σ H1 U hix ⟨hij, f1, v2, v3, rfl⟩ hU
          have f2 : Fr [] H (upd H1 U (.tup [.int (i : Nat), x])) := f1.trans (Fr.new hU)
          refine ⟨U, _, rfl, SqT.of upd_same, rfl, _, _, rfl, _, _, rfl, rfl, ?_⟩
          refine ⟨_, rfl, rfl, _, rfl, ?_⟩
          by_cases hlt : i < j
          · obtain ⟨m, hm, g0, g1⟩ := hg i hlt
            rw [hix] at hm
            cases hm
            rw [decI (a := (i : Int)) (b := 14) (by omega)]
            refine iteF ⟨_, rfl, _, 0, 15, rfl, .inl ⟨m, rfl, _, rfl, ?_⟩⟩
            rw [decide_eq_true g0, decide_eq_true g1]
            exact iteF ⟨hlt, f2, _, _, rfl⟩
          · have ej : i = j := Nat.le_antisymm hij (Nat.le_of_not_lt hlt)
            subst ej
            by_cases h14 : i = 14
            · rw [decide_eq_true (show V.int (i : Int) = V.int 14 by rw [h14]; rfl)]
              exact iteT ⟨_, rfl, by simp, k.fin (by omega) _ f2⟩
            · obtain ⟨u, hu, nn⟩ := hx (by omega)
              rw [hix] at hu
              cases hu
              rw [decI (a := (i : Int)) (b := 14) (by omega)]
              rcases nn with ⟨m, rfl, hm⟩ | rfl | ⟨b, rfl⟩ | ⟨z, rfl⟩ | ⟨q, ys, rfl, hq⟩
              · refine iteF ⟨_, rfl, _, 0, 15, rfl, .inl ⟨m, rfl, _, rfl, ?_⟩⟩
                rw [hm]
                exact iteT ⟨_, rfl, by simp, k.fin (by omega) _ f2⟩
              · exact iteF ⟨_, rfl, _, 0, 15, rfl, .inr ⟨_, false, false, .base .non, kit_ty (by decide +kernel), kit_ty (by decide +kernel), rfl, _, rfl, iteT ⟨_, rfl, by simp, k.fin (by omega) _ f2⟩⟩⟩
              · exact iteF ⟨_, rfl, _, 0, 15, rfl, .inr ⟨_, true, true, .base (.bl b), kit_ty (by decide +kernel), kit_ty (by decide +kernel), rfl, _, rfl, iteT ⟨_, rfl, by simp, k.fin (by omega) _ f2⟩⟩⟩
              · exact iteF ⟨_, rfl, _, 0, 15, rfl, .inr ⟨_, false, false, .base (.str z), kit_ty (by decide +kernel), kit_ty (by decide +kernel), rfl, _, rfl, iteT ⟨_, rfl, by simp, k.fin (by omega) _ f2⟩⟩⟩
              · exact iteF ⟨_, rfl, _, 0, 15, rfl, .inr ⟨_, false, false, .base (.tup (f2 _ _ hq (by simp))), kit_ty (by decide +kernel), kit_ty (by decide +kernel), rfl, _, rfl, iteT ⟨_, rfl, by simp, k.fin (by omega) _ f2⟩⟩⟩
        · rintro σ H1 ⟨hij, f1, v2, v3, rfl⟩
          omega
theorem ok_fewB (HP : ProgOk P file) (T : Gx K mg) (hf : file = T.file) : FnOk P w K mg base (L2N.CX P w) 6 T.f_fewest_misses T.fd_fewest_misses ["slots", "blocks"] (spReadsB T.C_InvalidSize T.C_InvalidRequests) := by
  have G__check_reads := ok_readsB (w := w) (base := base) HP T hf
  refine FunOkC T.F_fewest_misses sc_fewest_misses (fun vs H Q E h => ?_) (fun cdv A outer s H vs Q E hr h => ?_)
  · obtain ⟨v, u, rfl, _⟩ := h
    rfl
  · obtain ⟨v, u, rfl, h⟩ := h
    refine ⟨_, (pss_cons (ps_expr (pe_call G__check_reads (hr.mono (by first | decide | omega)) (by rfl) T.g__check_reads T.F__check_reads.kp (b__check_reads T) .nil (L2N.passes_call (L2N.takes_of rfl rfl rfl rfl) (fun _ _ _ _ h => h)) (pa_cons (pv 0) (pa_cons (pv 1) pa_nil)))) pss_never), ?_⟩
    exact ⟨_, rfl, _, rfl, v, u, rfl, h⟩
theorem ok_judgeB (HP : ProgOk P file) (T : Gx K mg) (hf : file = T.file) : FnOk P w K mg base (L2N.CX P w) 6 T.f_judge_plan T.fd_judge_plan ["slots", "blocks", "plan"] (spJudgeB T.C_InvalidSize T.C_InvalidRequests) := by
  have G__check_reads := ok_readsB (w := w) (base := base) HP T hf
  refine FunOkC T.F_judge_plan sc_judge_plan (fun vs H Q E h => ?_) (fun cdv A outer s H vs Q E hr h => ?_)
  · obtain ⟨v, u, p, rfl, _⟩ := h
    rfl
  · obtain ⟨v, u, p, rfl, h⟩ := h
    refine ⟨_, (pss_cons (ps_expr (pe_call G__check_reads (hr.mono (by first | decide | omega)) (by rfl) T.g__check_reads T.F__check_reads.kp (b__check_reads T) .nil (L2N.passes_call (L2N.takes_of rfl rfl rfl rfl) (fun _ _ _ _ h => h)) (pa_cons (pv 0) (pa_cons (pv 1) pa_nil)))) pss_never), ?_⟩
    exact ⟨_, rfl, _, rfl, v, u, rfl, h⟩
end
/-! ### plans that cannot be -/
def BadPl (H : Hp) (s : Int) (xs : List Int) (v : V) (j : Nat) : Prop := (j = 0 ∧ NoLst H v) ∨ ∃ (p : Addr) (ys : List V) (l : List (Int × Ent)) (rest : List Int) (tail : List V), v = .ref p ∧ H p = some (.lst ys) ∧ l.length = j ∧ xs = l.map (·.1) ++ rest ∧ ys = (l.map fun q => q.2.v) ++ tail ∧ ys.length ≤ 100 ∧ Valid s l ∧
  ((∃ x r, rest = x :: r ∧ (tail = [] ∨ ∃ u t, tail = u :: t ∧ Can H s (keptOf l) x u false)) ∨ (rest = [] ∧ tail ≠ []))
def spJudgeP (X : Addr) : Sp := fun vs H _ E => ∃ (s : Int) (b : Addr) (xs : List Int) (v : V) (j : Nat), vs = [.int s, .ref b, v] ∧ 1 ≤ s ∧ s ≤ 8 ∧ H b = some (.lst (xs.map V.int)) ∧ GoodR xs ∧ BadPl H s xs v j ∧ Ixd X "index" j H E
section
variable {P : Program} {w : World} {K : PySem.W.Frag} {mg : Str → Option Value} {base : Heap}
theorem ok_judgeP (HP : ProgOk P file) (T : Gx K mg) (hf : file = T.file) : FnOk P w K mg base (L2N.CX P w) 6 T.f_judge_plan T.fd_judge_plan ["slots", "blocks", "plan"] (spJudgeP T.C_InvalidPlan) := by
  have G_InvalidPlan___init__ := ok_i_InvalidPlan (w := w) (base := base) HP T hf
  have G__check_reads : FnOk P w K mg base CX0 4 T.f__check_reads T.fd__check_reads ["slots", "blocks"] spReads := ok_reads T
  have G__can_be : FnOk P w K mg base CX0 2 T.f__can_be T.fd__can_be ["slots", "kept", "block", "entry"] spCan := ok_can T
  have G__kept_after : FnOk P w K mg base CX0 1 T.f__kept_after T.fd__kept_after ["kept", "block", "entry"] spAfter := ok_after T
  refine FunOkC T.F_judge_plan sc_judge_plan (fun vs H Q E h => ?_) (fun cdv A outer s H vs Q E hr h => ?_)
  · obtain ⟨s, b, xs, v, j, rfl, _⟩ := h
    rfl
  · obtain ⟨n, b, xs, v, j, rfl, h1, h2, hb, hg, hbad, k⟩ := h
    refine ⟨_, (pss_cons (ps_expr (pe_call G__check_reads (hr.mono (by first | decide | omega)) (by rfl) T.g__check_reads T.F__check_reads.kp (b__check_reads T) .nil pass0 (pa_cons (pv 0) (pa_cons (pv 1) pa_nil))))
      (pss_cons (ps_if (pt_not (pt_val (pe_callB call_isi (by rfl) T.z_isinstance (by decide +kernel) (pa_cons (pv 2) (pa_cons (pe_bltn (v := .ty "list") (by rfl) T.z_list (by decide +kernel) rfl) pa_nil))))) (pss_one (L2N.ps_raise rfl (L2N.takes_of rfl rfl rfl rfl) (pmkN T.O_InvalidPlan T.iC_InvalidPlan T.tI_InvalidPlan G_InvalidPlan___init__ (hr.mono (by first | decide | omega)) (bi_InvalidPlan T) passN (by rfl) T.gC_InvalidPlan (pa_cons pe_int pa_nil)))) pss_nil)
      (pss_cons (ps_set (i := 3) sc_judge_plan.nd rfl (.inl rfl) (pe_lst pa_nil))
      (pss_cons (ps_set (i := 4) sc_judge_plan.nd rfl (.inl rfl) pe_int)
      (pss_cons (ps_for PassesOwn.leaving rfl (pi_enum (by rfl) T.z_enumerate (pa_cons (pv 1) pa_nil)) (pg_tup (by rfl) (pgs_cons (pg_name (i := 5) sc_judge_plan.nd rfl (.inl rfl)) (pgs_cons (pg_name (i := 6) sc_judge_plan.nd rfl (.inl rfl)) pgs_nil))) (pss_cons (ps_if (PW.pt (pw_or (pt_cmpR op_eq (pv 5) (pe_callB call_len_seq (by rfl) T.z_len (by decide +kernel) (pa_cons (pv 2) pa_nil)) (nomark _)) (pw_or1 (pt_not (pt_val (pe_call G__can_be (hr.mono (by first | decide | omega)) (by rfl) T.g__can_be T.F__can_be.kp (b__can_be T) .nil pass0 (pa_cons (pv 0) (pa_cons (pv 3) (pa_cons (pv 6) (pa_cons (pe_ix ix_list (pv 2) (pv 5) (fun _ _ => rfl)) pa_nil)))))))))) (pss_one (L2N.ps_raise rfl (L2N.takes_of rfl rfl rfl rfl) (pmkN T.O_InvalidPlan T.iC_InvalidPlan T.tI_InvalidPlan G_InvalidPlan___init__ (hr.mono (by first | decide | omega)) (bi_InvalidPlan T) passN (by rfl) T.gC_InvalidPlan (pa_cons (pv 5) pa_nil)))) pss_nil)
      (pss_cons (ps_if (pt_cmpR op_notIn_seq (pv 6) (pv 3) (by rfl)) (pss_one (ps_aug (i := 4) sc_judge_plan.nd rfl (.inl rfl) pe_int ip_add)) pss_nil)
      (pss_one (ps_set (i := 3) sc_judge_plan.nd rfl (.inl rfl) (pe_call G__kept_after (hr.mono (by first | decide | omega)) (by rfl) T.g__kept_after T.F__kept_after.kp (b__kept_after T) .nil pass0 (pa_cons (pv 3) (pa_cons (pv 6) (pa_cons (pe_ix ix_list (pv 2) (pv 5) (fun _ _ => rfl)) pa_nil)))))))))
      (pss_cons (ps_if (pt_cmpR op_gt (pe_callB call_len_seq (by rfl) T.z_len (by decide +kernel) (pa_cons (pv 2) pa_nil)) (pe_callB call_len_seq (by rfl) T.z_len (by decide +kernel) (pa_cons (pv 1) pa_nil)) (nomark _)) (pss_one (L2N.ps_raise rfl (L2N.takes_of rfl rfl rfl rfl) (pmkN T.O_InvalidPlan T.iC_InvalidPlan T.tI_InvalidPlan G_InvalidPlan___init__ (hr.mono (by first | decide | omega)) (bi_InvalidPlan T) passN (by rfl) T.gC_InvalidPlan (pa_cons (pe_callB call_len_seq (by rfl) T.z_len (by decide +kernel) (pa_cons (pv 1) pa_nil)) pa_nil)))) pss_nil)
      (pss_one (ps_ret (pv 4))))))))), ?_⟩
    refine ⟨_, rfl, _, rfl, n, b, _, rfl, h1, h2, hb, hg, fun H1 f1 => ?_⟩
    rcases hbad with ⟨rfl, nl⟩ | ⟨p, ys, l, rest, tail, rfl, hp, rfl, hxs, hys, hyl, hv, hbad⟩
    · obtain ⟨ty, e1, e2⟩ := (nl.ext (H' := H1) fun b xs e => f1 _ _ e (by simp)).ty (K := K)
      exact ⟨_, rfl, _, .ty "list", ty, _, false, rfl, ClsV.ty "list", e1, e2, _, rfl, iteT ⟨by simp, k.fin (by decide) H1 f1⟩⟩
    · refine ⟨_, rfl, _, .ty "list", .type "list", _, true, rfl, ClsV.ty "list", .base (.lst (f1 _ _ hp (by simp))), kit_ty (by decide +kernel), _, rfl, iteF ?_⟩
      have hll : l.length ≤ 14 := by
        have := hg.1
        rw [hxs, List.length_append, List.length_map] at this
        omega
      refine ⟨sz_le (by simp), fun kk hkk => ?_⟩
      refine ⟨_, rfl, b, _, rfl, SqL.of ((upd_ne (ne_of_none (f1 _ _ hb (by simp)) hkk)).trans (f1 _ _ hb (by simp))), for_enumL (K := K) (a := b) (xs := xs.map V.int) (fun i σ H' => i ≤ l.length ∧ Fr [] H H' ∧ ∃ (kk : Addr) (v5 v6 : Option V), H' kk = some (.lst ((keptOf (l.take i)).map V.int)) ∧ σ = [some (.int n), some (.ref b), some (.ref p), some (.ref kk), some (.int (missOf [] (l.take i))), v5, v6])
        ⟨Nat.zero_le _, f1.trans (Fr.new hkk), kk, none, none, upd_same, rfl⟩ (fun i σ H' _ h => SqL.of (h.2.1 _ _ hb (by simp))) ?_ ?_⟩
      · rintro i x σ H2 U hx ⟨hij, f2, kk, v5, v6, e2, rfl⟩ hU
        obtain ⟨u, rfl, hu⟩ := int_at hx
        have hkl := keptOf_len (l.take i)
        rw [List.length_take] at hkl
        have f3 := f2.trans (Fr.new (o := .tup [.int (i : Nat), .int u]) hU)
        have e3 := (upd_ne (o := .tup [.int (i : Nat), .int u]) (ne_of_none e2 hU)).trans e2
        refine ⟨U, _, rfl, SqT.of upd_same, rfl, _, _, rfl, _, _, rfl, rfl, ?_⟩
        refine ⟨_, rfl, _, rfl, p, _, rfl, .inl (SqL.of (f3 _ _ hp (by simp))), rfl, _, rfl, ?_⟩
        have hyl2 : ys.length = l.length + tail.length := by rw [hys, List.length_append, List.length_map]
        by_cases hlt : i < l.length
        · obtain ⟨q, hq, rfl⟩ : ∃ q, l[i]? = some q ∧ q.1 = u := by
            have hq : l[i]? = some l[i] := List.getElem?_eq_getElem hlt
            refine ⟨_, hq, ?_⟩
            rw [hxs, List.getElem?_append_left (by rw [List.length_map]; exact hlt), List.getElem?_map, hq] at hu
            exact Option.some.inj hu
          have hpl : ys[i]? = some q.2.v := by rw [hys, List.getElem?_append_left (by rw [List.length_map]; exact hlt), List.getElem?_map, hq]; rfl
          rw [decI (a := (i : Int)) (b := (ys.length : Int)) (by omega)]
          refine iteF ⟨_, rfl, _, rfl, _, rfl, _, rfl, _, rfl, p, _, (i : Int), _, rfl, rfl, SqL.of (f3 _ _ hp (by simp)), atI_nat hpl, ?_⟩
          refine ⟨n, kk, _, q.1, _, _, rfl, e3, .ent q.2, _, rfl, ?_⟩
          rw [hv i q hq]
          refine iteF ?_
          refine ⟨_, rfl, _, rfl, kk, _, rfl, .inl (SqL.of e3), rfl, flat_ints _, _, rfl, ?_⟩
          rw [inV_int]
          have hm := miss_step hq
          by_cases hk : q.1 ∈ keptOf (l.take i)
          · rw [decide_eq_true hk]
            rw [if_pos hk, Int.add_zero] at hm
            refine iteF ?_
            refine ⟨_, rfl, _, rfl, _, rfl, _, rfl, p, _, (i : Int), _, rfl, rfl, SqL.of (f3 _ _ hp (by simp)), atI_nat hpl, ?_⟩
            refine ⟨kk, _, q.1, q.2, rfl, e3, by omega, fun k' H4 f4 e4 _ => ?_⟩
            rw [← kept_step hq] at e4
            exact ⟨hlt, f3.trans f4, k', some (.int (i : Int)), some (.int q.1), e4, by rw [hm]; rfl⟩
          · rw [decide_eq_false hk]
            rw [if_neg hk] at hm
            refine iteT ?_
            refine ⟨_, rfl, _, _, rfl, rfl, ?_⟩
            refine ⟨_, rfl, _, rfl, _, rfl, _, rfl, p, _, (i : Int), _, rfl, rfl, SqL.of (f3 _ _ hp (by simp)), atI_nat hpl, ?_⟩
            refine ⟨kk, _, q.1, q.2, rfl, e3, by omega, fun k' H4 f4 e4 _ => ?_⟩
            rw [← kept_step hq] at e4
            exact ⟨hlt, f3.trans f4, k', some (.int (i : Int)), some (.int q.1), e4, by rw [hm]; rfl⟩
        · have ej : i = l.length := Nat.le_antisymm hij (Nat.le_of_not_lt hlt)
          subst ej
          rw [List.take_length] at e3
          rcases hbad with ⟨x, r, hr2, hbad⟩ | ⟨hr2, _⟩
          · have ex : x = u := by
              rw [hxs, hr2, List.getElem?_append_right (by rw [List.length_map]; exact Nat.le_refl _), List.length_map, Nat.sub_self] at hu
              exact Option.some.inj hu
            subst ex
            rcases hbad with ht | ⟨v, t, ht, hc⟩
            · rw [ht] at hyl2
              rw [decide_eq_true (show V.int (l.length : Int) = V.int ((ys.length : Nat) : Int) by rw [hyl2]; rfl)]
              exact iteT ⟨_, rfl, by simp, k.fin (by omega) _ f3⟩
            · have hpl : ys[l.length]? = some v := by rw [hys, ht, List.getElem?_append_right (by rw [List.length_map]; exact Nat.le_refl _), List.length_map, Nat.sub_self]; rfl
              rw [ht, List.length_cons] at hyl2
              rw [decI (a := (l.length : Int)) (b := (ys.length : Int)) (by omega)]
              refine iteF ⟨_, rfl, _, rfl, _, rfl, _, rfl, _, rfl, p, _, (l.length : Int), _, rfl, rfl, SqL.of (f3 _ _ hp (by simp)), atI_nat hpl, ?_⟩
              refine ⟨n, kk, _, x, _, _, rfl, e3, hc.keep (fun b xs e => f3 _ _ e (by simp)), _, rfl, ?_⟩
              exact iteT ⟨_, rfl, by simp, k.fin (by omega) _ f3⟩
          · rw [hxs, hr2, List.append_nil] at hu
            have := lt_of_at hu
            rw [List.length_map] at this
            omega
      · rintro σ H2 ⟨hij, f2, kk, v5, v6, e2, rfl⟩
        rw [List.length_map] at hij
        rcases hbad with ⟨x, r, hr2, _⟩ | ⟨hr2, ht⟩
        · rw [hxs, hr2, List.length_append, List.length_map, List.length_cons] at hij
          omega
        · have exl : xs.length = l.length := by rw [hxs, hr2, List.append_nil, List.length_map]
          have hyl2 : ys.length = l.length + tail.length := by rw [hys, List.length_append, List.length_map]
          have htl := List.length_pos_iff.mpr ht
          refine ⟨_, rfl, p, _, rfl, .inl (SqL.of (f2 _ _ hp (by simp))), _, rfl, b, _, rfl, .inl (SqL.of (f2 _ _ hb (by simp))), _, _, rfl, rfl, _, rfl, ?_⟩
          rw [List.length_map, decide_eq_true (by omega)]
          refine iteT ⟨_, rfl, b, _, rfl, .inl (SqL.of (f2 _ _ hb (by simp))), by simp, ?_⟩
          rw [List.length_map, exl]
          exact k.fin (by omega) _ f2
end
/-! ### the lambdas -/
def lamA : Expr → Arguments
  | .Lambda a _ _ _ => a
  | _ => defArgs s_law
def lamB : Expr → Expr
  | .Lambda _ b _ _ => b
  | e => e
def lamS : Expr → Scope
  | .Lambda _ _ s _ => s
  | _ => defScope s_law
def forB : Stmt → List Stmt
  | .For _ _ b _ _ => b
  | _ => []
def nthE : Nat → List Expr → Expr
  | 0, e :: _ => e
  | n + 1, _ :: r => nthE n r
  | _, [] => .Tuple [] 0 ⟨0, 0, 0, 0⟩
def lamAt (n : Nat) : Stmt → Expr
  | .If (.Compare (.Call _ (l :: _) _ _) _ _ _) _ _ _ => l
  | .Assign _ (.List es _) _ => nthE n es
  | _ => .Tuple [] 0 ⟨0, 0, 0, 0⟩
abbrev nthS (l : List Stmt) (n : Nat) : Stmt := l.getD n (.Pass ⟨0, 0, 0, 0⟩)
abbrev lam1 : Expr := lamAt 0 (nthS (defBody s__law_are_refused) 2)
abbrev lam2 : Expr := lamAt 1 (nthS (defBody s__law_are_refused) 2)
abbrev lam3 : Expr := lamAt 0 (nthS (defBody s__law_are_refused) 9)
abbrev lam4 : Expr := lamAt 1 (nthS (defBody s__law_are_refused) 9)
abbrev lam5 : Expr := lamAt 0 (nthS (forB (nthS (defBody s_law) 2)) 8)
theorem BadR.ext {H H' : Hp} {v : V} {j : Nat} (h : BadR H v j) (f : ∀ b xs, H b = some (.tup xs) → H' b = some (.tup xs)) (g : ∀ b xs, v = .ref b → H b = some (.lst xs) → H' b = some (.lst xs)) : BadR H' v j := by
  rcases h with ⟨h0, h⟩ | ⟨b, xs, e, hb, h1, h2, h3, h4⟩
  · exact .inl ⟨h0, h.ext f⟩
  · exact .inr ⟨b, xs, e, g _ _ e hb, h1, h2, h3, fun h => let ⟨u, a, b⟩ := h4 h; ⟨u, a, b.ext f⟩⟩
theorem BadPl.ext {H H' : Hp} {s : Int} {xs : List Int} {v : V} {j : Nat} (h : BadPl H s xs v j) (f : ∀ b xs, H b = some (.tup xs) → H' b = some (.tup xs)) (g : ∀ b xs, v = .ref b → H b = some (.lst xs) → H' b = some (.lst xs)) : BadPl H' s xs v j := by
  rcases h with ⟨h0, h⟩ | ⟨p, ys, l, rest, tail, e, hp, h1, h2, h3, h4, h5, h6⟩
  · exact .inl ⟨h0, h.ext f⟩
  · refine .inr ⟨p, ys, l, rest, tail, e, g _ _ e hp, h1, h2, h3, h4, h5, ?_⟩
    rcases h6 with ⟨x, r, a, h⟩ | h
    · refine .inl ⟨x, r, a, ?_⟩
      rcases h with h | ⟨u, t, b, c⟩
      · exact .inl h
      · exact .inr ⟨u, t, b, c.keep f⟩
    · exact .inr h
theorem NoNum.keep0 {H H' : Hp} {lo hi : Int} {v : V} (h : NoNum H lo hi v) (f : Fr [] H H') : NoNum H' lo hi v := h.ext fun b xs e => f _ _ e (by simp)
section
open LamX NdefX
variable {P : Program} {w : World} {K : PySem.W.Frag} {mg : Str → Option Value} {base : Heap}
def lpZ (T : Gx K mg) : List (Option V) → Hp → VK → XK → Prop := fun ws H _ E => ∃ v : V, ws = [some v] ∧ NoNum H 1 8 v ∧ ∀ H' : Hp, Fr [] H H' → E (.ref T.C_InvalidSize) none H'
def lpR (T : Gx K mg) : List (Option V) → Hp → VK → XK → Prop := fun ws H _ E => ∃ (n : Int) (v : V) (j : Nat), ws = [some (.int n), some v] ∧ 1 ≤ n ∧ n ≤ 8 ∧ BadR H v j ∧ Ixd T.C_InvalidRequests "index" j H E
def lpJ (T : Gx K mg) : List (Option V) → Hp → VK → XK → Prop := fun ws H _ E => ∃ (n : Int) (b : Addr) (xs : List Int) (v : V) (j : Nat), ws = [some (.int n), some (.ref b), some v] ∧ 1 ≤ n ∧ n ≤ 8 ∧ H b = some (.lst (xs.map V.int)) ∧ GoodR xs ∧ BadPl H n xs v j ∧ Ixd T.C_InvalidPlan "index" j H E
theorem lok_1 (T : Gx K mg) (HP : ProgOk P T.file) {f : Addr} {F : LF} (eb : F.body = lamB lam1) (es : F.scope = lamS lam1) (ep : F.params = lamA lam1) (ed : F.df.isSome = !(lamA lam1).defaults.isEmpty) : LOk P w K mg base (L2N.CX P w) 8 f F ["_law_size"] (lpZ T) := by
  have G := ok_fewB (w := w) (base := base) HP T rfl
  obtain ⟨q, pr, bd, sc, cl, c, df⟩ := F
  have eb' : bd = lamB lam1 := eb
  have es' : sc = lamS lam1 := es
  have ep' : pr = lamA lam1 := ep
  have ed' : df.isSome = false := ed
  subst eb' es' ep'
  obtain rfl : df = none := by cases df with
    | none => rfl
    | some t => cases ed'
  refine lok_of (k := 7) (N := ["_law_size"]) (lscope_by (show lscB ["_law_size"] (lamS lam1) = true from by decide +kernel)) (lbind0 fun pm ct => rfl) (fun A outer s H ws Q E hr L hl h => ?_)
  obtain ⟨v, rfl, nn, k⟩ := h
  refine ⟨_, pe_call G (hr.mono (by decide)) (by rfl) T.g_fewest_misses T.F_fewest_misses.kp (b_fewest_misses T) .nil (L2N.passes_call (L2N.takes_of rfl rfl rfl rfl) (fun _ _ _ _ h => h)) (pa_cons (pv 0) (pa_cons pe_non pa_nil)), ?_⟩
  exact ⟨_, rfl, v, .non, rfl, .inl ⟨nn, k⟩⟩
theorem lok_2 (T : Gx K mg) (HP : ProgOk P T.file) {f : Addr} {F : LF} (eb : F.body = lamB lam2) (es : F.scope = lamS lam2) (ep : F.params = lamA lam2) (ed : F.df.isSome = !(lamA lam2).defaults.isEmpty) : LOk P w K mg base (L2N.CX P w) 8 f F ["_law_size"] (lpZ T) := by
  have G := ok_judgeB (w := w) (base := base) HP T rfl
  obtain ⟨q, pr, bd, sc, cl, c, df⟩ := F
  have eb' : bd = lamB lam2 := eb
  have es' : sc = lamS lam2 := es
  have ep' : pr = lamA lam2 := ep
  have ed' : df.isSome = true := ed
  subst eb' es' ep'
  obtain ⟨t, rfl⟩ : ∃ t, df = some t := by cases df with
    | none => cases ed'
    | some t => exact ⟨t, rfl⟩
  refine lok_of (k := 7) (N := ["_law_size"]) (lscope_by (show lscB ["_law_size"] (lamS lam2) = true from by decide +kernel)) (lbind1 (x := "_law_a") rfl (fun pm ct u => ⟨_, rfl, rfl⟩) (show (lamS lam2).names.lookup ("_law_a" : Str) = some .local from by decide +kernel)) (fun A outer s H ws Q E hr L hl h => ?_)
  obtain ⟨v, rfl, nn, k⟩ := h
  refine ⟨_, pe_call G (hr.mono (by decide)) (by rfl) T.g_judge_plan T.F_judge_plan.kp (b_judge_plan T) .nil (L2N.passes_call (L2N.takes_of rfl rfl rfl rfl) (fun _ _ _ _ h => h)) (pa_cons (pv 0) (pa_cons pe_non (pa_cons pe_non pa_nil))), ?_⟩
  exact ⟨_, rfl, v, .non, .non, rfl, .inl ⟨nn, k⟩⟩
theorem lok_3 (T : Gx K mg) (HP : ProgOk P T.file) {f : Addr} {F : LF} (eb : F.body = lamB lam3) (es : F.scope = lamS lam3) (ep : F.params = lamA lam3) (ed : F.df.isSome = !(lamA lam3).defaults.isEmpty) : LOk P w K mg base (L2N.CX P w) 8 f F ["_law_slots", "_law_given"] (lpR T) := by
  have G := ok_fewB (w := w) (base := base) HP T rfl
  obtain ⟨q, pr, bd, sc, cl, c, df⟩ := F
  have eb' : bd = lamB lam3 := eb
  have es' : sc = lamS lam3 := es
  have ep' : pr = lamA lam3 := ep
  have ed' : df.isSome = true := ed
  subst eb' es' ep'
  obtain ⟨t, rfl⟩ : ∃ t, df = some t := by cases df with
    | none => cases ed'
    | some t => exact ⟨t, rfl⟩
  refine lok_of (k := 7) (N := ["_law_slots", "_law_given"]) (lscope_by (show lscB ["_law_slots", "_law_given"] (lamS lam3) = true from by decide +kernel)) (lbind1 (x := "_law_b") rfl (fun pm ct u => ⟨_, rfl, rfl⟩) (show (lamS lam3).names.lookup ("_law_b" : Str) = some .local from by decide +kernel)) (fun A outer s H ws Q E hr L hl h => ?_)
  obtain ⟨n, v, j, rfl, h1, h2, hb, k⟩ := h
  refine ⟨_, pe_call G (hr.mono (by decide)) (by rfl) T.g_fewest_misses T.F_fewest_misses.kp (b_fewest_misses T) .nil (L2N.passes_call (L2N.takes_of rfl rfl rfl rfl) (fun _ _ _ _ h => h)) (pa_cons (pv 0) (pa_cons (pv 1) pa_nil)), ?_⟩
  exact ⟨_, rfl, _, rfl, .int n, v, rfl, .inr ⟨n, j, rfl, h1, h2, hb, k⟩⟩
theorem lok_4 (T : Gx K mg) (HP : ProgOk P T.file) {f : Addr} {F : LF} (eb : F.body = lamB lam4) (es : F.scope = lamS lam4) (ep : F.params = lamA lam4) (ed : F.df.isSome = !(lamA lam4).defaults.isEmpty) : LOk P w K mg base (L2N.CX P w) 8 f F ["_law_slots", "_law_given"] (lpR T) := by
  have G := ok_judgeB (w := w) (base := base) HP T rfl
  obtain ⟨q, pr, bd, sc, cl, c, df⟩ := F
  have eb' : bd = lamB lam4 := eb
  have es' : sc = lamS lam4 := es
  have ep' : pr = lamA lam4 := ep
  have ed' : df.isSome = true := ed
  subst eb' es' ep'
  obtain ⟨t, rfl⟩ : ∃ t, df = some t := by cases df with
    | none => cases ed'
    | some t => exact ⟨t, rfl⟩
  refine lok_of (k := 7) (N := ["_law_slots", "_law_given"]) (lscope_by (show lscB ["_law_slots", "_law_given"] (lamS lam4) = true from by decide +kernel)) (lbind1 (x := "_law_c") rfl (fun pm ct u => ⟨_, rfl, rfl⟩) (show (lamS lam4).names.lookup ("_law_c" : Str) = some .local from by decide +kernel)) (fun A outer s H ws Q E hr L hl h => ?_)
  obtain ⟨n, v, j, rfl, h1, h2, hb, k⟩ := h
  refine ⟨_, pe_call G (hr.mono (by decide)) (by rfl) T.g_judge_plan T.F_judge_plan.kp (b_judge_plan T) .nil (L2N.passes_call (L2N.takes_of rfl rfl rfl rfl) (fun _ _ _ _ h => h)) (pa_cons (pv 0) (pa_cons (pv 1) (pa_cons pe_non pa_nil))), ?_⟩
  exact ⟨_, rfl, _, rfl, .int n, v, .non, rfl, .inr ⟨n, j, rfl, h1, h2, hb, k⟩⟩
theorem lok_5 (T : Gx K mg) (HP : ProgOk P T.file) {f : Addr} {F : LF} (eb : F.body = lamB lam5) (es : F.scope = lamS lam5) (ep : F.params = lamA lam5) (ed : F.df.isSome = !(lamA lam5).defaults.isEmpty) : LOk P w K mg base (L2N.CX P w) 8 f F ["_law_slots", "_law_blocks", "_law_given"] (lpJ T) := by
  have G := ok_judgeP (w := w) (base := base) HP T rfl
  obtain ⟨q, pr, bd, sc, cl, c, df⟩ := F
  have eb' : bd = lamB lam5 := eb
  have es' : sc = lamS lam5 := es
  have ep' : pr = lamA lam5 := ep
  have ed' : df.isSome = false := ed
  subst eb' es' ep'
  obtain rfl : df = none := by cases df with
    | none => rfl
    | some t => cases ed'
  refine lok_of (k := 7) (N := ["_law_slots", "_law_blocks", "_law_given"]) (lscope_by (show lscB ["_law_slots", "_law_blocks", "_law_given"] (lamS lam5) = true from by decide +kernel)) (lbind0 fun pm ct => rfl) (fun A outer s H ws Q E hr L hl h => ?_)
  obtain ⟨n, b, xs, v, j, rfl, h1, h2, hb, hg, hbad, k⟩ := h
  refine ⟨_, pe_call G (hr.mono (by decide)) (by rfl) T.g_judge_plan T.F_judge_plan.kp (b_judge_plan T) .nil (L2N.passes_call (L2N.takes_of rfl rfl rfl rfl) (fun _ _ _ _ h => h)) (pa_cons (pv 0) (pa_cons (pv 1) (pa_cons (pv 2) pa_nil))), ?_⟩
  exact ⟨_, rfl, _, rfl, _, rfl, n, b, xs, v, j, rfl, h1, h2, hb, hg, hbad, k⟩
end
/-! ### calls told one after another: what their cells hold lies still -/
section
open PySem.Spec PySem.Calls PySem.W PyProof.Rows LamX NdefX
section
variable {P : Program} {w : World} {K : Frag} {mg : Str → Option Value} {base : Heap}
theorem op_neDK {X : Cx} (e : X.K = K) (hu : X.A.units + 64 < cLine) : OpR X (compareOp .NotEq) (rNeD K) := by
  subst e
  exact op_neD hu
/-- a def whose body may take all that is untracked for fixed -/
theorem FunOkB {CX : CXT} {x qual : Str} {st : Stmt} {f : Addr} {fd : FuncData} {N ps : List Str} {k : Nat} {sp : SpS} (F : L2.Fun K x qual st f fd) (hb : Binds K fd ps []) (S : FnScope N ps (defScope st)) (len : ∀ vs o s H Q E, sp vs o s H Q E → vs.length = ps.length)
    (hbody : ∀ (b2 : Heap) (cdv : Value) (A : Around) (outer : List Env) (s : Shared) (H : Hp) (vs : List V) (Q : VK) (E : XK), (∀ b o, s.heap.get? b = some o → H b = none → b ∉ frs outer → b2.get? b = some o) → Room k (A.deeper (envOfC qual (defScope st) s.heap.objs.size f cdv)) → sp vs outer s H Q E →
      ∃ t, PSs (cxOf CX P w K mg b2 N qual (defScope st) f cdv A outer s H E) (defBody st) t ∧ t { nx := fun _ H' => Q .non H', rt := Q } (L2.start N vs) H) : FnS P w K mg base CX (k + 1) f ps sp := by
  obtain ⟨oc, od, kV, doc, pm, an, cdv, ct, osl, rfl, lk, hcd⟩ := F.ex
  refine ⟨len, fun A outer s H us vs Q E hr e0 r hsp => ?_⟩
  have hl := len _ _ _ _ _ _ hsp
  have KX : K.In s.heap := e0.mod.kin.keeps fun b o z => (e0.bs b o z).1
  have b2 := hb s us KX (by rw [List.append_nil, ← hl]; exact r.length.symm)
  rw [List.append_nil] at b2
  have up : ∀ b o, s.heap.get? b = some o → H b = none → b ∉ frs outer → (hideAll (hidT s.heap H) (frs outer)).get? b = some o := fun b o e n hf => hideAll_get _ (hidT_get e n) hf
  have kb : ∀ b o, base.get? b = some o → (hideAll (hidT s.heap H) (frs outer)).get? b = some o := fun b o e => by
    refine up b o (e0.bs b o e).1 (e0.bs b o e).2 fun hm => ?_
    have z := (e0.funs.mem hm).1
    rw [e] at z
    cases z
  have e1 : Env0 P w K mg (hideAll (hidT s.heap H) (frs outer)) A outer s H := by
    refine ⟨e0.frames, ⟨e0.mod.kin.keeps kb, e0.mod.glob.keeps kb, ?_, e0.mod.nolimit.keeps kb⟩, fun b o e => of_hidT (of_hideAll _ e), ?_, funFrames_none e0.funs (fun L hL => hideAll_none _ hL), e0.frf, e0.hok, e0.bare⟩
    · obtain ⟨mb, h1, h2⟩ := e0.mod.blt
      exact ⟨mb, h1.keeps kb, h2⟩
    · rw [hideAll_size, hidT_size]
      exact Nat.le_refl _
  exact run_ofS (us := us) (vs := vs) lk hcd S hr e1 b2 r hl fun hr' => hbody _ cdv A outer s H vs Q E up hr' hsp
end
/-- the lambda's cells lie in the base -/
structure BAct (base : Heap) (F : LF) (fr : List Str) (ws : List (Option V)) : Prop where
  len : ws.length = fr.length
  all : ∀ y c, F.cl.lookup y = some c → ∃ v, base.IsCell c v
  inj : ∀ x y c, F.cl.lookup x = some c → F.cl.lookup y = some c → x = y
  has : ∀ (i : Nat) (y : Str), fr[i]? = some y → ∃ c, F.cl.lookup y = some c ∧ ∀ v, ws[i]? = some (some v) → ∃ u, L2.RelV v u ∧ base.IsCell c (some u)
theorem Act.based {f : Addr} {F : LF} {fr : List Str} {ws : List (Option V)} {fs : List Addr} {s : Shared} {H : Hp} {base : Heap} (a : Act f F fr ws fs s H) (h : ∀ b o, s.heap.get? b = some o → H b = none → b ∉ fs → base.get? b = some o) : BAct base F fr ws := by
  have up : ∀ {y c v}, F.cl.lookup y = some c → s.heap.IsCell c v → base.IsCell c v := fun {y c v} e hc => by
    obtain ⟨o, ho, hd⟩ := hc
    exact ⟨o, h c o ho (a.cells.all y c e).1 (a.nf y c e), hd⟩
  refine ⟨a.cells.len, fun y c e => ?_, a.cells.inj, fun i y e => ?_⟩
  · obtain ⟨_, v, hc⟩ := a.cells.all y c e
    exact ⟨v, up e hc⟩
  · obtain ⟨c, hc, hv⟩ := a.cells.has i y e
    refine ⟨c, hc, fun v ev => ?_⟩
    obtain ⟨u, ru, hu⟩ := hv v ev
    exact ⟨u, ru, up hc hu⟩
theorem BAct.act {Y : Cx} {pins : List (Addr × Obj)} {σ : L2.St} {H : Hp} {s : Shared} {f : Addr} {F : LF} {fr : List Str} {ws : List (Option V)} (a : BAct Y.base F fr ws) (I : Inv Y pins σ H s) (L : Lv f F H) : Act f F fr ws (frs Y.stack) s H := by
  have dn : ∀ {c v}, Y.base.IsCell c v → s.heap.IsCell c v ∧ H c = none := fun {c v} hc => by
    obtain ⟨o, ho, hd⟩ := hc
    exact ⟨⟨o, (I.bs c o ho).1, hd⟩, (I.bs c o ho).2⟩
  refine ⟨L, ⟨a.len, fun y c e => ?_, a.inj, fun i y e => ?_⟩, fun y c e hm => ?_⟩
  · obtain ⟨v, hc⟩ := a.all y c e
    exact ⟨(dn hc).2, v, (dn hc).1⟩
  · obtain ⟨c, hc, hv⟩ := a.has i y e
    refine ⟨c, hc, fun v ev => ?_⟩
    obtain ⟨u, ru, hu⟩ := hv v ev
    exact ⟨u, ru, (dn hu).1⟩
  · obtain ⟨v, o, ho, hd⟩ := a.all y c e
    rcases List.mem_cons.mp (I.stkSub c hm) with z | z
    · have h1 := Heap.lt_size ho
      have h2 := I.ok.bsz
      have h3 := I.ok.above
      rw [z] at h1
      exact absurd (Nat.lt_of_lt_of_le h1 (Nat.le_trans h2 h3)) (Nat.lt_irrefl _)
    · have z2 := (I.ok.funs.mem z).1
      rw [ho] at z2
      cases z2
theorem Lv.fr {f : Addr} {F : LF} {H H' : Hp} (L : Lv f F H) (e : Fr [] H H') : Lv f F H' := L.keep fun b o h _ _ _ => e b o h (by simp)
section
variable {P : Program} {w : World} {K : Frag} {mg : Str → Option Value} {base : Heap}
/-- error_of(c), c a name that holds a lambda -/
theorem pe_errB {Y : Cx} {i : Nat} {a : Str} {p p1 pos : Pos} (T : Gx K mg) (eP : Y.prog = P) (ew : Y.w = w) (eK : Y.K = K) (em : Y.mg = mg) (eb : Y.base = base) (hr : Room 10 Y.A) (hg : Gl Y "_law_error_of") (hN : Y.N[i]? = some a) (hv : Vis Y.env.scope a) (hd : (a == ("__debug__" : Str)) = false := by decide) (hcd : (a == ("__classdict__" : Str)) = false := by decide)
    (he : starEach [.Name a p1] Y.env = (false, eval (.Name a p1) Y.env) :: starEach [] Y.env := by rfl) (hpl : (backTo pos (starEach [] Y.env)).any (·.1) = false := by rfl) :
    PE Y (.Call (.Name "_law_error_of" p) [.Name a p1] [] pos) (fun σ H Q => ∃ (f : Addr) (F : LF) (fr : List Str) (ws : List (Option V)) (lp : List (Option V) → Hp → VK → XK → Prop), σ[i]? = some (some (.ref f)) ∧ LOk P w K mg base (L2N.CX P w) 8 f F fr lp ∧ BAct base F fr ws ∧ Lv f F H ∧
      ∀ (Q' : VK) (E' : XK), (∀ v H', Q .non H' → Q' v H') → (∀ cls d H', ErrEnd T cls d H' Q → E' cls d H') → lp ws H Q' E') := by
  subst eP ew eK em eb
  refine ⟨fun pins s σ H Q I h => ?_⟩
  obtain ⟨f, F, fr, ws, lp, h1, L, b, lv, hl⟩ := h
  refine (pe_callS (ok_errorOf (w := Y.w) (base := Y.base) T) hr hg T.g__law_error_of T.F__law_error_of.kp (C8.pass0 (E := C8.E0)) (pa_cons (pe_var (i := i) hN hv hd hcd) pa_nil) rfl he hpl).run pins s σ H Q I ?_
  exact ⟨_, h1, fun pins1 s1 I1 => ⟨f, F, fr, ws, lp, rfl, L, b.act I1 lv, hl⟩⟩
end
/-- such an end is told so -/
def Tells {K : Frag} {mg : Str → Option Value} (T : Gx K mg) (cls : Value) (d : Option Addr) (H : Hp) (xs : List V) : Prop := ∀ Q : VK, (∀ (t : Addr) (H4 : Hp), H t = none → Fr [] H H4 → H4 t = some (.tup xs) → Q (.ref t) H4) → ErrEnd T cls d H Q
/-- a lambda that always ends by an error that is told so -/
def OkG {K : Frag} {mg : Str → Option Value} (P : Program) (w : World) (T : Gx K mg) (outer : List Env) (s : Shared) (H : Hp) (f : Addr) (nm : Str) (j : Int) : Prop := ∃ (F : LF) (fr : List Str) (ws : List (Option V)) (lp : List (Option V) → Hp → VK → XK → Prop), (∀ base, LOk P w K mg base (L2N.CX P w) 8 f F fr lp) ∧ Act f F fr ws (frs outer) s H ∧
  ∀ H', Fr [] H H' → ∀ (Q' : VK) (E' : XK), (∀ cls d H'', Fr [] H' H'' → Tells T cls d H'' [.str nm, .int j] → E' cls d H'') → lp ws H' Q' E'
def spAll {K : Frag} {mg : Str → Option Value} (P : Program) (w : World) (T : Gx K mg) : SpS := fun vs outer s H Q _ => ∃ (l e : Addr) (fs : List Addr) (nm : Str) (j : Int), vs = [.ref l, .ref e] ∧ H l = some (.lst (fs.map V.ref)) ∧ fs.length ≤ 100 ∧ H e = some (.tup [.str nm, .int j]) ∧ PyData.strOk nm = true ∧ (∀ f ∈ fs, OkG P w T outer s H f nm j) ∧ ∀ H', Fr [] H H' → Q (.bl true) H'
theorem shaped_si {x : Str} {i : Int} (h : PyData.strOk x = true) : SeqAt.shaped (.tuple [.str x, .int i]) = true := by
  unfold SeqAt.shaped
  simp [PyData.canLay0, PyData.canLayAll0, h, PyData.depth, PyData.depthAll]
theorem eqv_si (x : Str) (i : Int) : PyData.eqv (.tuple [.str x, .int i]) (.tuple [.str x, .int i]) = true := by
  simp [PyData.eqv, PyData.eqvAll]
section
variable {P : Program} {w : World} {K : Frag} {mg : Str → Option Value} {base : Heap}
theorem ok_all (T : Gx K mg) : FnS P w K mg base C8.CX0 12 T.f__law_all_raise ["_law_calls", "_law_expected"] (spAll P w T) := by
  refine FunOkB T.F__law_all_raise (b__law_all_raise T) sc__law_all_raise (fun vs o s H Q E h => by obtain ⟨l, e, fs, nm, j, rfl, _⟩ := h; rfl) (fun b2 cdv A outer s H vs Q E hb hr h => ?_)
  obtain ⟨l, e, fs, nm, j, rfl, hl, hz, he, hnm, hf, k⟩ := h
  refine ⟨_, (pss_one (ps_ret (pe_cmpR (op_eqD hr.units) (pe_lc (own := [("_law_call", 2)]) (g := gName 2) rfl sc__law_all_raise.nd (pi_list (pv 0)) (blkOk_by (N := ["_law_calls", "_law_expected", "_law_call"]) (sc := defScope s__law_all_raise) (by decide +kernel)) (fun _ _ _ _ _ => pg_name (i := 2) sc__law_all_raise.nd rfl (.inl rfl)) (fun _ _ _ _ _ => (pts_one (pt_cmpR (op_neDK (K := K) rfl hr.units) (pe_errB (i := 2) (P := P) (w := w) (base := b2) T rfl rfl rfl rfl rfl (hr.mono (by decide)) (by rfl) rfl (by first | exact Or.inl rfl | exact Or.inr (Or.inl rfl) | exact Or.inr (Or.inr rfl))) (pv 1) (nomark _)))) (fun _ _ _ _ _ => (pv 2))) (pe_lst pa_nil) (nomark _)))), ?_⟩
  refine ⟨_, rfl, l, rfl, ⟨_, SqL.of hl⟩, fun D hD => ?_⟩
  refine lc_list (K := K) (a := l) (xs := fs.map V.ref) (fun i H2 => Fr [] (upd H D (.lst [])) H2) (Fr.refl _ _) ?_ ?_ ?_
  · intro i H2 _ f2
    exact SqL.of (f2 _ _ (Fr.new (S := []) hD _ _ hl (by simp)) (by simp))
  · intro i x H2 hi f2
    obtain ⟨f, rfl, hfi⟩ : ∃ f, x = .ref f ∧ f ∈ fs := by
      rw [List.getElem?_map] at hi
      cases e1 : fs[i]? with
      | none => rw [e1] at hi; cases hi
      | some u =>
        rw [e1] at hi
        exact ⟨u, (Option.some.inj hi).symm, List.mem_of_getElem? e1⟩
    have f0 : Fr [] H H2 := (Fr.new hD).trans f2
    obtain ⟨F, fr, ws, lp, L, act, hlp⟩ := hf f hfi
    refine ⟨rfl, f, F, fr, ws, lp, rfl, L b2, act.based hb, act.lv.fr f0, fun Q' E' hq hx => hlp H2 f0 Q' E' fun cls d H3 f3 tl => hx _ _ _ (tl _ fun t H4 ht f4 et => ?_)⟩
    have f5 : Fr [] H H4 := (f0.trans f3).trans f4
    refine ⟨_, rfl, .tuple [.str nm, .int j], .tuple [.str nm, .int j], .tup (SqT.of et) (.cons (.str _) (.cons (.int _) .nil)), .tup (SqT.of (f5 _ _ he (by simp))) (.cons (.str _) (.cons (.int _) .nil)), shaped_si hnm, shaped_si hnm, _, rfl, ?_⟩
    refine iteFb (by rw [eqv_si]; rfl) ?_
    exact (f2.trans f3).trans f4
  · intro H2 f2
    have eD : H2 D = some (.lst []) := f2 _ _ upd_same (by simp)
    refine ⟨sz_le (by simp), fun g hg => ?_⟩
    have eq : PyData.eqv (.list []) (.list []) = true := by decide +kernel
    refine ⟨.list [], .list [], .lst (SqL.of (Fr.new (S := []) hg _ _ eD (by simp))) .nil, .lst (SqL.of upd_same) .nil, by decide +kernel, by decide +kernel, ?_⟩
    rw [eq]
    exact k _ (((Fr.new hD).trans f2).trans (Fr.new hg))
end
end
/-! ### what goes along: the drawings, the tables -/
section
open LamX NdefX
def nmL : Nat → Nat → Str := fun _ _ => (PyProof.Rows.envOfC "law" (defScope s_law) 0 0 .none).qual ++ "<lambda>"
def nmR : Nat → Nat → Str := fun _ _ => (PyProof.Rows.envOfC "_law_are_refused" (defScope s__law_are_refused) 0 0 .none).qual ++ "<lambda>"
def tabs (P P2 : Addr) : List (Addr × (Nat → Nat → Str)) := [(P, nmL), (P2, nmR)]
theorem hmL (P P2 : Addr) : (P, nmL) ∈ tabs P P2 := List.mem_cons_self
theorem hmR (P P2 : Addr) : (P2, nmR) ∈ tabs P P2 := List.mem_cons_of_mem _ (List.mem_singleton.mpr rfl)
theorem huL {P P2 : Addr} (np : P ≠ P2) : ∀ p ∈ tabs P P2, p.1 = P → p.2 = nmL := fun p hp e => by
  rcases List.mem_cons.mp hp with h | h
  · rw [h]
  · rw [List.mem_singleton.mp h] at e
    exact absurd e.symm np
theorem huR {P P2 : Addr} (np : P ≠ P2) : ∀ p ∈ tabs P P2, p.1 = P2 → p.2 = nmR := fun p hp e => by
  rcases List.mem_cons.mp hp with h | h
  · rw [h] at e
    exact absurd e np
  · rw [List.mem_singleton.mp h]
theorem cap1 : ∀ y ∈ (lamS lam1).names, y.2 = .free → (defScope s__law_are_refused).names.lookup y.1 = some .cell ∨ (defScope s__law_are_refused).names.lookup y.1 = some .free := by decide +kernel
theorem cap2 : ∀ y ∈ (lamS lam2).names, y.2 = .free → (defScope s__law_are_refused).names.lookup y.1 = some .cell ∨ (defScope s__law_are_refused).names.lookup y.1 = some .free := by decide +kernel
theorem cap3 : ∀ y ∈ (lamS lam3).names, y.2 = .free → (defScope s__law_are_refused).names.lookup y.1 = some .cell ∨ (defScope s__law_are_refused).names.lookup y.1 = some .free := by decide +kernel
theorem cap4 : ∀ y ∈ (lamS lam4).names, y.2 = .free → (defScope s__law_are_refused).names.lookup y.1 = some .cell ∨ (defScope s__law_are_refused).names.lookup y.1 = some .free := by decide +kernel
theorem cap5 : ∀ y ∈ (lamS lam5).names, y.2 = .free → (defScope s_law).names.lookup y.1 = some .cell ∨ (defScope s_law).names.lookup y.1 = some .free := by decide +kernel
theorem free1 : ∀ y ∈ (["_law_size"] : List Str), (y, NameKind.free) ∈ (lamS lam1).names := by decide +kernel
theorem free2 : ∀ y ∈ (["_law_size"] : List Str), (y, NameKind.free) ∈ (lamS lam2).names := by decide +kernel
theorem free3 : ∀ y ∈ (["_law_slots", "_law_given"] : List Str), (y, NameKind.free) ∈ (lamS lam3).names := by decide +kernel
theorem free4 : ∀ y ∈ (["_law_slots", "_law_given"] : List Str), (y, NameKind.free) ∈ (lamS lam4).names := by decide +kernel
theorem free5 : ∀ y ∈ (["_law_slots", "_law_blocks", "_law_given"] : List Str), (y, NameKind.free) ∈ (lamS lam5).names := by decide +kernel
structure Wd (P P2 r : Addr) (H : Hp) : Prop where
  rnd : Rnd H r
  tab : TabsN (tabs P P2) H
theorem tabN_lst {H H' : Hp} {P r : Addr} {nm : Nat → Nat → Str} (t : TabN H P nm) (f : Fr [r] H H') (hr : ∃ xs, H r = some (.lst xs)) : TabN H' P nm := by
  obtain ⟨ps, h1, h2, h3⟩ := t
  obtain ⟨xs, e⟩ := hr
  refine ⟨ps, f _ _ h1 (fun z => ?_), h2, fun pos cv hc => ?_⟩
  · rw [List.mem_singleton.mp z, e] at h1
    cases h1
  · obtain ⟨c, e1, e2⟩ := h3 pos cv hc
    refine ⟨c, e1, f _ _ e2 (fun z => ?_)⟩
    rw [List.mem_singleton.mp z, e] at e2
    unfold CodeO at e2
    cases e2
variable {P P2 r : Addr} {H H' : Hp}
theorem Wd.keep0 (h : Wd P P2 r H) (f : Fr [] H H') : Wd P P2 r H' := ⟨h.rnd.keep f (by simp), h.tab.ext fun b o e => f b o e (by simp)⟩
theorem Wd.draw (h : Wd P P2 r H) (f : Fr [r] H H') (R : Rnd H' r) : Wd P P2 r H' := ⟨R, fun p hp => tabN_lst (h.tab p hp) f (by
  obtain ⟨a, b, ns, e⟩ := h.rnd
  exact ⟨_, e⟩)⟩
theorem Wd.new {p : Addr} {o : HO} (h : Wd P P2 r H) (n : H p = none) : Wd P P2 r (upd H p o) := h.keep0 (Fr.new n)
theorem Wd.out {p : Addr} (h : Wd P P2 r H) (n : H p = none) : p ≠ r := fun e => by
  obtain ⟨a, b, ns, e2⟩ := h.rnd
  rw [e, e2] at n
  cases n
theorem Wd.lam (h : Wd P P2 r H) (f : ExtN H H') (t : TabsN (tabs P P2) H') : Wd P P2 r H' := ⟨by
  obtain ⟨a, b, ns, e⟩ := h.rnd
  exact ⟨a, b, ns, f _ _ e (fun _ z => by cases z)⟩, t⟩
theorem Wd.put {D : Addr} {xs : List V} {o : HO} (h : Wd P P2 r H) (e : H D = some (.lst xs)) (n : D ≠ r) : Wd P P2 r (upd H D o) :=
  ⟨h.rnd.keep (Fr.put (S := [D]) (List.mem_singleton.mpr rfl)) (by simpa using n.symm), fun p hp => tabN_lst (h.tab p hp) (Fr.put (List.mem_singleton.mpr rfl)) ⟨_, e⟩⟩
theorem NoNum.keepN {lo hi : Int} {v : V} (h : NoNum H lo hi v) (f : ExtN H H') : NoNum H' lo hi v := h.ext fun b xs e => f _ _ e (fun _ z => by cases z)
theorem BadR.keepN {v : V} {j : Nat} (h : BadR H v j) (f : ExtN H H') : BadR H' v j := h.ext (fun b xs e => f _ _ e (fun _ z => by cases z)) fun b xs _ e => f _ _ e (fun _ z => by cases z)
theorem BadR.keep0 {v : V} {j : Nat} (h : BadR H v j) (f : Fr [] H H') : BadR H' v j := h.ext (fun b xs e => f _ _ e (by simp)) fun b xs _ e => f _ _ e (by simp)
theorem BadPl.keepN {s : Int} {xs : List Int} {v : V} {j : Nat} (h : BadPl H s xs v j) (f : ExtN H H') : BadPl H' s xs v j := h.ext (fun b xs e => f _ _ e (fun _ z => by cases z)) fun b xs _ e => f _ _ e (fun _ z => by cases z)
theorem BadPl.keep0 {s : Int} {xs : List Int} {v : V} {j : Nat} (h : BadPl H s xs v j) (f : Fr [] H H') : BadPl H' s xs v j := h.ext (fun b xs e => f _ _ e (by simp)) fun b xs _ e => f _ _ e (by simp)
end
theorem rnd_tup {r : Addr} {H H' : Hp} (h : Rnd H r) (f : Fr [r] H H') {t : Addr} {xs : List V} (e : H t = some (.tup xs)) : H' t = some (.tup xs) := f _ _ e fun z => h.notup _ z _ e
theorem cut_to {xs : List V} {i : Nat} (h : i ≤ xs.length) : cutV xs none (some (i : Int)) = xs.take i := by
  unfold cutV
  rw [HT.sIx_none, HT.sIx_nat, Nat.min_eq_left h]
  simp
theorem cut_from {xs : List V} {i : Nat} (h : i ≤ xs.length) : cutV xs (some (i : Int)) none = xs.drop i := by
  unfold cutV
  rw [HT.sIx_none, HT.sIx_nat, Nat.min_eq_left h]
  exact List.take_of_length_le (by simp)
theorem size_at {far : Nat} {H : Hp} {z : Nat} (hz : z < 6) : ∃ v, atI ([.int (9 + (far : Int)), .int 0, .int (0 - 1 - (far : Int)), .non, .bl true, .str "1"] : List V) (z : Int) = some v ∧ NoNum H 1 8 v := by
  match z, hz with
  | 0, _ => exact ⟨_, atI_nat (j := 0) rfl, .inl ⟨_, rfl, by rw [Bool.and_eq_false_iff]; exact .inr (decide_eq_false (by omega))⟩⟩
  | 1, _ => exact ⟨_, atI_nat (j := 1) rfl, .inl ⟨_, rfl, by decide⟩⟩
  | 2, _ => exact ⟨_, atI_nat (j := 2) rfl, .inl ⟨_, rfl, by rw [Bool.and_eq_false_iff]; exact .inl (decide_eq_false (by omega))⟩⟩
  | 3, _ => exact ⟨_, atI_nat (j := 3) rfl, .inr (.inl rfl)⟩
  | 4, _ => exact ⟨_, atI_nat (j := 4) rfl, .inr (.inr (.inl ⟨_, rfl⟩))⟩
  | 5, _ => exact ⟨_, atI_nat (j := 5) rfl, .inr (.inr (.inr (.inl ⟨_, rfl⟩)))⟩
theorem odd_at60 {far : Nat} {H : Hp} {q : Addr} {z : Nat} (hq : H q = some (.tup [.int 0])) (hz : z < 7) : ∃ v, atI ([.int 16, .int (16 + (far : Int)), .int (0 - 1), .non, .bl true, .str "1", .ref q] : List V) (z : Int) = some v ∧ NoNum H 0 15 v := by
  match z, hz with
  | 0, _ => exact ⟨_, atI_nat (j := 0) rfl, .inl ⟨_, rfl, by decide⟩⟩
  | 1, _ => exact ⟨_, atI_nat (j := 1) rfl, .inl ⟨_, rfl, by rw [Bool.and_eq_false_iff]; exact .inr (decide_eq_false (by omega))⟩⟩
  | 2, _ => exact ⟨_, atI_nat (j := 2) rfl, .inl ⟨_, rfl, by decide⟩⟩
  | 3, _ => exact ⟨_, atI_nat (j := 3) rfl, .inr (.inl rfl)⟩
  | 4, _ => exact ⟨_, atI_nat (j := 4) rfl, .inr (.inr (.inl ⟨_, rfl⟩))⟩
  | 5, _ => exact ⟨_, atI_nat (j := 5) rfl, .inr (.inr (.inr (.inl ⟨_, rfl⟩)))⟩
  | 6, _ => exact ⟨_, atI_nat (j := 6) rfl, .inr (.inr (.inr (.inr ⟨q, _, rfl, hq⟩)))⟩
/-! ### no reads at all -/
def spFew0 : Sp := fun vs H Q _ => ∃ (s : Int) (b : Addr), vs = [.int s, .ref b] ∧ 1 ≤ s ∧ s ≤ 8 ∧ H b = some (.lst []) ∧ ∀ (t p : Addr) (H' : Hp), Fr [] H H' → H' t = some (.tup [.int 0, .ref p]) → H' p = some (.lst []) → Q (.ref t) H'
section
variable {P : Program} {w : World} {K : PySem.W.Frag} {mg : Str → Option Value} {base : Heap}
theorem ok_few0 (T : Gx K mg) : FnOk P w K mg base CX0 6 T.f_fewest_misses T.fd_fewest_misses ["slots", "blocks"] spFew0 := by
  have G__check_reads : FnOk P w K mg base CX0 4 T.f__check_reads T.fd__check_reads ["slots", "blocks"] spReads := ok_reads T
  have G_judge_plan : FnOk P w K mg base CX0 5 T.f_judge_plan T.fd_judge_plan ["slots", "blocks", "plan"] spJudge := ok_judge T
  refine T.F_fewest_misses.ok sc_fewest_misses (fun vs H Q E h => ?_) (fun cdv A outer s H vs Q E hr h => ?_)
  · obtain ⟨s, b, rfl, _⟩ := h
    rfl
  · obtain ⟨n, b, rfl, h1, h2, hb, k⟩ := h
    refine ⟨_, (pss_cons (ps_expr (pe_call G__check_reads (hr.mono (by first | decide | omega)) (by rfl) T.g__check_reads T.F__check_reads.kp (b__check_reads T) .nil pass0 (pa_cons (pv 0) (pa_cons (pv 1) pa_nil))))
      (pss_cons (ps_set (i := 2) sc_fewest_misses.nd rfl (.inl rfl) (pe_lst pa_nil))
      (pss_cons (ps_set (i := 3) sc_fewest_misses.nd rfl (.inl rfl) (pe_lst pa_nil))
      (pss_cons (ps_for PassesOwn.never rfl (pi_enum (by rfl) T.z_enumerate (pa_cons (pv 1) pa_nil)) (pg_tup (by rfl) (pgs_cons (pg_name (i := 4) sc_fewest_misses.nd rfl (.inl rfl)) (pgs_cons (pg_name (i := 5) sc_fewest_misses.nd rfl (.inl rfl)) pgs_nil))) pss_never)
      (pss_one (ps_ret (pe_tup (pa_cons (pe_call G_judge_plan (hr.mono (by first | decide | omega)) (by rfl) T.g_judge_plan T.F_judge_plan.kp (b_judge_plan T) .nil pass0 (pa_cons (pv 0) (pa_cons (pv 1) (pa_cons (pv 3) pa_nil)))) (pa_cons (pv 3) pa_nil))))))))), ?_⟩
    have hg : GoodR [] := ⟨by decide, fun x hx => by cases hx⟩
    refine ⟨_, rfl, _, rfl, n, b, [], rfl, h1, h2, hb, hg, fun H1 f1 => ?_⟩
    refine ⟨sz_le (by simp), fun kk hkk => ⟨sz_le (by simp), fun pl hpl => ?_⟩⟩
    have f2 := (f1.trans (Fr.new (o := .lst []) hkk)).trans (Fr.new (o := .lst []) hpl)
    refine ⟨_, rfl, b, _, rfl, SqL.of (f2 _ _ hb (by simp)), for_enumL (K := K) (a := b) (xs := []) (fun i σ H' => Fr [] H H' ∧ H' pl = some (.lst []) ∧ σ = [some (.int n), some (.ref b), some (.ref kk), some (.ref pl), none, none, none]) ⟨f2, upd_same, rfl⟩ (fun i σ H' _ h => SqL.of (h.1 _ _ hb (by simp))) ?_ ?_⟩
    · rintro i x σ H2 U hx _ _
      simp at hx
    · rintro σ H2 ⟨f3, e3, rfl⟩
      refine ⟨_, rfl, _, rfl, _, rfl, n, b, pl, [], rfl, h1, h2, f3 _ _ hb (by simp), e3, hg, fun i q e => by simp at e, fun H3 f4 => ?_⟩
      refine ⟨_, rfl, sz_le (by simp), fun t ht => k t pl _ ((f3.trans f4).trans (Fr.new ht)) upd_same ((upd_ne (ne_of_none (f4 _ _ e3 (by simp)) ht)).trans (f4 _ _ e3 (by simp)))⟩
end
/-! ### what is refused -/
def spRefused (P1 Pt : Addr) : Sp := fun vs H Q _ => ∃ r : Addr, vs = [.ref r] ∧ Wd P1 Pt r H ∧ ∀ H', Wd P1 Pt r H' → Q (.bl true) H'
theorem sl_list_to {H : Hp} {a : Addr} {xs : List V} {i : Nat} (_ : H a = some (.lst xs)) (h : i ≤ xs.length) : cutV xs none (some (i : Int)) = xs.take i := cut_to h
section
open LamX NdefX
variable {P : Program} {w : World} {K : PySem.W.Frag} {mg : Str → Option Value} {base : Heap}
theorem ok_refused {oc : Value} {od an : Option Addr} {kV dc pm ct : Value} {osl : Array (Option Value)} {f cd P1 Pt : Addr} (T : Gx K mg) (HP : ProgOk P T.file) (lk : K.lookup f = some ⟨oc, od, .func (PySem.W.fnOf "_law_are_refused" "_law_are_refused" (defArgs s__law_are_refused) (defBody s__law_are_refused) (defScope s__law_are_refused) .none kV dc pm an (.ref cd) ct), osl⟩)
    (hcd : PySem.W.codeIn K (.ref cd) "_law_are_refused" = true) (TB : TabB base mg cd Pt) (np : P1 ≠ Pt) : FnOk P w K mg base C8.CX0 14 f (PySem.W.fnOf "_law_are_refused" "_law_are_refused" (defArgs s__law_are_refused) (defBody s__law_are_refused) (defScope s__law_are_refused) .none kV dc pm an (.ref cd) ct) ["_law_d"] (spRefused P1 Pt) := by
  have G__law_below : FnOk P w K mg base CX0 1 T.f__law_below T.fd__law_below ["_law_d", "_law_limit"] spBelow := ok_below T
  have G_fewest_misses : FnOk P w K mg base CX0 6 T.f_fewest_misses T.fd_fewest_misses ["slots", "blocks"] spFew0 := ok_few0 T
  have GA : FnS P w K mg base C8.CX0 12 T.f__law_all_raise ["_law_calls", "_law_expected"] (spAll P w T) := ok_all T
  refine fn_of lk hcd sc__law_are_refused (fun vs H Q E h => ?_) (fun A outer s H vs Q E hr h => ?_)
  · obtain ⟨r, rfl, _⟩ := h
    rfl
  · obtain ⟨r, rfl, W0, k⟩ := h
    refine ⟨_, (C8.pss_cut (ps_asg (pe_tup (pa_cons (pe_op op_mul (pe_call G__law_below (hr.mono (by first | decide | omega)) (by rfl) T.g__law_below T.F__law_below.kp (b__law_below T) .nil pass0 (pa_cons (pv 0) (pa_cons pe_int pa_nil))) (pe_call G__law_below (hr.mono (by first | decide | omega)) (by rfl) T.g__law_below T.F__law_below.kp (b__law_below T) .nil pass0 (pa_cons (pv 0) (pa_cons pe_int pa_nil)))) (pa_cons (pe_op op_add pe_int (pe_call G__law_below (hr.mono (by first | decide | omega)) (by rfl) T.g__law_below T.F__law_below.kp (b__law_below T) .nil pass0 (pa_cons (pv 0) (pa_cons pe_int pa_nil)))) pa_nil))) (pg_tup (by rfl) (pgs_cons (pg_name (i := 1) sc__law_are_refused.nd rfl (.inl rfl)) (pgs_cons (pg_name (i := 9) sc__law_are_refused.nd rfl (.inr rfl)) pgs_nil))))
      (C8.pss_cut (ps_set (i := 8) sc__law_are_refused.nd rfl (.inr rfl) (pe_ix ix_list (pe_lst (pa_cons (pe_op op_add pe_int (pv 1)) (pa_cons pe_int (pa_cons (pe_op op_sub (pe_op op_sub pe_int pe_int) (pv 1)) (pa_cons pe_non (pa_cons pe_bl (pa_cons pe_str pa_nil))))))) (pe_call G__law_below (hr.mono (by first | decide | omega)) (by rfl) T.g__law_below T.F__law_below.kp (b__law_below T) .nil pass0 (pa_cons (pv 0) (pa_cons pe_int pa_nil))) (fun _ _ => rfl)))
      (C8.pss_cut (ps_set (i := 2) sc__law_are_refused.nd rfl (.inl rfl) (pe_lst (pa_cons (pe_lamV TB rfl (hmR P1 Pt) rfl (huR np) cap1 rfl (.inl ⟨rfl, rfl⟩)) (pa_cons (pe_lamV TB rfl (hmR P1 Pt) rfl (huR np) cap2 rfl (.inr ⟨.Constant (.int 0) 0 _, rfl, rfl, pe_int⟩)) pa_nil))))
      (C8.pss_cut (ps_if (pt_not (pt_val (pe_callS GA (hr.mono (by first | decide | omega)) (by rfl) T.g__law_all_raise T.F__law_all_raise.kp (C8.pass0 (E := C8.E0)) (pa_cons (pv 2) (pa_cons (pe_tup (pa_cons pe_str (pa_cons pe_int pa_nil))) pa_nil))))) (pss_one (ps_ret pe_bl)) pss_nil)
      (C8.pss_cut (ps_setLc (i := 3) (own := [("_law_k", 10)]) (g := gName 10) rfl sc__law_are_refused.nd rfl rfl (sw_true rfl rfl rfl (by decide +kernel)) (pi_range1 (by rfl) T.z_range (pa_cons (pe_call G__law_below (hr.mono (by first | decide | omega)) (by rfl) T.g__law_below T.F__law_below.kp (b__law_below T) .nil pass0 (pa_cons (pv 0) (pa_cons pe_int pa_nil))) pa_nil)) (blkOk_by (N := ["_law_d", "_law_far", "_law_calls", "_law_good", "_law_at", "_law_odd", "_law_index", "_law_given", "_law_size", "_law_slots", "_law_k"]) (sc := defScope s__law_are_refused) (by decide +kernel)) (fun _ _ _ _ _ => pg_name (i := 10) sc__law_are_refused.nd rfl (.inl rfl)) (fun _ _ _ _ _ => pts_nil) (fun _ _ _ _ _ => (pe_call G__law_below (hr.mono (by first | decide | omega)) (by rfl) T.g__law_below T.F__law_below.kp (b__law_below T) .nil pass0 (pa_cons (pv 0) (pa_cons pe_int pa_nil)))))
      (C8.pss_cut (ps_par (i := 4) (j := 5) (by rfl) sc__law_are_refused.nd rfl rfl (by decide) rfl rfl (pa_cons (pe_call G__law_below (hr.mono (by first | decide | omega)) (by rfl) T.g__law_below T.F__law_below.kp (b__law_below T) .nil pass0 (pa_cons (pv 0) (pa_cons (pe_op op_add (pe_callB call_len_seq (by rfl) T.z_len (by decide +kernel) (pa_cons (pv 3) pa_nil)) pe_int) pa_nil))) (pa_cons (pe_ix ix_list (pe_lst (pa_cons pe_int (pa_cons (pe_op op_add pe_int (pv 1)) (pa_cons (pe_op op_sub pe_int pe_int) (pa_cons pe_non (pa_cons pe_bl (pa_cons pe_str (pa_cons (pe_tup (pa_cons pe_int pa_nil)) pa_nil)))))))) (pe_call G__law_below (hr.mono (by first | decide | omega)) (by rfl) T.g__law_below T.F__law_below.kp (b__law_below T) .nil pass0 (pa_cons (pv 0) (pa_cons pe_int pa_nil))) (fun _ _ => rfl)) pa_nil)) (by rfl))
      (C8.pss_cut (ps_asg (pe_tup (pa_cons (pe_op op_cat (pe_op op_cat (pe_slice sl_list (pv 3) po_none (po_some (pv 4))) (pe_lst (pa_cons (pv 5) pa_nil))) (pe_slice sl_list (pv 3) (po_some (pv 4)) po_none)) (pa_cons (pv 4) pa_nil))) (pg_tup (by rfl) (pgs_cons (pg_name (i := 7) sc__law_are_refused.nd rfl (.inr rfl)) (pgs_cons (pg_name (i := 6) sc__law_are_refused.nd rfl (.inl rfl)) pgs_nil))))
      (C8.pss_cut (ps_if (pt_cmpR op_eq (pe_call G__law_below (hr.mono (by first | decide | omega)) (by rfl) T.g__law_below T.F__law_below.kp (b__law_below T) .nil pass0 (pa_cons (pv 0) (pa_cons pe_int pa_nil))) pe_int (nomark _)) (pss_one (ps_asg (pe_tup (pa_cons (pe_op op_rep (pe_lst (pa_cons pe_int pa_nil)) pe_int) (pa_cons pe_int pa_nil))) (pg_tup (by rfl) (pgs_cons (pg_name (i := 7) sc__law_are_refused.nd rfl (.inr rfl)) (pgs_cons (pg_name (i := 6) sc__law_are_refused.nd rfl (.inl rfl)) pgs_nil))))) pss_nil)
      (C8.pss_cut (ps_if (pt_cmpR op_eq (pe_call G__law_below (hr.mono (by first | decide | omega)) (by rfl) T.g__law_below T.F__law_below.kp (b__law_below T) .nil pass0 (pa_cons (pv 0) (pa_cons pe_int pa_nil))) pe_int (nomark _)) (pss_one (ps_asg (pe_tup (pa_cons (pe_ix ix_list (pe_lst (pa_cons pe_non (pa_cons (pe_callTy call_tuple_of (by rfl) T.z_tuple (by decide +kernel) (pa_cons (pv 3) pa_nil)) (pa_cons pe_str (pa_cons pe_int pa_nil))))) (pe_call G__law_below (hr.mono (by first | decide | omega)) (by rfl) T.g__law_below T.F__law_below.kp (b__law_below T) .nil pass0 (pa_cons (pv 0) (pa_cons pe_int pa_nil))) (fun _ _ => rfl)) (pa_cons pe_int pa_nil))) (pg_tup (by rfl) (pgs_cons (pg_name (i := 7) sc__law_are_refused.nd rfl (.inr rfl)) (pgs_cons (pg_name (i := 6) sc__law_are_refused.nd rfl (.inl rfl)) pgs_nil))))) pss_nil)
      (C8.pss_cut (ps_set (i := 2) sc__law_are_refused.nd rfl (.inl rfl) (pe_lst (pa_cons (pe_lamV TB rfl (hmR P1 Pt) rfl (huR np) cap3 rfl (.inr ⟨.Constant (.int 0) 0 _, rfl, rfl, pe_int⟩)) (pa_cons (pe_lamV TB rfl (hmR P1 Pt) rfl (huR np) cap4 rfl (.inr ⟨.Constant (.int 0) 0 _, rfl, rfl, pe_int⟩)) pa_nil))))
      (pss_one (ps_ret (pe_and (pe_callS GA (hr.mono (by first | decide | omega)) (by rfl) T.g__law_all_raise T.F__law_all_raise.kp (C8.pass0 (E := C8.E0)) (pa_cons (pv 2) (pa_cons (pe_tup (pa_cons pe_str (pa_cons (pv 6) pa_nil))) pa_nil))) (pe_one (pe_cmpR (op_eqD hr.units) (pe_call G_fewest_misses (hr.mono (by first | decide | omega)) (by rfl) T.g_fewest_misses T.F_fewest_misses.kp (b_fewest_misses T) .nil pass0 (pa_cons (pv 9) (pa_cons (pe_lst pa_nil) pa_nil))) (pe_tup (pa_cons pe_int (pa_cons (pe_lst pa_nil) pa_nil))) (nomark _)))))))))))))))), ?_⟩
    -- far, slots
    refine ⟨fun σ' H' => ∃ far sl : Nat, σ' = [some (.ref r), some (.int (far : Int)), none, none, none, none, none, none, none, some (.int (1 + (sl : Int))), none] ∧ sl < 8 ∧ Wd P1 Pt r H', ?_, ?_⟩
    · refine ⟨_, rfl, r, 2, rfl, W0.rnd, by decide, by decide, fun x H1 hx f1 R1 => ?_⟩
      have W1 := W0.draw f1 R1
      refine ⟨_, rfl, r, 99, rfl, W1.rnd, by decide, by decide, fun y H2 hy f2 R2 => ?_⟩
      have W2 := W1.draw f2 R2
      refine ⟨_, _, rfl, rfl, .inr ⟨by omega, by omega⟩, ?_⟩
      refine ⟨_, rfl, r, 8, rfl, W2.rnd, by decide, by decide, fun z H3 hz f3 R3 => ?_⟩
      have W3 := W2.draw f3 R3
      refine ⟨_, _, rfl, rfl, sz_le (by simp), fun t ht => ⟨t, _, rfl, SqT.of upd_same, rfl, _, _, rfl, _, _, rfl, rfl, ?_⟩⟩
      exact ⟨x * y, z, rfl, hz, W3.new ht⟩
    clear W0
    rintro _ HA ⟨far, sl, rfl, hsl, WA⟩
    -- size
    refine ⟨fun σ' H' => ∃ v : V, σ' = [some (.ref r), some (.int (far : Int)), none, none, none, none, none, none, some v, some (.int (1 + (sl : Int))), none] ∧ NoNum H' 1 8 v ∧ Wd P1 Pt r H', ?_, ?_⟩
    · refine ⟨_, rfl, _, _, rfl, rfl, _, _, rfl, rfl, _, rfl, _, _, rfl, rfl, sz_le (by simp), fun g hg => ?_⟩
      have W1 := WA.new (o := .lst [.int (9 + (far : Int)), .int 0, .int (0 - 1 - (far : Int)), .non, .bl true, .str "1"]) hg
      refine ⟨_, rfl, r, 6, rfl, W1.rnd, by decide, by decide, fun z H2 hz f2 R2 => ?_⟩
      obtain ⟨v, hv, nn⟩ := size_at (far := far) (H := H2) hz
      refine ⟨g, _, (z : Int), v, rfl, rfl, SqL.of (f2 _ _ upd_same (by simpa using WA.out hg)), hv, ?_⟩
      exact ⟨v, rfl, nn, W1.draw f2 R2⟩
    clear WA
    rintro _ HA ⟨v, rfl, nn, WA⟩
    -- calls
    refine ⟨fun σ' H' => ∃ (lc c1 c2 : Addr), σ' = [some (.ref r), some (.int (far : Int)), some (.ref lc), none, none, none, none, none, some v, some (.int (1 + (sl : Int))), none] ∧ NoNum H' 1 8 v ∧ Wd P1 Pt r H' ∧ H' lc = some (.lst [.ref c1, .ref c2]) ∧
        (∃ F : LF, Lv c1 F H' ∧ F.cl = cloFrom (PyProof.Rows.envOfC "_law_are_refused" (defScope s__law_are_refused) s.heap.objs.size f (.ref cd)).cells (lamS lam1).names [] ∧ ∀ b2, LOk P w K mg b2 (L2N.CX P w) 8 c1 F ["_law_size"] (lpZ T)) ∧
        (∃ F : LF, Lv c2 F H' ∧ F.cl = cloFrom (PyProof.Rows.envOfC "_law_are_refused" (defScope s__law_are_refused) s.heap.objs.size f (.ref cd)).cells (lamS lam2).names [] ∧ ∀ b2, LOk P w K mg b2 (L2N.CX P w) 8 c2 F ["_law_size"] (lpZ T)), ?_, ?_⟩
    · refine ⟨WA.tab, fun c1 F1 H1 q1 q2 q3 q4 q5 q6 eN1 TB1 hf1 L1 => ⟨TB1, fun c2 F2 H2 p1 p2 p3 p4 p5 p6 eN2 TB2 hf2 L2 => ⟨sz_le (by simp), fun lc hlc => ?_⟩⟩⟩
      have fl : Fr [] H2 (upd H2 lc (.lst [.ref c1, .ref c2])) := Fr.new hlc
      exact ⟨lc, c1, c2, rfl, ((nn.keepN eN1).keepN eN2).keep0 fl, ((WA.lam eN1 TB1).lam eN2 TB2).keep0 fl, upd_same,
        ⟨F1, (L1.keep fun b o e _ nt _ => eN2 b o e nt).fr fl, q5, fun b2 => lok_1 T HP q3 q4 q2 q6⟩, ⟨F2, L2.fr fl, p5, fun b2 => lok_2 T HP p3 p4 p2 p6⟩⟩
    clear WA nn
    rintro _ HG ⟨lc, c1, c2, rfl, nn, WG, ec, ⟨F1, L1, k1, o1⟩, ⟨F2, L2, k2, o2⟩⟩
    -- the first question
    refine ⟨fun σ' H' => ∃ v2 : Option V, σ' = [some (.ref r), some (.int (far : Int)), v2, none, none, none, none, none, some v, some (.int (1 + (sl : Int))), none] ∧ Wd P1 Pt r H', ?_, ?_⟩
    · refine ⟨_, rfl, sz_le (by simp), fun e he pins s1 I => ?_⟩
      have fe : Fr [] HG (upd HG e (.tup [.str "size", .int 0])) := Fr.new he
      have lp : ∀ H', Fr [] (upd HG e (.tup [.str "size", .int 0])) H' → ∀ (Q' : VK) (E' : XK), (∀ cls d H'', Fr [] H' H'' → Tells T cls d H'' [.str "size", .int 0] → E' cls d H'') → lpZ T [some v] H' Q' E' := fun H' f' Q' E' hE =>
        ⟨v, rfl, (nn.keep0 fe).keep0 f', fun H'' f'' => hE _ _ _ f'' fun Q k => .inl ⟨rfl, ⟨[], rfl⟩, k⟩⟩
      refine ⟨lc, e, [c1, c2], "size", 0, rfl, fe _ _ ec (by simp), by simp, upd_same, by decide +kernel, fun c hcm => ?_, fun H' f' => ?_⟩
      · rcases List.mem_cons.mp hcm with rfl | hcm
        · exact ⟨F1, ["_law_size"], [some v], lpZ T, o1, Act.made (js := [8]) (fun _ => rfl) I (L1.fr fe) (by rw [k1]; exact Caps.made I.ok cap1 free1 rfl), lp⟩
        · rw [List.mem_singleton.mp hcm]
          exact ⟨F2, ["_law_size"], [some v], lpZ T, o2, Act.made (js := [8]) (fun _ => rfl) I (L2.fr fe) (by rw [k2]; exact Caps.made I.ok cap2 free2 rfl), lp⟩
      · have ff := fe.trans f'
        exact ⟨_, rfl, iteF ⟨_, rfl, WG.keep0 ff⟩⟩
    clear WG nn ec L1 L2 o1 o2 k1 k2
    clear F1 F2 c1 c2 lc
    rintro _ HA ⟨v2, rfl, WA⟩
    -- good
    refine ⟨fun σ' H' => ∃ (l : Addr) (xs : List Int), σ' = [some (.ref r), some (.int (far : Int)), v2, some (.ref l), none, none, none, none, some v, some (.int (1 + (sl : Int))), none] ∧ Wd P1 Pt r H' ∧ l ≠ r ∧ H' l = some (.lst (xs.map V.int)) ∧ GoodR xs, ?_, ?_⟩
    · refine ⟨_, rfl, r, 15, rfl, WA.rnd, by decide, by decide, fun n H1 hn f1 R1 => ?_⟩
      have W1 := WA.draw f1 R1
      refine ⟨n, rfl, by omega, by omega, fun D hD => ?_⟩
      have hDr := W1.out hD
      refine lc_range (lo := 0) (n := n) (fun j H' => Wd P1 Pt r H' ∧ ∃ xs : List Int, H' D = some (.lst (xs.map V.int)) ∧ xs.length = j ∧ ∀ x ∈ xs, 0 ≤ x ∧ x ≤ 15) ⟨W1.new hD, [], upd_same, rfl, fun x hx => by cases hx⟩ ?_ ?_
      · rintro j H3 hj ⟨W3, ds, e3, l3, g3⟩
        refine ⟨rfl, _, rfl, r, 16, rfl, W3.rnd, by decide, by decide, fun y H6 hy f6 R6 => ?_⟩
        have e6 := f6 _ _ e3 (by simpa using hDr)
        refine ⟨_, e6, by rw [List.length_map, l3]; exact sz_lt (by omega), (W3.draw f6 R6).put e6 hDr, ds ++ [(y : Int)], ?_, by rw [List.length_append, l3]; rfl, ?_⟩
        · rw [upd_same, List.map_append]
          rfl
        · intro x hx
          rcases List.mem_append.mp hx with hx | hx
          · exact g3 x hx
          · rw [List.mem_singleton.mp hx]
            exact ⟨by omega, by omega⟩
      · rintro H3 ⟨W3, ds, e3, l3, g3⟩
        exact ⟨D, ds, rfl, W3, hDr, e3, by omega, g3⟩
    clear WA
    rintro _ HA ⟨l, xs, rfl, WA, nl, el, gx⟩
    have hxl : (xs.map V.int).length = xs.length := List.length_map _
    -- at, odd
    refine ⟨fun σ' H' => ∃ (a : Nat) (odd : V), σ' = [some (.ref r), some (.int (far : Int)), v2, some (.ref l), some (.int (a : Int)), some odd, none, none, some v, some (.int (1 + (sl : Int))), none] ∧ a ≤ xs.length ∧ Wd P1 Pt r H' ∧ H' l = some (.lst (xs.map V.int)) ∧ NoNum H' 0 15 odd, ?_, ?_⟩
    · refine ⟨_, rfl, _, rfl, l, _, rfl, .inl (SqL.of el), _, _, rfl, rfl, ?_⟩
      refine ⟨r, (xs.map V.int).length + 1, rfl, WA.rnd, by omega, by have := gx.1; omega, fun a H1 ha f1 R1 => ?_⟩
      have W1 := WA.draw f1 R1
      have e1 := f1 _ _ el (by simpa using nl)
      refine ⟨_, rfl, _, _, rfl, rfl, _, _, rfl, rfl, sz_le (by simp), fun q hq => ?_⟩
      have W2 := W1.new (o := .tup [.int 0]) hq
      have e2 := (upd_ne (o := .tup [.int 0]) (ne_of_none e1 hq)).trans e1
      refine ⟨sz_le (by simp), fun g hg => ?_⟩
      have W3 := W2.new (o := .lst [.int 16, .int (16 + (far : Int)), .int (0 - 1), .non, .bl true, .str "1", .ref q]) hg
      have e3 := (upd_ne (o := .lst [.int 16, .int (16 + (far : Int)), .int (0 - 1), .non, .bl true, .str "1", .ref q]) (ne_of_none e2 hg)).trans e2
      refine ⟨_, rfl, r, 7, rfl, W3.rnd, by decide, by decide, fun z H4 hz f4 R4 => ?_⟩
      have q4 := rnd_tup W3.rnd f4 ((upd_ne (o := .lst [.int 16, .int (16 + (far : Int)), .int (0 - 1), .non, .bl true, .str "1", .ref q]) (free_upd hg).2.symm).trans upd_same)
      obtain ⟨odd, ho, nn⟩ := odd_at60 (far := far) q4 hz
      refine ⟨g, _, (z : Int), odd, rfl, rfl, SqL.of (f4 _ _ upd_same (by simpa using W2.out hg)), ho, ?_⟩
      exact ⟨_, _, rfl, a, odd, rfl, by omega, W3.draw f4 R4, f4 _ _ e3 (by simpa using nl), nn⟩
    clear WA el
    rintro _ HA ⟨a, odd, rfl, ha, WA, el, nn⟩
    -- given
    refine ⟨fun σ' H' => ∃ (j : Nat) (given : V), σ' = [some (.ref r), some (.int (far : Int)), v2, some (.ref l), some (.int (a : Int)), some odd, some (.int (j : Int)), some given, some v, some (.int (1 + (sl : Int))), none] ∧ Wd P1 Pt r H' ∧ H' l = some (.lst (xs.map V.int)) ∧ BadR H' given j ∧ j < 64 ∧ given ≠ .ref r, ?_, ?_⟩
    · refine ⟨_, rfl, _, rfl, (a : Int), rfl, l, _, rfl, SqL.of el, fun p1 h1 => ?_⟩
      rw [cut_to (by omega)]
      refine ⟨_, rfl, sz_le (by simp), fun p2 h2 => ?_⟩
      refine ⟨p1, p2, _, _, rfl, rfl, (upd_ne (free_upd h2).2.symm).trans upd_same, upd_same, ?_, fun p3 h3 => ?_⟩
      · simp only [List.length_take, List.length_cons, List.length_nil]
        exact sz_le (by have := gx.1; omega)
      refine ⟨_, rfl, _, rfl, (a : Int), rfl, ?_⟩
      refine ⟨l, _, rfl, SqL.of ((((Fr.new (S := []) h1).trans (Fr.new h2)).trans (Fr.new h3)) _ _ el (by simp)), fun p4 h4 => ?_⟩
      rw [cut_from (by omega)]
      refine ⟨p3, p4, _, _, rfl, rfl, (upd_ne (free_upd h4).2.symm).trans upd_same, upd_same, ?_, fun p5 h5 => ?_⟩
      · simp only [List.length_append, List.length_take, List.length_drop, List.length_cons, List.length_nil]
        exact sz_le (by have := gx.1; omega)
      refine ⟨_, rfl, sz_le (by simp), fun t ht => ⟨t, _, rfl, SqT.of upd_same, rfl, _, _, rfl, _, _, rfl, rfl, ?_⟩⟩
      have F5 := ((((Fr.new (S := []) (o := .lst ((xs.map V.int).take a)) h1).trans (Fr.new (o := .lst [odd]) h2)).trans (Fr.new (o := .lst ((xs.map V.int).take a ++ [odd])) h3)).trans (Fr.new (o := .lst ((xs.map V.int).drop a)) h4)).trans (Fr.new (o := .lst ((xs.map V.int).take a ++ [odd] ++ (xs.map V.int).drop a)) h5)
      have F := F5.trans (Fr.new (o := .tup [.ref p5, .int (a : Int)]) ht)
      have lt : ((xs.map V.int).take a).length = a := by rw [List.length_take]; omega
      refine ⟨a, .ref p5, rfl, WA.keep0 F, F _ _ el (by simp), .inr ⟨p5, _, rfl, (upd_ne (free_upd ht).2.symm).trans upd_same, by have := gx.1; omega, ?_, fun i hi => ?_, fun _ => ⟨odd, ?_, nn.keep0 F⟩⟩, by have := gx.1; omega, fun z => (WA.keep0 ((((Fr.new (S := []) (o := .lst ((xs.map V.int).take a)) h1).trans (Fr.new (o := .lst [odd]) h2)).trans (Fr.new (o := .lst ((xs.map V.int).take a ++ [odd])) h3)).trans (Fr.new (o := .lst ((xs.map V.int).drop a)) h4))).out h5 (V.ref.inj z)⟩
      · simp only [List.length_append, lt, List.length_cons, List.length_nil]
        omega
      · have hx : xs[i]? = some (xs[i]'(by omega)) := List.getElem?_eq_getElem (by omega)
        refine ⟨_, ?_, gx.2 _ (List.mem_of_getElem? hx)⟩
        rw [List.getElem?_append_left (by simp only [List.length_append, lt, List.length_cons, List.length_nil]; omega), List.getElem?_append_left (by omega), List.getElem?_take_of_lt hi, List.getElem?_map, hx]
        rfl
      · rw [List.getElem?_append_left (by simp only [List.length_append, lt, List.length_cons, List.length_nil]; omega), List.getElem?_append_right (by omega), lt, Nat.sub_self]
        rfl
    clear WA el nn
    rintro _ HA ⟨j, given, rfl, WA, el, bd, hj, nr⟩
    -- too many
    refine ⟨fun σ' H' => ∃ (j : Nat) (given : V), σ' = [some (.ref r), some (.int (far : Int)), v2, some (.ref l), some (.int (a : Int)), some odd, some (.int (j : Int)), some given, some v, some (.int (1 + (sl : Int))), none] ∧ Wd P1 Pt r H' ∧ H' l = some (.lst (xs.map V.int)) ∧ BadR H' given j ∧ j < 64 ∧ given ≠ .ref r, ?_, ?_⟩
    · refine ⟨_, rfl, r, 4, rfl, WA.rnd, by decide, by decide, fun z H1 hz f1 R1 => ⟨rfl, _, rfl, ?_⟩⟩
      have W1 := WA.draw f1 R1
      have e1 := f1 _ _ el (by simpa using nl)
      by_cases h0 : z = 0
      · rw [decide_eq_true (show V.int (z : Int) = V.int 0 by rw [h0]; rfl)]
        refine iteT ⟨sz_le (by simp), fun p1 h1 => ⟨p1, 15, _, rfl, rfl, upd_same, by decide, by decide, sz_le (by decide), fun p2 h2 => ?_⟩⟩
        refine ⟨sz_le (by simp), fun t ht => ⟨t, _, rfl, SqT.of upd_same, rfl, _, _, rfl, _, _, rfl, rfl, ?_⟩⟩
        have F := ((Fr.new (S := []) (o := .lst [.int 3]) h1).trans (Fr.new (o := .lst (List.replicate (15 : Int).toNat [.int 3]).flatten) h2)).trans (Fr.new (o := .tup [.ref p2, .int 14]) ht)
        refine ⟨14, .ref p2, rfl, W1.keep0 F, F _ _ e1 (by simp), .inr ⟨p2, _, rfl, (upd_ne (free_upd ht).2.symm).trans upd_same, by decide, by decide, fun i hi => ?_, fun z => absurd z (by decide)⟩, by decide, fun z => (W1.new (o := .lst [.int 3]) h1).out h2 (V.ref.inj z)⟩
        have h14 : ∀ i < 14, ((List.replicate (15 : Int).toNat [V.int 3]).flatten)[i]? = some (.int 3) := by decide
        exact ⟨3, h14 i hi, by decide, by decide⟩
      · rw [decI (a := (z : Int)) (b := 0) (by omega)]
        exact iteF ⟨j, given, rfl, W1, e1, bd.ext (fun b xs e => rnd_tup WA.rnd f1 e) (fun b xs ev e => f1 _ _ e (by rw [List.mem_singleton]; exact fun z => nr (by rw [ev, z]))), hj, nr⟩
    clear WA el bd hj nr j given
    rintro _ HA ⟨j, given, rfl, WA, el, bd, hj, nr⟩
    -- no list
    refine ⟨fun σ' H' => ∃ (j : Nat) (given : V), σ' = [some (.ref r), some (.int (far : Int)), v2, some (.ref l), some (.int (a : Int)), some odd, some (.int (j : Int)), some given, some v, some (.int (1 + (sl : Int))), none] ∧ Wd P1 Pt r H' ∧ BadR H' given j ∧ j < 64, ?_, ?_⟩
    · refine ⟨_, rfl, r, 4, rfl, WA.rnd, by decide, by decide, fun z H1 hz f1 R1 => ⟨rfl, _, rfl, ?_⟩⟩
      have W1 := WA.draw f1 R1
      have e1 := f1 _ _ el (by simpa using nl)
      by_cases h0 : z = 0
      · rw [decide_eq_true (show V.int (z : Int) = V.int 0 by rw [h0]; rfl)]
        refine iteT ⟨_, rfl, l, _, rfl, .inl ⟨SqL.of e1, fun tp htp => ⟨sz_le (by simp), fun g hg => ?_⟩⟩⟩
        have W2 := W1.new (o := .tup (xs.map V.int)) htp
        have W3 := W2.new (o := .lst [.non, .ref tp, .str "0", .int 5]) hg
        refine ⟨_, rfl, r, 4, rfl, W3.rnd, by decide, by decide, fun y H4 hy f4 R4 => ?_⟩
        have W4 := W3.draw f4 R4
        have t4 := rnd_tup W3.rnd f4 ((upd_ne (o := .lst [.non, .ref tp, .str "0", .int 5]) (free_upd hg).2.symm).trans upd_same)
        obtain ⟨u, hu, nt⟩ : ∃ u, atI ([.non, .ref tp, .str "0", .int 5] : List V) (y : Int) = some u ∧ NoLst H4 u := by
          match y, hy with
          | 0, _ => exact ⟨_, atI_nat (j := 0) rfl, .inl rfl⟩
          | 1, _ => exact ⟨_, atI_nat (j := 1) rfl, .inr (.inr (.inr ⟨tp, _, rfl, t4⟩))⟩
          | 2, _ => exact ⟨_, atI_nat (j := 2) rfl, .inr (.inr (.inl ⟨_, rfl⟩))⟩
          | 3, _ => exact ⟨_, atI_nat (j := 3) rfl, .inr (.inl ⟨_, rfl⟩)⟩
        refine ⟨g, _, (y : Int), u, rfl, rfl, SqL.of (f4 _ _ upd_same (by simpa using W2.out hg)), hu, ?_⟩
        refine ⟨sz_le (by simp), fun t ht => ⟨t, _, rfl, SqT.of upd_same, rfl, _, _, rfl, _, _, rfl, rfl, ?_⟩⟩
        have bd : BadR H4 u 0 := .inl ⟨rfl, nt⟩
        exact ⟨0, u, rfl, W4.new ht, bd.keep0 (Fr.new ht), by decide⟩
      · rw [decI (a := (z : Int)) (b := 0) (by omega)]
        exact iteF ⟨j, given, rfl, W1, bd.ext (fun b xs e => rnd_tup WA.rnd f1 e) (fun b xs ev e => f1 _ _ e (by rw [List.mem_singleton]; exact fun z => nr (by rw [ev, z]))), hj⟩
    clear WA el bd hj nr j given
    rintro _ HA ⟨j, given, rfl, WA, bd, hj⟩
    -- calls
    refine ⟨fun σ' H' => ∃ (lc c1 c2 : Addr), σ' = [some (.ref r), some (.int (far : Int)), some (.ref lc), some (.ref l), some (.int (a : Int)), some odd, some (.int (j : Int)), some given, some v, some (.int (1 + (sl : Int))), none] ∧ BadR H' given j ∧ Wd P1 Pt r H' ∧ H' lc = some (.lst [.ref c1, .ref c2]) ∧
        (∃ F : LF, Lv c1 F H' ∧ F.cl = cloFrom (PyProof.Rows.envOfC "_law_are_refused" (defScope s__law_are_refused) s.heap.objs.size f (.ref cd)).cells (lamS lam3).names [] ∧ ∀ b2, LOk P w K mg b2 (L2N.CX P w) 8 c1 F ["_law_slots", "_law_given"] (lpR T)) ∧
        (∃ F : LF, Lv c2 F H' ∧ F.cl = cloFrom (PyProof.Rows.envOfC "_law_are_refused" (defScope s__law_are_refused) s.heap.objs.size f (.ref cd)).cells (lamS lam4).names [] ∧ ∀ b2, LOk P w K mg b2 (L2N.CX P w) 8 c2 F ["_law_slots", "_law_given"] (lpR T)), ?_, ?_⟩
    · refine ⟨WA.tab, fun c1 F1 H1 q1 q2 q3 q4 q5 q6 eN1 TB1 hf1 L1 => ⟨TB1, fun c2 F2 H2 p1 p2 p3 p4 p5 p6 eN2 TB2 hf2 L2 => ⟨sz_le (by simp), fun lc hlc => ?_⟩⟩⟩
      have fl : Fr [] H2 (upd H2 lc (.lst [.ref c1, .ref c2])) := Fr.new hlc
      exact ⟨lc, c1, c2, rfl, ((bd.keepN eN1).keepN eN2).keep0 fl, ((WA.lam eN1 TB1).lam eN2 TB2).keep0 fl, upd_same,
        ⟨F1, (L1.keep fun b o e _ nt _ => eN2 b o e nt).fr fl, q5, fun b2 => lok_3 T HP q3 q4 q2 q6⟩, ⟨F2, L2.fr fl, p5, fun b2 => lok_4 T HP p3 p4 p2 p6⟩⟩
    clear WA bd
    rintro _ HG ⟨lc, c1, c2, rfl, bd, WG, ec, ⟨F1, L1, k1, o1⟩, ⟨F2, L2, k2, o2⟩⟩
    -- the second question
    refine ⟨_, rfl, _, rfl, sz_le (by simp), fun e he pins s1 I => ?_⟩
    have fe : Fr [] HG (upd HG e (.tup [.str "requests", .int (j : Int)])) := Fr.new he
    have lp : ∀ H', Fr [] (upd HG e (.tup [.str "requests", .int (j : Int)])) H' → ∀ (Q' : VK) (E' : XK), (∀ cls d H'', Fr [] H' H'' → Tells T cls d H'' [.str "requests", .int (j : Int)] → E' cls d H'') → lpR T [some (.int (1 + (sl : Int))), some given] H' Q' E' := fun H' f' Q' E' hE =>
      ⟨1 + (sl : Int), given, j, rfl, by omega, by omega, (bd.keep0 fe).keep0 f', fun d H'' hd f'' hx => hE _ _ _ f'' fun Q k => .inr (.inl ⟨.int (j : Int), rfl, by simp, hx, k⟩)⟩
    refine ⟨lc, e, [c1, c2], "requests", (j : Int), rfl, fe _ _ ec (by simp), by simp, upd_same, by decide +kernel, fun c hcm => ?_, fun H' f' => ?_⟩
    · rcases List.mem_cons.mp hcm with rfl | hcm
      · exact ⟨F1, ["_law_slots", "_law_given"], [some (.int (1 + (sl : Int))), some given], lpR T, o1, Act.made (js := [9, 7]) (fun _ => rfl) I (L1.fr fe) (by rw [k1]; exact Caps.made I.ok cap3 free3 rfl), lp⟩
      · rw [List.mem_singleton.mp hcm]
        exact ⟨F2, ["_law_slots", "_law_given"], [some (.int (1 + (sl : Int))), some given], lpR T, o2, Act.made (js := [9, 7]) (fun _ => rfl) I (L2.fr fe) (by rw [k2]; exact Caps.made I.ok cap4 free4 rfl), lp⟩
    · have W1 := WG.keep0 (fe.trans f')
      refine ⟨_, rfl, iteT ?_⟩
      refine ⟨_, rfl, sz_le (by simp), fun b hb => ?_⟩
      refine ⟨1 + (sl : Int), b, rfl, by omega, by omega, upd_same, fun t p H2 f2 et ep => ?_⟩
      have W2 := (W1.new (o := .lst []) hb).keep0 f2
      refine ⟨sz_le (by simp), fun b2 hb2 => ⟨sz_le (by simp), fun t2 ht2 => ?_⟩⟩
      have F := (Fr.new (S := []) (o := .lst []) hb2).trans (Fr.new (o := .tup [.int 0, .ref b2]) ht2)
      refine ⟨.tuple [.int 0, .list []], .tuple [.int 0, .list []], .tup (SqT.of (F _ _ et (by simp))) (.cons (.int _) (.cons (.lst (SqL.of (F _ _ ep (by simp))) .nil) .nil)), .tup (SqT.of upd_same) (.cons (.int _) (.cons (.lst (SqL.of ((upd_ne (free_upd ht2).2.symm).trans upd_same)) .nil) .nil)), by decide +kernel, by decide +kernel, ?_⟩
      rw [show PyData.eqv (.tuple [.int 0, .list []]) (.tuple [.int 0, .list []]) = true by decide +kernel]
      exact k _ (W2.keep0 F)
end
/-! ### the law -/
structure Jn (P P2 r : Addr) (s : Int) (bb kk pl bl : Addr) (xs ks : List Int) (l : List (Int × Ent)) (bs : List V) (H : Hp) : Prop where
  wd : Wd P P2 r H
  eb : H bb = some (.lst (xs.map V.int))
  ek : H kk = some (.lst (ks.map V.int))
  ep : H pl = some (.lst (l.map fun q => q.2.v))
  el : H bl = some (.lst bs)
  nb : bb ≠ r
  nk : kk ≠ r
  np : pl ≠ r
  nl : bl ≠ r
  pb : pl ≠ bl
  pB : pl ≠ bb
  pk : pl ≠ kk
  lB : bl ≠ bb
  lk : bl ≠ kk
  bad : ∀ (j : Nat) (x : Int) (u : V), xs[j]? = some x → bs[j]? = some u → Can H s (keptOf (l.take j)) x u false
section
open LamX NdefX
variable {P P2 r bb kk pl bl : Addr} {s : Int} {xs ks : List Int} {l : List (Int × Ent)} {bs : List V} {H H' : Hp}
theorem Jn.keep0 (h : Jn P P2 r s bb kk pl bl xs ks l bs H) (f : Fr [] H H') : Jn P P2 r s bb kk pl bl xs ks l bs H' :=
  ⟨h.wd.keep0 f, f _ _ h.eb (by simp), f _ _ h.ek (by simp), f _ _ h.ep (by simp), f _ _ h.el (by simp), h.nb, h.nk, h.np, h.nl, h.pb, h.pB, h.pk, h.lB, h.lk, fun j x u e1 e2 => (h.bad j x u e1 e2).keep fun b xs e => f _ _ e (by simp)⟩
theorem Jn.draw (h : Jn P P2 r s bb kk pl bl xs ks l bs H) (f : Fr [r] H H') (R : Rnd H' r) : Jn P P2 r s bb kk pl bl xs ks l bs H' :=
  ⟨h.wd.draw f R, f _ _ h.eb (by simpa using h.nb), f _ _ h.ek (by simpa using h.nk), f _ _ h.ep (by simpa using h.np), f _ _ h.el (by simpa using h.nl), h.nb, h.nk, h.np, h.nl, h.pb, h.pB, h.pk, h.lB, h.lk, fun j x u e1 e2 => (h.bad j x u e1 e2).keep fun b xs e => rnd_tup h.wd.rnd f e⟩
theorem Jn.keepN (h : Jn P P2 r s bb kk pl bl xs ks l bs H) (f : ExtN H H') (t : TabsN (tabs P P2) H') : Jn P P2 r s bb kk pl bl xs ks l bs H' :=
  ⟨h.wd.lam f t, f _ _ h.eb (fun _ z => by cases z), f _ _ h.ek (fun _ z => by cases z), f _ _ h.ep (fun _ z => by cases z), f _ _ h.el (fun _ z => by cases z), h.nb, h.nk, h.np, h.nl, h.pb, h.pB, h.pk, h.lB, h.lk, fun j x u e1 e2 => (h.bad j x u e1 e2).keep fun b xs e => f _ _ e (fun _ z => by cases z)⟩
/-- what an entry may be -/
def someE (s : Int) (ks : List Int) (b : Int) : List Ent := .no :: (if b ∈ ks then [] else (if (ks.length : Int) < s then [.keep] else []) ++ ks.map .drop)
theorem someE_ok {s : Int} {ks : List Int} {b : Int} {e : Ent} (h : e ∈ someE s ks b) : canBe s ks b e = true := by
  unfold someE at h
  rcases List.mem_cons.mp h with h | h
  · rw [h]; rfl
  · by_cases hb : b ∈ ks
    · rw [if_pos hb] at h
      cases h
    · rw [if_neg hb] at h
      rcases List.mem_append.mp h with h | h
      · by_cases hl : (ks.length : Int) < s
        · rw [if_pos hl] at h
          rw [List.mem_singleton.mp h]
          simp [canBe, hb, hl]
        · rw [if_neg hl] at h
          cases h
      · obtain ⟨n, hn, e⟩ := List.mem_map.mp h
        rw [← e]
        simp [canBe, hb, hn]
theorem someE_flat (es : List Ent) : (es.map Ent.v).all flatV = true := by
  rw [List.all_eq_true]
  intro x hx
  obtain ⟨e, _, rfl⟩ := List.mem_map.mp hx
  cases e <;> rfl
theorem someE_keep {s : Int} {ks : List Int} {b : Int} : inV (.str "keep") ((someE s ks b).map Ent.v) = (decide (b ∉ ks) && decide ((ks.length : Int) < s)) := by
  have hd : ∀ ks : List Int, inV (.str "keep") ((ks.map Ent.drop).map Ent.v) = false := fun ks => by
    induction ks with
    | nil => rfl
    | cons n r ih => exact ih
  unfold someE
  by_cases hb : b ∈ ks
  · rw [if_pos hb]
    simp [hb]
    rfl
  · rw [if_neg hb]
    by_cases hl : (ks.length : Int) < s
    · rw [if_pos hl]
      simp only [hb, hl, not_false_eq_true, decide_true, Bool.and_true]
      rfl
    · rw [if_neg hl]
      simp only [hb, hl, not_false_eq_true, decide_true, decide_false, Bool.and_false, List.nil_append]
      exact hd ks
end
theorem rep01 (c : Bool) (xs : List V) : (List.replicate (if c = true then (1 : Int) else 0).toNat xs).flatten = if c = true then xs else [] := by
  cases c <;> simp
theorem lo01 (c : Bool) : -(2 ^ 63 : Int) ≤ (if c = true then (1 : Int) else 0) := by cases c <;> decide
theorem hi01 (c : Bool) : (if c = true then (1 : Int) else 0) < (2 ^ 63 : Int) := by cases c <;> decide
theorem sz01 (c : Bool) {n : Nat} (h : n ≤ 1000) : n * (if c = true then (1 : Int) else 0).toNat ≤ sizeLine := by
  cases c
  · simp
  · exact sz_le (by simp; omega)
theorem someE_list {s : Int} {ks : List Int} {b : Int} : (someE s ks b).map Ent.v = [V.non] ++ (if (!decide (b ∈ ks)) = true then (if decide ((ks.length : Int) < s) = true then [V.str "keep"] else []) ++ ks.map V.int else []) := by
  have hd : (ks.map Ent.drop).map Ent.v = ks.map V.int := by
    rw [List.map_map]
    rfl
  have hd' : ks.map (Ent.v ∘ Ent.drop) = ks.map V.int := rfl
  by_cases hb : b ∈ ks <;> by_cases hl : (ks.length : Int) < s <;> simp [someE, hb, hl, hd', Ent.v]
theorem mem_keptOf : ∀ (l : List (Int × Ent)) (x : Int), x ∈ keptOf l → x ∈ l.map (·.1) := by
  have h1 : ∀ (k : List Int) (b : Int) (e : Ent) (x : Int), x ∈ keptAfter k b e → x ∈ k ∨ x = b := fun k b e x h => by
    cases e with
    | no => exact .inl h
    | keep =>
      rcases List.mem_append.mp h with h | h
      · exact .inl h
      · exact .inr (List.mem_singleton.mp h)
    | drop n =>
      rcases List.mem_append.mp h with h | h
      · exact .inl (List.mem_filter.mp h).1
      · exact .inr (List.mem_singleton.mp h)
  have : ∀ (l : List (Int × Ent)) (k : List Int) (x : Int), x ∈ l.foldl (fun k q => keptAfter k q.1 q.2) k → x ∈ k ∨ x ∈ l.map (·.1) := fun l => by
    induction l with
    | nil => intro k x h; exact .inl h
    | cons q l ih =>
      intro k x h
      rcases ih _ _ h with h | h
      · rcases h1 _ _ _ _ h with h | h
        · exact .inl h
        · exact .inr (by rw [h]; exact List.mem_cons_self)
      · exact .inr (List.mem_cons_of_mem _ h)
  intro l x h
  rcases this l [] x h with h | h
  · cases h
  · exact h
/-- the odd things that the law puts in -/
def Odd6 (H : Hp) (b : Int) (v : V) : Prop := v = .str "keep" ∨ v = .int 99 ∨ v = .str "Keep" ∨ v = .bl true ∨ (∃ q, v = .ref q ∧ H q = some (.tup [.int 0])) ∨ v = .int b
theorem odd6_at {H : Hp} {q : Addr} {b : Int} {z : Nat} (hq : H q = some (.tup [.int 0])) (hz : z < 6) : ∃ v, atI ([.str "keep", .int 99, .str "Keep", .bl true, .ref q, .int b] : List V) (z : Int) = some v ∧ Odd6 H b v := by
  match z, hz with
  | 0, _ => exact ⟨_, atI_nat (j := 0) rfl, .inl rfl⟩
  | 1, _ => exact ⟨_, atI_nat (j := 1) rfl, .inr (.inl rfl)⟩
  | 2, _ => exact ⟨_, atI_nat (j := 2) rfl, .inr (.inr (.inl rfl))⟩
  | 3, _ => exact ⟨_, atI_nat (j := 3) rfl, .inr (.inr (.inr (.inl rfl)))⟩
  | 4, _ => exact ⟨_, atI_nat (j := 4) rfl, .inr (.inr (.inr (.inr (.inl ⟨q, rfl, hq⟩))))⟩
  | 5, _ => exact ⟨_, atI_nat (j := 5) rfl, .inr (.inr (.inr (.inr (.inr rfl))))⟩
theorem Odd6.can {H : Hp} {s : Int} {ks : List Int} {b : Int} {v : V} (h : Odd6 H b v) (hn : v ≠ .str "keep") (h9 : (99 : Int) ∉ ks) : Can H s ks b v false := by
  rcases h with h | h | h | h | ⟨q, h, hq⟩ | h
  · exact absurd h hn
  · rw [h]
    have e : canBe s ks b (.drop 99) = false := by simp [canBe, h9]
    rw [← e]
    exact .ent (.drop 99)
  · rw [h]; exact .word
  · rw [h]; exact .bool
  · rw [h]; exact .tup q hq
  · rw [h]
    have e : canBe s ks b (.drop b) = false := by
      by_cases hb : b ∈ ks <;> simp [canBe, hb]
    rw [← e]
    exact .ent (.drop b)
/-- .. as data, and whether it is "keep" -/
theorem Odd6.data {K : PySem.W.Frag} {H : Hp} {b : Int} {v : V} (h : Odd6 H b v) : ∃ d, Dp K H v d ∧ SeqAt.shaped d = true ∧ PyData.eqv d (.str "keep") = decide (v = .str "keep") := by
  rcases h with h | h | h | h | ⟨q, h, hq⟩ | h
  · rw [h]; exact ⟨_, .str _, by decide +kernel, by decide +kernel⟩
  · rw [h]; exact ⟨_, .int _, shaped_i _, by decide +kernel⟩
  · rw [h]; exact ⟨_, .str _, by decide +kernel, by decide +kernel⟩
  · rw [h]; exact ⟨_, .bl _, by decide +kernel, by decide +kernel⟩
  · rw [h]
    refine ⟨_, .tup (SqT.of hq) (.cons (.int _) .nil), by decide +kernel, ?_⟩
    rw [decide_eq_false (by simp)]
    decide +kernel
  · rw [h]
    refine ⟨_, .int _, shaped_i _, ?_⟩
    rw [decide_eq_false (by simp)]
    simp [PyData.eqv]
theorem Odd6.ext {H H' : Hp} {b : Int} {v : V} (h : Odd6 H b v) (f : ∀ b xs, H b = some (.tup xs) → H' b = some (.tup xs)) : Odd6 H' b v := by
  rcases h with h | h | h | h | ⟨q, h, hq⟩ | h
  · exact .inl h
  · exact .inr (.inl h)
  · exact .inr (.inr (.inl h))
  · exact .inr (.inr (.inr (.inl h)))
  · exact .inr (.inr (.inr (.inr (.inl ⟨q, h, f _ _ hq⟩))))
  · exact .inr (.inr (.inr (.inr (.inr h))))
theorem valid_take {s : Int} {l : List (Int × Ent)} (h : Valid s l) (m : Nat) : Valid s (l.take m) := fun i q e => by
  have hi := lt_of_at e
  rw [List.length_take] at hi
  rw [List.getElem?_take_of_lt (by omega)] at e
  rw [List.take_take, Nat.min_eq_left (by omega)]
  exact h i q e
theorem one_at {bs : List V} {a : Nat} {u : V} (h : bs[a]? = some u) : (bs.drop a).take 1 = [u] := by
  have hl := lt_of_at h
  rw [List.drop_eq_getElem_cons hl]
  rw [List.getElem?_eq_getElem hl] at h
  rw [← Option.some.inj h]
  rfl
theorem cut_one {bs : List V} {a : Nat} (h : a ≤ bs.length) : cutV bs (some (a : Int)) (some ((a : Int) + 1)) = (bs.drop a).take 1 := by
  have e : ((a : Int) + 1) = ((a + 1 : Nat) : Int) := by omega
  rw [e]
  unfold cutV
  rw [HT.sIx_nat, HT.sIx_nat, Nat.min_eq_left h]
  by_cases hl : a + 1 ≤ bs.length
  · rw [Nat.min_eq_left hl, show a + 1 - a = 1 by omega]
  · have e2 : a = bs.length := by omega
    rw [e2, List.drop_length, List.take_nil, List.take_nil]
theorem max_pred {a : Nat} : (if (a : Int) - 1 > 0 then (a : Int) - 1 else 0) = ((a - 1 : Nat) : Int) := by
  split <;> omega
/-- the first a entries, then a wrong one, then more than there are reads -/
theorem bad_mid {H : Hp} {s : Int} {l : List (Int × Ent)} {bs : List V} {a : Nat} {p : Addr} {zs : List V} (ha : a ≤ l.length) (hb : bs.length = l.length) (hv : Valid s l) (hz : zs ≠ []) (hzl : zs.length ≤ 20) (hl : l.length ≤ 14) (bad : ∀ (j : Nat) (x : Int) (u : V), (l.map (·.1))[j]? = some x → bs[j]? = some u → Can H s (keptOf (l.take j)) x u false)
    (hp : H p = some (.lst ((l.map fun q => q.2.v).take a ++ (bs.drop a).take 1 ++ zs))) : BadPl H s (l.map (·.1)) (.ref p) a := by
  refine .inr ⟨p, _, l.take a, (l.drop a).map (·.1), (bs.drop a).take 1 ++ zs, rfl, hp, by rw [List.length_take]; omega, by rw [← List.map_append, List.take_append_drop], by rw [List.map_take, List.append_assoc], ?_, valid_take hv a, ?_⟩
  · simp only [List.length_append, List.length_take, List.length_map, List.length_drop]
    omega
  · by_cases hlt : a < l.length
    · have hla : l[a]? = some l[a] := List.getElem?_eq_getElem hlt
      have hba : bs[a]? = some (bs[a]'(by omega)) := List.getElem?_eq_getElem (by omega)
      refine .inl ⟨l[a].1, (l.drop (a + 1)).map (·.1), by rw [List.drop_eq_getElem_cons hlt]; rfl, .inr ⟨_, zs, by rw [one_at hba]; rfl, ?_⟩⟩
      exact bad a _ _ (by rw [List.getElem?_map, hla]; rfl) hba
    · refine .inr ⟨by rw [List.drop_of_length_le (by omega)]; rfl, fun e => hz (List.append_eq_nil_iff.mp e).2⟩
/-- entries that lack -/
theorem bad_short {H : Hp} {s : Int} {l : List (Int × Ent)} {m : Nat} {p : Addr} (hm : m < l.length) (hv : Valid s l) (hl : l.length ≤ 14) (hp : H p = some (.lst ((l.map fun q => q.2.v).take m))) : BadPl H s (l.map (·.1)) (.ref p) m := by
  refine .inr ⟨p, _, l.take m, (l.drop m).map (·.1), [], rfl, hp, by rw [List.length_take]; omega, by rw [← List.map_append, List.take_append_drop], by rw [List.map_take, List.append_nil], ?_, valid_take hv m, ?_⟩
  · simp only [List.length_take, List.length_map]
    omega
  · exact .inl ⟨l[m].1, (l.drop (m + 1)).map (·.1), by rw [List.drop_eq_getElem_cons hm]; rfl, .inl rfl⟩
/-! ### the law -/
def spLaw (K : PySem.W.Frag) (P P2 : Addr) : Sp := fun vs H Q _ => ∃ (a : Addr) (ns : List Int), vs = [.ref a] ∧ SqL K H a (ns.map V.int) ∧ ns.length ≤ 63 ∧ H P = some (.tbl #[]) ∧ H P2 = some (.tbl #[]) ∧ ∀ H', Q (.bl true) H'
theorem Eqn.one {H : Hp} {n : Nat} {a b : Addr} {x0 y0 : V} (h1 : H a = some (.lst [x0])) (h2 : H b = some (.lst [y0])) (e0 : Eqn H n x0 y0) : Eqn H (n + 1) (.ref a) (.ref b) :=
  .inr ⟨a, b, _, _, rfl, rfl, .inr ⟨h1, h2⟩, rfl, by simp, fun i x y p q => match i, p, q with
    | 0, p, q => by cases p; cases q; exact e0
    | _ + 1, p, _ => by simp at p⟩
section
open LamX NdefX
variable {P : Program} {w : World} {K : PySem.W.Frag} {mg : Str → Option Value} {base : Heap}
theorem ok_law {oc oc2 : Value} {od an od2 an2 : Option Addr} {kV dc pm ct kV2 dc2 pm2 ct2 : Value} {osl osl2 : Array (Option Value)} {f cd Pt cd2 P2 : Addr} (T : Gx K mg) (HP : ProgOk P T.file) (lk : K.lookup f = some ⟨oc, od, .func (PySem.W.fnOf "law" "law" (defArgs s_law) (defBody s_law) (defScope s_law) .none kV dc pm an (.ref cd) ct), osl⟩)
    (hcd : PySem.W.codeIn K (.ref cd) "law" = true) (TB : TabB base mg cd Pt) (lk2 : K.lookup T.f__law_are_refused = some ⟨oc2, od2, .func (PySem.W.fnOf "_law_are_refused" "_law_are_refused" (defArgs s__law_are_refused) (defBody s__law_are_refused) (defScope s__law_are_refused) .none kV2 dc2 pm2 an2 (.ref cd2) ct2), osl2⟩)
    (hcd2 : PySem.W.codeIn K (.ref cd2) "_law_are_refused" = true) (TB2 : TabB base mg cd2 P2) (np : Pt ≠ P2) : FnOk P w K mg base C8.CX0 16 f (PySem.W.fnOf "law" "law" (defArgs s_law) (defBody s_law) (defScope s_law) .none kV dc pm an (.ref cd) ct) ["_law_script"] (spLaw K Pt P2) := by
  have G__law_random : FnOk P w K mg base CX0 1 T.f__law_random T.fd__law_random ["_law_script", "_law_salt"] (spRandom K) := ok_random T
  have G__law_below : FnOk P w K mg base CX0 1 T.f__law_below T.fd__law_below ["_law_d", "_law_limit"] spBelow := ok_below T
  have G__law_equal : FnOk P w K mg base CX0 5 T.f__law_equal T.fd__law_equal ["_law_actual", "_law_expected"] (spEq 4) := ok_equal 4 T
  have G_judge_plan : FnOk P w K mg base CX0 5 T.f_judge_plan T.fd_judge_plan ["slots", "blocks", "plan"] spJudge := ok_judge T
  have GR := ok_refused (P := P) (w := w) (base := base) (P1 := Pt) (Pt := P2) T HP lk2 hcd2 TB2 np
  have GE : FnS P w K mg base C8.CX0 10 T.f__law_error_of ["_law_call"] (spErr P w base T) := ok_errorOf T
  refine fn_of lk hcd sc_law (fun vs H Q E h => ?_) (fun A outer s0 H vs Q E hr h => ?_)
  · obtain ⟨a, ns, rfl, _⟩ := h
    rfl
  · obtain ⟨a, ns, rfl, hS, hlen, hP, hP2, k⟩ := h
    refine ⟨_, (pss_cons (ps_set (i := 1) sc_law.nd rfl (.inr rfl) (pe_call G__law_random (hr.mono (by first | decide | omega)) (by rfl) T.g__law_random T.F__law_random.kp (b__law_random T) .nil pass0 (pa_cons (pv 0) (pa_cons pe_int pa_nil))))
      (pss_cons (ps_if (pt_not (pt_val (pe_call GR (hr.mono (by first | decide | omega)) (by rfl) T.g__law_are_refused T.kp__law_are_refused (.all fun us hl => match us, hl with | [_], _ => rfl) .nil pass0 (pa_cons (pv 1) pa_nil)))) (pss_one (ps_ret pe_bl)) pss_nil)
      (pss_cons (ps_for PassesOwn.leaving rfl (pi_range1 (by rfl) T.z_range (pa_cons pe_int pa_nil)) (pg_name (i := 2) sc_law.nd rfl (.inl rfl)) (C8.pss_cut (ps_asg (pe_tup (pa_cons (pe_op op_add pe_int (pe_call G__law_below (hr.mono (by first | decide | omega)) (by rfl) T.g__law_below T.F__law_below.kp (b__law_below T) .nil pass0 (pa_cons (pv 1) (pa_cons pe_int pa_nil)))) (pa_cons (pe_op op_add pe_int (pe_call G__law_below (hr.mono (by first | decide | omega)) (by rfl) T.g__law_below T.F__law_below.kp (b__law_below T) .nil pass0 (pa_cons (pv 1) (pa_cons pe_int pa_nil)))) pa_nil))) (pg_tup (by rfl) (pgs_cons (pg_name (i := 16) sc_law.nd rfl (.inr rfl)) (pgs_cons (pg_name (i := 3) sc_law.nd rfl (.inr rfl)) pgs_nil))))
      (C8.pss_cut (ps_asg (pe_tup (pa_cons (pe_lc (own := [("_law_k", 17)]) (g := gName 17) rfl sc_law.nd (pi_range1 (by rfl) T.z_range (pa_cons (pe_call G__law_below (hr.mono (by first | decide | omega)) (by rfl) T.g__law_below T.F__law_below.kp (b__law_below T) .nil pass0 (pa_cons (pv 1) (pa_cons pe_int pa_nil))) pa_nil)) (blkOk_by (N := ["_law_script", "_law_d", "_law_step", "_law_few", "_law_kept", "_law_plan", "_law_misses", "_law_bad", "_law_block", "_law_some", "_law_entry", "_law_odd", "_law_at", "_law_index", "_law_blocks", "_law_given", "_law_slots", "_law_k", "_law_other"]) (sc := defScope s_law) (by decide +kernel)) (fun _ _ _ _ _ => pg_name (i := 17) sc_law.nd rfl (.inl rfl)) (fun _ _ _ _ _ => pts_nil) (fun _ _ _ _ _ => (pe_call G__law_below (hr.mono (by first | decide | omega)) (by rfl) T.g__law_below T.F__law_below.kp (b__law_below T) .nil pass0 (pa_cons (pv 1) (pa_cons (pv 3) pa_nil))))) (pa_cons (pe_lst pa_nil) (pa_cons (pe_lst pa_nil) (pa_cons pe_int pa_nil))))) (pg_tup (by rfl) (pgs_cons (pg_name (i := 14) sc_law.nd rfl (.inr rfl)) (pgs_cons (pg_name (i := 4) sc_law.nd rfl (.inl rfl)) (pgs_cons (pg_name (i := 5) sc_law.nd rfl (.inl rfl)) (pgs_cons (pg_name (i := 6) sc_law.nd rfl (.inl rfl)) pgs_nil))))))
      (C8.pss_cut (ps_set (i := 7) sc_law.nd rfl (.inl rfl) (pe_lst pa_nil))
      (C8.pss_cut (ps_for PassesOwn.leaving rfl (pi_list (pv 14)) (pg_name (i := 8) sc_law.nd rfl (.inl rfl)) (C8.pss_cut (ps_set (i := 9) sc_law.nd rfl (.inl rfl) (pe_op op_cat (pe_lst (pa_cons pe_non pa_nil)) (pe_op op_rep (pe_op op_cat (pe_op op_rep (pe_lst (pa_cons pe_str pa_nil)) (pe_callTy call_int1 (by rfl) T.z_int (by decide +kernel) (pa_cons (pe_cmpR op_lt (pe_callB call_len_seq (by rfl) T.z_len (by decide +kernel) (pa_cons (pv 4) pa_nil)) (pv 16) (nomark _)) pa_nil))) (pv 4)) (pe_callTy call_int1 (by rfl) T.z_int (by decide +kernel) (pa_cons (pe_cmpR op_notIn_seq (pv 8) (pv 4) (by rfl)) pa_nil)))))
      (C8.pss_cut (ps_set (i := 10) sc_law.nd rfl (.inr rfl) (pe_ix ix_list (pv 9) (pe_call G__law_below (hr.mono (by first | decide | omega)) (by rfl) T.g__law_below T.F__law_below.kp (b__law_below T) .nil pass0 (pa_cons (pv 1) (pa_cons (pe_callB call_len_seq (by rfl) T.z_len (by decide +kernel) (pa_cons (pv 9) pa_nil)) pa_nil))) (fun _ _ => rfl)))
      (C8.pss_cut (ps_set (i := 11) sc_law.nd rfl (.inl rfl) (pe_ix ix_list (pe_lst (pa_cons pe_str (pa_cons pe_int (pa_cons pe_str (pa_cons pe_bl (pa_cons (pe_tup (pa_cons pe_int pa_nil)) (pa_cons (pv 8) pa_nil))))))) (pe_call G__law_below (hr.mono (by first | decide | omega)) (by rfl) T.g__law_below T.F__law_below.kp (b__law_below T) .nil pass0 (pa_cons (pv 1) (pa_cons pe_int pa_nil))) (fun _ _ => rfl)))
      (C8.pss_cut (ps_expr (pe_bm PySem.F.plainAttrs_list PySem.F.slot_list_append PySem.F.type_list_append mt_append (pv 7) (pa_cons (pe_ifExp (PW.pt (pw_or (pt_cmpR (op_neD hr.units) (pv 11) pe_str (nomark _)) (pw_or1 (pt_cmpR op_notIn_seq pe_str (pv 9) (by rfl))))) (pv 11) pe_int) pa_nil)))
      (C8.pss_cut (ps_set (i := 6) sc_law.nd rfl (.inl rfl) (pe_op op_add (pv 6) (pe_callTy call_int1 (by rfl) T.z_int (by decide +kernel) (pa_cons (pe_cmpR op_notIn_seq (pv 8) (pv 4) (by rfl)) pa_nil))))
      (C8.pss_cut (ps_if (pt_cmpR op_notN (pv 10) pe_non (nomark _)) (pss_one (ps_set (i := 4) sc_law.nd rfl (.inl rfl) (pe_op op_cat (pe_lc (own := [("_law_other", 18)]) (g := gName 18) rfl sc_law.nd (pi_list (pv 4)) (blkOk_by (N := ["_law_script", "_law_d", "_law_step", "_law_few", "_law_kept", "_law_plan", "_law_misses", "_law_bad", "_law_block", "_law_some", "_law_entry", "_law_odd", "_law_at", "_law_index", "_law_blocks", "_law_given", "_law_slots", "_law_k", "_law_other"]) (sc := defScope s_law) (by decide +kernel)) (fun _ _ _ _ _ => pg_name (i := 18) sc_law.nd rfl (.inl rfl)) (fun _ _ _ _ _ => (pts_one (pt_cmpR op_ne (pv 18) (pv 10) (nomark _)))) (fun _ _ _ _ _ => (pv 18))) (pe_lst (pa_cons (pv 8) pa_nil))))) pss_nil)
      (pss_one (ps_expr (pe_bm PySem.F.plainAttrs_list PySem.F.slot_list_append PySem.F.type_list_append mt_append (pv 5) (pa_cons (pv 10) pa_nil)))))))))))
      (C8.pss_cut (ps_if (pt_not (pt_val (pe_call G__law_equal (hr.mono (by first | decide | omega)) (by rfl) T.g__law_equal T.F__law_equal.kp (b__law_equal T) .nil pass0 (pa_cons (pe_lst (pa_cons (pe_call G_judge_plan (hr.mono (by first | decide | omega)) (by rfl) T.g_judge_plan T.F_judge_plan.kp (b_judge_plan T) .nil pass0 (pa_cons (pv 16) (pa_cons (pv 14) (pa_cons (pv 5) pa_nil)))) pa_nil)) (pa_cons (pe_lst (pa_cons (pv 6) pa_nil)) pa_nil))))) (pss_one (ps_ret pe_bl)) pss_nil)
      (C8.pss_cut (ps_set (i := 12) sc_law.nd rfl (.inl rfl) (pe_call G__law_below (hr.mono (by first | decide | omega)) (by rfl) T.g__law_below T.F__law_below.kp (b__law_below T) .nil pass0 (pa_cons (pv 1) (pa_cons (pe_op op_add (pe_callB call_len_seq (by rfl) T.z_len (by decide +kernel) (pa_cons (pv 14) pa_nil)) pe_int) pa_nil))))
      (C8.pss_cut (ps_asg (pe_tup (pa_cons (pe_op op_cat (pe_op op_cat (pe_slice sl_list (pv 5) po_none (po_some (pv 12))) (pe_slice sl_list (pv 7) (po_some (pv 12)) (po_some (pe_op op_add (pv 12) pe_int)))) (pe_op op_rep (pe_lst (pa_cons pe_non pa_nil)) pe_int)) (pa_cons (pe_callB (call_min2 rfl) (by rfl) T.z_min (by decide +kernel) (pa_cons (pv 12) (pa_cons (pe_callB call_len_seq (by rfl) T.z_len (by decide +kernel) (pa_cons (pv 14) pa_nil)) pa_nil))) pa_nil))) (pg_tup (by rfl) (pgs_cons (pg_name (i := 15) sc_law.nd rfl (.inr rfl)) (pgs_cons (pg_name (i := 13) sc_law.nd rfl (.inl rfl)) pgs_nil))))
      (C8.pss_cut (ps_if (pt_cmpR op_eq (pe_call G__law_below (hr.mono (by first | decide | omega)) (by rfl) T.g__law_below T.F__law_below.kp (b__law_below T) .nil pass0 (pa_cons (pv 1) (pa_cons pe_int pa_nil))) pe_int (nomark _)) (pss_cons (ps_asg (pe_tup (pa_cons (pe_ix ix_list (pe_lst (pa_cons (pe_slice sl_list (pv 5) po_none (po_some (pe_callB (call_max2 rfl) (by rfl) T.z_max (by decide +kernel) (pa_cons pe_int (pa_cons (pe_op op_sub (pv 12) pe_int) pa_nil))))) (pa_cons (pe_callTy call_tuple_of (by rfl) T.z_tuple (by decide +kernel) (pa_cons (pv 5) pa_nil)) (pa_cons pe_non pa_nil)))) (pe_call G__law_below (hr.mono (by first | decide | omega)) (by rfl) T.g__law_below T.F__law_below.kp (b__law_below T) .nil pass0 (pa_cons (pv 1) (pa_cons pe_int pa_nil))) (fun _ _ => rfl)) (pa_cons pe_int pa_nil))) (pg_tup (by rfl) (pgs_cons (pg_name (i := 15) sc_law.nd rfl (.inr rfl)) (pgs_cons (pg_name (i := 13) sc_law.nd rfl (.inl rfl)) pgs_nil))))
      (pss_cons (ps_set (i := 13) sc_law.nd rfl (.inl rfl) (pe_ifExp (pt_val (pe_callB call_isi (by rfl) T.z_isinstance (by decide +kernel) (pa_cons (pv 15) (pa_cons (pe_bltn (v := .ty "list") (by rfl) T.z_list (by decide +kernel) rfl) pa_nil)))) (pe_callB (call_max2 rfl) (by rfl) T.z_max (by decide +kernel) (pa_cons pe_int (pa_cons (pe_op op_sub (pv 12) pe_int) pa_nil))) pe_int))
      (pss_one (ps_if (PW.pt (pw_and (pt_val (pe_callB call_isi (by rfl) T.z_isinstance (by decide +kernel) (pa_cons (pv 15) (pa_cons (pe_bltn (v := .ty "list") (by rfl) T.z_list (by decide +kernel) rfl) pa_nil)))) (pw_and1 (pt_cmpR op_eq (pe_callB call_len_seq (by rfl) T.z_len (by decide +kernel) (pa_cons (pv 15) pa_nil)) (pe_callB call_len_seq (by rfl) T.z_len (by decide +kernel) (pa_cons (pv 14) pa_nil)) (nomark _))))) (pss_one ps_continue) pss_nil)))) pss_nil)
      (pss_one (ps_if (pt_cmpR (op_neD hr.units) (pe_callS GE (hr.mono (by first | decide | omega)) (by rfl) T.g__law_error_of T.F__law_error_of.kp (C8.pass0 (E := C8.E0)) (pa_cons (pe_lamV TB rfl (hmL Pt P2) rfl (huL np) cap5 rfl (.inl ⟨rfl, rfl⟩)) pa_nil)) (pe_tup (pa_cons pe_str (pa_cons (pv 13) pa_nil))) (nomark _)) (pss_one (ps_ret pe_bl)) pss_nil)))))))))))
      (pss_one (ps_ret pe_bl))))), ?_⟩
    refine ⟨_, rfl, a, 60, ns, rfl, hS, hlen, fun r H1 r0 f1 R1 => ?_⟩
    have W1 : Wd Pt P2 r H1 := ⟨R1, fun p hp => by
      rcases List.mem_cons.mp hp with e | hp
      · rw [e]; exact TabN.nil (f1 _ _ hP (by simp))
      · rw [List.mem_singleton.mp hp]; exact TabN.nil (f1 _ _ hP2 (by simp))⟩
    refine ⟨_, rfl, r, rfl, W1, fun H2 W2 => ⟨_, rfl, iteF ?_⟩⟩
    refine ⟨3, rfl, by decide, by decide, for_range (lo := 0) (n := 3) (fun i σ' H' => ∃ (v2 v3 v4 v5 v6 v7 v8 v9 v10 v11 v12 v13 v14 v15 v16 : Option V), σ' = [some (.ref a), some (.ref r), v2, v3, v4, v5, v6, v7, v8, v9, v10, v11, v12, v13, v14, v15, v16, none, none] ∧ Wd Pt P2 r H') ⟨none, none, none, none, none, none, none, none, none, none, none, none, none, none, none, rfl, W2⟩ ?_ ?_⟩
    · rintro i σ' H3 hi ⟨v2, v3, v4, v5, v6, v7, v8, v9, v10, v11, v12, v13, v14, v15, v16, rfl, W0⟩
      clear W1 W2 R1 f1 r0 hP hP2 hS
      -- slots, few
      refine ⟨fun σ' H' => ∃ (s few : Nat) (v4 v5 v6 v7 v8 v9 v10 v11 v12 v13 v14 v15 : Option V), σ' = [some (.ref a), some (.ref r), some (.int (0 + (i : Int))), some (.int (few : Int)), v4, v5, v6, v7, v8, v9, v10, v11, v12, v13, v14, v15, some (.int (s : Int)), none, none] ∧ 1 ≤ s ∧ s ≤ 4 ∧ 2 ≤ few ∧ few ≤ 6 ∧ Wd Pt P2 r H', ?_, ?_⟩
      · refine ⟨_, rfl, r, 4, rfl, W0.rnd, by decide, by decide, fun x H1 hx f1 R1 => ?_⟩
        have W1 := W0.draw f1 R1
        refine ⟨_, _, rfl, rfl, _, rfl, r, 5, rfl, W1.rnd, by decide, by decide, fun y H2 hy f2 R2 => ?_⟩
        refine ⟨_, _, rfl, rfl, sz_le (by simp), fun t ht => ⟨t, _, rfl, SqT.of upd_same, rfl, _, _, rfl, _, _, rfl, rfl, ?_⟩⟩
        exact ⟨1 + x, 2 + y, _, _, _, _, _, _, _, _, _, _, _, _, by rw [show ((1 + x : Nat) : Int) = 1 + (x : Int) by omega, show ((2 + y : Nat) : Int) = 2 + (y : Int) by omega]; rfl, by omega, by omega, by omega, by omega, (W1.draw f2 R2).new ht⟩
      clear W0
      rintro _ H3 ⟨s, few, v4, v5, v6, v7, v8, v9, v10, v11, v12, v13, v14, v15, rfl, hs1, hs2, hf1, hf2, W1⟩
      -- blocks, kept, plan, misses
      refine ⟨fun σ' H' => ∃ (bb kk pl : Addr) (xs : List Int) (v7 v8 v9 v10 v11 v12 v13 v15 : Option V), σ' = [some (.ref a), some (.ref r), some (.int (0 + (i : Int))), some (.int (few : Int)), some (.ref kk), some (.ref pl), some (.int 0), v7, v8, v9, v10, v11, v12, v13, some (.ref bb), v15, some (.int (s : Int)), none, none] ∧ Wd Pt P2 r H' ∧ H' bb = some (.lst (xs.map V.int)) ∧ H' kk = some (.lst []) ∧ H' pl = some (.lst []) ∧ xs.length ≤ 14 ∧ (∀ x ∈ xs, 0 ≤ x ∧ x < few) ∧ bb ≠ r ∧ kk ≠ r ∧ pl ≠ r ∧ pl ≠ bb ∧ pl ≠ kk, ?_, ?_⟩
      · refine ⟨_, rfl, r, 15, rfl, W1.rnd, by decide, by decide, fun n H4 hn f4 R4 => ?_⟩
        have W4 := W1.draw f4 R4
        refine ⟨n, rfl, by omega, by omega, fun D hD => ?_⟩
        have hDr := W4.out hD
        refine lc_range (lo := 0) (n := n) (fun j H' => Wd Pt P2 r H' ∧ ∃ xs : List Int, H' D = some (.lst (xs.map V.int)) ∧ xs.length = j ∧ ∀ x ∈ xs, 0 ≤ x ∧ x < few) ⟨W4.new hD, [], upd_same, rfl, fun x hx => by cases hx⟩ ?_ ?_
        · rintro j H5 hj ⟨W5, ds, e5, l5, g5⟩
          refine ⟨rfl, _, rfl, _, rfl, r, few, rfl, W5.rnd, by omega, by omega, fun y H6 hy f6 R6 => ?_⟩
          have e6 := f6 _ _ e5 (by simpa using hDr)
          refine ⟨_, e6, by rw [List.length_map, l5]; exact sz_lt (by omega), (W5.draw f6 R6).put e6 hDr, ds ++ [(y : Int)], ?_, by rw [List.length_append, l5]; rfl, ?_⟩
          · rw [upd_same, List.map_append]
            rfl
          · intro x hx
            rcases List.mem_append.mp hx with hx | hx
            · exact g5 x hx
            · rw [List.mem_singleton.mp hx]
              exact ⟨by omega, by omega⟩
        · rintro H5 ⟨W5, ds, e5, l5, g5⟩
          refine ⟨sz_le (by simp), fun kk hk => ⟨sz_le (by simp), fun pl hp => ⟨sz_le (by simp), fun t ht => ⟨t, _, rfl, SqT.of upd_same, rfl, _, _, rfl, _, _, rfl, _, _, rfl, _, _, rfl, rfl, ?_⟩⟩⟩⟩
          have F := ((Fr.new (S := []) (o := .lst []) hk).trans (Fr.new (o := .lst []) hp)).trans (Fr.new (o := .tup [.ref D, .ref kk, .ref pl, .int 0]) ht)
          have F2 := (Fr.new (S := []) (o := .lst []) hp).trans (Fr.new (o := .tup [.ref D, .ref kk, .ref pl, .int 0]) ht)
          exact ⟨D, kk, pl, ds, _, _, _, _, _, _, _, _, rfl, W5.keep0 F, F _ _ e5 (by simp), F2 _ _ upd_same (by simp), (upd_ne (free_upd ht).2.symm).trans upd_same, by omega, g5, hDr, W5.out hk, (W5.new hk).out hp, (fun z => by rw [z] at hp; rw [(upd_ne (ne_of_none e5 hk)).trans e5] at hp; cases hp), (free_upd hp).2⟩
      clear W1
      rintro _ H3 ⟨bb, kk, pl, xs, v7, v8, v9, v10, v11, v12, v13, v15, rfl, W2, eb, ek, ep, hxl, hx, nb, nk, npp, pB, pk⟩
      -- bad
      refine ⟨fun σ' H' => ∃ (bl : Addr) (v8 v9 v10 v11 v12 v13 v15 : Option V), σ' = [some (.ref a), some (.ref r), some (.int (0 + (i : Int))), some (.int (few : Int)), some (.ref kk), some (.ref pl), some (.int 0), some (.ref bl), v8, v9, v10, v11, v12, v13, some (.ref bb), v15, some (.int (s : Int)), none, none] ∧ Jn Pt P2 r s bb kk pl bl xs [] [] [] H', ?_, ?_⟩
      · refine ⟨sz_le (by simp), fun bl hb => ?_⟩
        have hb' : bl ≠ r := W2.out hb
        exact ⟨bl, _, _, _, _, _, _, _, rfl, ⟨W2.new hb, (upd_ne (ne_of_none eb hb)).trans eb, (upd_ne (ne_of_none ek hb)).trans ek, (upd_ne (ne_of_none ep hb)).trans ep, upd_same, nb, nk, npp, hb', (fun z => by rw [← z] at hb; rw [ep] at hb; cases hb), pB, pk, (fun z => by rw [z] at hb; rw [eb] at hb; cases hb), (fun z => by rw [z] at hb; rw [ek] at hb; cases hb), fun j x u _ e => by simp at e⟩⟩
      clear W2 eb ek ep pk nk
      rintro _ H3 ⟨bl, v8, v9, v10, v11, v12, v13, v15, rfl, J3⟩
      -- the walk
      refine ⟨fun σ' H' => ∃ (kk : Addr) (l : List (Int × Ent)) (bs : List V) (v8 v9 v10 v11 v12 v13 v15 : Option V), σ' = [some (.ref a), some (.ref r), some (.int (0 + (i : Int))), some (.int (few : Int)), some (.ref kk), some (.ref pl), some (.int (missOf [] l)), some (.ref bl), v8, v9, v10, v11, v12, v13, some (.ref bb), v15, some (.int (s : Int)), none, none] ∧ Jn Pt P2 r s bb kk pl bl xs (keptOf l) l bs H' ∧ l.map (·.1) = xs ∧ bs.length = l.length ∧ Valid s l, ?_, ?_⟩
      · refine ⟨_, rfl, bb, rfl, ⟨_, SqL.of J3.eb⟩, for_list (K := K) (a := bb) (xs := xs.map V.int) (fun m σ' H' => ∃ (kk : Addr) (l : List (Int × Ent)) (bs : List V) (v8 v9 v10 v11 v12 v13 v15 : Option V), σ' = [some (.ref a), some (.ref r), some (.int (0 + (i : Int))), some (.int (few : Int)), some (.ref kk), some (.ref pl), some (.int (missOf [] l)), some (.ref bl), v8, v9, v10, v11, v12, v13, some (.ref bb), v15, some (.int (s : Int)), none, none] ∧ Jn Pt P2 r s bb kk pl bl xs (keptOf l) l bs H' ∧ l.length = m ∧ l.map (·.1) = xs.take m ∧ bs.length = m ∧ Valid s l) ⟨_, [], [], _, _, _, _, _, _, _, rfl, J3, rfl, rfl, rfl, fun i q e => by simp at e⟩ (fun m σ' H' _ h => by obtain ⟨kk, l, bs, v8, v9, v10, v11, v12, v13, v15, rfl, J, hll, hlx, hbl, hv⟩ := h; exact SqL.of J.eb) ?_ ?_⟩
        · rintro m x σ' H4 hxi ⟨kk, l, bs, v8, v9, v10, v11, v12, v13, v15, rfl, J, hll, hlx, hbl, hv⟩
          obtain ⟨b, rfl, hb⟩ := int_at hxi
          have hi := lt_of_at hb
          have hkl := keptOf_len l
          clear J3
          -- some
          refine ⟨fun σ' H' => ∃ (sm : Addr) (v10 v11 v12 v13 v15 : Option V), σ' = [some (.ref a), some (.ref r), some (.int (0 + (i : Int))), some (.int (few : Int)), some (.ref kk), some (.ref pl), some (.int (missOf [] l)), some (.ref bl), some (.int b), some (.ref sm), v10, v11, v12, v13, some (.ref bb), v15, some (.int (s : Int)), none, none] ∧ Jn Pt P2 r s bb kk pl bl xs (keptOf l) l bs H' ∧ sm ≠ r ∧ H' sm = some (.lst ((someE s (keptOf l) b).map Ent.v)), ?_, ?_⟩
          · refine ⟨sz_le (by simp), fun n1 h1 => ⟨sz_le (by simp), fun n2 h2 => ?_⟩⟩
            have Ja := (J.keep0 (Fr.new (o := .lst [.non]) h1)).keep0 (Fr.new (o := .lst [.str "keep"]) h2)
            refine ⟨_, rfl, kk, _, rfl, .inl (SqL.of Ja.ek), _, rfl, _, _, rfl, rfl, .inr ⟨_, rfl, ?_⟩⟩
            rw [List.length_map]
            refine ⟨n2, _, _, rfl, rfl, upd_same, lo01 _, hi01 _, sz01 _ (by simp), fun n3 h3 => ?_⟩
            rw [rep01]
            generalize hq1 : (if decide (((keptOf l).length : Int) < s) = true then [V.str "keep"] else []) = q1
            have hq1l : q1.length ≤ 1 := by rw [← hq1]; split <;> simp
            have Jb := Ja.keep0 (Fr.new (o := .lst q1) h3)
            refine ⟨_, rfl, n3, kk, _, _, rfl, rfl, upd_same, Jb.ek, sz_le (by rw [List.length_map]; omega), fun n4 h4 => ?_⟩
            have Jc := Jb.keep0 (Fr.new (o := .lst (q1 ++ (keptOf l).map V.int)) h4)
            refine ⟨_, rfl, _, rfl, kk, _, rfl, .inl (SqL.of Jc.ek), rfl, flat_ints _, .inr ⟨_, rfl, ?_⟩⟩
            rw [inV_int, show (if true = true then !decide (b ∈ keptOf l) else decide (b ∈ keptOf l)) = !decide (b ∈ keptOf l) from rfl]
            refine ⟨n4, _, _, rfl, rfl, upd_same, lo01 _, hi01 _, sz01 _ (by rw [List.length_append, List.length_map]; omega), fun n5 h5 => ?_⟩
            rw [rep01]
            have e5 : ([V.non] ++ if (!decide (b ∈ keptOf l)) = true then q1 ++ (keptOf l).map V.int else []) = (someE s (keptOf l) b).map Ent.v := by rw [← hq1, someE_list]
            generalize hq2 : (if (!decide (b ∈ keptOf l)) = true then q1 ++ (keptOf l).map V.int else []) = q2 at *
            have hq2l : q2.length ≤ 101 := by
              rw [← hq2]
              split
              · rw [List.length_append, List.length_map]
                omega
              · simp
            have Jd := Jc.keep0 (Fr.new (o := .lst q2) h5)
            have F1 : Fr [] (upd H4 n1 (.lst [.non])) _ := (((Fr.new (S := []) (o := .lst [.str "keep"]) h2).trans (Fr.new (o := .lst q1) h3)).trans (Fr.new (o := .lst (q1 ++ (keptOf l).map V.int)) h4)).trans (Fr.new (o := .lst q2) h5)
            refine ⟨n1, n5, _, _, rfl, rfl, F1 _ _ upd_same (by simp), upd_same, sz_le (by simp; omega), fun sm hs => ?_⟩
            rw [e5]
            exact ⟨sm, _, _, _, _, _, rfl, Jd.keep0 (Fr.new hs), Jd.wd.out hs, upd_same⟩
          clear J
          rintro _ H4 ⟨sm, v10, v11, v12, v13, v15, rfl, J, ns', es⟩
          have hse : ((someE s (keptOf l) b).map Ent.v).length ≤ 200 := by
            rw [someE_list]
            simp only [List.length_append, List.length_cons, List.length_nil]
            split
            · rw [List.length_append, List.length_map]
              split <;> simp <;> omega
            · simp
          -- entry
          refine ⟨fun σ' H' => ∃ (e : Ent) (v11 v12 v13 v15 : Option V), σ' = [some (.ref a), some (.ref r), some (.int (0 + (i : Int))), some (.int (few : Int)), some (.ref kk), some (.ref pl), some (.int (missOf [] l)), some (.ref bl), some (.int b), some (.ref sm), some (e.v), v11, v12, v13, some (.ref bb), v15, some (.int (s : Int)), none, none] ∧ Jn Pt P2 r s bb kk pl bl xs (keptOf l) l bs H' ∧ H' sm = some (.lst ((someE s (keptOf l) b).map Ent.v)) ∧ canBe s (keptOf l) b e = true, ?_, ?_⟩
          · refine ⟨_, rfl, _, rfl, _, rfl, sm, _, rfl, .inl (SqL.of es), ?_⟩
            refine ⟨r, ((someE s (keptOf l) b).map Ent.v).length, rfl, J.wd.rnd, by rw [List.length_map]; exact Nat.succ_pos _, by omega, fun z H5 hz f5 R5 => ?_⟩
            rw [List.length_map] at hz
            have he := List.getElem?_eq_getElem hz
            refine ⟨sm, _, (z : Int), _, rfl, rfl, SqL.of (f5 _ _ es (by simpa using ns')), atI_nat (by rw [List.getElem?_map, he]; rfl), ?_⟩
            exact ⟨_, _, _, _, _, rfl, J.draw f5 R5, f5 _ _ es (by simpa using ns'), someE_ok (List.getElem_mem hz)⟩
          clear J es
          rintro _ H4 ⟨e, v11, v12, v13, v15, rfl, J, es, hce⟩
          -- odd
          refine ⟨fun σ' H' => ∃ (odd : V) (v12 v13 v15 : Option V), σ' = [some (.ref a), some (.ref r), some (.int (0 + (i : Int))), some (.int (few : Int)), some (.ref kk), some (.ref pl), some (.int (missOf [] l)), some (.ref bl), some (.int b), some (.ref sm), some (e.v), some odd, v12, v13, some (.ref bb), v15, some (.int (s : Int)), none, none] ∧ Jn Pt P2 r s bb kk pl bl xs (keptOf l) l bs H' ∧ H' sm = some (.lst ((someE s (keptOf l) b).map Ent.v)) ∧ Odd6 H' b odd, ?_, ?_⟩
          · refine ⟨sz_le (by simp), fun q hq => ⟨_, rfl, sz_le (by simp), fun g hg => ?_⟩⟩
            have Ja := J.keep0 (Fr.new (o := .tup [.int 0]) hq)
            have Jb := Ja.keep0 (Fr.new (o := .lst [.str "keep", .int 99, .str "Keep", .bl true, .ref q, .int b]) hg)
            have F := (Fr.new (S := []) (o := .tup [.int 0]) hq).trans (Fr.new (o := .lst [.str "keep", .int 99, .str "Keep", .bl true, .ref q, .int b]) hg)
            refine ⟨_, rfl, r, 6, rfl, Jb.wd.rnd, by decide, by decide, fun z H5 hz f5 R5 => ?_⟩
            have q5 := rnd_tup Jb.wd.rnd f5 ((upd_ne (o := .lst [.str "keep", .int 99, .str "Keep", .bl true, .ref q, .int b]) (free_upd hg).2.symm).trans upd_same)
            obtain ⟨odd, ho, od⟩ := odd6_at (b := b) q5 hz
            refine ⟨g, _, (z : Int), odd, rfl, rfl, SqL.of (f5 _ _ upd_same (by simpa using Ja.wd.out hg)), ho, ?_⟩
            exact ⟨odd, _, _, _, rfl, Jb.draw f5 R5, f5 _ _ (F _ _ es (by simp)) (by simpa using ns'), od⟩
          clear J es
          rintro _ H4 ⟨odd, v12, v13, v15, rfl, J, es, od⟩
          have h99 : (99 : Int) ∉ keptOf l := fun h => by
            have h2 := mem_keptOf l _ h
            rw [hlx] at h2
            have := hx _ (List.mem_of_mem_take h2)
            omega
          -- bad
          refine ⟨fun σ' H' => ∃ (bs' : List V) (v12 v13 v15 : Option V), σ' = [some (.ref a), some (.ref r), some (.int (0 + (i : Int))), some (.int (few : Int)), some (.ref kk), some (.ref pl), some (.int (missOf [] l)), some (.ref bl), some (.int b), some (.ref sm), some (e.v), some odd, v12, v13, some (.ref bb), v15, some (.int (s : Int)), none, none] ∧ Jn Pt P2 r s bb kk pl bl xs (keptOf l) l bs' H' ∧ bs'.length = l.length + 1, ?_, ?_⟩
          · obtain ⟨d, d1, d2, d3⟩ := od.data (K := K)
            have hbl' : bs.length < 100 := by omega
            have fin : ∀ u : V, Can H4 s (keptOf l) b u false → Jn Pt P2 r s bb kk pl bl xs (keptOf l) l (bs ++ [u]) (upd H4 bl (.lst (bs ++ [u]))) := fun u hu => by
              have tk : ∀ c ys, H4 c = some (.tup ys) → (upd H4 bl (.lst (bs ++ [u]))) c = some (.tup ys) := fun c ys e => (upd_ne (fun z => by rw [z, J.el] at e; cases e)).trans e
              refine ⟨J.wd.put J.el J.nl, (upd_ne J.lB.symm).trans J.eb, (upd_ne J.lk.symm).trans J.ek, (upd_ne J.pb).trans J.ep, upd_same, J.nb, J.nk, J.np, J.nl, J.pb, J.pB, J.pk, J.lB, J.lk, fun j x v e1 e2 => ?_⟩
              by_cases hj : j < bs.length
              · rw [List.getElem?_append_left hj] at e2
                exact (J.bad j x v e1 e2).keep tk
              · rw [List.getElem?_append_right (by omega)] at e2
                have ej : j = bs.length := by
                  have := lt_of_at e2
                  simp only [List.length_cons, List.length_nil] at this
                  omega
                subst ej
                rw [Nat.sub_self] at e2
                cases e2
                have ex : x = b := by
                  rw [hbl] at e1
                  rw [hb] at e1
                  exact (Option.some.inj e1).symm
                rw [ex, show l.take bs.length = l by rw [hbl, ← hll, List.take_length]]
                exact hu.keep tk
            refine ⟨_, rfl, .inl ⟨rfl, _, SqL.of J.el⟩, _, rfl, d, .str "keep", d1, .str _, d2, by decide +kernel, _, rfl, ?_⟩
            rw [d3]
            by_cases hk : odd = .str "keep"
            · rw [decide_eq_true hk]
              refine iteF ⟨_, rfl, sm, _, rfl, .inl (SqL.of es), rfl, someE_flat _, _, rfl, ?_⟩
              rw [someE_keep]
              have hcan : Can H4 s (keptOf l) b (.str "keep") (decide (b ∉ keptOf l) && decide (((keptOf l).length : Int) < s)) := .ent .keep
              by_cases hc : (decide (b ∉ keptOf l) && decide (((keptOf l).length : Int) < s)) = true
              · rw [hc]
                refine iteF ⟨bl, bs, _, rfl, rfl, J.el, sz_lt (by omega), ?_⟩
                have h0 : canBe s (keptOf l) b (.drop 99) = false := by simp [canBe, h99]
                exact ⟨_, _, _, _, rfl, fin _ (by rw [← h0]; exact .ent (.drop 99)), by simp; omega⟩
              · rw [Bool.not_eq_true] at hc
                rw [hc] at hcan ⊢
                refine iteT ⟨_, rfl, bl, bs, _, rfl, rfl, J.el, sz_lt (by omega), ?_⟩
                exact ⟨_, _, _, _, rfl, fin _ (by rw [hk]; exact hcan), by simp; omega⟩
            · rw [decide_eq_false hk]
              refine iteT ⟨_, rfl, bl, bs, _, rfl, rfl, J.el, sz_lt (by omega), ?_⟩
              exact ⟨_, _, _, _, rfl, fin _ (od.can hk h99), by simp; omega⟩
          clear J es od
          rintro _ H4 ⟨bs', v12, v13, v15, rfl, J, hbs'⟩
          -- misses
          refine ⟨fun σ' H' => ∃ (v12 v13 v15 : Option V), σ' = [some (.ref a), some (.ref r), some (.int (0 + (i : Int))), some (.int (few : Int)), some (.ref kk), some (.ref pl), some (.int (missOf [] l + (if b ∈ keptOf l then 0 else 1))), some (.ref bl), some (.int b), some (.ref sm), some (e.v), some odd, v12, v13, some (.ref bb), v15, some (.int (s : Int)), none, none] ∧ Jn Pt P2 r s bb kk pl bl xs (keptOf l) l bs' H', ?_, ?_⟩
          · refine ⟨_, rfl, _, rfl, _, rfl, kk, _, rfl, .inl (SqL.of J.ek), rfl, flat_ints _, .inr ⟨_, rfl, ?_⟩⟩
            rw [inV_int, show (if true = true then !decide (b ∈ keptOf l) else decide (b ∈ keptOf l)) = !decide (b ∈ keptOf l) from rfl]
            refine ⟨_, _, rfl, rfl, ?_⟩
            have e : (if (!decide (b ∈ keptOf l)) = true then (1 : Int) else 0) = (if b ∈ keptOf l then 0 else 1) := by by_cases h : b ∈ keptOf l <;> simp [h]
            rw [e]
            exact ⟨_, _, _, rfl, J⟩
          clear J
          rintro _ H4 ⟨v12, v13, v15, rfl, J⟩
          -- kept
          refine ⟨fun σ' H' => ∃ (kk' : Addr) (v12 v13 v15 : Option V), σ' = [some (.ref a), some (.ref r), some (.int (0 + (i : Int))), some (.int (few : Int)), some (.ref kk'), some (.ref pl), some (.int (missOf [] l + (if b ∈ keptOf l then 0 else 1))), some (.ref bl), some (.int b), some (.ref sm), some (e.v), some odd, v12, v13, some (.ref bb), v15, some (.int (s : Int)), none, none] ∧ Jn Pt P2 r s bb kk' pl bl xs (keptAfter (keptOf l) b e) l bs' H', ?_, ?_⟩
          · cases e with
            | no => exact ⟨_, rfl, rfl, _, rfl, iteF ⟨kk, _, _, _, rfl, J⟩⟩
            | keep =>
              refine ⟨_, rfl, rfl, _, rfl, iteT ?_⟩
              refine ⟨_, rfl, kk, rfl, ⟨_, SqL.of J.ek⟩, fun D hD => ?_⟩
              refine lc_list (K := K) (a := kk) (xs := (keptOf l).map V.int) (fun i H' => Fr [] H4 H' ∧ H' D = some (.lst (((keptOf l).take i).map V.int))) ⟨Fr.new hD, upd_same⟩ (fun i H' _ h => SqL.of (h.1 _ _ J.ek (by simp))) ?_ ?_
              · rintro i2 x H5 hx2 ⟨f1, e1⟩
                obtain ⟨u, rfl, hu⟩ := int_at hx2
                have hi2 := lt_of_at hu
                refine ⟨rfl, _, rfl, _, rfl, rfl, _, rfl, iteTb (by show (!decide (V.int u = V.str "keep")) = true; simp) ⟨_, rfl, _, e1, by rw [List.length_map, List.length_take]; exact sz_lt (by omega), f1.upd0 hD, ?_⟩⟩
                rw [upd_same, List.take_succ_eq_append_getElem hi2, List.map_append]
                rw [List.getElem?_eq_getElem hi2] at hu
                rw [Option.some.inj hu]
                rfl
              · rintro H5 ⟨f1, e1⟩
                rw [List.length_map, List.take_length] at e1
                refine ⟨_, rfl, sz_le (by simp), fun g hg => ?_⟩
                refine ⟨D, g, _, _, rfl, rfl, (upd_ne (ne_of_none e1 hg)).trans e1, upd_same, sz_le (by simp; omega), fun p hp => ?_⟩
                have F := (f1.trans (Fr.new (o := .lst [.int b]) hg)).trans (Fr.new (o := .lst ((keptOf l).map V.int ++ [.int b])) hp)
                have J2 := J.keep0 F
                exact ⟨p, _, _, _, rfl, ⟨J2.wd, J2.eb, by rw [upd_same]; show _ = some (HO.lst ((keptOf l ++ [b]).map V.int)); rw [List.map_append]; rfl, J2.ep, J2.el, J2.nb, (J.keep0 (f1.trans (Fr.new (o := .lst [.int b]) hg))).wd.out hp, J2.np, J2.nl, J2.pb, J2.pB, (fun z => by rw [← z, (J.keep0 (f1.trans (Fr.new (o := .lst [.int b]) hg))).ep] at hp; cases hp), J2.lB, (fun z => by rw [← z, (J.keep0 (f1.trans (Fr.new (o := .lst [.int b]) hg))).el] at hp; cases hp), J2.bad⟩⟩
            | drop y =>
              refine ⟨_, rfl, rfl, _, rfl, iteT ?_⟩
              refine ⟨_, rfl, kk, rfl, ⟨_, SqL.of J.ek⟩, fun D hD => ?_⟩
              refine lc_list (K := K) (a := kk) (xs := (keptOf l).map V.int) (fun i H' => Fr [] H4 H' ∧ H' D = some (.lst ((((keptOf l).take i).filter (fun o => decide (o ≠ y))).map V.int))) ⟨Fr.new hD, upd_same⟩ (fun i H' _ h => SqL.of (h.1 _ _ J.ek (by simp))) ?_ ?_
              · rintro i2 x H5 hx2 ⟨f1, e1⟩
                obtain ⟨u, rfl, hu⟩ := int_at hx2
                have hi2 := lt_of_at hu
                have hu' := hu
                rw [List.getElem?_eq_getElem hi2] at hu'
                have eu := Option.some.inj hu'
                have hlf := List.length_filter_le (fun o => decide (o ≠ y)) ((keptOf l).take i2)
                rw [List.length_take] at hlf
                have es : ((keptOf l).take (i2 + 1)).filter (fun o => decide (o ≠ y)) = ((keptOf l).take i2).filter (fun o => decide (o ≠ y)) ++ (if decide (u ≠ y) = true then [u] else []) := by
                  rw [List.take_succ_eq_append_getElem hi2, List.filter_append, eu]
                  by_cases hh : u = y <;> simp [hh]
                refine ⟨rfl, _, rfl, _, rfl, rfl, _, rfl, ?_⟩
                by_cases hh : u = y
                · rw [if_neg (by simp [hh]), List.append_nil] at es
                  subst hh
                  refine iteFb (by show (!decide (V.int u = V.int u)) = false; simp) ⟨f1, ?_⟩
                  rw [es]
                  exact e1
                · rw [if_pos (by simp [hh])] at es
                  refine iteTb (by show (!decide (V.int u = V.int y)) = true; rw [decI hh]; rfl) ⟨_, rfl, _, e1, by rw [List.length_map]; exact sz_lt (by omega), f1.upd0 hD, ?_⟩
                  rw [upd_same, es, List.map_append]
                  rfl
              · rintro H5 ⟨f1, e1⟩
                rw [List.length_map, List.take_length] at e1
                have hlf := List.length_filter_le (fun o => decide (o ≠ y)) (keptOf l)
                refine ⟨_, rfl, sz_le (by simp), fun g hg => ?_⟩
                refine ⟨D, g, _, _, rfl, rfl, (upd_ne (ne_of_none e1 hg)).trans e1, upd_same, sz_le (by simp only [List.length_map, List.length_cons, List.length_nil]; omega), fun p hp => ?_⟩
                have F := (f1.trans (Fr.new (o := .lst [.int b]) hg)).trans (Fr.new (o := .lst (((keptOf l).filter (fun o => decide (o ≠ y))).map V.int ++ [.int b])) hp)
                have J2 := J.keep0 F
                exact ⟨p, _, _, _, rfl, ⟨J2.wd, J2.eb, by rw [upd_same]; show _ = some (HO.lst (((keptOf l).filter (fun o => decide (o ≠ y)) ++ [b]).map V.int)); rw [List.map_append]; rfl, J2.ep, J2.el, J2.nb, (J.keep0 (f1.trans (Fr.new (o := .lst [.int b]) hg))).wd.out hp, J2.np, J2.nl, J2.pb, J2.pB, (fun z => by rw [← z, (J.keep0 (f1.trans (Fr.new (o := .lst [.int b]) hg))).ep] at hp; cases hp), J2.lB, (fun z => by rw [← z, (J.keep0 (f1.trans (Fr.new (o := .lst [.int b]) hg))).el] at hp; cases hp), J2.bad⟩⟩
          clear J
          rintro _ H4 ⟨kk', v12, v13, v15, rfl, J⟩
          -- plan
          refine ⟨_, rfl, .inl ⟨rfl, _, SqL.of J.ep⟩, _, rfl, pl, _, e.v, rfl, rfl, J.ep, by rw [List.length_map]; exact sz_lt (by omega), ?_⟩
          have tk : ∀ c ys, H4 c = some (.tup ys) → (upd H4 pl (.lst ((l.map fun q => q.2.v) ++ [e.v]))) c = some (.tup ys) := fun c ys e => (upd_ne (fun z => by rw [z, J.ep] at e; cases e)).trans e
          refine ⟨kk', l ++ [(b, e)], bs', some (.int b), some (.ref sm), some (e.v), some odd, v12, v13, v15, ?_, ⟨J.wd.put J.ep J.np, (upd_ne J.pB.symm).trans J.eb, ?_, ?_, (upd_ne J.pb.symm).trans J.el, J.nb, J.nk, J.np, J.nl, J.pb, J.pB, J.pk, J.lB, J.lk, fun j x v e1 e2 => ?_⟩, by rw [List.length_append, hll]; rfl, ?_, by omega, ?_⟩
          · rw [show missOf [] (l ++ [(b, e)]) = missOf [] l + (if b ∈ keptOf l then 0 else 1) from missOf_snoc (b, e) [] l]
          · rw [upd_ne J.pk.symm, keptOf_snoc]
            exact J.ek
          · rw [upd_same, List.map_append]
            rfl
          · have := lt_of_at e2
            rw [List.take_append_of_le_length (by omega)]
            exact (J.bad j x v e1 e2).keep tk
          · rw [List.map_append, hlx, take_snoc hb]
            rfl
          · intro i2 q hq
            by_cases h2 : i2 < l.length
            · rw [List.getElem?_append_left h2] at hq
              rw [List.take_append_of_le_length (by omega)]
              exact hv i2 q hq
            · rw [List.getElem?_append_right (by omega)] at hq
              have e2 : i2 = l.length := by
                have := lt_of_at hq
                simp only [List.length_cons, List.length_nil] at this
                omega
              subst e2
              rw [Nat.sub_self] at hq
              cases hq
              rw [List.take_append_of_le_length (Nat.le_refl _), List.take_length]
              exact hce
        · rintro σ' H4 ⟨kk, l, bs, v8, v9, v10, v11, v12, v13, v15, rfl, J, hll, hlx, hbl, hv⟩
          rw [List.length_map, List.take_length] at hlx
          exact ⟨kk, l, bs, _, _, _, _, _, _, _, rfl, J, hlx, by omega, hv⟩
      clear J3
      rintro _ H3 ⟨kk, l, bs, v8, v9, v10, v11, v12, v13, v15, rfl, J, hlx, hbl, hv⟩
      subst hlx
      have hll : l.length ≤ 14 := by rw [List.length_map] at hxl; exact hxl
      have hg : GoodR (l.map (·.1)) := ⟨hxl, fun x h => ⟨(hx x h).1, by have := (hx x h).2; omega⟩⟩
      clear hx
      -- the misses
      refine ⟨fun σ' H' => ∃ (v8 v9 v10 v11 v12 v13 v15 : Option V), σ' = [some (.ref a), some (.ref r), some (.int (0 + (i : Int))), some (.int (few : Int)), some (.ref kk), some (.ref pl), some (.int (missOf [] l)), some (.ref bl), v8, v9, v10, v11, v12, v13, some (.ref bb), v15, some (.int (s : Int)), none, none] ∧ Jn Pt P2 r s bb kk pl bl (l.map (·.1)) (keptOf l) l bs H', ?_, ?_⟩
      · refine ⟨_, rfl, _, rfl, _, rfl, (s : Int), bb, pl, l, rfl, by omega, by omega, J.eb, J.ep, hg, hv, fun H4 f4 => ⟨sz_le (by simp), fun l1 hl1 => ?_⟩⟩
        refine ⟨_, rfl, sz_le (by simp), fun l2 hl2 => ?_⟩
        refine ⟨.ref l1, .ref l2, rfl, Eqn.one (n := 3) ((upd_ne (free_upd hl2).2.symm).trans upd_same) upd_same (Eqn.flat rfl _), fun H5 f5 => ⟨_, rfl, iteF ?_⟩⟩
        exact ⟨_, _, _, _, _, _, _, rfl, (((J.keep0 f4).keep0 (Fr.new hl1)).keep0 (Fr.new hl2)).keep0 f5⟩
      clear J
      rintro _ H3 ⟨v8, v9, v10, v11, v12, v13, v15, rfl, J⟩
      -- at
      refine ⟨fun σ' H' => ∃ (at_ : Nat) (v8 v9 v10 v11 v13 v15 : Option V), σ' = [some (.ref a), some (.ref r), some (.int (0 + (i : Int))), some (.int (few : Int)), some (.ref kk), some (.ref pl), some (.int (missOf [] l)), some (.ref bl), v8, v9, v10, v11, some (.int (at_ : Int)), v13, some (.ref bb), v15, some (.int (s : Int)), none, none] ∧ at_ ≤ l.length ∧ Jn Pt P2 r s bb kk pl bl (l.map (·.1)) (keptOf l) l bs H', ?_, ?_⟩
      · refine ⟨_, rfl, _, rfl, bb, _, rfl, .inl (SqL.of J.eb), _, _, rfl, rfl, ?_⟩
        refine ⟨r, ((l.map (·.1)).map V.int).length + 1, rfl, J.wd.rnd, by omega, by rw [List.length_map, List.length_map]; omega, fun at_ H4 ha f4 R4 => ?_⟩
        rw [List.length_map, List.length_map] at ha
        exact ⟨at_, _, _, _, _, _, _, rfl, by omega, J.draw f4 R4⟩
      clear J
      rintro _ H3 ⟨at_, v8, v9, v10, v11, v13, v15, rfl, ha, J⟩
      -- given
      refine ⟨fun σ' H' => ∃ (j : Nat) (given : V) (v8 v9 v10 v11 : Option V), σ' = [some (.ref a), some (.ref r), some (.int (0 + (i : Int))), some (.int (few : Int)), some (.ref kk), some (.ref pl), some (.int (missOf [] l)), some (.ref bl), v8, v9, v10, v11, some (.int (at_ : Int)), some (.int (j : Int)), some (.ref bb), some given, some (.int (s : Int)), none, none] ∧ Jn Pt P2 r s bb kk pl bl (l.map (·.1)) (keptOf l) l bs H' ∧ BadPl H' s (l.map (·.1)) given j ∧ given ≠ .ref r, ?_, ?_⟩
      · refine ⟨_, rfl, _, rfl, (at_ : Int), rfl, pl, _, rfl, SqL.of J.ep, fun p1 h1 => ?_⟩
        rw [cut_to (by rw [List.length_map]; exact ha)]
        have J1 := J.keep0 (Fr.new (o := .lst ((l.map fun q => q.2.v).take at_)) h1)
        refine ⟨_, rfl, _, rfl, (at_ : Int), rfl, ?_⟩
        refine ⟨_, rfl, _, _, rfl, rfl, ((at_ : Int) + 1), rfl, bl, _, rfl, SqL.of J1.el, fun p2 h2 => ?_⟩
        rw [cut_one (by omega)]
        have hp1 : (upd H3 p1 (.lst ((l.map fun q => q.2.v).take at_))) p1 = some (.lst ((l.map fun q => q.2.v).take at_)) := upd_same
        have J2 := J1.keep0 (Fr.new (o := .lst ((bs.drop at_).take 1)) h2)
        refine ⟨p1, p2, _, _, rfl, rfl, (upd_ne (ne_of_none hp1 h2)).trans hp1, upd_same, ?_, fun p3 h3 => ?_⟩
        · simp only [List.length_take, List.length_map, List.length_drop]
          exact sz_le (by omega)
        have J3 := J2.keep0 (Fr.new (o := .lst ((l.map fun q => q.2.v).take at_ ++ (bs.drop at_).take 1)) h3)
        refine ⟨sz_le (by simp), fun n1 h4 => ⟨n1, 20, _, rfl, rfl, upd_same, by decide, by decide, sz_le (by decide), fun n2 h5 => ?_⟩⟩
        have F5 := (Fr.new (S := []) (o := .lst [V.non]) h4).trans (Fr.new (o := .lst (List.replicate (20 : Int).toNat [V.non]).flatten) h5)
        refine ⟨p3, n2, _, _, rfl, rfl, F5 _ _ upd_same (by simp), upd_same, ?_, fun p6 h6 => ?_⟩
        · rw [List.length_append, List.length_take, List.length_take, List.length_map, List.length_drop, show (List.replicate (20 : Int).toNat [V.non]).flatten.length = 20 from by decide]
          exact sz_le (by omega)
        have J6 := (J3.keep0 F5).keep0 (Fr.new (o := .lst ((l.map fun q => q.2.v).take at_ ++ (bs.drop at_).take 1 ++ (List.replicate (20 : Int).toNat [V.non]).flatten)) h6)
        refine ⟨_, rfl, _, rfl, bb, _, rfl, .inl (SqL.of J6.eb), (at_ : Int), _, rfl, ?_⟩
        rw [List.length_map, List.length_map, if_neg (by omega)]
        refine ⟨sz_le (by simp), fun t ht => ⟨t, _, rfl, SqT.of upd_same, rfl, _, _, rfl, _, _, rfl, rfl, ?_⟩⟩
        have J7 := J6.keep0 (Fr.new (o := .tup [.ref p6, .int (at_ : Int)]) ht)
        exact ⟨at_, .ref p6, _, _, _, _, rfl, J7, bad_mid ha (by omega) hv (by decide) (by decide) hll J7.bad ((upd_ne (free_upd ht).2.symm).trans upd_same), fun z => (J3.keep0 F5).wd.out h6 (V.ref.inj z)⟩
      clear J
      rintro _ H3 ⟨j, given, v8, v9, v10, v11, rfl, J, bp, nr⟩
      -- shorter, or no list
      refine ⟨fun σ' H' => ∃ (j : Nat) (given : V) (v8 v9 v10 v11 : Option V), σ' = [some (.ref a), some (.ref r), some (.int (0 + (i : Int))), some (.int (few : Int)), some (.ref kk), some (.ref pl), some (.int (missOf [] l)), some (.ref bl), v8, v9, v10, v11, some (.int (at_ : Int)), some (.int (j : Int)), some (.ref bb), some given, some (.int (s : Int)), none, none] ∧ Jn Pt P2 r s bb kk pl bl (l.map (·.1)) (keptOf l) l bs H' ∧ BadPl H' s (l.map (·.1)) given j ∧ given ≠ .ref r, ?_, ?_⟩
      · refine ⟨_, rfl, r, 4, rfl, J.wd.rnd, by decide, by decide, fun z H4 hz f4 R4 => ⟨rfl, _, rfl, ?_⟩⟩
        have J4 := J.draw f4 R4
        by_cases h0 : z = 0
        · rw [decide_eq_true (show V.int (z : Int) = V.int 0 by rw [h0]; rfl)]
          refine iteT ?_
          refine ⟨_, rfl, _, rfl, _, _, rfl, rfl, 0, _, rfl, ?_⟩
          rw [max_pred]
          refine ⟨((at_ - 1 : Nat) : Int), rfl, pl, _, rfl, SqL.of J4.ep, fun p1 h1 => ?_⟩
          rw [cut_to (by rw [List.length_map]; omega)]
          have J5 := J4.keep0 (Fr.new (o := .lst ((l.map fun q => q.2.v).take (at_ - 1))) h1)
          refine ⟨_, rfl, pl, _, rfl, .inl ⟨SqL.of J5.ep, fun tp htp => ⟨sz_le (by simp), fun g hg2 => ?_⟩⟩⟩
          have J6 := J5.keep0 (Fr.new (o := .tup (l.map fun q => q.2.v)) htp)
          have J7 := J6.keep0 (Fr.new (o := .lst [.ref p1, .ref tp, .non]) hg2)
          refine ⟨_, rfl, r, 3, rfl, J7.wd.rnd, by decide, by decide, fun y H8 hy f8 R8 => ?_⟩
          have J8 := J7.draw f8 R8
          have g8 := f8 _ _ (upd_same (o := .lst [.ref p1, .ref tp, .non])) (by simpa using J6.wd.out hg2)
          have e7 : (upd (upd (upd H4 p1 (.lst ((l.map fun q => q.2.v).take (at_ - 1)))) tp (.tup (l.map fun q => q.2.v))) g (.lst [.ref p1, .ref tp, .non])) p1 = some (.lst ((l.map fun q => q.2.v).take (at_ - 1))) := ((Fr.new (S := []) (o := .tup (l.map fun q => q.2.v)) htp).trans (Fr.new hg2)) _ _ upd_same (by simp)
          have p18 := f8 _ _ e7 (by simpa using J4.wd.out h1)
          have t8 := rnd_tup J7.wd.rnd f8 ((upd_ne (o := .lst [.ref p1, .ref tp, .non]) (free_upd hg2).2.symm).trans upd_same)
          have ml : ((l.map fun q => q.2.v).take (at_ - 1)).length = at_ - 1 := by rw [List.length_take, List.length_map]; omega
          match y, hy with
          | 0, _ =>
            refine ⟨g, _, ((0 : Nat) : Int), _, rfl, rfl, SqL.of g8, atI_nat (j := 0) rfl, ?_⟩
            refine ⟨sz_le (by simp), fun t ht => ⟨t, _, rfl, SqT.of upd_same, rfl, _, _, rfl, _, _, rfl, rfl, ?_⟩⟩
            have J9 := J8.keep0 (Fr.new (o := .tup [.ref p1, .int 0]) ht)
            have p19 := (upd_ne (o := .tup [.ref p1, .int 0]) (ne_of_none p18 ht)).trans p18
            refine ⟨_, rfl, _, .ty "list", .type "list", _, true, rfl, ClsV.ty "list", .base (.lst p19), kit_ty (by decide +kernel), _, rfl, iteT ?_⟩
            refine ⟨_, rfl, _, _, rfl, rfl, 0, _, rfl, ?_⟩
            rw [max_pred]
            refine ⟨_, rfl, _, .ty "list", .type "list", _, true, rfl, ClsV.ty "list", .base (.lst p19), kit_ty (by decide +kernel), _, rfl, iteT ?_⟩
            refine ⟨_, rfl, p1, _, rfl, .inl (SqL.of p19), _, rfl, bb, _, rfl, .inl (SqL.of J9.eb), rfl, _, rfl, ?_⟩
            rw [ml, List.length_map, List.length_map]
            by_cases hm : at_ - 1 = l.length
            · rw [decide_eq_true (by rw [hm])]
              exact iteT ⟨_, _, _, _, _, _, _, _, _, _, _, _, _, _, _, rfl, J9.wd⟩
            · rw [decI (by omega)]
              exact iteF ⟨at_ - 1, .ref p1, _, _, _, _, rfl, J9, bad_short (by omega) hv hll p19, fun z => J4.wd.out h1 (V.ref.inj z)⟩
          | 1, _ =>
            refine ⟨g, _, ((1 : Nat) : Int), _, rfl, rfl, SqL.of g8, atI_nat (j := 1) rfl, ?_⟩
            refine ⟨sz_le (by simp), fun t ht => ⟨t, _, rfl, SqT.of upd_same, rfl, _, _, rfl, _, _, rfl, rfl, ?_⟩⟩
            have J9 := J8.keep0 (Fr.new (o := .tup [.ref tp, .int 0]) ht)
            have t9 := (upd_ne (o := .tup [.ref tp, .int 0]) (ne_of_none t8 ht)).trans t8
            refine ⟨_, rfl, _, .ty "list", .type "tuple", _, false, rfl, ClsV.ty "list", .base (.tup t9), kit_ty (by decide +kernel), _, rfl, iteF ?_⟩
            refine ⟨_, rfl, _, .ty "list", .type "tuple", _, false, rfl, ClsV.ty "list", .base (.tup t9), kit_ty (by decide +kernel), _, rfl, iteF (iteF ?_)⟩
            exact ⟨0, .ref tp, _, _, _, _, rfl, J9, .inl ⟨rfl, .inr (.inr (.inr ⟨tp, _, rfl, t9⟩))⟩, fun z => J5.wd.out htp (V.ref.inj z)⟩
          | 2, _ =>
            refine ⟨g, _, ((2 : Nat) : Int), _, rfl, rfl, SqL.of g8, atI_nat (j := 2) rfl, ?_⟩
            refine ⟨sz_le (by simp), fun t ht => ⟨t, _, rfl, SqT.of upd_same, rfl, _, _, rfl, _, _, rfl, rfl, ?_⟩⟩
            have J9 := J8.keep0 (Fr.new (o := .tup [.non, .int 0]) ht)
            refine ⟨_, rfl, _, .ty "list", .type "NoneType", _, false, rfl, ClsV.ty "list", .base .non, kit_ty (by decide +kernel), _, rfl, iteF ?_⟩
            refine ⟨_, rfl, _, .ty "list", .type "NoneType", _, false, rfl, ClsV.ty "list", .base .non, kit_ty (by decide +kernel), _, rfl, iteF (iteF ?_)⟩
            exact ⟨0, .non, _, _, _, _, rfl, J9, .inl ⟨rfl, .inl rfl⟩, fun z => by cases z⟩
        · rw [decI (a := (z : Int)) (b := 0) (by omega)]
          exact iteF ⟨j, given, _, _, _, _, rfl, J4, bp.ext (fun b xs e => rnd_tup J.wd.rnd f4 e) (fun b xs ev e => f4 _ _ e (by rw [List.mem_singleton]; exact fun z => nr (by rw [ev, z]))), nr⟩
      clear J bp nr
      clear given j
      rintro _ H3 ⟨j, given, v8, v9, v10, v11, rfl, J, bp, nr⟩
      -- the question
      refine ⟨J.wd.tab, fun fl F HH q1 q2 q3 q4 q5 q6 eN TB' hf L pins s1 I => ?_⟩
      refine ⟨fl, F, ["_law_slots", "_law_blocks", "_law_given"], [some (.int (s : Int)), some (.ref bb), some given], lpJ T, rfl, lok_5 T HP q3 q4 q2 q6, Act.made (js := [16, 14, 15]) (fun _ => rfl) I L (by rw [q5]; exact Caps.made I.ok cap5 free5 rfl), fun Q' E' hq he => ?_⟩
      have JH := J.keepN eN TB'
      refine ⟨(s : Int), bb, l.map (·.1), given, j, rfl, by omega, by omega, JH.eb, hg, bp.keepN eN, fun d HC hd fC hx => he _ _ _ (.inr (.inr ⟨.int (j : Int), rfl, by simp, hx, fun u HD hu fD eu => ?_⟩))⟩
      refine ⟨_, rfl, sz_le (by simp), fun u2 hu2 => ?_⟩
      have WD := ((JH.wd.keep0 fC).keep0 fD).new (o := .tup [.str "plan", .int (j : Int)]) hu2
      refine ⟨.tuple [.str "plan", .int (j : Int)], .tuple [.str "plan", .int (j : Int)], .tup (SqT.of ((Fr.new (S := []) hu2) _ _ eu (by simp))) (.cons (.str _) (.cons (.int _) .nil)), .tup (SqT.of upd_same) (.cons (.str _) (.cons (.int _) .nil)), shaped_si (by decide +kernel), shaped_si (by decide +kernel), _, rfl, ?_⟩
      rw [eqv_si]
      exact iteF ⟨_, _, _, _, _, _, _, _, _, _, _, _, _, _, _, rfl, WD⟩
    · rintro σ' H2 _
      exact k _
end
open PySem.Spec PySem.Calls PySem.W PyProof.Rows LamX NdefX in
theorem all_mk {l : PySem.W.OpenLaw} {w : World} {K : PySem.W.Frag} {q : Program} {lo : List Str} {mean : ExcName → Option Value} {d d2 : DefRec} {h : Heap} {mg mb : Str → Option Value} {fa f_is_number f_is_number_from f_check_slots Dt_check_slots f_fewest_misses f_judge_plan f__check_reads f__can_be f__kept_after f__law_random f__law_below f__law_equal f__law_told_of f__law_error_of f__law_all_raise f__law_are_refused cda__law_are_refused P__law_are_refused f_law cda_law P_law C_InvalidSize C_InvalidCell C_InvalidKept C_InvalidBlock C_InvalidValue C_InvalidCount C_InvalidSlot C_InvalidWord C_InvalidStory C_PowerOff C_PowerOn C_NoFastDisk C_HasFastDisk C_Unsettled C_Contradiction C_InvalidName C_UnknownName C_InvalidRules C_InvalidRecipes C_InvalidRequests C_InvalidPrices C_InvalidPlan C_PowerFailed C_InvalidOperation C_NotationError C_DecodeError C_PairError f_InvalidRequests___init__ cc_InvalidRequests___init__ cda_InvalidRequests___init__ f_InvalidPlan___init__ cc_InvalidPlan___init__ cda_InvalidPlan___init__ : Addr} (TT : Top q lo mean mg mb h) (X : K.In h) (hfa : mg "law" = some (.ref fa)) (nt : noTabs K = true) (hrec : (recsOf q).find? (fun e => e.name == ("law" : Str)) = some d) (hrec2 : (recsOf q).find? (fun e => e.name == ("_law_are_refused" : Str)) = some d2)
    {od_is_number an_is_number od_is_number_from an_is_number_from od_check_slots an_check_slots odt_check_slots od_fewest_misses an_fewest_misses od_judge_plan an_judge_plan od__check_reads an__check_reads od__can_be an__can_be od__kept_after an__kept_after od__law_random an__law_random od__law_below an__law_below od__law_equal an__law_equal od__law_told_of an__law_told_of od__law_error_of an__law_error_of od__law_all_raise an__law_all_raise od__law_are_refused an__law_are_refused cdd__law_are_refused od_law an_law cdd_law od_InvalidRequests___init__ an_InvalidRequests___init__ cdd_InvalidRequests___init__ ed_InvalidRequests___init__ od_InvalidPlan___init__ an_InvalidPlan___init__ cdd_InvalidPlan___init__ ed_InvalidPlan___init__ : Option Addr} {sl_is_number sl_is_number_from sl_check_slots sdt_check_slots sl_fewest_misses sl_judge_plan sl__check_reads sl__can_be sl__kept_after sl__law_random sl__law_below sl__law_equal sl__law_told_of sl__law_error_of sl__law_all_raise sl__law_are_refused csl__law_are_refused sl_law csl_law sl_InvalidRequests___init__ csl_InvalidRequests___init__ es_InvalidRequests___init__ sl_InvalidPlan___init__ csl_InvalidPlan___init__ es_InvalidPlan___init__ : Array (Option Value)} {oc_is_number dc_is_number pm_is_number cd_is_number ct_is_number kV_is_number oc_is_number_from dc_is_number_from pm_is_number_from cd_is_number_from ct_is_number_from kV_is_number_from oc_check_slots dc_check_slots pm_check_slots cd_check_slots ct_check_slots kV_check_slots oc_fewest_misses dc_fewest_misses pm_fewest_misses cd_fewest_misses ct_fewest_misses kV_fewest_misses oc_judge_plan dc_judge_plan pm_judge_plan cd_judge_plan ct_judge_plan kV_judge_plan oc__check_reads dc__check_reads pm__check_reads cd__check_reads ct__check_reads kV__check_reads oc__can_be dc__can_be pm__can_be cd__can_be ct__can_be kV__can_be oc__kept_after dc__kept_after pm__kept_after cd__kept_after ct__kept_after kV__kept_after oc__law_random dc__law_random pm__law_random cd__law_random ct__law_random kV__law_random oc__law_below dc__law_below pm__law_below cd__law_below ct__law_below kV__law_below oc__law_equal dc__law_equal pm__law_equal cd__law_equal ct__law_equal kV__law_equal oc__law_told_of dc__law_told_of pm__law_told_of cd__law_told_of ct__law_told_of kV__law_told_of oc__law_error_of dc__law_error_of pm__law_error_of cd__law_error_of ct__law_error_of kV__law_error_of oc__law_all_raise dc__law_all_raise pm__law_all_raise cd__law_all_raise ct__law_all_raise kV__law_all_raise oc__law_are_refused dc__law_are_refused pm__law_are_refused ct__law_are_refused cl__law_are_refused kV__law_are_refused oc_law dc_law pm_law ct_law cl_law kV_law oc_InvalidRequests___init__ kV_InvalidRequests___init__ dc_InvalidRequests___init__ pm_InvalidRequests___init__ ct_InvalidRequests___init__ cl_InvalidRequests___init__ ec_InvalidRequests___init__ oc_InvalidPlan___init__ kV_InvalidPlan___init__ dc_InvalidPlan___init__ pm_InvalidPlan___init__ ct_InvalidPlan___init__ cl_InvalidPlan___init__ ec_InvalidPlan___init__ : Value} {t_MOST_READS t_MOST_READ_BLOCK : Tok}
    (a_is_number : PySem.W.nsIn K mainGlobals "is_number" = some (some (.ref f_is_number)))
    (l_is_number : K.lookup f_is_number = some ⟨oc_is_number, od_is_number, .func (PySem.W.fnOf "is_number" "is_number" (defArgs s_is_number) (defBody s_is_number) (defScope s_is_number) .none kV_is_number dc_is_number pm_is_number an_is_number cd_is_number ct_is_number), sl_is_number⟩) (c_is_number : PySem.W.codeIn K cd_is_number "is_number" = true) (k_is_number : PySem.W.keepIn K (.ref f_is_number) = true)
    (a_is_number_from : PySem.W.nsIn K mainGlobals "is_number_from" = some (some (.ref f_is_number_from)))
    (l_is_number_from : K.lookup f_is_number_from = some ⟨oc_is_number_from, od_is_number_from, .func (PySem.W.fnOf "is_number_from" "is_number_from" (defArgs s_is_number_from) (defBody s_is_number_from) (defScope s_is_number_from) .none kV_is_number_from dc_is_number_from pm_is_number_from an_is_number_from cd_is_number_from ct_is_number_from), sl_is_number_from⟩) (c_is_number_from : PySem.W.codeIn K cd_is_number_from "is_number_from" = true) (k_is_number_from : PySem.W.keepIn K (.ref f_is_number_from) = true)
    (a_check_slots : PySem.W.nsIn K mainGlobals "check_slots" = some (some (.ref f_check_slots)))
    (l_check_slots : K.lookup f_check_slots = some ⟨oc_check_slots, od_check_slots, .func (PySem.W.fnOf "check_slots" "check_slots" (defArgs s_check_slots) (defBody s_check_slots) (defScope s_check_slots) (.ref Dt_check_slots) kV_check_slots dc_check_slots pm_check_slots an_check_slots cd_check_slots ct_check_slots), sl_check_slots⟩) (c_check_slots : PySem.W.codeIn K cd_check_slots "check_slots" = true) (k_check_slots : PySem.W.keepIn K (.ref f_check_slots) = true)
    {td_check_slots_0 : Tok} {nt_check_slots : Nat} (ld_check_slots : K.lookup Dt_check_slots = some ⟨.type "tuple", odt_check_slots, .seq #[.int 8 td_check_slots_0] nt_check_slots, sdt_check_slots⟩)
    (a_fewest_misses : PySem.W.nsIn K mainGlobals "fewest_misses" = some (some (.ref f_fewest_misses)))
    (l_fewest_misses : K.lookup f_fewest_misses = some ⟨oc_fewest_misses, od_fewest_misses, .func (PySem.W.fnOf "fewest_misses" "fewest_misses" (defArgs s_fewest_misses) (defBody s_fewest_misses) (defScope s_fewest_misses) .none kV_fewest_misses dc_fewest_misses pm_fewest_misses an_fewest_misses cd_fewest_misses ct_fewest_misses), sl_fewest_misses⟩) (c_fewest_misses : PySem.W.codeIn K cd_fewest_misses "fewest_misses" = true) (k_fewest_misses : PySem.W.keepIn K (.ref f_fewest_misses) = true)
    (a_judge_plan : PySem.W.nsIn K mainGlobals "judge_plan" = some (some (.ref f_judge_plan)))
    (l_judge_plan : K.lookup f_judge_plan = some ⟨oc_judge_plan, od_judge_plan, .func (PySem.W.fnOf "judge_plan" "judge_plan" (defArgs s_judge_plan) (defBody s_judge_plan) (defScope s_judge_plan) .none kV_judge_plan dc_judge_plan pm_judge_plan an_judge_plan cd_judge_plan ct_judge_plan), sl_judge_plan⟩) (c_judge_plan : PySem.W.codeIn K cd_judge_plan "judge_plan" = true) (k_judge_plan : PySem.W.keepIn K (.ref f_judge_plan) = true)
    (a__check_reads : PySem.W.nsIn K mainGlobals "_check_reads" = some (some (.ref f__check_reads)))
    (l__check_reads : K.lookup f__check_reads = some ⟨oc__check_reads, od__check_reads, .func (PySem.W.fnOf "_check_reads" "_check_reads" (defArgs s__check_reads) (defBody s__check_reads) (defScope s__check_reads) .none kV__check_reads dc__check_reads pm__check_reads an__check_reads cd__check_reads ct__check_reads), sl__check_reads⟩) (c__check_reads : PySem.W.codeIn K cd__check_reads "_check_reads" = true) (k__check_reads : PySem.W.keepIn K (.ref f__check_reads) = true)
    (a__can_be : PySem.W.nsIn K mainGlobals "_can_be" = some (some (.ref f__can_be)))
    (l__can_be : K.lookup f__can_be = some ⟨oc__can_be, od__can_be, .func (PySem.W.fnOf "_can_be" "_can_be" (defArgs s__can_be) (defBody s__can_be) (defScope s__can_be) .none kV__can_be dc__can_be pm__can_be an__can_be cd__can_be ct__can_be), sl__can_be⟩) (c__can_be : PySem.W.codeIn K cd__can_be "_can_be" = true) (k__can_be : PySem.W.keepIn K (.ref f__can_be) = true)
    (a__kept_after : PySem.W.nsIn K mainGlobals "_kept_after" = some (some (.ref f__kept_after)))
    (l__kept_after : K.lookup f__kept_after = some ⟨oc__kept_after, od__kept_after, .func (PySem.W.fnOf "_kept_after" "_kept_after" (defArgs s__kept_after) (defBody s__kept_after) (defScope s__kept_after) .none kV__kept_after dc__kept_after pm__kept_after an__kept_after cd__kept_after ct__kept_after), sl__kept_after⟩) (c__kept_after : PySem.W.codeIn K cd__kept_after "_kept_after" = true) (k__kept_after : PySem.W.keepIn K (.ref f__kept_after) = true)
    (a__law_random : PySem.W.nsIn K mainGlobals "_law_random" = some (some (.ref f__law_random)))
    (l__law_random : K.lookup f__law_random = some ⟨oc__law_random, od__law_random, .func (PySem.W.fnOf "_law_random" "_law_random" (defArgs s__law_random) (defBody s__law_random) (defScope s__law_random) .none kV__law_random dc__law_random pm__law_random an__law_random cd__law_random ct__law_random), sl__law_random⟩) (c__law_random : PySem.W.codeIn K cd__law_random "_law_random" = true) (k__law_random : PySem.W.keepIn K (.ref f__law_random) = true)
    (a__law_below : PySem.W.nsIn K mainGlobals "_law_below" = some (some (.ref f__law_below)))
    (l__law_below : K.lookup f__law_below = some ⟨oc__law_below, od__law_below, .func (PySem.W.fnOf "_law_below" "_law_below" (defArgs s__law_below) (defBody s__law_below) (defScope s__law_below) .none kV__law_below dc__law_below pm__law_below an__law_below cd__law_below ct__law_below), sl__law_below⟩) (c__law_below : PySem.W.codeIn K cd__law_below "_law_below" = true) (k__law_below : PySem.W.keepIn K (.ref f__law_below) = true)
    (a__law_equal : PySem.W.nsIn K mainGlobals "_law_equal" = some (some (.ref f__law_equal)))
    (l__law_equal : K.lookup f__law_equal = some ⟨oc__law_equal, od__law_equal, .func (PySem.W.fnOf "_law_equal" "_law_equal" (defArgs s__law_equal) (defBody s__law_equal) (defScope s__law_equal) .none kV__law_equal dc__law_equal pm__law_equal an__law_equal cd__law_equal ct__law_equal), sl__law_equal⟩) (c__law_equal : PySem.W.codeIn K cd__law_equal "_law_equal" = true) (k__law_equal : PySem.W.keepIn K (.ref f__law_equal) = true)
    (a__law_told_of : PySem.W.nsIn K mainGlobals "_law_told_of" = some (some (.ref f__law_told_of)))
    (l__law_told_of : K.lookup f__law_told_of = some ⟨oc__law_told_of, od__law_told_of, .func (PySem.W.fnOf "_law_told_of" "_law_told_of" (defArgs s__law_told_of) (defBody s__law_told_of) (defScope s__law_told_of) .none kV__law_told_of dc__law_told_of pm__law_told_of an__law_told_of cd__law_told_of ct__law_told_of), sl__law_told_of⟩) (c__law_told_of : PySem.W.codeIn K cd__law_told_of "_law_told_of" = true) (k__law_told_of : PySem.W.keepIn K (.ref f__law_told_of) = true)
    (a__law_error_of : PySem.W.nsIn K mainGlobals "_law_error_of" = some (some (.ref f__law_error_of)))
    (l__law_error_of : K.lookup f__law_error_of = some ⟨oc__law_error_of, od__law_error_of, .func (PySem.W.fnOf "_law_error_of" "_law_error_of" (defArgs s__law_error_of) (defBody s__law_error_of) (defScope s__law_error_of) .none kV__law_error_of dc__law_error_of pm__law_error_of an__law_error_of cd__law_error_of ct__law_error_of), sl__law_error_of⟩) (c__law_error_of : PySem.W.codeIn K cd__law_error_of "_law_error_of" = true) (k__law_error_of : PySem.W.keepIn K (.ref f__law_error_of) = true)
    (a__law_all_raise : PySem.W.nsIn K mainGlobals "_law_all_raise" = some (some (.ref f__law_all_raise)))
    (l__law_all_raise : K.lookup f__law_all_raise = some ⟨oc__law_all_raise, od__law_all_raise, .func (PySem.W.fnOf "_law_all_raise" "_law_all_raise" (defArgs s__law_all_raise) (defBody s__law_all_raise) (defScope s__law_all_raise) .none kV__law_all_raise dc__law_all_raise pm__law_all_raise an__law_all_raise cd__law_all_raise ct__law_all_raise), sl__law_all_raise⟩) (c__law_all_raise : PySem.W.codeIn K cd__law_all_raise "_law_all_raise" = true) (k__law_all_raise : PySem.W.keepIn K (.ref f__law_all_raise) = true)
    (a__law_are_refused : PySem.W.nsIn K mainGlobals "_law_are_refused" = some (some (.ref f__law_are_refused)))
    (l__law_are_refused : K.lookup f__law_are_refused = some ⟨oc__law_are_refused, od__law_are_refused, .func (PySem.W.fnOf "_law_are_refused" "_law_are_refused" (defArgs s__law_are_refused) (defBody s__law_are_refused) (defScope s__law_are_refused) .none kV__law_are_refused dc__law_are_refused pm__law_are_refused an__law_are_refused (.ref cda__law_are_refused) ct__law_are_refused), sl__law_are_refused⟩) (c__law_are_refused : PySem.W.codeIn K (.ref cda__law_are_refused) "_law_are_refused" = true) (k__law_are_refused : PySem.W.keepIn K (.ref f__law_are_refused) = true)
    {vs__law_are_refused : Array Value} (lc__law_are_refused : K.lookup cda__law_are_refused = some ⟨cl__law_are_refused, cdd__law_are_refused, .fields vs__law_are_refused, csl__law_are_refused⟩) (tp__law_are_refused : (vs__law_are_refused[11]? : Option Value) = some (.ref P__law_are_refused))
    (a_law : PySem.W.nsIn K mainGlobals "law" = some (some (.ref f_law)))
    (l_law : K.lookup f_law = some ⟨oc_law, od_law, .func (PySem.W.fnOf "law" "law" (defArgs s_law) (defBody s_law) (defScope s_law) .none kV_law dc_law pm_law an_law (.ref cda_law) ct_law), sl_law⟩) (c_law : PySem.W.codeIn K (.ref cda_law) "law" = true) (k_law : PySem.W.keepIn K (.ref f_law) = true)
    {vs_law : Array Value} (lc_law : K.lookup cda_law = some ⟨cl_law, cdd_law, .fields vs_law, csl_law⟩) (tp_law : (vs_law[11]? : Option Value) = some (.ref P_law))
    (z_isinstance : PySem.W.nsIn K mainGlobals "isinstance" = some none)
    (z_int : PySem.W.nsIn K mainGlobals "int" = some none)
    (z_bool : PySem.W.nsIn K mainGlobals "bool" = some none)
    (z_str : PySem.W.nsIn K mainGlobals "str" = some none)
    (z_list : PySem.W.nsIn K mainGlobals "list" = some none)
    (z_tuple : PySem.W.nsIn K mainGlobals "tuple" = some none)
    (z_len : PySem.W.nsIn K mainGlobals "len" = some none)
    (z_abs : PySem.W.nsIn K mainGlobals "abs" = some none)
    (z_range : PySem.W.nsIn K mainGlobals "range" = some none)
    (z_enumerate : PySem.W.nsIn K mainGlobals "enumerate" = some none)
    (z_min : PySem.W.nsIn K mainGlobals "min" = some none)
    (z_max : PySem.W.nsIn K mainGlobals "max" = some none)
    (z_all : PySem.W.nsIn K mainGlobals "all" = some none)
    (z_super : PySem.W.nsIn K mainGlobals "super" = some none)
    (z_ValueError : PySem.W.nsIn K mainGlobals "ValueError" = some none)
    (c_MOST_READS : PySem.W.nsIn K mainGlobals "MOST_READS" = some (some (.int 14 t_MOST_READS)))
    (c_MOST_READ_BLOCK : PySem.W.nsIn K mainGlobals "MOST_READ_BLOCK" = some (some (.int 15 t_MOST_READ_BLOCK)))
    {file : Str}
    (third : PySem.W.nsIn K cStatics "thirdparty.any" = some none)
    (aC_InvalidSize : PySem.W.nsIn K mainGlobals "InvalidSize" = some (some (.ref C_InvalidSize)))
    (ic_InvalidSize : PySem.W.isClsIn K C_InvalidSize = true)
    (ty_InvalidSize : PySem.W.typeIn K (.ref C_InvalidSize) = some (.type "type"))
    (aC_InvalidCell : PySem.W.nsIn K mainGlobals "InvalidCell" = some (some (.ref C_InvalidCell)))
    (ic_InvalidCell : PySem.W.isClsIn K C_InvalidCell = true)
    (ty_InvalidCell : PySem.W.typeIn K (.ref C_InvalidCell) = some (.type "type"))
    (aC_InvalidKept : PySem.W.nsIn K mainGlobals "InvalidKept" = some (some (.ref C_InvalidKept)))
    (ic_InvalidKept : PySem.W.isClsIn K C_InvalidKept = true)
    (ty_InvalidKept : PySem.W.typeIn K (.ref C_InvalidKept) = some (.type "type"))
    (aC_InvalidBlock : PySem.W.nsIn K mainGlobals "InvalidBlock" = some (some (.ref C_InvalidBlock)))
    (ic_InvalidBlock : PySem.W.isClsIn K C_InvalidBlock = true)
    (ty_InvalidBlock : PySem.W.typeIn K (.ref C_InvalidBlock) = some (.type "type"))
    (aC_InvalidValue : PySem.W.nsIn K mainGlobals "InvalidValue" = some (some (.ref C_InvalidValue)))
    (ic_InvalidValue : PySem.W.isClsIn K C_InvalidValue = true)
    (ty_InvalidValue : PySem.W.typeIn K (.ref C_InvalidValue) = some (.type "type"))
    (aC_InvalidCount : PySem.W.nsIn K mainGlobals "InvalidCount" = some (some (.ref C_InvalidCount)))
    (ic_InvalidCount : PySem.W.isClsIn K C_InvalidCount = true)
    (ty_InvalidCount : PySem.W.typeIn K (.ref C_InvalidCount) = some (.type "type"))
    (aC_InvalidSlot : PySem.W.nsIn K mainGlobals "InvalidSlot" = some (some (.ref C_InvalidSlot)))
    (ic_InvalidSlot : PySem.W.isClsIn K C_InvalidSlot = true)
    (ty_InvalidSlot : PySem.W.typeIn K (.ref C_InvalidSlot) = some (.type "type"))
    (aC_InvalidWord : PySem.W.nsIn K mainGlobals "InvalidWord" = some (some (.ref C_InvalidWord)))
    (ic_InvalidWord : PySem.W.isClsIn K C_InvalidWord = true)
    (ty_InvalidWord : PySem.W.typeIn K (.ref C_InvalidWord) = some (.type "type"))
    (aC_InvalidStory : PySem.W.nsIn K mainGlobals "InvalidStory" = some (some (.ref C_InvalidStory)))
    (ic_InvalidStory : PySem.W.isClsIn K C_InvalidStory = true)
    (ty_InvalidStory : PySem.W.typeIn K (.ref C_InvalidStory) = some (.type "type"))
    (aC_PowerOff : PySem.W.nsIn K mainGlobals "PowerOff" = some (some (.ref C_PowerOff)))
    (ic_PowerOff : PySem.W.isClsIn K C_PowerOff = true)
    (ty_PowerOff : PySem.W.typeIn K (.ref C_PowerOff) = some (.type "type"))
    (aC_PowerOn : PySem.W.nsIn K mainGlobals "PowerOn" = some (some (.ref C_PowerOn)))
    (ic_PowerOn : PySem.W.isClsIn K C_PowerOn = true)
    (ty_PowerOn : PySem.W.typeIn K (.ref C_PowerOn) = some (.type "type"))
    (aC_NoFastDisk : PySem.W.nsIn K mainGlobals "NoFastDisk" = some (some (.ref C_NoFastDisk)))
    (ic_NoFastDisk : PySem.W.isClsIn K C_NoFastDisk = true)
    (ty_NoFastDisk : PySem.W.typeIn K (.ref C_NoFastDisk) = some (.type "type"))
    (aC_HasFastDisk : PySem.W.nsIn K mainGlobals "HasFastDisk" = some (some (.ref C_HasFastDisk)))
    (ic_HasFastDisk : PySem.W.isClsIn K C_HasFastDisk = true)
    (ty_HasFastDisk : PySem.W.typeIn K (.ref C_HasFastDisk) = some (.type "type"))
    (aC_Unsettled : PySem.W.nsIn K mainGlobals "Unsettled" = some (some (.ref C_Unsettled)))
    (ic_Unsettled : PySem.W.isClsIn K C_Unsettled = true)
    (ty_Unsettled : PySem.W.typeIn K (.ref C_Unsettled) = some (.type "type"))
    (aC_Contradiction : PySem.W.nsIn K mainGlobals "Contradiction" = some (some (.ref C_Contradiction)))
    (ic_Contradiction : PySem.W.isClsIn K C_Contradiction = true)
    (ty_Contradiction : PySem.W.typeIn K (.ref C_Contradiction) = some (.type "type"))
    (aC_InvalidName : PySem.W.nsIn K mainGlobals "InvalidName" = some (some (.ref C_InvalidName)))
    (ic_InvalidName : PySem.W.isClsIn K C_InvalidName = true)
    (ty_InvalidName : PySem.W.typeIn K (.ref C_InvalidName) = some (.type "type"))
    (aC_UnknownName : PySem.W.nsIn K mainGlobals "UnknownName" = some (some (.ref C_UnknownName)))
    (ic_UnknownName : PySem.W.isClsIn K C_UnknownName = true)
    (ty_UnknownName : PySem.W.typeIn K (.ref C_UnknownName) = some (.type "type"))
    (aC_InvalidRules : PySem.W.nsIn K mainGlobals "InvalidRules" = some (some (.ref C_InvalidRules)))
    (ic_InvalidRules : PySem.W.isClsIn K C_InvalidRules = true)
    (ty_InvalidRules : PySem.W.typeIn K (.ref C_InvalidRules) = some (.type "type"))
    (aC_InvalidRecipes : PySem.W.nsIn K mainGlobals "InvalidRecipes" = some (some (.ref C_InvalidRecipes)))
    (ic_InvalidRecipes : PySem.W.isClsIn K C_InvalidRecipes = true)
    (ty_InvalidRecipes : PySem.W.typeIn K (.ref C_InvalidRecipes) = some (.type "type"))
    (aC_InvalidRequests : PySem.W.nsIn K mainGlobals "InvalidRequests" = some (some (.ref C_InvalidRequests)))
    (ic_InvalidRequests : PySem.W.isClsIn K C_InvalidRequests = true)
    (ty_InvalidRequests : PySem.W.typeIn K (.ref C_InvalidRequests) = some (.type "type"))
    (aC_InvalidPrices : PySem.W.nsIn K mainGlobals "InvalidPrices" = some (some (.ref C_InvalidPrices)))
    (ic_InvalidPrices : PySem.W.isClsIn K C_InvalidPrices = true)
    (ty_InvalidPrices : PySem.W.typeIn K (.ref C_InvalidPrices) = some (.type "type"))
    (aC_InvalidPlan : PySem.W.nsIn K mainGlobals "InvalidPlan" = some (some (.ref C_InvalidPlan)))
    (ic_InvalidPlan : PySem.W.isClsIn K C_InvalidPlan = true)
    (ty_InvalidPlan : PySem.W.typeIn K (.ref C_InvalidPlan) = some (.type "type"))
    (aC_PowerFailed : PySem.W.nsIn K mainGlobals "PowerFailed" = some (some (.ref C_PowerFailed)))
    (ic_PowerFailed : PySem.W.isClsIn K C_PowerFailed = true)
    (ty_PowerFailed : PySem.W.typeIn K (.ref C_PowerFailed) = some (.type "type"))
    (aC_InvalidOperation : PySem.W.nsIn K mainGlobals "InvalidOperation" = some (some (.ref C_InvalidOperation)))
    (ic_InvalidOperation : PySem.W.isClsIn K C_InvalidOperation = true)
    (ty_InvalidOperation : PySem.W.typeIn K (.ref C_InvalidOperation) = some (.type "type"))
    (aC_NotationError : PySem.W.nsIn K mainGlobals "NotationError" = some (some (.ref C_NotationError)))
    (ic_NotationError : PySem.W.isClsIn K C_NotationError = true)
    (ty_NotationError : PySem.W.typeIn K (.ref C_NotationError) = some (.type "type"))
    (aC_DecodeError : PySem.W.nsIn K mainGlobals "DecodeError" = some (some (.ref C_DecodeError)))
    (ic_DecodeError : PySem.W.isClsIn K C_DecodeError = true)
    (ty_DecodeError : PySem.W.typeIn K (.ref C_DecodeError) = some (.type "type"))
    (aC_PairError : PySem.W.nsIn K mainGlobals "PairError" = some (some (.ref C_PairError)))
    (ic_PairError : PySem.W.isClsIn K C_PairError = true)
    (ty_PairError : PySem.W.typeIn K (.ref C_PairError) = some (.type "type"))
    (pb : PySem.W.subIn K (.ref C_PairError) (.type "BaseException") = some true)
    (ph : PySem.W.hasDictIn K C_PairError = true)
    (xn : PySem.W.specialIn K (.builtin "object.__class__") "__get__" = some (some (.builtin "getset_descriptor.__get__")))
    (xt : PySem.W.takesIn K (.builtin "object.__class__") = some true)
    (sb_InvalidSize_InvalidSize : PySem.W.subIn K (.ref C_InvalidSize) (.ref C_InvalidSize) = some true)
    (sb_InvalidSize_InvalidCell : PySem.W.subIn K (.ref C_InvalidSize) (.ref C_InvalidCell) = some false)
    (sb_InvalidSize_InvalidKept : PySem.W.subIn K (.ref C_InvalidSize) (.ref C_InvalidKept) = some false)
    (sb_InvalidSize_InvalidBlock : PySem.W.subIn K (.ref C_InvalidSize) (.ref C_InvalidBlock) = some false)
    (sb_InvalidSize_InvalidValue : PySem.W.subIn K (.ref C_InvalidSize) (.ref C_InvalidValue) = some false)
    (sb_InvalidSize_InvalidCount : PySem.W.subIn K (.ref C_InvalidSize) (.ref C_InvalidCount) = some false)
    (sb_InvalidSize_InvalidSlot : PySem.W.subIn K (.ref C_InvalidSize) (.ref C_InvalidSlot) = some false)
    (sb_InvalidSize_InvalidWord : PySem.W.subIn K (.ref C_InvalidSize) (.ref C_InvalidWord) = some false)
    (sb_InvalidSize_InvalidStory : PySem.W.subIn K (.ref C_InvalidSize) (.ref C_InvalidStory) = some false)
    (sb_InvalidSize_PowerOff : PySem.W.subIn K (.ref C_InvalidSize) (.ref C_PowerOff) = some false)
    (sb_InvalidSize_PowerOn : PySem.W.subIn K (.ref C_InvalidSize) (.ref C_PowerOn) = some false)
    (sb_InvalidSize_NoFastDisk : PySem.W.subIn K (.ref C_InvalidSize) (.ref C_NoFastDisk) = some false)
    (sb_InvalidSize_HasFastDisk : PySem.W.subIn K (.ref C_InvalidSize) (.ref C_HasFastDisk) = some false)
    (sb_InvalidSize_Unsettled : PySem.W.subIn K (.ref C_InvalidSize) (.ref C_Unsettled) = some false)
    (sb_InvalidSize_Contradiction : PySem.W.subIn K (.ref C_InvalidSize) (.ref C_Contradiction) = some false)
    (sb_InvalidSize_InvalidName : PySem.W.subIn K (.ref C_InvalidSize) (.ref C_InvalidName) = some false)
    (sb_InvalidSize_UnknownName : PySem.W.subIn K (.ref C_InvalidSize) (.ref C_UnknownName) = some false)
    (sb_InvalidSize_InvalidRules : PySem.W.subIn K (.ref C_InvalidSize) (.ref C_InvalidRules) = some false)
    (sb_InvalidSize_InvalidRecipes : PySem.W.subIn K (.ref C_InvalidSize) (.ref C_InvalidRecipes) = some false)
    (sb_InvalidSize_InvalidRequests : PySem.W.subIn K (.ref C_InvalidSize) (.ref C_InvalidRequests) = some false)
    (sb_InvalidSize_InvalidPrices : PySem.W.subIn K (.ref C_InvalidSize) (.ref C_InvalidPrices) = some false)
    (sb_InvalidSize_InvalidPlan : PySem.W.subIn K (.ref C_InvalidSize) (.ref C_InvalidPlan) = some false)
    (sb_InvalidSize_PowerFailed : PySem.W.subIn K (.ref C_InvalidSize) (.ref C_PowerFailed) = some false)
    (sb_InvalidSize_InvalidOperation : PySem.W.subIn K (.ref C_InvalidSize) (.ref C_InvalidOperation) = some false)
    (sb_InvalidSize_NotationError : PySem.W.subIn K (.ref C_InvalidSize) (.ref C_NotationError) = some false)
    (sb_InvalidSize_DecodeError : PySem.W.subIn K (.ref C_InvalidSize) (.ref C_DecodeError) = some false)
    (sb_InvalidSize_PairError : PySem.W.subIn K (.ref C_InvalidSize) (.ref C_PairError) = some true)
    (vb_InvalidSize : PySem.W.subIn K (.ref C_InvalidSize) (.type "ValueError") = some true)
    (xg_InvalidSize : PySem.W.findIn K (.ref C_InvalidSize) "__getattribute__" = some (some (.builtin "BaseException.__getattribute__")))
    (xk_InvalidSize : PySem.W.findIn K (.ref C_InvalidSize) "__getattr__" = some none)
    (xs_InvalidSize : PySem.W.subIn K (.ref C_InvalidSize) (.type "BaseException") = some true)
    (xd_InvalidSize : PySem.W.hasDictIn K C_InvalidSize = true)
    (xa_InvalidSize : PySem.W.findIn K (.ref C_InvalidSize) "__class__" = some (some (.builtin "object.__class__")))
    (xm_InvalidSize : PySem.W.mroIn K C_InvalidSize (.type "object") = some true)
    (kp_InvalidSize : PySem.W.keepIn K (.ref C_InvalidSize) = true)
    (pl_InvalidSize : PySem.W.excIn K C_InvalidSize PySem.HandSPX.veTail "ValueError.__new__" = true)
    (sb_InvalidRequests_InvalidSize : PySem.W.subIn K (.ref C_InvalidRequests) (.ref C_InvalidSize) = some false)
    (sb_InvalidRequests_InvalidCell : PySem.W.subIn K (.ref C_InvalidRequests) (.ref C_InvalidCell) = some false)
    (sb_InvalidRequests_InvalidKept : PySem.W.subIn K (.ref C_InvalidRequests) (.ref C_InvalidKept) = some false)
    (sb_InvalidRequests_InvalidBlock : PySem.W.subIn K (.ref C_InvalidRequests) (.ref C_InvalidBlock) = some false)
    (sb_InvalidRequests_InvalidValue : PySem.W.subIn K (.ref C_InvalidRequests) (.ref C_InvalidValue) = some false)
    (sb_InvalidRequests_InvalidCount : PySem.W.subIn K (.ref C_InvalidRequests) (.ref C_InvalidCount) = some false)
    (sb_InvalidRequests_InvalidSlot : PySem.W.subIn K (.ref C_InvalidRequests) (.ref C_InvalidSlot) = some false)
    (sb_InvalidRequests_InvalidWord : PySem.W.subIn K (.ref C_InvalidRequests) (.ref C_InvalidWord) = some false)
    (sb_InvalidRequests_InvalidStory : PySem.W.subIn K (.ref C_InvalidRequests) (.ref C_InvalidStory) = some false)
    (sb_InvalidRequests_PowerOff : PySem.W.subIn K (.ref C_InvalidRequests) (.ref C_PowerOff) = some false)
    (sb_InvalidRequests_PowerOn : PySem.W.subIn K (.ref C_InvalidRequests) (.ref C_PowerOn) = some false)
    (sb_InvalidRequests_NoFastDisk : PySem.W.subIn K (.ref C_InvalidRequests) (.ref C_NoFastDisk) = some false)
    (sb_InvalidRequests_HasFastDisk : PySem.W.subIn K (.ref C_InvalidRequests) (.ref C_HasFastDisk) = some false)
    (sb_InvalidRequests_Unsettled : PySem.W.subIn K (.ref C_InvalidRequests) (.ref C_Unsettled) = some false)
    (sb_InvalidRequests_Contradiction : PySem.W.subIn K (.ref C_InvalidRequests) (.ref C_Contradiction) = some false)
    (sb_InvalidRequests_InvalidName : PySem.W.subIn K (.ref C_InvalidRequests) (.ref C_InvalidName) = some false)
    (sb_InvalidRequests_UnknownName : PySem.W.subIn K (.ref C_InvalidRequests) (.ref C_UnknownName) = some false)
    (sb_InvalidRequests_InvalidRules : PySem.W.subIn K (.ref C_InvalidRequests) (.ref C_InvalidRules) = some false)
    (sb_InvalidRequests_InvalidRecipes : PySem.W.subIn K (.ref C_InvalidRequests) (.ref C_InvalidRecipes) = some false)
    (sb_InvalidRequests_InvalidRequests : PySem.W.subIn K (.ref C_InvalidRequests) (.ref C_InvalidRequests) = some true)
    (sb_InvalidRequests_InvalidPrices : PySem.W.subIn K (.ref C_InvalidRequests) (.ref C_InvalidPrices) = some false)
    (sb_InvalidRequests_InvalidPlan : PySem.W.subIn K (.ref C_InvalidRequests) (.ref C_InvalidPlan) = some false)
    (sb_InvalidRequests_PowerFailed : PySem.W.subIn K (.ref C_InvalidRequests) (.ref C_PowerFailed) = some false)
    (sb_InvalidRequests_InvalidOperation : PySem.W.subIn K (.ref C_InvalidRequests) (.ref C_InvalidOperation) = some false)
    (sb_InvalidRequests_NotationError : PySem.W.subIn K (.ref C_InvalidRequests) (.ref C_NotationError) = some false)
    (sb_InvalidRequests_DecodeError : PySem.W.subIn K (.ref C_InvalidRequests) (.ref C_DecodeError) = some false)
    (sb_InvalidRequests_PairError : PySem.W.subIn K (.ref C_InvalidRequests) (.ref C_PairError) = some true)
    (vb_InvalidRequests : PySem.W.subIn K (.ref C_InvalidRequests) (.type "ValueError") = some true)
    (xg_InvalidRequests : PySem.W.findIn K (.ref C_InvalidRequests) "__getattribute__" = some (some (.builtin "BaseException.__getattribute__")))
    (xk_InvalidRequests : PySem.W.findIn K (.ref C_InvalidRequests) "__getattr__" = some none)
    (xs_InvalidRequests : PySem.W.subIn K (.ref C_InvalidRequests) (.type "BaseException") = some true)
    (xd_InvalidRequests : PySem.W.hasDictIn K C_InvalidRequests = true)
    (xa_InvalidRequests : PySem.W.findIn K (.ref C_InvalidRequests) "__class__" = some (some (.builtin "object.__class__")))
    (xm_InvalidRequests : PySem.W.mroIn K C_InvalidRequests (.type "object") = some true)
    (kp_InvalidRequests : PySem.W.keepIn K (.ref C_InvalidRequests) = true)
    {vs_InvalidRequests___init__ : Array Value} {tf_InvalidRequests___init__ : Tok}
    (iC_InvalidRequests : PySem.W.findIn K (.ref C_InvalidRequests) "__init__" = some (some (.ref f_InvalidRequests___init__)))
    (l_InvalidRequests___init__ : K.lookup f_InvalidRequests___init__ = some ⟨oc_InvalidRequests___init__, od_InvalidRequests___init__, .func (PySem.W.ksFn "__init__" "InvalidRequests.__init__" (defArgs s_InvalidRequests___init__) (defBody s_InvalidRequests___init__) (defScope s_InvalidRequests___init__) .none kV_InvalidRequests___init__ dc_InvalidRequests___init__ pm_InvalidRequests___init__ an_InvalidRequests___init__ (.ref cda_InvalidRequests___init__) ct_InvalidRequests___init__ cc_InvalidRequests___init__), sl_InvalidRequests___init__⟩)
    (c_InvalidRequests___init__ : PySem.W.codeIn K (.ref cda_InvalidRequests___init__) "InvalidRequests.__init__" = true)
    (k_InvalidRequests___init__ : PySem.W.keepIn K (.ref f_InvalidRequests___init__) = true)
    (lc_InvalidRequests___init__ : K.lookup cda_InvalidRequests___init__ = some ⟨cl_InvalidRequests___init__, cdd_InvalidRequests___init__, .fields vs_InvalidRequests___init__, csl_InvalidRequests___init__⟩)
    (fi_InvalidRequests___init__ : vs_InvalidRequests___init__[2]? = some (.str file tf_InvalidRequests___init__))
    (lcc_InvalidRequests___init__ : K.lookup cc_InvalidRequests___init__ = some ⟨ec_InvalidRequests___init__, ed_InvalidRequests___init__, .cell (some (.ref C_InvalidRequests)), es_InvalidRequests___init__⟩)
    {nm_InvalidRequests q_InvalidRequests : Str} {N_InvalidRequests : Addr} {bs_InvalidRequests bm_InvalidRequests : List Value} {sn_InvalidRequests : List Str} {sbs_InvalidRequests : List Value} {ab_InvalidRequests : Bool} {col_InvalidRequests : Option Bool} {dd_InvalidRequests : Option Addr} {k0_InvalidRequests k1_InvalidRequests k2_InvalidRequests k3_InvalidRequests k5_InvalidRequests : Option Value}
    (ob_InvalidRequests : K.lookup C_InvalidRequests = some (excClassObj nm_InvalidRequests q_InvalidRequests C_InvalidRequests N_InvalidRequests bs_InvalidRequests bm_InvalidRequests true sn_InvalidRequests sbs_InvalidRequests ab_InvalidRequests col_InvalidRequests dd_InvalidRequests k0_InvalidRequests k1_InvalidRequests k2_InvalidRequests k3_InvalidRequests k5_InvalidRequests "ValueError.__new__"))
    (rv_InvalidRequests : PySem.HandSPX.refsVE bm_InvalidRequests = true)
    (sa_InvalidRequests : PySem.W.findIn K (.ref C_InvalidRequests) "__setattr__" = some (some (.builtin "object.__setattr__")))
    (tI_InvalidRequests : PySem.W.typeIn K (.ref f_InvalidRequests___init__) = some (.type "function"))
    (mr_InvalidRequests : PySem.W.mroIn K C_InvalidRequests (.ref C_InvalidRequests) = some true)
    (su_InvalidRequests : PySem.W.ks_superIn K C_InvalidRequests C_InvalidRequests "__init__" = some (some (.builtin "ValueError.__init__")))
    (no_InvalidRequests_index : PySem.W.findIn K (.ref C_InvalidRequests) "index" = some none)
    (sb_InvalidPlan_InvalidSize : PySem.W.subIn K (.ref C_InvalidPlan) (.ref C_InvalidSize) = some false)
    (sb_InvalidPlan_InvalidCell : PySem.W.subIn K (.ref C_InvalidPlan) (.ref C_InvalidCell) = some false)
    (sb_InvalidPlan_InvalidKept : PySem.W.subIn K (.ref C_InvalidPlan) (.ref C_InvalidKept) = some false)
    (sb_InvalidPlan_InvalidBlock : PySem.W.subIn K (.ref C_InvalidPlan) (.ref C_InvalidBlock) = some false)
    (sb_InvalidPlan_InvalidValue : PySem.W.subIn K (.ref C_InvalidPlan) (.ref C_InvalidValue) = some false)
    (sb_InvalidPlan_InvalidCount : PySem.W.subIn K (.ref C_InvalidPlan) (.ref C_InvalidCount) = some false)
    (sb_InvalidPlan_InvalidSlot : PySem.W.subIn K (.ref C_InvalidPlan) (.ref C_InvalidSlot) = some false)
    (sb_InvalidPlan_InvalidWord : PySem.W.subIn K (.ref C_InvalidPlan) (.ref C_InvalidWord) = some false)
    (sb_InvalidPlan_InvalidStory : PySem.W.subIn K (.ref C_InvalidPlan) (.ref C_InvalidStory) = some false)
    (sb_InvalidPlan_PowerOff : PySem.W.subIn K (.ref C_InvalidPlan) (.ref C_PowerOff) = some false)
    (sb_InvalidPlan_PowerOn : PySem.W.subIn K (.ref C_InvalidPlan) (.ref C_PowerOn) = some false)
    (sb_InvalidPlan_NoFastDisk : PySem.W.subIn K (.ref C_InvalidPlan) (.ref C_NoFastDisk) = some false)
    (sb_InvalidPlan_HasFastDisk : PySem.W.subIn K (.ref C_InvalidPlan) (.ref C_HasFastDisk) = some false)
    (sb_InvalidPlan_Unsettled : PySem.W.subIn K (.ref C_InvalidPlan) (.ref C_Unsettled) = some false)
    (sb_InvalidPlan_Contradiction : PySem.W.subIn K (.ref C_InvalidPlan) (.ref C_Contradiction) = some false)
    (sb_InvalidPlan_InvalidName : PySem.W.subIn K (.ref C_InvalidPlan) (.ref C_InvalidName) = some false)
    (sb_InvalidPlan_UnknownName : PySem.W.subIn K (.ref C_InvalidPlan) (.ref C_UnknownName) = some false)
    (sb_InvalidPlan_InvalidRules : PySem.W.subIn K (.ref C_InvalidPlan) (.ref C_InvalidRules) = some false)
    (sb_InvalidPlan_InvalidRecipes : PySem.W.subIn K (.ref C_InvalidPlan) (.ref C_InvalidRecipes) = some false)
    (sb_InvalidPlan_InvalidRequests : PySem.W.subIn K (.ref C_InvalidPlan) (.ref C_InvalidRequests) = some false)
    (sb_InvalidPlan_InvalidPrices : PySem.W.subIn K (.ref C_InvalidPlan) (.ref C_InvalidPrices) = some false)
    (sb_InvalidPlan_InvalidPlan : PySem.W.subIn K (.ref C_InvalidPlan) (.ref C_InvalidPlan) = some true)
    (sb_InvalidPlan_PowerFailed : PySem.W.subIn K (.ref C_InvalidPlan) (.ref C_PowerFailed) = some false)
    (sb_InvalidPlan_InvalidOperation : PySem.W.subIn K (.ref C_InvalidPlan) (.ref C_InvalidOperation) = some false)
    (sb_InvalidPlan_NotationError : PySem.W.subIn K (.ref C_InvalidPlan) (.ref C_NotationError) = some false)
    (sb_InvalidPlan_DecodeError : PySem.W.subIn K (.ref C_InvalidPlan) (.ref C_DecodeError) = some false)
    (sb_InvalidPlan_PairError : PySem.W.subIn K (.ref C_InvalidPlan) (.ref C_PairError) = some true)
    (vb_InvalidPlan : PySem.W.subIn K (.ref C_InvalidPlan) (.type "ValueError") = some true)
    (xg_InvalidPlan : PySem.W.findIn K (.ref C_InvalidPlan) "__getattribute__" = some (some (.builtin "BaseException.__getattribute__")))
    (xk_InvalidPlan : PySem.W.findIn K (.ref C_InvalidPlan) "__getattr__" = some none)
    (xs_InvalidPlan : PySem.W.subIn K (.ref C_InvalidPlan) (.type "BaseException") = some true)
    (xd_InvalidPlan : PySem.W.hasDictIn K C_InvalidPlan = true)
    (xa_InvalidPlan : PySem.W.findIn K (.ref C_InvalidPlan) "__class__" = some (some (.builtin "object.__class__")))
    (xm_InvalidPlan : PySem.W.mroIn K C_InvalidPlan (.type "object") = some true)
    (kp_InvalidPlan : PySem.W.keepIn K (.ref C_InvalidPlan) = true)
    {vs_InvalidPlan___init__ : Array Value} {tf_InvalidPlan___init__ : Tok}
    (iC_InvalidPlan : PySem.W.findIn K (.ref C_InvalidPlan) "__init__" = some (some (.ref f_InvalidPlan___init__)))
    (l_InvalidPlan___init__ : K.lookup f_InvalidPlan___init__ = some ⟨oc_InvalidPlan___init__, od_InvalidPlan___init__, .func (PySem.W.ksFn "__init__" "InvalidPlan.__init__" (defArgs s_InvalidPlan___init__) (defBody s_InvalidPlan___init__) (defScope s_InvalidPlan___init__) .none kV_InvalidPlan___init__ dc_InvalidPlan___init__ pm_InvalidPlan___init__ an_InvalidPlan___init__ (.ref cda_InvalidPlan___init__) ct_InvalidPlan___init__ cc_InvalidPlan___init__), sl_InvalidPlan___init__⟩)
    (c_InvalidPlan___init__ : PySem.W.codeIn K (.ref cda_InvalidPlan___init__) "InvalidPlan.__init__" = true)
    (k_InvalidPlan___init__ : PySem.W.keepIn K (.ref f_InvalidPlan___init__) = true)
    (lc_InvalidPlan___init__ : K.lookup cda_InvalidPlan___init__ = some ⟨cl_InvalidPlan___init__, cdd_InvalidPlan___init__, .fields vs_InvalidPlan___init__, csl_InvalidPlan___init__⟩)
    (fi_InvalidPlan___init__ : vs_InvalidPlan___init__[2]? = some (.str file tf_InvalidPlan___init__))
    (lcc_InvalidPlan___init__ : K.lookup cc_InvalidPlan___init__ = some ⟨ec_InvalidPlan___init__, ed_InvalidPlan___init__, .cell (some (.ref C_InvalidPlan)), es_InvalidPlan___init__⟩)
    {nm_InvalidPlan q_InvalidPlan : Str} {N_InvalidPlan : Addr} {bs_InvalidPlan bm_InvalidPlan : List Value} {sn_InvalidPlan : List Str} {sbs_InvalidPlan : List Value} {ab_InvalidPlan : Bool} {col_InvalidPlan : Option Bool} {dd_InvalidPlan : Option Addr} {k0_InvalidPlan k1_InvalidPlan k2_InvalidPlan k3_InvalidPlan k5_InvalidPlan : Option Value}
    (ob_InvalidPlan : K.lookup C_InvalidPlan = some (excClassObj nm_InvalidPlan q_InvalidPlan C_InvalidPlan N_InvalidPlan bs_InvalidPlan bm_InvalidPlan true sn_InvalidPlan sbs_InvalidPlan ab_InvalidPlan col_InvalidPlan dd_InvalidPlan k0_InvalidPlan k1_InvalidPlan k2_InvalidPlan k3_InvalidPlan k5_InvalidPlan "ValueError.__new__"))
    (rv_InvalidPlan : PySem.HandSPX.refsVE bm_InvalidPlan = true)
    (sa_InvalidPlan : PySem.W.findIn K (.ref C_InvalidPlan) "__setattr__" = some (some (.builtin "object.__setattr__")))
    (tI_InvalidPlan : PySem.W.typeIn K (.ref f_InvalidPlan___init__) = some (.type "function"))
    (mr_InvalidPlan : PySem.W.mroIn K C_InvalidPlan (.ref C_InvalidPlan) = some true)
    (su_InvalidPlan : PySem.W.ks_superIn K C_InvalidPlan C_InvalidPlan "__init__" = some (some (.builtin "ValueError.__init__")))
    (no_InvalidPlan_index : PySem.W.findIn K (.ref C_InvalidPlan) "index" = some none)
    (fl : ((l.prog.main.file : Str) == file) = true) (stop : (l.prog.main.scope.names.lookup ("super" : Str)).isSome = false) (np : P_law ≠ P__law_are_refused)
    : LawAtS l w K C8.CX0 16 63 "_law_script" mg fa h := by
  have G := TT.g
  have e := hfa.symm.trans (mg_of X G a_law)
  cases e
  obtain ⟨T, hT⟩ : ∃ T : Gx K mg, T.file = file ∧ T.f__law_are_refused = f__law_are_refused := ⟨{
    f_is_number := f_is_number, fd_is_number := _,
    F_is_number := fun_mk (st := s_is_number) l_is_number c_is_number k_is_number,
    g_is_number := PySem.W.mg_of X G a_is_number,
    f_is_number_from := f_is_number_from, fd_is_number_from := _,
    F_is_number_from := fun_mk (st := s_is_number_from) l_is_number_from c_is_number_from k_is_number_from,
    g_is_number_from := PySem.W.mg_of X G a_is_number_from,
    f_check_slots := f_check_slots, fd_check_slots := _,
    F_check_slots := ⟨⟨oc_check_slots, od_check_slots, .ref Dt_check_slots, kV_check_slots, dc_check_slots, pm_check_slots, an_check_slots, cd_check_slots, ct_check_slots, sl_check_slots, rfl, l_check_slots, c_check_slots, .inr ⟨by simp, Dt_check_slots, _, [.int 8 td_check_slots_0], nt_check_slots, rfl, ld_check_slots, rfl, .cons ⟨_, rfl⟩ (.nil)⟩, .inl rfl⟩, k_check_slots⟩,
    g_check_slots := PySem.W.mg_of X G a_check_slots,
    f_fewest_misses := f_fewest_misses, fd_fewest_misses := _,
    F_fewest_misses := fun_mk (st := s_fewest_misses) l_fewest_misses c_fewest_misses k_fewest_misses,
    g_fewest_misses := PySem.W.mg_of X G a_fewest_misses,
    f_judge_plan := f_judge_plan, fd_judge_plan := _,
    F_judge_plan := fun_mk (st := s_judge_plan) l_judge_plan c_judge_plan k_judge_plan,
    g_judge_plan := PySem.W.mg_of X G a_judge_plan,
    f__check_reads := f__check_reads, fd__check_reads := _,
    F__check_reads := fun_mk (st := s__check_reads) l__check_reads c__check_reads k__check_reads,
    g__check_reads := PySem.W.mg_of X G a__check_reads,
    f__can_be := f__can_be, fd__can_be := _,
    F__can_be := fun_mk (st := s__can_be) l__can_be c__can_be k__can_be,
    g__can_be := PySem.W.mg_of X G a__can_be,
    f__kept_after := f__kept_after, fd__kept_after := _,
    F__kept_after := fun_mk (st := s__kept_after) l__kept_after c__kept_after k__kept_after,
    g__kept_after := PySem.W.mg_of X G a__kept_after,
    f__law_random := f__law_random, fd__law_random := _,
    F__law_random := fun_mk (st := s__law_random) l__law_random c__law_random k__law_random,
    g__law_random := PySem.W.mg_of X G a__law_random,
    f__law_below := f__law_below, fd__law_below := _,
    F__law_below := fun_mk (st := s__law_below) l__law_below c__law_below k__law_below,
    g__law_below := PySem.W.mg_of X G a__law_below,
    f__law_equal := f__law_equal, fd__law_equal := _,
    F__law_equal := fun_mk (st := s__law_equal) l__law_equal c__law_equal k__law_equal,
    g__law_equal := PySem.W.mg_of X G a__law_equal,
    f__law_told_of := f__law_told_of, fd__law_told_of := _,
    F__law_told_of := fun_mk (st := s__law_told_of) l__law_told_of c__law_told_of k__law_told_of,
    g__law_told_of := PySem.W.mg_of X G a__law_told_of,
    f__law_error_of := f__law_error_of, fd__law_error_of := _,
    F__law_error_of := fun_mk (st := s__law_error_of) l__law_error_of c__law_error_of k__law_error_of,
    g__law_error_of := PySem.W.mg_of X G a__law_error_of,
    f__law_all_raise := f__law_all_raise, fd__law_all_raise := _,
    F__law_all_raise := fun_mk (st := s__law_all_raise) l__law_all_raise c__law_all_raise k__law_all_raise,
    g__law_all_raise := PySem.W.mg_of X G a__law_all_raise,
    f__law_are_refused := f__law_are_refused, g__law_are_refused := PySem.W.mg_of X G a__law_are_refused, kp__law_are_refused := k__law_are_refused,
    z_isinstance := PySem.W.mg_none_of X G z_isinstance,
    z_int := PySem.W.mg_none_of X G z_int,
    z_bool := PySem.W.mg_none_of X G z_bool,
    z_str := PySem.W.mg_none_of X G z_str,
    z_list := PySem.W.mg_none_of X G z_list,
    z_tuple := PySem.W.mg_none_of X G z_tuple,
    z_len := PySem.W.mg_none_of X G z_len,
    z_abs := PySem.W.mg_none_of X G z_abs,
    z_range := PySem.W.mg_none_of X G z_range,
    z_enumerate := PySem.W.mg_none_of X G z_enumerate,
    z_min := PySem.W.mg_none_of X G z_min,
    z_max := PySem.W.mg_none_of X G z_max,
    z_all := PySem.W.mg_none_of X G z_all,
    z_super := PySem.W.mg_none_of X G z_super,
    z_ValueError := PySem.W.mg_none_of X G z_ValueError,
    t_MOST_READS := t_MOST_READS, c_MOST_READS := PySem.W.mg_of X G c_MOST_READS,
    t_MOST_READ_BLOCK := t_MOST_READ_BLOCK, c_MOST_READ_BLOCK := PySem.W.mg_of X G c_MOST_READ_BLOCK,
    third := third,
    file := file,
    C_InvalidSize := C_InvalidSize, gC_InvalidSize := PySem.W.mg_of X G aC_InvalidSize,
    ic_InvalidSize := ic_InvalidSize,
    ty_InvalidSize := ty_InvalidSize,
    C_InvalidCell := C_InvalidCell, gC_InvalidCell := PySem.W.mg_of X G aC_InvalidCell,
    ic_InvalidCell := ic_InvalidCell,
    ty_InvalidCell := ty_InvalidCell,
    C_InvalidKept := C_InvalidKept, gC_InvalidKept := PySem.W.mg_of X G aC_InvalidKept,
    ic_InvalidKept := ic_InvalidKept,
    ty_InvalidKept := ty_InvalidKept,
    C_InvalidBlock := C_InvalidBlock, gC_InvalidBlock := PySem.W.mg_of X G aC_InvalidBlock,
    ic_InvalidBlock := ic_InvalidBlock,
    ty_InvalidBlock := ty_InvalidBlock,
    C_InvalidValue := C_InvalidValue, gC_InvalidValue := PySem.W.mg_of X G aC_InvalidValue,
    ic_InvalidValue := ic_InvalidValue,
    ty_InvalidValue := ty_InvalidValue,
    C_InvalidCount := C_InvalidCount, gC_InvalidCount := PySem.W.mg_of X G aC_InvalidCount,
    ic_InvalidCount := ic_InvalidCount,
    ty_InvalidCount := ty_InvalidCount,
    C_InvalidSlot := C_InvalidSlot, gC_InvalidSlot := PySem.W.mg_of X G aC_InvalidSlot,
    ic_InvalidSlot := ic_InvalidSlot,
    ty_InvalidSlot := ty_InvalidSlot,
    C_InvalidWord := C_InvalidWord, gC_InvalidWord := PySem.W.mg_of X G aC_InvalidWord,
    ic_InvalidWord := ic_InvalidWord,
    ty_InvalidWord := ty_InvalidWord,
    C_InvalidStory := C_InvalidStory, gC_InvalidStory := PySem.W.mg_of X G aC_InvalidStory,
    ic_InvalidStory := ic_InvalidStory,
    ty_InvalidStory := ty_InvalidStory,
    C_PowerOff := C_PowerOff, gC_PowerOff := PySem.W.mg_of X G aC_PowerOff,
    ic_PowerOff := ic_PowerOff,
    ty_PowerOff := ty_PowerOff,
    C_PowerOn := C_PowerOn, gC_PowerOn := PySem.W.mg_of X G aC_PowerOn,
    ic_PowerOn := ic_PowerOn,
    ty_PowerOn := ty_PowerOn,
    C_NoFastDisk := C_NoFastDisk, gC_NoFastDisk := PySem.W.mg_of X G aC_NoFastDisk,
    ic_NoFastDisk := ic_NoFastDisk,
    ty_NoFastDisk := ty_NoFastDisk,
    C_HasFastDisk := C_HasFastDisk, gC_HasFastDisk := PySem.W.mg_of X G aC_HasFastDisk,
    ic_HasFastDisk := ic_HasFastDisk,
    ty_HasFastDisk := ty_HasFastDisk,
    C_Unsettled := C_Unsettled, gC_Unsettled := PySem.W.mg_of X G aC_Unsettled,
    ic_Unsettled := ic_Unsettled,
    ty_Unsettled := ty_Unsettled,
    C_Contradiction := C_Contradiction, gC_Contradiction := PySem.W.mg_of X G aC_Contradiction,
    ic_Contradiction := ic_Contradiction,
    ty_Contradiction := ty_Contradiction,
    C_InvalidName := C_InvalidName, gC_InvalidName := PySem.W.mg_of X G aC_InvalidName,
    ic_InvalidName := ic_InvalidName,
    ty_InvalidName := ty_InvalidName,
    C_UnknownName := C_UnknownName, gC_UnknownName := PySem.W.mg_of X G aC_UnknownName,
    ic_UnknownName := ic_UnknownName,
    ty_UnknownName := ty_UnknownName,
    C_InvalidRules := C_InvalidRules, gC_InvalidRules := PySem.W.mg_of X G aC_InvalidRules,
    ic_InvalidRules := ic_InvalidRules,
    ty_InvalidRules := ty_InvalidRules,
    C_InvalidRecipes := C_InvalidRecipes, gC_InvalidRecipes := PySem.W.mg_of X G aC_InvalidRecipes,
    ic_InvalidRecipes := ic_InvalidRecipes,
    ty_InvalidRecipes := ty_InvalidRecipes,
    C_InvalidRequests := C_InvalidRequests, gC_InvalidRequests := PySem.W.mg_of X G aC_InvalidRequests,
    ic_InvalidRequests := ic_InvalidRequests,
    ty_InvalidRequests := ty_InvalidRequests,
    C_InvalidPrices := C_InvalidPrices, gC_InvalidPrices := PySem.W.mg_of X G aC_InvalidPrices,
    ic_InvalidPrices := ic_InvalidPrices,
    ty_InvalidPrices := ty_InvalidPrices,
    C_InvalidPlan := C_InvalidPlan, gC_InvalidPlan := PySem.W.mg_of X G aC_InvalidPlan,
    ic_InvalidPlan := ic_InvalidPlan,
    ty_InvalidPlan := ty_InvalidPlan,
    C_PowerFailed := C_PowerFailed, gC_PowerFailed := PySem.W.mg_of X G aC_PowerFailed,
    ic_PowerFailed := ic_PowerFailed,
    ty_PowerFailed := ty_PowerFailed,
    C_InvalidOperation := C_InvalidOperation, gC_InvalidOperation := PySem.W.mg_of X G aC_InvalidOperation,
    ic_InvalidOperation := ic_InvalidOperation,
    ty_InvalidOperation := ty_InvalidOperation,
    C_NotationError := C_NotationError, gC_NotationError := PySem.W.mg_of X G aC_NotationError,
    ic_NotationError := ic_NotationError,
    ty_NotationError := ty_NotationError,
    C_DecodeError := C_DecodeError, gC_DecodeError := PySem.W.mg_of X G aC_DecodeError,
    ic_DecodeError := ic_DecodeError,
    ty_DecodeError := ty_DecodeError,
    C_PairError := C_PairError, gC_PairError := PySem.W.mg_of X G aC_PairError,
    ic_PairError := ic_PairError,
    ty_PairError := ty_PairError,
    pb := pb,
    ph := ph,
    sb_InvalidSize_InvalidSize := sb_InvalidSize_InvalidSize,
    sb_InvalidSize_InvalidCell := sb_InvalidSize_InvalidCell,
    sb_InvalidSize_InvalidKept := sb_InvalidSize_InvalidKept,
    sb_InvalidSize_InvalidBlock := sb_InvalidSize_InvalidBlock,
    sb_InvalidSize_InvalidValue := sb_InvalidSize_InvalidValue,
    sb_InvalidSize_InvalidCount := sb_InvalidSize_InvalidCount,
    sb_InvalidSize_InvalidSlot := sb_InvalidSize_InvalidSlot,
    sb_InvalidSize_InvalidWord := sb_InvalidSize_InvalidWord,
    sb_InvalidSize_InvalidStory := sb_InvalidSize_InvalidStory,
    sb_InvalidSize_PowerOff := sb_InvalidSize_PowerOff,
    sb_InvalidSize_PowerOn := sb_InvalidSize_PowerOn,
    sb_InvalidSize_NoFastDisk := sb_InvalidSize_NoFastDisk,
    sb_InvalidSize_HasFastDisk := sb_InvalidSize_HasFastDisk,
    sb_InvalidSize_Unsettled := sb_InvalidSize_Unsettled,
    sb_InvalidSize_Contradiction := sb_InvalidSize_Contradiction,
    sb_InvalidSize_InvalidName := sb_InvalidSize_InvalidName,
    sb_InvalidSize_UnknownName := sb_InvalidSize_UnknownName,
    sb_InvalidSize_InvalidRules := sb_InvalidSize_InvalidRules,
    sb_InvalidSize_InvalidRecipes := sb_InvalidSize_InvalidRecipes,
    sb_InvalidSize_InvalidRequests := sb_InvalidSize_InvalidRequests,
    sb_InvalidSize_InvalidPrices := sb_InvalidSize_InvalidPrices,
    sb_InvalidSize_InvalidPlan := sb_InvalidSize_InvalidPlan,
    sb_InvalidSize_PowerFailed := sb_InvalidSize_PowerFailed,
    sb_InvalidSize_InvalidOperation := sb_InvalidSize_InvalidOperation,
    sb_InvalidSize_NotationError := sb_InvalidSize_NotationError,
    sb_InvalidSize_DecodeError := sb_InvalidSize_DecodeError,
    sb_InvalidSize_PairError := sb_InvalidSize_PairError,
    vb_InvalidSize := vb_InvalidSize,
    E_InvalidSize := ⟨xg_InvalidSize, xk_InvalidSize, xs_InvalidSize, xd_InvalidSize, xa_InvalidSize, xn, xt, xm_InvalidSize⟩,
    kp_InvalidSize := kp_InvalidSize,
    pl_InvalidSize := pl_InvalidSize,
    sb_InvalidRequests_InvalidSize := sb_InvalidRequests_InvalidSize,
    sb_InvalidRequests_InvalidCell := sb_InvalidRequests_InvalidCell,
    sb_InvalidRequests_InvalidKept := sb_InvalidRequests_InvalidKept,
    sb_InvalidRequests_InvalidBlock := sb_InvalidRequests_InvalidBlock,
    sb_InvalidRequests_InvalidValue := sb_InvalidRequests_InvalidValue,
    sb_InvalidRequests_InvalidCount := sb_InvalidRequests_InvalidCount,
    sb_InvalidRequests_InvalidSlot := sb_InvalidRequests_InvalidSlot,
    sb_InvalidRequests_InvalidWord := sb_InvalidRequests_InvalidWord,
    sb_InvalidRequests_InvalidStory := sb_InvalidRequests_InvalidStory,
    sb_InvalidRequests_PowerOff := sb_InvalidRequests_PowerOff,
    sb_InvalidRequests_PowerOn := sb_InvalidRequests_PowerOn,
    sb_InvalidRequests_NoFastDisk := sb_InvalidRequests_NoFastDisk,
    sb_InvalidRequests_HasFastDisk := sb_InvalidRequests_HasFastDisk,
    sb_InvalidRequests_Unsettled := sb_InvalidRequests_Unsettled,
    sb_InvalidRequests_Contradiction := sb_InvalidRequests_Contradiction,
    sb_InvalidRequests_InvalidName := sb_InvalidRequests_InvalidName,
    sb_InvalidRequests_UnknownName := sb_InvalidRequests_UnknownName,
    sb_InvalidRequests_InvalidRules := sb_InvalidRequests_InvalidRules,
    sb_InvalidRequests_InvalidRecipes := sb_InvalidRequests_InvalidRecipes,
    sb_InvalidRequests_InvalidRequests := sb_InvalidRequests_InvalidRequests,
    sb_InvalidRequests_InvalidPrices := sb_InvalidRequests_InvalidPrices,
    sb_InvalidRequests_InvalidPlan := sb_InvalidRequests_InvalidPlan,
    sb_InvalidRequests_PowerFailed := sb_InvalidRequests_PowerFailed,
    sb_InvalidRequests_InvalidOperation := sb_InvalidRequests_InvalidOperation,
    sb_InvalidRequests_NotationError := sb_InvalidRequests_NotationError,
    sb_InvalidRequests_DecodeError := sb_InvalidRequests_DecodeError,
    sb_InvalidRequests_PairError := sb_InvalidRequests_PairError,
    vb_InvalidRequests := vb_InvalidRequests,
    E_InvalidRequests := ⟨xg_InvalidRequests, xk_InvalidRequests, xs_InvalidRequests, xd_InvalidRequests, xa_InvalidRequests, xn, xt, xm_InvalidRequests⟩,
    kp_InvalidRequests := kp_InvalidRequests,
    iC_InvalidRequests := iC_InvalidRequests,
    f_InvalidRequests___init__ := f_InvalidRequests___init__, fd_InvalidRequests___init__ := _, cc_InvalidRequests___init__ := cc_InvalidRequests___init__, S_InvalidRequests___init__ := ⟨⟨oc_InvalidRequests___init__, od_InvalidRequests___init__, kV_InvalidRequests___init__, dc_InvalidRequests___init__, pm_InvalidRequests___init__, an_InvalidRequests___init__, cda_InvalidRequests___init__, ct_InvalidRequests___init__, sl_InvalidRequests___init__, cl_InvalidRequests___init__, cdd_InvalidRequests___init__, vs_InvalidRequests___init__, csl_InvalidRequests___init__, tf_InvalidRequests___init__, ec_InvalidRequests___init__, ed_InvalidRequests___init__, es_InvalidRequests___init__, rfl, l_InvalidRequests___init__, c_InvalidRequests___init__, lc_InvalidRequests___init__, fi_InvalidRequests___init__, lcc_InvalidRequests___init__⟩, k_InvalidRequests___init__⟩,
    O_InvalidRequests := ⟨⟨_, _, _, _, _, _, _, _, _, _, _, _, _, _, _, ob_InvalidRequests, rv_InvalidRequests⟩, sa_InvalidRequests, xs_InvalidRequests, ty_InvalidRequests, kp_InvalidRequests⟩,
    tI_InvalidRequests := tI_InvalidRequests,
    mr_InvalidRequests := mr_InvalidRequests,
    su_InvalidRequests := su_InvalidRequests,
    no_InvalidRequests_index := no_InvalidRequests_index,
    sb_InvalidPlan_InvalidSize := sb_InvalidPlan_InvalidSize,
    sb_InvalidPlan_InvalidCell := sb_InvalidPlan_InvalidCell,
    sb_InvalidPlan_InvalidKept := sb_InvalidPlan_InvalidKept,
    sb_InvalidPlan_InvalidBlock := sb_InvalidPlan_InvalidBlock,
    sb_InvalidPlan_InvalidValue := sb_InvalidPlan_InvalidValue,
    sb_InvalidPlan_InvalidCount := sb_InvalidPlan_InvalidCount,
    sb_InvalidPlan_InvalidSlot := sb_InvalidPlan_InvalidSlot,
    sb_InvalidPlan_InvalidWord := sb_InvalidPlan_InvalidWord,
    sb_InvalidPlan_InvalidStory := sb_InvalidPlan_InvalidStory,
    sb_InvalidPlan_PowerOff := sb_InvalidPlan_PowerOff,
    sb_InvalidPlan_PowerOn := sb_InvalidPlan_PowerOn,
    sb_InvalidPlan_NoFastDisk := sb_InvalidPlan_NoFastDisk,
    sb_InvalidPlan_HasFastDisk := sb_InvalidPlan_HasFastDisk,
    sb_InvalidPlan_Unsettled := sb_InvalidPlan_Unsettled,
    sb_InvalidPlan_Contradiction := sb_InvalidPlan_Contradiction,
    sb_InvalidPlan_InvalidName := sb_InvalidPlan_InvalidName,
    sb_InvalidPlan_UnknownName := sb_InvalidPlan_UnknownName,
    sb_InvalidPlan_InvalidRules := sb_InvalidPlan_InvalidRules,
    sb_InvalidPlan_InvalidRecipes := sb_InvalidPlan_InvalidRecipes,
    sb_InvalidPlan_InvalidRequests := sb_InvalidPlan_InvalidRequests,
    sb_InvalidPlan_InvalidPrices := sb_InvalidPlan_InvalidPrices,
    sb_InvalidPlan_InvalidPlan := sb_InvalidPlan_InvalidPlan,
    sb_InvalidPlan_PowerFailed := sb_InvalidPlan_PowerFailed,
    sb_InvalidPlan_InvalidOperation := sb_InvalidPlan_InvalidOperation,
    sb_InvalidPlan_NotationError := sb_InvalidPlan_NotationError,
    sb_InvalidPlan_DecodeError := sb_InvalidPlan_DecodeError,
    sb_InvalidPlan_PairError := sb_InvalidPlan_PairError,
    vb_InvalidPlan := vb_InvalidPlan,
    E_InvalidPlan := ⟨xg_InvalidPlan, xk_InvalidPlan, xs_InvalidPlan, xd_InvalidPlan, xa_InvalidPlan, xn, xt, xm_InvalidPlan⟩,
    kp_InvalidPlan := kp_InvalidPlan,
    iC_InvalidPlan := iC_InvalidPlan,
    f_InvalidPlan___init__ := f_InvalidPlan___init__, fd_InvalidPlan___init__ := _, cc_InvalidPlan___init__ := cc_InvalidPlan___init__, S_InvalidPlan___init__ := ⟨⟨oc_InvalidPlan___init__, od_InvalidPlan___init__, kV_InvalidPlan___init__, dc_InvalidPlan___init__, pm_InvalidPlan___init__, an_InvalidPlan___init__, cda_InvalidPlan___init__, ct_InvalidPlan___init__, sl_InvalidPlan___init__, cl_InvalidPlan___init__, cdd_InvalidPlan___init__, vs_InvalidPlan___init__, csl_InvalidPlan___init__, tf_InvalidPlan___init__, ec_InvalidPlan___init__, ed_InvalidPlan___init__, es_InvalidPlan___init__, rfl, l_InvalidPlan___init__, c_InvalidPlan___init__, lc_InvalidPlan___init__, fi_InvalidPlan___init__, lcc_InvalidPlan___init__⟩, k_InvalidPlan___init__⟩,
    O_InvalidPlan := ⟨⟨_, _, _, _, _, _, _, _, _, _, _, _, _, _, _, ob_InvalidPlan, rv_InvalidPlan⟩, sa_InvalidPlan, xs_InvalidPlan, ty_InvalidPlan, kp_InvalidPlan⟩,
    tI_InvalidPlan := tI_InvalidPlan,
    mr_InvalidPlan := mr_InvalidPlan,
    su_InvalidPlan := su_InvalidPlan,
    no_InvalidPlan_index := no_InvalidPlan_index }, rfl, rfl⟩
  obtain ⟨hT, hT2⟩ := hT
  have HP : ProgOk l.prog T.file := by
    rw [hT]
    exact ⟨fl, stop⟩
  exact lawat2 (fd := fnOf "law" "law" (defArgs s_law) (defBody s_law) (defScope s_law) .none kV_law dc_law pm_law an_law (.ref cda_law) ct_law) (sp := spLaw K P_law P__law_are_refused) TT X nt hrec (tabIn_of a_law l_law rfl lc_law tp_law) hrec2 (tabIn_of a__law_are_refused l__law_are_refused rfl lc__law_are_refused tp__law_are_refused) (fun s v => .of_eq rfl) (fun base _ _ TB TB2 => ok_law T HP l_law c_law TB (by rw [hT2]; exact l__law_are_refused) c__law_are_refused TB2 np) (fun H a ns hl hT hT2 hS => ⟨a, ns, rfl, hS, hl, hT, hT2, fun _ => rfl⟩)
end Kb
open PySem PySem.W PyProof.Rows in
set_option maxRecDepth 100000 in
set_option maxHeartbeats 0 in
theorem PySem.Challenge.cw_keepbefore_k60_plans_judged_holds : PySem.Challenge.rw_keepbefore_k60_plans_judged.Holds := by
  w_on; o_law; k_head; (case hw => w_witness2)
  k_fill
  refine Kb.walk_lam (l := PySem.Challenge.rw_keepbefore_k60_plans_judged) (n := 63) (k := 16) (x := "_law_script") rfl (by decide) rfl ⟨rfl, by decide, by decide⟩ (fun w h Y => by first | exact PySem.W.km_in_of Y | exact PySem.W.kIn_of Y) ?F
  case F =>
    intro w lo mean mg mb fa h KX TT hmg
    refine' Kb.all_mk TT KX hmg (by kernel_rfl) rfl rfl ?a_is_number ?l_is_number ?c_is_number ?k_is_number ?a_is_number_from ?l_is_number_from ?c_is_number_from ?k_is_number_from ?a_check_slots ?l_check_slots ?c_check_slots ?k_check_slots ?ld_check_slots ?a_fewest_misses ?l_fewest_misses ?c_fewest_misses ?k_fewest_misses ?a_judge_plan ?l_judge_plan ?c_judge_plan ?k_judge_plan ?a__check_reads ?l__check_reads ?c__check_reads ?k__check_reads ?a__can_be ?l__can_be ?c__can_be ?k__can_be ?a__kept_after ?l__kept_after ?c__kept_after ?k__kept_after ?a__law_random ?l__law_random ?c__law_random ?k__law_random ?a__law_below ?l__law_below ?c__law_below ?k__law_below ?a__law_equal ?l__law_equal ?c__law_equal ?k__law_equal ?a__law_told_of ?l__law_told_of ?c__law_told_of ?k__law_told_of ?a__law_error_of ?l__law_error_of ?c__law_error_of ?k__law_error_of ?a__law_all_raise ?l__law_all_raise ?c__law_all_raise ?k__law_all_raise ?a__law_are_refused ?l__law_are_refused ?c__law_are_refused ?k__law_are_refused ?lc__law_are_refused ?tp__law_are_refused ?a_law ?l_law ?c_law ?k_law ?lc_law ?tp_law ?z_isinstance ?z_int ?z_bool ?z_str ?z_list ?z_tuple ?z_len ?z_abs ?z_range ?z_enumerate ?z_min ?z_max ?z_all ?z_super ?z_ValueError ?c_MOST_READS ?c_MOST_READ_BLOCK ?third ?aC_InvalidSize ?ic_InvalidSize ?ty_InvalidSize ?aC_InvalidCell ?ic_InvalidCell ?ty_InvalidCell ?aC_InvalidKept ?ic_InvalidKept ?ty_InvalidKept ?aC_InvalidBlock ?ic_InvalidBlock ?ty_InvalidBlock ?aC_InvalidValue ?ic_InvalidValue ?ty_InvalidValue ?aC_InvalidCount ?ic_InvalidCount ?ty_InvalidCount ?aC_InvalidSlot ?ic_InvalidSlot ?ty_InvalidSlot ?aC_InvalidWord ?ic_InvalidWord ?ty_InvalidWord ?aC_InvalidStory ?ic_InvalidStory ?ty_InvalidStory ?aC_PowerOff ?ic_PowerOff ?ty_PowerOff ?aC_PowerOn ?ic_PowerOn ?ty_PowerOn ?aC_NoFastDisk ?ic_NoFastDisk ?ty_NoFastDisk ?aC_HasFastDisk ?ic_HasFastDisk ?ty_HasFastDisk ?aC_Unsettled ?ic_Unsettled ?ty_Unsettled ?aC_Contradiction ?ic_Contradiction ?ty_Contradiction ?aC_InvalidName ?ic_InvalidName ?ty_InvalidName ?aC_UnknownName ?ic_UnknownName ?ty_UnknownName ?aC_InvalidRules ?ic_InvalidRules ?ty_InvalidRules ?aC_InvalidRecipes ?ic_InvalidRecipes ?ty_InvalidRecipes ?aC_InvalidRequests ?ic_InvalidRequests ?ty_InvalidRequests ?aC_InvalidPrices ?ic_InvalidPrices ?ty_InvalidPrices ?aC_InvalidPlan ?ic_InvalidPlan ?ty_InvalidPlan ?aC_PowerFailed ?ic_PowerFailed ?ty_PowerFailed ?aC_InvalidOperation ?ic_InvalidOperation ?ty_InvalidOperation ?aC_NotationError ?ic_NotationError ?ty_NotationError ?aC_DecodeError ?ic_DecodeError ?ty_DecodeError ?aC_PairError ?ic_PairError ?ty_PairError ?pb ?ph ?xn ?xt ?sb_InvalidSize_InvalidSize ?sb_InvalidSize_InvalidCell ?sb_InvalidSize_InvalidKept ?sb_InvalidSize_InvalidBlock ?sb_InvalidSize_InvalidValue ?sb_InvalidSize_InvalidCount ?sb_InvalidSize_InvalidSlot ?sb_InvalidSize_InvalidWord ?sb_InvalidSize_InvalidStory ?sb_InvalidSize_PowerOff ?sb_InvalidSize_PowerOn ?sb_InvalidSize_NoFastDisk ?sb_InvalidSize_HasFastDisk ?sb_InvalidSize_Unsettled ?sb_InvalidSize_Contradiction ?sb_InvalidSize_InvalidName ?sb_InvalidSize_UnknownName ?sb_InvalidSize_InvalidRules ?sb_InvalidSize_InvalidRecipes ?sb_InvalidSize_InvalidRequests ?sb_InvalidSize_InvalidPrices ?sb_InvalidSize_InvalidPlan ?sb_InvalidSize_PowerFailed ?sb_InvalidSize_InvalidOperation ?sb_InvalidSize_NotationError ?sb_InvalidSize_DecodeError ?sb_InvalidSize_PairError ?vb_InvalidSize ?xg_InvalidSize ?xk_InvalidSize ?xs_InvalidSize ?xd_InvalidSize ?xa_InvalidSize ?xm_InvalidSize ?kp_InvalidSize ?pl_InvalidSize ?sb_InvalidRequests_InvalidSize ?sb_InvalidRequests_InvalidCell ?sb_InvalidRequests_InvalidKept ?sb_InvalidRequests_InvalidBlock ?sb_InvalidRequests_InvalidValue ?sb_InvalidRequests_InvalidCount ?sb_InvalidRequests_InvalidSlot ?sb_InvalidRequests_InvalidWord ?sb_InvalidRequests_InvalidStory ?sb_InvalidRequests_PowerOff ?sb_InvalidRequests_PowerOn ?sb_InvalidRequests_NoFastDisk ?sb_InvalidRequests_HasFastDisk ?sb_InvalidRequests_Unsettled ?sb_InvalidRequests_Contradiction ?sb_InvalidRequests_InvalidName ?sb_InvalidRequests_UnknownName ?sb_InvalidRequests_InvalidRules ?sb_InvalidRequests_InvalidRecipes ?sb_InvalidRequests_InvalidRequests ?sb_InvalidRequests_InvalidPrices ?sb_InvalidRequests_InvalidPlan ?sb_InvalidRequests_PowerFailed ?sb_InvalidRequests_InvalidOperation ?sb_InvalidRequests_NotationError ?sb_InvalidRequests_DecodeError ?sb_InvalidRequests_PairError ?vb_InvalidRequests ?xg_InvalidRequests ?xk_InvalidRequests ?xs_InvalidRequests ?xd_InvalidRequests ?xa_InvalidRequests ?xm_InvalidRequests ?kp_InvalidRequests ?iC_InvalidRequests ?l_InvalidRequests___init__ ?c_InvalidRequests___init__ ?k_InvalidRequests___init__ ?lc_InvalidRequests___init__ ?fi_InvalidRequests___init__ ?lcc_InvalidRequests___init__ ?ob_InvalidRequests ?rv_InvalidRequests ?sa_InvalidRequests ?tI_InvalidRequests ?mr_InvalidRequests ?su_InvalidRequests ?no_InvalidRequests_index ?sb_InvalidPlan_InvalidSize ?sb_InvalidPlan_InvalidCell ?sb_InvalidPlan_InvalidKept ?sb_InvalidPlan_InvalidBlock ?sb_InvalidPlan_InvalidValue ?sb_InvalidPlan_InvalidCount ?sb_InvalidPlan_InvalidSlot ?sb_InvalidPlan_InvalidWord ?sb_InvalidPlan_InvalidStory ?sb_InvalidPlan_PowerOff ?sb_InvalidPlan_PowerOn ?sb_InvalidPlan_NoFastDisk ?sb_InvalidPlan_HasFastDisk ?sb_InvalidPlan_Unsettled ?sb_InvalidPlan_Contradiction ?sb_InvalidPlan_InvalidName ?sb_InvalidPlan_UnknownName ?sb_InvalidPlan_InvalidRules ?sb_InvalidPlan_InvalidRecipes ?sb_InvalidPlan_InvalidRequests ?sb_InvalidPlan_InvalidPrices ?sb_InvalidPlan_InvalidPlan ?sb_InvalidPlan_PowerFailed ?sb_InvalidPlan_InvalidOperation ?sb_InvalidPlan_NotationError ?sb_InvalidPlan_DecodeError ?sb_InvalidPlan_PairError ?vb_InvalidPlan ?xg_InvalidPlan ?xk_InvalidPlan ?xs_InvalidPlan ?xd_InvalidPlan ?xa_InvalidPlan ?xm_InvalidPlan ?kp_InvalidPlan ?iC_InvalidPlan ?l_InvalidPlan___init__ ?c_InvalidPlan___init__ ?k_InvalidPlan___init__ ?lc_InvalidPlan___init__ ?fi_InvalidPlan___init__ ?lcc_InvalidPlan___init__ ?ob_InvalidPlan ?rv_InvalidPlan ?sa_InvalidPlan ?tI_InvalidPlan ?mr_InvalidPlan ?su_InvalidPlan ?no_InvalidPlan_index ?fl ?stop ?np
    (case a_is_number => k_is)
    (case l_is_number => k_is)
    (case c_is_number => k_is)
    (case k_is_number => k_is)
    (case a_is_number_from => k_is)
    (case l_is_number_from => k_is)
    (case c_is_number_from => k_is)
    (case k_is_number_from => k_is)
    (case a_check_slots => k_is)
    (case l_check_slots => k_is)
    (case c_check_slots => k_is)
    (case k_check_slots => k_is)
    (case ld_check_slots => k_is)
    (case a_fewest_misses => k_is)
    (case l_fewest_misses => k_is)
    (case c_fewest_misses => k_is)
    (case k_fewest_misses => k_is)
    (case a_judge_plan => k_is)
    (case l_judge_plan => k_is)
    (case c_judge_plan => k_is)
    (case k_judge_plan => k_is)
    (case a__check_reads => k_is)
    (case l__check_reads => k_is)
    (case c__check_reads => k_is)
    (case k__check_reads => k_is)
    (case a__can_be => k_is)
    (case l__can_be => k_is)
    (case c__can_be => k_is)
    (case k__can_be => k_is)
    (case a__kept_after => k_is)
    (case l__kept_after => k_is)
    (case c__kept_after => k_is)
    (case k__kept_after => k_is)
    (case a__law_random => k_is)
    (case l__law_random => k_is)
    (case c__law_random => k_is)
    (case k__law_random => k_is)
    (case a__law_below => k_is)
    (case l__law_below => k_is)
    (case c__law_below => k_is)
    (case k__law_below => k_is)
    (case a__law_equal => k_is)
    (case l__law_equal => k_is)
    (case c__law_equal => k_is)
    (case k__law_equal => k_is)
    (case a__law_told_of => k_is)
    (case l__law_told_of => k_is)
    (case c__law_told_of => k_is)
    (case k__law_told_of => k_is)
    (case a__law_error_of => k_is)
    (case l__law_error_of => k_is)
    (case c__law_error_of => k_is)
    (case k__law_error_of => k_is)
    (case a__law_all_raise => k_is)
    (case l__law_all_raise => k_is)
    (case c__law_all_raise => k_is)
    (case k__law_all_raise => k_is)
    (case a__law_are_refused => k_is)
    (case l__law_are_refused => k_is)
    (case c__law_are_refused => k_is)
    (case k__law_are_refused => k_is)
    (case lc__law_are_refused => k_is)
    (case tp__law_are_refused => rfl)
    (case a_law => k_is)
    (case l_law => k_is)
    (case c_law => k_is)
    (case k_law => k_is)
    (case lc_law => k_is)
    (case tp_law => rfl)
    (case z_isinstance => k_is)
    (case z_int => k_is)
    (case z_bool => k_is)
    (case z_str => k_is)
    (case z_list => k_is)
    (case z_tuple => k_is)
    (case z_len => k_is)
    (case z_abs => k_is)
    (case z_range => k_is)
    (case z_enumerate => k_is)
    (case z_min => k_is)
    (case z_max => k_is)
    (case z_all => k_is)
    (case z_super => k_is)
    (case z_ValueError => k_is)
    (case c_MOST_READS => k_is)
    (case c_MOST_READ_BLOCK => k_is)
    (case third => k_is)
    (case aC_InvalidSize => k_is)
    (case ic_InvalidSize => k_is)
    (case ty_InvalidSize => k_is)
    (case aC_InvalidCell => k_is)
    (case ic_InvalidCell => k_is)
    (case ty_InvalidCell => k_is)
    (case aC_InvalidKept => k_is)
    (case ic_InvalidKept => k_is)
    (case ty_InvalidKept => k_is)
    (case aC_InvalidBlock => k_is)
    (case ic_InvalidBlock => k_is)
    (case ty_InvalidBlock => k_is)
    (case aC_InvalidValue => k_is)
    (case ic_InvalidValue => k_is)
    (case ty_InvalidValue => k_is)
    (case aC_InvalidCount => k_is)
    (case ic_InvalidCount => k_is)
    (case ty_InvalidCount => k_is)
    (case aC_InvalidSlot => k_is)
    (case ic_InvalidSlot => k_is)
    (case ty_InvalidSlot => k_is)
    (case aC_InvalidWord => k_is)
    (case ic_InvalidWord => k_is)
    (case ty_InvalidWord => k_is)
    (case aC_InvalidStory => k_is)
    (case ic_InvalidStory => k_is)
    (case ty_InvalidStory => k_is)
    (case aC_PowerOff => k_is)
    (case ic_PowerOff => k_is)
    (case ty_PowerOff => k_is)
    (case aC_PowerOn => k_is)
    (case ic_PowerOn => k_is)
    (case ty_PowerOn => k_is)
    (case aC_NoFastDisk => k_is)
    (case ic_NoFastDisk => k_is)
    (case ty_NoFastDisk => k_is)
    (case aC_HasFastDisk => k_is)
    (case ic_HasFastDisk => k_is)
    (case ty_HasFastDisk => k_is)
    (case aC_Unsettled => k_is)
    (case ic_Unsettled => k_is)
    (case ty_Unsettled => k_is)
    (case aC_Contradiction => k_is)
    (case ic_Contradiction => k_is)
    (case ty_Contradiction => k_is)
    (case aC_InvalidName => k_is)
    (case ic_InvalidName => k_is)
    (case ty_InvalidName => k_is)
    (case aC_UnknownName => k_is)
    (case ic_UnknownName => k_is)
    (case ty_UnknownName => k_is)
    (case aC_InvalidRules => k_is)
    (case ic_InvalidRules => k_is)
    (case ty_InvalidRules => k_is)
    (case aC_InvalidRecipes => k_is)
    (case ic_InvalidRecipes => k_is)
    (case ty_InvalidRecipes => k_is)
    (case aC_InvalidRequests => k_is)
    (case ic_InvalidRequests => k_is)
    (case ty_InvalidRequests => k_is)
    (case aC_InvalidPrices => k_is)
    (case ic_InvalidPrices => k_is)
    (case ty_InvalidPrices => k_is)
    (case aC_InvalidPlan => k_is)
    (case ic_InvalidPlan => k_is)
    (case ty_InvalidPlan => k_is)
    (case aC_PowerFailed => k_is)
    (case ic_PowerFailed => k_is)
    (case ty_PowerFailed => k_is)
    (case aC_InvalidOperation => k_is)
    (case ic_InvalidOperation => k_is)
    (case ty_InvalidOperation => k_is)
    (case aC_NotationError => k_is)
    (case ic_NotationError => k_is)
    (case ty_NotationError => k_is)
    (case aC_DecodeError => k_is)
    (case ic_DecodeError => k_is)
    (case ty_DecodeError => k_is)
    (case aC_PairError => k_is)
    (case ic_PairError => k_is)
    (case ty_PairError => k_is)
    (case pb => k_is)
    (case ph => k_is)
    (case xn => k_is)
    (case xt => k_is)
    (case sb_InvalidSize_InvalidSize => k_is)
    (case sb_InvalidSize_InvalidCell => k_is)
    (case sb_InvalidSize_InvalidKept => k_is)
    (case sb_InvalidSize_InvalidBlock => k_is)
    (case sb_InvalidSize_InvalidValue => k_is)
    (case sb_InvalidSize_InvalidCount => k_is)
    (case sb_InvalidSize_InvalidSlot => k_is)
    (case sb_InvalidSize_InvalidWord => k_is)
    (case sb_InvalidSize_InvalidStory => k_is)
    (case sb_InvalidSize_PowerOff => k_is)
    (case sb_InvalidSize_PowerOn => k_is)
    (case sb_InvalidSize_NoFastDisk => k_is)
    (case sb_InvalidSize_HasFastDisk => k_is)
    (case sb_InvalidSize_Unsettled => k_is)
    (case sb_InvalidSize_Contradiction => k_is)
    (case sb_InvalidSize_InvalidName => k_is)
    (case sb_InvalidSize_UnknownName => k_is)
    (case sb_InvalidSize_InvalidRules => k_is)
    (case sb_InvalidSize_InvalidRecipes => k_is)
    (case sb_InvalidSize_InvalidRequests => k_is)
    (case sb_InvalidSize_InvalidPrices => k_is)
    (case sb_InvalidSize_InvalidPlan => k_is)
    (case sb_InvalidSize_PowerFailed => k_is)
    (case sb_InvalidSize_InvalidOperation => k_is)
    (case sb_InvalidSize_NotationError => k_is)
    (case sb_InvalidSize_DecodeError => k_is)
    (case sb_InvalidSize_PairError => k_is)
    (case vb_InvalidSize => k_is)
    (case xg_InvalidSize => k_is)
    (case xk_InvalidSize => k_is)
    (case xs_InvalidSize => k_is)
    (case xd_InvalidSize => k_is)
    (case xa_InvalidSize => k_is)
    (case xm_InvalidSize => k_is)
    (case kp_InvalidSize => k_is)
    (case pl_InvalidSize => k_exc)
    (case sb_InvalidRequests_InvalidSize => k_is)
    (case sb_InvalidRequests_InvalidCell => k_is)
    (case sb_InvalidRequests_InvalidKept => k_is)
    (case sb_InvalidRequests_InvalidBlock => k_is)
    (case sb_InvalidRequests_InvalidValue => k_is)
    (case sb_InvalidRequests_InvalidCount => k_is)
    (case sb_InvalidRequests_InvalidSlot => k_is)
    (case sb_InvalidRequests_InvalidWord => k_is)
    (case sb_InvalidRequests_InvalidStory => k_is)
    (case sb_InvalidRequests_PowerOff => k_is)
    (case sb_InvalidRequests_PowerOn => k_is)
    (case sb_InvalidRequests_NoFastDisk => k_is)
    (case sb_InvalidRequests_HasFastDisk => k_is)
    (case sb_InvalidRequests_Unsettled => k_is)
    (case sb_InvalidRequests_Contradiction => k_is)
    (case sb_InvalidRequests_InvalidName => k_is)
    (case sb_InvalidRequests_UnknownName => k_is)
    (case sb_InvalidRequests_InvalidRules => k_is)
    (case sb_InvalidRequests_InvalidRecipes => k_is)
    (case sb_InvalidRequests_InvalidRequests => k_is)
    (case sb_InvalidRequests_InvalidPrices => k_is)
    (case sb_InvalidRequests_InvalidPlan => k_is)
    (case sb_InvalidRequests_PowerFailed => k_is)
    (case sb_InvalidRequests_InvalidOperation => k_is)
    (case sb_InvalidRequests_NotationError => k_is)
    (case sb_InvalidRequests_DecodeError => k_is)
    (case sb_InvalidRequests_PairError => k_is)
    (case vb_InvalidRequests => k_is)
    (case xg_InvalidRequests => k_is)
    (case xk_InvalidRequests => k_is)
    (case xs_InvalidRequests => k_is)
    (case xd_InvalidRequests => k_is)
    (case xa_InvalidRequests => k_is)
    (case xm_InvalidRequests => k_is)
    (case kp_InvalidRequests => k_is)
    (case iC_InvalidRequests => k_is)
    (case l_InvalidRequests___init__ => k_is)
    (case c_InvalidRequests___init__ => k_is)
    (case k_InvalidRequests___init__ => k_is)
    (case lc_InvalidRequests___init__ => k_is)
    (case fi_InvalidRequests___init__ => rfl)
    (case lcc_InvalidRequests___init__ => k_is)
    (case ob_InvalidRequests => k_is)
    (case rv_InvalidRequests => rfl)
    (case sa_InvalidRequests => k_is)
    (case tI_InvalidRequests => k_is)
    (case mr_InvalidRequests => k_is)
    (case su_InvalidRequests => ks_is)
    (case no_InvalidRequests_index => k_is)
    (case sb_InvalidPlan_InvalidSize => k_is)
    (case sb_InvalidPlan_InvalidCell => k_is)
    (case sb_InvalidPlan_InvalidKept => k_is)
    (case sb_InvalidPlan_InvalidBlock => k_is)
    (case sb_InvalidPlan_InvalidValue => k_is)
    (case sb_InvalidPlan_InvalidCount => k_is)
    (case sb_InvalidPlan_InvalidSlot => k_is)
    (case sb_InvalidPlan_InvalidWord => k_is)
    (case sb_InvalidPlan_InvalidStory => k_is)
    (case sb_InvalidPlan_PowerOff => k_is)
    (case sb_InvalidPlan_PowerOn => k_is)
    (case sb_InvalidPlan_NoFastDisk => k_is)
    (case sb_InvalidPlan_HasFastDisk => k_is)
    (case sb_InvalidPlan_Unsettled => k_is)
    (case sb_InvalidPlan_Contradiction => k_is)
    (case sb_InvalidPlan_InvalidName => k_is)
    (case sb_InvalidPlan_UnknownName => k_is)
    (case sb_InvalidPlan_InvalidRules => k_is)
    (case sb_InvalidPlan_InvalidRecipes => k_is)
    (case sb_InvalidPlan_InvalidRequests => k_is)
    (case sb_InvalidPlan_InvalidPrices => k_is)
    (case sb_InvalidPlan_InvalidPlan => k_is)
    (case sb_InvalidPlan_PowerFailed => k_is)
    (case sb_InvalidPlan_InvalidOperation => k_is)
    (case sb_InvalidPlan_NotationError => k_is)
    (case sb_InvalidPlan_DecodeError => k_is)
    (case sb_InvalidPlan_PairError => k_is)
    (case vb_InvalidPlan => k_is)
    (case xg_InvalidPlan => k_is)
    (case xk_InvalidPlan => k_is)
    (case xs_InvalidPlan => k_is)
    (case xd_InvalidPlan => k_is)
    (case xa_InvalidPlan => k_is)
    (case xm_InvalidPlan => k_is)
    (case kp_InvalidPlan => k_is)
    (case iC_InvalidPlan => k_is)
    (case l_InvalidPlan___init__ => k_is)
    (case c_InvalidPlan___init__ => k_is)
    (case k_InvalidPlan___init__ => k_is)
    (case lc_InvalidPlan___init__ => k_is)
    (case fi_InvalidPlan___init__ => rfl)
    (case lcc_InvalidPlan___init__ => k_is)
    (case ob_InvalidPlan => k_is)
    (case rv_InvalidPlan => rfl)
    (case sa_InvalidPlan => k_is)
    (case tI_InvalidPlan => k_is)
    (case mr_InvalidPlan => k_is)
    (case su_InvalidPlan => ks_is)
    (case no_InvalidPlan_index => k_is)
    (case fl => first | rfl | decide +kernel)
    (case stop => first | rfl | decide +kernel)
    (case np => decide)
