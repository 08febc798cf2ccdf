import PyProof.Rows.All
import Wide.All
import OpenK.AllK
import Wide.FinOn
import HandS.Lambda
import HandS.ExcField
import HandS.ForExc
import HandS.ExcOwn
import HandS.IsInst
import KE.KExcIs
import HandS.ExcIs
import HandS.Comp
import HandS.Dict
import HandS.DictComp
import HandS.Iter
import HandS.DictTup
import KE.KSortTupG
import HandS.Conv
import HandS.More
import KE.KEqDict
import PyProof.DictFindH
import PyProof.ReprRoads
import HandS.Words
import HandS.WordsList
import HandS.WordsDict
import HandS.ForMost
import HandS.Wide
import HandS.Flow
import HandS.Style
import HandS.Evl
import HandS.AnyAll
import HandS.Walk
import HandS.WideBits
import HandS.ListItems
import HandS.SortKw
import KE.DataMinMax
import PyProof.SumWalkG
import PyProof.WalksMore
import HandS.TupMul
import PyProof.Rows.TupDisplay
import KE.KDictOf
import KE.KDictCopyH
import HandS.ExcInit
import HandS.Property
import HandS.OwnEq
import HandS.SlotsOwn
import PyProof.InstNe
import HandS.Zip
import PyProof.ReprLen
import HandS.MakeKwOnly
import HandS.MakeKw
import HandS.EndBits
import HandS.WordsExc
import HandS.Defaults
import KE.KStateDown
import HandS.HeadHook4
import HandS.HeadWalk
import HandS.NestedK
import HandS.Head2
import PySem.Challenge.RW_unswayed_k02_polynomials_put_together
set_option Elab.async false
set_option linter.all false
/-! Law k02: polynomials put together. By hand over the layer HandS: each def of the program and of the law by its promise; the head is one run of the kernel. -/
section
set_option maxRecDepth 100000
set_option maxHeartbeats 4000000
/-! Closures as tracked values: their cells, their object, their run. -/
namespace ClX
open PySem PySem.Spec PyProof.Rows L2 LamX
/-- cells with what they hold, untracked -/
def CellsV (L : List (Addr × V)) (h : Heap) (H : Hp) : Prop := ∀ p ∈ L, (∃ u, RelV p.2 u ∧ h.IsCell p.1 (some u)) ∧ H p.1 = none
theorem CellsV.un {L : List (Addr × V)} {fs ex : List Addr} {H H' : Hp} {h h' : Heap} (c : CellsV L h H) (u : Un fs ex H H' h h') (hx : ∀ p ∈ L, p.1 ∉ ex) : CellsV L h' H' := fun p hp => by
  obtain ⟨⟨v, r, o, ho, hd⟩, hn⟩ := c p hp
  obtain ⟨sl, q⟩ := u.any ho hn (hx p hp)
  exact ⟨⟨v, r, _, q, hd⟩, u.free _ _ ho hn (hx p hp)⟩
theorem CellsV.kept {L : List (Addr × V)} {H : Hp} {h h' : Heap} (c : CellsV L h H) (k : ∀ b o, h.get? b = some o → h'.get? b = some o) : CellsV L h' H := fun p hp => by
  obtain ⟨⟨v, r, o, ho, hd⟩, hn⟩ := c p hp
  exact ⟨⟨v, r, o, k _ _ ho, hd⟩, hn⟩
/-- known at a def's entry, known while it runs -/
theorem CellsV.inv {L : List (Addr × V)} {X : Cx} {pins : List (Addr × Obj)} {σ : L2.St} {H : Hp} {s : Shared} (c : CellsV L X.s_0.heap X.H_0) (I : Inv X pins σ H s) (hx : ∀ p ∈ L, p.1 ∉ X.ex) : CellsV L s.heap H := c.un I.base hx
/-- a frame's own (or captured) cells -/
def Caps (X : Cx) (σ : L2.St) (L : List (Addr × V)) : Prop := ∀ p ∈ L, ∃ (i : Nat) (x : Str), X.N[i]? = some x ∧ σ[i]? = some (some p.2) ∧ (X.env.scope.names.lookup x = some .cell ∨ X.env.scope.names.lookup x = some .free) ∧ X.env.cells.lookup x = some p.1
theorem Caps.cells {L : List (Addr × V)} {X : Cx} {pins : List (Addr × Obj)} {σ : L2.St} {H : Hp} {s : Shared} (c : Caps X σ L) (I : Inv X pins σ H s) : CellsV L s.heap H := fun p hp => by
  obtain ⟨i, x, h1, h2, h3, h4⟩ := c p hp
  obtain ⟨m, hn, hl⟩ := I.loc
  obtain ⟨u, r, l⟩ := hl i x _ h1 h2 (.inr h3)
  refine ⟨⟨u, r, ?_⟩, I.freeC x _ h4⟩
  rcases l with ⟨k, _⟩ | ⟨_, c', e, z⟩
  · have k' : X.env.scope.names.lookup x = some .local := k
    rcases h3 with q | q <;> rw [q] at k' <;> cases k'
  · rw [h4] at e
    cases e
    exact z
/-- the function object of a lambda at f -/
def LamO (q : Str) (params : Arguments) (body : Expr) (scope : Scope) (cl : List (Str × Addr)) (c' f : Addr) : HO := .ext fun h => ∃ pm ctv : Value, h.get? f = some (PySem.W.kla_obj "<lambda>" q params body scope cl pm c' ctv)
theorem lamO_ok {P : Program} {w : World} {H : Hp} {h : Heap} {q : Str} {params : Arguments} {body : Expr} {scope : Scope} {cl : List (Str × Addr)} {c' f : Addr} {pm ctv : Value} (e : h.get? f = some (PySem.W.kla_obj "<lambda>" q params body scope cl pm c' ctv)) :
    ObjOk P w H h f (LamO q params body scope cl c' f) := ⟨⟨pm, ctv, e⟩, ⟨_, e⟩, fun _ _ ⟨a, b, z⟩ k => ⟨a, b, k _ z⟩⟩
def IsLam (H : Hp) (f : Addr) : Prop := ∃ q params body scope cl c', H f = some (LamO q params body scope cl c' f)
theorem isLam_at {P : Program} {w : World} {H : Hp} {h : Heap} {f : Addr} (ok : HOk P w H h) (x : IsLam H f) : ∃ q params body scope cl pm c' ctv, h.get? f = some (PySem.W.kla_obj "<lambda>" q params body scope cl pm c' ctv) := by
  obtain ⟨q, params, body, scope, cl, c', e⟩ := x
  obtain ⟨⟨pm, ctv, z⟩, _, _⟩ := ok f _ e
  exact ⟨q, params, body, scope, cl, pm, c', ctv, z⟩
/-! ### the making -/
section
variable {X : Cx} {pins : List (Addr × Obj)} {σ : L2.St} {H : Hp} {s : Shared}
theorem table_grows {T : List (Addr × Str)} {P c : Addr} {q : Str} {ps : Array Value} {pos : Pos} (hT : Tabs T H) (hu : ∀ p ∈ T, p.1 = P → p.2 = q) (hP : H P = some (.tbl ps)) (ht : TriplesOk ps.toList)
    (ha : ∀ (pos : Pos) (cv : Value), codeAmong pos ps.toList = some cv → ∃ c, cv = .ref c ∧ H c = some (CodeO c q)) (nC : H c = none) :
    ExtN H (upd (upd H P (.tbl (ps ++ #[rawInt pos.line, rawInt pos.col, .ref c]))) c (CodeO c q)) ∧ Tabs T (upd (upd H P (.tbl (ps ++ #[rawInt pos.line, rawInt pos.col, .ref c]))) c (CodeO c q)) := by
  have hE : ExtN H (upd (upd H P (.tbl (ps ++ #[rawInt pos.line, rawInt pos.col, .ref c]))) c (CodeO c q)) := fun b o e n => by
    have e1 : b ≠ P := fun z => n ps (Option.some.inj (e.symm.trans (z ▸ hP)))
    rw [upd_ne (ne_of_none e nC), upd_ne e1]
    exact e
  have eL : (ps ++ #[rawInt pos.line, rawInt pos.col, .ref c]).toList = ps.toList ++ [rawInt pos.line, rawInt pos.col, .ref c] := by simp
  refine ⟨hE, fun p hp => ?_⟩
  by_cases hb : p.1 = P
  · have q2 := hu p hp hb
    rw [hb, q2]
    refine ⟨ps ++ #[rawInt pos.line, rawInt pos.col, .ref c], by rw [upd_ne (ne_of_none hP nC), upd_same], by rw [eL]; exact PySem.TriplesOk_snoc _ _ _ _ ht, fun p' cv hcv => ?_⟩
    rw [eL] at hcv
    rcases among_app _ ht hcv with z | z
    · obtain ⟨c0, e1, e2⟩ := ha p' cv z
      exact ⟨c0, e1, hE _ _ e2 codeO_ne⟩
    · exact ⟨c, z, upd_same⟩
  · obtain ⟨ps', a1, a2, a3⟩ := hT p hp
    refine ⟨ps', by rw [upd_ne (ne_of_none a1 nC), upd_ne hb]; exact a1, a2, fun p' cv hcv => ?_⟩
    obtain ⟨c0, e1, e2⟩ := a3 p' cv hcv
    exact ⟨c0, e1, hE _ _ e2 codeO_ne⟩
/-- what the making of a lambda tells: H1 is the heap with the code object, f the new function -/
def tLam (T : List (Addr × Str)) (q : Str) (mk : Addr → Addr → HO) : TE := fun _ H Q => Tabs T H ∧ ∀ (f c' : Addr) (H1 : Hp), ExtN H H1 → Tabs T H1 → H1 c' = some (CodeO c' q) → H1 f = none → Q (.ref f) (upd H1 f (mk c' f))
theorem pe_lam {T : List (Addr × Str)} {c P : Addr} {params : Arguments} {body : Expr} {scope : Scope} {pos : Pos} (TB : TabB X.base X.mg c P) (hcode : X.env.code = .ref c) (hm : (P, X.env.qual ++ "<lambda>") ∈ T) (hu : ∀ p ∈ T, p.1 = P → p.2 = X.env.qual ++ "<lambda>")
    (hdef : defaultsOf params X.env = ([], [])) (L : LamS X.env.scope scope) :
    PE X (.Lambda params body scope pos) (tLam T (X.env.qual ++ "<lambda>") fun c' f => LamO (X.env.qual ++ "<lambda>") params body scope (cloFrom X.env.cells scope.names []) c' f) := by
  refine ⟨fun pins s σ H Q I h => ?_⟩
  obtain ⟨hT, h⟩ := h
  obtain ⟨ps, hP, ht, ha⟩ := hT _ hm
  have hP' : s.heap.get? P = some { cls := .none, data := .fields ps } := I.hok P _ hP
  have bP := TB.bm.keeps I.bk
  refine PySem.W.kla_eval hdef ?_
  cases hc : codeAmong pos ps.toList with
  | some cv =>
    obtain ⟨c', e, hco⟩ := ha pos cv hc
    subst e
    refine PySem.W.kla_makeFunctionHit (mg := X.mg) (c := c) (P := P) (ps := ps) (closure_ok (L.has I.ok)) I.ok.glob (I.mod.glob.keeps I.bk) hcode (TB.code.keeps I.bk) hP' ht hc bP fun ctv h' tk hx hsz => ?_
    refine ⟨.ref h'.objs.size, _, I.laid (fun b o e => Heap.get?_push_of_some _ (hx b o e)) hsz (lamO_ok (Heap.get?_push_size _ rfl)), rfl, h _ c' H (ExtN.refl H) hT hco (I.hok.fresh hsz)⟩
  | none =>
    refine PySem.W.kla_makeFunction (mg := X.mg) (c := c) (P := P) (ps := ps) (closure_ok (L.has I.ok)) I.ok.glob (I.mod.glob.keeps I.bk) hcode (TB.code.keeps I.bk) hP' ht hc TB.gP bP fun c' ctv h' tk hx hge hlt hrec htb => ?_
    obtain ⟨c2, oc, vs, t, e2, hoc, hd, hv⟩ := hrec
    cases e2
    have nC : H c' = none := I.hok.fresh hge
    obtain ⟨hE, hT2⟩ := table_grows (pos := pos) hT hu hP ht ha nC
    have I1 := inv_table (t' := tk) (more := #[rawInt pos.line, rawInt pos.col, .ref c']) (h' := h') I hP (fun b o hb e => hx b o hb e) htb hge ⟨oc, vs, t, hoc, hd, hv⟩
    have I2 := I1.laid (a := h'.objs.size) (t' := tk) (o := LamO (X.env.qual ++ "<lambda>") params body scope (cloFrom X.env.cells scope.names []) c' h'.objs.size)
      (h' := h'.push (PySem.W.kla_obj "<lambda>" (X.env.qual ++ "<lambda>") params body scope (cloFrom X.env.cells scope.names []) ((X.mg "__name__").getD .none) c' ctv)) (fun b o e => Heap.get?_push_of_some _ e) (Nat.le_refl _) (lamO_ok (Heap.get?_push_size _ rfl))
    exact ⟨.ref h'.objs.size, _, I2, rfl, h _ c' _ hE hT2 upd_same (I1.hok.fresh (Nat.le_refl _))⟩
end
/-! ### the run -/
/-- each name that the lambda captures stands in L with the slot's value -/
structure Caught (X : Cx) (scope : Scope) (σ : L2.St) (L : List (Addr × V)) : Prop where
  len : σ.length = X.N.length
  all : ∀ (y : Str) (c : Addr), (y, NameKind.free) ∈ scope.names → X.env.cells.lookup y = some c → ∃ v, (c, v) ∈ L
  val : ∀ (i : Nat) (y : Str) (v : V) (c : Addr), X.N[i]? = some y → σ[i]? = some (some v) → scope.names.lookup y = some .free → X.env.cells.lookup y = some c → (c, v) ∈ L
section
variable {X : Cx} {σ : L2.St} {scope : Scope} {Lc : List (Addr × V)}
theorem lam_inv {A : Around} {outer : List Env} {E : XK} {f c' : Addr} {H : Hp} {s : Shared} {h₁ : Heap} {tk : Nat} (ok : X.Ok) (L : LamS X.env.scope scope) (cg : Caught X scope σ Lc) (e0 : Env0 X.prog X.w X.K X.mg X.base A outer s H) (hd : A.handled = none) (cv : CellsV Lc s.heap H)
    (hns : h₁.Ns s.heap.objs.size fun y => ([] : List (Str × Value)).reverse.lookup y) (kp : ∀ b o, s.heap.get? b = some o → h₁.get? b = some o) :
    Inv (lamCx X A outer s H E scope f c') [] σ H { s with heap := h₁, toks := tk } := by
  have of_cl : ∀ {y c}, (cloFrom X.env.cells scope.names []).lookup y = some c → (y, NameKind.free) ∈ scope.names ∧ X.env.cells.lookup y = some c := fun {y c} e => by
    rcases cloFrom_mem (PySem.mem_of_lookup e) with z | ⟨z1, z2⟩
    · cases z
    · obtain ⟨c1, hc1⟩ := L.has ok _ z1 rfl
      have hc1 : X.env.cells.lookup y = some c1 := hc1
      have ec : c = c1 := by rw [z2, hc1] <;> rfl
      rw [ec]
      exact ⟨z1, hc1⟩
  have to_cl : ∀ {y}, scope.names.lookup y = some .free → ∃ c, (cloFrom X.env.cells scope.names []).lookup y = some c := fun {y} hl => mem_lookup (cloFrom_has (cells := X.env.cells) (acc := []) (PySem.mem_of_lookup hl))
  have cvk : CellsV Lc h₁ H := cv.kept kp
  have no : ∀ {b : Addr}, b ∉ (lamCx X A outer s H E scope f c').ex := fun {b} z => nomatch (show b ∈ ([] : List Addr) from z)
  constructor
  case ok =>
    exact ⟨e0.mod, L.kind, rfl, rfl, Nat.le_refl _, fun y z c e1 e2 => ok.inj y z c (of_cl e1).2 (of_cl e2).2, fun y hy => by
        have hy : scope.names.lookup y = some .cell ∨ scope.names.lookup y = some .free := hy
        rcases hy with q | q
        · exact absurd rfl (L.own _ (PySem.mem_of_lookup q)).2
        · exact to_cl q, fun y c z _ => Bool.noConfusion (show false = true from z), fun _ => hd, Around.frames_deeper e0.frames, .inr ⟨rfl, rfl⟩, fun b z => absurd z no, e0.bs, e0.bsz, fun b _ _ => no, fun b z => absurd z no, e0.funs, e0.frf⟩
  case os => rfl
  case bare => exact e0.bare
  case base => exact Un.kept kp
  case loc =>
    refine ⟨_, hns, fun i y v e1 e2 e3 => ?_⟩
    have e3 : Vis scope y := e3
    have hf : scope.names.lookup y = some .free := by
      rcases e3 with k | k | k
      · exact absurd rfl (L.own _ (PySem.mem_of_lookup k)).1
      · exact absurd rfl (L.own _ (PySem.mem_of_lookup k)).2
      · exact k
    obtain ⟨c, hc⟩ := to_cl hf
    obtain ⟨⟨u, r, z⟩, _⟩ := cvk _ (cg.val i y v c e1 e2 hf (of_cl hc).2)
    exact ⟨u, r, .inr ⟨.inr hf, c, hc, z⟩⟩
  case cell =>
    intro y c e
    obtain ⟨v, hv⟩ := cg.all y c (of_cl e).1 (of_cl e).2
    obtain ⟨⟨u, _, z⟩, _⟩ := cvk _ hv
    exact ⟨_, z⟩
  case free => exact e0.hok.fresh (Nat.le_refl _)
  case freeC =>
    intro y c e
    obtain ⟨v, hv⟩ := cg.all y c (of_cl e).1 (of_cl e).2
    exact (cvk _ hv).2
  case pin => exact fun q hq => nomatch (show q ∈ ([] : List (Addr × Obj)) ++ [] from hq)
  case hok => exact e0.hok.kept kp
  case len => exact cg.len
/-- f() runs as tl tells, from each state where the cells are so -/
def Runs (X : Cx) (k : Nat) (L : List (Addr × V)) (f : Addr) (tl : XK → Hp → VK → Prop) : Prop :=
  ∀ (A : Around) (outer : List Env) (s : Shared) (H : Hp) (Q : VK) (E : XK), Room k A → Env0 X.prog X.w X.K X.mg X.base A outer s H → CellsV L s.heap H → tl E H Q →
    codeAny (model X.prog X.w) A (.call (.ref f) ⟨[], []⟩) (CR (L2.CX X.prog X.w) outer X.prog X.w H s Q E) s
/-- the same program, the same ground -/
structure Like (X Y : Cx) : Prop where
  p : X.prog = Y.prog
  w : X.w = Y.w
  K : X.K = Y.K
  mg : X.mg = Y.mg
  b : X.base = Y.base
theorem Runs.like {X Y : Cx} {k : Nat} {L : List (Addr × V)} {f : Addr} {tl : XK → Hp → VK → Prop} (l : Like X Y) (r : Runs X k L f tl) : Runs Y k L f tl := by
  obtain ⟨h1, h2, h3, h4, h5⟩ := l
  unfold Runs at r ⊢
  rw [← h1, ← h2, ← h3, ← h4, ← h5]
  exact r
/-- a lambda of X's frame, its body by its rule -/
theorem runs_lam {k : Nat} {f c' : Addr} {q : Str} {params : Arguments} {body : Expr} {t : XK → TE} (ok : X.Ok) (L : LamS X.env.scope scope) (cg : Caught X scope σ Lc) (hq : q = X.env.qual ++ "<lambda>")
    (hbind : ∀ (pm cv ctv : Value), bindArgs (PySem.W.kla_fn "<lambda>" q params body scope (cloFrom X.env.cells scope.names []) pm cv ctv) ⟨[], []⟩ = pure [])
    (hbody : ∀ (A : Around) (outer : List Env) (s : Shared) (H : Hp) (E : XK), Room k (A.deeper (lamEnv X scope s.heap.objs.size f c')) → PE (lamCx X A outer s H E scope f c') body (t E)) :
    Runs X (k + 1) Lc f (fun E H Q => H f = some (LamO q params body scope (cloFrom X.env.cells scope.names []) c' f) ∧ H c' = some (CodeO c' q) ∧ t E σ H Q) := by
  subst hq
  intro A outer s H Q E hr e0 cv h
  obtain ⟨h1, h2, ht⟩ := h
  obtain ⟨⟨pm, ctv, hf⟩, _, _⟩ := e0.hok f _ h1
  obtain ⟨⟨oc, vs, tk, hoc, hdc, hvc⟩, _, _⟩ := e0.hok c' _ h2
  have lim : s.heap.NoLimit := e0.mod.nolimit.keeps fun b o e => (e0.bs b o e).1
  refine PySem.W.kla_callFunE hr.depth hf rfl L.co L.gen rfl ⟨c', oc, vs, tk, rfl, hoc, hdc, hvc⟩ ?_
  rw [hbind]
  refine wpAny_pure (wpAny_newFunctionEnv (fun y hy => (L.own y hy).2) (fun y hy => absurd hy (by simp)) (fun h₁ hns hsb => ⟨lim.fresh _ hsb, ?_⟩) L.kind)
  have kp : ∀ b o, s.heap.get? b = some o → h₁.get? b = some o := fun b o e => hsb.extBut b o (Nat.ne_of_lt (Heap.lt_size e)) (Heap.get?_push_of_some _ e)
  have J := lam_inv (E := E) (f := f) (c' := c') (tk := s.toks + ([] : List (Str × Value)).length) ok L cg e0 hr.hd cv hns kp
  refine PySem.W.kla_codeExpr (wpAny_mono ((hbody A outer s H E (hr.deeper _)).run [] _ σ H Q J ht) (fun v s' hv => ?_) fun e s' he => he)
  obtain ⟨w', H', J', rv, q'⟩ := hv
  exact ⟨w', H', J'.os, J'.bare, J'.base, J'.hok, rv, q'⟩
end
theorem cr_mono {P : Program} {w : World} {outer : List Env} {H : Hp} {s s' : Shared} {Q Q' : VK} {E E' : XK} {r : Result} (hQ : ∀ v H', Q v H' → Q' v H') (hE : ∀ c d H', E c d H' → E' c d H') (h : CR (L2.CX P w) outer P w H s Q E r s') : CR (L2.CX P w) outer P w H s Q' E' r s' := by
  cases r with
  | error e =>
    obtain ⟨a, B, H', cls, d, h1, h2, h3, h4, h5, h6, h7, h8⟩ := h
    exact ⟨a, B, H', cls, d, h1, h2, h3, h4, h5, h6, h7, hE _ _ _ h8⟩
  | ok fl =>
    cases fl with
    | ret u =>
      obtain ⟨v, H', h1, h2, h3, h4, h5, h6⟩ := h
      exact ⟨v, H', h1, h2, h3, h4, h5, hQ _ _ h6⟩
    | next => exact h
    | brk => exact h
    | cont => exact h
/-- a(), a the slot i: a closure -/
theorem pe_work {X : Cx} {k i : Nat} {a : Str} {f : Addr} {tl : XK → Hp → VK → Prop} {L : List (Addr × V)} {E : L2.St → XK} {p1 p2 : Pos} (r : Runs X k L f tl) (hr : Room k X.A) (cv : CellsV L X.s_0.heap X.H_0) (hex : X.ex = []) (hx : ∀ σ, PassesAt (L2.CX X.prog X.w) X σ (E σ)) (hN : X.N[i]? = some a) (hv : Vis X.env.scope a)
    (hd : (a == ("__debug__" : Str)) = false := by decide) (hcd : (a == ("__classdict__" : Str)) = false := by decide) :
    PE X (.Call (.Name a p1) [] [] p2) (fun σ H Q => σ[i]? = some (some (.ref f)) ∧ IsLam H f ∧ ∃ (E' : XK) (Q' : VK), tl E' H Q' ∧ (∀ v H', Q' v H' → Q v H') ∧ ∀ c d H', E' c d H' → E σ c d H') := by
  refine ⟨fun pins s σ H Q I h => ?_⟩
  obtain ⟨hs, hl, E', Q', ht, hQ, hE⟩ := h
  refine wpAny_Call_Name_kw (thn ((pe_var (pos := p1) (i := i) hN hv hd hcd).run pins s σ H (fun v H1 => v = .ref f ∧ H1 = H) I ⟨.ref f, hs, rfl, rfl⟩) fun u s1 ⟨v, H1, I1, r1, q1⟩ => ?_)
  obtain ⟨ev, eH⟩ := q1
  subst ev
  rw [eH] at I1
  obtain rfl : u = Value.ref f := r1
  obtain ⟨q, params, body, scope, cl, pm, c', ctv, hf⟩ := isLam_at I1.hok hl
  refine PySem.W.callWith_F0 ⟨_, _, _, _, hf⟩ (wpAny_call (codeAny_mono (r X.A X.stack s1 H Q' E' hr I1.env0 (cv.inv I1 fun p _ z => by rw [hex] at z; cases z) ht) fun rr s' hq => ?_))
  have hq := cr_mono hQ hE hq
  cases rr with
  | error e => exact hx σ pins H s1 e s' I1 hq
  | ok fl =>
    cases fl with
    | ret u => exact I1.after hq
    | next => exact False.elim hq
    | brk => exact False.elim hq
    | cont => exact False.elim hq
end ClX
end

section
set_option maxRecDepth 100000
set_option maxHeartbeats 4000000
/-! A caught exception kept as a value; the run of a def that takes a closure. -/
namespace ClX
open PySem PySem.Spec PyProof.Rows L2 LamX
/-- an exception of the class cls at a, its dict at d; caught once, so with whatever it bears of its flight -/
def CauO (cls : Value) (d : Option Addr) (a : Addr) : HO := .ext fun h => ∃ (oe : Obj) (vs : Array Value), h.get? a = some oe ∧ Zc cls d oe ∧ oe.data = .fields vs
theorem cauO_ok {P : Program} {w : World} {H : Hp} {h : Heap} {a : Addr} {cls : Value} {d : Option Addr} {oe : Obj} {vs : Array Value} (e : h.get? a = some oe) (z : Zc cls d oe) (f : oe.data = .fields vs) : ObjOk P w H h a (CauO cls d a) :=
  ⟨⟨oe, vs, e, z, f⟩, ⟨oe, e⟩, fun _ _ ⟨o, v, q, r⟩ k => ⟨o, v, k o q, r⟩⟩
section
variable {X : Cx} {pins : List (Addr × Obj)} {σ : L2.St} {H : Hp} {s : Shared}
/-- an exception's object that wasn't there at the entry is tracked from now on -/
theorem track_exc {a : Addr} {cls : Value} {d : Option Addr} {oe : Obj} {vs : Array Value} (I : Inv X pins σ H s) (n0 : X.s_0.heap.get? a = none) (hn : H a = none) (e : s.heap.get? a = some oe) (z : Zc cls d oe) (f : oe.data = .fields vs) (nL : a ≠ X.env.locals) (nP : ∀ p ∈ X.pn ++ pins, p.1 ≠ a) :
    Inv X pins σ (upd H a (CauO cls d a)) s := by
  have old : ∀ {b : Addr} {u : HO}, H b = some u → upd H a (CauO cls d a) b = some u := fun {b u} q => by rw [upd_ne (ne_of_none q hn)]; exact q
  refine { ok := I.ok, os := I.os, bare := I.bare, base := ?_, loc := I.loc, cell := I.cell, free := ?_, freeC := fun y c q => ?_, pin := fun p hp => ?_, hok := fun b u q => ?_, len := I.len }
  · refine { keep := I.base.keep, slot := I.base.slot, free := fun b o q n hx => ?_, there := I.base.there, tups := fun b xs q => old (I.base.tups b xs q), frzs := fun b o u q => old (I.base.frzs b o u q), tbls := fun b ps q => ?_ }
    · rw [upd_ne fun r => by rw [r, n0] at q; cases q]
      exact I.base.free b o q n hx
    · obtain ⟨m, q2⟩ := I.base.tbls b ps q
      exact ⟨m, old q2⟩
  · rw [upd_ne (Ne.symm nL)]
    exact I.free
  · have r : c ≠ a := fun r => by
      obtain ⟨v, o, q1, q2⟩ := I.cell y c q
      rw [r, e] at q1
      cases q1
      rw [f] at q2
      cases q2
    rw [upd_ne r]
    exact I.freeC y c q
  · obtain ⟨p1, p2, p3⟩ := I.pin p hp
    exact ⟨p1, by rw [upd_ne (nP p hp)]; exact p2, p3⟩
  · by_cases hb : b = a
    · subst hb
      rw [upd_same] at q
      cases q
      exact cauO_ok e z f
    · rw [upd_ne hb] at q
      exact (I.hok b u q).stay (fun c v _ r => r) (fun c r => old r) fun c xs r => old r
end
/-- try: .. / except x as n: m = n -/
def wCau (K : PySem.W.Frag) (c : Value) (i j : Nat) (D : Ends) : WX := fun cls d σ H =>
  PySem.W.exmOne K cls c = some true ∧ ∀ a, H a = none → D.nx ((σ.set j (some (.ref a))).set i none) (upd H a (CauO cls d a))
section
variable {X : Cx} {x n m : Str} {c : Value} {i j : Nat} {body : List Stmt} {st : Stmt} {np pos pos' : Pos} {tb : WX → TS}
theorem ps_caught (hs : X.stack = X.env :: X.outer) (hf : X.env.frame = some X.env.locals) (hN : X.N.Nodup) (hi : X.N[i]? = some n) (hln : X.env.kindOf n = some .local) (hc : Names X x c) (hij : i < X.N.length) (hex : X.ex = [])
    (hb : ∀ (W : WX) (pn : List (Addr × Obj)) (xe : Value → Shared → Prop), Takes (X.tr pn xe) W → PassesOwn (model X.prog X.w) X.A X.env xe → PSs (X.tr pn xe) body (tb W))
    (hst : ∀ (a : Addr) (q : Addr × Obj) (pn : List (Addr × Obj)), PS (X.suite a (q :: pn)) st (fun D σ H => ∃ v, σ[i]? = some (some v) ∧ D.nx (σ.set j (some v)) H)) :
    PS X (.Try body [.ExceptHandler (some (.Name x np)) (some n) [st] pos'] [] [] pos) (fun D σ H => tb (wCau X.K c i j D) D σ H) := by
  refine ⟨fun pins s σ H D I h => wpAny_Try_except ?_⟩
  have ok := I.ok
  have hfr : X.A.frames = some (X.env :: X.outer) := by rw [ok.frames, hs]
  refine wpAny_mono ((hb (wCau X.K c i j D) (X.pn ++ pins) _ (fun u s' xx => ?_) PassesOwn.looking).run [] s σ H D (I.toTry _) h) (fun f s1 hsp => ?_) (fun e s1 he => he)
  · obtain ⟨a, B, sI, pins', σ', H', cls, d, rfl, J', nb, up, sky, na, os, ag, hm, hD⟩ := xx
    have J : Inv X pins σ' H' sI := J'.ofTry ok
    rw [show (X.tr (X.pn ++ pins) _).stack = X.env :: X.outer from hs] at sky
    show wpAny (model X.prog X.w) X.A (noteFrame (.ref a) X.env) _ _ _
    refine Sky.land Zc.steady hfr hf sky fun h3 fl3 up3 => ?_
    obtain ⟨oe3, vs3, he3, hz3, hd3⟩ := fl3.there
    have nfr : a ∉ frs (X.env :: X.outer) := fun z => by
      obtain ⟨_, o', e', hnf⟩ := fl3.2.2.1.mem z
      rw [he3] at e'
      cases e'
      exact hnf _ hd3
    have nL : a ≠ X.env.locals := fun z => nfr (List.mem_filterMap.mpr ⟨X.env, List.mem_cons_self, by rw [hf, z]⟩)
    have nF : a ∉ X.fs := fun z => by
      obtain ⟨e, e1, e2⟩ := List.mem_filterMap.mp z
      exact nfr (List.mem_filterMap.mpr ⟨e, List.mem_cons_of_mem _ e1, e2⟩)
    -- the object is new
    have nI : sI.heap.get? a = none := by
      cases q : sI.heap.get? a with
      | none => rfl
      | some o =>
        have z := nb a o q (by rw [show (X.tr (X.pn ++ pins) _).stack = X.env :: X.outer from hs]; exact nfr)
        rw [fl3.2.1] at z
        cases z
    have n0 : X.s_0.heap.get? a = none := by
      cases q : X.s_0.heap.get? a with
      | none => rfl
      | some o =>
        obtain ⟨o', z⟩ := J.base.there a o q (by rw [hex]; exact fun r => nomatch r)
        rw [nI] at z
        cases z
    have nP : ∀ p ∈ X.pn ++ pins, p.1 ≠ a := fun p hp z => by
      have q := (J.pin p hp).1
      rw [z, nI] at q
      cases q
    have S3 := (J.landed (s' := { s' with heap := h3 }) nb fl3.1 (up.trans up3) os ag).suite he3 hd3 na nL nF
    have LT : PySem.W.Looks (model X.prog X.w) h3 (typeOf (.ref a)) cls := fun A Q E s k q => wpAny_typeOf_ref (k _ _ he3) (by rw [hz3.1]; exact q)
    have here : ∀ {Q : Value → Shared → Prop} {E : Value → Shared → Prop}, Q c { s' with heap := h3 } → wpAny (model X.prog X.w) (X.A.mark (some (.ref a))) (eval (.Name x np) X.env) Q E { s' with heap := h3 } := fun {Q E} q => by
      obtain ⟨hg, hdb, hm | ⟨hm, hv, hnn⟩⟩ := hc
      · exact ld_glob (X := X.suite a ((a, oe3) :: (X.pn ++ pins))) S3 hg hm q hdb
      · exact ld_blt (X := X.suite a ((a, oe3) :: (X.pn ++ pins))) S3 hg hm hv q hnn hdb
    refine wpAny_handleBy_cons (codeAny_handlers_test (here ((PySem.W.exm_one (M := model X.prog X.w) S3.kIn LT hm).here ?_))) (by intro q; cases q)
    refine codeAny_handlers_suite_as (HandSPX.lands_againZ fl3 fun h4 fl4 up4 => ?_)
    obtain ⟨oe4, vs4, he4, hz4, hd4⟩ := fl4.there
    have J4 : Inv X pins σ' H' { s' with heap := h4 } := J.landed nb fl4.1 ((up.trans up3).trans up4) os ag
    refine store_ok (X := X.suite a ((a, oe4) :: (X.pn ++ pins))) (v := .ref a) (J4.suite he4 hd4 na nL nF) hN hi (.inl hln) rfl (fun s5 S5 => ?_) (.inr hln)
    have hσ : i < σ'.length := by rw [J.len]; exact hij
    refine wpAny_mono ((pss_one (hst a (a, oe4) (X.pn ++ pins))).run [] s5 _ H' { nx := fun σ6 H6 => σ6 = (σ'.set i (some (.ref a))).set j (some (.ref a)) ∧ H6 = H', rt := fun _ _ => False } S5 ⟨.ref a, by rw [List.getElem?_set_self hσ], rfl, rfl⟩) (fun f s6 hsp => ?_) (fun _ _ z => False.elim z)
    cases f with
    | next =>
      obtain ⟨σ6, H6, S6, e1, e2⟩ := hsp
      subst e1 e2
      have J6 : Inv X ((a, oe4) :: pins) ((σ'.set i (some (.ref a))).set j (some (.ref a))) H6 s6 := { ok := ok, os := S6.os, bare := S6.bare, base := S6.base, loc := S6.loc, cell := S6.cell, free := S6.free, freeC := S6.freeC, hok := S6.hok, len := S6.len, pin := fun p hp => S6.pin p (List.mem_append_left _ (by
        rcases List.mem_append.mp hp with r | r
        · exact List.mem_cons_of_mem _ (List.mem_append_left _ r)
        · rcases List.mem_cons.mp r with r | r
          · rw [r]; exact List.mem_cons_self
          · exact List.mem_cons_of_mem _ (List.mem_append_right _ r))) }
      refine gone_ok J6 hN hi hln fun s7 J7 => ?_
      obtain ⟨e7, n7, _⟩ := J7.pin (a, oe4) (List.mem_append_right _ List.mem_cons_self)
      have J8 : Inv X pins (((σ'.set i (some (.ref a))).set j (some (.ref a))).set i none) H6 s7 := J7.pins_of fun p hp => J7.pin p (List.mem_append_right _ (List.mem_cons_of_mem _ hp))
      have eσ : ((σ'.set i (some (V.ref a))).set j (some (V.ref a))).set i none = (σ'.set j (some (V.ref a))).set i none := by
        by_cases e : i = j
        · subst e
          simp
        · rw [List.set_comm _ _ e, List.set_set]
      rw [eσ] at J8
      exact ⟨_, _, track_exc J8 n0 n7 e7 hz4 hd4 nL nP, hD a na⟩
    | brk => exact (let ⟨_, _, _, z⟩ := hsp; z).elim
    | cont => exact (let ⟨_, _, _, z⟩ := hsp; z).elim
    | ret u => exact (let ⟨_, _, _, _, _, z⟩ := hsp; z).elim
  · cases f with
    | next => exact let ⟨σ', H', K, q⟩ := hsp; wpAny_execs_nil ⟨σ', H', K.ofTry ok, q⟩
    | brk => exact let ⟨σ', H', K, q⟩ := hsp; ⟨σ', H', K.ofTry ok, q⟩
    | cont => exact let ⟨σ', H', K, q⟩ := hsp; ⟨σ', H', K.ofTry ok, q⟩
    | ret u => exact let ⟨v, σ', H', K, r, q⟩ := hsp; ⟨v, σ', H', K.ofTry ok, r, q⟩
end

/-! ### calls with what is known of the state -/
section
variable {X : Cx} {CX : CXT} {g : Addr} {x : Str} {p pos : Pos} {e : Expr} {es : List Expr} {ta : TA} {E : XK} {T : L2.St → List V → Hp → VK → Prop} {fd : FuncData} {ps : List Str}
/-- x(e, ..), x a def; what its run is, is told of the very state -/
theorem pe_callAt (hg : Gl X x) (hm : X.mg x = some (.ref g)) (hk : PySem.W.keepIn X.K (.ref g) = true) (hb : L2.Binds X.K fd ps []) (hx : Passes CX X E)
    (hF : ∀ (pins : List (Addr × Obj)) (σ : L2.St) (s : Shared) (H : Hp) (us : List Value) (vs : List V) (Q : VK), Inv X pins σ H s → BindsTo s fd ⟨us, []⟩ (ps.zip us) → Vals vs us → T σ vs H Q → codeAny (model X.prog X.w) X.A (.call (.ref g) ⟨us, []⟩) (CR CX X.stack X.prog X.w H s Q E) s)
    (hl : ∀ σ vs H Q, T σ vs H Q → vs.length = ps.length) (ha : PA X (e :: es) ta) (hdb : (x == ("__debug__" : Str)) = false := by decide) (he : starEach (e :: es) X.env = (false, eval e X.env) :: starEach es X.env := by rfl) (hpl : (backTo pos (starEach es X.env)).any (·.1) = false := by rfl) :
    PE X (.Call (.Name x p) (e :: es) [] pos) (fun σ H Q => ta σ H fun vs H1 => T σ vs H1 Q) := by
  refine ⟨fun pins s σ H Q I h => ?_⟩
  refine wpAny_Call_Name_kw (ld_glob I hg hm ?_ hdb)
  refine PySem.W.callWith_K (h₀ := X.base) I.ok.mod.kin hk (thn (ha.run pos pins s σ H _ I h) fun us s1 ⟨vs, H1, I1, r, q⟩ => ⟨I1.kIn, ?_⟩) he hpl
  have b := hb s1 us I1.kIn (by rw [List.append_nil, ← Paired.length r]; exact hl _ _ _ _ q)
  rw [List.append_nil] at b
  refine wpAny_call (codeAny_mono (hF pins σ s1 H1 us vs Q I1 b r q) fun rr s' hq => ?_)
  cases rr with
  | error er => exact hx pins σ H1 s1 er s' I1 hq
  | ok fl =>
    cases fl with
    | ret u => exact I1.after hq
    | next => exact False.elim hq
    | brk => exact False.elim hq
    | cont => exact False.elim hq
end
/-! ### a caught exception, read -/
/-- c.f, c the caught exception, its attributes in the dict at d -/
def tXfc (K : PySem.W.Frag) (f : Str) (te : TE) : TE := fun σ H Q => te σ H fun x H1 => ∃ (a C d : Addr) (fs : List (Str × V)) (v : V), x = .ref a ∧ XfC K C ∧ PySem.W.findIn K (.ref C) f = some none ∧ H1 a = some (CauO (.ref C) (some d) a) ∧ H1 d = some (.xd fs) ∧ fs.lookup f = some v ∧ Q v H1
theorem pe_xfc {X : Cx} {te : TE} {e : Expr} {pos : Pos} {f : Str} (he : PE X e te) (hb : attributeBase e f X.env (eval e X.env) = eval e X.env := by rfl) : PE X (.Attribute e f pos) (tXfc X.K f te) := by
  refine ⟨fun pins s σ H Q I h => ?_⟩
  refine attr_of hb (thn (he.run pins s σ H _ I h) fun u s1 hh => ?_)
  obtain ⟨x, H1, I1, rx, a, C, d, fs, v, ex, T, hno, ea, ed, l, q⟩ := hh
  subst ex
  obtain rfl : u = Value.ref a := rx
  obtain ⟨⟨oe, vs, ho, hz, hd⟩, _, _⟩ := I1.hok a _ ea
  obtain ⟨mA, hns, hr⟩ := (I1.hok d _ ed : ObjOk X.prog X.w H1 s1.heap d (.xd fs))
  obtain ⟨od, hod, hl⟩ := lookIn_ns hns
  obtain ⟨u, hu, ru⟩ := RelO.some_of (v := v) (o := mA f) (by rw [← l]; exact hr f)
  have J : PySem.W.InstAt s1.heap a oe C (some od) := ⟨ho, hz.1, by unfold PySem.W.notCls; rw [hd] <;> rfl, by rw [hz.2]; exact hod⟩
  exact HandSPX.exc_get I1.kIn J T.ga T.gg T.exC (PySem.W.findObj_own T.hdC hno rfl (by rw [hl, hu])) (handed_of ru) ⟨v, H1, I1.tok _, ru, q⟩
/-- isinstance(c, C), c a caught exception or None -/
def rIsC (K : PySem.W.Frag) : List V → Hp → VK → Prop := fun xs H Q => ∃ (a D : Addr) (c : V) (u : Value) (b : Bool), xs = [.ref a, c] ∧ ClsV c u ∧ (H a = some (CauO (.ref D) none a) ∨ ∃ d fs, H a = some (CauO (.ref D) (some d) a) ∧ H d = some (.xd fs)) ∧ ExcC K D ∧ PySem.W.kitOne K (.ref D) u = some b ∧ Q (.bl b) H
theorem call_isC {X : Cx} : CallR X (.builtin "isinstance") (rIsC X.K) := by
  intro pins s σ H xs us Q I r h
  obtain ⟨a, D, c, cv, b, rfl, hc, hE, C, e, q⟩ := h
  obtain ⟨u1, u2, rfl, r1, r2⟩ := vals2 r
  cases r1
  have ec := hc.eq r2
  subst ec
  have J : ∃ ox od, PySem.W.InstAt s.heap a ox D od := by
    rcases hE with ha | ⟨d, fs, ha, hd⟩
    · obtain ⟨⟨oe, vs, ho, hz, hdt⟩, _, _⟩ := I.hok a _ ha
      exact ⟨oe, none, ho, hz.1, by unfold PySem.W.notCls; rw [hdt] <;> rfl, by rw [hz.2]; trivial⟩
    · obtain ⟨⟨oe, vs, ho, hz, hdt⟩, _, _⟩ := I.hok a _ ha
      obtain ⟨mA, hns, hr⟩ := (I.hok d _ hd : ObjOk X.prog X.w H s.heap d (.xd fs))
      obtain ⟨od, hod, hl⟩ := lookIn_ns hns
      exact ⟨oe, some od, ho, hz.1, by unfold PySem.W.notCls; rw [hdt] <;> rfl, by rw [hz.2]; exact hod⟩
  obtain ⟨ox, od, J⟩ := J
  have hcl : (PySem.W.clsIn X.K D).isSome = true := by
    obtain ⟨cd, hc, _⟩ := PySem.W.any_some C.hd
    rw [hc]; rfl
  exact PySem.W.kia_one (PySem.W.kitx_exc hcl C.hg C.hk C.hs C.ha C.hn C.ht C.hm) I.kIn J e (fun z => nomatch z) fun tk => ⟨.bl b, H, I.tok tk, rfl, q⟩
end ClX
end

section
set_option maxRecDepth 100000
set_option maxHeartbeats 4000000
/-! The laws' def that tells what some work raises. -/
namespace ClX
open PySem PySem.Spec PyProof.Rows L2 LamX
/-- what it makes of a closure at f, told by tl: None, or the error -/
def spCaught (K : PySem.W.Frag) (CS f : Addr) (tl : XK → Hp → VK → Prop) (vs : List V) (H : Hp) (Q : VK) : Prop := vs = [.ref f] ∧ IsLam H f ∧ ∃ (E' : XK) (Q' : VK), tl E' H Q' ∧ (∀ v H', Q' v H' → Q .non H') ∧
  ∀ cls d H', E' cls d H' → PySem.W.exmOne K cls (.ref CS) = some true ∧ ∀ a, H' a = none → Q (.ref a) (upd H' a (CauO cls d a))
section
variable {X : Cx} {k : Nat} {L : List (Addr × V)} {f g CS : Addr} {tl : XK → Hp → VK → Prop} {name qual : Str} {params : Arguments} {scope : Scope} {dV kV doc pm cdv ct oc : Value} {an od : Option Addr} {osl : Array (Option Value)} {p1 p2 p3 p4 p5 p6 p7 p8 p9 p10 p11 p12 p13 p14 : Pos} {j : Nat}
abbrev caughtBody (j : Nat) (p1 p2 p3 p4 p5 p6 p7 p8 p9 p10 p11 p12 p13 p14 : Pos) : List Stmt :=
  [.Assign [.Name "caught" p1] (.Constant .none j p2) p3,
   .Try [.Expr (.Call (.Name "work" p4) [] [] p5) p6] [.ExceptHandler (some (.Name "SwayError" p7)) (some "error") [.Assign [.Name "caught" p8] (.Name "error" p9) p10] p11] [] [] p12,
   .Return (some (.Name "caught" p13)) p14]
theorem caught_at (r : Runs X k L f tl) (lk : X.K.lookup g = some ⟨oc, od, .func (PySem.W.fnOf name qual params (caughtBody j p1 p2 p3 p4 p5 p6 p7 p8 p9 p10 p11 p12 p13 p14) scope dV kV doc pm an cdv ct), osl⟩) (hcd : PySem.W.codeIn X.K cdv qual = true)
    (S : FnScope ["work", "caught", "error"] ["work"] scope) (h0 : scope.names.lookup ("work" : Str) = some .local) (h1 : scope.names.lookup ("caught" : Str) = some .local) (h2 : scope.names.lookup ("error" : Str) = some .local) (h3 : scope.names.lookup ("SwayError" : Str) = some .globalImplicit) (hm : X.mg "SwayError" = some (.ref CS))
    {A : Around} {outer : List Env} {s : Shared} {H : Hp} {us : List Value} {vs : List V} {Q : VK} {E : XK} (hr : Room (k + 1) A) (e0 : Env0 X.prog X.w X.K X.mg X.base A outer s H) (cv : CellsV L s.heap H)
    (hb : BindsTo s (PySem.W.fnOf name qual params (caughtBody j p1 p2 p3 p4 p5 p6 p7 p8 p9 p10 p11 p12 p13 p14) scope dV kV doc pm an cdv ct) ⟨us, []⟩ ((["work"] : List Str).zip us)) (rv : Vals vs us) (h : spCaught X.K CS f tl vs H Q) :
    codeAny (model X.prog X.w) A (.call (.ref g) ⟨us, []⟩) (CR (L2.CX X.prog X.w) outer X.prog X.w H s Q E) s := by
  obtain ⟨rfl, hl, E', Q', ht, hQ, hE⟩ := h
  refine run_ofS lk hcd S hr e0 hb rv rfl fun hr' => ?_
  have nd : (["work", "caught", "error"] : List Str).Nodup := S.nd
  let Y : Cx := cxOf (L2.CX X.prog X.w) X.prog X.w X.K X.mg X.base ["work", "caught", "error"] qual scope g cdv A outer s H E
  have rY : ∀ (pn : List (Addr × Obj)) (xe : Value → Shared → Prop), Runs (Y.tr pn xe) k L f tl := fun pn xe => r.like ⟨rfl, rfl, rfl, rfl, rfl⟩
  refine ⟨_, pss_cons (ps_set (i := 1) nd rfl (.inl h1) pe_non)
    (pss_cons (ps_caught (X := Y) (i := 2) (j := 1) (c := .ref CS) rfl rfl nd rfl h2 ⟨h3, by decide, .inl hm⟩ (show 2 < 3 by decide) rfl
      (tb := fun W D σ H => σ[0]? = some (some (.ref f)) ∧ IsLam H f ∧ ∃ (E' : XK) (Q' : VK), tl E' H Q' ∧ (∀ v H', Q' v H' → D.nx σ H') ∧ ∀ c d H', E' c d H' → W c d σ H')
      (fun W pn xe tk _ => pss_one (ps_expr (pe_work (i := 0) (E := WE W) (rY pn xe) hr' cv rfl (fun σ => passAt tk σ) rfl (.inl h0))))
      (fun a q pn => ps_set (i := 1) nd rfl (.inl h1) (pe_var (i := 2) rfl (.inl h2))))
    (pss_one (ps_ret (pe_var (i := 1) rfl (.inl h1))))), ?_⟩
  refine ⟨rfl, hl, E', Q', ht, fun v H' q => ⟨.non, rfl, hQ v H' q⟩, fun cls d H' q => ?_⟩
  obtain ⟨e1, e2⟩ := hE cls d H' q
  exact ⟨e1, fun a na => ⟨.ref a, rfl, e2 a na⟩⟩
end
end ClX
end

section
set_option maxRecDepth 100000
set_option maxHeartbeats 4000000
/-! A list comprehension whose block is told what the state is at its start. -/
namespace ClX
open PySem PySem.Spec PyProof.Rows L2
/-- what a block may lean on: the frame's own state at the block's start -/
structure At0 (X : Cx) (σ : L2.St) (s : Shared) (H : Hp) (fp : List Addr) : Prop where
  inv : ∃ pins, Inv X pins σ H s
  fps : ∀ b ∈ fp, (∀ x c, X.env.cells.lookup x = some c → c ≠ b) ∧ b ∉ X.fs ∧ b ≠ X.env.locals
section
variable {X : Cx} {σ : L2.St} {H0 : Hp} {s0 : Shared} {fp : List Addr} {ce : Env} {scope : Scope}
theorem blk_fp {σ' : L2.St} {H : Hp} {s : Shared} (I : Inv (X.blk s0 H0 scope ce fp) [] σ' H s) (hn : ∀ b ∈ fp, H b = none) : ∀ b ∈ fp, FpOk (X.blk s0 H0 scope ce fp) [] H b := fun b hb =>
  ⟨hn b hb, (I.ok.exf b hb).1, I.ok.exfs b hb, .inl hb, fun y c e => (I.ok.exf b hb).2 y c e, fun p hp => nomatch (show p ∈ ([] : List (Addr × Obj)) ++ [] from hp)⟩
/-- the state between two turns -/
def Btw (X : Cx) (s0 : Shared) (H0 : Hp) (scope : Scope) (ce : Env) (fp : List Addr) (σw : L2.St) (tn : Nat → Heap → Prop) (W : Nat → Nat → Hp → Prop) (n : Nat) (s : Shared) : Prop :=
  ∃ i H, Inv (X.blk s0 H0 scope ce fp) [] σw H s ∧ tn i s.heap ∧ (∀ b ∈ fp, H b = none) ∧ W i n H
/-- a turn is over: on to the next -/
theorem btw_next {P : Program} {w : World} {K : PySem.W.Frag} {tg : Expr} {J : It} {it : Addr} {tn : Nat → Heap → Prop} {W : Nat → Nat → Hp → Prop} {vs : List Nat} {n i : Nat} {h7 : Heap} {σ8 : L2.St} {H' : Hp} {s' : Shared} {Nx : Hp → Prop} (T : Turn P w K tg J fp it tn)
    (I : Inv (X.blk s0 H0 scope ce fp) ([] ++ pinsAt fp h7) σ8 H' s') (ew : wipe σ8 vs = wipe σ vs) (t7 : tn (i + 1) h7) (nx : Nx H') (hNx : ∀ H', Nx H' → ∃ m', m' < n ∧ W (i + 1) m' H') :
    ∃ m, m < n ∧ Btw X s0 H0 scope ce fp (wipe σ vs) tn W m s' := by
  obtain ⟨m', hm, w'⟩ := hNx H' nx
  have stay : ∀ b ∈ fp, ∀ o, h7.get? b = some o → s'.heap.get? b = some o ∧ H' b = none := fun b hb o e => by
    obtain ⟨z1, z2, _⟩ := I.pin (b, o) (List.mem_append_right _ (List.mem_append_right _ (mem_pinsAt hb e)))
    exact ⟨z1, z2⟩
  refine ⟨m', hm, i + 1, H', I.unpinned.weak (by rw [← ew, wipe_length]) fun j v e => (wipe_some (ew ▸ e)).1, T.keep _ _ _ t7 fun b hb o e => (stay b hb o e).1, fun b hb => ?_, w'⟩
  obtain ⟨o, e, _⟩ := T.obj _ _ t7 b hb
  exact (stay b hb o e).2
theorem lcAt {elt tg iter : Expr} {ifs : List Expr} {own : List (Str × Nat)} {pos : Pos} {wi : TI} {g : L2.St → TG} {tt : L2.St → L2.TT} {te : L2.St → TE} (hc : X.calm = true) (hN : X.N.Nodup) (hi : PI X tg iter wi) (ok : BlkOk X.N X.env.scope scope own)
    (hg : ∀ (σ : L2.St) (s : Shared) (H : Hp) (C : Addr) (cl : List (Str × Addr)) (fp : List Addr), At0 X σ s H fp → PG (X.blk s H scope (compEnvC scope cl C X.env) fp) tg (g σ))
    (ht : ∀ (σ : L2.St) (s : Shared) (H : Hp) (C : Addr) (cl : List (Str × Addr)) (fp : List Addr), At0 X σ s H fp → PTs (X.blk s H scope (compEnvC scope cl C X.env) fp) ifs (tt σ))
    (he : ∀ (σ : L2.St) (s : Shared) (H : Hp) (C : Addr) (cl : List (Str × Addr)) (fp : List Addr), At0 X σ s H fp → PE (X.blk s H scope (compEnvC scope cl C X.env) fp) elt (te σ)) (hs : ∀ x, foldedSetIterable iter X.env x = pure x := by intro _; rfl) :
    PE X (.ListComp elt [⟨tg, iter, ifs, 0⟩] scope pos) (fun σ H Q => tLc wi (g σ) (tt σ) (te σ) (own.map (·.2)) σ H Q) := by
  refine ⟨fun pins s σ H Q I h => ?_⟩
  rw [eval_ListComp]
  have hfree : ∀ y ∈ scope.names, y.2 = .free → ∃ c, X.env.cells.lookup y.1 = some c := fun y hy e => (ok.free y hy e).elim (fun k => I.ok.has _ (.inl k)) fun k => I.ok.has _ (.inr k)
  refine wpAny_comprehension_free rfl hs (closure_ok hfree) ok.kind (fun y hy e => by rw [ok.uniq y hy, e]) (thn (hi.run pins s σ H _ I h) fun xv s1 hx => thn hx fun itv s2 hh => ?_)
  obtain ⟨it, fp, tn, J, H2, e, I2, T, t2, f2, q⟩ := hh
  subst e
  refine wpAny_newObj_type (newEnv_comp ?_) (by show 0 ≤ sizeLine; decide)
  have nD : H2 s2.heap.objs.size = none := I2.hok.fresh (Nat.le_refl _)
  obtain ⟨W, ⟨m0, w0⟩, turn⟩ := q _ nD
  have I3 := I2.laid (t' := s2.toks) (a := s2.heap.objs.size) (o := .lst []) (h' := s2.heap.push { cls := .type "list", data := .seq ([] : List Value).toArray }) (fun b o e => Heap.get?_push_of_some _ e) (Nat.le_refl _) ⟨Nat.zero_le _, [], 0, .nil, Heap.get?_push_size _ rfl⟩
  have lt2 : ∀ b ∈ fp, b < s2.heap.objs.size := fun b hb => by
    obtain ⟨o, e, _⟩ := T.obj _ _ t2 b hb
    exact Heap.lt_size e
  have f3 : ∀ b ∈ fp, FpOk X pins (upd H2 s2.heap.objs.size (.lst [])) b ∧ b < (s2.heap.push { cls := .type "list", data := .seq ([] : List Value).toArray }).objs.size := fun b hb =>
    ⟨⟨by rw [upd_ne (Nat.ne_of_lt (lt2 b hb))]; exact (f2 b hb).1, (f2 b hb).2⟩, by rw [Heap.size_push]; exact Nat.lt_succ_of_lt (lt2 b hb)⟩
  have t3 := T.keep _ _ (s2.heap.push { cls := .type "list", data := .seq ([] : List Value).toArray }) t2 fun b _ o e => Heap.get?_push_of_some _ e
  generalize hs3 : ({ s2 with heap := s2.heap.push { cls := .type "list", data := .seq ([] : List Value).toArray } } : Shared) = s3 at I3
  have e3 : s2.heap.push { cls := .type "list", data := .seq ([] : List Value).toArray } = s3.heap := by rw [← hs3]
  rw [e3] at f3 t3
  generalize hH3 : upd H2 s2.heap.objs.size (.lst []) = H3 at I3 f3 w0
  have a0 : At0 X σ s3 H3 fp := ⟨⟨pins, I3⟩, fun b hb => ⟨(f3 b hb).1.2.2.2.2.1, (f3 b hb).1.2.2.1, (f3 b hb).1.2.1⟩⟩
  have I4 := block_start I3 ok hN f3
  have pg := hg σ s3 H3 s3.heap.objs.size (cellsFrom (s3.heap.objs.size + 1) scope.names (cloFrom X.env.cells scope.names [])) fp a0
  have pt := ht σ s3 H3 s3.heap.objs.size (cellsFrom (s3.heap.objs.size + 1) scope.names (cloFrom X.env.cells scope.names [])) fp a0
  have pe := he σ s3 H3 s3.heap.objs.size (cellsFrom (s3.heap.objs.size + 1) scope.names (cloFrom X.env.cells scope.names [])) fp a0
  show codeAny _ _ (.compStart (.ListComp elt [⟨tg, iter, ifs, 0⟩] scope pos) 0 (.ref it) (.ref s2.heap.objs.size) (compEnvC scope (cellsFrom (s3.heap.objs.size + 1) scope.names (cloFrom X.env.cells scope.names [])) s3.heap.objs.size X.env)) _ { s3 with heap := pushCells (s3.heap.push { cls := .type "dict", data := .dict #[] }) scope.names }
  have t4 : tn 0 (pushCells (s3.heap.push { cls := .type "dict", data := .dict #[] }) scope.names) := T.keep _ _ _ t3 fun b _ o e => pushCells_keeps _ _ _ _ (Heap.get?_push_of_some _ e)
  generalize hce : compEnvC scope (cellsFrom (s3.heap.objs.size + 1) scope.names (cloFrom X.env.cells scope.names [])) s3.heap.objs.size X.env = ce at I4 pg pt pe ⊢
  have eL : ce.locals = s3.heap.objs.size := by rw [← hce] <;> rfl
  have n4 : ∀ b ∈ fp, H3 b = none := fun b hb => (f3 b hb).1.1
  refine (fun {R} (loop : codeAny (model X.prog X.w) X.A (.compLoop (.ListComp elt [⟨tg, iter, ifs, 0⟩] scope pos) 0 (.ref it) (.ref s2.heap.objs.size) ce) R _) => codeAny_compStart_list loop (T.self X.A 0 _ _ _ t4 loop)) ?_
  refine compLoop_any (Btw X s3 H3 scope ce fp (wipe σ (own.map (·.2))) tn W) (fun n s5 b5 => ?_) m0 ⟨0, H3, I4, t4, n4, w0⟩
  obtain ⟨i, H5, I5, t5, n5, w5⟩ := b5
  rcases turn i n H5 w5 with ⟨stop, hQ⟩ | ⟨go, Nx, hNx, step⟩
  · refine thnF (T.done (X.blk s3 H3 scope ce fp) rfl rfl rfl hc i [] s5 _ H5 (fun _ _ => False) I5 (blk_fp I5 n5) t5 stop) fun r s6 ⟨hr, I6⟩ => ?_
    subst hr
    have I7 : Inv X pins σ H5 s6 := I3.call' (ch := fp) I6.os I6.base I6.hok I6.bare fun b hb => let f := (f3 b hb).1; ⟨f.2.2.2.1, f.2.1, f.2.2.2.2.1, f.2.2.2.2.2⟩
    have nC : H5 s3.heap.objs.size = none := eL ▸ I6.free
    obtain ⟨m, hn, _⟩ := I6.loc
    have hn : s6.heap.Ns s3.heap.objs.size m := eL ▸ hn
    refine ⟨m, hn, fun h'' sb => ?_⟩
    obtain ⟨g0, g1, g2, g3, g4, g5⟩ := I3.fpOk (H' := H5) (Nat.le_refl _) nC
    have sb : Heap.SameBut s3.heap.objs.size s6.heap h'' := sb
    exact ⟨.ref _, H5, I7.turned (t' := s6.toks) (fun b o hb e => (sb.2 b hb).trans e) g0 g1 g3 g4 g5, rfl, hQ⟩
  · refine thnF (T.item (X.blk s3 H3 scope ce fp) rfl rfl rfl hc i [] s5 _ H5 (fun _ _ => False) I5 (blk_fp I5 n5) t5 go) fun r s6 ⟨u, hr, h6⟩ => ?_
    subst hr
    refine thnF h6 fun _ s7 ⟨x, H7, I7, r7, y7, t7, n7⟩ => ?_
    refine thnF (pg.run _ s7 _ H7 x u _ (I7.pinned (blk_fp I7 n7) (T.obj _ _ t7)) r7 (step x H7 y7)) fun _ s8 ⟨σ8, H8, I8, ew, q8⟩ => ?_
    refine thnF (pt.run _ s8 σ8 H8 _ I8 q8) fun b s9 ⟨H9, I9, q9⟩ => ?_
    cases b with
    | false => exact btw_next T I9 ew t7 (show Nx H9 from q9) hNx
    | true =>
      refine thnF (pe.run _ s9 σ8 H9 _ I9 q9) fun z s10 ⟨yv, H10, I10, r10, acc, hD10, hz10, nx⟩ => ?_
      exact app_ok (X := X.blk s3 H3 scope ce fp) I10 hD10 hz10 r10 fun s11 I11 => btw_next T I11 ew t7 nx hNx
end
end ClX
end

section
set_option maxRecDepth 100000
set_option maxHeartbeats 4000000
/-! Dicts with tuples as keys: comprehensions. -/
namespace ClX
open PySem PySem.Spec PyProof.Rows L2
section
variable {X : Cx} {σ : L2.St} {H0 : Hp} {s0 : Shared} {fp : List Addr} {ce : Env} {scope : Scope}
/-- d[k] = v by a comprehension, keys of either kind -/
theorem put_dictSet {Y : Cx} {pins : List (Addr × Obj)} {σ : L2.St} {H H' : Hp} {s : Shared} {E : Value → Shared → Prop} {D : Addr} {y v : V} {u r : Value} {Q : Unit → Shared → Prop} (hu : Y.A.units < cLine) (I : Inv Y pins σ H s) (g : DPut H D y v H') (ry : RelV y u) (rv : RelV v r)
    (h : ∀ s', Inv Y pins σ H' s' → Q () s') : wpAny (model Y.prog Y.w) Y.A (dictSet D u r) Q E s := by
  rcases g with ⟨kvs, k, e, ey, l, eH⟩ | ⟨kvs, k, b, e, ey, eb, l, eH⟩
  · subst ey eH
    exact d_dictSet I e l ry rv h
  · subst ey eH
    cases (show u = Value.ref b from ry)
    obtain ⟨z, hd, xs, rel, dd⟩ := dt_of I.hok e
    refine wpAny_dictSet_heap (hsz := by rw [← Paired.length rel]; exact z) hu (key_of I.hok eb) dd fun h' dd' hs => h _ ?_
    obtain ⟨q, es, ep, hq, h2, h3, h4, _, h5⟩ := dd'
    refine d_write I (by rw [e]; exact True.intro) hs ⟨q, hq⟩ ⟨Nat.le_trans (length_putK kvs k v) l, hd, _, (rel.put k eb rv).keeps fun c ys ec => ?_, q, es, ep, hq, h2, h3, h4, h5⟩
    rw [upd_ne (ne_of ec e (fun z => nomatch z))]
    exact ec
/-- {k: v for target in iter if ..}, a new dict D with tuples as keys -/
def tDcT (wi : TI) (g : TG) (tt : L2.TT) (tk tv : TE) (vs : List Nat) : TE := fun σ H Q => wi σ H fun J H1 => ∀ D, H1 D = none → ∃ W : Nat → Nat → Hp → Prop, (∃ m, W 0 m (upd H1 D (.dT []))) ∧ ∀ i m H, W i m H →
  (J.stop i H ∧ Q (.ref D) H) ∨ (J.go i H ∧ ∃ Nx : Hp → Prop, (∀ H', Nx H' → ∃ m', m' < m ∧ W (i + 1) m' H') ∧ ∀ x H', J.yld i H x H' → g x (wipe σ vs) H' fun σ2 H2 => wipe σ2 vs = wipe σ vs ∧ tt σ2 H2 fun b H3 =>
    if b = true then tk σ2 H3 fun y H4 => tv σ2 H4 fun z H5 => ∃ H6, DPut H5 D y z H6 ∧ Nx H6 else Nx H3)
theorem pe_dcT {kx vx tg iter : Expr} {ifs : List Expr} {own : List (Str × Nat)} {pos : Pos} {wi : TI} {g : TG} {tt : L2.TT} {tk tv : TE} (hu : X.A.units < cLine) (hc : X.calm = true) (hN : X.N.Nodup) (hi : PI X tg iter wi) (ok : BlkOk X.N X.env.scope scope own)
    (hg : ∀ (s : Shared) (H : Hp) (C : Addr) (cl : List (Str × Addr)) (fp : List Addr), PG (X.blk s H scope (compEnvC scope cl C X.env) fp) tg g)
    (ht : ∀ (s : Shared) (H : Hp) (C : Addr) (cl : List (Str × Addr)) (fp : List Addr), PTs (X.blk s H scope (compEnvC scope cl C X.env) fp) ifs tt)
    (hk : ∀ (s : Shared) (H : Hp) (C : Addr) (cl : List (Str × Addr)) (fp : List Addr), PE (X.blk s H scope (compEnvC scope cl C X.env) fp) kx tk)
    (he : ∀ (s : Shared) (H : Hp) (C : Addr) (cl : List (Str × Addr)) (fp : List Addr), PE (X.blk s H scope (compEnvC scope cl C X.env) fp) vx tv) (hs : ∀ x, foldedSetIterable iter X.env x = pure x := by intro _; rfl) :
    PE X (.DictComp kx vx [⟨tg, iter, ifs, 0⟩] scope pos) (tDcT wi g tt tk tv (own.map (·.2))) := by
  refine ⟨fun pins s σ H Q I h => ?_⟩
  rw [arm_eval_DictComp]
  have hfree : ∀ y ∈ scope.names, y.2 = .free → ∃ c, X.env.cells.lookup y.1 = some c := fun y hy e => (ok.free y hy e).elim (fun k => I.ok.has _ (.inl k)) fun k => I.ok.has _ (.inr k)
  refine wpAny_comprehension_free rfl hs (closure_ok hfree) ok.kind (fun y hy e => by rw [ok.uniq y hy, e]) (thn (hi.run pins s σ H _ I h) fun xv s1 hx => thn hx fun itv s2 hh => ?_)
  obtain ⟨it, fp, tn, J, H2, e, I2, T, t2, f2, q⟩ := hh
  subst e
  refine wpAny_newObj_type (newEnv_comp ?_)
  have nD : H2 s2.heap.objs.size = none := I2.hok.fresh (Nat.le_refl _)
  obtain ⟨W, ⟨m0, w0⟩, turn⟩ := q _ nD
  have I3 := I2.laid (t' := s2.toks) (a := s2.heap.objs.size) (o := .dT []) (h' := s2.heap.push { cls := .type "dict", data := .dict #[] }) (fun b o e => Heap.get?_push_of_some _ e) (Nat.le_refl _) (dt_empty s2.heap I2.big)
  have lt2 : ∀ b ∈ fp, b < s2.heap.objs.size := fun b hb => by
    obtain ⟨o, e, _⟩ := T.obj _ _ t2 b hb
    exact Heap.lt_size e
  have f3 : ∀ b ∈ fp, FpOk X pins (upd H2 s2.heap.objs.size (.dT [])) b ∧ b < (s2.heap.push { cls := .type "dict", data := .dict #[] }).objs.size := fun b hb =>
    ⟨⟨by rw [upd_ne (Nat.ne_of_lt (lt2 b hb))]; exact (f2 b hb).1, (f2 b hb).2⟩, by rw [Heap.size_push]; exact Nat.lt_succ_of_lt (lt2 b hb)⟩
  have t3 := T.keep _ _ (s2.heap.push { cls := .type "dict", data := .dict #[] }) t2 fun b _ o e => Heap.get?_push_of_some _ e
  generalize hs3 : ({ s2 with heap := s2.heap.push { cls := .type "dict", data := .dict #[] } } : Shared) = s3 at I3
  have e3 : s2.heap.push { cls := .type "dict", data := .dict #[] } = s3.heap := by rw [← hs3]
  rw [e3] at f3 t3
  generalize hH3 : upd H2 s2.heap.objs.size (.dT []) = H3 at I3 f3 w0
  have I4 := block_start I3 ok hN f3
  have pg := hg s3 H3 s3.heap.objs.size (cellsFrom (s3.heap.objs.size + 1) scope.names (cloFrom X.env.cells scope.names [])) fp
  have pt := ht s3 H3 s3.heap.objs.size (cellsFrom (s3.heap.objs.size + 1) scope.names (cloFrom X.env.cells scope.names [])) fp
  have pk := hk s3 H3 s3.heap.objs.size (cellsFrom (s3.heap.objs.size + 1) scope.names (cloFrom X.env.cells scope.names [])) fp
  have pe := he s3 H3 s3.heap.objs.size (cellsFrom (s3.heap.objs.size + 1) scope.names (cloFrom X.env.cells scope.names [])) fp
  show codeAny _ _ (.compStart (.DictComp kx vx [⟨tg, iter, ifs, 0⟩] scope pos) 0 (.ref it) (.ref s2.heap.objs.size) (compEnvC scope (cellsFrom (s3.heap.objs.size + 1) scope.names (cloFrom X.env.cells scope.names [])) s3.heap.objs.size X.env)) _ { s3 with heap := pushCells (s3.heap.push { cls := .type "dict", data := .dict #[] }) scope.names }
  have t4 : tn 0 (pushCells (s3.heap.push { cls := .type "dict", data := .dict #[] }) scope.names) := T.keep _ _ _ t3 fun b _ o e => pushCells_keeps _ _ _ _ (Heap.get?_push_of_some _ e)
  generalize hce : compEnvC scope (cellsFrom (s3.heap.objs.size + 1) scope.names (cloFrom X.env.cells scope.names [])) s3.heap.objs.size X.env = ce at I4 pg pt pk pe ⊢
  have eL : ce.locals = s3.heap.objs.size := by rw [← hce] <;> rfl
  have n4 : ∀ b ∈ fp, H3 b = none := fun b hb => (f3 b hb).1.1
  refine (fun {R} (loop : codeAny (model X.prog X.w) X.A (.compLoop (.DictComp kx vx [⟨tg, iter, ifs, 0⟩] scope pos) 0 (.ref it) (.ref s2.heap.objs.size) ce) R _) => codeAny_compStart_dict loop (T.self X.A 0 _ _ _ t4 loop)) ?_
  refine compLoop_anyD (Btw X s3 H3 scope ce fp (wipe σ (own.map (·.2))) tn W) (fun n s5 b5 => ?_) m0 ⟨0, H3, I4, t4, n4, w0⟩
  obtain ⟨i, H5, I5, t5, n5, w5⟩ := b5
  rcases turn i n H5 w5 with ⟨stop, hQ⟩ | ⟨go, Nx, hNx, step⟩
  · refine thnF (T.done (X.blk s3 H3 scope ce fp) rfl rfl rfl hc i [] s5 _ H5 (fun _ _ => False) I5 (blk_fp I5 n5) t5 stop) fun r s6 ⟨hr, I6⟩ => ?_
    subst hr
    have I7 : Inv X pins σ H5 s6 := I3.call' (ch := fp) I6.os I6.base I6.hok I6.bare fun b hb => let f := (f3 b hb).1; ⟨f.2.2.2.1, f.2.1, f.2.2.2.2.1, f.2.2.2.2.2⟩
    have nC : H5 s3.heap.objs.size = none := eL ▸ I6.free
    obtain ⟨m, hn, _⟩ := I6.loc
    have hn : s6.heap.Ns s3.heap.objs.size m := eL ▸ hn
    refine ⟨m, hn, fun h'' sb => ?_⟩
    obtain ⟨g0, g1, g2, g3, g4, g5⟩ := I3.fpOk (H' := H5) (Nat.le_refl _) nC
    have sb : Heap.SameBut s3.heap.objs.size s6.heap h'' := sb
    exact ⟨.ref _, H5, I7.turned (t' := s6.toks) (fun b o hb e => (sb.2 b hb).trans e) g0 g1 g3 g4 g5, rfl, hQ⟩
  · refine thnF (T.item (X.blk s3 H3 scope ce fp) rfl rfl rfl hc i [] s5 _ H5 (fun _ _ => False) I5 (blk_fp I5 n5) t5 go) fun r s6 ⟨u, hr, h6⟩ => ?_
    subst hr
    refine thnF h6 fun _ s7 ⟨x, H7, I7, r7, y7, t7, n7⟩ => ?_
    refine thnF (pg.run _ s7 _ H7 x u _ (I7.pinned (blk_fp I7 n7) (T.obj _ _ t7)) r7 (step x H7 y7)) fun _ s8 ⟨σ8, H8, I8, ew, q8⟩ => ?_
    refine thnF (pt.run _ s8 σ8 H8 _ I8 q8) fun b s9 ⟨H9, I9, q9⟩ => ?_
    cases b with
    | false => exact btw_next T I9 ew t7 (show Nx H9 from q9) hNx
    | true =>
      refine thnF (pk.run _ s9 σ8 H9 _ I9 q9) fun z s10 ⟨yk, H10, I10, r10, q10⟩ => ?_
      refine thnF (pe.run _ s10 σ8 H10 _ I10 q10) fun z2 s11 ⟨yv, H11, I11, r11, H12, dp, nx⟩ => ?_
      exact put_dictSet (Y := X.blk s3 H3 scope ce fp) hu I11 dp r10 r11 fun s12 I12 => btw_next T I12 ew t7 nx hNx
end
end ClX
end

section
set_option maxRecDepth 100000
set_option maxHeartbeats 4000000
/-! The pairs of a locked dict with tuples as keys. -/
namespace ClX
open PySem PySem.Spec PyProof.Rows L2
/-- what the object of a locked dict with tuple keys bears -/
theorem frzT_at {X : Cx} {pins : List (Addr × Obj)} {σ : L2.St} {H : Hp} {s : Shared} {d : Addr} {o : Obj} {kvs : List (List Key × V)} (I : Inv X pins σ H s) (h : H d = some (.frz o (.dT kvs))) :
    (d == sysModules) = false ∧ ∃ (es : Array DictEntry) (ep : Nat), o.data = .dict es ep ∧ DT.Raw s.heap d es ep ∧ es.size = kvs.length ∧ kvs.length ≤ sizeLine ∧
      ∀ (i : Nat) (k : List Key) (v : V), kvs[i]? = some (k, v) → ∃ (en : DictEntry) (q : Addr), es[i]? = some en ∧ en.key = .ref q ∧ H q = some (.tup (k.map kV)) ∧ RelV v en.val := by
  obtain ⟨hd, z, hs, xs, pr, o', es, ep, ho, hx, hdt, he, _⟩ := I.hok d _ h
  rw [hd] at ho
  cases ho
  refine ⟨hs, es, ep, hdt, ⟨o, hd, hx, hdt⟩, ?_, z, fun i k v e => ?_⟩
  · have l2 : kvs.length = xs.length := Paired.length pr
    rw [l2, ← Array.length_toList, he, List.length_map]
  · obtain ⟨b, hb, e1, e2, e3⟩ := paired_get pr e
    refine ⟨_, b.2.1, by rw [← Array.getElem?_toList, he, List.getElem?_map, hb] <;> rfl, rfl, e2, e3⟩
/-- the pairs of the locked dict at d, each a new tuple of the key's own tuple and the value -/
def Itit (d : Addr) (o : Obj) (kvs : List (List Key × V)) : It :=
  ⟨fun i H => H d = some (.frz o (.dT kvs)) ∧ i < kvs.length, fun i H x H' => ∃ (T q : Addr) (k : List Key) (v : V), kvs[i]? = some (k, v) ∧ x = .ref T ∧ H q = some (.tup (k.map kV)) ∧ H T = none ∧ H' = upd H T (.tup [.ref q, v]), fun i H => H d = some (.frz o (.dT kvs)) ∧ kvs.length ≤ i⟩
theorem turn_itemsT {P : Program} {w : World} {K : PySem.W.Frag} {d : Addr} {o : Obj} {es : Array DictEntry} {ep : Nat} {kvs : List (List Key × V)} {elts : List Expr} {kk : Nat} {tpos : Pos} (it : Addr) (hod : o.data = .dict es ep) :
    Turn P w K (.Tuple elts kk tpos) (Itit d o kvs) [it] it (fun i h => ∃ ok ov, IsItemIter h it d i kvs.length ep ok ov) where
  mem := List.mem_cons_self
  obj := fun i h st b hb => by
    obtain ⟨ok, ov, e⟩ := st
    rw [List.mem_singleton.mp hb]
    exact ⟨_, e, fun v z => nomatch z⟩
  keep := fun i h h' st k => let ⟨ok, ov, e⟩ := st; ⟨ok, ov, k it List.mem_cons_self _ e⟩
  item := by
    intro X hP hw hK hc i pins s σ H E I hf st hg
    subst hP hw hK
    obtain ⟨hd, hi⟩ := hg
    obtain ⟨hs, es', ep', hdt, raw, hsz, _, ent⟩ := frzT_at I hd
    obtain ⟨rfl, rfl⟩ := dict_ep hod hdt
    obtain ⟨⟨k, v⟩, hkv⟩ : ∃ p, kvs[i]? = some p := ⟨kvs[i], List.getElem?_eq_getElem hi⟩
    obtain ⟨en, q, hen, hq1, hq2, rv⟩ := ent i k v hkv
    obtain ⟨ok, ov, he⟩ := st
    have hlt : it < s.heap.objs.size := Heap.lt_size he
    rw [← hsz] at he hi
    have een : es'[i] = en := by
      rw [Array.getElem?_eq_getElem hi] at hen
      exact Option.some.inj hen
    refine DT.nextI he raw hi fun h' ho hT _ hk => ?_
    rw [een, hq1] at hT ho
    refine ⟨_, rfl, wpAny_letOwnedTupleGo_items (s := { s with heap := h' }) ho fun h'' he' sb => ?_⟩
    have hT2 : h''.get? s.heap.objs.size = some { cls := .type "tuple", data := .seq #[.ref q, en.val] } := (sb.2 _ (Nat.ne_of_gt hlt)).trans hT
    have new : ObjOk X.prog X.w (upd H s.heap.objs.size (.tup [.ref q, v])) h'' s.heap.objs.size (.tup [.ref q, v]) :=
      ⟨by show 2 ≤ sizeLine; decide, [.ref q, en.val], .cons rfl (.cons rv .nil), ⟨_, hT2, rfl, _, rfl⟩⟩
    have I1 : Inv X pins σ (upd H s.heap.objs.size (.tup [.ref q, v])) { s with heap := h'' } :=
      I.turnedNew (t' := s.toks) (ch := [it]) (fun b ob hb e => (sb.2 b (by simpa using hb)).trans (hk b ob (by simpa using hb) e)) hf (Nat.le_refl _) new
    refine ⟨.ref s.heap.objs.size, _, I1, rfl, ⟨_, q, k, v, hkv, rfl, hq2, I.hok.fresh (Nat.le_refl _), rfl⟩, ⟨_, _, hsz ▸ he'⟩, fun b hb => ?_⟩
    rw [List.mem_singleton.mp hb, upd_ne (Nat.ne_of_lt hlt)]
    exact (hf it List.mem_cons_self).1
  done := by
    intro X hP hw hK hc i pins s σ H E I hf st hg
    subst hP hw hK
    obtain ⟨hd, hi⟩ := hg
    obtain ⟨f0, f1, f2, f3, f4, f5⟩ := hf it List.mem_cons_self
    obtain ⟨hs, es', ep', hdt, raw, hsz, _, ent⟩ := frzT_at I hd
    obtain ⟨rfl, rfl⟩ := dict_ep hod hdt
    obtain ⟨ok, ov, he⟩ := st
    rw [← hsz] at he hi
    exact DT.endI (I.ok.hd hc) he raw hi fun h' eb => ⟨rfl, I.turned (t' := s.toks) (fun b ob hb e => eb b ob hb e) f0 f1 f3 f4 f5⟩
  self := fun A i s Q E st h => let ⟨_, _, e⟩ := st; PySem.W.kcp_self e h
/-- .. in e.items(), the dict locked -/
def iItemsT (td : TE) : TI := fun σ H R => td σ H fun x H1 => ∃ d o kvs, x = .ref d ∧ H1 d = some (.frz o (.dT kvs)) ∧ R (Itit d o kvs) H1
theorem pi_itemsT {X : Cx} {e : Expr} {td : TE} {apos cpos : Pos} {elts : List Expr} {kk : Nat} {tpos : Pos} (he : PE X e td) (hbase : attributeBase e "items" X.env (eval e X.env) = eval e X.env := by rfl) (hline : (apos.endLine == cpos.line) = true := by rfl) :
    PI X (.Tuple elts kk tpos) (.Call (.Attribute e "items" apos) [] [] cpos) (iItemsT td) := by
  refine ⟨fun pins s σ H R I h => ?_⟩
  refine wpAny_Call_method (T := "dict") (id := "dict.items") hbase rfl hline PySem.F.plainAttrs_dict PySem.F.slot_dict_items PySem.F.type_dict_items (thn (he.run pins s σ H _ I h) fun u s1 ⟨x, H1, I1, rx, d, o, kvs, ex, hd, q⟩ => ?_)
  subst ex
  obtain rfl : u = Value.ref d := rx
  obtain ⟨hs, es, ep, hdt, raw, hsz, _, ent⟩ := frzT_at I1 hd
  refine ⟨raw.typeIs, ?_, ?_⟩
  · obtain ⟨o', ho, hx, _⟩ := raw
    rintro b ⟨⟩
    exact ⟨o', ho, hx.2.1⟩
  have I2 : Inv X pins σ H1 { s1 with heap := s1.heap.push { cls := .type "dict_items", data := .fields #[.ref d] } } := I1.kept (t' := s1.toks) fun b ob q => Heap.get?_push_of_some _ q
  have fin : wpAny (model X.prog X.w) X.A (pyIter (.ref s1.heap.objs.size)) (PIE X pins σ (.Tuple elts kk tpos) R) X.xe { s1 with heap := s1.heap.push { cls := .type "dict_items", data := .fields #[.ref d] } } := by
    refine DT.iterI (d := d) ⟨_, Heap.get?_push_size _ rfl, rfl, rfl⟩ (raw.push _) (pi_one (tk := s1.toks) I2 _ (turn_itemsT _ hdt) ⟨.none, .none, ?_⟩ q)
    rw [← hsz]
    exact Heap.get?_push_size _ rfl
  show wpAny _ _ (callWith cpos (.builtin "dict.items") [.ref d] [] []) _ X.xe s1
  exact method_meetsIn PySem.F.slot_dict_items PySem.F.entry_dict_items rfl (PySem.evalArgs_none ⟨rfl, raw.typeIs, PySem.F.args_dict_items_1 _, _, DT.meetsItems (es := es) (ep := ep) hs, ⟨raw, fin⟩⟩)
end ClX
end

section
set_option maxRecDepth 100000
set_option maxHeartbeats 4000000
/-! sorted(d), d a dict whose keys are tuples of ints. -/
namespace ClX
open PySem PySem.Spec PyProof.Rows L2
/-- rows of ints, by their items from the left -/
def ltI : List Int → List Int → Bool
  | [], [] => false
  | [], _ :: _ => true
  | _ :: _, [] => false
  | x :: r, y :: t => decide (x < y) || (!decide (y < x) && ltI r t)
theorem ltI_lex : ∀ a b : List Int, lexLt itemOrd (a.map Sum.inl) (b.map Sum.inl) = ltI a b
  | [], [] => rfl
  | [], _ :: _ => rfl
  | _ :: _, [] => rfl
  | x :: r, y :: t => by
    show (decide (x < y) || (!decide (y < x) && lexLt itemOrd (r.map Sum.inl) (t.map Sum.inl))) = _
    rw [ltI_lex r t]
    rfl
def noStr : Nat → Bool := fun _ => false
theorem tupItems_ints : ∀ {ks : List Int} {us : List Value} (i : Nat), Vals (ks.map V.int) us → tupItems noStr i us = some (ks.map Sum.inl)
  | [], us, i, r => by cases r; rfl
  | k :: ks, us, i, r => by
    cases r with
    | cons h t =>
      obtain ⟨tk, rfl⟩ := h
      have e := tupItems_ints (i + 1) t
      simp [tupItems, noStr] at e ⊢
      exact e
/-- the ints of a row's tuple -/
def rowAt (h : Heap) (v : Value) : List Int := ((G.tupKeyC h noStr v).getD []).filterMap fun x => x.getLeft?
theorem inl_back : ∀ ks : List Int, (ks.map (Sum.inl : Int → Int ⊕ List Nat)).filterMap (fun x => x.getLeft?) = ks
  | [] => rfl
  | k :: ks => by
    rw [List.map_cons, List.filterMap_cons]
    show k :: _ = _
    rw [inl_back ks]
/-- a tracked tuple of ints, as the sort looks at it -/
theorem row_key {P : Program} {w : World} {H : Hp} {h : Heap} {b : Addr} {ks : List Int} (ok : HOk P w H h) (e : H b = some (.tup (ks.map V.int))) : G.tupKeyC h noStr (.ref b) = some (ks.map Sum.inl) ∧ (ks ≠ [] → ∃ f, TupOf h noStr (.ref b) f) := by
  obtain ⟨_, its, r, o, h1, h2, n, h3⟩ := (show ObjOk P w H h b (.tup (ks.map V.int)) from ok b _ e)
  have hc : o.cls = .type "tuple" := h2
  have t := tupItems_ints 0 r
  refine ⟨?_, fun hk => ?_⟩
  · have e1 : G.isTupObj h (.ref b) = true := by simp [G.isTupObj, h1, hc]
    unfold G.tupKeyC
    rw [if_pos e1]
    simp only [tupKey, h1, h3]
    exact t
  · cases ks with
    | nil => exact absurd rfl hk
    | cons k r2 =>
      cases r with
      | cons hu ht =>
        obtain ⟨tk, rfl⟩ := hu
        exact ⟨_, b, o, _, n, rfl, h1, hc, h3, rfl, fun _ => ⟨k, tk, rfl⟩, fun z => nomatch z⟩

theorem fst_zip_self : ∀ vs : List Value, (vs.zip vs).map (·.1) = vs
  | [] => rfl
  | v :: vs => by
    show v :: (vs.zip vs).map (·.1) = _
    rw [fst_zip_self vs]
theorem refs_paired {H : Hp} {f : Value → List Int} : ∀ {ws : List Value}, (∀ w ∈ ws, ∃ b, w = .ref b ∧ H b = some (.tup ((f w).map V.int))) → ∃ bs : List Addr, ws = bs.map Value.ref ∧ Paired (fun (y : List Int) (b : Addr) => H b = some (.tup (y.map V.int))) (ws.map f) bs
  | [], _ => ⟨[], rfl, .nil⟩
  | w :: ws, h => by
    obtain ⟨b, e, hb⟩ := h w List.mem_cons_self
    obtain ⟨bs, e2, p⟩ := refs_paired (f := f) fun x hx => h x (List.mem_cons_of_mem _ hx)
    refine ⟨b :: bs, by rw [List.map_cons, ← e2, ← e], .cons hb p⟩
theorem tups_of {P : Program} {w : World} {H : Hp} {h : Heap} (ok : HOk P w H h) : ∀ {ks : List (List Int)} {bs : List Addr}, Paired (fun (y : List Int) (b : Addr) => H b = some (.tup (y.map V.int))) ks bs → (∀ k ∈ ks, k ≠ []) → ∃ fs, TupsOf h noStr (bs.map Value.ref) fs
  | [], _, .nil, _ => ⟨[], .nil⟩
  | k :: ks, _, .cons hb t, hk => by
    obtain ⟨f, hf⟩ := (row_key ok hb).2 (hk k List.mem_cons_self)
    obtain ⟨fs, hfs⟩ := tups_of ok t fun x hx => hk x (List.mem_cons_of_mem _ hx)
    exact ⟨f :: fs, .cons hf hfs⟩
theorem rows_are {P : Program} {w : World} {H : Hp} {h : Heap} (ok : HOk P w H h) : ∀ {ks : List (List Int)} {bs : List Addr}, Paired (fun (y : List Int) (b : Addr) => H b = some (.tup (y.map V.int))) ks bs →
    (bs.map Value.ref).map (rowAt h) = ks ∧ ∀ v ∈ bs.map Value.ref, (∃ l, G.tupKeyC h noStr v = some l) ∧ G.tupKeyC h noStr v = some ((rowAt h v).map Sum.inl) ∧ ∃ b, v = .ref b ∧ H b = some (.tup ((rowAt h v).map V.int))
  | [], _, .nil => ⟨rfl, fun v hv => nomatch hv⟩
  | k :: ks, b :: bs, .cons hb t => by
    obtain ⟨e1, e2⟩ := rows_are ok t
    obtain ⟨q, _⟩ := row_key ok hb
    have er : rowAt h (.ref b) = k := by
      unfold rowAt
      rw [q]
      exact inl_back k
    refine ⟨by rw [List.map_cons, List.map_cons, er, e1], fun v hv => ?_⟩
    rcases List.mem_cons.mp hv with e | hv
    · subst e
      refine ⟨⟨_, q⟩, by rw [er]; exact q, _, rfl, by rw [er]; exact hb⟩
    · exact e2 v hv
/-- rows in their order -/
def Asc (ys : List (List Int)) : Prop := ys.Pairwise fun a b => ltI b a = false
/-- sorted(d): the keys' own tuples, by their rows -/
def rSortT : List V → Hp → VK → Prop := fun xs H Q => ∃ (d : Addr) (kvs : List (List Key × V)) (ks : List (List Int)), xs = [.ref d] ∧ Rd H d (.dT kvs) ∧ kvs.map (·.1) = ks.map (fun k => k.map Sum.inl) ∧ (∀ k ∈ ks, k ≠ []) ∧
  ∀ (p : Addr) (bs : List Addr) (ys : List (List Int)), ys.Perm ks → Asc ys → Paired (fun (y : List Int) (b : Addr) => H b = some (.tup (y.map V.int))) ys bs → H p = none → Q (.ref p) (upd H p (.lst (bs.map V.ref)))
theorem keys_paired {H : Hp} : ∀ {kvs : List (List Key × V)} {xs : List (List Key × Addr × Value)} {ks : List (List Int)}, KT H kvs xs → kvs.map (·.1) = ks.map (fun k => k.map Sum.inl) → Paired (fun (y : List Int) (b : Addr) => H b = some (.tup (y.map V.int))) ks (xs.map (·.2.1))
  | _, _, [], .nil, _ => .nil
  | _, _, _ :: _, .nil, e => by cases e
  | _, _, [], .cons _ _, e => by cases e
  | p :: _, q :: _, k :: ks, .cons h t, e => by
    rw [List.map_cons, List.map_cons] at e
    injection e with e1 e2
    refine .cons ?_ (keys_paired t e2)
    have e3 := h.2.1
    rw [e1, List.map_map] at e3
    exact e3
theorem call_sortedT {X : Cx} (hcalm : X.calm = true) : CallR X (.builtin "sorted") rSortT := by
  intro pins s σ H xs us Q I r q
  obtain ⟨d, kvs, ks, ex, hd, hks, hne, q⟩ := q
  subst ex
  obtain ⟨u, eu, rx⟩ := vals1 r
  subst eu
  cases rx
  obtain ⟨z, hs, xs, pr, o, es, ep, ho, hx, hdt, he, hn⟩ := (show ObjOk X.prog X.w H s.heap d (.dT kvs) from hd.ok I.hok)
  have l1 : es.size = xs.length := by rw [← Array.length_toList, he, List.length_map]
  have l2 : kvs.length = xs.length := Paired.length pr
  have l3 : ks.length = kvs.length := by
    have e := congrArg List.length hks
    rw [List.length_map, List.length_map] at e
    exact e.symm
  refine Calls.call_function_entry PyProof.Rows.kind_sorted PyProof.Rows.plain_sorted PyProof.Rows.entry_sorted (PyProof.Rows.args_sorted1 _) ?_
  unfold Builtin.«sorted»
  refine wpAny_bind (m := checkCount "sorted" 1 1 _) (wpAny_pure ?_)
  refine wpAny_bind (PySem.W.kdu_collect (A := X.A.in1) (kdl_raw hs hx hdt) (I.ok.hd hcalm) ho (by omega) fun h' tk acc hk hacc => ?_)
  have ea : acc.toList = (xs.map (·.2.1)).map Value.ref := by
    apply List.ext_getElem?
    intro j
    rw [List.map_map, List.getElem?_map]
    cases hj : acc.toList[j]? with
    | none =>
      have h1 := List.getElem?_eq_none_iff.mp hj
      rw [Array.length_toList, hacc.1] at h1
      rw [List.getElem?_eq_none (by omega)]
      rfl
    | some v =>
      obtain ⟨en, hen, hv⟩ := hacc.2 j v (by rw [← Array.getElem?_toList]; exact hj)
      rw [← Array.getElem?_toList, he, List.getElem?_map] at hen
      cases hb : xs[j]? with
      | none => rw [hb] at hen; cases hen
      | some b =>
        rw [hb] at hen
        have e2 := Option.some.inj hen
        rw [hv, ← e2]
        rfl
  have I1 : Inv X pins σ H { s with heap := h', toks := tk } := I.kept hk
  rw [ea]
  have kp := keys_paired pr hks
  have hzl : ((xs.map (·.2.1)).map Value.ref).length ≤ sizeLine := by rw [List.length_map, List.length_map]; omega
  refine wpAny_bind (wpAny_newList ?_ hzl)
  have I2 : Inv X pins σ H { s with heap := h'.push (seqObj "list" ((xs.map (·.2.1)).map Value.ref).toArray 0), toks := tk } := I1.kept (t' := tk) fun b o e => Heap.get?_push_of_some _ e
  obtain ⟨r1, r2⟩ := rows_are I2.hok kp
  obtain ⟨fs, hfs⟩ := tups_of I2.hok kp hne
  have hoL : (h'.push (seqObj "list" ((xs.map (·.2.1)).map Value.ref).toArray 0)).get? h'.objs.size = some (seqObj "list" ((xs.map (·.2.1)).map Value.ref).toArray 0) := Heap.get?_push_size _ rfl
  show wpAny _ _ _ _ _ { s with heap := h'.push (seqObj "list" ((xs.map (·.2.1)).map Value.ref).toArray 0), toks := tk }
  refine wpAny_bind (wpAny_holding (wpAny_call_entry PyProof.Rows.slot_list_sort ⟨_, hoL, rfl⟩ PyProof.Rows.entry_list_sort
    (G.list_sort_tups (s := { s with heap := h'.push (seqObj "list" ((xs.map (·.2.1)).map Value.ref).toArray 0), toks := tk }) hoL hfs (fun v hv => (r2 v hv).1) hzl fun st' g1 g2 g3 => ⟨_, rfl, ?_⟩) (PyProof.Rows.args_list_sort _)))
  generalize hvs : (xs.map (·.2.1)).map Value.ref = vs at *
  generalize hH : ({ s with heap := h'.push (seqObj "list" vs.toArray 0), toks := tk } : Shared).heap = hh at *
  obtain ⟨e', he'⟩ := PyProof.Rows.sortedHeap_at (vs := vs) (out := (arrOf st').map (·.2)) hoL
  have p1 : (arrOf st').toList.Perm (vs.zip vs) := by
    have z := Array.perm_iff_toList_perm.mp g1
    rwa [pairsOf_toList] at z
  have same : ∀ p ∈ (arrOf st').toList, p.1 = p.2 ∧ p.1 ∈ vs := fun p hp => by
    obtain ⟨e, hm⟩ := mem_zip_self (p1.mem_iff.mp hp)
    exact ⟨e, hm⟩
  have e12 : (arrOf st').toList.map (·.2) = (arrOf st').toList.map (·.1) := List.map_congr_left fun p hp => (same p hp).1.symm
  have pw : ((arrOf st').toList.map (·.2)).Perm vs := by
    have z := p1.map (·.1)
    rw [fst_zip_self] at z
    rw [e12]
    exact z
  obtain ⟨bs, ebs, pb⟩ := refs_paired (f := rowAt hh) (ws := (arrOf st').toList.map (·.2)) fun v hv => (r2 v (pw.mem_iff.mp hv)).2.2
  have py : (((arrOf st').toList.map (·.2)).map (rowAt hh)).Perm ks := by
    have z := pw.map (rowAt hh)
    rwa [r1] at z
  have asc : Asc (((arrOf st').toList.map (·.2)).map (rowAt hh)) := by
    refine List.pairwise_iff_getElem.mpr fun i j hi hj hij => ?_
    have hj2 : j < (arrOf st').toList.length := by simpa using hj
    have hi2 : i < (arrOf st').toList.length := by simpa using hi
    have hsz : j < (pairsOf vs).size := by
      rw [pairsOf_size, ← pw.length_eq, List.length_map]
      exact hj2
    have kk := g2 i j (Nat.le_of_lt hij) hsz
    have key : ∀ {k : Nat} (hk : k < (arrOf st').toList.length), KK (G.tupKindC hh noStr) (arrOf st') k = (rowAt hh (arrOf st').toList[k].2).map Sum.inl := fun {k} hk => by
      have hm := List.getElem_mem hk
      have e1 : (arrOf st')[k]? = some (arrOf st').toList[k] := by rw [← Array.getElem?_toList]; exact List.getElem?_eq_getElem hk
      obtain ⟨q1, q2⟩ := same _ hm
      unfold KK
      rw [e1, ← q1]
      show ((G.tupKeyC hh noStr (arrOf st').toList[k].1).getD []) = _
      rw [(r2 _ q2).2.1]
      rfl
    rw [key hi2, key hj2] at kk
    have kk2 : lexLt itemOrd ((rowAt hh (arrOf st').toList[j].2).map Sum.inl) ((rowAt hh (arrOf st').toList[i].2).map Sum.inl) = false := kk
    rw [ltI_lex] at kk2
    simpa using kk2
  have hlen : (bs.map V.ref).length ≤ sizeLine := by
    have z := congrArg List.length ebs
    rw [pw.length_eq, List.length_map] at z
    rw [List.length_map, ← z]
    exact hzl
  refine wpAny_pure ⟨_, rfl, .ref h'.objs.size, upd H h'.objs.size (.lst (bs.map V.ref)), I1.laid (t' := tk) (fun b u e => ?_) (Nat.le_refl _)
    (show ObjOk X.prog X.w _ _ _ (.lst (bs.map V.ref)) from ⟨hlen, bs.map Value.ref, e', vals_refs bs, ?_⟩), rfl, q _ bs _ py asc pb (I1.hok.fresh (Nat.le_refl _))⟩
  · have hb : b < h'.objs.size := Heap.lt_size e
    have sz : b < hh.objs.size := by
      rw [← hH]
      show b < (h'.push _).objs.size
      rw [size_push']
      exact Nat.lt_succ_of_lt hb
    show (sortedHeap hh h'.objs.size vs _).get? b = _
    rw [PyProof.Rows.sortedHeap_old (Nat.ne_of_lt hb) sz, ← hH]
    exact Heap.get?_push_of_some _ e
  · show (sortedHeap hh h'.objs.size vs _).get? _ = _
    have hH2 : h'.push (seqObj "list" vs.toArray 0) = hh := hH
    rw [hH2] at he'
    rw [he', ← ebs]
    have ee : (List.map (fun x => x.2) (arrOf st').toList).toArray = Array.map (fun x => x.2) (arrOf st') := by
      apply Array.toList_inj.mp
      rw [Array.toList_map]
    rw [ee]
end ClX
end

section
set_option maxRecDepth 100000
set_option maxHeartbeats 4000000
/-! == of two dicts with rows as keys and ints as values. -/
namespace ClX
open PySem PySem.Spec PyProof.Rows PyProof.V L2
section
variable {prog : Program} {w : World} {K : Type} [DecidableEq K] {knd : HeapKind prog w K} {A : Around} {E : Value → Shared → Prop} {s : Shared}
/-- from an entry on: each is found there, with the same int -/
inductive Finds (ys : List (K × Addr × Value)) : List (K × Addr × Value) → Bool → Prop
  | nil : Finds ys [] true
  | lost {k : K} {p : Addr × Value} {r : List (K × Addr × Value)} : atKey ys k = none → Finds ys ((k, p) :: r) false
  | met {k : K} {q q' : Addr} {i j : Int} {t u : Tok} {r : List (K × Addr × Value)} {b : Bool} : atKey ys k = some (q', .int j u) → Finds ys r b → Finds ys ((k, q, .int i t) :: r) ((i == j) && b)
theorem pairs_same {nm : String} {a b : Addr} {xs ys : List (K × Addr × Value)} {r : Bool} {Q : Bool → Shared → Prop} (ha : (a == sysModules) = false) (hb : (b == sysModules) = false) (hu : knd.room A)
    (da : s.heap.DictOfH knd a xs) (db : s.heap.DictOfH knd b ys) (fd : xs.length = ys.length → Finds ys xs r) (h : Q (xs.length == ys.length && r) s) : wpAny (model prog w) A (Builtin.Dict.samePairs nm a b) Q E s := by
  obtain ⟨oa, es, ep, hoa, _, hda, hea, hia, hna⟩ := da
  obtain ⟨ob, fs, fp, hob, _, hdb, heb, hib, hnb⟩ := db
  have la : es.size = xs.length := by rw [← Array.length_toList, hea, List.length_map]
  have lb : fs.size = ys.length := by rw [← Array.length_toList, heb, List.length_map]
  have at_b : ∀ j, fs[j]? = ys[j]?.map (entryOfKey knd) := fun j => by rw [← Array.getElem?_toList, heb, List.getElem?_map]
  unfold Builtin.Dict.samePairs Builtin.Dict.showsAll
  rw [if_neg (show ¬ (a == sysModules) = true by rw [ha]; exact Bool.false_ne_true), if_neg (show ¬ (b == sysModules) = true by rw [hb]; exact Bool.false_ne_true)]
  refine wpAny_bind (wpAny_pure (wpAny_bind (wpAny_pure (wpAny_bind (wpAny_dictEntries hoa hda ?_)))))
  dsimp only
  refine wpAny_bind (wpAny_dictEntries hob hdb ?_)
  by_cases hsz : es.size = fs.size
  case neg =>
    rw [if_pos (by simpa using hsz)]
    rw [show (xs.length == ys.length) = false by rw [← la, ← lb]; simpa using hsz, Bool.false_and] at h
    exact wpAny_bind (wpAny_rule (wpAny_pure h))
  case pos =>
    have hr : Q r s := by
      rw [show (xs.length == ys.length) = true by rw [← la, ← lb]; simpa using hsz, Bool.true_and] at h
      exact h
    rw [if_neg (by rw [hsz]; simp)]
    refine wpAny_bind (wpAny_dictEpoch hoa hda (wpAny_bind ?_))
    rw [Std.Legacy.Range.forIn_eq_forIn_range']
    simp only [Std.Legacy.Range.size, Nat.sub_zero, Nat.add_sub_cancel, Nat.div_one]
    refine wpAny_forIn_list _ (fun rest q s' => s' = s ∧ q = (none, ()) ∧ ∃ i, rest = List.range' i (es.size - i) ∧ i ≤ es.size ∧ Finds ys (xs.drop i) r) _ ?_ ?_ _ _ ⟨rfl, rfl, 0, by simp, Nat.zero_le _, fd (by omega)⟩
    · rintro x rest q s' ⟨rfl, rfl, i, er, hi, hf⟩
      have hlt : i < es.size := by
        rcases Nat.lt_or_ge i es.size with z | z
        · exact z
        · rw [Nat.sub_eq_zero_of_le z] at er
          cases er
      rw [show es.size - i = (es.size - (i + 1)) + 1 by omega, List.range'_succ] at er
      injection er with e1 e2
      subst e1
      have hlx : x < xs.length := by omega
      have hex : es[x]? = some (entryOfKey knd xs[x]) := by rw [← Array.getElem?_toList, hea, List.getElem?_map, List.getElem?_eq_getElem hlx] <;> rfl
      refine wpAny_bind (wpAny_dictEntries hoa hda ?_)
      rw [hex]
      rw [List.drop_eq_getElem_cons hlx] at hf
      have hk := hia _ (List.getElem_mem hlx)
      obtain ⟨k, p, vx⟩ : ∃ k p, xs[x] = (k, p) := ⟨_, _, rfl⟩
      rw [vx] at hf hk ⊢
      show wpAny _ _ (holding [Value.ref p.1, p.2] _ >>= _) _ _ _
      refine wpAny_bind (wpAny_holding (wpAny_bind (wpAny_dictFind_heap hu hk hob hdb heb hib hnb (fun no => ?_) fun j pj hj => ?_)))
      · have e0 := atKey_none_of_get no
        cases hf with
        | lost _ =>
          refine wpAny_pure ?_
          show wpAny _ _ (if (!false) = true then _ else _) _ _ _
          rw [if_pos (by decide)]
          exact wpAny_pure (wpAny_pure hr)
        | met e _ => rw [e0] at e; cases e
      · have e0 := atKey_of_get hnb hj
        refine wpAny_bind (wpAny_dictEntries hob hdb ?_)
        rw [at_b j, hj]
        cases hf with
        | lost e => rw [e0] at e; cases e
        | @met _ q q' i' j' t u _ b' e hrest =>
          rw [e0] at e
          cases e
          show wpAny _ _ (holding [Value.int j' u] (eqBool (.int i' t) (.int j' u))) _ _ _
          refine wpAny_holding (wpAny_eqBool_int ?_)
          cases hij : i' == j' with
          | false =>
            rw [hij, Bool.false_and] at hr
            show wpAny _ _ (if (!false) = true then _ else _) _ _ _
            rw [if_pos (by decide)]
            exact wpAny_pure (wpAny_pure hr)
          | true =>
            rw [hij, Bool.true_and] at hr
            show wpAny _ _ (if (!true) = true then _ else _) _ _ _
            rw [if_neg (by decide)]
            refine wpAny_bind (wpAny_dictEpoch hoa hda ?_)
            rw [if_neg (by simp)]
            exact wpAny_pure ⟨rfl, rfl, x + 1, e2, hlt, by rw [Bool.true_and]; exact hrest⟩
    · rintro q s' ⟨rfl, rfl, i, er, hi, hf⟩
      have hin : i = es.size := by
        rcases Nat.lt_or_ge i es.size with z | z
        · rw [show es.size - i = (es.size - (i + 1)) + 1 by omega, List.range'_succ] at er
          cases er
        · exact Nat.le_antisymm hi z
      rw [hin, la, List.drop_length] at hf
      cases hf
      exact wpAny_pure hr
end

def intV : V → Bool
  | .int _ => true
  | _ => false
/-- the two read alike -/
def sameT (ks ls : List (List Key × V)) : Bool := ks.length == ls.length && ks.all fun p => decide (valV ls p.1 = some p.2)
theorem finds_of {H : Hp} {ls : List (List Key × V)} {ys : List (List Key × Addr × Value)} (rl : KT H ls ys) (hl : ∀ p ∈ ls, intV p.2 = true) : ∀ {ks : List (List Key × V)} {xs : List (List Key × Addr × Value)}, KT H ks xs → (∀ p ∈ ks, intV p.2 = true) →
    Finds ys xs (ks.all fun p => decide (valV ls p.1 = some p.2))
  | [], _, .nil, _ => .nil
  | (k, v) :: ks, (k', q, u) :: xs, .cons h t, hk => by
    obtain ⟨e1, e2, e3⟩ := h
    have e1 : k = k' := e1
    subst e1
    have ih := finds_of rl hl t fun p hp => hk p (List.mem_cons_of_mem _ hp)
    have hv : intV v = true := hk (k, v) List.mem_cons_self
    cases v with
    | int i =>
      obtain ⟨tk, e4⟩ := (show ∃ t, u = Value.int i t from e3)
      subst e4
      have rv := rl.val k
      rw [List.all_cons]
      cases hf : valV ls k with
      | none =>
        rw [hf] at rv
        have en : (atKey ys k) = none := by
          cases q1 : atKey ys k with
          | none => rfl
          | some p => rw [q1] at rv; exact False.elim rv
        rw [show decide ((none : Option V) = some (k, V.int i).2) = false from decide_eq_false (fun z => nomatch z), Bool.false_and]
        exact .lost en
      | some v2 =>
        rw [hf] at rv
        cases q1 : atKey ys k with
        | none => rw [q1] at rv; exact False.elim rv
        | some p =>
          obtain ⟨q2, u2⟩ := p
          rw [q1] at rv
          have rv : L2.RelV v2 u2 := rv
          have hm : intV v2 = true := by
            have z : ∃ p ∈ ls, p.2 = v2 := by
              unfold valV at hf
              obtain ⟨p, hp, hp2⟩ := Option.map_eq_some_iff.mp hf
              exact ⟨p, List.mem_of_find?_eq_some hp, hp2⟩
            obtain ⟨p, hp, e⟩ := z
            rw [← e]
            exact hl p hp
          cases v2 with
          | int j =>
            obtain ⟨t2, e5⟩ := (show ∃ t, u2 = Value.int j t from rv)
            subst e5
            have ed : decide (some (V.int j) = some (k, V.int i).2) = (i == j) := by
              show decide (some (V.int j) = some (V.int i)) = _
              by_cases e : i = j
              · subst e
                simp
              · rw [decide_eq_false (fun z => e (V.int.inj (Option.some.inj z)).symm)]
                exact (beq_eq_false_iff_ne.mpr e).symm
            rw [ed]
            exact .met q1 ih
          | _ => cases hm
    | _ => cases hv
def rEqT : R2 := fun x y H Q => ∃ a b ks ls, x = .ref a ∧ y = .ref b ∧ Rd H a (.dT ks) ∧ Rd H b (.dT ls) ∧ (∀ p ∈ ks, intV p.2 = true) ∧ (∀ p ∈ ls, intV p.2 = true) ∧ Q (.bl (sameT ks ls)) H
def rNeT : R2 := fun x y H Q => ∃ a b ks ls, x = .ref a ∧ y = .ref b ∧ Rd H a (.dT ks) ∧ Rd H b (.dT ls) ∧ (∀ p ∈ ks, intV p.2 = true) ∧ (∀ p ∈ ls, intV p.2 = true) ∧ Q (.bl (!sameT ks ls)) H
section
variable {X : Cx}
theorem op_eq_T (hu : X.A.units + 1 < cLine) : OpR X (compareOp .Eq) rEqT := by
  intro pins s σ H x y v u Q I rx ry h
  obtain ⟨a, b, ks, ls, rfl, rfl, ea, eb, h1, h2, q⟩ := h
  cases rx
  cases ry
  obtain ⟨z1, n1, xs, r1, d1⟩ := dt_rd I.hok ea
  obtain ⟨z2, n2, ys, r2, d2⟩ := dt_rd I.hok eb
  have t1 : s.TypeIs (.ref a) "dict" := let ⟨o, _, _, ho, hx, _⟩ := d1; ⟨o, ho, hx.1⟩
  have t2 : s.TypeIs (.ref b) "dict" := let ⟨o, _, _, ho, hx, _⟩ := d2; ⟨o, ho, hx.1⟩
  have hl : (xs.length == ys.length && ks.all fun p => decide (valV ls p.1 = some p.2)) = sameT ks ls := by
    unfold sameT
    rw [Paired.length r1, Paired.length r2]
  refine wpAny_richCompare_same_room (op := .Eq) t1 t2 PySem.F.slot_dict_eq (wpAny_call_entry PySem.F.slot_dict_eq t1 PySem.F.entry_dict_eq ?_ (PySem.F.args_dict_eq_2 _ _)) (by omega)
  show wpAny _ _ (Builtin.Dict.dictSlotArgs "__eq__" ⟨[.ref a, .ref b], []⟩ >>= _) _ _ s
  unfold Builtin.Dict.dictSlotArgs
  refine wpAny_bind (wpAny_bind (wpAny_notOrdered_dict t1 ?_))
  show wpAny _ _ (pure (Value.ref a, Value.ref b)) _ _ s
  refine wpAny_pure (wpAny_bind (wpAny_isInstance (T := "dict") t2 PySem.F.sub_dict_dict ?_))
  simp only [Bool.not_true, Bool.false_eq_true, if_false]
  refine wpAny_bind (wpAny_pure (wpAny_bind (wpAny_pure (wpAny_bind (pairs_same (knd := tupleKind (mixKind X.prog X.w)) n1 n2 (tupleKind_room_in1 hu) d1 d2 (fun _ => finds_of r2 h2 r1 h1) ?_)))))
  refine wpAny_pure ⟨_, rfl, ?_, ?_⟩
  · exact fun x => nomatch x
  · rw [hl]
    exact fin_bl I q (by simp)
theorem op_ne_T (hu : X.A.units + 1 < cLine) : OpR X (compareOp .NotEq) rNeT := by
  intro pins s σ H x y v u Q I rx ry h
  obtain ⟨a, b, ks, ls, rfl, rfl, ea, eb, h1, h2, q⟩ := h
  cases rx
  cases ry
  obtain ⟨z1, n1, xs, r1, d1⟩ := dt_rd I.hok ea
  obtain ⟨z2, n2, ys, r2, d2⟩ := dt_rd I.hok eb
  have t1 : s.TypeIs (.ref a) "dict" := let ⟨o, _, _, ho, hx, _⟩ := d1; ⟨o, ho, hx.1⟩
  have t2 : s.TypeIs (.ref b) "dict" := let ⟨o, _, _, ho, hx, _⟩ := d2; ⟨o, ho, hx.1⟩
  have hl : (xs.length == ys.length && ks.all fun p => decide (valV ls p.1 = some p.2)) = sameT ks ls := by
    unfold sameT
    rw [Paired.length r1, Paired.length r2]
  refine wpAny_richCompare_same_room (op := .NotEq) t1 t2 PySem.F.slot_dict_ne (wpAny_call_entry PySem.F.slot_dict_ne t1 PySem.F.entry_dict_ne ?_ (PySem.F.args_dict_ne_2 _ _)) (by omega)
  show wpAny _ _ (Builtin.Dict.dictSlotArgs "__ne__" ⟨[.ref a, .ref b], []⟩ >>= _) _ _ s
  unfold Builtin.Dict.dictSlotArgs
  refine wpAny_bind (wpAny_bind (wpAny_notOrdered_dict t1 ?_))
  show wpAny _ _ (pure (Value.ref a, Value.ref b)) _ _ s
  refine wpAny_pure (wpAny_bind (wpAny_isInstance (T := "dict") t2 PySem.F.sub_dict_dict ?_))
  simp only [Bool.not_true, Bool.false_eq_true, if_false]
  refine wpAny_bind (wpAny_pure (wpAny_bind (wpAny_pure (wpAny_bind (pairs_same (knd := tupleKind (mixKind X.prog X.w)) n1 n2 (tupleKind_room_in1 hu) d1 d2 (fun _ => finds_of r2 h2 r1 h1) ?_)))))
  refine wpAny_pure ⟨_, rfl, ?_, ?_⟩
  · exact fun x => nomatch x
  · rw [hl]
    exact fin_bl I q (by simp)
end
end ClX
end

section
set_option maxRecDepth 100000
set_option maxHeartbeats 4000000
/-! repr of data with dicts, keys texts, ints or rows. -/
namespace L2
open PySem PySem.Spec PyProof.Rows
def keyD : Key → PyData
  | .inl i => .int i
  | .inr x => .str x
mutual
/-- data at any depth, dicts too -/
inductive Dr (b : Prop) (K : PySem.W.Frag) (H : Hp) : V → PyData → Prop
  | non : Dr b K H .non .none
  | bl (c : Bool) : Dr b K H (.bl c) (.bool c)
  | int (i : Int) : Dr b K H (.int i) (.int i)
  | str (x : Str) : Dr b K H (.str x) (.str x)
  | lst {a : Addr} {xs : List V} {ds : List PyData} : H a = some (.lst xs) → (b → a ≠ sysModules) → DrAll b K H xs ds → Dr b K H (.ref a) (.list ds)
  | tup {a : Addr} {xs : List V} {ds : List PyData} : H a = some (.tup xs) → DrAll b K H xs ds → Dr b K H (.ref a) (.tuple ds)
  | dctT {a : Addr} {kvs : List (List Key × V)} {ds : List (PyData × PyData)} : H a = some (.dT kvs) → DrKt b K H kvs ds → Dr b K H (.ref a) (.dict ds)
  | dct {a : Addr} {kvs : List (Key × V)} {ds : List (PyData × PyData)} : H a = some (.dK kvs) → DrKv b K H kvs ds → Dr b K H (.ref a) (.dict ds)
inductive DrAll (b : Prop) (K : PySem.W.Frag) (H : Hp) : List V → List PyData → Prop
  | nil : DrAll b K H [] []
  | cons {v : V} {vs : List V} {d : PyData} {ds : List PyData} : Dr b K H v d → DrAll b K H vs ds → DrAll b K H (v :: vs) (d :: ds)
inductive DrKv (b : Prop) (K : PySem.W.Frag) (H : Hp) : List (Key × V) → List (PyData × PyData) → Prop
  | nil : DrKv b K H [] []
  | cons {k : Key} {v : V} {vs : List (Key × V)} {d : PyData} {ds : List (PyData × PyData)} : Dr b K H v d → DrKv b K H vs ds → DrKv b K H ((k, v) :: vs) ((keyD k, d) :: ds)
inductive DrKt (b : Prop) (K : PySem.W.Frag) (H : Hp) : List (List Key × V) → List (PyData × PyData) → Prop
  | nil : DrKt b K H [] []
  | cons {k : List Key} {v : V} {vs : List (List Key × V)} {d : PyData} {ds : List (PyData × PyData)} : Dr b K H v d → DrKt b K H vs ds → DrKt b K H ((k, v) :: vs) ((.tuple (k.map keyD), d) :: ds)
end
mutual
theorem Dr.same {b : Prop} {K : PySem.W.Frag} {H H' : Hp} (S : Same H H') : ∀ {v : V} {d : PyData}, Dr b K H v d → Dr b K H' v d
  | _, _, .non => .non
  | _, _, .bl c => .bl c
  | _, _, .int i => .int i
  | _, _, .str x => .str x
  | _, _, .lst h n r => .lst (S _ _ h) n (DrAll.same S r)
  | _, _, .tup h r => .tup (S _ _ h) (DrAll.same S r)
  | _, _, .dct h r => .dct (S _ _ h) (DrKv.same S r)
  | _, _, .dctT h r => .dctT (S _ _ h) (DrKt.same S r)
theorem DrAll.same {b : Prop} {K : PySem.W.Frag} {H H' : Hp} (S : Same H H') : ∀ {v : List V} {d : List PyData}, DrAll b K H v d → DrAll b K H' v d
  | _, _, .nil => .nil
  | _, _, .cons h r => .cons (Dr.same S h) (DrAll.same S r)
theorem DrKv.same {b : Prop} {K : PySem.W.Frag} {H H' : Hp} (S : Same H H') : ∀ {v : List (Key × V)} {d : List (PyData × PyData)}, DrKv b K H v d → DrKv b K H' v d
  | _, _, .nil => .nil
  | _, _, .cons h r => .cons (Dr.same S h) (DrKv.same S r)
theorem DrKt.same {b : Prop} {K : PySem.W.Frag} {H H' : Hp} (S : Same H H') : ∀ {v : List (List Key × V)} {d : List (PyData × PyData)}, DrKt b K H v d → DrKt b K H' v d
  | _, _, .nil => .nil
  | _, _, .cons h r => .cons (Dr.same S h) (DrKt.same S r)
end
section
variable {X : Cx} {pins : List (Addr × Obj)} {σ : St} {H : Hp} {s : Shared}
theorem keys_read {P : Program} {w : World} {h : Heap} : ∀ {ks : List Key} {us : List Value}, Vals (ks.map kV) us → ReadsAll h us (ks.map keyD) []
  | [], us, r => by cases r; exact ReadsAll.nil
  | .inl i :: ks, us, r => by
    cases r with
    | cons r1 r2 =>
      obtain ⟨t, rfl⟩ := r1
      exact ReadsAll.cons (as := []) (Reads.int i t) (keys_read (P := P) (w := w) r2)
  | .inr x :: ks, us, r => by
    cases r with
    | cons r1 r2 =>
      obtain ⟨t, rfl⟩ := r1
      exact ReadsAll.cons (as := []) (Reads.str x t) (keys_read (P := P) (w := w) r2)
theorem row_read {P : Program} {w : World} {H : Hp} {h : Heap} {q : Addr} {ks : List Key} (ok : HOk P w H h) (e : H q = some (.tup (ks.map kV))) : Reads h (.ref q) (.tuple (ks.map keyD)) [] := by
  obtain ⟨_, its, r, o, ho, hc, n, hd⟩ := (show ObjOk P w H h q (.tup (ks.map kV)) from ok q _ e)
  exact Reads.tuple ho hc hd (by simpa using keys_read (P := P) (w := w) r)
mutual
theorem Dr.reads {b : Prop} (I : Inv X pins σ H s) : ∀ {v : V} {d : PyData} (u : Value), Dr b X.K H v d → RelV v u → ∃ as, Reads s.heap u d as ∧ (b → sysModules ∉ as)
  | _, _, _, .non, r => by
    cases r
    exact ⟨_, Reads.none, by simp⟩
  | _, _, _, .bl c, r => by
    cases r
    exact ⟨_, Reads.bool c, by simp⟩
  | _, _, _, .int i, r => by
    obtain ⟨t, rfl⟩ := r
    exact ⟨_, Reads.int i t, by simp⟩
  | _, _, _, .str x, r => by
    obtain ⟨t, rfl⟩ := r
    exact ⟨_, Reads.str x t, by simp⟩
  | _, _, _, .lst hs hna ha, r => by
      cases r
      obtain ⟨its, rv, ⟨o, n, ho, hc, _, hd⟩, _⟩ := I.list (SqL.of hs)
      obtain ⟨as, hr, hn⟩ := DrAll.reads I its ha rv
      refine ⟨_, Reads.list ho hc hd hr, ?_⟩
      intro hb hm
      rcases List.mem_cons.mp hm with e | e
      · exact hna hb e.symm
      · exact hn hb e
  | _, _, _, .tup hs ha, r => by
      cases r
      obtain ⟨its, rv, ⟨o, ho, hc, n, hd⟩, _⟩ := I.tuple (SqT.of hs)
      obtain ⟨as, hr, hn⟩ := DrAll.reads I its ha rv
      exact ⟨_, Reads.tuple ho hc hd hr, hn⟩
  | _, _, _, .dct hs ha, r => by
      cases r
      obtain ⟨_, hm, vs, kv, o, es, ep, ho, hx, hd, hk, hp, _⟩ := dk_of I.hok hs
      obtain ⟨as, bs, h1, h2, n1, n2⟩ := DrKv.reads I vs es.toList ha kv hp
      refine ⟨_, Reads.dict ho hx.1 hd h1 h2, ?_⟩
      intro hb hmem
      rcases List.mem_append.mp hmem with e | e
      · rcases List.mem_cons.mp e with e | e
        · rw [e] at hm
          simp at hm
        · exact n1 hb e
      · exact n2 hb e
  | _, _, _, .dctT hs ha, r => by
      cases r
      obtain ⟨_, hm, xs, rk, o, es, ep, ho, hx, hd, he, _, _⟩ := dt_of I.hok hs
      obtain ⟨as, bs, h1, h2, n1, n2⟩ := DrKt.reads I xs ha rk
      rw [← he] at h1 h2
      refine ⟨_, Reads.dict ho hx.1 hd h1 h2, ?_⟩
      intro hb hmem
      rcases List.mem_append.mp hmem with e | e
      · rcases List.mem_cons.mp e with e | e
        · rw [e] at hm
          simp at hm
        · exact n1 hb e
      · exact n2 hb e
theorem DrAll.reads {b : Prop} (I : Inv X pins σ H s) : ∀ {v : List V} {d : List PyData} (us : List Value), DrAll b X.K H v d → Vals v us → ∃ as, ReadsAll s.heap us d as ∧ (b → sysModules ∉ as)
  | _, _, _, .nil, r => by
    cases r
    exact ⟨_, ReadsAll.nil, by simp⟩
  | _, _, _, .cons h1 h2, r => by
      cases r with
      | cons r1 r2 =>
        obtain ⟨as, q1, n1⟩ := Dr.reads I _ h1 r1
        obtain ⟨bs, q2, n2⟩ := DrAll.reads I _ h2 r2
        exact ⟨_, ReadsAll.cons q1 q2, fun hb hm => (List.mem_append.mp hm).elim (n1 hb) (n2 hb)⟩
theorem DrKv.reads {b : Prop} (I : Inv X pins σ H s) : ∀ {v : List (Key × V)} {d : List (PyData × PyData)} (ws : List (Key × Value)) (es : List DictEntry), DrKv b X.K H v d → KV v ws → Pairs (mixKind X.prog X.w) es ws →
    ∃ as bs, ReadsAll s.heap (es.map (·.key)) (d.map (·.1)) as ∧ ReadsAll s.heap (es.map (·.val)) (d.map (·.2)) bs ∧ (b → sysModules ∉ as) ∧ (b → sysModules ∉ bs)
  | _, _, _, _, .nil, kv, hp => by
    cases kv
    cases hp
    exact ⟨_, _, ReadsAll.nil, ReadsAll.nil, by simp, by simp⟩
  | _, _, _, _, .cons (k := k) h1 h2, kv, hp => by
      cases kv with
      | cons r1 r2 =>
        cases hp with
        | @cons e w es ws hk hv hp =>
          obtain ⟨e1, r1⟩ := r1
          obtain ⟨as, q1, n1⟩ := Dr.reads I _ h1 r1
          obtain ⟨cs, bs, q2, q3, n2, n3⟩ := DrKv.reads I _ _ h2 r2 hp
          have hk2 : keyIs k e.key = true := by
            have := hk
            rw [← e1] at this
            exact this
          have rk : Reads s.heap e.key (keyD k) [] := by
            rcases keyIs_shape hk2 with ⟨i, t, rfl, e2⟩ | ⟨x, t, rfl, e2⟩
            · rw [e2]; exact Reads.int i t
            · rw [e2]; exact Reads.str x t
          refine ⟨[] ++ cs, as ++ bs, ReadsAll.cons rk q2, ReadsAll.cons (by show Reads s.heap e.val _ _; rw [hv]; exact q1) q3, by simpa using n2, fun hb hm => (List.mem_append.mp hm).elim (n1 hb) (n3 hb)⟩
theorem DrKt.reads {b : Prop} (I : Inv X pins σ H s) : ∀ {v : List (List Key × V)} {d : List (PyData × PyData)} (xs : List (List Key × Addr × Value)), DrKt b X.K H v d → KT H v xs →
    ∃ as bs, ReadsAll s.heap ((xs.map (entryOfKey (tupleKind (mixKind X.prog X.w)))).map (·.key)) (d.map (·.1)) as ∧ ReadsAll s.heap ((xs.map (entryOfKey (tupleKind (mixKind X.prog X.w)))).map (·.val)) (d.map (·.2)) bs ∧ (b → sysModules ∉ as) ∧ (b → sysModules ∉ bs)
  | _, _, _, .nil, kt => by
    cases kt
    exact ⟨_, _, ReadsAll.nil, ReadsAll.nil, by simp, by simp⟩
  | _, _, _, .cons (k := k) h1 h2, kt => by
      cases kt with
      | cons r1 r2 =>
        obtain ⟨e1, e2, r1⟩ := r1
        obtain ⟨as, q1, n1⟩ := Dr.reads I _ h1 r1
        obtain ⟨cs, bs, q2, q3, n2, n3⟩ := DrKt.reads I _ h2 r2
        exact ⟨[] ++ cs, as ++ bs, ReadsAll.cons (row_read I.hok e2) q2, ReadsAll.cons q1 q3, by simpa using n2, fun hb hm => (List.mem_append.mp hm).elim (n1 hb) (n3 hb)⟩
end
end
section
variable {X : Cx}
/-- repr(e), e a list -/
def rRepR (K : PySem.W.Frag) : List V → Hp → VK → Prop := fun xs H Q => ∃ (a : Addr) (d : PyData) (b : Prop), xs = [.ref a] ∧ Dr b K H (.ref a) d ∧ (d.hasDict = true → b) ∧ d.showable = true ∧ d.depth ≤ 20 ∧ d.shown.length ≤ sizeLine ∧ Q (.str d.shown) H
theorem call_reprR (hg : X.A.guards = some []) (hu : X.A.units + 64 < cLine) : CallR X (.builtin "repr") (rRepR X.K) := by
  intro pins s σ H xs us Q I r h
  obtain ⟨a, d, b, rfl, hd, hS, hs, hdp, hz, q⟩ := h
  obtain ⟨u, rfl, ru⟩ := vals1 r
  cases ru
  obtain ⟨as, hr, hn⟩ := Dr.reads I _ hd rfl
  exact repr_of_reads' hr hs (fun z => hn (hS z)) hg (by omega) (fun _ _ e => e) (fun h' u tk k => ⟨.str _, H, I.kept (t' := tk) k, ⟨u, rfl⟩, q⟩) hz
end
end L2
end

section
set_option maxRecDepth 100000
set_option maxHeartbeats 1000000
namespace P2
open PySem L2
def top (i : Nat) : Stmt := PySem.Challenge.pw_unswayed_k02_polynomials_put_together.main.body.getD i (.Pass ⟨0, 0, 0, 0⟩)
/-- a def whose exceptions are told -/
theorem okX {P : Program} {w : World} {K : PySem.W.Frag} {mg : Str → Option Value} {base : Heap} {x qual : Str} {st : Stmt} {f : Addr} {fd : FuncData} {N ps : List Str} {k : Nat} {sp : Sp} (F : Fun K x qual st f fd) (S : FnScope N ps (defScope st)) (len : ∀ vs H Q E, sp vs H Q E → vs.length = ps.length)
    (hbody : ∀ (cdv : Value) (A : Around) (outer : List Env) (s : Shared) (H : Hp) (vs : List V) (Q : VK) (E : XK), Room k (A.deeper (PyProof.Rows.envOfC qual (defScope st) s.heap.objs.size f cdv)) → sp vs H Q E →
      ∃ t, PSs (cxOf (L2.CX P w) P w K mg base N qual (defScope st) f cdv A outer s H E) (defBody st) t ∧ t { nx := fun _ H' => Q .non H', rt := Q } (start N vs) H) : FnOk P w K mg base (L2.CX P w) (k + 1) f fd ps sp := by
  obtain ⟨oc, od, kV, doc, pm, an, cdv, ct, osl, rfl, lk, hcd⟩ := F.ex
  exact fn_of lk hcd S len fun A outer s H vs Q E hr hsp => hbody cdv A outer s H vs Q E hr hsp
/-- the kinds of plain values -/
def kinds7 : List String := ["NoneType", "bool", "int", "str", "list", "tuple", "dict"]
theorem kk_int : ∀ n ∈ kinds7, kitB n "int" = some (decide (n = "int") || decide (n = "bool")) := by decide +kernel
theorem kk_bool : ∀ n ∈ kinds7, kitB n "bool" = some (decide (n = "bool")) := by decide +kernel
def PV (K : PySem.W.Frag) (H : Hp) (v : V) : Prop := ∃ n, n ∈ kinds7 ∧ TyX K H v (.type n)
def isI : V → Bool
  | .int _ => true
  | _ => false
theorem ty_int {K : PySem.W.Frag} {H : Hp} {v : V} {n : String} (t : TyX K H v (.type n)) (hn : n ∈ kinds7) : isI v = decide (n = "int") := by
  cases t with
  | base b => cases b <;> first | rfl | (simp [isI] <;> decide)
  | byt b => simp [kinds7] at hn
  | set e => simp [kinds7] at hn
  | _ => rfl
def primes : List Int := [2, 3, 5, 7, 11, 13, 17, 19, 23, 29, 31, 37, 41, 43, 47, 53, 59, 61, 67, 71, 73, 79, 83, 89, 97]
/-- the names of the top -/
structure Tx (K : PySem.W.Frag) (mg : Str → Option Value) (bp : Addr) : Prop where
  isi : mg "isinstance" = none
  int : mg "int" = none
  bool : mg "bool" = none
  list : mg "list" = none
  tuple : mg "tuple" = none
  dict : mg "dict" = none
  len : mg "len" = none
  all : mg "all" = none
  any : mg "any" = none
  sum : mg "sum" = none
  max : mg "max" = none
  sorted : mg "sorted" = none
  range : mg "range" = none
  enum : mg "enumerate" = none
  repr : mg "repr" = none
  zip : mg "zip" = none
  primes : ∃ a, mg "PRIMES" = some (.ref a) ∧ ∀ H, SqT K H a (primes.map V.int)
  gbp : mg "BadPrime" = some (.ref bp)
  xbp : PySem.W.excIn K bp [.type "ValueError", .type "Exception", .type "BaseException", .type "object"] "ValueError.__new__" = true
  kbp : PySem.W.keepIn K (.ref bp) = true
  cbp : ExcC K bp
section
variable {P : Program} {w : World} {K : PySem.W.Frag} {mg : Str → Option Value} {base : Heap} {bp : Addr}
def spIsNum (K : PySem.W.Frag) : Sp := fun vs H Q _ => ∃ v, vs = [v] ∧ PV K H v ∧ Q (.bl (isI v)) H
theorem sc8 : FnScope ["thing"] ["thing"] (defScope (top 8)) := ⟨rfl, rfl, rfl, by decide +kernel, rfl, by decide +kernel, by decide +kernel⟩
theorem ok_isnum {f : Addr} {fd : FuncData} (F : Fun K "is_number" "is_number" (top 8) f fd) (T : Tx K mg bp) : FnOk P w K mg base CX0 1 f fd ["thing"] (spIsNum K) := by
  refine F.ok sc8 (fun vs H Q E h => ?_) (fun cdv A outer s H vs Q E hr h => ?_)
  · obtain ⟨v, rfl, _⟩ := h
    rfl
  · obtain ⟨v, rfl, ⟨n, hn, t⟩, k⟩ := h
    refine ⟨_, pss_one (ps_ret (pe_and (pe_callB (r := rIsi K) call_isi (by rfl) T.isi (by decide +kernel) (pa_cons (pv 0) (pa_cons (pe_bltn (v := .ty "int") (by rfl) T.int (by decide +kernel) rfl) pa_nil)))
      (pe_one (pe_not (pe_callB (r := rIsi K) call_isi (by rfl) T.isi (by decide +kernel) (pa_cons (pv 0) (pa_cons (pe_bltn (v := .ty "bool") (by rfl) T.bool (by decide +kernel) rfl) pa_nil))))))), ?_⟩
    rw [ty_int t hn] at k
    refine ⟨v, rfl, v, .ty "int", .type n, .type "int", _, rfl, .ty _, t, kit_ty (kk_int n hn), _, rfl, ite2 (fun h1 => ?_) fun h1 => ?_⟩
    · refine ⟨v, rfl, v, .ty "bool", .type n, .type "bool", _, rfl, .ty _, t, kit_ty (kk_bool n hn), _, rfl, ?_⟩
      have e : decide (n = "int") = !decide (n = "bool") := by
        by_cases h2 : n = "int"
        · subst h2
          decide +kernel
        · rw [decide_eq_false h2, Bool.false_or] at h1
          rw [decide_eq_false h2, h1]
          rfl
      rw [← e]
      exact k
    · have e : decide (n = "int") = false := by
        cases hd : decide (n = "int") with
        | false => rfl
        | true => rw [hd] at h1; exact absurd rfl h1
      rw [e] at k
      exact k
theorem inV_int (i : Int) : ∀ l : List Int, inV (.int i) (l.map V.int) = decide (i ∈ l)
  | [] => by simp [inV]
  | x :: l => by
    have ih := inV_int i l
    unfold inV at ih ⊢
    rw [List.map_cons, List.any_cons, ih]
    show ((x == i) || decide (i ∈ l)) = _
    by_cases h : x = i
    · subst h
      simp
    · rw [beq_eq_false_iff_ne.mpr h, Bool.false_or]
      have e : (i ∈ x :: l) ↔ i ∈ l := by simp [Ne.symm h]
      exact (decide_eq_decide.mpr e).symm
/-- a value is an int from a to b -/
def inB (v : V) (a b : Int) : Bool := match v with
  | .int i => decide (a ≤ i) && decide (i ≤ b)
  | _ => false
theorem isI_some {v : V} (h : isI v = true) : ∃ i, v = .int i := by
  cases v <;> first | exact ⟨_, rfl⟩ | cases h
def spWithin (K : PySem.W.Frag) : Sp := fun vs H Q _ => ∃ v a b, vs = [v, .int a, .int b] ∧ PV K H v ∧ Q (.bl (inB v a b)) H
theorem sc9 : FnScope ["thing", "least", "most"] ["thing", "least", "most"] (defScope (top 9)) := ⟨rfl, rfl, rfl, by decide +kernel, rfl, by decide +kernel, by decide +kernel⟩
theorem ok_within {f fN : Addr} {fd fdN : FuncData} (F : Fun K "is_within" "is_within" (top 9) f fd) (GN : FnOk P w K mg base CX0 1 fN fdN ["thing"] (spIsNum K)) (kN : PySem.W.keepIn K (.ref fN) = true) (bN : Binds K fdN ["thing"] []) (gN : mg "is_number" = some (.ref fN)) :
    FnOk P w K mg base CX0 2 f fd ["thing", "least", "most"] (spWithin K) := by
  refine F.ok sc9 (fun vs H Q E h => ?_) (fun cdv A outer s H vs Q E hr h => ?_)
  · obtain ⟨v, a, b, rfl, _⟩ := h
    rfl
  · obtain ⟨v, a, b, rfl, pv_, k⟩ := h
    refine ⟨_, pss_one (ps_ret (pe_and (pe_call GN hr rfl gN kN bN .nil pass0 (pa_cons (pv 0) pa_nil)) (pe_one (pe_chain op_le op_le (pv 1) (pv 0) (pv 2))))), ?_⟩
    refine ⟨v, rfl, v, rfl, pv_, _, rfl, ite2 (fun h1 => ?_) fun h1 => ?_⟩
    · obtain ⟨i, rfl⟩ := isI_some h1
      refine ⟨_, rfl, _, rfl, _, _, rfl, rfl, _, rfl, ite2 (fun h2 => ?_) fun h2 => ?_⟩
      · refine ⟨_, rfl, _, _, rfl, rfl, ?_⟩
        have e : inB (.int i) a b = decide (i ≤ b) := by
          show (decide (a ≤ i) && decide (i ≤ b)) = _
          rw [h2, Bool.true_and]
        rw [e] at k
        exact k
      · have e : inB (.int i) a b = false := by
          show (decide (a ≤ i) && decide (i ≤ b)) = _
          rw [Bool.eq_false_iff.mpr h2, Bool.false_and]
        rw [e] at k
        exact k
    · have e : inB v a b = false := by
        cases v <;> first | rfl | exact absurd rfl h1
      rw [e] at k
      exact k
/-- a value may be given where a list is wanted -/
def isL (n : String) : Bool := decide (n = "list") || decide (n = "tuple")
theorem kk_list : ∀ n ∈ kinds7, kitB n "list" = some (decide (n = "list")) := by decide +kernel
theorem kk_tuple : ∀ n ∈ kinds7, kitB n "tuple" = some (decide (n = "tuple")) := by decide +kernel
theorem kk_dict : ∀ n ∈ kinds7, kitB n "dict" = some (decide (n = "dict")) := by decide +kernel
def spIsList (K : PySem.W.Frag) : Sp := fun vs H Q _ => ∃ v n, vs = [v] ∧ n ∈ kinds7 ∧ TyX K H v (.type n) ∧ ∀ H', Same H H' → Q (.bl (isL n)) H'
theorem sc10 : FnScope ["thing"] ["thing"] (defScope (top 10)) := ⟨rfl, rfl, rfl, by decide +kernel, rfl, by decide +kernel, by decide +kernel⟩
theorem _root_.L2.Same.put {H H' : Hp} {D : Addr} {o : HO} (S : Same H H') (h : H D = none) : Same H (upd H' D o) := fun b u e => by
  rw [upd_ne (ne_of_none e h)]; exact S b u e
theorem _root_.L2.Same.new {H H' : Hp} {D : Addr} {o : HO} (S : Same H H') (h : H' D = none) : Same H (upd H' D o) := S.put (S.free h)
theorem tyx_same {K : PySem.W.Frag} {H H' : Hp} {v : V} {t : Value} (x : TyX K H v t) (S : Same H H') : TyX K H' v t := by
  cases x with
  | base b =>
    refine .base ?_
    cases b with
    | non => exact .non
    | bl y => exact .bl y
    | int i => exact .int i
    | str y => exact .str y
    | flt y => exact .flt y
    | lst e => exact .lst (S _ _ e)
    | frz e => exact .frz (S _ _ e)
    | tup e => exact .tup (S _ _ e)
    | dK e => exact .dK (S _ _ e)
    | dT e => exact .dT (S _ _ e)
    | ins e c a b d m => exact .ins (S _ _ e) c a b d m
  | byt b => exact .byt b
  | set e => exact .set (S _ _ e)
  | kList e c => exact .kList e c
  | kTuple e c => exact .kTuple e c
  | kDict e c => exact .kDict e c
  | fTuple e => exact .fTuple (S _ _ e)
  | fDict e => exact .fDict (S _ _ e)
theorem pv_same {K : PySem.W.Frag} {H H' : Hp} {v : V} (x : PV K H v) (S : Same H H') : PV K H' v := let ⟨n, h1, h2⟩ := x; ⟨n, h1, tyx_same h2 S⟩
theorem _root_.L2.Same.seqT {K : PySem.W.Frag} {H H' : Hp} {a : Addr} {xs : List V} (e : Same H H') (h : SqT K H a xs) : SqT K H' a xs := by
  rcases h with (h | ⟨o, h⟩) | h
  · exact .inl (.inl (e _ _ h))
  · exact .inl (.inr ⟨o, e _ _ h⟩)
  · exact .inr h
theorem tyx_new {K : PySem.W.Frag} {H : Hp} {v : V} {t : Value} {p : Addr} {o : HO} (x : TyX K H v t) (h : H p = none) : TyX K (upd H p o) v t := by
  have up : ∀ {a : Addr} {u : HO}, H a = some u → upd H p o a = some u := fun {a u} e => by rw [upd_ne (ne_of_none e h)]; exact e
  cases x with
  | base b =>
    refine .base ?_
    cases b with
    | non => exact .non
    | bl y => exact .bl y
    | int i => exact .int i
    | str y => exact .str y
    | flt y => exact .flt y
    | lst e => exact .lst (up e)
    | frz e => exact .frz (up e)
    | tup e => exact .tup (up e)
    | dK e => exact .dK (up e)
    | dT e => exact .dT (up e)
    | ins e c a b d m => exact .ins (up e) c a b d m
  | byt b => exact .byt b
  | set e => exact .set (up e)
  | kList e c => exact .kList e c
  | kTuple e c => exact .kTuple e c
  | kDict e c => exact .kDict e c
  | fTuple e => exact .fTuple (up e)
  | fDict e => exact .fDict (up e)
theorem ok_islist {f : Addr} {fd : FuncData} (F : Fun K "is_list" "is_list" (top 10) f fd) (T : Tx K mg bp) : FnOk P w K mg base CX0 1 f fd ["thing"] (spIsList K) := by
  refine F.ok sc10 (fun vs H Q E h => ?_) (fun cdv A outer s H vs Q E hr h => ?_)
  · obtain ⟨v, n, rfl, _⟩ := h
    rfl
  · obtain ⟨v, n, rfl, hn, t, k⟩ := h
    refine ⟨_, pss_one (ps_ret (pe_callB (r := rIsiT K) call_isiT (by rfl) T.isi (by decide +kernel) (pa_cons (pv 0) (pa_cons (pe_tup (pa_cons (pe_bltn (v := .ty "list") (by rfl) T.list (by decide +kernel) rfl) (pa_cons (pe_bltn (v := .ty "tuple") (by rfl) T.tuple (by decide +kernel) rfl) pa_nil))) pa_nil)))), ?_⟩
    refine ⟨v, rfl, by show 2 ≤ sizeLine; decide, fun p hp => ?_⟩
    refine ⟨v, p, _, .type n, [.type "list", .type "tuple"], isL n, rfl, upd_same, .cons (.ty _) (.cons (.ty _) .nil), tyx_new t hp, ?_, k _ ((Same.refl _).put hp)⟩
    refine kitAny_cons (kit_ty (kk_list n hn)) (fun h1 => kitAny_cons (kit_ty (kk_tuple n hn)) (fun h2 => ?_) fun h2 => ?_) fun h1 => ?_
    · unfold isL
      rw [h1, h2]
      exact kitAny_nil
    · unfold isL
      rw [h1, h2]
      rfl
    · unfold isL
      rw [h1]
      rfl
/-- a prime that is let -/
def isP (v : V) : Bool := match v with
  | .int i => decide (i ∈ primes)
  | _ => false
def spIsPrime (K : PySem.W.Frag) : Sp := fun vs H Q _ => ∃ v, vs = [v] ∧ PV K H v ∧ Q (.bl (isP v)) H
theorem sc12 : FnScope ["thing"] ["thing"] (defScope (top 12)) := ⟨rfl, rfl, rfl, by decide +kernel, rfl, by decide +kernel, by decide +kernel⟩
theorem ok_isprime {f fN : Addr} {fd fdN : FuncData} (F : Fun K "is_prime" "is_prime" (top 12) f fd) (T : Tx K mg bp) (GN : FnOk P w K mg base CX0 1 fN fdN ["thing"] (spIsNum K)) (kN : PySem.W.keepIn K (.ref fN) = true) (bN : Binds K fdN ["thing"] []) (gN : mg "is_number" = some (.ref fN)) :
    FnOk P w K mg base CX0 2 f fd ["thing"] (spIsPrime K) := by
  refine F.ok sc12 (fun vs H Q E h => ?_) (fun cdv A outer s H vs Q E hr h => ?_)
  · obtain ⟨v, rfl, _⟩ := h
    rfl
  · obtain ⟨v, rfl, pv_, k⟩ := h
    obtain ⟨aP, gP, hP⟩ := T.primes
    refine ⟨_, pss_one (ps_ret (pe_and (pe_call GN hr rfl gN kN bN .nil pass0 (pa_cons (pv 0) pa_nil)) (pe_one (pe_cmpR op_in_seq (pv 0) (pe_glob (v := .ref aP) (by rfl) gP rfl) (by rfl))))), ?_⟩
    refine ⟨v, rfl, v, rfl, pv_, _, rfl, ite2 (fun h1 => ?_) fun h1 => ?_⟩
    · obtain ⟨i, rfl⟩ := isI_some h1
      refine ⟨_, rfl, aP, _, rfl, .inr (hP _), rfl, by decide +kernel, ?_⟩
      exact (inV_int i primes) ▸ k
    · cases v <;> first | exact k | exact absurd rfl h1
def spCheckPrime (K : PySem.W.Frag) (bp : Addr) : Sp := fun vs H Q E => ∃ v, vs = [v] ∧ PV K H v ∧ (isP v = true → Q .non H) ∧ (isP v = false → E (.ref bp) none H)
theorem sc13 : FnScope ["prime"] ["prime"] (defScope (top 13)) := ⟨rfl, rfl, rfl, by decide +kernel, rfl, by decide +kernel, by decide +kernel⟩
theorem raises_exc {X : Cx} {C : Addr} (h : PySem.W.subIn X.K (.ref C) (.type "BaseException") = some true) (h2 : PySem.W.typeIn X.K (.ref C) = some (.type "type")) : Raises X (.ref C) := raises_own h h2
theorem ok_checkprime {f fN : Addr} {fd fdN : FuncData} (F : Fun K "check_prime" "check_prime" (top 13) f fd) (T : Tx K mg bp) (tbp : PySem.W.typeIn K (.ref bp) = some (.type "type")) (GN : FnOk P w K mg base CX0 2 fN fdN ["thing"] (spIsPrime K)) (kN : PySem.W.keepIn K (.ref fN) = true) (bN : Binds K fdN ["thing"] []) (gN : mg "is_prime" = some (.ref fN)) :
    FnOk P w K mg base (L2.CX P w) 3 f fd ["prime"] (spCheckPrime K bp) := by
  refine okX F sc13 (fun vs H Q E h => ?_) (fun cdv A outer s H vs Q E hr h => ?_)
  · obtain ⟨v, rfl, _⟩ := h
    rfl
  · obtain ⟨v, rfl, pv_, k1, k2⟩ := h
    refine ⟨_, pss_one (ps_if (pt_not (pt_val (pe_call GN hr rfl gN kN bN .nil pass0 (pa_cons (pv 0) pa_nil))))
      (pss_one (ps_raise rfl (takes_of rfl rfl rfl rfl) (pmk_own PySem.F.excBase_ValueError T.xbp T.gbp T.kbp (raises_own T.cbp.hs tbp) rfl))) pss_nil), ?_⟩
    refine ⟨v, rfl, v, rfl, pv_, isP v, rfl, ?_⟩
    cases hp : isP v with
    | true => exact iteF (k1 hp)
    | false => exact iteT (k2 hp)
end
end P2
end

section
set_option maxRecDepth 100000
set_option maxHeartbeats 1000000
namespace P2
open PySem L2
/-- two ways to walk, by what the heap says -/
theorem pi_or {X : Cx} {tg e : Expr} {w1 w2 : TI} (h1 : PI X tg e w1) (h2 : PI X tg e w2) : PI X tg e (fun σ H R => w1 σ H R ∨ w2 σ H R) := ⟨fun pins s σ H R I h => h.elim (h1.run pins s σ H R I) (h2.run pins s σ H R I)⟩
theorem take_succ {α β : Type} (f : α → β) {xs : List α} {i : Nat} {x : α} (h : xs[i]? = some x) : (xs.take (i + 1)).map f = (xs.take i).map f ++ [f x] := by
  rw [List.take_succ, h, List.map_append]
  rfl
theorem seq_or {K : PySem.W.Frag} {H H' : Hp} {a : Addr} {xs : List V} (S : Same H H') (h : SqL K H a xs ∨ SqT K H a xs) : SqL K H' a xs ∨ SqT K H' a xs := h.elim (fun h => .inl (S.seq h)) fun h => .inr (S.seqT h)
section
variable {P : Program} {w : World} {K : PySem.W.Frag} {mg : Str → Option Value} {base : Heap} {bp : Addr}
def spAreNum (K : PySem.W.Frag) : Sp := fun vs H Q _ => ∃ (v : V) (n : String) (m : Int) (a : Addr) (xs : List V), vs = [v, .int m] ∧ n ∈ kinds7 ∧ TyX K H v (.type n) ∧ (isL n = true → v = .ref a ∧ (SqL K H a xs ∨ SqT K H a xs) ∧ xs.length ≤ 1000 ∧ ∀ x ∈ xs, PV K H x) ∧
  ∀ H', Same H H' → Q (.bl (isL n && (decide ((xs.length : Int) = m) && xs.all isI))) H'
abbrev NA : List Str := ["thing", "many", "item"]
theorem sc11 : FnScope NA ["thing", "many"] (defScope (top 11)) := ⟨rfl, rfl, rfl, by decide +kernel, rfl, by decide +kernel, by decide +kernel⟩
theorem ok_arenum {f fN fL : Addr} {fd fdN fdL : FuncData} (F : Fun K "are_numbers" "are_numbers" (top 11) f fd) (T : Tx K mg bp) (GN : FnOk P w K mg base CX0 1 fN fdN ["thing"] (spIsNum K)) (kN : PySem.W.keepIn K (.ref fN) = true) (bN : Binds K fdN ["thing"] []) (gN : mg "is_number" = some (.ref fN))
    (GL : FnOk P w K mg base CX0 1 fL fdL ["thing"] (spIsList K)) (kL : PySem.W.keepIn K (.ref fL) = true) (bL : Binds K fdL ["thing"] []) (gL : mg "is_list" = some (.ref fL)) :
    FnOk P w K mg base CX0 2 f fd ["thing", "many"] (spAreNum K) := by
  refine F.ok sc11 (fun vs H Q E h => ?_) (fun cdv A outer s H vs Q E hr h => ?_)
  · obtain ⟨v, n, m, a, xs, rfl, _⟩ := h
    rfl
  · obtain ⟨v, n, m, a, xs, rfl, hn, t, hL, k⟩ := h
    refine ⟨_, pss_one (ps_ret (pe_and (pe_call GL hr rfl gL kL bL .nil pass0 (pa_cons (pv 0) pa_nil)) (pe_and (pe_cmpR op_eq (pe_callB call_len (by rfl) T.len (by decide +kernel) (pa_cons (pv 0) pa_nil)) (pv 1) (nomark _))
      (pe_one (pe_callB (cr_all rfl) (by rfl) T.all (by decide +kernel) (pa_cons (pe_lc (own := [("item", 2)]) (g := gName 2) (tt := tYes) rfl sc11.nd (pi_or (pi_list (pv 0)) (pi_tup (pv 0))) (blkOk_by (own := [("item", 2)]) (N := NA) (sc := defScope (top 11)) (by decide +kernel))
        (fun _ _ _ _ _ => pg_name (i := 2) sc11.nd rfl (Or.inl rfl)) (fun _ _ _ _ _ => pts_nil) (fun _ _ _ _ _ => pe_call GN hr rfl gN kN bN .nil pass0 (pa_cons (pv 2) pa_nil))) pa_nil)))))), ?_⟩
    refine ⟨v, rfl, v, n, rfl, hn, t, fun H1 S1 => ⟨_, rfl, ?_⟩⟩
    cases hl : isL n with
    | false =>
      rw [hl, Bool.false_and] at k
      exact iteF (k _ S1)
    | true =>
      rw [hl, Bool.true_and] at k
      obtain ⟨rfl, hq, hz, hx⟩ := hL hl
      have hq1 := seq_or S1 hq
      refine iteT ⟨_, rfl, _, xs.length, rfl, hq1.elim (fun h => .inl ⟨xs, h, rfl⟩) (fun h => .inr ⟨xs, h, rfl⟩), _, rfl, rfl, _, rfl, ?_⟩
      have e1 : decide (V.int ((xs.length : Nat) : Int) = V.int m) = decide ((xs.length : Int) = m) := decide_eq_decide.mpr ⟨fun z => V.int.inj z, fun z => by rw [z]⟩
      rw [e1]
      refine ite2 (fun h1 => ?_) fun h1 => ?_
      · rw [h1, Bool.true_and] at k
        have body : ∀ D, H1 D = none → (∀ i x H', xs[i]? = some x → (Same H1 H' ∧ H' D = some (.lst (((xs.take i).map isI).map V.bl))) → PV K H' x ∧ (Same H1 (upd H' D (.lst (((xs.take i).map isI).map V.bl ++ [V.bl (isI x)]))) ∧ upd H' D (.lst (((xs.take i).map isI).map V.bl ++ [V.bl (isI x)])) D = some (.lst (((xs.take (i + 1)).map isI).map V.bl)))) := by
          intro D hD i x H' hi ⟨S2, hL2⟩
          refine ⟨pv_same (pv_same (hx x (List.mem_of_getElem? hi)) S1) S2, S2.put hD, ?_⟩
          rw [upd_same, take_succ isI hi, List.map_append]
          rfl
        have hall : xs.all isI = ((xs.take xs.length).map isI).all id := by rw [List.take_length, List.all_map]; rfl
        have fin : ∀ D H', Same H1 H' ∧ H' D = some (.lst (((xs.take xs.length).map isI).map V.bl)) → ∃ (a : Addr) (bs : List Bool), [V.ref D] = [V.ref a] ∧ SqL K H' a (bs.map V.bl) ∧ Q (.bl (bs.all id)) H' := fun D H' ⟨S2, hD⟩ => ⟨D, _, rfl, SqL.of hD, by rw [← hall]; exact k _ (S1.trans S2)⟩
        rcases hq1 with hq1 | hq1
        · refine .inl ⟨_, rfl, a, rfl, ⟨_, hq1⟩, fun D hD => lc_list (K := K) (a := a) (xs := xs) (fun i H' => Same H1 H' ∧ H' D = some (.lst (((xs.take i).map isI).map V.bl))) ⟨(Same.refl _).put hD, upd_same⟩ (fun i H' _ h => h.1.seq hq1) ?_ (fun H' h => fin D H' h)⟩
          intro i x H' hi h
          obtain ⟨p1, p2⟩ := body D hD i x H' hi h
          refine ⟨rfl, _, rfl, x, rfl, p1, _, h.2, ?_, p2⟩
          rw [List.length_map, List.length_map, List.length_take]
          exact small1000 (by omega)
        · refine .inr ⟨_, rfl, a, rfl, ⟨_, hq1⟩, fun D hD => lc_tup (K := K) (a := a) (xs := xs) (fun i H' => Same H1 H' ∧ H' D = some (.lst (((xs.take i).map isI).map V.bl))) ⟨(Same.refl _).put hD, upd_same⟩ (fun i H' _ h => h.1.seqT hq1) ?_ (fun H' h => fin D H' h)⟩
          intro i x H' hi h
          obtain ⟨p1, p2⟩ := body D hD i x H' hi h
          refine ⟨rfl, _, rfl, x, rfl, p1, _, h.2, ?_, p2⟩
          rw [List.length_map, List.length_map, List.length_take]
          exact small1000 (by omega)
      · rw [Bool.eq_false_iff.mpr h1, Bool.false_and] at k
        exact k _ S1
def nn : V → Bool
  | .int i => decide (0 ≤ i)
  | _ => false
/-- what a term is -/
def termB (n : String) (xs : List V) (m : Int) (u : V) : Bool := decide (n = "tuple") && ((decide ((xs.length : Int) = m) && xs.all isI) && (xs.all nn && isI u))
def spIsTerm (K : PySem.W.Frag) : Sp := fun vs H Q _ => ∃ (v u : V) (n : String) (m : Int) (a : Addr) (xs : List V), vs = [v, u, .int m] ∧ n ∈ kinds7 ∧ TyX K H v (.type n) ∧ PV K H u ∧ (n = "tuple" → v = .ref a ∧ SqT K H a xs ∧ xs.length ≤ 1000 ∧ ∀ x ∈ xs, PV K H x) ∧
  ∀ H', Same H H' → Q (.bl (termB n xs m u)) H'
abbrev NT : List Str := ["row", "number", "wide", "exponent"]
theorem sc27 : FnScope NT ["row", "number", "wide"] (defScope (top 27)) := ⟨rfl, rfl, rfl, by decide +kernel, rfl, by decide +kernel, by decide +kernel⟩
theorem ok_isterm {f fN fA : Addr} {fd fdN fdA : FuncData} (F : Fun K "is_term" "is_term" (top 27) f fd) (T : Tx K mg bp) (GN : FnOk P w K mg base CX0 1 fN fdN ["thing"] (spIsNum K)) (kN : PySem.W.keepIn K (.ref fN) = true) (bN : Binds K fdN ["thing"] []) (gN : mg "is_number" = some (.ref fN))
    (GA : FnOk P w K mg base CX0 2 fA fdA ["thing", "many"] (spAreNum K)) (kA : PySem.W.keepIn K (.ref fA) = true) (bA : Binds K fdA ["thing", "many"] []) (gA : mg "are_numbers" = some (.ref fA)) :
    FnOk P w K mg base CX0 3 f fd ["row", "number", "wide"] (spIsTerm K) := by
  refine F.ok sc27 (fun vs H Q E h => ?_) (fun cdv A outer s H vs Q E hr h => ?_)
  · obtain ⟨v, u, n, m, a, xs, rfl, _⟩ := h
    rfl
  · obtain ⟨v, u, n, m, a, xs, rfl, hn, t, hu, hL, k⟩ := h
    have r1 : Room 1 _ := hr.mono (by decide)
    refine ⟨_, pss_one (ps_ret (pe_and (pe_callB (r := rIsi K) call_isi (by rfl) T.isi (by decide +kernel) (pa_cons (pv 0) (pa_cons (pe_bltn (v := .ty "tuple") (by rfl) T.tuple (by decide +kernel) rfl) pa_nil)))
      (pe_and (pe_call GA hr rfl gA kA bA .nil pass0 (pa_cons (pv 0) (pa_cons (pv 2) pa_nil)))
      (pe_and (pe_callB (cr_all rfl) (by rfl) T.all (by decide +kernel) (pa_cons (pe_lc (own := [("exponent", 3)]) (g := gName 3) (tt := tYes) rfl sc27.nd (pi_tup (pv 0)) (blkOk_by (own := [("exponent", 3)]) (N := NT) (sc := defScope (top 27)) (by decide +kernel))
        (fun _ _ _ _ _ => pg_name (i := 3) sc27.nd rfl (Or.inl rfl)) (fun _ _ _ _ _ => pts_nil) (fun _ _ _ _ _ => pe_cmpR op_ge (pv 3) pe_int (nomark _))) pa_nil))
      (pe_one (pe_call GN r1 rfl gN kN bN .nil pass0 (pa_cons (pv 1) pa_nil))))))), ?_⟩
    unfold termB at k
    refine ⟨v, rfl, v, .ty "tuple", .type n, .type "tuple", _, rfl, .ty _, t, kit_ty (kk_tuple n hn), _, rfl, ite2 (fun h1 => ?_) fun h1 => ?_⟩
    · obtain ⟨rfl, hq, hz, hx⟩ := hL (of_decide_eq_true h1)
      rw [h1, Bool.true_and] at k
      have en : n = "tuple" := of_decide_eq_true h1
      have eL : isL n = true := by rw [en]; decide +kernel
      refine ⟨_, rfl, _, rfl, .ref a, n, m, a, xs, rfl, hn, t, fun _ => ⟨rfl, .inr hq, hz, hx⟩, fun H1 S1 => ⟨_, rfl, ?_⟩⟩
      rw [eL, Bool.true_and]
      refine ite2 (fun h2 => ?_) fun h2 => ?_
      · rw [h2, Bool.true_and] at k
        have hints : ∀ x ∈ xs, ∃ i, x = .int i := fun x hx => isI_some (List.all_eq_true.mp (Bool.and_eq_true_iff.mp h2).2 x hx)
        refine ⟨_, rfl, a, rfl, ⟨_, S1.seqT hq⟩, fun D hD => lc_tup (K := K) (a := a) (xs := xs) (fun i H' => Same H1 H' ∧ H' D = some (.lst (((xs.take i).map nn).map V.bl))) ⟨(Same.refl _).put hD, upd_same⟩ (fun i H' _ h => h.1.seqT (S1.seqT hq)) ?_ ?_⟩
        · intro i x H' hi ⟨S2, hL2⟩
          obtain ⟨j, rfl⟩ := hints x (List.mem_of_getElem? hi)
          refine ⟨rfl, _, rfl, _, _, rfl, rfl, _, hL2, ?_, S2.put hD, ?_⟩
          · rw [List.length_map, List.length_map, List.length_take]
            exact small1000 (by omega)
          · rw [upd_same, take_succ nn hi, List.map_append]
            rfl
        · intro H' ⟨S2, hL2⟩
          refine ⟨D, _, rfl, SqL.of hL2, _, rfl, ?_⟩
          have e3 : ((xs.take xs.length).map nn).all id = xs.all nn := by rw [List.take_length, List.all_map]; rfl
          rw [e3]
          refine ite2 (fun h3 => ?_) fun h3 => ?_
          · rw [h3, Bool.true_and] at k
            exact ⟨u, rfl, u, rfl, pv_same hu (S1.trans S2), k _ (S1.trans S2)⟩
          · rw [Bool.eq_false_iff.mpr h3, Bool.false_and] at k
            exact k _ (S1.trans S2)
      · rw [Bool.eq_false_iff.mpr h2, Bool.false_and] at k
        exact k _ S1
    · rw [Bool.eq_false_iff.mpr h1, Bool.false_and] at k
      exact k _ (Same.refl _)
end
end P2
end

section
set_option maxRecDepth 100000
set_option maxHeartbeats 1000000
namespace P2
open PySem L2 ClX
/-! ### packs, reckoned -/
def packR (r : List Int) : Int := r.foldl (fun w e => w * 2 ^ 7 + e) 0
/-- exponents as rows have them -/
def Exps (r : List Int) : Prop := ∀ e ∈ r, 0 ≤ e ∧ e < 2 ^ 7
theorem packR_snoc (r : List Int) (e : Int) : packR (r ++ [e]) = packR r * 2 ^ 7 + e := by
  unfold packR
  rw [List.foldl_append]
  rfl
theorem packR_take {r : List Int} {i : Nat} {e : Int} (h : r[i]? = some e) : packR (r.take (i + 1)) = packR (r.take i) * 2 ^ 7 + e := by
  rw [List.take_succ, h]
  exact packR_snoc _ e
theorem packR_bound : ∀ {r : List Int}, Exps r → ∀ {i : Nat}, i ≤ r.length → 0 ≤ packR (r.take i) ∧ packR (r.take i) < 2 ^ (7 * i)
  | r, hr, 0, _ => by simp [packR]
  | r, hr, i + 1, hi => by
    obtain ⟨h1, h2⟩ := packR_bound hr (i := i) (by omega)
    have he : r[i]? = some r[i] := List.getElem?_eq_getElem (by omega)
    obtain ⟨e1, e2⟩ := hr r[i] (List.getElem_mem _)
    rw [packR_take he]
    have p : (2 : Int) ^ (7 * (i + 1)) = 2 ^ (7 * i) * 2 ^ 7 := by
      rw [show 7 * (i + 1) = 7 * i + 7 by omega, Int.pow_add]
    rw [p]
    generalize packR (List.take i r) = w at h1 h2 ⊢
    generalize (2 : Int) ^ (7 * i) = B at h2 ⊢
    have e2' : r[i] < 128 := e2
    show 0 ≤ w * 128 + r[i] ∧ w * 128 + r[i] < B * 128
    omega
theorem abs_lt {x : Int} {n : Nat} (h0 : 0 ≤ x) (h : x < 2 ^ n) : x.natAbs < 2 ^ n := by
  have e : ((x.natAbs : Nat) : Int) < ((2 ^ n : Nat) : Int) := by
    rw [Int.natAbs_of_nonneg h0]
    simpa using h
  exact Int.ofNat_lt.mp e
section
variable {P : Program} {w : World} {K : PySem.W.Frag} {mg : Str → Option Value} {base : Heap} {bp : Addr}
def spPackRow (K : PySem.W.Frag) : Sp := fun vs H Q _ => ∃ (a : Addr) (r : List Int), vs = [.ref a] ∧ SqT K H a (r.map V.int) ∧ Exps r ∧ r.length ≤ 1000 ∧ Q (.int (packR r)) H
abbrev NR : List Str := ["row", "whole", "exponent"]
theorem sc16 : FnScope NR ["row"] (defScope (top 16)) := ⟨rfl, rfl, rfl, by decide +kernel, rfl, by decide +kernel, by decide +kernel⟩
theorem ok_packrow {f : Addr} {fd : FuncData} (F : Fun K "pack_row" "pack_row" (top 16) f fd) : FnOk P w K mg base CX0 1 f fd ["row"] (spPackRow K) := by
  refine F.ok sc16 (fun vs H Q E h => ?_) (fun cdv A outer s H vs Q E hr h => ?_)
  · obtain ⟨a, r, rfl, _⟩ := h
    rfl
  · obtain ⟨a, r, rfl, hq, he, hz, k⟩ := h
    refine ⟨_, pss_cons (ps_set (i := 1) sc16.nd rfl (Or.inl rfl) pe_int)
      (pss_cons (ps_for PassesOwn.never rfl (pi_tup (pv 0)) (pg_name (i := 2) sc16.nd rfl (Or.inl rfl)) (pss_one (ps_set (i := 1) sc16.nd rfl (Or.inl rfl) (pe_op op_orL (pe_op op_shlW (pv 1) pe_int) (pv 2)))))
      (pss_one (ps_ret (pv 1)))), ?_⟩
    refine ⟨_, rfl, a, rfl, ⟨_, hq⟩, for_it (walk_tup (xs := r.map V.int)) (fun i σ H' => H' = H ∧ ∃ e, σ = [some (.ref a), some (.int (packR (r.take i))), e]) ⟨rfl, none, rfl⟩ (fun i σ H' _ h => h.1 ▸ hq) ?_ ?_⟩
    · rintro i x σ H1 H2 hi ⟨rfl, e, rfl⟩ ⟨rfl, hx⟩
      rw [List.getElem?_map] at hx
      rw [List.length_map] at hi
      have hri : r[i]? = some r[i] := List.getElem?_eq_getElem hi
      rw [hri] at hx
      obtain rfl := (Option.some.inj hx).symm
      obtain ⟨b1, b2⟩ := packR_bound he (i := i) (by omega)
      obtain ⟨e1, e2⟩ := he r[i] (List.getElem_mem _)
      refine ⟨_, rfl, _, _, rfl, rfl, ?_, _, rfl, packR (r.take i), r[i], 7, rfl, rfl, ⟨b1, e1, e2⟩, rfl, some (.int r[i]), ?_⟩
      · exact shl_ok (j := 7) (n := 7 * i) (abs_lt b1 b2) (by omega)
      · rw [packR_take hri]
        rfl
    · rintro σ H' ⟨rfl, e, rfl⟩
      rw [List.length_map, List.take_length]
      exact ⟨_, rfl, k⟩
/-- the row of n exponents that is packed in x -/
def unpackR (x : Int) (n : Nat) : List Int := (List.range n).map fun s => x / 2 ^ (7 * (n - 1 - s)) % 2 ^ 7
def spUnpack (K : PySem.W.Frag) : Sp := fun vs H Q _ => ∃ (x : Int) (n : Nat), vs = [.int x, .int (n : Int)] ∧ n ≤ 1000 ∧ ∀ p H', Same H H' → H p = none → H' p = some (.tup ((unpackR x n).map V.int)) → Q (.ref p) H'
abbrev NU : List Str := ["whole", "wide", "spot"]
theorem sc17 : FnScope NU ["whole", "wide"] (defScope (top 17)) := ⟨rfl, rfl, rfl, by decide +kernel, rfl, by decide +kernel, by decide +kernel⟩
theorem ok_unpack {f : Addr} {fd : FuncData} (F : Fun K "unpack_row" "unpack_row" (top 17) f fd) (T : Tx K mg bp) : FnOk P w K mg base CX0 1 f fd ["whole", "wide"] (spUnpack K) := by
  refine F.ok sc17 (fun vs H Q E h => ?_) (fun cdv A outer s H vs Q E hr h => ?_)
  · obtain ⟨x, n, rfl, _⟩ := h
    rfl
  · obtain ⟨x, n, rfl, hn, k⟩ := h
    refine ⟨_, pss_one (ps_ret (pe_callTy call_tuple_of (by rfl) T.tuple (by decide +kernel) (pa_cons (pe_lc (own := [("spot", 2)]) (g := gName 2) (tt := tYes) rfl sc17.nd (pi_range1 rfl T.range (pa_cons (pv 1) pa_nil)) (blkOk_by (own := [("spot", 2)]) (N := NU) (sc := defScope (top 17)) (by decide +kernel))
        (fun _ _ _ _ _ => pg_name (i := 2) sc17.nd rfl (Or.inl rfl)) (fun _ _ _ _ _ => pts_nil) (fun _ _ _ _ _ => pe_op op_andM (pe_op op_shrN (pv 0) (pe_op op_mul pe_int (pe_op op_sub (pe_op op_sub (pv 1) pe_int) (pv 2)))) pe_int)) pa_nil))), ?_⟩
    refine ⟨_, rfl, n, rfl, by omega, by omega, fun D hD => lc_it (walk_range (lo := 0) (n := n)) (fun i H' => Same H H' ∧ H' D = some (.lst (((List.range i).map fun s => x / 2 ^ (7 * (n - 1 - s)) % 2 ^ 7).map V.int))) ⟨(Same.refl _).put hD, upd_same⟩ (fun _ _ _ _ => trivial) ?_ ?_⟩
    · rintro i y H1 H2 hi ⟨S1, hL⟩ ⟨rfl, rfl⟩
      have e : 7 * ((n : Int) - 1 - (0 + i)) = ((7 * (n - 1 - i) : Nat) : Int) := by omega
      refine ⟨rfl, _, rfl, _, rfl, _, _, rfl, rfl, _, rfl, _, _, rfl, rfl, 7, _, rfl, rfl, .inl ⟨by decide, by decide⟩, x, 7 * (n - 1 - i), rfl, congrArg V.int e, _, 7, rfl, rfl, _, hL, ?_, S1.put hD, ?_⟩
      · rw [List.length_map, List.length_map, List.length_range]
        exact small1000 (by omega)
      · rw [upd_same, List.range_succ, List.map_append, List.map_append]
        rfl
    · intro H' ⟨S1, hL⟩
      refine ⟨D, _, rfl, .inl ⟨SqL.of hL, fun p hp => ?_⟩⟩
      exact k p _ (S1.new hp) (S1.free hp) upd_same
end
end P2
end

section
set_option maxRecDepth 100000
set_option maxHeartbeats 1000000
namespace P2
open PySem L2 ClX
/-! ### dicts as lists -/
section
variable {κ : Type} [DecidableEq κ]
def putA (m : List (κ × Int)) (k : κ) (v : Int) : List (κ × Int) := if (m.any fun p => decide (p.1 = k)) = true then m.map (fun p => if p.1 = k then (p.1, v) else p) else m ++ [(k, v)]
def getA (m : List (κ × Int)) (k : κ) : Option Int := (m.find? fun p => decide (p.1 = k)).map (·.2)
variable {μ : Type} [DecidableEq μ]
def asK (f : κ → μ) (m : List (κ × Int)) : List (μ × V) := m.map fun p => (f p.1, V.int p.2)
theorem any_asK {f : κ → μ} (hf : ∀ x y, f x = f y → x = y) (k : κ) : ∀ m : List (κ × Int), ((asK f m).any fun p => decide (p.1 = f k)) = m.any fun p => decide (p.1 = k)
  | [] => rfl
  | p :: m => by
    have e : decide (f p.1 = f k) = decide (p.1 = k) := decide_eq_decide.mpr ⟨hf _ _, fun h => by rw [h]⟩
    show (decide (f p.1 = f k) || (asK f m).any _) = _
    rw [any_asK hf k m, e]
    rfl
theorem putK_asK {f : κ → μ} (hf : ∀ x y, f x = f y → x = y) (m : List (κ × Int)) (k : κ) (v : Int) : putK (asK f m) (f k) (V.int v) = asK f (putA m k v) := by
  unfold putK putA
  rw [any_asK hf k m]
  by_cases h : (m.any fun p => decide (p.1 = k)) = true
  · rw [if_pos h, if_pos h]
    unfold asK
    rw [List.map_map, List.map_map]
    refine List.map_congr_left fun p _ => ?_
    show (if f p.1 = f k then (f p.1, V.int v) else (f p.1, V.int p.2)) = _
    by_cases e : p.1 = k
    · rw [if_pos (by rw [e])]
      show _ = (f (if p.1 = k then (p.1, v) else p).1, V.int (if p.1 = k then (p.1, v) else p).2)
      rw [if_pos e]
    · rw [if_neg fun z => e (hf _ _ z)]
      show _ = (f (if p.1 = k then (p.1, v) else p).1, V.int (if p.1 = k then (p.1, v) else p).2)
      rw [if_neg e]
  · rw [if_neg h, if_neg h]
    unfold asK
    rw [List.map_append]
    rfl
theorem valV_asK {f : κ → μ} (hf : ∀ x y, f x = f y → x = y) (k : κ) : ∀ m : List (κ × Int), valV (asK f m) (f k) = (getA m k).map V.int
  | [] => rfl
  | p :: m => by
    have ih := valV_asK hf k m
    by_cases e : p.1 = k
    · have e2 : (f p.1, V.int p.2).1 = f k := by show f p.1 = f k; rw [e]
      show valV ((f p.1, V.int p.2) :: asK f m) (f k) = _
      rw [valV_pos e2]
      simp [getA, List.find?_cons, e]
    · show valV ((f p.1, V.int p.2) :: asK f m) (f k) = _
      rw [valV_neg (fun z => e (hf _ _ z)), ih]
      simp [getA, List.find?_cons, e]
theorem putA_len (m : List (κ × Int)) (k : κ) (v : Int) : (putA m k v).length ≤ m.length + 1 := by
  unfold putA
  split
  · rw [List.length_map]
    exact Nat.le_succ _
  · simp
theorem getA_at {m : List (κ × Int)} (hn : (m.map (·.1)).Nodup) : ∀ {i : Nat} {k : κ} {v : Int}, m[i]? = some (k, v) → getA m k = some v := by
  induction m with
  | nil => intro i k v h; simp at h
  | cons p m ih =>
    intro i k v h
    rw [List.map_cons, List.nodup_cons] at hn
    cases i with
    | zero =>
      simp only [List.getElem?_cons_zero, Option.some.injEq] at h
      subst h
      simp [getA, List.find?_cons]
    | succ j =>
      simp only [List.getElem?_cons_succ] at h
      have hm : k ∈ m.map (·.1) := List.mem_map.mpr ⟨(k, v), List.mem_of_getElem? h, rfl⟩
      have ne : ¬ p.1 = k := fun e => hn.1 (e ▸ hm)
      have z := ih hn.2 h
      simpa [getA, List.find?_cons, ne] using z
/-- a dict written by a comprehension -/
def foldA {α : Type} (g : α → κ × Int) (xs : List α) : List (κ × Int) := xs.foldl (fun m x => putA m (g x).1 (g x).2) []
theorem foldA_take {α : Type} (g : α → κ × Int) {xs : List α} {i : Nat} {x : α} (h : xs[i]? = some x) : foldA g (xs.take (i + 1)) = putA (foldA g (xs.take i)) (g x).1 (g x).2 := by
  unfold foldA
  rw [List.take_succ, h, List.foldl_append]
  rfl
theorem foldA_len {α : Type} (g : α → κ × Int) : ∀ (xs : List α) (m : List (κ × Int)), (xs.foldl (fun m x => putA m (g x).1 (g x).2) m).length ≤ m.length + xs.length
  | [], m => Nat.le_refl _
  | x :: xs, m => by
    have h1 := foldA_len g xs (putA m (g x).1 (g x).2)
    have h2 := putA_len m (g x).1 (g x).2
    show (xs.foldl _ (putA m (g x).1 (g x).2)).length ≤ _
    rw [List.length_cons]
    omega
end
theorem foldA_le {κ α : Type} [DecidableEq κ] (g : α → κ × Int) (xs : List α) : (foldA g xs).length ≤ xs.length := by
  have h := foldA_len g xs []
  simpa [foldA] using h
theorem asK_len {κ μ : Type} (f : κ → μ) (m : List (κ × Int)) : (asK f m).length = m.length := List.length_map ..
theorem fold_small {κ α μ : Type} [DecidableEq κ] (f : κ → μ) (g : α → κ × Int) {xs : List α} (i : Nat) (h : xs.length ≤ 1000000) : (asK f (foldA g (xs.take i))).length < sizeLine := by
  rw [asK_len]
  have h1 := foldA_le g (xs.take i)
  have h2 : (xs.take i).length ≤ xs.length := by rw [List.length_take]; omega
  have h3 : (1000000 : Nat) < sizeLine := by decide
  omega
abbrev inlK : Int → Key := Sum.inl
abbrev rowK (r : List Int) : List Key := r.map Sum.inl
abbrev iK (m : List (Int × Int)) : List (Key × V) := asK inlK m
abbrev rK (m : List (List Int × Int)) : List (List Key × V) := asK rowK m
theorem inlK_inj : ∀ x y, inlK x = inlK y → x = y := fun _ _ h => Sum.inl.inj h
theorem rowK_inj : ∀ x y, rowK x = rowK y → x = y := fun _ _ h => (List.map_inj_right fun _ _ z => Sum.inl.inj z).mp h
theorem rowK_kV (r : List Int) : (rowK r).map kV = r.map V.int := by
  unfold rowK
  rw [List.map_map]
  rfl
theorem asK_get {κ μ : Type} {f : κ → μ} {m : List (κ × Int)} {i : Nat} {k : μ} {v : V} (h : (asK f m)[i]? = some (k, v)) : ∃ a n, m[i]? = some (a, n) ∧ k = f a ∧ v = .int n := by
  unfold asK at h
  rw [List.getElem?_map] at h
  cases e : m[i]? with
  | none => rw [e] at h; cases h
  | some p =>
    rw [e] at h
    have z := Option.some.inj h
    cases z
    exact ⟨p.1, p.2, rfl, rfl, rfl⟩
/-! ### dict comprehensions over a walk -/
section
variable {J : It} {n : Nat} {G : Hp → Prop} {Y : Nat → Hp → V → Hp → Prop}
theorem dc_it (w : Walk J n G Y) {g : TG} {tt : L2.TT} {tk tv : TE} {vs : List Nat} {σ : St} {H1 : Hp} {D : Addr} {Qd : Hp → Prop} (Pv : Nat → Hp → Prop) (h0 : Pv 0 (upd H1 D (.dK []))) (hG : ∀ i H, i ≤ n → Pv i H → G H)
    (hs : ∀ i x H H', i < n → Pv i H → Y i H x H' → g x (wipe σ vs) H' fun σ2 H2 => wipe σ2 vs = wipe σ vs ∧ tt σ2 H2 fun b H3 =>
      if b = true then tk σ2 H3 fun y H4 => tv σ2 H4 fun z H5 => ∃ kvs k, y = kV k ∧ H5 D = some (.dK kvs) ∧ kvs.length < sizeLine ∧ Pv (i + 1) (upd H5 D (.dK (putK kvs k z))) else Pv (i + 1) H3) (hd : ∀ H, Pv n H → Qd H) :
    ∃ W : Nat → Nat → Hp → Prop, (∃ m, W 0 m (upd H1 D (.dK []))) ∧ ∀ i m H, W i m H → (J.stop i H ∧ Qd H) ∨ (J.go i H ∧ ∃ Nx : Hp → Prop, (∀ H', Nx H' → ∃ m', m' < m ∧ W (i + 1) m' H') ∧ ∀ x H', J.yld i H x H' → g x (wipe σ vs) H' fun σ2 H2 => wipe σ2 vs = wipe σ vs ∧ tt σ2 H2 fun b H3 =>
        if b = true then tk σ2 H3 fun y H4 => tv σ2 H4 fun z H5 => ∃ kvs k, y = kV k ∧ H5 D = some (.dK kvs) ∧ kvs.length < sizeLine ∧ Nx (upd H5 D (.dK (putK kvs k z))) else Nx H3) := by
  refine ⟨fun i m H => m = n - i ∧ i ≤ n ∧ Pv i H, ⟨n, by simp, Nat.zero_le _, h0⟩, ?_⟩
  rintro i m H ⟨rfl, hi, p⟩
  by_cases hlt : i < n
  · exact .inr ⟨w.goes i H hlt (hG i H hi p), Pv (i + 1), fun H' p' => ⟨n - (i + 1), by omega, rfl, hlt, p'⟩, fun x H' y => hs i x H H' hlt p (w.yields i H x H' hlt (hG i H hi p) y)⟩
  · obtain rfl : i = n := by omega
    exact .inl ⟨w.stops H (hG _ H hi p), hd H p⟩
theorem dcT_it (w : Walk J n G Y) {g : TG} {tt : L2.TT} {tk tv : TE} {vs : List Nat} {σ : St} {H1 : Hp} {D : Addr} {Qd : Hp → Prop} (Pv : Nat → Hp → Prop) (h0 : Pv 0 (upd H1 D (.dT []))) (hG : ∀ i H, i ≤ n → Pv i H → G H)
    (hs : ∀ i x H H', i < n → Pv i H → Y i H x H' → g x (wipe σ vs) H' fun σ2 H2 => wipe σ2 vs = wipe σ vs ∧ tt σ2 H2 fun b H3 =>
      if b = true then tk σ2 H3 fun y H4 => tv σ2 H4 fun z H5 => ∃ H6, DPut H5 D y z H6 ∧ Pv (i + 1) H6 else Pv (i + 1) H3) (hd : ∀ H, Pv n H → Qd H) :
    ∃ W : Nat → Nat → Hp → Prop, (∃ m, W 0 m (upd H1 D (.dT []))) ∧ ∀ i m H, W i m H → (J.stop i H ∧ Qd H) ∨ (J.go i H ∧ ∃ Nx : Hp → Prop, (∀ H', Nx H' → ∃ m', m' < m ∧ W (i + 1) m' H') ∧ ∀ x H', J.yld i H x H' → g x (wipe σ vs) H' fun σ2 H2 => wipe σ2 vs = wipe σ vs ∧ tt σ2 H2 fun b H3 =>
        if b = true then tk σ2 H3 fun y H4 => tv σ2 H4 fun z H5 => ∃ H6, DPut H5 D y z H6 ∧ Nx H6 else Nx H3) := by
  refine ⟨fun i m H => m = n - i ∧ i ≤ n ∧ Pv i H, ⟨n, by simp, Nat.zero_le _, h0⟩, ?_⟩
  rintro i m H ⟨rfl, hi, p⟩
  by_cases hlt : i < n
  · exact .inr ⟨w.goes i H hlt (hG i H hi p), Pv (i + 1), fun H' p' => ⟨n - (i + 1), by omega, rfl, hlt, p'⟩, fun x H' y => hs i x H H' hlt p (w.yields i H x H' hlt (hG i H hi p) y)⟩
  · obtain rfl : i = n := by omega
    exact .inl ⟨w.stops H (hG _ H hi p), hd H p⟩
theorem walk_itemsT {d : Addr} {o : Obj} {kvs : List (List Key × V)} : Walk (Itit d o kvs) kvs.length (fun H => H d = some (.frz o (.dT kvs)))
    (fun i H x H' => ∃ (T q : Addr) (k : List Key) (v : V), kvs[i]? = some (k, v) ∧ x = .ref T ∧ H q = some (.tup (k.map kV)) ∧ H T = none ∧ H' = upd H T (.tup [.ref q, v])) :=
  ⟨fun _ _ hi q => ⟨q, hi⟩, fun _ q => ⟨q, Nat.le_refl _⟩, fun _ _ _ _ _ _ y => y⟩
theorem walk_itemsI {d : Addr} {o : Obj} {m : List (Int × Int)} : Walk (Iti d o (iK m)) m.length (fun H => H d = some (.frz o (.dK (iK m))))
    (fun i H x H' => ∃ (T : Addr) (q : Int × Int), m[i]? = some q ∧ x = .ref T ∧ H T = none ∧ H' = upd H T (.tup [.int q.1, .int q.2])) := by
  refine ⟨fun _ _ hi q => ⟨q, by rw [asK_len]; exact hi⟩, fun _ q => ⟨q, by rw [asK_len]; exact Nat.le_refl _⟩, fun i H x H' _ _ y => ?_⟩
  obtain ⟨T, k, v, h1, h2, h3, h4⟩ := y
  obtain ⟨a, n, hm, rfl, rfl⟩ := asK_get h1
  exact ⟨T, (a, n), hm, h2, h3, h4⟩
end
end P2
end

section
set_option maxRecDepth 100000
set_option maxHeartbeats 1000000
namespace P2
open PySem L2 ClX
def packOf (ts : List (List Int × Int)) : List (Int × Int) := foldA (fun p => (packR p.1, p.2)) ts
def termsOf (m : List (Int × Int)) (n : Nat) : List (List Int × Int) := foldA (fun p => (unpackR p.1 n, p.2)) m
/-- a locked dict is looked at -/
theorem lock_same {H H' : Hp} {d : Addr} {u : HO} {od : Obj} (hd : H d = some u) (S : Same (upd H d (.frz od u)) H') : Same H (upd H' d u) := fun b o e => by
  by_cases hb : b = d
  · subst hb
    rw [hd] at e
    cases e
    exact upd_same
  · rw [upd_ne hb]
    exact S _ _ (by rw [upd_ne hb]; exact e)
theorem lock_at {H' : Hp} {d p : Addr} {u o : HO} (ne : p ≠ d) (h : H' p = some o) : upd H' d u p = some o := by rw [upd_ne ne]; exact h
section
variable {P : Program} {w : World} {K : PySem.W.Frag} {mg : Str → Option Value} {base : Heap} {bp : Addr}
def spPackOf : Sp := fun vs H Q _ => ∃ (a : Addr) (ts : List (List Int × Int)), vs = [.ref a] ∧ H a = some (.dT (rK ts)) ∧ (ts.map (·.1)).Nodup ∧ (∀ p ∈ ts, Exps p.1 ∧ p.1.length ≤ 1000) ∧ ts.length ≤ 1000000 ∧
  ∀ p H', Same H H' → H p = none → H' p = some (.dK (iK (packOf ts))) → Q (.ref p) H'
abbrev NPO : List Str := ["terms", "row"]
theorem sc18 : FnScope NPO ["terms"] (defScope (top 18)) := ⟨rfl, rfl, rfl, by decide +kernel, rfl, by decide +kernel, by decide +kernel⟩
theorem ok_packof {f fR : Addr} {fd fdR : FuncData} (F : Fun K "pack_of" "pack_of" (top 18) f fd) (GR : FnOk P w K mg base CX0 1 fR fdR ["row"] (spPackRow K)) (kR : PySem.W.keepIn K (.ref fR) = true) (bR : Binds K fdR ["row"] []) (gR : mg "pack_row" = some (.ref fR)) :
    FnOk P w K mg base CX0 2 f fd ["terms"] spPackOf := by
  refine F.ok sc18 (fun vs H Q E h => ?_) (fun cdv A outer s H vs Q E hr h => ?_)
  · obtain ⟨a, ts, rfl, _⟩ := h
    rfl
  · obtain ⟨a, ts, rfl, ha, hn, he, hz, k⟩ := h
    have hu := hu_of hr
    refine ⟨_, pss_one (ps_ret (pe_lock (pe_dc (own := [("row", 1)]) (g := gName 1) (tt := tYes) rfl sc18.nd (pi_keys (pv 0)) (blkOk_by (own := [("row", 1)]) (N := NPO) (sc := defScope (top 18)) (by decide +kernel))
      (fun _ _ _ _ _ => pg_name (i := 1) sc18.nd rfl (Or.inl rfl)) (fun _ _ _ _ _ => pts_nil) (fun _ _ _ _ _ => pe_call GR hr rfl gR kR bR .nil pass0 (pa_cons (pv 1) pa_nil)) (fun _ _ _ _ _ => pe_dget hu (pv 0) (pv 1) (fun _ _ => rfl))))), ?_⟩
    refine ⟨a, _, ha, trivial, fun od => ?_⟩
    have hf : upd H a (.frz od (.dT (rK ts))) a = some (.frz od (.dT (rK ts))) := upd_same
    refine ⟨_, rfl, a, od, rfl, .inr ⟨_, hf, fun D hD => ?_⟩⟩
    have hDa : D ≠ a := fun z => by rw [z, hf] at hD; cases hD
    refine dc_it walk_keysT (fun i H' => Same (upd H a (.frz od (.dT (rK ts)))) H' ∧ H' D = some (.dK (iK (packOf (ts.take i))))) ⟨(Same.refl _).put hD, upd_same⟩ (fun i H' _ h => h.1 _ _ hf) ?_ ?_
    · rintro i x H1 H2 hi ⟨S1, hL⟩ ⟨rfl, kk, v, q, hkv, rfl, hq⟩
      obtain ⟨r, n, hts, rfl, rfl⟩ := asK_get hkv
      rw [rowK_kV] at hq
      obtain ⟨e1, e2⟩ := he _ (List.mem_of_getElem? hts)
      refine ⟨rfl, _, rfl, q, r, rfl, SqT.of hq, e1, e2, _, rfl, _, rfl, a, V.int n, rfl, .inr ⟨rK ts, rowK r, q, .inr ⟨od, S1 _ _ hf⟩, rfl, by rw [rowK_kV]; exact hq, ?_⟩, _, Sum.inl (packR r), rfl, hL, ?_, S1.put hD, ?_⟩
      · rw [valV_asK rowK_inj, getA_at hn hts]
        rfl
      · exact fold_small _ _ i hz
      · rw [upd_same, putK_asK inlK_inj]
        unfold packOf
        rw [foldA_take _ hts]
    · intro H' ⟨S1, hL⟩
      have hlen : (rK ts).length = ts.length := List.length_map ..
      rw [hlen, List.take_length] at hL
      refine ⟨S1 _ _ hf, k D _ (lock_same ha S1) ?_ (lock_at hDa hL)⟩
      rw [upd_ne hDa] at hD
      exact hD
def spTermsOf : Sp := fun vs H Q _ => ∃ (a : Addr) (m : List (Int × Int)) (n : Nat), vs = [.ref a, .int (n : Int)] ∧ H a = some (.dK (iK m)) ∧ (m.map (·.1)).Nodup ∧ n ≤ 1000 ∧ m.length ≤ 1000000 ∧
  ∀ p H', Same H H' → H p = none → H' p = some (.dT (rK (termsOf m n))) → Q (.ref p) H'
abbrev NTO : List Str := ["pack", "wide", "whole"]
theorem sc19 : FnScope NTO ["pack", "wide"] (defScope (top 19)) := ⟨rfl, rfl, rfl, by decide +kernel, rfl, by decide +kernel, by decide +kernel⟩
theorem ok_termsof {f fU : Addr} {fd fdU : FuncData} (F : Fun K "terms_of" "terms_of" (top 19) f fd) (GU : FnOk P w K mg base CX0 1 fU fdU ["whole", "wide"] (spUnpack K)) (kU : PySem.W.keepIn K (.ref fU) = true) (bU : Binds K fdU ["whole", "wide"] []) (gU : mg "unpack_row" = some (.ref fU)) :
    FnOk P w K mg base CX0 2 f fd ["pack", "wide"] spTermsOf := by
  refine F.ok sc19 (fun vs H Q E h => ?_) (fun cdv A outer s H vs Q E hr h => ?_)
  · obtain ⟨a, m, n, rfl, _⟩ := h
    rfl
  · obtain ⟨a, m, n, rfl, ha, hn, hw, hz, k⟩ := h
    have hu := hu_of hr
    refine ⟨_, pss_one (ps_ret (pe_lock (pe_dcT (own := [("whole", 2)]) (g := gName 2) (tt := tYes) (Nat.lt_of_succ_lt hu) rfl sc19.nd (pi_keys (pv 0)) (blkOk_by (own := [("whole", 2)]) (N := NTO) (sc := defScope (top 19)) (by decide +kernel))
      (fun _ _ _ _ _ => pg_name (i := 2) sc19.nd rfl (Or.inl rfl)) (fun _ _ _ _ _ => pts_nil) (fun _ _ _ _ _ => pe_call GU hr rfl gU kU bU .nil pass0 (pa_cons (pv 2) (pa_cons (pv 1) pa_nil))) (fun _ _ _ _ _ => pe_dget hu (pv 0) (pv 2) (fun _ _ => rfl))))), ?_⟩
    refine ⟨a, _, ha, trivial, fun od => ?_⟩
    have hf : upd H a (.frz od (.dK (iK m))) a = some (.frz od (.dK (iK m))) := upd_same
    refine ⟨_, rfl, a, od, rfl, .inl ⟨_, hf, fun D hD => ?_⟩⟩
    have hDa : D ≠ a := fun z => by rw [z, hf] at hD; cases hD
    refine dcT_it walk_keys (fun i H' => Same (upd H a (.frz od (.dK (iK m)))) H' ∧ H' D = some (.dT (rK (termsOf (m.take i) n)))) ⟨(Same.refl _).put hD, upd_same⟩ (fun i H' _ h => h.1 _ _ hf) ?_ ?_
    · rintro i x H1 H2 hi ⟨S1, hL⟩ ⟨rfl, kk, v, hkv, rfl⟩
      obtain ⟨r, c, hm, rfl, rfl⟩ := asK_get hkv
      refine ⟨rfl, _, rfl, _, rfl, r, n, rfl, hw, fun q H3 S3 nq hq => ?_⟩
      have hL3 := S3 _ _ hL
      refine ⟨_, rfl, _, rfl, a, V.int c, rfl, .inl ⟨iK m, inlK r, .inr ⟨od, S3 _ _ (S1 _ _ hf)⟩, rfl, ?_⟩, _, DPut.t (k := rowK (unpackR r n)) hL3 (by rw [rowK_kV]; exact hq) ?_, (S1.trans S3).put hD, ?_⟩
      · rw [valV_asK inlK_inj, getA_at hn hm]
        rfl
      · exact fold_small _ _ i hz
      · rw [upd_same, putK_asK rowK_inj]
        unfold termsOf
        rw [foldA_take _ hm]
    · intro H' ⟨S1, hL⟩
      rw [asK_len, List.take_length] at hL
      refine ⟨S1 _ _ hf, k D _ (lock_same ha S1) ?_ (lock_at hDa hL)⟩
      rw [upd_ne hDa] at hD
      exact hD
end
end P2
end

section
set_option maxRecDepth 100000
set_option maxHeartbeats 1000000
namespace P2
open PySem L2 ClX
section
variable {κ : Type} [DecidableEq κ]
/-- a dict written by a comprehension with a test -/
def foldI {α : Type} (g : α → Option (κ × Int)) (xs : List α) : List (κ × Int) := xs.foldl (fun m x => match g x with | some p => putA m p.1 p.2 | none => m) []
theorem foldI_snoc {α : Type} (g : α → Option (κ × Int)) {xs : List α} {i : Nat} {x : α} (h : xs[i]? = some x) : foldI g (xs.take (i + 1)) = match g x with | some p => putA (foldI g (xs.take i)) p.1 p.2 | none => foldI g (xs.take i) := by
  unfold foldI
  rw [List.take_succ, h, List.foldl_append]
  rfl
theorem foldI_len {α : Type} (g : α → Option (κ × Int)) : ∀ (xs : List α) (m : List (κ × Int)), (xs.foldl (fun m x => match g x with | some p => putA m p.1 p.2 | none => m) m).length ≤ m.length + xs.length
  | [], m => Nat.le_refl _
  | x :: xs, m => by
    have h1 := foldI_len g xs (match g x with | some p => putA m p.1 p.2 | none => m)
    have h2 : (match g x with | some p => putA m p.1 p.2 | none => m).length ≤ m.length + 1 := by
      cases g x with
      | none => exact Nat.le_succ _
      | some p => exact putA_len m p.1 p.2
    show (xs.foldl _ (match g x with | some p => putA m p.1 p.2 | none => m)).length ≤ _
    rw [List.length_cons]
    omega
theorem foldI_le {α : Type} (g : α → Option (κ × Int)) (xs : List α) : (foldI g xs).length ≤ xs.length := by
  have h := foldI_len g xs []
  simpa [foldI] using h
theorem foldI_small {α μ : Type} (f : κ → μ) (g : α → Option (κ × Int)) {xs : List α} (i : Nat) (h : xs.length ≤ 1000000) : (asK f (foldI g (xs.take i))).length < sizeLine := by
  rw [asK_len]
  have h1 := foldI_le g (xs.take i)
  have h2 : (xs.take i).length ≤ xs.length := by rw [List.length_take]; omega
  have h3 : (1000000 : Nat) < sizeLine := by decide
  omega
/-- one number more at a key -/
def addA (m : List (κ × Int)) (k : κ) (v : Int) : List (κ × Int) := putA m k ((getA m k).getD 0 + v)
end
/-- a test by truth -/
def tTru (K : PySem.W.Frag) (t : TE) : L2.TT := fun σ H Q => t σ H fun x H1 => ∃ k, TruV K x H1 k ∧ Q k H1
def withoutZ (p : Int) (m : List (Int × Int)) : List (Int × Int) := foldI (fun q => if q.2 % p = 0 then none else some (q.1, q.2 % p)) m
def sumP (p : Int) (one other : List (Int × Int)) : List (Int × Int) := withoutZ p (other.foldl (fun m q => addA m q.1 q.2) (foldA (fun q => (q.1, q.2)) one))
section
variable {P : Program} {w : World} {K : PySem.W.Frag} {mg : Str → Option Value} {base : Heap} {bp : Addr}
def spWithoutZ : Sp := fun vs H Q _ => ∃ (a : Addr) (m : List (Int × Int)) (p : Int), vs = [.ref a, .int p] ∧ H a = some (.dK (iK m)) ∧ 0 < p ∧ m.length ≤ 1000000 ∧ ∀ q H', Same H H' → H q = none → H' q = some (.dK (iK (withoutZ p m))) → Q (.ref q) H'
abbrev NWZ : List Str := ["pack", "prime", "whole", "number"]
theorem sc22 : FnScope NWZ ["pack", "prime"] (defScope (top 22)) := ⟨rfl, rfl, rfl, by decide +kernel, rfl, by decide +kernel, by decide +kernel⟩
theorem ok_withoutz {f : Addr} {fd : FuncData} (F : Fun K "without_zeros" "without_zeros" (top 22) f fd) : FnOk P w K mg base CX0 1 f fd ["pack", "prime"] spWithoutZ := by
  refine F.ok sc22 (fun vs H Q E h => ?_) (fun cdv A outer s H vs Q E hr h => ?_)
  · obtain ⟨a, m, p, rfl, _⟩ := h
    rfl
  · obtain ⟨a, m, p, rfl, ha, hp, hz, k⟩ := h
    refine ⟨_, pss_one (ps_ret (pe_lock (pe_dc (own := [("whole", 2), ("number", 3)]) (g := gTup K 2 (gCons (gName 2) (gCons (gName 3) gNil))) (tt := tTru K (tOp (rI (fun _ j => 0 < j) fun i j => .int (i % j)) (tVar 3) (tVar 1))) rfl sc22.nd (pi_items (pv 0)) (blkOk_by (own := [("whole", 2), ("number", 3)]) (N := NWZ) (sc := defScope (top 22)) (by decide +kernel))
      (fun _ _ _ _ _ => pg_tup rfl (pgs_cons (pg_name (i := 2) sc22.nd rfl (Or.inl rfl)) (pgs_cons (pg_name (i := 3) sc22.nd rfl (Or.inl rfl)) pgs_nil))) (fun _ _ _ _ _ => pts_one (pt_truth (pe_op op_mod (pv 3) (pv 1)) (by intro _; rfl))) (fun _ _ _ _ _ => pv 2) (fun _ _ _ _ _ => pe_op op_mod (pv 3) (pv 1))))), ?_⟩
    refine ⟨a, _, ha, trivial, fun od => ?_⟩
    have hf : upd H a (.frz od (.dK (iK m))) a = some (.frz od (.dK (iK m))) := upd_same
    refine ⟨_, rfl, a, od, _, rfl, hf, fun D hD => ?_⟩
    have hDa : D ≠ a := fun z => by rw [z, hf] at hD; cases hD
    refine dc_it walk_itemsI (fun i H' => Same (upd H a (.frz od (.dK (iK m)))) H' ∧ H' D = some (.dK (iK (withoutZ p (m.take i))))) ⟨(Same.refl _).put hD, upd_same⟩ (fun i H' _ h => h.1 _ _ hf) ?_ ?_
    · rintro i x H1 H2 hi ⟨S1, hL⟩ ⟨t, q, hm, rfl, ht, rfl⟩
      have S2 := S1.new (o := .tup [V.int q.1, V.int q.2]) ht
      have hL2 : upd H1 t (.tup [V.int q.1, V.int q.2]) D = some (.dK (iK (withoutZ p (m.take i)))) := by rw [upd_ne (ne_of_none hL ht)]; exact hL
      have hs := foldI_snoc (fun q : Int × Int => if q.2 % p = 0 then none else some (q.1, q.2 % p)) hm
      refine ⟨t, _, rfl, SqT.of upd_same, rfl, _, _, rfl, _, _, rfl, rfl, rfl, _, rfl, _, rfl, _, _, rfl, rfl, hp, _, rfl, ?_⟩
      by_cases hq : q.2 % p = 0
      · rw [if_pos hq] at hs
        rw [hq]
        refine iteF ⟨S2, ?_⟩
        rw [hL2]
        unfold withoutZ
        rw [hs]
      · rw [if_neg hq] at hs
        have hb : (q.2 % p != 0) = true := by simpa using hq
        rw [hb]
        refine iteT ⟨_, rfl, _, rfl, _, rfl, _, _, rfl, rfl, hp, _, Sum.inl q.1, rfl, hL2, foldI_small _ _ i hz, S2.put hD, ?_⟩
        rw [upd_same, putK_asK inlK_inj]
        unfold withoutZ
        rw [hs]
    · intro H' ⟨S1, hL⟩
      rw [List.take_length] at hL
      refine ⟨S1 _ _ hf, k D _ (lock_same ha S1) ?_ (lock_at hDa hL)⟩
      rw [upd_ne hDa] at hD
      exact hD
/-- y = {k: v for ..} on one line, y a local name -/
theorem ps_setDc {X : Cx} {i : Nat} {y : Str} {py : Pos} {kx vx tg iter : Expr} {ifs : List Expr} {scope : Scope} {own : List (Str × Nat)} {pos spos : Pos} {wi : TI} {g : TG} {tt : L2.TT} {tk tv : TE} (hc : X.calm = true) (hN : X.N.Nodup) (hy : X.N[i]? = some y) (hyl : X.env.scope.names.lookup y = some .local)
    (hsw : swapsWith (.DictComp kx vx [⟨tg, iter, ifs, 0⟩] scope pos) (some (.Name y py)) spos.line X.env = pure true) (hi : PI X tg iter wi) (ok : BlkOk X.N X.env.scope scope own)
    (hg : ∀ (s : Shared) (H : Hp) (C : Addr) (cl : List (Str × Addr)) (fp : List Addr), PG (X.blk s H scope (compEnvC scope cl C X.env) fp) tg g) (ht : ∀ (s : Shared) (H : Hp) (C : Addr) (cl : List (Str × Addr)) (fp : List Addr), PTs (X.blk s H scope (compEnvC scope cl C X.env) fp) ifs tt)
    (hk : ∀ (s : Shared) (H : Hp) (C : Addr) (cl : List (Str × Addr)) (fp : List Addr), PE (X.blk s H scope (compEnvC scope cl C X.env) fp) kx tk)
    (he : ∀ (s : Shared) (H : Hp) (C : Addr) (cl : List (Str × Addr)) (fp : List Addr), PE (X.blk s H scope (compEnvC scope cl C X.env) fp) vx tv) (hs : ∀ x, foldedSetIterable iter X.env x = pure x := by intro _; rfl) :
    PS X (.Assign [.Name y py] (.DictComp kx vx [⟨tg, iter, ifs, 0⟩] scope pos) spos) (tAsg (tDc wi g tt tk tv (own.map (·.2))) (gName i)) := by
  refine ⟨fun pins s σ H D I h => ?_⟩
  have h2 : tDc wi g tt tk tv (own.map (·.2)) σ H (fun x H1 => gName i x σ H1 D.nx) := h
  rw [exec_Assign_Name_used _ _ _ _ hsw]
  refine wpAny_bind (wpAny_standAt (wpAny_bind ?_))
  show wpAny _ X.A (do let _ ← comprehension (.DictComp kx vx [⟨tg, iter, ifs, 0⟩] scope pos) scope X.env (firstIterPos [⟨tg, iter, ifs, 0⟩] pos) newDict false (eval iter X.env) (some (assign (.Name y py) X.env))) _ _ s
  refine wpAny_bind (thn (dc_core (Qf := fun _ s' => SP X pins D .next s') hc hN I hi ok hg ht hk he hs h2 fun L C s' m H' J q hn fo => ?_) fun _ s' hq => wpAny_pure (wpAny_pure hq))
  obtain ⟨g0, g1, g2, g3, g4, g5⟩ := fo
  show wpAny _ _ (assign (.Name y py) X.env (.ref L)) _ _ _
  refine wpAny_assign_Name (store_ok2 (v := V.ref L) J hN hy (.inl hyl) rfl (fun s2 J2 ⟨c, sb, hc'⟩ => ?_) (.inr hyl))
  have ne : C ≠ c := hc'.elim (fun z => by rw [z]; exact g1) fun z e => g4 y c z e.symm
  exact ⟨m, hn.sameBut sb ne, fun h3 sb3 => ⟨_, H', J2.turned (t' := s2.toks) (fun b o hb e => (sb3.2 b hb).trans e) g0 g1 g3 g4 g5, q⟩⟩
theorem sw_dict {kx vx : Expr} {gs : List Comprehension} {scope : Scope} {pos py : Pos} {y : Str} {l : Nat} {env : Env} (hk : env.scope.kind = .function) (hy : env.scope.names.lookup y = some .local) (hl : (py.line == pos.line) = true)
    (ha : (scope.names.any fun (n, k) => n == y && (k == .local || k == .cell)) = false) : swapsWith (.DictComp kx vx gs scope pos) (some (.Name y py)) l env = pure true := by
  have e1 : env.kindOf y = some .local := hy
  have e2 : env.blockKind = .function := by unfold Env.blockKind; rw [hk]; rfl
  unfold swapsWith
  simp only [e2, e1, ha, Expr.pos, hl]
  rfl
/-- all but what stands at D is as it was -/
def SameX (D : Addr) (H H' : Hp) : Prop := ∀ b o, H b = some o → b ≠ D → H' b = some o
theorem getD_int {κ : Type} [DecidableEq κ] (m : List (κ × Int)) (k : κ) : ((getA m k).map V.int).getD (V.int 0) = V.int ((getA m k).getD 0) := by
  cases getA m k <;> rfl
theorem addA_len {κ : Type} [DecidableEq κ] (m : List (κ × Int)) (k : κ) (v : Int) : (addA m k v).length ≤ m.length + 1 := putA_len m k _
theorem addF_len : ∀ (l m : List (Int × Int)), (l.foldl (fun m q => addA m q.1 q.2) m).length ≤ m.length + l.length
  | [], m => Nat.le_refl _
  | q :: l, m => by
    have h2 := addF_len l (addA m q.1 q.2)
    have h3 := addA_len m q.1 q.2
    rw [List.foldl_cons, List.length_cons]
    omega
def spPackSum : Sp := fun vs H Q _ => ∃ (a b : Addr) (m1 m2 : List (Int × Int)) (p : Int), vs = [.ref a, .ref b, .int p] ∧ H a = some (.dK (iK m1)) ∧ H b = some (.dK (iK m2)) ∧ (m1.map (·.1)).Nodup ∧ (m2.map (·.1)).Nodup ∧ 0 < p ∧ m1.length + m2.length ≤ 1000000 ∧
  ∀ q H', Same H H' → H q = none → H' q = some (.dK (iK (sumP p m1 m2))) → Q (.ref q) H'
abbrev NPS : List Str := ["one", "other", "prime", "total", "whole"]
theorem sc20 : FnScope NPS ["one", "other", "prime"] (defScope (top 20)) := ⟨rfl, rfl, rfl, by decide +kernel, rfl, by decide +kernel, by decide +kernel⟩
theorem ok_packsum {f fW : Addr} {fd fdW : FuncData} (F : Fun K "pack_sum" "pack_sum" (top 20) f fd) (GW : FnOk P w K mg base CX0 1 fW fdW ["pack", "prime"] spWithoutZ) (kW : PySem.W.keepIn K (.ref fW) = true) (bW : Binds K fdW ["pack", "prime"] []) (gW : mg "without_zeros" = some (.ref fW)) :
    FnOk P w K mg base CX0 2 f fd ["one", "other", "prime"] spPackSum := by
  refine F.ok sc20 (fun vs H Q E h => ?_) (fun cdv A outer s H vs Q E hr h => ?_)
  · obtain ⟨a, b, m1, m2, p, rfl, _⟩ := h
    rfl
  · obtain ⟨a, b, m1, m2, p, rfl, ha, hb, hn1, hn2, hp, hz, k⟩ := h
    have hu := hu_of hr
    refine ⟨_, pss_cons (ps_lock (ps_setDc (i := 3) (own := [("whole", 4)]) (g := gName 4) (tt := tYes) rfl sc20.nd rfl rfl (sw_dict rfl rfl rfl (by decide +kernel)) (pi_keys (pv 0)) (blkOk_by (own := [("whole", 4)]) (N := NPS) (sc := defScope (top 20)) (by decide +kernel))
        (fun _ _ _ _ _ => pg_name (i := 4) sc20.nd rfl (Or.inl rfl)) (fun _ _ _ _ _ => pts_nil) (fun _ _ _ _ _ => pv 4) (fun _ _ _ _ _ => pe_dget hu (pv 0) (pv 4) (fun _ _ => rfl))))
      (pss_cons (ps_lock (ps_for PassesOwn.never rfl (pi_keys (pv 1)) (pg_name (i := 4) sc20.nd rfl (Or.inl rfl)) (pss_one (ps_dput hu (pv 3) (pv 4) (pe_op op_add (pe_dget2 hu (pv 3) (pv 4) pe_int ⟨rfl, rfl, rfl, rfl⟩) (pe_dget hu (pv 1) (pv 4) (fun _ _ => rfl))) rfl))))
      (pss_one (ps_ret (pe_call GW hr rfl gW kW bW .nil pass0 (pa_cons (pv 3) (pa_cons (pv 2) pa_nil)))))), ?_⟩
    refine ⟨a, _, ha, trivial, fun od => ?_⟩
    have hf : upd H a (.frz od (.dK (iK m1))) a = some (.frz od (.dK (iK m1))) := upd_same
    refine ⟨_, rfl, a, od, rfl, .inl ⟨_, hf, fun D hD => ?_⟩⟩
    have hDa : D ≠ a := fun z => by rw [z, hf] at hD; cases hD
    have hDH : H D = none := by rw [upd_ne hDa] at hD; exact hD
    refine dc_it walk_keys (fun i H' => Same (upd H a (.frz od (.dK (iK m1)))) H' ∧ H' D = some (.dK (iK (foldA (fun q => (q.1, q.2)) (m1.take i))))) ⟨(Same.refl _).put hD, upd_same⟩ (fun i H' _ h => h.1 _ _ hf) ?_ ?_
    · rintro i x H1 H2 hi ⟨S1, hL⟩ ⟨rfl, kk, v, hkv, rfl⟩
      obtain ⟨r, c, hm, rfl, rfl⟩ := asK_get hkv
      refine ⟨rfl, _, rfl, _, rfl, _, rfl, a, V.int c, rfl, .inl ⟨iK m1, inlK r, .inr ⟨od, S1 _ _ hf⟩, rfl, ?_⟩, _, Sum.inl r, rfl, hL, fold_small _ _ i (by omega), S1.put hD, ?_⟩
      · rw [valV_asK inlK_inj, getA_at hn1 hm]
        rfl
      · rw [upd_same, putK_asK inlK_inj, foldA_take _ hm]
    · intro H1 ⟨S1, hL⟩
      rw [asK_len, List.take_length] at hL
      refine ⟨S1 _ _ hf, ?_⟩
      have S2 : Same H (upd H1 a (.dK (iK m1))) := lock_same ha S1
      have hD2 := lock_at (u := .dK (iK m1)) hDa hL
      generalize upd H1 a (.dK (iK m1)) = H2 at S2 hD2
      clear hL S1 hf
      have hb2 := S2 _ _ hb
      have hDb : D ≠ b := fun z => by rw [z, hb] at hDH; cases hDH
      refine ⟨b, _, hb2, trivial, fun od2 => ?_⟩
      have hf2 : upd H2 b (.frz od2 (.dK (iK m2))) b = some (.frz od2 (.dK (iK m2))) := upd_same
      refine ⟨_, rfl, b, od2, rfl, .inl ⟨_, hf2, for_it walk_keys (fun i σ H' => (∃ e, σ = [some (.ref a), some (.ref b), some (.int p), some (.ref D), e]) ∧ SameX D (upd H2 b (.frz od2 (.dK (iK m2)))) H' ∧ H' D = some (.dK (iK ((m2.take i).foldl (fun m q => addA m q.1 q.2) (foldA (fun q => (q.1, q.2)) m1))))) ⟨⟨none, rfl⟩, fun _ _ e _ => e, by rw [upd_ne hDb]; exact hD2⟩ (fun i σ H' _ h => h.2.1 _ _ hf2 (Ne.symm hDb)) ?_ ?_⟩⟩
      · rintro i x σ H3 H4 hi ⟨⟨e, rfl⟩, S3, hL3⟩ ⟨rfl, kk, v, hkv, rfl⟩
        obtain ⟨r, c, hm, rfl, rfl⟩ := asK_get hkv
        have g1 : DGet H4 D (kV (inlK r)) (valV (iK ((m2.take i).foldl (fun m q => addA m q.1 q.2) (foldA (fun q => (q.1, q.2)) m1))) (inlK r)) := .inl ⟨_, _, .inl hL3, rfl, rfl⟩
        have g2 : DGet H4 b (kV (inlK r)) (some (V.int c)) := .inl ⟨_, _, .inr ⟨od2, S3 _ _ hf2 (Ne.symm hDb)⟩, rfl, by rw [valV_asK inlK_inj, getA_at hn2 hm]; rfl⟩
        rw [valV_asK inlK_inj] at g1
        refine ⟨_, rfl, D, rfl, .inl ⟨_, .inl hL3⟩, _, rfl, _, g1, _, rfl, _, rfl, b, V.int c, rfl, g2, _, c, getD_int _ _, rfl, _, rfl, _, rfl, D, _, rfl, DPut.k hL3 ?_, ⟨_, rfl⟩, fun z o e ne => by rw [upd_ne ne]; exact S3 z o e ne, ?_⟩
        · rw [asK_len]
          have h5 := addF_len (m2.take i) (foldA (fun q => (q.1, q.2)) m1)
          have h6 := foldA_le (fun q : Int × Int => (q.1, q.2)) m1
          have h7 : (m2.take i).length ≤ m2.length := by rw [List.length_take]; omega
          have h8 : (1000000 : Nat) < sizeLine := by decide
          omega
        · rw [upd_same, putK_asK inlK_inj, List.take_succ, hm, List.foldl_append]
          rfl
      · rintro σ H' ⟨⟨e, rfl⟩, S3, hL3⟩
        rw [asK_len, List.take_length] at hL3
        have hb3 := S3 _ _ hf2 (Ne.symm hDb)
        refine ⟨hb3, ?_⟩
        have S4 : Same H (upd H' b (.dK (iK m2))) := fun z o e => by
          by_cases hz2 : z = b
          · subst hz2
            rw [hb] at e
            cases e
            exact upd_same
          · rw [upd_ne hz2]
            exact S3 _ _ (by rw [upd_ne hz2]; exact S2 _ _ e) (fun y => by rw [y, hDH] at e; cases e)
        have hD4 := lock_at (u := .dK (iK m2)) hDb hL3
        generalize upd H' b (.dK (iK m2)) = H5 at S4 hD4
        refine ⟨_, rfl, _, rfl, D, _, p, rfl, hD4, hp, ?_, fun q H6 S6 nq hq => k q H6 (S4.trans S6) (S4.free nq) hq⟩
        have h5 := addF_len m2 (foldA (fun q => (q.1, q.2)) m1)
        have h6 := foldA_le (fun q : Int × Int => (q.1, q.2)) m1
        omega
end
end P2
end

section
set_option maxRecDepth 100000
set_option maxHeartbeats 2000000
namespace P2
open PySem L2 ClX
theorem pss_weak {X : Cx} {st : List Stmt} {t t' : TS} (h : PSs X st t) (w : ∀ D σ H, t' D σ H → t D σ H) : PSs X st t' := ⟨fun pins s σ H D I q => h.run pins s σ H D I (w D σ H q)⟩
/-- one row of a product -/
def rowP (f : Int × Int) (my m : List (Int × Int)) : List (Int × Int) := my.foldl (fun m g => addA m (g.1 + f.1) (g.2 * f.2)) m
def prodL (mx my : List (Int × Int)) : List (Int × Int) := mx.foldl (fun m f => rowP f my m) []
def prodP (p : Int) (m1 m2 : List (Int × Int)) : List (Int × Int) := withoutZ p (if m1.length < m2.length then prodL m1 m2 else prodL m2 m1)
def Small (m : List (Int × Int)) : Prop := ∀ q ∈ m, -(2 ^ 64) < q.2 ∧ q.2 < 2 ^ 64
theorem rowP_len (f : Int × Int) : ∀ (my m : List (Int × Int)), (rowP f my m).length ≤ m.length + my.length
  | [], m => Nat.le_refl _
  | g :: my, m => by
    have h1 := rowP_len f my (addA m (g.1 + f.1) (g.2 * f.2))
    have h2 := addA_len m (g.1 + f.1) (g.2 * f.2)
    show (rowP f my (addA m (g.1 + f.1) (g.2 * f.2))).length ≤ _
    rw [List.length_cons]
    omega
theorem prodF_len (my : List (Int × Int)) : ∀ (mx m : List (Int × Int)), (mx.foldl (fun m f => rowP f my m) m).length ≤ m.length + mx.length * my.length
  | [], m => by simp
  | f :: mx, m => by
    have h1 := prodF_len my mx (rowP f my m)
    have h2 := rowP_len f my m
    rw [List.foldl_cons, List.length_cons, Nat.succ_mul]
    omega
theorem prodL_len (mx my : List (Int × Int)) : (prodL mx my).length ≤ mx.length * my.length := by
  have h := prodF_len my mx []
  simpa [prodL] using h
theorem prodL_snoc {mx my : List (Int × Int)} {i : Nat} {f : Int × Int} (h : mx[i]? = some f) : prodL (mx.take (i + 1)) my = rowP f my (prodL (mx.take i) my) := by
  unfold prodL
  rw [List.take_succ, h, List.foldl_append]
  rfl
theorem rowP_snoc {f : Int × Int} {my m : List (Int × Int)} {j : Nat} {g : Int × Int} (h : my[j]? = some g) : rowP f (my.take (j + 1)) m = addA (rowP f (my.take j) m) (g.1 + f.1) (g.2 * f.2) := by
  unfold rowP
  rw [List.take_succ, h, List.foldl_append]
  rfl
theorem SameX.put {D t : Addr} {H H' : Hp} {o : HO} (S : SameX D H H') (h : H' t = none) : SameX D H (upd H' t o) := fun b u e ne => by
  have e' := S b u e ne
  rw [upd_ne (ne_of_none e' h)]
  exact e'
theorem SameX.at_D {D : Addr} {H H' : Hp} {o : HO} (S : SameX D H H') : SameX D H (upd H' D o) := fun b u e ne => by
  rw [upd_ne ne]
  exact S b u e ne
section
variable {P : Program} {w : World} {K : PySem.W.Frag} {mg : Str → Option Value} {base : Heap} {bp : Addr}
def spPackProd : Sp := fun vs H Q _ => ∃ (a b : Addr) (m1 m2 : List (Int × Int)) (p : Int), vs = [.ref a, .ref b, .int p] ∧ H a = some (.dK (iK m1)) ∧ H b = some (.dK (iK m2)) ∧ a ≠ b ∧ 0 < p ∧ Small m1 ∧ Small m2 ∧ m1.length ≤ 1000000 ∧ m2.length ≤ 1000000 ∧ m1.length * m2.length ≤ 1000000 ∧
  ∀ q H', Same H H' → H q = none → H' q = some (.dK (iK (prodP p m1 m2))) → Q (.ref q) H'
abbrev NPP : List Str := ["one", "other", "prime", "few", "many", "total", "more", "factor", "whole", "number", "key"]
theorem sc21 : FnScope NPP ["one", "other", "prime"] (defScope (top 21)) := ⟨rfl, rfl, rfl, by decide +kernel, rfl, by decide +kernel, by decide +kernel⟩
abbrev slP (a b : Addr) (p : Int) (x y : Addr) (D : Addr) (e6 e7 e8 e9 e10 : Option V) : St := [some (.ref a), some (.ref b), some (.int p), some (.ref x), some (.ref y), some (.ref D), e6, e7, e8, e9, e10]
abbrev stP (i : Nat) : Stmt := (defBody (top 21)).getD i (.Pass ⟨0, 0, 0, 0⟩)
abbrev cxP (P : Program) (w : World) (K : PySem.W.Frag) (mg : Str → Option Value) (base : Heap) (f : Addr) (cdv : Value) (A : Around) (outer : List Env) (s : Shared) (H : Hp) (E : XK) : Cx := (cxOf CX0 P w K mg base NPP "pack_product" (defScope (top 21)) f cdv A outer s H E).nox
/-- the rest of the product: few and many stand -/
def tTail : TS := fun D σ H => ∃ (a b : Addr) (p : Int) (x y : Addr) (mx my : List (Int × Int)), σ = [some (.ref a), some (.ref b), some (.int p), some (.ref x), some (.ref y), none, none, none, none, none, none] ∧ H x = some (.dK (iK mx)) ∧ H y = some (.dK (iK my)) ∧ x ≠ y ∧ 0 < p ∧ Small mx ∧
  mx.length * my.length ≤ 1000000 ∧ ∀ q H', Same H H' → H q = none → H' q = some (.dK (iK (withoutZ p (prodL mx my)))) → D.rt (.ref q) H'
theorem prod_tail {f fW : Addr} {fdW : FuncData} {cdv : Value} {A : Around} {outer : List Env} {s : Shared} {H : Hp} {E : XK} (GW : FnOk P w K mg base CX0 1 fW fdW ["pack", "prime"] spWithoutZ) (kW : PySem.W.keepIn K (.ref fW) = true) (bW : Binds K fdW ["pack", "prime"] []) (gW : mg "without_zeros" = some (.ref fW))
    (hr : Room 1 (A.deeper (PyProof.Rows.envOfC "pack_product" (defScope (top 21)) s.heap.objs.size f cdv))) : PSs (cxP P w K mg base f cdv A outer s H E) [stP 1, stP 2, stP 3] tTail := by
  have hu := hu_of hr
  refine pss_weak (pss_cons (ps_set (i := 5) sc21.nd rfl (Or.inl rfl) pe_dnewK)
      (pss_cons (ps_lock (ps_for PassesOwn.never rfl (pi_items (pv 3)) (pg_tup rfl (pgs_cons (pg_name (i := 6) sc21.nd rfl (Or.inl rfl)) (pgs_cons (pg_name (i := 7) sc21.nd rfl (Or.inl rfl)) pgs_nil)))
        (pss_one (ps_lock (ps_for PassesOwn.never rfl (pi_items (pv 4)) (pg_tup rfl (pgs_cons (pg_name (i := 8) sc21.nd rfl (Or.inl rfl)) (pgs_cons (pg_name (i := 9) sc21.nd rfl (Or.inl rfl)) pgs_nil)))
          (pss_cons (ps_set (i := 10) sc21.nd rfl (Or.inl rfl) (pe_op op_add (pv 8) (pv 6)))
          (pss_one (ps_dput hu (pv 5) (pv 10) (pe_op op_add (pe_dget2 hu (pv 5) (pv 10) pe_int ⟨rfl, rfl, rfl, rfl⟩) (pe_op op_mul (pv 9) (pv 7))) rfl))))))))
      (pss_one (ps_ret (pe_call GW hr rfl gW kW bW .nil pass0 (pa_cons (pv 5) (pa_cons (pv 2) pa_nil))))))) ?_
  rintro D σ H ⟨a, b, p, x, y, mx, my, rfl, hx, hy, hxy, hp, hsm, hz, k⟩
  refine fun T hT => ?_
  obtain ⟨H1, e1, a1, S1⟩ : ∃ H1, upd H T (.dK []) = H1 ∧ H1 T = some (.dK []) ∧ Same H H1 := ⟨_, rfl, upd_same, (Same.refl _).put hT⟩
  show ∃ d u, upd H T (.dK []) d = some u ∧ _
  rw [e1]
  have hTx : T ≠ x := fun z => by rw [z, hx] at hT; cases hT
  have hTy : T ≠ y := fun z => by rw [z, hy] at hT; cases hT
  refine ⟨x, _, S1 _ _ hx, trivial, fun od => ?_⟩
  have hf : upd H1 x (.frz od (.dK (iK mx))) x = some (.frz od (.dK (iK mx))) := upd_same
  refine ⟨_, rfl, x, od, _, rfl, hf, for_it walk_itemsI (fun i σ H' => (∃ e6 e7 e8 e9 e10, σ = slP a b p x y T e6 e7 e8 e9 e10) ∧ SameX T (upd H1 x (.frz od (.dK (iK mx)))) H' ∧ H' T = some (.dK (iK (prodL (mx.take i) my)))) ⟨⟨none, none, none, none, none, rfl⟩, fun _ _ e _ => e, by rw [upd_ne hTx]; exact a1⟩ (fun i σ H' _ h => h.2.1 _ _ hf (Ne.symm hTx)) ?_ ?_⟩
  · rintro i v σ H2 H3 hi ⟨⟨e6, e7, e8, e9, e10, rfl⟩, S2, hL2⟩ ⟨t, q, hm, rfl, ht, rfl⟩
    have S3 := S2.put (o := .tup [V.int q.1, V.int q.2]) ht
    have hL3 : upd H2 t (.tup [V.int q.1, V.int q.2]) T = some (.dK (iK (prodL (mx.take i) my))) := by rw [upd_ne (ne_of_none hL2 ht)]; exact hL2
    refine ⟨t, _, rfl, SqT.of upd_same, rfl, _, _, rfl, _, _, rfl, rfl, ?_⟩
    generalize upd H2 t (.tup [V.int q.1, V.int q.2]) = H3 at S3 hL3
    have hy3 : H3 y = some (.dK (iK my)) := S3 _ _ (by rw [upd_ne (Ne.symm hxy)]; exact S1 _ _ hy) (Ne.symm hTy)
    refine ⟨y, _, hy3, trivial, fun od2 => ?_⟩
    have hf2 : upd H3 y (.frz od2 (.dK (iK my))) y = some (.frz od2 (.dK (iK my))) := upd_same
    refine ⟨_, rfl, y, od2, _, rfl, hf2, for_it walk_itemsI (fun j σ H' => (∃ e8 e9 e10, σ = slP a b p x y T (some (.int q.1)) (some (.int q.2)) e8 e9 e10) ∧ SameX T (upd H3 y (.frz od2 (.dK (iK my)))) H' ∧ H' T = some (.dK (iK (rowP q (my.take j) (prodL (mx.take i) my))))) ⟨⟨e8, e9, e10, rfl⟩, fun _ _ e _ => e, by rw [upd_ne hTy]; exact hL3⟩ (fun j σ H' _ h => h.2.1 _ _ hf2 (Ne.symm hTy)) ?_ ?_⟩
    · rintro j v σ H4 H5 hj ⟨⟨e8, e9, e10, rfl⟩, S4, hL4⟩ ⟨t2, g, hg, rfl, ht2, rfl⟩
      have S5 := S4.put (o := .tup [V.int g.1, V.int g.2]) ht2
      have hL5 : upd H4 t2 (.tup [V.int g.1, V.int g.2]) T = some (.dK (iK (rowP q (my.take j) (prodL (mx.take i) my)))) := by rw [upd_ne (ne_of_none hL4 ht2)]; exact hL4
      refine ⟨t2, _, rfl, SqT.of upd_same, rfl, _, _, rfl, _, _, rfl, rfl, ?_⟩
      generalize upd H4 t2 (.tup [V.int g.1, V.int g.2]) = H5 at S5 hL5
      have g1 : DGet H5 T (.int (g.1 + q.1)) (valV (iK (rowP q (my.take j) (prodL (mx.take i) my))) (inlK (g.1 + q.1))) := .inl ⟨_, _, .inl hL5, rfl, rfl⟩
      rw [valV_asK inlK_inj] at g1
      refine ⟨_, rfl, _, rfl, _, _, rfl, rfl, _, rfl, T, rfl, .inl ⟨_, .inl hL5⟩, _, rfl, _, g1, _, rfl, _, rfl, g.2, q.2, rfl, rfl, ?_, _, _, getD_int _ _, rfl, _, rfl, _, rfl, T, _, rfl, DPut.k (k := inlK (g.1 + q.1)) hL5 ?_, ⟨_, _, _, rfl⟩, S5.at_D, ?_⟩
      · exact .inr (hsm _ (List.mem_of_getElem? hm))
      · rw [asK_len]
        have h1 := rowP_len q (my.take j) (prodL (mx.take i) my)
        have h2 := prodL_len (mx.take i) my
        have h3 : (mx.take i).length = i := by rw [List.length_take]; omega
        have h4 : (my.take j).length ≤ j := by rw [List.length_take]; omega
        rw [h3] at h2
        have h5 : (i + 1) * my.length ≤ mx.length * my.length := Nat.mul_le_mul_right _ hi
        rw [Nat.succ_mul] at h5
        have h6 : (1000000 : Nat) < sizeLine := by decide
        omega
      · rw [upd_same, putK_asK inlK_inj, rowP_snoc hg]
        rfl
    · rintro σ H' ⟨⟨e8, e9, e10, rfl⟩, S4, hL4⟩
      rw [List.take_length] at hL4
      refine ⟨S4 _ _ hf2 (Ne.symm hTy), ⟨_, _, _, _, _, rfl⟩, fun z o e ne => ?_, ?_⟩
      · by_cases hz2 : z = y
        · subst hz2
          rw [upd_ne (Ne.symm hxy), S1 _ _ hy] at e
          cases e
          exact upd_same
        · rw [upd_ne hz2]
          exact S4 _ _ (by rw [upd_ne hz2]; exact S3 _ _ e ne) ne
      · rw [upd_ne hTy, hL4, prodL_snoc hm]
  · rintro σ H' ⟨⟨e6, e7, e8, e9, e10, rfl⟩, S2, hL2⟩
    rw [List.take_length] at hL2
    refine ⟨S2 _ _ hf (Ne.symm hTx), ?_⟩
    have S4 : Same H (upd H' x (.dK (iK mx))) := fun z o e => by
      by_cases hz2 : z = x
      · subst hz2
        rw [hx] at e
        cases e
        exact upd_same
      · rw [upd_ne hz2]
        exact S2 _ _ (by rw [upd_ne hz2]; exact S1 _ _ e) (fun y => by rw [y, hT] at e; cases e)
    have hD4 := lock_at (u := .dK (iK mx)) hTx hL2
    generalize upd H' x (.dK (iK mx)) = H5 at S4 hD4
    refine ⟨_, rfl, _, rfl, T, _, p, rfl, hD4, hp, ?_, fun q H6 S6 nq hq => k q H6 (S4.trans S6) (S4.free nq) hq⟩
    exact Nat.le_trans (prodL_len mx my) hz
theorem ok_packprod {f fW : Addr} {fd fdW : FuncData} (F : Fun K "pack_product" "pack_product" (top 21) f fd) (T : Tx K mg bp) (GW : FnOk P w K mg base CX0 1 fW fdW ["pack", "prime"] spWithoutZ) (kW : PySem.W.keepIn K (.ref fW) = true) (bW : Binds K fdW ["pack", "prime"] []) (gW : mg "without_zeros" = some (.ref fW)) :
    FnOk P w K mg base CX0 2 f fd ["one", "other", "prime"] spPackProd := by
  refine F.ok sc21 (fun vs H Q E h => ?_) (fun cdv A outer s H vs Q E hr h => ?_)
  · obtain ⟨a, b, m1, m2, p, rfl, _⟩ := h
    rfl
  · obtain ⟨a, b, m1, m2, p, rfl, ha, hb, hab, hp, hs1, hs2, hz1, hz2, hz, k⟩ := h
    refine ⟨_, pss_cons (ps_asg (pe_ifExp (pt_cmpR op_lt (pe_callB call_lenD (by rfl) T.len PySem.boot_len (pa_cons (pv 0) pa_nil)) (pe_callB call_lenD (by rfl) T.len PySem.boot_len (pa_cons (pv 1) pa_nil)) (nomark _)) (pe_tup (pa_cons (pv 0) (pa_cons (pv 1) pa_nil))) (pe_tup (pa_cons (pv 1) (pa_cons (pv 0) pa_nil))))
        (pg_tup rfl (pgs_cons (pg_name (i := 3) sc21.nd rfl (Or.inl rfl)) (pgs_cons (pg_name (i := 4) sc21.nd rfl (Or.inl rfl)) pgs_nil))))
      (prod_tail GW kW bW gW hr), ?_⟩
    refine ⟨_, rfl, a, _, rfl, ha, _, rfl, b, _, rfl, hb, _, _, rfl, rfl, _, rfl, ?_⟩
    rw [asK_len, asK_len]
    unfold prodP at k
    refine ite2 (fun h1 => ?_) fun h1 => ?_
    · have h2 : m1.length < m2.length := by
        have := of_decide_eq_true h1
        omega
      rw [if_pos h2] at k
      refine ⟨_, rfl, _, rfl, by show 2 ≤ sizeLine; decide, fun t ht => ?_⟩
      refine ⟨t, _, rfl, SqT.of upd_same, rfl, _, _, rfl, _, _, rfl, rfl, ?_⟩
      refine ⟨a, b, p, a, b, m1, m2, rfl, ?_, ?_, hab, hp, hs1, hz, fun q H' S nq hq => k q H' (((Same.refl _).put ht).trans S) (((Same.refl _).put ht).free nq) hq⟩
      · rw [upd_ne (ne_of_none ha ht)]; exact ha
      · rw [upd_ne (ne_of_none hb ht)]; exact hb
    · have h2 : ¬ m1.length < m2.length := fun z => h1 (decide_eq_true (by omega))
      rw [if_neg h2] at k
      refine ⟨_, rfl, _, rfl, by show 2 ≤ sizeLine; decide, fun t ht => ?_⟩
      refine ⟨t, _, rfl, SqT.of upd_same, rfl, _, _, rfl, _, _, rfl, rfl, ?_⟩
      refine ⟨a, b, p, b, a, m2, m1, rfl, ?_, ?_, Ne.symm hab, hp, hs2, by rw [Nat.mul_comm]; exact hz, fun q H' S nq hq => k q H' (((Same.refl _).put ht).trans S) (((Same.refl _).put ht).free nq) hq⟩
      · rw [upd_ne (ne_of_none hb ht)]; exact hb
      · rw [upd_ne (ne_of_none ha ht)]; exact ha
end
end P2
end

section
set_option maxRecDepth 100000
set_option maxHeartbeats 2000000
namespace P2
open PySem L2 ClX
/-- so many factors f more -/
def mulN (p : Int) (f : List (Int × Int)) : Nat → List (Int × Int) → List (Int × Int)
  | 0, t => t
  | n + 1, t => mulN p f n (prodP p t f)
def frob (p : Int) (f : List (Int × Int)) : List (Int × Int) := foldA (fun q => (q.1 * p, q.2)) f
def powF (p : Int) : Nat → List (Int × Int) → List (Int × Int) → Int → List (Int × Int)
  | 0, t, _, _ => t
  | n + 1, t, f, l => if 0 < l then (if 0 < l / p then powF p n (mulN p f (l % p).toNat t) (frob p f) (l / p) else mulN p f (l % p).toNat t) else t
/-- what stands in memory stays small -/
def OkMul (p : Int) (f : List (Int × Int)) : Nat → List (Int × Int) → Prop
  | 0, _ => True
  | n + 1, t => t.length ≤ 1000000 ∧ t.length * f.length ≤ 1000000 ∧ OkMul p f n (prodP p t f)
def OkPow (p : Int) : Nat → List (Int × Int) → List (Int × Int) → Int → Prop
  | 0, _, _, _ => True
  | n + 1, t, f, l => 0 < l → OkMul p f (l % p).toNat t ∧ (0 < l / p → OkPow p n (mulN p f (l % p).toNat t) (frob p f) (l / p))
theorem small_put {m : List (Int × Int)} (h : Small m) {k v : Int} (hv : -(2 ^ 64) < v ∧ v < 2 ^ 64) : Small (putA m k v) := by
  intro q hq
  unfold putA at hq
  split at hq
  · obtain ⟨r, hr, e⟩ := List.mem_map.mp hq
    by_cases hk : r.1 = k
    · rw [if_pos hk] at e
      rw [← e]
      exact hv
    · rw [if_neg hk] at e
      rw [← e]
      exact h r hr
  · rcases List.mem_append.mp hq with z | z
    · exact h q z
    · rw [List.mem_singleton.mp z]
      exact hv
theorem small_foldA {g : Int × Int → Int × Int} (hg : ∀ q, (g q).2 = q.2) : ∀ {xs : List (Int × Int)} {m : List (Int × Int)}, Small xs → Small m → Small (xs.foldl (fun m x => putA m (g x).1 (g x).2) m)
  | [], _, _, h => h
  | x :: xs, m, hx, h => by
    have hv : -(2 ^ 64) < (g x).2 ∧ (g x).2 < 2 ^ 64 := by rw [hg]; exact hx x List.mem_cons_self
    exact small_foldA (g := g) hg (xs := xs) (m := putA m (g x).1 (g x).2) (fun q hq => hx q (List.mem_cons_of_mem _ hq)) (small_put h hv)
theorem small_frob {p : Int} {f : List (Int × Int)} (h : Small f) : Small (frob p f) := small_foldA (g := fun q => (q.1 * p, q.2)) (fun _ => rfl) h (fun _ z => nomatch z)
theorem small_fold {α : Type} {F : List (Int × Int) → α → List (Int × Int)} (hF : ∀ m x, Small m → Small (F m x)) : ∀ (xs : List α) (m : List (Int × Int)), Small m → Small (xs.foldl F m)
  | [], _, h => h
  | x :: xs, m, h => small_fold hF xs (F m x) (hF m x h)
theorem small_withoutZ {p : Int} (hp : 0 < p) (hp2 : p < 2 ^ 64) (m : List (Int × Int)) : Small (withoutZ p m) := by
  unfold withoutZ foldI
  refine small_fold (fun m x h => ?_) m [] fun _ z => nomatch z
  by_cases hx : x.2 % p = 0
  · simp only [hx, if_true]
    exact h
  · simp only [hx, if_false]
    have h1 := Int.emod_nonneg x.2 (Int.ne_of_gt hp)
    have h2 := Int.emod_lt_of_pos x.2 hp
    refine small_put h ?_
    generalize x.2 % p = r at h1 h2 ⊢
    omega
theorem small_prodP {p : Int} (hp : 0 < p) (hp2 : p < 2 ^ 64) (m1 m2 : List (Int × Int)) : Small (prodP p m1 m2) := small_withoutZ hp hp2 _
section
variable {P : Program} {w : World} {K : PySem.W.Frag} {mg : Str → Option Value} {base : Heap} {bp : Addr}
def spPackPow : Sp := fun vs H Q _ => ∃ (a : Addr) (m : List (Int × Int)) (n : Nat) (p : Int), vs = [.ref a, .int (n : Int), .int p] ∧ H a = some (.dK (iK m)) ∧ 2 ≤ p ∧ p < 1000 ∧ n ≤ 1000000 ∧ Small m ∧ m.length ≤ 1000000 ∧ OkPow p n [(0, 1)] m n ∧
  ∀ q H', Same H H' → H q = none → H' q = some (.dK (iK (powF p n [(0, 1)] m n))) → Q (.ref q) H'
abbrev NPW : List Str := ["one", "times", "prime", "total", "factor", "left", "_", "whole", "number"]
theorem sc23 : FnScope NPW ["one", "times", "prime"] (defScope (top 23)) := ⟨rfl, rfl, rfl, by decide +kernel, rfl, by decide +kernel, by decide +kernel⟩
theorem ok_packpow {f fM : Addr} {fd fdM : FuncData} (F : Fun K "pack_power" "pack_power" (top 23) f fd) (T : Tx K mg bp) (GM : FnOk P w K mg base CX0 2 fM fdM ["one", "other", "prime"] spPackProd) (kM : PySem.W.keepIn K (.ref fM) = true) (bM : Binds K fdM ["one", "other", "prime"] []) (gM : mg "pack_product" = some (.ref fM)) :
    FnOk P w K mg base CX0 3 f fd ["one", "times", "prime"] spPackPow := by
  refine F.ok sc23 (fun vs H Q E h => ?_) (fun cdv A outer s H vs Q E hr h => ?_)
  · obtain ⟨a, m, n, p, rfl, _⟩ := h
    rfl
  · obtain ⟨a, m, n, p, rfl, ha, hp, hp2, hn, hs, hz, ok, k⟩ := h
    have hu := hu_of hr
    refine ⟨_, pss_cons (ps_set (i := 3) sc23.nd rfl (Or.inl rfl) (pe_disp (pps_cons pe_int pe_int pps_nil) (by rfl) (by rfl) (fun z => by cases z) (by decide)))
      (pss_cons (ps_set (i := 4) sc23.nd rfl (Or.inl rfl) (pv 0))
      (pss_cons (ps_set (i := 5) sc23.nd rfl (Or.inl rfl) (pv 1))
      (pss_cons (ps_while PassesOwn.never (pt_cmpR op_gt (pv 5) pe_int (nomark _))
        (pss_cons (ps_for PassesOwn.never rfl (pi_range1 rfl T.range (pa_cons (pe_op op_mod (pv 5) (pv 2)) pa_nil)) (pg_name (i := 6) sc23.nd rfl (Or.inl rfl))
            (pss_one (ps_set (i := 3) sc23.nd rfl (Or.inl rfl) (pe_call GM hr rfl gM kM bM .nil pass0 (pa_cons (pv 3) (pa_cons (pv 4) (pa_cons (pv 2) pa_nil)))))))
        (pss_cons (ps_set (i := 5) sc23.nd rfl (Or.inl rfl) (pe_op op_fdiv (pv 5) (pv 2)))
        (pss_one (ps_if (pt_cmpR op_gt (pv 5) pe_int (nomark _))
          (pss_one (ps_lock (ps_setDc (i := 4) (own := [("whole", 7), ("number", 8)]) (g := gTup K 2 (gCons (gName 7) (gCons (gName 8) gNil))) (tt := tYes) rfl sc23.nd rfl rfl (sw_dict rfl rfl rfl (by decide +kernel)) (pi_items (pv 4)) (blkOk_by (own := [("whole", 7), ("number", 8)]) (N := NPW) (sc := defScope (top 23)) (by decide +kernel))
            (fun _ _ _ _ _ => pg_tup rfl (pgs_cons (pg_name (i := 7) sc23.nd rfl (Or.inl rfl)) (pgs_cons (pg_name (i := 8) sc23.nd rfl (Or.inl rfl)) pgs_nil))) (fun _ _ _ _ _ => pts_nil) (fun _ _ _ _ _ => pe_op op_mul (pv 7) (pv 2)) (fun _ _ _ _ _ => pv 8)))) pss_nil)))))
      (pss_one (ps_ret (pv 3)))))), ?_⟩
    refine fun d hd => ⟨upd_same, [(Sum.inl 0, .int 1)], rfl, by decide, ?_⟩
    have em : mergeK [] [((Sum.inl 0 : Key), V.int 1)] = iK [(0, 1)] := rfl
    rw [em]
    have S0 : Same H (upd (upd H d (.dK [])) d (.dK (iK [(0, 1)]))) := by rw [upd_upd]; exact (Same.refl _).put hd
    have a0 : upd (upd H d (.dK [])) d (.dK (iK [(0, 1)])) d = some (.dK (iK [(0, 1)])) := upd_same
    generalize upd (upd H d (.dK [])) d (.dK (iK [(0, 1)])) = H0 at S0 a0
    refine ⟨_, rfl, _, rfl, ?_⟩
    have hda : d ≠ a := fun z => by rw [z, ha] at hd; cases hd
    have m1 : ((n : Nat) : Int) < 2 ^ 62 := by omega
    refine while_by (fun σ H' => ∃ (c : Nat) (t f : List (Int × Int)) (l : Int) (x y : Addr) (e6 : Option V), σ = [some (.ref a), some (.int (n : Int)), some (.int p), some (.ref x), some (.ref y), some (.int l), e6, none, none] ∧ 0 ≤ l ∧ l ≤ n ∧ l.toNat ≤ c ∧ Same H H' ∧ H x = none ∧ H' x = some (.dK (iK t)) ∧ H' y = some (.dK (iK f)) ∧ x ≠ y ∧
        Small t ∧ Small f ∧ f.length ≤ 1000000 ∧ OkPow p c t f l ∧ powF p c t f l = powF p n [(0, 1)] m n) (fun σ _ => match σ[5]? with | some (some (V.int l)) => l.toNat | _ => 0)
      ⟨n, [(0, 1)], m, n, d, a, none, rfl, by omega, by omega, by omega, S0, hd, a0, S0 _ _ ha, hda, ?_, hs, hz, ok, rfl⟩ ?_ ?_
    · intro q hq
      rw [List.mem_singleton.mp hq]
      exact ⟨by decide, by decide⟩
    · rintro σ H1 ⟨c, t, f, l, x, y, e6, rfl, hl0, hln, hlc, S1, hxn, hx, hy, hxy, st, sf, zf, okc, ek⟩
      refine ⟨_, rfl, _, _, rfl, rfl, _, rfl, ite2 (fun h1 => ?_) fun h1 => ?_⟩
      · have l1 : 0 < l := of_decide_eq_true h1
        have p0 : 0 < p := by omega
        obtain ⟨c', rfl⟩ : ∃ c', c = c' + 1 := ⟨c - 1, by omega⟩
        obtain ⟨ok1, ok2⟩ := okc l1
        have ek : (if 0 < l then (if 0 < l / p then powF p c' (mulN p f (l % p).toNat t) (frob p f) (l / p) else mulN p f (l % p).toNat t) else t) = powF p n [(0, 1)] m n := ek
        rw [if_pos l1] at ek
        have r0 := Int.emod_nonneg l (Int.ne_of_gt p0)
        have r1 := Int.emod_lt_of_pos l p0
        have ld : l / p < l := Int.ediv_lt_of_lt_mul p0 (by
          have z : l * 2 ≤ l * p := Int.mul_le_mul_of_nonneg_left hp hl0
          omega)
        have lq : 0 ≤ l / p := Int.ediv_nonneg hl0 (by omega)
        refine ⟨_, rfl, _, rfl, l, p, rfl, rfl, p0, l % p, rfl, by omega, by omega, ?_⟩
        generalize hK : (l % p).toNat = Kn at *
        refine for_it (walk_range (lo := 0) (n := Kn)) (fun i σ H' => ∃ (x' : Addr) (t' : List (Int × Int)) (e6 : Option V), σ = [some (.ref a), some (.int (n : Int)), some (.int p), some (.ref x'), some (.ref y), some (.int l), e6, none, none] ∧ Same H H' ∧ H x' = none ∧ H' x' = some (.dK (iK t')) ∧ H' y = some (.dK (iK f)) ∧ x' ≠ y ∧
            Small t' ∧ OkMul p f (Kn - i) t' ∧ mulN p f (Kn - i) t' = mulN p f Kn t) ⟨x, t, e6, rfl, S1, hxn, hx, hy, hxy, st, ok1, rfl⟩ (fun _ _ _ _ _ => trivial) ?_ ?_
        · rintro i v σ H2 H3 hi ⟨x', t', e6, rfl, S2, hxn2, hx2, hy2, hxy2, st2, okm, em2⟩ ⟨rfl, rfl⟩
          rw [show Kn - i = (Kn - (i + 1)) + 1 by omega] at okm em2
          obtain ⟨o1, o2, o3⟩ := okm
          refine ⟨_, rfl, _, rfl, _, rfl, x', y, t', f, p, rfl, hx2, hy2, hxy2, p0, st2, sf, o1, zf, o2, fun q H4 S4 nq hq => ?_⟩
          exact ⟨q, _, _, rfl, S2.trans S4, S2.free nq, hq, S4 _ _ hy2, (fun z => by rw [z, hy2] at nq; cases nq), small_prodP p0 (by omega) _ _, o3, em2⟩
        · rintro σ H2 ⟨x', t', e6, rfl, S2, hxn2, hx2, hy2, hxy2, st2, okm, em2⟩
          rw [Nat.sub_self] at em2
          have em2 : t' = mulN p f Kn t := em2
          refine ⟨_, rfl, _, rfl, l, p, rfl, rfl, ⟨p0, by omega⟩, ?_⟩
          refine ⟨_, rfl, _, _, rfl, rfl, _, rfl, ite2 (fun h2 => ?_) fun h2 => ?_⟩
          · have h2 : 0 < l / p := of_decide_eq_true h2
            rw [if_pos h2, ← em2] at ek
            have ok3 := ok2 h2
            rw [← em2] at ok3
            refine ⟨y, _, hy2, trivial, fun od => ?_⟩
            have hf : upd H2 y (.frz od (.dK (iK f))) y = some (.frz od (.dK (iK f))) := upd_same
            refine ⟨_, rfl, y, od, _, rfl, hf, fun D hD => ?_⟩
            have hDy : D ≠ y := fun z => by rw [z, hf] at hD; cases hD
            have hDn : H2 D = none := by rw [upd_ne hDy] at hD; exact hD
            refine dc_it walk_itemsI (fun i H' => Same (upd H2 y (.frz od (.dK (iK f)))) H' ∧ H' D = some (.dK (iK (frob p (f.take i))))) ⟨(Same.refl _).put hD, upd_same⟩ (fun i H' _ h => h.1 _ _ hf) ?_ ?_
            · rintro i v H3 H4 hi ⟨S3, hL⟩ ⟨tt, q, hm, rfl, ht, rfl⟩
              have S4 := S3.new (o := .tup [V.int q.1, V.int q.2]) ht
              have hL4 : upd H3 tt (.tup [V.int q.1, V.int q.2]) D = some (.dK (iK (frob p (f.take i)))) := by rw [upd_ne (ne_of_none hL ht)]; exact hL
              refine ⟨tt, _, rfl, SqT.of upd_same, rfl, _, _, rfl, _, _, rfl, rfl, rfl, _, rfl, _, rfl, q.1, p, rfl, rfl, .inr ⟨by omega, by omega⟩, _, rfl, _, Sum.inl (q.1 * p), rfl, hL4, fold_small _ _ i zf, S4.put hD, ?_⟩
              rw [upd_same, putK_asK inlK_inj]
              unfold frob
              rw [foldA_take _ hm]
            · intro H3 ⟨S3, hL⟩
              rw [List.take_length] at hL
              refine ⟨S3 _ _ hf, ?_⟩
              have S5 := lock_same hy2 S3
              have hL5 := lock_at (u := .dK (iK f)) hDy hL
              refine ⟨⟨c', _, frob p f, l / p, x', D, e6, rfl, lq, by omega, by omega, S2.trans S5, hxn2, S5 _ _ hx2, hL5, (fun z => by rw [← z, hx2] at hDn; cases hDn), st2, small_frob sf, Nat.le_trans (foldA_le _ _) zf, ok3, ek⟩, ?_⟩
              show (l / p).toNat < l.toNat
              omega
          · have h2 : ¬ 0 < l / p := fun z => h2 (decide_eq_true z)
            rw [if_neg h2, ← em2] at ek
            refine ⟨⟨0, t', f, l / p, x', y, e6, rfl, lq, by omega, by omega, S2, hxn2, hx2, hy2, hxy2, st2, sf, zf, trivial, ek⟩, ?_⟩
            show (l / p).toNat < l.toNat
            omega
      · have l1 : ¬ 0 < l := fun z => h1 (decide_eq_true z)
        have e : powF p c t f l = t := by
          cases c with
          | zero => rfl
          | succ c => exact if_neg l1
        rw [e] at ek
        rw [ek] at hx
        exact ⟨_, rfl, k x H1 S1 hxn hx⟩
    · exact fun σ H Q Q' hm ⟨v, hv, i, j, e1, e2, k, e3, q⟩ => ⟨v, hv, i, j, e1, e2, k, e3, hm _ _ q⟩
end
end P2
end

section
set_option maxRecDepth 100000
set_option maxHeartbeats 4000000
/-! sum of a tuple of ints; max of a list of ints, with default=. -/
namespace ClX
open PySem PySem.Spec PyProof.Rows L2
section
variable {prog : Program} {w : World} {A : Around} {E : Value → Shared → Prop} {s : Shared}
theorem sum_tup {t : Addr} {its : List Value} {ns : List Int} {Q : Value → Shared → Prop} (hh : A.handled = none) (ht : s.heap.IsTuple t its.toArray) (hi : IntsAre its ns)
    (h : ∀ h' tk t', (∀ b o, s.heap.get? b = some o → h'.get? b = some o) → Q (.int ns.sum t') { s with heap := h', toks := tk }) : wpAny (model prog w) A (call (.builtin "sum") [.ref t]) Q E s := by
  obtain ⟨xs, e⟩ := hi.allInts.items
  have hn : numsOf (intItems xs).toList = ns := by rw [← e]; exact hi.numsOf
  rw [nums_intItems] at hn
  rw [e] at ht
  have hlt : t < s.heap.objs.size := let ⟨_, e2, _⟩ := ht; Heap.lt_size e2
  refine call_sum_walkG (wpAny_pyIter_tuple ht ⟨_, _, _, _, _, _, numAt xs, rfl, Walks.tuple (A := A.in1) hh _ t (Nat.ne_of_lt hlt) (intItems xs), ⟨⟨_, Heap.get?_push_size _ rfl, rfl, rfl⟩, ht.push _⟩, fun b hb => ?_, fun _ _ => intItems_at, fun h' tk t' hk => ?_⟩)
  · show b < (s.heap.push _).objs.size
    rw [Heap.size_push]
    rcases List.mem_cons.mp hb with rfl | hb
    · exact Nat.lt_succ_self _
    · rw [List.mem_singleton.mp hb]
      exact Nat.lt_succ_of_lt hlt
  · have z := h h' tk t' fun b o e2 => hk b o (fun m => absurd (Heap.lt_size e2) ((List.mem_singleton.mp m) ▸ Nat.lt_irrefl _)) (Heap.get?_push_of_some _ e2)
    have es : preSum (numAt xs) (intItems xs).size = ns.sum := by
      rw [preSum_eq, List.take_of_length_le (by simp [intItems]), hn]
    rw [es]
    exact z
end
section
variable {X : Cx}
def rSumT (K : PySem.W.Frag) : List V → Hp → VK → Prop := fun vs H Q => ∃ (a : Addr) (ns : List Int), vs = [V.ref a] ∧ SqT K H a (ns.map V.int) ∧ Q (.int ns.sum) H
theorem cr_sumT (hc : X.calm = true) : CallR X (.builtin "sum") (rSumT X.K) := by
  intro pins s σ H vs us Q I r h
  obtain ⟨a, ns, rfl, hs, q⟩ := h
  obtain ⟨its, rv, ht, _⟩ := I.tuple hs
  rw [Vals.ref1 r]
  exact sum_tup (I.ok.hd hc) ht rv.ints fun h' tk t' hk => ⟨.int _, H, I.kept hk, ⟨_, rfl⟩, q⟩
theorem ints_read {h : Heap} : ∀ {ns : List Int} {us : List Value}, Vals (ns.map V.int) us → ReadsAll h us (ns.map PyData.int) []
  | [], us, r => by cases r; exact ReadsAll.nil
  | n :: ns, us, r => by
    cases r with
    | cons r1 r2 =>
      obtain ⟨t, rfl⟩ := r1
      exact ReadsAll.cons (as := []) (Reads.int n t) (ints_read r2)
theorem depth0 : ∀ ns : List Int, PyData.depthAll (ns.map PyData.int) = 0
  | [] => by simp [PyData.depthAll]
  | n :: ns => by simp [PyData.depthAll, PyData.depth, depth0 ns]
theorem alike_ints (ns : List Int) : PySem.W.AlikeAll (ns.map PyData.int) := by
  refine ⟨fun x hx y hy => ?_, fun x hx => ?_⟩
  · obtain ⟨i, _, rfl⟩ := List.mem_map.mp hx
    obtain ⟨j, _, rfl⟩ := List.mem_map.mp hy
    rfl
  · obtain ⟨i, _, rfl⟩ := List.mem_map.mp hx
    exact fun z => nomatch z
/-- the greatest, or the default -/
def maxOr (d : Int) : List Int → Int
  | [] => d
  | n :: ns => ns.foldl max n
def rMaxD (K : PySem.W.Frag) : List V → List V → Hp → VK → Prop := fun vs zs H Q => ∃ (a : Addr) (ns : List Int) (d : Int), vs = [V.ref a] ∧ zs = [V.int d] ∧ SqL K H a (ns.map V.int) ∧ Q (.int (maxOr d ns)) H
theorem cr_maxD (hc : X.calm = true) (hu : X.A.units + 1 < cLine) : CallRK X (.builtin "max") ["default"] (rMaxD X.K) := by
  intro pins s σ H vs zs us ws Q I r rz h
  obtain ⟨a, ns, d, rfl, rfl, hs, q⟩ := h
  obtain ⟨its, rv, hl, _⟩ := I.list hs
  rw [Vals.ref1 r]
  obtain ⟨u, rfl, rd⟩ := vals1 rz
  obtain ⟨td, rfl⟩ := rd
  show wpAny _ _ (call (.builtin "max") [.ref a] [(Str.ofString "default", .int d td)]) _ _ s
  refine PySem.W.max_list_default (I.ok.hd hc) hl.isList (xs := ns.map PyData.int) (by simpa using ints_read rv) (alike_ints ns) (by rw [depth0]; exact hu) (fun e h' tk k => ?_) fun y ys i v h' tk bs e hv hr k => ?_
  · have en : ns = [] := by simpa using e
    subst en
    exact ⟨.int d, H, I.kept k, ⟨_, rfl⟩, q⟩
  · cases ns with
    | nil => cases e
    | cons n ns =>
      rw [List.map_cons] at e
      injection e with e1 e2
      subst e1 e2
      rw [PySem.W.maxD_ints] at hr
      cases hr
      exact ⟨.int _, H, I.kept k, ⟨_, rfl⟩, q⟩
end
end ClX
end

section
set_option maxRecDepth 100000
set_option maxHeartbeats 4000000
/-! Displays of dicts with tuples as keys; a tuple times an int from 1. -/
namespace ClX
open PySem PySem.Spec PyProof.Rows L2
/-- the pairs are put in, from the left -/
def Puts (D : Addr) : List (V × V) → Hp → (Hp → Prop) → Prop
  | [], H, Q => Q H
  | p :: ps, H, Q => ∃ H', DPut H D p.1 p.2 H' ∧ Puts D ps H' Q
section
variable {X : Cx}
theorem storeAll_puts {pins : List (Addr × Obj)} {σ : L2.St} {D : Addr} {Q : Hp → Prop} (hu : X.A.units < cLine) : ∀ (ps : List (V × V)) (ws : List (Value × Value)) (s : Shared) (H : Hp), VV ps ws → Inv X pins σ H s → Puts D ps H Q →
    wpAny (model X.prog X.w) X.A (storeAll D ws) (fun _ s' => ∃ H', Inv X pins σ H' s' ∧ Q H') X.xe s
  | [], _, s, H, r, I, q => by
    cases r
    unfold storeAll
    rw [List.forIn_nil]
    exact wpAny_pure ⟨H, I, q⟩
  | p :: ps, _, s, H, r, I, q => by
    cases r with
    | @cons _ b _ bs h t =>
      obtain ⟨H', g, q⟩ := q
      unfold storeAll
      rw [List.forIn_cons]
      refine wpAny_bind (wpAny_bind (put_dictSet hu I g h.1 h.2 fun s' I' => wpAny_pure ?_))
      exact storeAll_puts hu ps bs s' H' t I' q
/-- {(..): v, ..}, the new dict standing empty while the pairs are made -/
def tDispT (trs : List (TE × TE)) : TE := fun σ H Q => ∀ p, H p = none → tPairs trs σ (upd H p (.dT [])) fun ps H2 => Puts p ps H2 fun H3 => Q (.ref p) H3
theorem pe_dispT {pos : Pos} {keys : List (Option Expr)} {values : List Expr} {trs : List (TE × TE)} (hu : X.A.units < cLine) (h : PPs X pos keys values trs) (hall : keys.all (·.isSome) = true) (hl : keys.length = values.length) (h0 : keys ≠ [])
    (h15 : keys.length ≤ 15) : PE X (.Dict keys values pos) (tDispT trs) := by
  refine ⟨fun pins s σ H Q I q => ?_⟩
  have hn := I.hok.fresh (Nat.le_refl s.heap.objs.size)
  have I1 := I.laid (a := s.heap.objs.size) (o := .dT []) (h' := s.heap.push { cls := .type "dict", data := .dict #[] }) (t' := s.toks) (fun _ _ q => Heap.get?_push_of_some _ q) (Nat.le_refl _) (dt_empty s.heap I.big)
  refine wpAny_Dict_any hall hl h0 h15 (thn (h.run pins _ σ _ _ I1 (q _ hn)) fun ws s2 ⟨ps, H2, I2, rel, pu⟩ => ?_)
  exact thn (storeAll_puts hu ps ws s2 H2 rel I2 pu) fun _ s3 ⟨H3, I3, q3⟩ => ⟨.ref s.heap.objs.size, H3, I3, rfl, q3⟩
/-! ### tuple * 1 -/
theorem tuple_mul1 (l : Addr) (items : Array Value) (n : Nat) (dd : Option Addr) (sl : Array (Option Value)) (u : Tok) :
    Meets (Builtin.«tuple.__mul__» ⟨[.ref l, .int 1 u], []⟩) (fun _ R s => s.heap.get? l = some { cls := .type "tuple", dict := dd, data := .seq items n, slots := sl } ∧
      R (.ok (.ret (Value.ref l))) s) :=
  .of_wp fun prog w A R s h => by
    obtain ⟨hp, g, d, tk, os⟩ := s
    obtain ⟨hl, h⟩ := h
    have f1 := AutoSeq1.idx_int
    have c1 : (items.isEmpty || (1 : Int) == 1) = true := by rw [Bool.or_eq_true_iff]; exact Or.inr rfl
    wp_walk using wpAny_loadPart' hl
    repeat (first
      | (refine wpAny_ite_true (decide_eq_true c1) ?_; wp_walk using wpAny_loadPart' hl)
      | (refine wpAny_ite_false (decide_eq_false (by decide)) ?_; wp_walk using wpAny_loadPart' hl))
    exact ⟨_, rfl, h⟩
/-- t * k with k from 1: t itself at 1, else a new tuple -/
def rRepN (K : PySem.W.Frag) : R2 := fun x y H Q => ∃ l k xs, x = .ref l ∧ y = .int k ∧ SqT K H l xs ∧ xs ≠ [] ∧ 1 ≤ k ∧ k ≤ 1000 ∧ xs.length ≤ 1000 ∧ (k = 1 → Q (.ref l) H) ∧ (k ≠ 1 → ∀ p, H p = none → Q (.ref p) (upd H p (.tup (List.replicate k.toNat xs).flatten)))
theorem op_repN : OpR X (binaryOp .Mult) (rRepN X.K) := by
  intro pins s σ H x y v u Q I rx ry h
  obtain ⟨l, k, xs, rfl, rfl, hT, hne, h1, h2, hz, q1, q2⟩ := h
  by_cases hk : k = 1
  · subst hk
    cases rx
    obtain ⟨t, rfl⟩ := ry
    obtain ⟨its, r, ⟨⟨cls, dd, data, sl⟩, ho, hc, n, hd⟩, hs⟩ := I.tuple hT
    simp only at hc hd
    subst hc hd
    refine wpAny_binaryOp_repeat_ref (T := "tuple") (U := "int") (by decide) ⟨_, ho, rfl⟩ (fun s' => typeIs_int s' 1 t) noFill_tuple_mul F.fills_int_mul F.slot_int_rmul repeat_tuple F.slot_int_index.lookup
      (call_meets F.slot_int_rmul (typeIs_int s 1 t) F.entry_int_rmul (F.args_int_rmul_2 _ _) (int_rmul_tuple 1 t l its.toArray n dd sl)
        ⟨ho, rfl, ⟨_, ho, rfl⟩, call_meets F.slot_tuple_mul ⟨_, ho, rfl⟩ F.entry_tuple_mul (F.args_tuple_mul_2 _ _) (tuple_mul1 l its.toArray n dd sl t) ⟨ho, ?_⟩⟩)
    exact ⟨.ref l, H, I, rfl, q1 rfl⟩
  · exact op_repT pins s σ H _ _ v u Q I rx ry ⟨l, k, xs, rfl, rfl, hT, hne, by omega, h2, hz, q2 hk⟩
end
end ClX
end

section
set_option maxRecDepth 100000
set_option maxHeartbeats 4000000
/-! dict(d), d with rows as keys, no two of which hash alike. -/
namespace ClX
open PySem PySem.Spec PyProof.Rows PyProof.V L2
section
variable {prog : Program} {w : World} {K : Type} [DecidableEq K] {knd : HeapKind prog w K} {A : Around} {E : Value → Shared → Prop} {s : Shared}
theorem new_dictH : (s.heap.push { cls := .type "dict", data := .dict #[] }).DictOfH knd s.heap.objs.size [] :=
  ⟨_, #[], 0, Heap.get?_push_size _ rfl, ⟨rfl, rfl, rfl⟩, rfl, rfl, (fun _ h => nomatch h), List.nodup_nil⟩
theorem call_dictH {o : Addr} {more : List (K × Addr × Value)} {Q : Value → Shared → Prop} (hu : knd.room A.in1.in1) (hoS : (o == sysModules) = false) (ho : s.heap.DictOfH knd o more) (hsz : more.length ≤ sizeLine)
    (ho' : (s.heap.push { cls := .type "dict", data := .dict #[] }).DictOfH knd o more)
    (hty : ∀ x ∈ more, s.TypeIs (.ref x.2.1) "tuple") (hap : (more.map fun x => knd.hash x.1).Nodup)
    (h : ∀ h', h'.DictOfH knd s.heap.objs.size more → Heap.SameBut s.heap.objs.size (s.heap.push { cls := .type "dict", data := .dict #[] }) h' → Q (.ref s.heap.objs.size) { s with heap := h' }) :
    wpAny (model prog w) A (call (.type "dict") [.ref o]) Q E s := by
  refine callType_codes (Q₁ := fun obj s₁ => obj = .ref s.heap.objs.size ∧ s₁ = { s with heap := s.heap.push { cls := .type "dict", data := .dict #[] } }) F.kt_called_dict (F.kt_typeCall_dict_1 _) F.entry_dict_init (kt_code_dict_new _ ⟨rfl, rfl⟩) ?_
  rintro obj s₁ ⟨rfl, rfl⟩
  have hnew : (s.heap.push { cls := .type "dict", data := .dict #[] }).DictOfH knd s.heap.objs.size [] := new_dictH
  have hn : (more.map (·.1)).Nodup := ho.nodup
  have hdo : s.heap.objs.size ≠ o := by
    obtain ⟨_, _, _, hg, _⟩ := ho
    exact fun e => absurd (Heap.lt_size hg) (by rw [e]; exact Nat.lt_irrefl _)
  refine ⟨hnew.typeIs, F.args_dict_init_2 _ _, ?_⟩
  unfold Builtin.«dict.__init__»
  refine wpAny_bind ?_
  unfold Builtin.Dict.selfAndRest
  refine wpAny_bind (wpAny_notOrdered_dict hnew.typeIs ?_)
  show wpAny _ _ (pure (s.heap.objs.size, [Value.ref o])) _ _ _
  refine wpAny_pure ?_
  show wpAny _ _ (Builtin.Dict.updateFrom "dict.__init__" s.heap.objs.size (.ref o) [] .none) _ _ _
  unfold Builtin.Dict.updateFrom
  refine wpAny_bind (wpAny_typeOf ho'.typeIs ?_)
  rw [if_neg (by decide)]
  refine wpAny_bind ?_
  unfold Builtin.Dict.merge
  refine wpAny_bind ?_
  unfold Builtin.Dict.readDirectly
  refine wpAny_bind (wpAny_isInstance ho'.typeIs isSubtype_dict_dict ?_)
  simp only [Bool.not_true, Bool.false_eq_true, if_false]
  refine wpAny_bind (wpAny_specialOf ho'.typeIs F.slot_dict_iter.lookup (wpAny_pure ?_))
  simp only [beq_self_eq_true, if_true]
  refine wpAny_bind (wpAny_pure ?_)
  have hty' : ∀ x ∈ more, ({ s with heap := s.heap.push { cls := .type "dict", data := .dict #[] } } : Shared).TypeIs (.ref x.2.1) "tuple" := fun x hx => by
    obtain ⟨o, h1, h2⟩ := hty x hx
    exact ⟨o, Heap.get?_push_of_some _ h1, h2⟩
  refine wpAny_mergeDict_heap (hsz := by simpa using hsz) hu hdo hoS hnew ho' (.inr ⟨hty', hap⟩) fun h' hd' _ hs' => ?_
  show wpAny _ _ (Builtin.Dict.addKeywords s.heap.objs.size [] >>= _) _ _ _
  rw [storedAllH_nil_of_nodup more hn] at hd'
  exact wpAny_bind (wpAny_pure (wpAny_pure ⟨rfl, h h' hd' hs'⟩))
end
/-- what `dict(d)` gives -/
def rDictT (P : Program) (w : World) : List V → Hp → VK → Prop := fun xs H Q => ∃ (a : Addr) (kvs : List (List L2.Key × V)), xs = [.ref a] ∧ H a = some (.dT kvs) ∧ (kvs.map fun x => (tupleKind (mixKind P w)).hash x.1).Nodup ∧ ∀ p, H p = none → Q (.ref p) (upd H p (.dT kvs))
section
variable {X : Cx}
theorem call_dictT (hu : X.A.in1.units + 1 < cLine) : CallR X (.type "dict") (rDictT X.prog X.w) := by
  intro pins s σ H xs us Q I r q
  obtain ⟨a, kvs, ex, ha, hh, q⟩ := q
  subst ex
  obtain ⟨u, eu, rx⟩ := vals1 r
  subst eu
  cases rx
  obtain ⟨z, lo, vs, rel, dd⟩ := dt_of I.hok ha
  have hk : ∀ {l : List (List L2.Key × V)} {m : List (List L2.Key × Addr × Value)}, KT H l m → (m.map (·.1)) = l.map (·.1) ∧ ∀ x ∈ m, s.TypeIs (.ref x.2.1) "tuple" ∧ (tupleKind (mixKind X.prog X.w)).is (s.heap.push { cls := .type "dict", data := .dict #[] }) x.1 x.2.1 := by
    intro l m t
    induction t with
    | nil => exact ⟨rfl, fun _ h => nomatch h⟩
    | @cons p q ps qs hq t ih =>
      refine ⟨by rw [List.map_cons, List.map_cons, ih.1, hq.1], fun x hx => ?_⟩
      rcases List.mem_cons.mp hx with e | hx
      · subst e
        have k1 := key_of (P := X.prog) (w := X.w) I.hok (show H x.2.1 = some (.tup (x.1.map kV)) by rw [← hq.1]; exact hq.2.1)
        obtain ⟨o, its, n, h1, h2, h3⟩ := k1
        refine ⟨⟨o, h1, h2⟩, o, its, n, Heap.get?_push_of_some _ h1, h2, h3⟩
      · exact ih.2 x hx
  obtain ⟨e1, e2⟩ := hk rel
  obtain ⟨o, es, ep, h1, h2, h3, h4, h5, h6⟩ := id dd
  refine call_dictH (tupleKind_room_in1 hu) lo dd (by rw [← Paired.length rel]; exact z) ⟨o, es, ep, Heap.get?_push_of_some _ h1, h2, h3, h4, fun x hx => (e2 x hx).2, h6⟩ (fun x hx => (e2 x hx).1) ?_ fun h' d' hs => ?_
  · have e3 : (vs.map fun x => (tupleKind (mixKind X.prog X.w)).hash x.1) = (vs.map (·.1)).map fun k => (tupleKind (mixKind X.prog X.w)).hash k := by rw [List.map_map]; rfl
    have e4 : (kvs.map fun x => (tupleKind (mixKind X.prog X.w)).hash x.1) = (kvs.map (·.1)).map fun k => (tupleKind (mixKind X.prog X.w)).hash k := by rw [List.map_map]; rfl
    rw [e3, e1, ← e4]
    exact hh
  have hm : (s.heap.objs.size == sysModules) = false := beq_eq_false_iff_ne.mpr (Nat.ne_of_gt I.big)
  have hn := I.hok.fresh (Nat.le_refl s.heap.objs.size)
  refine ⟨.ref s.heap.objs.size, upd H s.heap.objs.size (.dT kvs), I.laid (t' := s.toks) (fun b u e => (hs.2 b (Nat.ne_of_lt (Heap.lt_size e))).trans (Heap.get?_push_of_some _ e)) (Nat.le_refl _) ?_, rfl, q _ hn⟩
  obtain ⟨o', es', ep', g1, g2, g3, g4, g5, g6⟩ := d'
  refine ⟨z, hm, vs, ?_, o', es', ep', g1, g2, g3, g4, g6⟩
  generalize HO.dT kvs = O
  clear hh z e1 e2 hk dd h5 h4 h6 g4 g5 g6 q ha
  induction rel with
  | nil => exact .nil
  | cons h t ih => exact .cons ⟨h.1, by rw [upd_ne (ne_of_none h.2.1 hn)]; exact h.2.1, h.2.2⟩ ih
end
end ClX
end

section
set_option maxRecDepth 100000
set_option maxHeartbeats 4000000
/-! A dict of one pair whose key is a tuple of bools: made by a display, looked at by isinstance and items(). -/
namespace ClX
open PySem PySem.Spec PyProof.Rows L2
/-- the dict at a of one pair, its key the tuple at t -/
def RawO (a t : Addr) (v : V) : HO := .ext fun h => (a == sysModules) = false ∧ ∃ (o : Obj) (en : DictEntry) (ep : Nat), h.get? a = some o ∧ o.ExactDict ∧ o.data = .dict #[en] ep ∧ en.key = .ref t ∧ RelV v en.val
theorem rawO_ok {P : Program} {w : World} {H : Hp} {h : Heap} {a t : Addr} {v : V} (hs : (a == sysModules) = false) {o : Obj} {en : DictEntry} {ep : Nat} (h1 : h.get? a = some o) (h2 : o.ExactDict) (h3 : o.data = .dict #[en] ep) (h4 : en.key = .ref t) (h5 : RelV v en.val) : ObjOk P w H h a (RawO a t v) :=
  ⟨⟨hs, o, en, ep, h1, h2, h3, h4, h5⟩, ⟨o, h1⟩, fun _ _ ⟨x0, x1, x2, x3, x4, x5, x6, x7, x8⟩ k => ⟨x0, x1, x2, x3, k _ x4, x5, x6, x7, x8⟩⟩
/-! ### the display -/
theorem items_b {P : Program} {w : World} : ∀ {n : Nat} {us : List Value}, Vals (List.replicate n (V.bl true)) us → ItemsAre (leafKind P w) (List.replicate n (Leaf.num 1)) us
  | 0, _, r => by cases r; exact .nil
  | n + 1, _, r => by
    rw [List.replicate_succ] at r
    cases r with
    | cons h t =>
      obtain rfl := (show _ = Value.bool true from h)
      exact .cons rfl (items_b t)
/-- {t: v}, t a tuple of Trues -/
def tDispB (t1 t2 : TE) : TE := fun σ H Q => ∀ p, H p = none → tPairs [(t1, t2)] σ (upd H p (.dT [])) fun ps H3 => ∃ (x v : V) (t : Addr) (n : Nat), ps = [(x, v)] ∧ x = .ref t ∧ H3 p = some (.dT []) ∧ H3 t = some (.tup (List.replicate n (V.bl true))) ∧ Q (.ref p) (upd H3 p (RawO p t v))
section
variable {X : Cx}
theorem pe_dispB {pos : Pos} {e1 e2 : Expr} {t1 t2 : TE} (hu : X.A.units < cLine) (h1 : PE X e1 t1) (h2 : PE X e2 t2) : PE X (.Dict [some e1] [e2] pos) (tDispB t1 t2) := by
  refine ⟨fun pins s σ H Q I q => ?_⟩
  have hn := I.hok.fresh (Nat.le_refl s.heap.objs.size)
  have I1 := I.laid (a := s.heap.objs.size) (o := .dT []) (h' := s.heap.push { cls := .type "dict", data := .dict #[] }) (t' := s.toks) (fun _ _ q => Heap.get?_push_of_some _ q) (Nat.le_refl _) (dt_empty s.heap I.big)
  have hp : PPs X pos [some e1] [e2] [(t1, t2)] := pps_cons h1 h2 pps_nil
  refine wpAny_Dict_any (by rfl) (by rfl) (fun z => by cases z) (show 1 ≤ 15 by decide) (thn (hp.run pins _ σ _ _ I1 (q _ hn)) fun ws s2 ⟨ps, H2, I2, rel, x, v, t, n, eps, ex, hP, ht, pu⟩ => ?_)
  subst eps ex
  cases rel with
  | @cons _ b _ bs h tl =>
    cases tl
    obtain ⟨u, r⟩ := b
    obtain ⟨r1, r2⟩ := h
    cases (show u = Value.ref t from r1)
    unfold storeAll
    rw [List.forIn_cons]
    obtain ⟨z, hd, xs, rel, o, es, ep, ho, hx, hdt, he, hnn⟩ := (show ObjOk X.prog X.w H2 s2.heap s.heap.objs.size (.dT []) from I2.hok _ _ hP)
    cases rel
    obtain ⟨_, its, rv, ot, ht1, ht2, nt, ht3⟩ := (show ObjOk X.prog X.w H2 s2.heap t (.tup (List.replicate n (V.bl true))) from I2.hok t _ ht)
    have dd : s2.heap.DictOfH (tupleKind (leafKind X.prog X.w)) s.heap.objs.size [] := ⟨o, es, ep, ho, hx, hdt, he, (fun _ h => nomatch h), List.nodup_nil⟩
    have key : (tupleKind (leafKind X.prog X.w)).is s2.heap (List.replicate n (Leaf.num 1)) t := ⟨ot, its.toArray, nt, ht1, ht2, ht3, by simpa using items_b rv⟩
    refine wpAny_bind (wpAny_bind (wpAny_dictSet_heap (knd := tupleKind (leafKind X.prog X.w)) (hsz := by show 0 ≤ sizeLine; decide) hu key dd fun h' dd' hs => wpAny_pure ?_))
    dsimp only
    rw [List.forIn_nil]
    refine wpAny_pure ?_
    obtain ⟨q, es', ep', hq, h2, h3, h4, _, _⟩ := dd'
    obtain ⟨en, e1, e2, e3⟩ : ∃ en, es' = #[en] ∧ en.key = .ref t ∧ en.val = r := by
      have e : es'.toList = [entryOfKey (tupleKind (leafKind X.prog X.w)) (List.replicate n (Leaf.num 1), t, r)] := h4
      refine ⟨_, by apply Array.ext'; exact e, rfl, rfl⟩
    subst e1
    have ok : ObjOk X.prog X.w (upd H2 s.heap.objs.size (RawO s.heap.objs.size t v)) h' s.heap.objs.size (RawO s.heap.objs.size t v) := rawO_ok hd hq h2 h3 e2 (by rw [e3]; exact r2)
    exact ⟨.ref s.heap.objs.size, _, d_write I2 (by rw [hP]; exact True.intro) hs ⟨q, hq⟩ ok, rfl, pu⟩
/-! ### isinstance, items -/
def rIsiB (K : PySem.W.Frag) : List V → Hp → VK → Prop := fun xs H Q => ∃ (a t : Addr) (v c : V) (u : Value) (b : Bool), xs = [.ref a, c] ∧ ClsV c u ∧ H a = some (RawO a t v) ∧ PySem.W.kitOne K (.type "dict") u = some b ∧ Q (.bl b) H
theorem call_isiB : CallR X (.builtin "isinstance") (rIsiB X.K) := by
  intro pins s σ H xs us Q I r h
  obtain ⟨a, t, v, c, u, b, rfl, k, ea, e, q⟩ := h
  obtain ⟨u1, u2, rfl, r1, r2⟩ := vals2 r
  have e2 := k.eq r2
  subst e2
  cases (show u1 = Value.ref a from r1)
  obtain ⟨⟨_, o, en, ep, h1, h2, _⟩, _, _⟩ := I.hok a _ ea
  exact PySem.W.kia_one PySem.W.kitx_dict I.kIn ⟨o, h1, h2.1⟩ e (fun z => nomatch z) fun tk => ⟨.bl b, H, I.tok tk, rfl, q⟩
end
theorem call_or {X : Cx} {f : Value} {r1 r2 : List V → Hp → VK → Prop} (h1 : CallR X f r1) (h2 : CallR X f r2) : CallR X f (fun xs H Q => r1 xs H Q ∨ r2 xs H Q) := fun pins s σ H xs us Q I r q => q.elim (h1 pins s σ H xs us Q I r) (h2 pins s σ H xs us Q I r)
theorem frzB_at {X : Cx} {pins : List (Addr × Obj)} {σ : L2.St} {H : Hp} {s : Shared} {d t : Addr} {o : Obj} {v : V} (I : Inv X pins σ H s) (h : H d = some (.frz o (RawO d t v))) :
    (d == sysModules) = false ∧ ∃ (en : DictEntry) (ep : Nat), o.data = .dict #[en] ep ∧ DT.Raw s.heap d #[en] ep ∧ en.key = .ref t ∧ RelV v en.val := by
  obtain ⟨hd, ⟨hs, o', en, ep, ho, hx, hdt, hk, hv⟩, _, _⟩ := I.hok d _ h
  rw [hd] at ho
  cases ho
  exact ⟨hs, en, ep, hdt, ⟨o, hd, hx, hdt⟩, hk, hv⟩
def Itib (d : Addr) (o : Obj) (t : Addr) (v : V) : It :=
  ⟨fun i H => H d = some (.frz o (RawO d t v)) ∧ i < 1, fun _ H x H' => ∃ T : Addr, x = .ref T ∧ H T = none ∧ H' = upd H T (.tup [.ref t, v]), fun i H => H d = some (.frz o (RawO d t v)) ∧ 1 ≤ i⟩
theorem turn_itemsB {P : Program} {w : World} {K : PySem.W.Frag} {d t : Addr} {o : Obj} {en : DictEntry} {ep : Nat} {v : V} {elts : List Expr} {kk : Nat} {tpos : Pos} (it : Addr) (hod : o.data = .dict #[en] ep) :
    Turn P w K (.Tuple elts kk tpos) (Itib d o t v) [it] it (fun i h => ∃ ok ov, IsItemIter h it d i 1 ep ok ov) where
  mem := List.mem_cons_self
  obj := fun i h st b hb => by
    obtain ⟨ok, ov, e⟩ := st
    rw [List.mem_singleton.mp hb]
    exact ⟨_, e, fun v z => nomatch z⟩
  keep := fun i h h' st k => let ⟨ok, ov, e⟩ := st; ⟨ok, ov, k it List.mem_cons_self _ e⟩
  item := by
    intro X hP hw hK hc i pins s σ H E I hf st hg
    subst hP hw hK
    obtain ⟨hd, hi⟩ := hg
    obtain ⟨hs, en', ep', hdt, raw, hk, rv⟩ := frzB_at I hd
    obtain ⟨e1, rfl⟩ := dict_ep hod hdt
    obtain rfl : en = en' := by simpa using e1.symm
    obtain ⟨ok, ov, he⟩ := st
    have hlt : it < s.heap.objs.size := Heap.lt_size he
    obtain rfl : i = 0 := by omega
    refine DT.nextI he raw (show (0 : Nat) < 1 by decide) fun h' ho hT _ hk2 => ?_
    have een : (#[en] : Array DictEntry)[0] = en := rfl
    rw [een, hk] at hT ho
    refine ⟨_, rfl, wpAny_letOwnedTupleGo_items (s := { s with heap := h' }) ho fun h'' he' sb => ?_⟩
    have hT2 : h''.get? s.heap.objs.size = some { cls := .type "tuple", data := .seq #[.ref t, en.val] } := (sb.2 _ (Nat.ne_of_gt hlt)).trans hT
    have new : ObjOk X.prog X.w (upd H s.heap.objs.size (.tup [.ref t, v])) h'' s.heap.objs.size (.tup [.ref t, v]) :=
      ⟨by show 2 ≤ sizeLine; decide, [.ref t, en.val], .cons rfl (.cons rv .nil), ⟨_, hT2, rfl, _, rfl⟩⟩
    have I1 : Inv X pins σ (upd H s.heap.objs.size (.tup [.ref t, v])) { s with heap := h'' } :=
      I.turnedNew (t' := s.toks) (ch := [it]) (fun b ob hb e => (sb.2 b (by simpa using hb)).trans (hk2 b ob (by simpa using hb) e)) hf (Nat.le_refl _) new
    refine ⟨.ref s.heap.objs.size, _, I1, rfl, ⟨_, rfl, I.hok.fresh (Nat.le_refl _), rfl⟩, ⟨_, _, he'⟩, fun b hb => ?_⟩
    rw [List.mem_singleton.mp hb, upd_ne (Nat.ne_of_lt hlt)]
    exact (hf it List.mem_cons_self).1
  done := by
    intro X hP hw hK hc i pins s σ H E I hf st hg
    subst hP hw hK
    obtain ⟨hd, hi⟩ := hg
    obtain ⟨f0, f1, f2, f3, f4, f5⟩ := hf it List.mem_cons_self
    obtain ⟨hs, en', ep', hdt, raw, hk, rv⟩ := frzB_at I hd
    obtain ⟨e1, rfl⟩ := dict_ep hod hdt
    obtain ⟨ok, ov, he⟩ := st
    exact DT.endI (I.ok.hd hc) he raw hi fun h' eb => ⟨rfl, I.turned (t' := s.toks) (fun b ob hb e => eb b ob hb e) f0 f1 f3 f4 f5⟩
  self := fun A i s Q E st h => let ⟨_, _, e⟩ := st; PySem.W.kcp_self e h
/-- .. in e.items(), the dict locked -/
def iItemsB (td : TE) : TI := fun σ H R => td σ H fun x H1 => ∃ d o t v, x = .ref d ∧ H1 d = some (.frz o (RawO d t v)) ∧ R (Itib d o t v) H1
theorem pi_itemsB {X : Cx} {e : Expr} {td : TE} {apos cpos : Pos} {elts : List Expr} {kk : Nat} {tpos : Pos} (he : PE X e td) (hbase : attributeBase e "items" X.env (eval e X.env) = eval e X.env := by rfl) (hline : (apos.endLine == cpos.line) = true := by rfl) :
    PI X (.Tuple elts kk tpos) (.Call (.Attribute e "items" apos) [] [] cpos) (iItemsB td) := by
  refine ⟨fun pins s σ H R I h => ?_⟩
  refine wpAny_Call_method (T := "dict") (id := "dict.items") hbase rfl hline PySem.F.plainAttrs_dict PySem.F.slot_dict_items PySem.F.type_dict_items (thn (he.run pins s σ H _ I h) fun u s1 ⟨x, H1, I1, rx, d, o, t, v, ex, hd, q⟩ => ?_)
  subst ex
  obtain rfl : u = Value.ref d := rx
  obtain ⟨hs, en, ep, hdt, raw, hk, rv⟩ := frzB_at I1 hd
  refine ⟨raw.typeIs, ?_, ?_⟩
  · obtain ⟨o', ho, hx, _⟩ := raw
    rintro b ⟨⟩
    exact ⟨o', ho, hx.2.1⟩
  have I2 : Inv X pins σ H1 { s1 with heap := s1.heap.push { cls := .type "dict_items", data := .fields #[.ref d] } } := I1.kept (t' := s1.toks) fun b ob q => Heap.get?_push_of_some _ q
  have fin : wpAny (model X.prog X.w) X.A (pyIter (.ref s1.heap.objs.size)) (PIE X pins σ (.Tuple elts kk tpos) R) X.xe { s1 with heap := s1.heap.push { cls := .type "dict_items", data := .fields #[.ref d] } } := by
    refine DT.iterI (d := d) ⟨_, Heap.get?_push_size _ rfl, rfl, rfl⟩ (raw.push _) (pi_one (tk := s1.toks) I2 _ (turn_itemsB _ hdt) ⟨.none, .none, ?_⟩ q)
    exact Heap.get?_push_size _ rfl
  show wpAny _ _ (callWith cpos (.builtin "dict.items") [.ref d] [] []) _ X.xe s1
  exact method_meetsIn PySem.F.slot_dict_items PySem.F.entry_dict_items rfl (PySem.evalArgs_none ⟨rfl, raw.typeIs, PySem.F.args_dict_items_1 _, _, DT.meetsItems (es := #[en]) (ep := ep) hs, ⟨raw, fin⟩⟩)
theorem walk_itemsB {d t : Addr} {o : Obj} {v : V} : Walk (Itib d o t v) 1 (fun H => H d = some (.frz o (RawO d t v))) (fun _ H x H' => ∃ T : Addr, x = .ref T ∧ H T = none ∧ H' = upd H T (.tup [.ref t, v])) :=
  ⟨fun _ _ hi q => ⟨q, hi⟩, fun _ q => ⟨q, Nat.le_refl _⟩, fun _ _ _ _ _ _ y => y⟩
end ClX
end

section
set_option maxRecDepth 100000
set_option maxHeartbeats 2000000
namespace P2
open PySem L2 ClX
/-- what the top has written of Poly and its errors -/
structure Py (K : PySem.W.Frag) (mg : Str → Option Value) (C B M : Addr) : Prop where
  cl : Cls K C
  n1 : NoAttr K C "prime"
  n2 : NoAttr K C "wide"
  n3 : NoAttr K C "_terms"
  n4 : NoAttr K C "degree"
  gC : mg "Poly" = some (.ref C)
  mu : ∃ t, mg "MOST_UNKNOWNS" = some (.int 12 t)
  md : ∃ t, mg "MOST_DEGREE" = some (.int 120 t)
  gB : mg "BadPoly" = some (.ref B)
  xB : PySem.W.excIn K B [.type "ValueError", .type "Exception", .type "BaseException", .type "object"] "ValueError.__new__" = true
  kB : PySem.W.keepIn K (.ref B) = true
  sB : PySem.W.subIn K (.ref B) (.type "BaseException") = some true
  tB : PySem.W.typeIn K (.ref B) = some (.type "type")
  gM : mg "TooMany" = some (.ref M)
  oM : OexC K M
  c1 : PySem.W.findIn K (.ref C) "__class__" = some (some (.builtin "object.__class__"))
  c2 : PySem.W.specialIn K (.builtin "object.__class__") "__get__" = some (some (.builtin "getset_descriptor.__get__"))
  c3 : PySem.W.takesIn K (.builtin "object.__class__") = some true
  c4 : PySem.W.mroIn K C (.type "object") = some true
  kC : PySem.W.kitOne K (.ref C) (.ref C) = some true
  kN : ∀ n ∈ kinds7, PySem.W.kitOne K (.type n) (.ref C) = some false
abbrev sInit : Stmt := inClass (top 26) 0
abbrev sTerms : Stmt := inClass (top 26) 1
abbrev sEq : Stmt := inClass (top 26) 2
abbrev NI : List Str := ["self", "prime", "wide", "terms", "row", "number"]
theorem scI : FnScope NI ["self", "prime", "wide", "terms"] (defScope sInit) := ⟨rfl, rfl, rfl, by decide +kernel, rfl, by decide +kernel, by decide +kernel⟩
abbrev stI (i : Nat) : Stmt := (defBody sInit).getD i (.Pass ⟨0, 0, 0, 0⟩)
section
variable {P : Program} {w : World} {K : PySem.W.Frag} {mg : Str → Option Value} {base : Heap} {bp C B M : Addr}
abbrev cxI (P : Program) (w : World) (K : PySem.W.Frag) (mg : Str → Option Value) (base : Heap) (f : Addr) (cdv : Value) (A : Around) (outer : List Env) (s : Shared) (H : Hp) (E : XK) : Cx := cxOf (L2.CX P w) P w K mg base NI "Poly.__init__" (defScope sInit) f cdv A outer s H E
theorem ps_weak' {X : Cx} {st : Stmt} {t t' : TS} (h : PS X st t) (w : ∀ D σ H, t' D σ H → t D σ H) : PS X st t' := ⟨fun pins s σ H D I q => h.run pins s σ H D I (w D σ H q)⟩
/-- the first look: the prime -/
theorem init_p {f fP : Addr} {dP : FuncData} {cdv : Value} {A : Around} {outer : List Env} {s : Shared} {H : Hp} {E : XK}
    (GP : FnOk P w K mg base (L2.CX P w) 3 fP dP ["prime"] (spCheckPrime K bp)) (kP : PySem.W.keepIn K (.ref fP) = true) (bP : Binds K dP ["prime"] []) (gP : mg "check_prime" = some (.ref fP))
    (hr : Room 5 (A.deeper (PyProof.Rows.envOfC "Poly.__init__" (defScope sInit) s.heap.objs.size f cdv))) :
    PS (cxI P w K mg base f cdv A outer s H E) (stI 0) (fun D σ H => ∃ (x : Addr) (vp vw vt : V), σ = [some (.ref x), some vp, some vw, some vt, none, none] ∧ PV K H vp ∧ (isP vp = false → E (.ref bp) none H) ∧ (isP vp = true → D.nx σ H)) := by
  refine ps_weak' (ps_expr (pe_call (E := E) GP (hr.mono (by decide)) rfl gP kP bP .nil (passes_call (takes_of rfl rfl rfl rfl) fun _ _ _ _ h => h) (pa_cons (pv 1) pa_nil))) ?_
  rintro D σ H ⟨x, vp, vw, vt, rfl, p1, k1, k2⟩
  exact ⟨vp, rfl, vp, rfl, p1, k2, k1⟩
/-- the second look: the unknowns -/
theorem init_w {f fW : Addr} {dW : FuncData} {cdv : Value} {A : Around} {outer : List Env} {s : Shared} {H : Hp} {E : XK} (Y : Py K mg C B M)
    (GW : FnOk P w K mg base CX0 2 fW dW ["thing", "least", "most"] (spWithin K)) (kW : PySem.W.keepIn K (.ref fW) = true) (bW : Binds K dW ["thing", "least", "most"] []) (gW : mg "is_within" = some (.ref fW))
    (hr : Room 5 (A.deeper (PyProof.Rows.envOfC "Poly.__init__" (defScope sInit) s.heap.objs.size f cdv))) :
    PS (cxI P w K mg base f cdv A outer s H E) (stI 1) (fun D σ H => ∃ (x : Addr) (vp vw vt : V), σ = [some (.ref x), some vp, some vw, some vt, none, none] ∧ PV K H vw ∧ (inB vw 1 12 = false → E (.ref B) none H) ∧ (inB vw 1 12 = true → D.nx σ H)) := by
  obtain ⟨tu, hu⟩ := Y.mu
  refine ps_weak' (ps_if (pt_not (pt_val (pe_call GW (hr.mono (by decide)) rfl gW kW bW .nil pass0 (pa_cons (pv 2) (pa_cons pe_int (pa_cons (pe_glob (v := .int 12) rfl hu ⟨tu, rfl⟩) pa_nil))))))
      (pss_one (ps_raise rfl (takes_of rfl rfl rfl rfl) (pmk_own PySem.F.excBase_ValueError Y.xB Y.gB Y.kB (raises_own Y.sB Y.tB) rfl))) pss_nil) ?_
  rintro D σ H ⟨x, vp, vw, vt, rfl, p2, k3, k4⟩
  refine ⟨vw, rfl, vw, 1, 12, rfl, p2, _, rfl, ?_⟩
  cases hb : inB vw 1 12 with
  | true => exact iteF (k4 hb)
  | false => exact iteT (k3 hb)
theorem pv_flat {K : PySem.W.Frag} {H : Hp} {v : V} (h : flatV v = true) : PV K H v := by
  cases v with
  | non => exact ⟨"NoneType", by decide, .base .non⟩
  | bl b => exact ⟨"bool", by decide, .base (.bl b)⟩
  | int i => exact ⟨"int", by decide, .base (.int i)⟩
  | str x => exact ⟨"str", by decide, .base (.str x)⟩
  | _ => cases h
theorem pv_key {K : PySem.W.Frag} {H : Hp} (k : Key) : PV K H (kV k) := by
  cases k with
  | inl i => exact pv_flat (v := .int i) rfl
  | inr x => exact pv_flat (v := .str x) rfl
/-- what is looked at of the terms: whether they are some -/
inductive TermsAre (K : PySem.W.Frag) (H : Hp) (m : Int) : V → Bool → Prop
  | other {v : V} {n : String} (hn : n ∈ kinds7) (t : TyX K H v (.type n)) (nd : n ≠ "dict") : TermsAre K H m v false
  | rows {a : Addr} {kvs : List (List Key × V)} (h : H a = some (.dT kvs)) (hz : kvs.length ≤ 1000000) (hk : ∀ p ∈ kvs, p.1.length ≤ 1000 ∧ flatV p.2 = true) : TermsAre K H m (.ref a) (kvs.all fun p => termB "tuple" (p.1.map kV) m p.2)
  | raw {a t : Addr} {ks : List V} {v : V} (h : H a = some (RawO a t v)) (ht : H t = some (.tup ks)) (hz : ks.length ≤ 1000) (hk : ∀ x ∈ ks, flatV x = true) (hv : flatV v = true) : TermsAre K H m (.ref a) (termB "tuple" ks m v)
  | keys {a : Addr} {kvs : List (Key × V)} (h : H a = some (.dK kvs)) (hz : kvs.length ≤ 1000000) (hk : ∀ p ∈ kvs, flatV p.2 = true) : TermsAre K H m (.ref a) kvs.isEmpty
theorem take_all {α : Type} (f : α → Bool) (xs : List α) : ((xs.take xs.length).map f).all id = xs.all f := by
  rw [List.take_length, List.all_map]
  rfl
/-- the third look: the terms -/
theorem init_b {f fT : Addr} {dT : FuncData} {cdv : Value} {A : Around} {outer : List Env} {s : Shared} {H : Hp} {E : XK} (T : Tx K mg bp) (Y : Py K mg C B M)
    (GT : FnOk P w K mg base CX0 3 fT dT ["row", "number", "wide"] (spIsTerm K)) (kT : PySem.W.keepIn K (.ref fT) = true) (bT : Binds K dT ["row", "number", "wide"] []) (gT : mg "is_term" = some (.ref fT))
    (hr : Room 5 (A.deeper (PyProof.Rows.envOfC "Poly.__init__" (defScope sInit) s.heap.objs.size f cdv))) :
    PS (cxI P w K mg base f cdv A outer s H E) (stI 2) (fun D σ H => ∃ (x : Addr) (vp vt : V) (m : Int) (b : Bool), σ = [some (.ref x), some vp, some (.int m), some vt, none, none] ∧ TermsAre K H m vt b ∧ (b = false → ∀ H', Same H H' → E (.ref B) none H') ∧ (b = true → ∀ H', Same H H' → D.nx σ H')) := by
  refine ps_weak' (ps_if (PW.pt (pw_or (pt_not (pt_val (pe_callB (r := fun xs H Q => rIsi K xs H Q ∨ rIsiB K xs H Q) (call_or call_isi call_isiB) (by rfl) T.isi (by decide +kernel) (pa_cons (pv 3) (pa_cons (pe_bltn (v := .ty "dict") (by rfl) T.dict (by decide +kernel) rfl) pa_nil)))))
      (pw_or1 (pt_not (pt_val (pe_callB (cr_all rfl) (by rfl) T.all (by decide +kernel) (pa_cons (pe_lock (pe_lc (own := [("row", 4), ("number", 5)]) (g := gTup K 2 (gCons (gName 4) (gCons (gName 5) gNil))) (tt := tYes) rfl scI.nd (pi_or (pi_or (pi_items (pv 3)) (pi_itemsT (pv 3))) (pi_itemsB (pv 3))) (blkOk_by (own := [("row", 4), ("number", 5)]) (N := NI) (sc := defScope sInit) (by decide +kernel))
        (fun _ _ _ _ _ => pg_tup rfl (pgs_cons (pg_name (i := 4) scI.nd rfl (Or.inl rfl)) (pgs_cons (pg_name (i := 5) scI.nd rfl (Or.inl rfl)) pgs_nil))) (fun _ _ _ _ _ => pts_nil) (fun _ _ _ _ _ => pe_call GT (hr.mono (by decide)) rfl gT kT bT .nil pass0 (pa_cons (pv 4) (pa_cons (pv 5) (pa_cons (pv 2) pa_nil)))))) pa_nil)))))))
      (pss_one (ps_raise rfl (takes_of rfl rfl rfl rfl) (pmk_own PySem.F.excBase_ValueError Y.xB Y.gB Y.kB (raises_own Y.sB Y.tB) rfl))) pss_nil) ?_
  rintro D σ H ⟨x, vp, vt, m, b, rfl, ht, kf, kt⟩
  have look : ∀ {n : String}, n ∈ kinds7 → TyX K H vt (.type n) → PySem.W.kitOne K (.type n) (.type "dict") = some (decide (n = "dict")) := fun hn _ => kit_ty (kk_dict _ hn)
  cases ht with
  | @other _ n hn t nd =>
    refine ⟨vt, rfl, .inl ⟨vt, .ty "dict", .type n, .type "dict", _, rfl, .ty _, t, look hn t, _, rfl, ?_⟩⟩
    rw [decide_eq_false nd]
    exact iteT (iteT (kf rfl _ (Same.refl _)))
  | @rows a kvs h hz hk =>
    have t : TyX K H (.ref a) (.type "dict") := .base (.dT h)
    refine ⟨_, rfl, .inl ⟨_, .ty "dict", .type "dict", .type "dict", _, rfl, .ty _, t, look (by decide) t, _, rfl, ?_⟩⟩
    refine iteF ?_
    refine ⟨a, _, h, trivial, fun od => ?_⟩
    have hf : upd H a (.frz od (.dT kvs)) a = some (.frz od (.dT kvs)) := upd_same
    refine .inl (.inr ⟨_, rfl, a, od, _, rfl, hf, fun D1 hD => lc_it walk_itemsT (fun i H' => Same (upd H a (.frz od (.dT kvs))) H' ∧ H' D1 = some (.lst (((kvs.take i).map fun p => termB "tuple" (p.1.map kV) m p.2).map V.bl))) ⟨(Same.refl _).put hD, upd_same⟩ (fun i H' _ h => h.1 _ _ hf) ?_ ?_⟩)
    · rintro i y H1 H2 hi ⟨S1, hL⟩ ⟨tt, q, k, v, hm, rfl, hq, htn, rfl⟩
      obtain ⟨z1, z2⟩ := hk _ (List.mem_of_getElem? hm)
      have S2 := S1.new (o := .tup [V.ref q, v]) htn
      have hL2 : upd H1 tt (.tup [V.ref q, v]) D1 = some (.lst (((kvs.take i).map fun p => termB "tuple" (p.1.map kV) m p.2).map V.bl)) := by rw [upd_ne (ne_of_none hL htn)]; exact hL
      have hq2 : upd H1 tt (.tup [V.ref q, v]) q = some (.tup (k.map kV)) := by rw [upd_ne (ne_of_none hq htn)]; exact hq
      refine ⟨tt, _, rfl, SqT.of upd_same, rfl, _, _, rfl, _, _, rfl, rfl, rfl, _, rfl, _, rfl, _, rfl, .ref q, v, "tuple", m, q, k.map kV, rfl, by decide, .base (.tup hq2), pv_flat z2, fun _ => ⟨rfl, SqT.of hq2, by rw [List.length_map]; exact z1, fun x hx => ?_⟩, fun H3 S3 => ⟨_, S3 _ _ hL2, ?_, (S2.trans S3).put hD, ?_⟩⟩
      · obtain ⟨kk, _, e⟩ := List.mem_map.mp hx
        rw [← e]
        exact pv_key kk
      · rw [List.length_map, List.length_map, List.length_take]
        have h8 : (1000000 : Nat) < sizeLine := by decide
        omega
      · rw [upd_same, take_succ (fun p : List Key × V => termB "tuple" (p.1.map kV) m p.2) hm, List.map_append]
        rfl
    · intro H' ⟨S1, hL⟩
      have hDa : D1 ≠ a := fun z => by rw [z, hf] at hD; cases hD
      have S2 := lock_same h S1
      have hL2 := lock_at (u := .dT kvs) hDa hL
      refine ⟨S1 _ _ hf, D1, _, rfl, SqL.of hL2, _, rfl, ?_⟩
      rw [take_all]
      cases hb : (kvs.all fun p => termB "tuple" (p.1.map kV) m p.2) with
      | true => exact iteF (kt hb _ S2)
      | false => exact iteT (kf hb _ S2)
  | @raw a t0 ks v h ht hz hk hv =>
    have look2 : PySem.W.kitOne K (.type "dict") (.type "dict") = some true := kit_ty (kk_dict _ (show "dict" ∈ kinds7 by decide))
    refine ⟨_, rfl, .inr ⟨a, t0, v, .ty "dict", .type "dict", _, rfl, .ty _, h, look2, _, rfl, ?_⟩⟩
    refine iteF ?_
    refine ⟨a, _, h, trivial, fun od => ?_⟩
    have hf : upd H a (.frz od (RawO a t0 v)) a = some (.frz od (RawO a t0 v)) := upd_same
    have nta : t0 ≠ a := fun e => by rw [e, h] at ht; unfold RawO at ht; cases ht
    have htf : upd H a (.frz od (RawO a t0 v)) t0 = some (.tup ks) := by rw [upd_ne nta]; exact ht
    refine .inr ⟨_, rfl, a, od, t0, v, rfl, hf, fun D1 hD => lc_it walk_itemsB (fun i H' => Same (upd H a (.frz od (RawO a t0 v))) H' ∧ H' D1 = some (.lst (((List.replicate i (termB "tuple" ks m v))).map V.bl))) ⟨(Same.refl _).put hD, upd_same⟩ (fun i H' _ h => h.1 _ _ hf) ?_ ?_⟩
    · rintro i y H1 H2 hi ⟨S1, hL⟩ ⟨tt, rfl, htn, rfl⟩
      obtain rfl : i = 0 := by omega
      have S2 := S1.new (o := .tup [V.ref t0, v]) htn
      have hL2 : upd H1 tt (.tup [V.ref t0, v]) D1 = some (.lst ((List.replicate 0 (termB "tuple" ks m v)).map V.bl)) := by rw [upd_ne (ne_of_none hL htn)]; exact hL
      have hq2 : upd H1 tt (.tup [V.ref t0, v]) t0 = some (.tup ks) := S2 _ _ htf
      exact ⟨tt, _, rfl, SqT.of upd_same, rfl, _, _, rfl, _, _, rfl, rfl, rfl, _, rfl, _, rfl, _, rfl, .ref t0, v, "tuple", m, t0, ks, rfl, by decide, .base (.tup hq2), pv_flat hv, fun _ => ⟨rfl, SqT.of hq2, hz, fun x hx => pv_flat (hk x hx)⟩, fun H3 S3 => ⟨_, S3 _ _ hL2, (show (0 : Nat) < sizeLine by decide), (S2.trans S3).put hD, by rw [upd_same]; rfl⟩⟩
    · intro H' ⟨S1, hL⟩
      have hDa : D1 ≠ a := fun z => by rw [z, hf] at hD; cases hD
      have S2 := lock_same h S1
      have hL2 := lock_at (u := RawO a t0 v) hDa hL
      refine ⟨S1 _ _ hf, D1, _, rfl, SqL.of hL2, _, rfl, ?_⟩
      have e : (List.replicate 1 (termB "tuple" ks m v)).all id = termB "tuple" ks m v := by simp
      rw [e]
      cases hb : termB "tuple" ks m v with
      | true => exact iteF (kt hb _ S2)
      | false => exact iteT (kf hb _ S2)
  | @keys a kvs h hz hk =>
    have t : TyX K H (.ref a) (.type "dict") := .base (.dK h)
    refine ⟨_, rfl, .inl ⟨_, .ty "dict", .type "dict", .type "dict", _, rfl, .ty _, t, look (by decide) t, _, rfl, ?_⟩⟩
    refine iteF ?_
    refine ⟨a, _, h, trivial, fun od => ?_⟩
    have hf : upd H a (.frz od (.dK kvs)) a = some (.frz od (.dK kvs)) := upd_same
    refine .inl (.inl ⟨_, rfl, a, od, _, rfl, hf, fun D1 hD => lc_it walk_items (fun i H' => Same (upd H a (.frz od (.dK kvs))) H' ∧ H' D1 = some (.lst (((kvs.take i).map fun _ => false).map V.bl))) ⟨(Same.refl _).put hD, upd_same⟩ (fun i H' _ h => h.1 _ _ hf) ?_ ?_⟩)
    · rintro i y H1 H2 hi ⟨S1, hL⟩ ⟨tt, kx, vx, rfl, htn, rfl, ek, ev⟩
      obtain ⟨p, hm⟩ : ∃ p, kvs[i]? = some p := ⟨_, List.getElem?_eq_getElem hi⟩
      have ek : (kvs[i]?.map fun kv => kV kv.1) = some kx := ek
      have ev : kvs[i]?.map Prod.snd = some vx := ev
      rw [hm] at ek ev
      obtain rfl := (Option.some.inj ek).symm
      obtain rfl := (Option.some.inj ev).symm
      have z2 := hk _ (List.mem_of_getElem? hm)
      have S2 := S1.new (o := .tup [kV p.1, p.2]) htn
      have hL2 : upd H1 tt (.tup [kV p.1, p.2]) D1 = some (.lst (((kvs.take i).map fun _ => false).map V.bl)) := by rw [upd_ne (ne_of_none hL htn)]; exact hL
      obtain ⟨n, hn, tn, nt⟩ : ∃ n, n ∈ kinds7 ∧ TyX K (upd H1 tt (.tup [kV p.1, p.2])) (kV p.1) (.type n) ∧ n ≠ "tuple" := by
        cases p.1 with
        | inl i => exact ⟨"int", by decide, .base (.int i), by decide⟩
        | inr x => exact ⟨"str", by decide, .base (.str x), by decide⟩
      refine ⟨tt, _, rfl, SqT.of upd_same, rfl, _, _, rfl, _, _, rfl, rfl, rfl, _, rfl, _, rfl, _, rfl, kV p.1, p.2, n, m, 0, [], rfl, hn, tn, pv_flat z2, fun e => absurd e nt, fun H3 S3 => ⟨_, S3 _ _ hL2, ?_, (S2.trans S3).put hD, ?_⟩⟩
      · rw [List.length_map, List.length_map, List.length_take]
        have h8 : (1000000 : Nat) < sizeLine := by decide
        omega
      · rw [upd_same, take_succ (fun _ => false) hm, List.map_append]
        unfold termB
        rw [decide_eq_false nt]
        rfl
    · intro H' ⟨S1, hL⟩
      have hDa : D1 ≠ a := fun z => by rw [z, hf] at hD; cases hD
      have S2 := lock_same h S1
      have hL2 := lock_at (u := .dK kvs) hDa hL
      refine ⟨S1 _ _ hf, D1, _, rfl, SqL.of hL2, _, rfl, ?_⟩
      rw [take_all]
      cases kvs with
      | nil => exact iteF (kt rfl _ S2)
      | cons p r => exact iteT (kf rfl _ S2)
/-- an error's __init__: self.f = v -/
def spErr (f : Str) (C : Addr) : Sp := fun vs H Q _ => ∃ (a : Addr) (v : V), vs = [.ref a, v] ∧ H a = some (exo a C none) ∧ ∀ dx, H dx = none → dx ≠ a → Q .non (upd (upd H dx (exd dx [(f, v)])) a (exo a C (some dx)))
abbrev sTM : Stmt := inClass (top 5) 0
abbrev sBN : Stmt := inClass (top 2) 0
theorem scTM : FnScope ["self", "most"] ["self", "most"] (defScope sTM) := ⟨rfl, rfl, rfl, by decide +kernel, rfl, by decide +kernel, by decide +kernel⟩
theorem ok_tm {f : Addr} {fd : FuncData} (F : Fun K "__init__" "TooMany.__init__" sTM f fd) (O : OexC K M) (n : PySem.W.findIn K (.ref M) "most" = some none) : FnOk P w K mg base CX0 1 f fd ["self", "most"] (spErr "most" M) := by
  refine F.ok scTM (fun vs H Q E h => ?_) (fun cdv A outer s H vs Q E hr h => ?_)
  · obtain ⟨a, v, rfl, _⟩ := h
    rfl
  · obtain ⟨a, v, rfl, ha, k⟩ := h
    exact ⟨_, pss_one (ps_ost (pv 0) (pv 1)), _, rfl, _, rfl, a, _, rfl, O, n, .inl ⟨ha, fun dx h1 h2 => k dx h1 h2⟩⟩
/-- what is left of memory behind an error with an attribute -/
theorem err_left {H : Hp} {f : Str} {C a : Addr} {v : V} {Q : XK} (ha : H a = none) (k : ∀ d H', Same H H' → H d = none → H' d = some (.xd [(f, v)]) → Q (.ref C) (some d) H') :
    spErr f C [.ref a, v] (upd H a (exo a C none)) (fun u H2 => u = .non ∧ ∃ (d : Addr) (fs : List (Str × V)), H2 a = some (exo a C (some d)) ∧ H2 d = some (exd d fs) ∧ H d = none ∧ Q (.ref C) (some d) (upd (del H2 a) d (.xd fs))) (fun _ _ _ => False) := by
  refine ⟨a, v, rfl, upd_same, fun dx h1 h2 => ⟨rfl, dx, _, upd_same, by rw [upd_ne h2, upd_same], ?_, ?_⟩⟩
  · rw [upd_ne h2] at h1
    exact h1
  · have hd : H dx = none := by rw [upd_ne h2] at h1; exact h1
    refine k dx _ (fun b o e => ?_) hd upd_same
    have n1 : b ≠ dx := ne_of_none e hd
    have n2 : b ≠ a := ne_of_none e ha
    rw [upd_ne n1, del_ne n2, upd_ne n2, upd_ne n1, upd_ne n2]
    exact e
/-- the fourth look: no degree above 120 -/
theorem init_c {f fM : Addr} {dM : FuncData} {cdv : Value} {A : Around} {outer : List Env} {s : Shared} {H : Hp} {E : XK} (T : Tx K mg bp) (Y : Py K mg C B M)
    (GM : FnOk P w K mg base CX0 1 fM dM ["self", "most"] (spErr "most" M)) (bM : Binds K dM ["self", "most"] []) (iM : PySem.W.findIn K (.ref M) "__init__" = some (some (.ref fM))) (tM : PySem.W.typeIn K (.ref fM) = some (.type "function"))
    (hr : Room 5 (A.deeper (PyProof.Rows.envOfC "Poly.__init__" (defScope sInit) s.heap.objs.size f cdv))) :
    PS (cxI P w K mg base f cdv A outer s H E) (stI 3) (fun D σ H => ∃ (x a : Addr) (vp vw : V) (ts : List (List Int × Int)), σ = [some (.ref x), some vp, some vw, some (.ref a), none, none] ∧ H a = some (.dT (rK ts)) ∧ ts.length ≤ 1000000 ∧
      ((ts.any fun p => decide (120 < p.1.sum)) = true → ∀ d H', Same H H' → H d = none → H' d = some (.xd [("most", .int 120)]) → E (.ref M) (some d) H') ∧ ((ts.any fun p => decide (120 < p.1.sum)) = false → ∀ H', Same H H' → D.nx σ H')) := by
  obtain ⟨tm, hm⟩ := Y.md
  refine ps_weak' (ps_if (pt_val (pe_callB (cr_any rfl) (by rfl) T.any (by decide +kernel) (pa_cons (pe_lock (pe_lc (own := [("row", 4)]) (g := gName 4) (tt := tYes) rfl scI.nd (pi_keys (pv 3)) (blkOk_by (own := [("row", 4)]) (N := NI) (sc := defScope sInit) (by decide +kernel))
        (fun _ _ _ _ _ => pg_name (i := 4) scI.nd rfl (Or.inl rfl)) (fun _ _ _ _ _ => pts_nil) (fun _ _ _ _ _ => pe_cmpR op_gt (pe_callB (r := rSumT K) (cr_sumT rfl) (by rfl) T.sum (by decide +kernel) (pa_cons (pv 4) pa_nil)) (pe_glob (v := .int 120) (by rfl) hm ⟨tm, rfl⟩) (nomark _)))) pa_nil)))
      (pss_one (ps_raise rfl (takes_of rfl rfl rfl rfl) (pmk_oex (dvs := []) Y.oM iM tM GM (hr.mono (by decide)) bM .nil pass0 rfl Y.gM (pa_cons (pe_glob (v := .int 120) (by rfl) hm ⟨tm, rfl⟩) pa_nil)))) pss_nil) ?_
  rintro D σ H ⟨x, a, vp, vw, ts, rfl, h, hz, kf, kt⟩
  refine ⟨a, _, h, trivial, fun od => ?_⟩
  have hf : upd H a (.frz od (.dT (rK ts))) a = some (.frz od (.dT (rK ts))) := upd_same
  refine ⟨_, rfl, a, od, rfl, .inr ⟨_, hf, fun D1 hD => lc_it walk_keysT (fun i H' => Same (upd H a (.frz od (.dT (rK ts)))) H' ∧ H' D1 = some (.lst (((ts.take i).map fun p => decide (120 < p.1.sum)).map V.bl))) ⟨(Same.refl _).put hD, upd_same⟩ (fun i H' _ h => h.1 _ _ hf) ?_ ?_⟩⟩
  · rintro i y H1 H2 hi ⟨S1, hL⟩ ⟨rfl, kk, v, q, hkv, rfl, hq⟩
    obtain ⟨r, n, hts, rfl, rfl⟩ := asK_get hkv
    rw [rowK_kV] at hq
    rw [asK_len] at hi
    refine ⟨rfl, _, rfl, q, r, rfl, SqT.of hq, _, _, rfl, rfl, _, hL, ?_, S1.put hD, ?_⟩
    · rw [List.length_map, List.length_map, List.length_take]
      have h8 : (1000000 : Nat) < sizeLine := by decide
      omega
    · rw [upd_same, take_succ (fun p : List Int × Int => decide (120 < p.1.sum)) hts, List.map_append]
      rfl
  · intro H' ⟨S1, hL⟩
    rw [asK_len] at hL
    have hDa : D1 ≠ a := fun z => by rw [z, hf] at hD; cases hD
    have S2 := lock_same h S1
    have hL2 := lock_at (u := .dT (rK ts)) hDa hL
    refine ⟨S1 _ _ hf, D1, _, rfl, SqL.of hL2, _, rfl, ?_⟩
    have e : ((ts.take ts.length).map fun p : List Int × Int => decide (120 < p.1.sum)).any id = ts.any fun p => decide (120 < p.1.sum) := by
      rw [List.take_length, List.any_map]
      rfl
    rw [e]
    cases hb : (ts.any fun p : List Int × Int => decide (120 < p.1.sum)) with
    | true => exact iteT ⟨by decide, fun b hn => err_left hn fun d H3 S3 nd hd => kf hb d H3 (S2.trans S3) (S2.free nd) hd⟩
    | false => exact iteF (kt hb _ S2)
end
end P2
end

section
set_option maxRecDepth 100000
set_option maxHeartbeats 2000000
namespace P2
open PySem L2 ClX
/-- the terms that stand, rows as they come -/
def tidyOf (p : Int) (ts : List (List Int × Int)) (ys : List (List Int)) : List (List Int × Int) := foldI (fun r => if (getA ts r).getD 0 % p = 0 then none else some (r, (getA ts r).getD 0 % p)) ys
def degOf (ts : List (List Int × Int)) : Int := maxOr (-1) (ts.map fun p => p.1.sum)
def fsP (p : Int) (n : Int) (d : Addr) (dg : Int) : List (Str × V) := putF "degree" (.int dg) (putF "_terms" (.ref d) (putF "wide" (.int n) (putF "prime" (.int p) [])))
theorem fs_len1 (v : V) : (putF "prime" v []).length ≤ 1 := length_putF "prime" v []
theorem fs_len2 (u v : V) : (putF "wide" u (putF "prime" v [])).length ≤ 2 := by
  have h1 := length_putF "wide" u (putF "prime" v [])
  have h2 := fs_len1 v
  omega
theorem fs_len3 (t u v : V) : (putF "_terms" t (putF "wide" u (putF "prime" v []))).length ≤ 3 := by
  have h1 := length_putF "_terms" t (putF "wide" u (putF "prime" v []))
  have h2 := fs_len2 u v
  omega
section
variable {P : Program} {w : World} {K : PySem.W.Frag} {mg : Str → Option Value} {base : Heap} {bp C B M : Addr}
theorem init_d {f : Addr} {cdv : Value} {A : Around} {outer : List Env} {s : Shared} {H : Hp} {E : XK} (T : Tx K mg bp) (Y : Py K mg C B M)
    (hr : Room 5 (A.deeper (PyProof.Rows.envOfC "Poly.__init__" (defScope sInit) s.heap.objs.size f cdv))) :
    PSs (cxI P w K mg base f cdv A outer s H E) [stI 4, stI 5, stI 6, stI 7] (fun D σ H => ∃ (x dx a : Addr) (p n : Int) (ts : List (List Int × Int)), σ = [some (.ref x), some (.int p), some (.int n), some (.ref a), none, none] ∧ H x = some (.ins C dx []) ∧ H a = some (.dT (rK ts)) ∧ (ts.map (·.1)).Nodup ∧
      (∀ q ∈ ts, q.1 ≠ []) ∧ 0 < p ∧ ts.length ≤ 1000000 ∧ ∀ (d : Addr) (H' : Hp) (ys : List (List Int)), ys.Perm (ts.map (·.1)) → Asc ys → SameX x H H' → H d = none → H' d = some (.dT (rK (tidyOf p ts ys))) → H' x = some (.ins C dx (fsP p n d (degOf (tidyOf p ts ys)))) → D.nx σ H') := by
  have hu := hu_of hr
  refine pss_weak (pss_cons (ps_fld (pv 0) (pv 1) rfl) (pss_cons (ps_fld (pv 0) (pv 2) rfl)
    (pss_cons (ps_fld (pv 0) (pe_dcT (own := [("row", 4)]) (g := gName 4) (tt := tTru K (tOp (rI (fun _ j => 0 < j) fun i j => .int (i % j)) (tDGet (tVar 3) (tVar 4)) (tVar 1))) (Nat.lt_of_succ_lt hu) rfl scI.nd (pi_list (pe_callB (r := rSortT) (call_sortedT rfl) (by rfl) T.sorted (by decide +kernel) (pa_cons (pv 3) pa_nil))) (blkOk_by (own := [("row", 4)]) (N := NI) (sc := defScope sInit) (by decide +kernel))
        (fun _ _ _ _ _ => pg_name (i := 4) scI.nd rfl (Or.inl rfl)) (fun _ _ _ _ _ => pts_one (pt_truth (pe_op op_mod (pe_dget hu (pv 3) (pv 4) (fun _ _ => rfl)) (pv 1)) (by intro _; rfl))) (fun _ _ _ _ _ => pv 4) (fun _ _ _ _ _ => pe_op op_mod (pe_dget hu (pv 3) (pv 4) (fun _ _ => rfl)) (pv 1))) rfl)
    (pss_one (ps_fld (pv 0) (pe_callBK (r := rMaxD K) (cr_maxD rfl hu) (by rfl) T.max (by decide +kernel) (pa_cons (pe_lock (pe_lc (own := [("row", 4)]) (g := gName 4) (tt := tYes) rfl scI.nd (pi_keys (pe_fld (pv 0) rfl)) (blkOk_by (own := [("row", 4)]) (N := NI) (sc := defScope sInit) (by decide +kernel))
        (fun _ _ _ _ _ => pg_name (i := 4) scI.nd rfl (Or.inl rfl)) (fun _ _ _ _ _ => pts_nil) (fun _ _ _ _ _ => pe_callB (r := rSumT K) (cr_sumT rfl) (by rfl) T.sum (by decide +kernel) (pa_cons (pv 4) pa_nil)))) pa_nil) (pk_cons (pe_un un_neg pe_int) pk_nil)) rfl))))) ?_
  rintro D σ H ⟨x, dx, a, p, n, ts, rfl, hx, ha, hn, hne, hp, hz, k⟩
  refine ⟨_, rfl, _, rfl, x, C, dx, [], rfl, hx, Y.cl, Y.n1, by decide, ?_⟩
  refine ⟨_, rfl, _, rfl, x, C, dx, _, rfl, upd_same, Y.cl, Y.n2, Nat.lt_of_le_of_lt (fs_len1 _) (by decide), ?_⟩
  rw [upd_upd]
  have S1 : SameX x H (upd H x (.ins C dx (putF "wide" (.int n) (putF "prime" (.int p) [])))) := fun b o e ne => by rw [upd_ne ne]; exact e
  have x1 : upd H x (.ins C dx (putF "wide" (.int n) (putF "prime" (.int p) []))) x = some (.ins C dx (putF "wide" (.int n) (putF "prime" (.int p) []))) := upd_same
  have f1 : ∀ b, upd H x (.ins C dx (putF "wide" (.int n) (putF "prime" (.int p) []))) b = none → H b = none := fun b e => by
    by_cases hb : b = x
    · subst hb
      rw [x1] at e
      cases e
    · rw [upd_ne hb] at e
      exact e
  have hax : a ≠ x := fun z => by rw [z, hx] at ha; cases ha
  generalize upd H x (.ins C dx (putF "wide" (.int n) (putF "prime" (.int p) []))) = H1 at S1 x1 f1
  have a1 := S1 _ _ ha hax
  have ek : (rK ts).map (·.1) = (ts.map (·.1)).map fun k => k.map Sum.inl := by
    unfold rK asK
    rw [List.map_map, List.map_map]
    rfl
  refine ⟨_, rfl, a, rK ts, ts.map (·.1), rfl, .inl a1, ek, fun r hr => ?_, fun pL bs ys perm asc pb hpL => ⟨pL, rfl, ⟨_, SqL.of upd_same⟩, fun D1 hD => ?_⟩⟩
  · obtain ⟨q, hq, e⟩ := List.mem_map.mp hr
    rw [← e]
    exact hne q hq
  have S2 : Same H1 (upd H1 pL (.lst (bs.map V.ref))) := (Same.refl _).put hpL
  have hL0 : SqL K (upd H1 pL (.lst (bs.map V.ref))) pL (bs.map V.ref) := SqL.of upd_same
  generalize upd H1 pL (.lst (bs.map V.ref)) = H2 at S2 hL0 hD
  have lb : ys.length = bs.length := Paired.length pb
  refine dcT_it (walk_list (K := K) (a := pL) (xs := bs.map V.ref)) (fun i H' => Same H2 H' ∧ H' D1 = some (.dT (rK (tidyOf p ts (ys.take i))))) ⟨(Same.refl _).put hD, upd_same⟩ (fun i H' _ h => h.1.seq hL0) ?_ ?_
  · rintro i v H3 H4 hi ⟨S3, hL⟩ ⟨rfl, hv⟩
    rw [List.length_map] at hi
    have hy : ys[i]? = some ys[i] := List.getElem?_eq_getElem (by omega)
    obtain ⟨b, hb, hbt⟩ := paired_get pb hy
    rw [List.getElem?_map, hb] at hv
    obtain rfl := (Option.some.inj hv).symm
    have ht3 := S3 _ _ (S2 _ _ hbt)
    have ha3 := S3 _ _ (S2 _ _ a1)
    obtain ⟨q, hq, eq⟩ := List.mem_map.mp (perm.mem_iff.mp (List.mem_of_getElem? hy))
    obtain ⟨j, hj, hjq⟩ := List.mem_iff_getElem.mp hq
    have hgj : getA ts ys[i] = some q.2 := getA_at hn (i := j) (by rw [List.getElem?_eq_getElem hj, hjq, ← eq])
    have dg : DGet H4 a (.ref b) (some (.int q.2)) := .inr ⟨rK ts, rowK ys[i], b, .inl ha3, rfl, by rw [rowK_kV]; exact ht3, by rw [valV_asK rowK_inj, hgj]; rfl⟩
    have hs := foldI_snoc (fun r => if (getA ts r).getD 0 % p = 0 then none else some (r, (getA ts r).getD 0 % p)) hy
    rw [hgj] at hs
    simp only [Option.getD_some] at hs
    refine ⟨rfl, _, rfl, _, rfl, a, _, rfl, dg, _, rfl, q.2, p, rfl, rfl, hp, _, rfl, ?_⟩
    by_cases h0 : q.2 % p = 0
    · simp only [h0, if_true] at hs
      rw [h0]
      refine iteF ⟨S3, ?_⟩
      unfold tidyOf
      rw [hs]
      exact hL
    · simp only [h0, if_false] at hs
      have hb2 : (q.2 % p != 0) = true := by simpa using h0
      rw [hb2]
      refine iteT ⟨_, rfl, _, rfl, _, rfl, a, _, rfl, dg, _, rfl, q.2, p, rfl, rfl, hp, _, DPut.t (k := rowK ys[i]) hL (by rw [rowK_kV]; exact ht3) ?_, S3.put hD, ?_⟩
      · refine foldI_small rowK _ i ?_
        rw [perm.length_eq, List.length_map]
        exact hz
      · rw [upd_same, putK_asK rowK_inj]
        unfold tidyOf
        rw [hs]
  · intro H3 ⟨S3, hL⟩
    rw [List.length_map, ← lb, List.take_length] at hL
    have x3 := S3 _ _ (S2 _ _ x1)
    have hD2 : H2 D1 = none := hD
    refine ⟨_, rfl, x, C, dx, _, rfl, x3, Y.cl, Y.n3, Nat.lt_of_le_of_lt (fs_len2 _ _) (by decide), ?_⟩
    have hDx : D1 ≠ x := fun z => by rw [z, S2 _ _ x1] at hD2; cases hD2
    have S4 : SameX x H (upd H3 x (.ins C dx (putF "_terms" (.ref D1) (putF "wide" (.int n) (putF "prime" (.int p) []))))) := fun b o e ne => by
      rw [upd_ne ne]
      exact S3 _ _ (S2 _ _ (S1 _ _ e ne))
    have x4 : upd H3 x (.ins C dx (putF "_terms" (.ref D1) (putF "wide" (.int n) (putF "prime" (.int p) [])))) x = some (.ins C dx (putF "_terms" (.ref D1) (putF "wide" (.int n) (putF "prime" (.int p) [])))) := upd_same
    have d4 : upd H3 x (.ins C dx (putF "_terms" (.ref D1) (putF "wide" (.int n) (putF "prime" (.int p) [])))) D1 = some (.dT (rK (tidyOf p ts ys))) := by rw [upd_ne hDx]; exact hL
    have hDn : H D1 = none := f1 _ (S2.free hD2)
    generalize upd H3 x (.ins C dx (putF "_terms" (.ref D1) (putF "wide" (.int n) (putF "prime" (.int p) [])))) = H4 at S4 x4 d4
    generalize ett : tidyOf p ts ys = tt at d4
    have ztt : tt.length ≤ 1000000 := by
      rw [← ett]
      refine Nat.le_trans (foldI_le _ _) ?_
      rw [perm.length_eq, List.length_map]
      exact hz
    refine ⟨D1, _, d4, trivial, fun od => ?_⟩
    have hf : upd H4 D1 (.frz od (.dT (rK tt))) D1 = some (.frz od (.dT (rK tt))) := upd_same
    have x5 : upd H4 D1 (.frz od (.dT (rK tt))) x = some (.ins C dx (putF "_terms" (.ref D1) (putF "wide" (.int n) (putF "prime" (.int p) [])))) := by rw [upd_ne (Ne.symm hDx)]; exact x4
    refine ⟨_, rfl, x, C, dx, _, _, rfl, x5, Y.cl, Y.n3, by rw [lookup_putF, if_pos rfl], D1, od, rfl, .inr ⟨_, hf, fun D2 hD2 => lc_it walk_keysT (fun i H' => Same (upd H4 D1 (.frz od (.dT (rK tt)))) H' ∧ H' D2 = some (.lst (((tt.take i).map fun q => q.1.sum).map V.int))) ⟨(Same.refl _).put hD2, upd_same⟩ (fun i H' _ h => h.1 _ _ hf) ?_ ?_⟩⟩
    · rintro i y H5 H6 hi ⟨S5, hL5⟩ ⟨rfl, kk, v, q, hkv, rfl, hq⟩
      obtain ⟨r, c, hts, rfl, rfl⟩ := asK_get hkv
      rw [rowK_kV] at hq
      rw [asK_len] at hi
      refine ⟨rfl, _, rfl, q, r, rfl, SqT.of hq, _, hL5, ?_, S5.put hD2, ?_⟩
      · rw [List.length_map, List.length_map, List.length_take]
        have h8 : (1000000 : Nat) < sizeLine := by decide
        omega
      · rw [upd_same, take_succ (fun q : List Int × Int => q.1.sum) hts, List.map_append]
        rfl
    · intro H5 ⟨S5, hL5⟩
      rw [asK_len, List.take_length] at hL5
      have hD21 : D2 ≠ D1 := fun z => by rw [z, hf] at hD2; cases hD2
      have S6 := lock_same d4 S5
      have hL6 := lock_at (u := .dT (rK tt)) hD21 hL5
      refine ⟨S5 _ _ hf, 1, rfl, D2, _, _, rfl, rfl, SqL.of hL6, _, rfl, x, C, dx, _, rfl, S6 _ _ x4, Y.cl, Y.n4, Nat.lt_of_le_of_lt (fs_len3 _ _ _) (by decide), ?_⟩
      refine k D1 _ ys perm asc (fun b o e ne => by rw [upd_ne ne]; exact S6 _ _ (S4 _ _ e ne)) hDn (by rw [upd_ne hDx, ett]; exact S6 _ _ d4) ?_
      rw [upd_same, ett]
      rfl
end
end P2
end

section
set_option maxRecDepth 100000
set_option maxHeartbeats 2000000
namespace P2
open PySem L2 ClX
section
variable {P : Program} {w : World} {K : PySem.W.Frag} {mg : Str → Option Value} {base : Heap} {bp C B M : Addr}
/-- Poly(prime, wide, terms): what it makes, what it refuses -/
def spInit (K : PySem.W.Frag) (bp C B M : Addr) : Sp := fun vs H Q E => ∃ (x dx : Addr) (vp vw vt : V), vs = [.ref x, vp, vw, vt] ∧ H x = some (.ins C dx []) ∧ PV K H vp ∧ (isP vp = false → E (.ref bp) none H) ∧ (isP vp = true → PV K H vw ∧ (inB vw 1 12 = false → E (.ref B) none H) ∧
  (inB vw 1 12 = true → ∃ (m : Int) (b : Bool), vw = .int m ∧ TermsAre K H m vt b ∧ (b = false → ∀ H', Same H H' → E (.ref B) none H') ∧ (b = true → ∃ (a : Addr) (ts : List (List Int × Int)), vt = .ref a ∧ H a = some (.dT (rK ts)) ∧ (ts.map (·.1)).Nodup ∧ (∀ q ∈ ts, q.1 ≠ []) ∧ ts.length ≤ 1000000 ∧
    ((ts.any fun p => decide (120 < p.1.sum)) = true → ∀ d H', Same H H' → H d = none → H' d = some (.xd [("most", .int 120)]) → E (.ref M) (some d) H') ∧
    ((ts.any fun p => decide (120 < p.1.sum)) = false → ∀ p, vp = .int p → ∀ (d : Addr) (H' : Hp) (ys : List (List Int)), ys.Perm (ts.map (·.1)) → Asc ys → SameX x H H' → H d = none → H' d = some (.dT (rK (tidyOf p ts ys))) → H' x = some (.ins C dx (fsP p m d (degOf (tidyOf p ts ys)))) → Q .non H'))))
theorem ok_init {f fP fW fT fM : Addr} {fd dP dW dT dM : FuncData} (F : Fun K "__init__" "Poly.__init__" sInit f fd) (T : Tx K mg bp) (Y : Py K mg C B M)
    (GP : FnOk P w K mg base (L2.CX P w) 3 fP dP ["prime"] (spCheckPrime K bp)) (kP : PySem.W.keepIn K (.ref fP) = true) (bP : Binds K dP ["prime"] []) (gP : mg "check_prime" = some (.ref fP))
    (GW : FnOk P w K mg base CX0 2 fW dW ["thing", "least", "most"] (spWithin K)) (kW : PySem.W.keepIn K (.ref fW) = true) (bW : Binds K dW ["thing", "least", "most"] []) (gW : mg "is_within" = some (.ref fW))
    (GT : FnOk P w K mg base CX0 3 fT dT ["row", "number", "wide"] (spIsTerm K)) (kT : PySem.W.keepIn K (.ref fT) = true) (bT : Binds K dT ["row", "number", "wide"] []) (gT : mg "is_term" = some (.ref fT))
    (GM : FnOk P w K mg base CX0 1 fM dM ["self", "most"] (spErr "most" M)) (bM : Binds K dM ["self", "most"] []) (iM : PySem.W.findIn K (.ref M) "__init__" = some (some (.ref fM))) (tM : PySem.W.typeIn K (.ref fM) = some (.type "function")) :
    FnOk P w K mg base (L2.CX P w) 6 f fd ["self", "prime", "wide", "terms"] (spInit K bp C B M) := by
  refine okX F scI (fun vs H Q E h => ?_) (fun cdv A outer s H vs Q E hr h => ?_)
  · obtain ⟨x, dx, vp, vw, vt, rfl, _⟩ := h
    rfl
  · obtain ⟨x, dx, vp, vw, vt, rfl, hx, p1, k1, k2⟩ := h
    refine ⟨_, pss_cons (init_p GP kP bP gP hr) (pss_cons (init_w Y GW kW bW gW hr) (pss_cons (init_b T Y GT kT bT gT hr) (pss_cons (init_c T Y GM bM iM tM hr) (init_d T Y hr)))), ?_⟩
    refine ⟨x, vp, vw, vt, rfl, p1, k1, fun hp => ?_⟩
    obtain ⟨p2, k3, k4⟩ := k2 hp
    refine ⟨x, vp, vw, vt, rfl, p2, k3, fun hw => ?_⟩
    obtain ⟨m, b, rfl, ta, k5, k6⟩ := k4 hw
    refine ⟨x, vp, vt, m, b, rfl, ta, k5, fun hb H1 S1 => ?_⟩
    obtain ⟨a, ts, rfl, ha, hn, hne, hz, k7, k8⟩ := k6 hb
    refine ⟨x, a, vp, .int m, ts, rfl, S1 _ _ ha, hz, fun h d H2 S2 hd e => k7 h d H2 (S1.trans S2) (S1.free hd) e, fun h H2 S2 => ?_⟩
    obtain ⟨p, rfl⟩ : ∃ p, vp = .int p := by
      cases vp with
      | int p => exact ⟨p, rfl⟩
      | _ => cases hp
    have p0 : 0 < p := by
      have z : p ∈ primes := of_decide_eq_true hp
      revert z
      simp only [primes, List.mem_cons, List.mem_nil_iff, or_false]
      omega
    have S3 := S1.trans S2
    refine ⟨x, dx, a, p, m, ts, rfl, S3 _ _ hx, S3 _ _ ha, hn, hne, p0, hz, fun d H4 ys perm asc S4 nd hd hx4 => k8 h p rfl d H4 ys perm asc (fun z o e ne => S4 _ _ (S3 _ _ e) ne) (S3.free nd) hd hx4⟩
end
end P2
end

section
set_option maxRecDepth 100000
set_option maxHeartbeats 2000000
namespace P2
open PySem L2 ClX
theorem putA_end {κ : Type} [DecidableEq κ] {m : List (κ × Int)} {k : κ} {v : Int} (h : k ∉ m.map (·.1)) : putA m k v = m ++ [(k, v)] := by
  unfold putA
  rw [if_neg]
  intro z
  obtain ⟨p, hp, e⟩ := List.any_eq_true.mp z
  exact h (List.mem_map.mpr ⟨p, hp, of_decide_eq_true e⟩)
/-- a copy is the same -/
theorem foldA_id {κ : Type} [DecidableEq κ] {m : List (κ × Int)} (hn : (m.map (·.1)).Nodup) : foldA (fun q => (q.1, q.2)) m = m := by
  have key : ∀ i, i ≤ m.length → foldA (fun q : κ × Int => (q.1, q.2)) (m.take i) = m.take i := by
    intro i
    induction i with
    | zero => intro _; rfl
    | succ i ih =>
      intro hi
      have hm : m[i]? = some m[i] := List.getElem?_eq_getElem (by omega)
      rw [foldA_take _ hm, ih (by omega), putA_end, List.take_succ, hm]
      · rfl
      · intro z
        obtain ⟨p, hp, e⟩ := List.mem_map.mp z
        obtain ⟨j, hj, ej⟩ := List.mem_iff_getElem.mp hp
        have hj2 : j < i := by
          rw [List.length_take] at hj
          omega
        rw [List.getElem_take] at ej
        have e1 : (m.map (·.1))[j]'(by rw [List.length_map]; omega) = (m.map (·.1))[i]'(by rw [List.length_map]; omega) := by
          rw [List.getElem_map, List.getElem_map, ej, e]
        have := (List.getElem_inj hn).mp e1
        omega
  have := key m.length (Nat.le_refl _)
  rwa [List.take_length] at this
/-- at a stands a polynomial with these terms -/
def PolyAt (H : Hp) (C a : Addr) (p n : Int) (ts : List (List Int × Int)) : Prop := ∃ dx d, H a = some (.ins C dx (fsP p n d (degOf ts))) ∧ H d = some (.dT (rK ts))
theorem fs_prime (p n : Int) (d : Addr) (g : Int) : (fsP p n d g).lookup ("prime" : Str) = some (V.int p) := by
  have h1 : ¬ ("prime" : Str) = "degree" := by decide +kernel
  have h2 : ¬ ("prime" : Str) = "_terms" := by decide +kernel
  have h3 : ¬ ("prime" : Str) = "wide" := by decide +kernel
  unfold fsP
  rw [lookup_putF, if_neg h1, lookup_putF, if_neg h2, lookup_putF, if_neg h3, lookup_putF, if_pos rfl]
theorem fs_wide (p n : Int) (d : Addr) (g : Int) : (fsP p n d g).lookup ("wide" : Str) = some (V.int n) := by
  have h1 : ¬ ("wide" : Str) = "degree" := by decide +kernel
  have h2 : ¬ ("wide" : Str) = "_terms" := by decide +kernel
  unfold fsP
  rw [lookup_putF, if_neg h1, lookup_putF, if_neg h2, lookup_putF, if_pos rfl]
theorem fs_terms (p n : Int) (d : Addr) (g : Int) : (fsP p n d g).lookup ("_terms" : Str) = some (V.ref d) := by
  have h1 : ¬ ("_terms" : Str) = "degree" := by decide +kernel
  unfold fsP
  rw [lookup_putF, if_neg h1, lookup_putF, if_pos rfl]
theorem fs_degree (p n : Int) (d : Addr) (g : Int) : (fsP p n d g).lookup ("degree" : Str) = some (V.int g) := by
  unfold fsP
  rw [lookup_putF, if_pos rfl]
theorem PolyAt.same {H H' : Hp} {C a : Addr} {p n : Int} {ts : List (List Int × Int)} (h : PolyAt H C a p n ts) (S : Same H H') : PolyAt H' C a p n ts := let ⟨dx, d, h1, h2⟩ := h; ⟨dx, d, S _ _ h1, S _ _ h2⟩
section
variable {P : Program} {w : World} {K : PySem.W.Frag} {mg : Str → Option Value} {base : Heap} {bp C B M : Addr}
/-- p.terms: a new dict -/
def spTerms (C : Addr) : Sp := fun vs H Q _ => ∃ (a : Addr) (p n : Int) (ts : List (List Int × Int)), vs = [.ref a] ∧ PolyAt H C a p n ts ∧ (ts.map (·.1)).Nodup ∧ ts.length ≤ 1000000 ∧ ∀ q H', Same H H' → H q = none → H' q = some (.dT (rK ts)) → Q (.ref q) H'
abbrev NS : List Str := ["self", "row"]
theorem scS : FnScope NS ["self"] (defScope sTerms) := ⟨rfl, rfl, rfl, by decide +kernel, rfl, by decide +kernel, by decide +kernel⟩
theorem ok_terms {f : Addr} {fd : FuncData} (F : Fun K "terms" "Poly.terms" sTerms f fd) (Y : Py K mg C B M) : FnOk P w K mg base CX0 1 f fd ["self"] (spTerms C) := by
  refine F.ok scS (fun vs H Q E h => ?_) (fun cdv A outer s H vs Q E hr h => ?_)
  · obtain ⟨a, p, n, ts, rfl, _⟩ := h
    rfl
  · obtain ⟨a, p, n, ts, rfl, ⟨dx, d, ha, hd⟩, hn, hz, k⟩ := h
    have hu := hu_of hr
    refine ⟨_, pss_one (ps_ret (pe_lock (pe_dcT (own := [("row", 1)]) (g := gName 1) (tt := tYes) (tv := tDGet (tFld K (tVar 0) "_terms") (tVar 1)) (Nat.lt_of_succ_lt hu) rfl scS.nd (pi_keys (pe_fld (pv 0) rfl)) (blkOk_by (own := [("row", 1)]) (N := NS) (sc := defScope sTerms) (by decide +kernel))
      (fun _ _ _ _ _ => pg_name (i := 1) scS.nd rfl (Or.inl rfl)) (fun _ _ _ _ _ => pts_nil) (fun _ _ _ _ _ => pv 1) (fun _ _ _ _ _ => pe_dget hu (pe_fld (pv 0) rfl) (pv 1) (fun _ _ => rfl))))), ?_⟩
    refine ⟨d, _, hd, trivial, fun od => ?_⟩
    have hf : upd H d (.frz od (.dT (rK ts))) d = some (.frz od (.dT (rK ts))) := upd_same
    have had : a ≠ d := fun z => by rw [z, hd] at ha; cases ha
    have ha1 : upd H d (.frz od (.dT (rK ts))) a = some (.ins C dx (fsP p n d (degOf ts))) := by rw [upd_ne had]; exact ha
    refine ⟨_, rfl, a, C, dx, _, _, rfl, ha1, Y.cl, Y.n3, fs_terms _ _ _ _, d, od, rfl, .inr ⟨_, hf, fun D hD => ?_⟩⟩
    have hDd : D ≠ d := fun z => by rw [z, hf] at hD; cases hD
    refine dcT_it walk_keysT (fun i H' => Same (upd H d (.frz od (.dT (rK ts)))) H' ∧ H' D = some (.dT (rK (foldA (fun q => (q.1, q.2)) (ts.take i))))) ⟨(Same.refl _).put hD, upd_same⟩ (fun i H' _ h => h.1 _ _ hf) ?_ ?_
    · rintro i x H1 H2 hi ⟨S1, hL⟩ ⟨rfl, kk, v, q, hkv, rfl, hq⟩
      obtain ⟨r, c, hts, rfl, rfl⟩ := asK_get hkv
      rw [rowK_kV] at hq
      refine ⟨rfl, _, rfl, _, rfl, a, C, dx, _, _, rfl, S1 _ _ ha1, Y.cl, Y.n3, fs_terms _ _ _ _, _, rfl, d, V.int c, rfl, .inr ⟨rK ts, rowK r, q, .inr ⟨od, S1 _ _ hf⟩, rfl, by rw [rowK_kV]; exact hq, by rw [valV_asK rowK_inj, getA_at hn hts]; rfl⟩, _, DPut.t (k := rowK r) hL (by rw [rowK_kV]; exact hq) (fold_small _ _ i hz), S1.put hD, ?_⟩
      rw [upd_same, putK_asK rowK_inj, foldA_take _ hts]
    · intro H' ⟨S1, hL⟩
      rw [asK_len, List.take_length, foldA_id hn] at hL
      refine ⟨S1 _ _ hf, k D _ (lock_same hd S1) ?_ (lock_at hDd hL)⟩
      rw [upd_ne hDd] at hD
      exact hD
end
end P2
end

section
set_option maxRecDepth 100000
set_option maxHeartbeats 2000000
namespace P2
open PySem L2 ClX
section
variable {P : Program} {w : World} {K : PySem.W.Frag} {mg : Str → Option Value} {base : Heap} {bp C B M : Addr}
theorem ty_poly {H : Hp} {a : Addr} {p n : Int} {ts : List (List Int × Int)} (Y : Py K mg C B M) (h : PolyAt H C a p n ts) : TyX K H (.ref a) (.ref C) := let ⟨_, _, h1, _⟩ := h; .base (.ins h1 Y.cl Y.c1 Y.c2 Y.c3 Y.c4)
/-- no polynomial, but one of the plain kinds -/
abbrev Odd (K : PySem.W.Frag) (H : Hp) (v : V) : Prop := PV K H v
def spCheckPoly (K : PySem.W.Frag) (C B : Addr) : Sp := fun vs H Q E => ∃ v, vs = [v] ∧ ((∃ a p n ts, v = .ref a ∧ PolyAt H C a p n ts ∧ Q .non H) ∨ (Odd K H v ∧ E (.ref B) none H))
theorem sc28 : FnScope ["thing"] ["thing"] (defScope (top 28)) := ⟨rfl, rfl, rfl, by decide +kernel, rfl, by decide +kernel, by decide +kernel⟩
theorem ok_checkpoly {f : Addr} {fd : FuncData} (F : Fun K "check_poly" "check_poly" (top 28) f fd) (T : Tx K mg bp) (Y : Py K mg C B M) : FnOk P w K mg base (L2.CX P w) 1 f fd ["thing"] (spCheckPoly K C B) := by
  refine okX F sc28 (fun vs H Q E h => ?_) (fun cdv A outer s H vs Q E hr h => ?_)
  · obtain ⟨v, rfl, _⟩ := h
    rfl
  · obtain ⟨v, rfl, h⟩ := h
    refine ⟨_, pss_one (ps_if (pt_not (pt_val (pe_callB (r := rIsi K) call_isi (by rfl) T.isi (by decide +kernel) (pa_cons (pv 0) (pa_cons (pe_glob (v := .ref C) (by rfl) Y.gC rfl) pa_nil)))))
      (pss_one (ps_raise rfl (takes_of rfl rfl rfl rfl) (pmk_own PySem.F.excBase_ValueError Y.xB Y.gB Y.kB (raises_own Y.sB Y.tB) rfl))) pss_nil), ?_⟩
    rcases h with ⟨a, p, n, ts, rfl, hp, q⟩ | ⟨⟨n, hn, t⟩, q⟩
    · exact ⟨_, rfl, _, .ref C, .ref C, .ref C, true, rfl, .own _, ty_poly Y hp, Y.kC, _, rfl, iteF q⟩
    · exact ⟨_, rfl, _, .ref C, .type n, .ref C, false, rfl, .own _, t, Y.kN n hn, _, rfl, iteT q⟩
def spCheckPair (K : PySem.W.Frag) (C B : Addr) : Sp := fun vs H Q E => ∃ u v, vs = [u, v] ∧ ((Odd K H u ∧ E (.ref B) none H) ∨ ∃ a p n ts, u = .ref a ∧ PolyAt H C a p n ts ∧ ((Odd K H v ∧ E (.ref B) none H) ∨ ∃ b p2 n2 ts2, v = .ref b ∧ PolyAt H C b p2 n2 ts2 ∧ ((p = p2 ∧ n = n2) → Q .non H) ∧ (¬ (p = p2 ∧ n = n2) → E (.ref B) none H)))
theorem sc29 : FnScope ["one", "other"] ["one", "other"] (defScope (top 29)) := ⟨rfl, rfl, rfl, by decide +kernel, rfl, by decide +kernel, by decide +kernel⟩
theorem ok_checkpair {f fC : Addr} {fd dC : FuncData} (F : Fun K "check_pair" "check_pair" (top 29) f fd) (T : Tx K mg bp) (Y : Py K mg C B M) (GC : FnOk P w K mg base (L2.CX P w) 1 fC dC ["thing"] (spCheckPoly K C B)) (kC : PySem.W.keepIn K (.ref fC) = true) (bC : Binds K dC ["thing"] []) (gC : mg "check_poly" = some (.ref fC)) :
    FnOk P w K mg base (L2.CX P w) 2 f fd ["one", "other"] (spCheckPair K C B) := by
  refine okX F sc29 (fun vs H Q E h => ?_) (fun cdv A outer s H vs Q E hr h => ?_)
  · obtain ⟨u, v, rfl, _⟩ := h
    rfl
  · obtain ⟨u, v, rfl, h⟩ := h
    refine ⟨_, pss_cons (ps_expr (pe_call (E := E) GC hr rfl gC kC bC .nil (passes_call (takes_of rfl rfl rfl rfl) fun _ _ _ _ h => h) (pa_cons (pv 0) pa_nil)))
      (pss_cons (ps_expr (pe_call (E := E) GC hr rfl gC kC bC .nil (passes_call (takes_of rfl rfl rfl rfl) fun _ _ _ _ h => h) (pa_cons (pv 1) pa_nil)))
      (pss_one (ps_if (PW.pt (pw_or (pt_cmpR op_ne (pe_fld (pv 0) rfl) (pe_fld (pv 1) rfl) (nomark _)) (pw_or1 (pt_cmpR op_ne (pe_fld (pv 0) rfl) (pe_fld (pv 1) rfl) (nomark _)))))
        (pss_one (ps_raise rfl (takes_of rfl rfl rfl rfl) (pmk_own PySem.F.excBase_ValueError Y.xB Y.gB Y.kB (raises_own Y.sB Y.tB) rfl))) pss_nil))), ?_⟩
    refine ⟨u, rfl, u, rfl, ?_⟩
    rcases h with ⟨o, q⟩ | ⟨a, p, n, ts, rfl, hp, h⟩
    · exact .inr ⟨o, q⟩
    refine .inl ⟨a, p, n, ts, rfl, hp, v, rfl, v, rfl, ?_⟩
    rcases h with ⟨o, q⟩ | ⟨b, p2, n2, ts2, rfl, hp2, k1, k2⟩
    · exact .inr ⟨o, q⟩
    refine .inl ⟨b, p2, n2, ts2, rfl, hp2, ?_⟩
    obtain ⟨dx, d, h1, _⟩ := hp
    obtain ⟨dx2, d2, h2, _⟩ := hp2
    refine ⟨_, rfl, a, C, dx, _, _, rfl, h1, Y.cl, Y.n1, fs_prime _ _ _ _, _, rfl, b, C, dx2, _, _, rfl, h2, Y.cl, Y.n1, fs_prime _ _ _ _, rfl, _, rfl, ?_⟩
    have e1 : decide (V.int p = V.int p2) = decide (p = p2) := decide_eq_decide.mpr ⟨fun z => V.int.inj z, fun z => by rw [z]⟩
    rw [e1]
    by_cases hpp : p = p2
    · rw [decide_eq_true hpp]
      refine iteF ⟨_, rfl, a, C, dx, _, _, rfl, h1, Y.cl, Y.n2, fs_wide _ _ _ _, _, rfl, b, C, dx2, _, _, rfl, h2, Y.cl, Y.n2, fs_wide _ _ _ _, rfl, _, rfl, ?_⟩
      have e2 : decide (V.int n = V.int n2) = decide (n = n2) := decide_eq_decide.mpr ⟨fun z => V.int.inj z, fun z => by rw [z]⟩
      rw [e2]
      by_cases hnn : n = n2
      · rw [decide_eq_true hnn]
        exact iteF (k1 ⟨hpp, hnn⟩)
      · rw [decide_eq_false hnn]
        exact iteT (k2 fun z => hnn z.2)
    · rw [decide_eq_false hpp]
      exact iteT (iteT (k2 fun z => hpp z.1))
end
end P2
end

section
set_option maxRecDepth 100000
set_option maxHeartbeats 2000000
namespace P2
open PySem L2 ClX
theorem nodup_put {κ : Type} [DecidableEq κ] {m : List (κ × Int)} (h : (m.map (·.1)).Nodup) (k : κ) (v : Int) : ((putA m k v).map (·.1)).Nodup := by
  by_cases hk : k ∈ m.map (·.1)
  · unfold putA
    have e : (m.any fun p => decide (p.1 = k)) = true := by
      obtain ⟨p, hp, e⟩ := List.mem_map.mp hk
      exact List.any_eq_true.mpr ⟨p, hp, decide_eq_true e⟩
    rw [if_pos e, List.map_map]
    have e2 : m.map ((fun p => p.1) ∘ fun p => if p.1 = k then (p.1, v) else p) = m.map (·.1) := List.map_congr_left fun p _ => by
      show (if p.1 = k then (p.1, v) else p).1 = p.1
      by_cases z : p.1 = k
      · rw [if_pos z]
      · rw [if_neg z]
    rw [e2]
    exact h
  · rw [putA_end hk, List.map_append]
    exact List.nodup_append.mpr ⟨h, by simp, fun a ha b hb e => by
      have z : b = k := List.mem_singleton.mp hb
      rw [e, z] at ha
      exact hk ha⟩
theorem nodup_fold {κ α : Type} [DecidableEq κ] {F : List (κ × Int) → α → List (κ × Int)} (hF : ∀ m x, (m.map (·.1)).Nodup → ((F m x).map (·.1)).Nodup) : ∀ (xs : List α) (m : List (κ × Int)), (m.map (·.1)).Nodup → ((xs.foldl F m).map (·.1)).Nodup
  | [], _, h => h
  | x :: xs, m, h => nodup_fold hF xs (F m x) (hF m x h)
theorem nodup_foldA {κ α : Type} [DecidableEq κ] (g : α → κ × Int) (xs : List α) : ((foldA g xs).map (·.1)).Nodup := nodup_fold (fun _ _ h => nodup_put h _ _) xs [] List.nodup_nil
/-- rows that a polynomial in n unknowns may have -/
def RowsOk (n : Nat) (ts : List (List Int × Int)) : Prop := ∀ q ∈ ts, q.1.length = n ∧ (∀ e ∈ q.1, 0 ≤ e) ∧ q.1.sum ≤ 120
section
variable {P : Program} {w : World} {K : PySem.W.Frag} {mg : Str → Option Value} {base : Heap} {bp C B M : Addr}
theorem terms_good {H : Hp} {a : Addr} {n : Nat} {ts : List (List Int × Int)} (h : H a = some (.dT (rK ts))) (hr : RowsOk n ts) (hn : n ≤ 12) (hz : ts.length ≤ 1000000) : TermsAre K H n (.ref a) true := by
  have e : ((rK ts).all fun p => termB "tuple" (p.1.map kV) n p.2) = true := by
    refine List.all_eq_true.mpr fun q hq => ?_
    obtain ⟨r, hr2, rfl⟩ := List.mem_map.mp hq
    obtain ⟨e1, e2, _⟩ := hr r hr2
    show termB "tuple" ((rowK r.1).map kV) n (.int r.2) = true
    rw [rowK_kV]
    have a1 : (r.1.map V.int).all isI = true := List.all_eq_true.mpr fun x hx => by
      obtain ⟨i, _, rfl⟩ := List.mem_map.mp hx
      rfl
    have a2 : (r.1.map V.int).all nn = true := List.all_eq_true.mpr fun x hx => by
      obtain ⟨i, hi, rfl⟩ := List.mem_map.mp hx
      exact decide_eq_true (e2 i hi)
    unfold termB
    rw [a1, a2, List.length_map, e1]
    simp [isI]
  have z := TermsAre.rows (K := K) (m := (n : Int)) h (by rw [asK_len]; exact hz) (fun q hq => by
    obtain ⟨r, hr2, rfl⟩ := List.mem_map.mp hq
    refine ⟨?_, rfl⟩
    show (rowK r.1).length ≤ 1000
    unfold rowK
    rw [List.length_map, (hr r hr2).1]
    omega)
  rw [e] at z
  exact z
/-- a polynomial is made of good terms -/
theorem make_good {H : Hp} {x dx a : Addr} {p : Int} {n : Nat} {ts : List (List Int × Int)} {Q : VK} {E : XK} (hp : p ∈ primes) (h1 : 1 ≤ n) (h12 : n ≤ 12) (ha : H a = some (.dT (rK ts))) (hr : RowsOk n ts) (hn : (ts.map (·.1)).Nodup) (hz : ts.length ≤ 1000000)
    (nx : H x = none) (ndx : H dx = none) (ne : dx ≠ x) (k : ∀ y H' ys, ys.Perm (ts.map (·.1)) → Asc ys → Same H H' → H y = none → PolyAt H' C y p n (tidyOf p ts ys) → Q (.ref y) H') :
    spInit K bp C B M [.ref x, .int p, .int n, .ref a] (upd (upd H dx (.own x)) x (.ins C dx [])) (fun v H2 => v = .non ∧ Q (.ref x) H2) E := by
  have S0 : Same H (upd (upd H dx (.own x)) x (.ins C dx [])) := fun b o e => by rw [upd_ne (ne_of_none e nx), upd_ne (ne_of_none e ndx)]; exact e
  have hw : inB (.int n) 1 12 = true := by
    show (decide ((1 : Int) ≤ n) && decide ((n : Int) ≤ 12)) = true
    rw [decide_eq_true (by omega), decide_eq_true (by omega)]
    rfl
  have hpp : isP (.int p) = true := decide_eq_true hp
  refine ⟨x, dx, _, _, _, rfl, upd_same, pv_flat rfl, (fun z => by rw [hpp] at z; cases z), fun _ => ⟨pv_flat rfl, (fun z => by rw [hw] at z; cases z), fun _ => ⟨n, true, rfl, terms_good (S0 _ _ ha) hr h12 hz, (fun z => by cases z), fun _ => ⟨a, ts, rfl, S0 _ _ ha, hn, fun q hq => ?_, hz, fun z => ?_, fun _ p2 ep d H' ys perm asc S nd hd hx => ?_⟩⟩⟩⟩
  · intro e
    have z := (hr q hq).1
    rw [e] at z
    exact absurd z (by show (0 : Nat) ≠ n; omega)
  · obtain ⟨q, hq, e⟩ := List.any_eq_true.mp z
    have h3 := (hr q hq).2.2
    have h4 : 120 < q.1.sum := of_decide_eq_true e
    omega
  · cases ep
    refine ⟨rfl, k x H' ys perm asc (fun b o e => ?_) nx ⟨dx, d, hx, hd⟩⟩
    exact S b o (S0 _ _ e) (ne_of_none e nx)
end
end P2
end

section
set_option maxRecDepth 100000
set_option maxHeartbeats 2000000
namespace P2
open PySem L2 ClX
theorem passF {X : Cx} {P : Program} {w : World} : Passes (L2.CX P w) X (fun _ _ _ => False) := fun _ _ _ _ _ _ _ x => by
  obtain ⟨_, _, _, _, _, _, _, _, _, _, _, _, z⟩ := x
  exact z.elim
theorem termsOf_len (m : List (Int × Int)) (n : Nat) : (termsOf m n).length ≤ m.length := foldA_le _ _
section
variable {P : Program} {w : World} {K : PySem.W.Frag} {mg : Str → Option Value} {base : Heap} {bp C B M : Addr}
/-- what comes out is a new polynomial of these terms -/
def Gives (C : Addr) (H : Hp) (p : Int) (n : Nat) (ts : List (List Int × Int)) (Q : VK) : Prop := ∀ y H' ys, List.Perm ys (ts.map (·.1)) → Asc ys → Same H H' → H y = none → PolyAt H' C y p n (tidyOf p ts ys) → Q (.ref y) H'
theorem Gives.same {H H' : Hp} {p : Int} {n : Nat} {ts : List (List Int × Int)} {Q : VK} (g : Gives C H p n ts Q) (S : Same H H') : Gives C H' p n ts Q := fun y H2 ys h1 h2 S2 hy hp => g y H2 ys h1 h2 (S.trans S2) (S.free hy) hp
def spOfPack (C : Addr) : Sp := fun vs H Q _ => ∃ (p : Int) (n : Nat) (a : Addr) (m : List (Int × Int)), vs = [.int p, .int n, .ref a] ∧ p ∈ primes ∧ 1 ≤ n ∧ n ≤ 12 ∧ H a = some (.dK (iK m)) ∧ (m.map (·.1)).Nodup ∧ m.length ≤ 1000000 ∧ RowsOk n (termsOf m n) ∧ Gives C H p n (termsOf m n) Q
theorem sc30 : FnScope ["prime", "wide", "pack"] ["prime", "wide", "pack"] (defScope (top 30)) := ⟨rfl, rfl, rfl, by decide +kernel, rfl, by decide +kernel, by decide +kernel⟩
theorem ok_ofpack {f fI fT : Addr} {fd dI dT : FuncData} (F : Fun K "poly_of_pack" "poly_of_pack" (top 30) f fd) (Y : Py K mg C B M) (Mk_ : Mk K C fI)
    (GI : FnOk P w K mg base (L2.CX P w) 6 fI dI ["self", "prime", "wide", "terms"] (spInit K bp C B M)) (bI : Binds K dI ["self", "prime", "wide", "terms"] [])
    (GT : FnOk P w K mg base CX0 2 fT dT ["pack", "wide"] spTermsOf) (kT : PySem.W.keepIn K (.ref fT) = true) (bT : Binds K dT ["pack", "wide"] []) (gT : mg "terms_of" = some (.ref fT)) :
    FnOk P w K mg base CX0 8 f fd ["prime", "wide", "pack"] (spOfPack C) := by
  refine F.ok sc30 (fun vs H Q E h => ?_) (fun cdv A outer s H vs Q E hr h => ?_)
  · obtain ⟨p, n, a, m, rfl, _⟩ := h
    rfl
  · obtain ⟨p, n, a, m, rfl, hp, h1, h12, ha, hn, hz, hro, k⟩ := h
    refine ⟨_, pss_one (ps_ret (pe_make (E := fun _ _ _ => False) Mk_ GI (hr.mono (by decide)) rfl Y.gC bI .nil passF (pa_cons (pv 0) (pa_cons (pv 1) (pa_cons (pe_call GT (hr.mono (by decide)) rfl gT kT bT .nil pass0 (pa_cons (pv 2) (pa_cons (pv 1) pa_nil))) pa_nil))))), ?_⟩
    refine ⟨_, rfl, _, rfl, _, rfl, _, rfl, a, m, n, rfl, ha, hn, by omega, hz, fun q H1 S1 nq hq x dx nx ndx ne => ?_⟩
    exact make_good hp h1 h12 hq hro (nodup_foldA _ _) (Nat.le_trans (termsOf_len m n) hz) nx ndx ne (k.same S1)
/-- terms as a polynomial has them -/
structure TsOk (p : Int) (n : Nat) (ts : List (List Int × Int)) : Prop where
  nd : (ts.map (·.1)).Nodup
  rows : RowsOk n ts
  vals : ∀ q ∈ ts, 0 < q.2 ∧ q.2 < p
  len : ts.length ≤ 1000000
theorem le_sum : ∀ {r : List Int}, (∀ e ∈ r, 0 ≤ e) → (∀ e ∈ r, e ≤ r.sum) ∧ 0 ≤ r.sum
  | [], _ => ⟨(fun _ h => nomatch h), by simp⟩
  | x :: r, h => by
    obtain ⟨h1, h2⟩ := le_sum (r := r) fun e he => h e (List.mem_cons_of_mem _ he)
    have hx := h x List.mem_cons_self
    rw [List.sum_cons]
    refine ⟨fun e he => ?_, by omega⟩
    rcases List.mem_cons.mp he with rfl | he
    · omega
    · have := h1 e he
      omega
theorem TsOk.exps {p : Int} {n : Nat} {ts : List (List Int × Int)} (h : TsOk p n ts) (hn : n ≤ 12) : ∀ q ∈ ts, Exps q.1 ∧ q.1.length ≤ 1000 := fun q hq => by
  obtain ⟨e1, e2, e3⟩ := h.rows q hq
  refine ⟨fun e he => ⟨e2 e he, ?_⟩, by omega⟩
  have z := (le_sum e2).1 e he
  show e < 128
  omega
def spPolySum (K : PySem.W.Frag) (C B : Addr) : Sp := fun vs H Q E => ∃ u v, vs = [u, v] ∧ ((Odd K H u ∧ E (.ref B) none H) ∨ ∃ a p n ts, u = .ref a ∧ PolyAt H C a p n ts ∧ ((Odd K H v ∧ E (.ref B) none H) ∨ ∃ b p2 n2 ts2, v = .ref b ∧ PolyAt H C b p2 n2 ts2 ∧ (¬ (p = p2 ∧ n = n2) → E (.ref B) none H) ∧
  ((p = p2 ∧ n = n2) → ∃ k : Nat, n = k ∧ p ∈ primes ∧ 1 ≤ k ∧ k ≤ 12 ∧ TsOk p k ts ∧ TsOk p k ts2 ∧ ts.length + ts2.length ≤ 1000000 ∧ RowsOk k (termsOf (sumP p (packOf ts) (packOf ts2)) k) ∧ Gives C H p k (termsOf (sumP p (packOf ts) (packOf ts2)) k) Q)))
abbrev NSum : List Str := ["one", "other", "pack"]
theorem sc33 : FnScope NSum ["one", "other"] (defScope (top 33)) := ⟨rfl, rfl, rfl, by decide +kernel, rfl, by decide +kernel, by decide +kernel⟩
theorem p_pos {p : Int} (h : p ∈ primes) : 2 ≤ p ∧ p < 100 := by
  revert h
  simp only [primes, List.mem_cons, List.mem_nil_iff, or_false]
  omega
theorem nodup_foldI {κ α : Type} [DecidableEq κ] (g : α → Option (κ × Int)) (xs : List α) : ((foldI g xs).map (·.1)).Nodup := by
  unfold foldI
  refine nodup_fold (fun m x h => ?_) xs [] List.nodup_nil
  cases g x with
  | none => exact h
  | some r => exact nodup_put h _ _
theorem sumP_len (p : Int) (m1 m2 : List (Int × Int)) : (sumP p m1 m2).length ≤ m1.length + m2.length := by
  have h1 := foldI_le (fun q : Int × Int => if q.2 % p = 0 then none else some (q.1, q.2 % p)) (m2.foldl (fun m q => addA m q.1 q.2) (foldA (fun q => (q.1, q.2)) m1))
  have h2 := addF_len m2 (foldA (fun q => (q.1, q.2)) m1)
  have h3 := foldA_le (fun q : Int × Int => (q.1, q.2)) m1
  unfold sumP withoutZ
  omega
theorem ok_polysum {f fC fS fO fT pT fP : Addr} {fd dC dS dO dT dP : FuncData} (F : Fun K "poly_sum" "poly_sum" (top 33) f fd) (Y : Py K mg C B M)
    (GC : FnOk P w K mg base (L2.CX P w) 2 fC dC ["one", "other"] (spCheckPair K C B)) (kC : PySem.W.keepIn K (.ref fC) = true) (bC : Binds K dC ["one", "other"] []) (gC : mg "check_pair" = some (.ref fC))
    (GS : FnOk P w K mg base CX0 2 fS dS ["one", "other", "prime"] spPackSum) (kS : PySem.W.keepIn K (.ref fS) = true) (bS : Binds K dS ["one", "other", "prime"] []) (gS : mg "pack_sum" = some (.ref fS))
    (GP : FnOk P w K mg base CX0 2 fP dP ["terms"] spPackOf) (kP : PySem.W.keepIn K (.ref fP) = true) (bP : Binds K dP ["terms"] []) (gP : mg "pack_of" = some (.ref fP))
    (GO : FnOk P w K mg base CX0 8 fO dO ["prime", "wide", "pack"] (spOfPack C)) (kO : PySem.W.keepIn K (.ref fO) = true) (bO : Binds K dO ["prime", "wide", "pack"] []) (gO : mg "poly_of_pack" = some (.ref fO))
    (GT : FnOk P w K mg base CX0 1 fT dT ["self"] (spTerms C)) (hT : PropOf K C "terms" pT fT) (bT : Binds K dT ["self"] []) :
    FnOk P w K mg base (L2.CX P w) 9 f fd ["one", "other"] (spPolySum K C B) := by
  refine okX F sc33 (fun vs H Q E h => ?_) (fun cdv A outer s H vs Q E hr h => ?_)
  · obtain ⟨u, v, rfl, _⟩ := h
    rfl
  · obtain ⟨u, v, rfl, h⟩ := h
    have r2 : Room 2 _ := hr.mono (by decide)
    refine ⟨_, pss_cons (ps_expr (pe_call (E := E) GC r2 rfl gC kC bC .nil (passes_call (takes_of rfl rfl rfl rfl) fun _ _ _ _ h => h) (pa_cons (pv 0) (pa_cons (pv 1) pa_nil))))
      (pss_cons (ps_set (i := 2) sc33.nd rfl (Or.inl rfl) (pe_call GS r2 rfl gS kS bS .nil pass0 (pa_cons (pe_call GP r2 rfl gP kP bP .nil pass0 (pa_cons (pe_prop (E := E0) (pv 0) Y.cl hT GT r2 bT .nil pass0 rfl) pa_nil)) (pa_cons (pe_call GP r2 rfl gP kP bP .nil pass0 (pa_cons (pe_prop (E := E0) (pv 1) Y.cl hT GT r2 bT .nil pass0 rfl) pa_nil)) (pa_cons (pe_fld (pv 0) rfl) pa_nil)))))
      (pss_one (ps_ret (pe_call GO hr rfl gO kO bO .nil pass0 (pa_cons (pe_fld (pv 0) rfl) (pa_cons (pe_fld (pv 0) rfl) (pa_cons (pv 2) pa_nil))))))), ?_⟩
    refine ⟨u, rfl, v, rfl, u, v, rfl, ?_⟩
    rcases h with ⟨o, q⟩ | ⟨a, p, n, ts, rfl, hp, h⟩
    · exact .inl ⟨o, q⟩
    refine .inr ⟨a, p, n, ts, rfl, hp, ?_⟩
    rcases h with ⟨o, q⟩ | ⟨b, p2, n2, ts2, rfl, hp2, k1, k2⟩
    · exact .inl ⟨o, q⟩
    refine .inr ⟨b, p2, n2, ts2, rfl, hp2, fun e => ?_, k1⟩
    obtain ⟨k, rfl, pp, k1', k12, t1, t2, hz, hro, g⟩ := k2 e
    obtain ⟨rfl, rfl⟩ := e
    obtain ⟨dx, d, ha, hd⟩ := id hp
    refine ⟨_, rfl, a, dx, _, rfl, ha, a, p, k, ts, rfl, hp, t1.nd, t1.len, fun q1 H1 S1 n1 hq1 => ?_⟩
    refine ⟨q1, ts, rfl, hq1, t1.nd, t1.exps k12, t1.len, fun q2 H2 S2 n2 hq2 => ?_⟩
    have S12 := S1.trans S2
    obtain ⟨dxb, db, hb, hdb⟩ := id hp2
    refine ⟨_, rfl, b, dxb, _, rfl, S12 _ _ hb, b, p, k, ts2, rfl, hp2.same S12, t2.nd, t2.len, fun q3 H3 S3 n3 hq3 => ?_⟩
    refine ⟨q3, ts2, rfl, hq3, t2.nd, t2.exps k12, t2.len, fun q4 H4 S4 n4 hq4 => ?_⟩
    have S14 := (S12.trans S3).trans S4
    have ha4 := S14 _ _ ha
    refine ⟨_, rfl, a, C, dx, _, _, rfl, ha4, Y.cl, Y.n1, fs_prime _ _ _ _, ?_⟩
    have l1 : (packOf ts).length ≤ ts.length := foldA_le _ _
    have l2 : (packOf ts2).length ≤ ts2.length := foldA_le _ _
    refine ⟨q2, q4, packOf ts, packOf ts2, p, rfl, S4 _ _ (S3 _ _ hq2), hq4, nodup_foldA _ _, nodup_foldA _ _, by have := p_pos pp; omega, by omega, fun q5 H5 S5 n5 hq5 => ?_⟩
    have S15 := S14.trans S5
    have ha5 := S15 _ _ ha
    refine ⟨_, rfl, a, C, dx, _, _, rfl, ha5, Y.cl, Y.n1, fs_prime _ _ _ _, _, rfl, a, C, dx, _, _, rfl, ha5, Y.cl, Y.n2, fs_wide _ _ _ _, _, rfl, ?_⟩
    have l3 := sumP_len p (packOf ts) (packOf ts2)
    exact ⟨p, k, q5, _, rfl, pp, k1', k12, hq5, nodup_foldI _ _, by omega, hro, g.same S15⟩
end
end P2
end

section
set_option maxRecDepth 100000
set_option maxHeartbeats 2000000
namespace P2
open PySem L2 ClX
theorem small_foldG {α : Type} (g : α → Int × Int) : ∀ (xs : List α) (m : List (Int × Int)), (∀ x ∈ xs, -(2 ^ 64) < (g x).2 ∧ (g x).2 < 2 ^ 64) → Small m → Small (xs.foldl (fun m x => putA m (g x).1 (g x).2) m)
  | [], _, _, h => h
  | x :: xs, m, hx, h => small_foldG g xs (putA m (g x).1 (g x).2) (fun y hy => hx y (List.mem_cons_of_mem _ hy)) (small_put h (hx x List.mem_cons_self))
theorem small_packOf {p : Int} {n : Nat} {ts : List (List Int × Int)} (h : TsOk p n ts) (hp : p < 100) : Small (packOf ts) := small_foldG (fun q : List Int × Int => (packR q.1, q.2)) ts [] (fun q hq => by
  have z := h.vals q hq
  show -(2 ^ 64) < q.2 ∧ q.2 < 2 ^ 64
  omega) fun _ z => nomatch z
theorem prodP_len (p : Int) (m1 m2 : List (Int × Int)) : (prodP p m1 m2).length ≤ m1.length * m2.length := by
  have h1 := foldI_le (fun q : Int × Int => if q.2 % p = 0 then none else some (q.1, q.2 % p)) (if m1.length < m2.length then prodL m1 m2 else prodL m2 m1)
  have h2 : (if m1.length < m2.length then prodL m1 m2 else prodL m2 m1).length ≤ m1.length * m2.length := by
    split
    · exact prodL_len m1 m2
    · rw [Nat.mul_comm]
      exact prodL_len m2 m1
  unfold prodP withoutZ
  omega
section
variable {P : Program} {w : World} {K : PySem.W.Frag} {mg : Str → Option Value} {base : Heap} {bp C B M : Addr}
/-- too great a degree is refused -/
def TooBig (M : Addr) (H : Hp) (E : XK) : Prop := ∀ d H', Same H H' → H d = none → H' d = some (.xd [("most", .int 120)]) → E (.ref M) (some d) H'
def spPolyProd (K : PySem.W.Frag) (C B M : Addr) : Sp := fun vs H Q E => ∃ u v, vs = [u, v] ∧ ((Odd K H u ∧ E (.ref B) none H) ∨ ∃ a p n ts, u = .ref a ∧ PolyAt H C a p n ts ∧ ((Odd K H v ∧ E (.ref B) none H) ∨ ∃ b p2 n2 ts2, v = .ref b ∧ PolyAt H C b p2 n2 ts2 ∧ (¬ (p = p2 ∧ n = n2) → E (.ref B) none H) ∧
  ((p = p2 ∧ n = n2) → (120 < degOf ts + degOf ts2 → TooBig M H E) ∧ (¬ 120 < degOf ts + degOf ts2 → ∃ k : Nat, n = k ∧ p ∈ primes ∧ 1 ≤ k ∧ k ≤ 12 ∧ TsOk p k ts ∧ TsOk p k ts2 ∧ ts.length * ts2.length ≤ 1000000 ∧ RowsOk k (termsOf (prodP p (packOf ts) (packOf ts2)) k) ∧ Gives C H p k (termsOf (prodP p (packOf ts) (packOf ts2)) k) Q))))
theorem sc34 : FnScope NSum ["one", "other"] (defScope (top 34)) := ⟨rfl, rfl, rfl, by decide +kernel, rfl, by decide +kernel, by decide +kernel⟩
theorem ok_polyprod {f fC fS fO fT pT fP fM : Addr} {fd dC dS dO dT dP dM : FuncData} (F : Fun K "poly_product" "poly_product" (top 34) f fd) (Y : Py K mg C B M)
    (GC : FnOk P w K mg base (L2.CX P w) 2 fC dC ["one", "other"] (spCheckPair K C B)) (kC : PySem.W.keepIn K (.ref fC) = true) (bC : Binds K dC ["one", "other"] []) (gC : mg "check_pair" = some (.ref fC))
    (GS : FnOk P w K mg base CX0 2 fS dS ["one", "other", "prime"] spPackProd) (kS : PySem.W.keepIn K (.ref fS) = true) (bS : Binds K dS ["one", "other", "prime"] []) (gS : mg "pack_product" = some (.ref fS))
    (GP : FnOk P w K mg base CX0 2 fP dP ["terms"] spPackOf) (kP : PySem.W.keepIn K (.ref fP) = true) (bP : Binds K dP ["terms"] []) (gP : mg "pack_of" = some (.ref fP))
    (GO : FnOk P w K mg base CX0 8 fO dO ["prime", "wide", "pack"] (spOfPack C)) (kO : PySem.W.keepIn K (.ref fO) = true) (bO : Binds K dO ["prime", "wide", "pack"] []) (gO : mg "poly_of_pack" = some (.ref fO))
    (GT : FnOk P w K mg base CX0 1 fT dT ["self"] (spTerms C)) (hT : PropOf K C "terms" pT fT) (bT : Binds K dT ["self"] [])
    (GM : FnOk P w K mg base CX0 1 fM dM ["self", "most"] (spErr "most" M)) (bM : Binds K dM ["self", "most"] []) (iM : PySem.W.findIn K (.ref M) "__init__" = some (some (.ref fM))) (tM : PySem.W.typeIn K (.ref fM) = some (.type "function")) :
    FnOk P w K mg base (L2.CX P w) 9 f fd ["one", "other"] (spPolyProd K C B M) := by
  refine okX F sc34 (fun vs H Q E h => ?_) (fun cdv A outer s H vs Q E hr h => ?_)
  · obtain ⟨u, v, rfl, _⟩ := h
    rfl
  · obtain ⟨u, v, rfl, h⟩ := h
    have r2 : Room 2 _ := hr.mono (by decide)
    obtain ⟨tm, hm⟩ := Y.md
    refine ⟨_, pss_cons (ps_expr (pe_call (E := E) GC r2 rfl gC kC bC .nil (passes_call (takes_of rfl rfl rfl rfl) fun _ _ _ _ h => h) (pa_cons (pv 0) (pa_cons (pv 1) pa_nil))))
      (pss_cons (ps_if (pt_cmpR op_gt (pe_op op_add (pe_fld (pv 0) rfl) (pe_fld (pv 1) rfl)) (pe_glob (v := .int 120) (by rfl) hm ⟨tm, rfl⟩) (nomark _))
        (pss_one (ps_raise rfl (takes_of rfl rfl rfl rfl) (pmk_oex (dvs := []) Y.oM iM tM GM r2 bM .nil pass0 rfl Y.gM (pa_cons (pe_glob (v := .int 120) (by rfl) hm ⟨tm, rfl⟩) pa_nil)))) pss_nil)
      (pss_cons (ps_set (i := 2) sc34.nd rfl (Or.inl rfl) (pe_call GS r2 rfl gS kS bS .nil pass0 (pa_cons (pe_call GP r2 rfl gP kP bP .nil pass0 (pa_cons (pe_prop (E := E0) (pv 0) Y.cl hT GT r2 bT .nil pass0 rfl) pa_nil)) (pa_cons (pe_call GP r2 rfl gP kP bP .nil pass0 (pa_cons (pe_prop (E := E0) (pv 1) Y.cl hT GT r2 bT .nil pass0 rfl) pa_nil)) (pa_cons (pe_fld (pv 0) rfl) pa_nil)))))
      (pss_one (ps_ret (pe_call GO hr rfl gO kO bO .nil pass0 (pa_cons (pe_fld (pv 0) rfl) (pa_cons (pe_fld (pv 0) rfl) (pa_cons (pv 2) pa_nil)))))))), ?_⟩
    refine ⟨u, rfl, v, rfl, u, v, rfl, ?_⟩
    rcases h with ⟨o, q⟩ | ⟨a, p, n, ts, rfl, hp, h⟩
    · exact .inl ⟨o, q⟩
    refine .inr ⟨a, p, n, ts, rfl, hp, ?_⟩
    rcases h with ⟨o, q⟩ | ⟨b, p2, n2, ts2, rfl, hp2, k1, k2⟩
    · exact .inl ⟨o, q⟩
    refine .inr ⟨b, p2, n2, ts2, rfl, hp2, fun e => ?_, k1⟩
    obtain ⟨kb, kg⟩ := k2 e
    obtain ⟨rfl, rfl⟩ := e
    obtain ⟨dx, d, ha, hd⟩ := id hp
    obtain ⟨dxb, db, hb, hdb⟩ := id hp2
    refine ⟨_, rfl, a, C, dx, _, _, rfl, ha, Y.cl, Y.n4, fs_degree _ _ _ _, _, rfl, b, C, dxb, _, _, rfl, hb, Y.cl, Y.n4, fs_degree _ _ _ _, _, _, rfl, rfl, _, _, rfl, rfl, _, rfl, ite2 (fun hg => ?_) fun hg => ?_⟩
    · exact ⟨by decide, fun y hn => err_left hn fun d3 H3 S3 nd hd => kb (of_decide_eq_true hg) d3 H3 S3 nd hd⟩
    obtain ⟨k, rfl, pp, k1', k12, t1, t2, hz, hro, g⟩ := kg fun z => hg (decide_eq_true z)
    refine ⟨_, rfl, a, dx, _, rfl, ha, a, p, k, ts, rfl, hp, t1.nd, t1.len, fun q1 H1 S1 n1 hq1 => ?_⟩
    refine ⟨q1, ts, rfl, hq1, t1.nd, t1.exps k12, t1.len, fun q2 H2 S2 n2 hq2 => ?_⟩
    have S12 := S1.trans S2
    refine ⟨_, rfl, b, dxb, _, rfl, S12 _ _ hb, b, p, k, ts2, rfl, hp2.same S12, t2.nd, t2.len, fun q3 H3 S3 n3 hq3 => ?_⟩
    refine ⟨q3, ts2, rfl, hq3, t2.nd, t2.exps k12, t2.len, fun q4 H4 S4 n4 hq4 => ?_⟩
    have S14 := (S12.trans S3).trans S4
    have ha4 := S14 _ _ ha
    have hq24 := S4 _ _ (S3 _ _ hq2)
    refine ⟨_, rfl, a, C, dx, _, _, rfl, ha4, Y.cl, Y.n1, fs_prime _ _ _ _, ?_⟩
    have l1 : (packOf ts).length ≤ ts.length := foldA_le _ _
    have l2 : (packOf ts2).length ≤ ts2.length := foldA_le _ _
    have l12 : (packOf ts).length * (packOf ts2).length ≤ ts.length * ts2.length := Nat.mul_le_mul l1 l2
    obtain ⟨pl, pu⟩ := p_pos pp
    refine ⟨q2, q4, packOf ts, packOf ts2, p, rfl, hq24, hq4, (fun z => by rw [← z, S3 _ _ hq2] at n4; cases n4), by omega, small_packOf t1 pu, small_packOf t2 pu, Nat.le_trans l1 t1.len, Nat.le_trans l2 t2.len, Nat.le_trans l12 hz, fun q5 H5 S5 n5 hq5 => ?_⟩
    have S15 := S14.trans S5
    have ha5 := S15 _ _ ha
    refine ⟨_, rfl, a, C, dx, _, _, rfl, ha5, Y.cl, Y.n1, fs_prime _ _ _ _, _, rfl, a, C, dx, _, _, rfl, ha5, Y.cl, Y.n2, fs_wide _ _ _ _, _, rfl, ?_⟩
    have l3 := prodP_len p (packOf ts) (packOf ts2)
    exact ⟨p, k, q5, _, rfl, pp, k1', k12, hq5, nodup_foldI _ _, Nat.le_trans l3 (Nat.le_trans l12 hz), hro, g.same S15⟩
end
end P2
end

section
set_option maxRecDepth 100000
set_option maxHeartbeats 2000000
namespace P2
open PySem L2 ClX
/-- what BadNumber is -/
structure Nx (K : PySem.W.Frag) (mg : Str → Option Value) (N : Addr) : Prop where
  gN : mg "BadNumber" = some (.ref N)
  oN : OexC K N
  pN : PySem.W.findIn K (.ref N) "part" = some none
section
variable {P : Program} {w : World} {K : PySem.W.Frag} {mg : Str → Option Value} {base : Heap} {bp C B M N : Addr}
theorem scBN : FnScope ["self", "part"] ["self", "part"] (defScope sBN) := ⟨rfl, rfl, rfl, by decide +kernel, rfl, by decide +kernel, by decide +kernel⟩
theorem ok_bn {f : Addr} {fd : FuncData} (F : Fun K "__init__" "BadNumber.__init__" sBN f fd) (X : Nx K mg N) : FnOk P w K mg base CX0 1 f fd ["self", "part"] (spErr "part" N) := by
  refine F.ok scBN (fun vs H Q E h => ?_) (fun cdv A outer s H vs Q E hr h => ?_)
  · obtain ⟨a, v, rfl, _⟩ := h
    rfl
  · obtain ⟨a, v, rfl, ha, k⟩ := h
    exact ⟨_, pss_one (ps_ost (pv 0) (pv 1)), _, rfl, _, rfl, a, _, rfl, X.oN, X.pN, .inl ⟨ha, fun dx h1 h2 => k dx h1 h2⟩⟩
/-- a number is refused, by the name of its part -/
def BadN (N : Addr) (part : Str) (H : Hp) (E : XK) : Prop := ∀ d H', Same H H' → H d = none → H' d = some (.xd [("part", .str part)]) → E (.ref N) (some d) H'
def spPolyPow (K : PySem.W.Frag) (C B M N : Addr) : Sp := fun vs H Q E => ∃ u v, vs = [u, v] ∧ ((Odd K H u ∧ E (.ref B) none H) ∨ ∃ a p n ts, u = .ref a ∧ PolyAt H C a p n ts ∧ PV K H v ∧ (inB v 0 120 = false → BadN N "times" H E) ∧
  (inB v 0 120 = true → ∃ t : Nat, v = .int t ∧ (120 < degOf ts * t → TooBig M H E) ∧ (¬ 120 < degOf ts * t → ∃ k : Nat, n = k ∧ p ∈ primes ∧ 1 ≤ k ∧ k ≤ 12 ∧ TsOk p k ts ∧ t ≤ 120 ∧ OkPow p t [(0, 1)] (packOf ts) t ∧ ((powF p t [(0, 1)] (packOf ts) t).map (·.1)).Nodup ∧ (powF p t [(0, 1)] (packOf ts) t).length ≤ 1000000 ∧
    RowsOk k (termsOf (powF p t [(0, 1)] (packOf ts) t) k) ∧ Gives C H p k (termsOf (powF p t [(0, 1)] (packOf ts) t) k) Q)))
theorem sc36 : FnScope ["one", "times"] ["one", "times"] (defScope (top 36)) := ⟨rfl, rfl, rfl, by decide +kernel, rfl, by decide +kernel, by decide +kernel⟩
theorem ok_polypow {f fC fW fS fO fT pT fP fM fN : Addr} {fd dC dW dS dO dT dP dM dN : FuncData} (F : Fun K "poly_power" "poly_power" (top 36) f fd) (Y : Py K mg C B M) (X : Nx K mg N)
    (GC : FnOk P w K mg base (L2.CX P w) 1 fC dC ["thing"] (spCheckPoly K C B)) (kC : PySem.W.keepIn K (.ref fC) = true) (bC : Binds K dC ["thing"] []) (gC : mg "check_poly" = some (.ref fC))
    (GW : FnOk P w K mg base CX0 2 fW dW ["thing", "least", "most"] (spWithin K)) (kW : PySem.W.keepIn K (.ref fW) = true) (bW : Binds K dW ["thing", "least", "most"] []) (gW : mg "is_within" = some (.ref fW))
    (GS : FnOk P w K mg base CX0 3 fS dS ["one", "times", "prime"] spPackPow) (kS : PySem.W.keepIn K (.ref fS) = true) (bS : Binds K dS ["one", "times", "prime"] []) (gS : mg "pack_power" = some (.ref fS))
    (GP : FnOk P w K mg base CX0 2 fP dP ["terms"] spPackOf) (kP : PySem.W.keepIn K (.ref fP) = true) (bP : Binds K dP ["terms"] []) (gP : mg "pack_of" = some (.ref fP))
    (GO : FnOk P w K mg base CX0 8 fO dO ["prime", "wide", "pack"] (spOfPack C)) (kO : PySem.W.keepIn K (.ref fO) = true) (bO : Binds K dO ["prime", "wide", "pack"] []) (gO : mg "poly_of_pack" = some (.ref fO))
    (GT : FnOk P w K mg base CX0 1 fT dT ["self"] (spTerms C)) (hT : PropOf K C "terms" pT fT) (bT : Binds K dT ["self"] [])
    (GM : FnOk P w K mg base CX0 1 fM dM ["self", "most"] (spErr "most" M)) (bM : Binds K dM ["self", "most"] []) (iM : PySem.W.findIn K (.ref M) "__init__" = some (some (.ref fM))) (tM : PySem.W.typeIn K (.ref fM) = some (.type "function"))
    (GN : FnOk P w K mg base CX0 1 fN dN ["self", "part"] (spErr "part" N)) (bN : Binds K dN ["self", "part"] []) (iN : PySem.W.findIn K (.ref N) "__init__" = some (some (.ref fN))) (tN : PySem.W.typeIn K (.ref fN) = some (.type "function")) :
    FnOk P w K mg base (L2.CX P w) 9 f fd ["one", "times"] (spPolyPow K C B M N) := by
  refine okX F sc36 (fun vs H Q E h => ?_) (fun cdv A outer s H vs Q E hr h => ?_)
  · obtain ⟨u, v, rfl, _⟩ := h
    rfl
  · obtain ⟨u, v, rfl, h⟩ := h
    have r2 : Room 2 _ := hr.mono (by decide)
    have r3 : Room 3 _ := hr.mono (by decide)
    obtain ⟨tm, hm⟩ := Y.md
    refine ⟨_, pss_cons (ps_expr (pe_call (E := E) GC (hr.mono (by decide)) rfl gC kC bC .nil (passes_call (takes_of rfl rfl rfl rfl) fun _ _ _ _ h => h) (pa_cons (pv 0) pa_nil)))
      (pss_cons (ps_if (pt_not (pt_val (pe_call GW r2 rfl gW kW bW .nil pass0 (pa_cons (pv 1) (pa_cons pe_int (pa_cons (pe_glob (v := .int 120) rfl hm ⟨tm, rfl⟩) pa_nil))))))
        (pss_one (ps_raise rfl (takes_of rfl rfl rfl rfl) (pmk_oex (dvs := []) X.oN iN tN GN r2 bN .nil pass0 rfl X.gN (pa_cons pe_str pa_nil)))) pss_nil)
      (pss_cons (ps_if (pt_cmpR op_gt (pe_op op_mul (pe_fld (pv 0) rfl) (pv 1)) (pe_glob (v := .int 120) (by rfl) hm ⟨tm, rfl⟩) (nomark _))
        (pss_one (ps_raise rfl (takes_of rfl rfl rfl rfl) (pmk_oex (dvs := []) Y.oM iM tM GM r2 bM .nil pass0 rfl Y.gM (pa_cons (pe_glob (v := .int 120) (by rfl) hm ⟨tm, rfl⟩) pa_nil)))) pss_nil)
      (pss_one (ps_ret (pe_call GO hr rfl gO kO bO .nil pass0 (pa_cons (pe_fld (pv 0) rfl) (pa_cons (pe_fld (pv 0) rfl) (pa_cons
        (pe_call GS r3 rfl gS kS bS .nil pass0 (pa_cons (pe_call GP r2 rfl gP kP bP .nil pass0 (pa_cons (pe_prop (E := E0) (pv 0) Y.cl hT GT r2 bT .nil pass0 rfl) pa_nil)) (pa_cons (pv 1) (pa_cons (pe_fld (pv 0) rfl) pa_nil)))) pa_nil)))))))), ?_⟩
    refine ⟨u, rfl, u, rfl, ?_⟩
    rcases h with ⟨o, q⟩ | ⟨a, p, n, ts, rfl, hp, pv1, k1, k2⟩
    · exact .inr ⟨o, q⟩
    refine .inl ⟨a, p, n, ts, rfl, hp, v, rfl, v, 0, 120, rfl, pv1, _, rfl, ?_⟩
    cases hb : inB v 0 120 with
    | false => exact iteT ⟨by decide, fun y hn => err_left hn fun d3 H3 S3 nd hd => k1 hb d3 H3 S3 nd hd⟩
    | true =>
      refine iteF ?_
      obtain ⟨t, rfl, kb, kg⟩ := k2 hb
      have ht2 : t ≤ 120 := by
        have z : (decide ((0 : Int) ≤ (t : Int)) && decide ((t : Int) ≤ 120)) = true := hb
        have z2 := of_decide_eq_true (Bool.and_eq_true_iff.mp z).2
        omega
      obtain ⟨dx, d, ha, hd⟩ := id hp
      refine ⟨_, rfl, a, C, dx, _, _, rfl, ha, Y.cl, Y.n4, fs_degree _ _ _ _, _, rfl, _, _, rfl, rfl, .inr ⟨by omega, by omega⟩, _, _, rfl, rfl, _, rfl, ite2 (fun hg => ?_) fun hg => ?_⟩
      · exact ⟨by decide, fun y hn => err_left hn fun d3 H3 S3 nd hd => kb (of_decide_eq_true hg) d3 H3 S3 nd hd⟩
      obtain ⟨k, rfl, pp, k1', k12, t1, ht, okp, ndp, lnp, hro, g⟩ := kg fun z => hg (decide_eq_true z)
      obtain ⟨pl, pu⟩ := p_pos pp
      refine ⟨_, rfl, a, C, dx, _, _, rfl, ha, Y.cl, Y.n1, fs_prime _ _ _ _, _, rfl, a, C, dx, _, _, rfl, ha, Y.cl, Y.n2, fs_wide _ _ _ _, _, rfl, a, dx, _, rfl, ha, a, p, k, ts, rfl, hp, t1.nd, t1.len, fun q1 H1 S1 n1 hq1 => ?_⟩
      refine ⟨q1, ts, rfl, hq1, t1.nd, t1.exps k12, t1.len, fun q2 H2 S2 n2 hq2 => ?_⟩
      have S12 := S1.trans S2
      refine ⟨_, rfl, _, rfl, a, C, dx, _, _, rfl, S12 _ _ ha, Y.cl, Y.n1, fs_prime _ _ _ _, ?_⟩
      have l1 : (packOf ts).length ≤ ts.length := foldA_le _ _
      refine ⟨q2, packOf ts, t, p, rfl, hq2, pl, by omega, by omega, small_packOf t1 pu, Nat.le_trans l1 t1.len, okp, fun q5 H5 S5 n5 hq5 => ?_⟩
      exact ⟨p, k, q5, _, rfl, pp, k1', k12, hq5, ndp, lnp, hro, g.same (S12.trans S5)⟩
end
end P2
end

section
set_option maxRecDepth 100000
set_option maxHeartbeats 2000000
namespace ClX
open PySem PySem.Spec PyProof.Rows L2
/-- the value, and from here on it is not written -/
def tFrz (te : TE) : TE := fun σ H Q => te σ H fun x H1 => ∃ d u, x = .ref d ∧ H1 d = some u ∧ Mut (some u) ∧ ∀ od, Q (.ref d) (upd H1 d (.frz od u))
theorem pe_frz {X : Cx} {e : Expr} {t : TE} (h : PE X e t) : PE X e (tFrz t) := by
  refine ⟨fun pins s σ H Q I hw => ?_⟩
  refine thn (h.run pins s σ H _ I hw) fun v s1 ⟨x, H1, I1, r, d, u, ex, hd, mu, q⟩ => ?_
  subst ex
  obtain ⟨od, I2⟩ := I1.lock hd mu
  exact ⟨_, _, I2, r, q od⟩
end ClX
namespace P2
open PySem L2 ClX
theorem foldA_map {κ : Type} [DecidableEq κ] {m : List (κ × Int)} (g : κ × Int → Int) (hn : (m.map (·.1)).Nodup) : foldA (fun q => (q.1, g q)) m = m.map fun q => (q.1, g q) := by
  have key : ∀ i, i ≤ m.length → foldA (fun q : κ × Int => (q.1, g q)) (m.take i) = (m.take i).map fun q => (q.1, g q) := by
    intro i
    induction i with
    | zero => intro _; rfl
    | succ i ih =>
      intro hi
      have hm : m[i]? = some m[i] := List.getElem?_eq_getElem (by omega)
      rw [foldA_take _ hm, ih (by omega), putA_end, List.take_succ, hm, List.map_append]
      · rfl
      · intro z
        rw [List.map_map] at z
        obtain ⟨p, hp, e⟩ := List.mem_map.mp z
        have e : p.1 = m[i].1 := e
        obtain ⟨j, hj, ej⟩ := List.mem_iff_getElem.mp hp
        have hj2 : j < i := by
          rw [List.length_take] at hj
          omega
        rw [List.getElem_take] at ej
        have e1 : (m.map (·.1))[j]'(by rw [List.length_map]; omega) = (m.map (·.1))[i]'(by rw [List.length_map]; omega) := by
          rw [List.getElem_map, List.getElem_map, ej, e]
        have := (List.getElem_inj hn).mp e1
        omega
  have := key m.length (Nat.le_refl _)
  rwa [List.take_length] at this
/-- each number times c -/
def scaleT (c : Int) (ts : List (List Int × Int)) : List (List Int × Int) := foldA (fun q => (q.1, q.2 * c)) ts
theorem scale_map {c : Int} {ts : List (List Int × Int)} (h : (ts.map (·.1)).Nodup) : scaleT c ts = ts.map fun q => (q.1, q.2 * c) := foldA_map _ h
theorem scale_rows {c : Int} {k : Nat} {ts : List (List Int × Int)} (h : (ts.map (·.1)).Nodup) (r : RowsOk k ts) : RowsOk k (scaleT c ts) := by
  rw [scale_map h]
  intro q hq
  obtain ⟨q2, h2, rfl⟩ := List.mem_map.mp hq
  exact r q2 h2
section
variable {P : Program} {w : World} {K : PySem.W.Frag} {mg : Str → Option Value} {base : Heap} {bp C B M N : Addr}
def spPolyScaled (K : PySem.W.Frag) (C B N : Addr) : Sp := fun vs H Q E => ∃ u v, vs = [u, v] ∧ ((Odd K H u ∧ E (.ref B) none H) ∨ ∃ a p n ts, u = .ref a ∧ PolyAt H C a p n ts ∧ PV K H v ∧ (isI v = false → BadN N "number" H E) ∧
  (isI v = true → ∃ (c : Int) (k : Nat), v = .int c ∧ n = k ∧ p ∈ primes ∧ 1 ≤ k ∧ k ≤ 12 ∧ TsOk p k ts ∧ Gives C H p k (scaleT c ts) Q))
abbrev NSC : List Str := ["one", "number", "row", "value"]
theorem sc35 : FnScope NSC ["one", "number"] (defScope (top 35)) := ⟨rfl, rfl, rfl, by decide +kernel, rfl, by decide +kernel, by decide +kernel⟩
theorem ok_polyscaled {f fC fW fI fT pT fN : Addr} {fd dC dW dI dT dN : FuncData} (F : Fun K "poly_scaled" "poly_scaled" (top 35) f fd) (Y : Py K mg C B M) (X : Nx K mg N) (Mk_ : Mk K C fI)
    (GC : FnOk P w K mg base (L2.CX P w) 1 fC dC ["thing"] (spCheckPoly K C B)) (kC : PySem.W.keepIn K (.ref fC) = true) (bC : Binds K dC ["thing"] []) (gC : mg "check_poly" = some (.ref fC))
    (GW : FnOk P w K mg base CX0 1 fW dW ["thing"] (spIsNum K)) (kW : PySem.W.keepIn K (.ref fW) = true) (bW : Binds K dW ["thing"] []) (gW : mg "is_number" = some (.ref fW))
    (GI : FnOk P w K mg base (L2.CX P w) 6 fI dI ["self", "prime", "wide", "terms"] (spInit K bp C B M)) (bI : Binds K dI ["self", "prime", "wide", "terms"] [])
    (GT : FnOk P w K mg base CX0 1 fT dT ["self"] (spTerms C)) (hT : PropOf K C "terms" pT fT) (bT : Binds K dT ["self"] [])
    (GN : FnOk P w K mg base CX0 1 fN dN ["self", "part"] (spErr "part" N)) (bN : Binds K dN ["self", "part"] []) (iN : PySem.W.findIn K (.ref N) "__init__" = some (some (.ref fN))) (tN : PySem.W.typeIn K (.ref fN) = some (.type "function")) :
    FnOk P w K mg base (L2.CX P w) 8 f fd ["one", "number"] (spPolyScaled K C B N) := by
  refine okX F sc35 (fun vs H Q E h => ?_) (fun cdv A outer s H vs Q E hr h => ?_)
  · obtain ⟨u, v, rfl, _⟩ := h
    rfl
  · obtain ⟨u, v, rfl, h⟩ := h
    have r2 : Room 2 _ := hr.mono (by decide)
    have hu := hu_of hr
    refine ⟨_, pss_cons (ps_expr (pe_call (E := E) GC (hr.mono (by decide)) rfl gC kC bC .nil (passes_call (takes_of rfl rfl rfl rfl) fun _ _ _ _ h => h) (pa_cons (pv 0) pa_nil)))
      (pss_cons (ps_if (pt_not (pt_val (pe_call GW (hr.mono (by decide)) rfl gW kW bW .nil pass0 (pa_cons (pv 1) pa_nil))))
        (pss_one (ps_raise rfl (takes_of rfl rfl rfl rfl) (pmk_oex (dvs := []) X.oN iN tN GN r2 bN .nil pass0 rfl X.gN (pa_cons pe_str pa_nil)))) pss_nil)
      (pss_one (ps_ret (pe_make (E := fun _ _ _ => False) Mk_ GI (hr.mono (by decide)) rfl Y.gC bI .nil passF (pa_cons (pe_fld (pv 0) rfl) (pa_cons (pe_fld (pv 0) rfl) (pa_cons
        (pe_dcT (own := [("row", 2), ("value", 3)]) (g := gTup K 2 (gCons (gName 2) (gCons (gName 3) gNil))) (tt := tYes) (tk := tVar 2) (tv := tOp (rI CMul fun i j => .int (i * j)) (tVar 3) (tVar 1)) (Nat.lt_of_succ_lt hu) rfl sc35.nd (pi_itemsT (pe_frz (pe_prop (E := E0) (pv 0) Y.cl hT GT r2 bT .nil pass0 rfl))) (blkOk_by (own := [("row", 2), ("value", 3)]) (N := NSC) (sc := defScope (top 35)) (by decide +kernel))
          (fun _ _ _ _ _ => pg_tup rfl (pgs_cons (pg_name (i := 2) sc35.nd rfl (Or.inl rfl)) (pgs_cons (pg_name (i := 3) sc35.nd rfl (Or.inl rfl)) pgs_nil))) (fun _ _ _ _ _ => pts_nil) (fun _ _ _ _ _ => pv 2) (fun _ _ _ _ _ => pe_op op_mul (pv 3) (pv 1))) pa_nil))))))), ?_⟩
    refine ⟨u, rfl, u, rfl, ?_⟩
    rcases h with ⟨o, q⟩ | ⟨a, p, n, ts, rfl, hp, pv1, k1, k2⟩
    · exact .inr ⟨o, q⟩
    refine .inl ⟨a, p, n, ts, rfl, hp, v, rfl, v, rfl, pv1, _, rfl, ?_⟩
    cases hb : isI v with
    | false => exact iteT ⟨by decide, fun y hn => err_left hn fun d3 H3 S3 nd hd => k1 hb d3 H3 S3 nd hd⟩
    | true =>
      refine iteF ?_
      obtain ⟨c, k, rfl, rfl, pp, k1', k12, t1, g⟩ := k2 hb
      obtain ⟨dx, d, ha, hd⟩ := id hp
      obtain ⟨pl, pu⟩ := p_pos pp
      refine ⟨_, rfl, a, C, dx, _, _, rfl, ha, Y.cl, Y.n1, fs_prime _ _ _ _, _, rfl, a, C, dx, _, _, rfl, ha, Y.cl, Y.n2, fs_wide _ _ _ _, _, rfl, a, dx, _, rfl, ha, a, p, k, ts, rfl, hp, t1.nd, t1.len, fun q1 H1 S1 n1 hq1 => ?_⟩
      refine ⟨q1, _, rfl, hq1, trivial, fun od => ?_⟩
      have S2 : Same H (upd H1 q1 (.frz od (.dT (rK ts)))) := S1.put n1
      have hf : upd H1 q1 (.frz od (.dT (rK ts))) q1 = some (.frz od (.dT (rK ts))) := upd_same
      generalize upd H1 q1 (.frz od (.dT (rK ts))) = H2 at S2 hf
      refine ⟨q1, od, _, rfl, hf, fun D hD => ?_⟩
      have hDq : D ≠ q1 := fun z => by rw [z, hf] at hD; cases hD
      refine dcT_it walk_itemsT (fun i H' => Same H2 H' ∧ H' D = some (.dT (rK (scaleT c (ts.take i))))) ⟨(Same.refl _).put hD, upd_same⟩ (fun i H' _ h => h.1 _ _ hf) ?_ ?_
      · rintro i x H3 H4 hi ⟨S3, hL⟩ ⟨tt, q, kk, vv, hkv, rfl, hq, htn, rfl⟩
        obtain ⟨r, cc, hts, rfl, rfl⟩ := asK_get hkv
        rw [rowK_kV] at hq
        have S4 := S3.new (o := .tup [V.ref q, V.int cc]) htn
        have hL4 : upd H3 tt (.tup [V.ref q, V.int cc]) D = some (.dT (rK (scaleT c (ts.take i)))) := by rw [upd_ne (ne_of_none hL htn)]; exact hL
        have hq4 : upd H3 tt (.tup [V.ref q, V.int cc]) q = some (.tup (r.map V.int)) := by rw [upd_ne (ne_of_none hq htn)]; exact hq
        have z := t1.vals _ (List.mem_of_getElem? hts)
        have z1 : 0 < cc := z.1
        have z2 : cc < p := z.2
        refine ⟨tt, _, rfl, SqT.of upd_same, rfl, _, _, rfl, _, _, rfl, rfl, rfl, _, rfl, _, rfl, _, rfl, cc, c, rfl, rfl, .inl ⟨by omega, by omega⟩, _, DPut.t (k := rowK r) hL4 (by rw [rowK_kV]; exact hq4) (fold_small _ _ i t1.len), S4.put hD, ?_⟩
        rw [upd_same, putK_asK rowK_inj]
        unfold scaleT
        rw [foldA_take _ hts]
      · intro H' ⟨S3, hL⟩
        rw [asK_len, List.take_length] at hL
        have lz : (scaleT c ts).length ≤ 1000000 := Nat.le_trans (foldA_le _ _) t1.len
        refine fun x dx2 nx ndx ne => ?_
        exact make_good pp k1' k12 hL (scale_rows t1.nd t1.rows) (nodup_foldA _ _) lz nx ndx ne (g.same (S2.trans S3))
end
end P2
end

section
set_option maxRecDepth 100000
set_option maxHeartbeats 2000000
namespace P2
open PySem L2 ClX
section
variable {P : Program} {w : World} {K : PySem.W.Frag} {mg : Str → Option Value} {base : Heap} {bp C B M N : Addr}
theorem inB_int {v : V} {a b : Int} (h : inB v a b = true) : ∃ i, v = .int i ∧ a ≤ i ∧ i ≤ b := by
  cases v with
  | int i =>
    have z : (decide (a ≤ i) && decide (i ≤ b)) = true := h
    obtain ⟨z1, z2⟩ := Bool.and_eq_true_iff.mp z
    exact ⟨i, rfl, of_decide_eq_true z1, of_decide_eq_true z2⟩
  | _ => cases h
theorem isP_int {v : V} (h : isP v = true) : ∃ p, v = .int p ∧ p ∈ primes := by
  cases v with
  | int p => exact ⟨p, rfl, of_decide_eq_true h⟩
  | _ => cases h
/-- a dict with one pair is put together -/
theorem puts_one {H2 H3 : Hp} {D b : Addr} {r : List Int} {c : Int} {Q : Hp → Prop} (hD : H3 D = some (.dT [])) (hb : H3 b = some (.tup (r.map V.int))) (k : Q (upd H3 D (.dT (rK [(r, c)])))) : Puts D [(V.ref b, V.int c)] H3 Q := by
  refine ⟨_, DPut.t (k := rowK r) hD (by rw [rowK_kV]; exact hb) (by decide), ?_⟩
  exact k
theorem one_rows {k : Nat} {r : List Int} {c : Int} (h1 : r.length = k) (h2 : ∀ e ∈ r, 0 ≤ e) (h3 : r.sum ≤ 120) : RowsOk k [(r, c)] := fun q hq => by
  obtain rfl := List.mem_singleton.mp hq
  exact ⟨h1, h2, h3⟩
theorem sum_zeros : ∀ k : Nat, (List.replicate k (0 : Int)).sum = 0
  | 0 => rfl
  | k + 1 => by
    rw [List.replicate_succ, List.sum_cons, sum_zeros k]
    rfl
theorem rep_flat (k : Nat) : (List.replicate k [V.int 0]).flatten = (List.replicate k (0 : Int)).map V.int := by
  induction k with
  | zero => rfl
  | succ k ih =>
    rw [List.replicate_succ, List.replicate_succ, List.flatten_cons, ih]
    rfl
def spConst (K : PySem.W.Frag) (bp C N : Addr) : Sp := fun vs H Q E => ∃ vp vw vn, vs = [vp, vw, vn] ∧ PV K H vp ∧ (isP vp = false → E (.ref bp) none H) ∧ (isP vp = true → PV K H vw ∧ (inB vw 1 12 = false → BadN N "wide" H E) ∧
  (inB vw 1 12 = true → PV K H vn ∧ (isI vn = false → BadN N "number" H E) ∧ (isI vn = true → ∀ (p : Int) (k : Nat) (c : Int), vp = .int p → vw = .int k → vn = .int c → Gives C H p k [(List.replicate k 0, c)] Q)))
theorem sc32 : FnScope ["prime", "wide", "number"] ["prime", "wide", "number"] (defScope (top 32)) := ⟨rfl, rfl, rfl, by decide +kernel, rfl, by decide +kernel, by decide +kernel⟩
theorem ok_const {f fP fW fB fI fN : Addr} {fd dP dW dB dI dN : FuncData} (F : Fun K "constant" "constant" (top 32) f fd) (Y : Py K mg C B M) (X : Nx K mg N) (Mk_ : Mk K C fI)
    (GP : FnOk P w K mg base (L2.CX P w) 3 fP dP ["prime"] (spCheckPrime K bp)) (kP : PySem.W.keepIn K (.ref fP) = true) (bP : Binds K dP ["prime"] []) (gP : mg "check_prime" = some (.ref fP))
    (GW : FnOk P w K mg base CX0 2 fW dW ["thing", "least", "most"] (spWithin K)) (kW : PySem.W.keepIn K (.ref fW) = true) (bW : Binds K dW ["thing", "least", "most"] []) (gW : mg "is_within" = some (.ref fW))
    (GB : FnOk P w K mg base CX0 1 fB dB ["thing"] (spIsNum K)) (kB : PySem.W.keepIn K (.ref fB) = true) (bB : Binds K dB ["thing"] []) (gB : mg "is_number" = some (.ref fB))
    (GI : FnOk P w K mg base (L2.CX P w) 6 fI dI ["self", "prime", "wide", "terms"] (spInit K bp C B M)) (bI : Binds K dI ["self", "prime", "wide", "terms"] [])
    (GN : FnOk P w K mg base CX0 1 fN dN ["self", "part"] (spErr "part" N)) (bN : Binds K dN ["self", "part"] []) (iN : PySem.W.findIn K (.ref N) "__init__" = some (some (.ref fN))) (tN : PySem.W.typeIn K (.ref fN) = some (.type "function")) :
    FnOk P w K mg base (L2.CX P w) 8 f fd ["prime", "wide", "number"] (spConst K bp C N) := by
  refine okX F sc32 (fun vs H Q E h => ?_) (fun cdv A outer s H vs Q E hr h => ?_)
  · obtain ⟨vp, vw, vn, rfl, _⟩ := h
    rfl
  · obtain ⟨vp, vw, vn, rfl, p1, k1, k2⟩ := h
    have r2 : Room 2 _ := hr.mono (by decide)
    have hu := hu_of hr
    obtain ⟨tu, hm⟩ := Y.mu
    refine ⟨_, pss_cons (ps_expr (pe_call (E := E) GP (hr.mono (by decide)) rfl gP kP bP .nil (passes_call (takes_of rfl rfl rfl rfl) fun _ _ _ _ h => h) (pa_cons (pv 0) pa_nil)))
      (pss_cons (ps_if (pt_not (pt_val (pe_call GW r2 rfl gW kW bW .nil pass0 (pa_cons (pv 1) (pa_cons pe_int (pa_cons (pe_glob (v := .int 12) rfl hm ⟨tu, rfl⟩) pa_nil))))))
        (pss_one (ps_raise rfl (takes_of rfl rfl rfl rfl) (pmk_oex (dvs := []) X.oN iN tN GN r2 bN .nil pass0 rfl X.gN (pa_cons pe_str pa_nil)))) pss_nil)
      (pss_cons (ps_if (pt_not (pt_val (pe_call GB (hr.mono (by decide)) rfl gB kB bB .nil pass0 (pa_cons (pv 2) pa_nil))))
        (pss_one (ps_raise rfl (takes_of rfl rfl rfl rfl) (pmk_oex (dvs := []) X.oN iN tN GN r2 bN .nil pass0 rfl X.gN (pa_cons pe_str pa_nil)))) pss_nil)
      (pss_one (ps_ret (pe_make (E := fun _ _ _ => False) Mk_ GI (hr.mono (by decide)) rfl Y.gC bI .nil passF (pa_cons (pv 0) (pa_cons (pv 1) (pa_cons
        (pe_dispT (Nat.lt_of_succ_lt hu) (pps_cons (pe_op op_repN (pe_tup (pa_cons pe_int pa_nil)) (pv 1)) (pv 2) pps_nil) (by rfl) (by rfl) (fun z => by cases z) (by decide)) pa_nil)))))))), ?_⟩
    refine ⟨vp, rfl, vp, rfl, p1, fun hp => ?_, k1⟩
    obtain ⟨p2, k3, k4⟩ := k2 hp
    refine ⟨vw, rfl, vw, 1, 12, rfl, p2, _, rfl, ?_⟩
    cases hb : inB vw 1 12 with
    | false => exact iteT ⟨by decide, fun y hn => err_left hn fun d3 H3 S3 nd hd => k3 hb d3 H3 S3 nd hd⟩
    | true =>
      refine iteF ?_
      obtain ⟨p3, k5, k6⟩ := k4 hb
      refine ⟨vn, rfl, vn, rfl, p3, _, rfl, ?_⟩
      cases hc : isI vn with
      | false => exact iteT ⟨by decide, fun y hn => err_left hn fun d3 H3 S3 nd hd => k5 hc d3 H3 S3 nd hd⟩
      | true =>
        refine iteF ?_
        obtain ⟨p, rfl, pp⟩ := isP_int hp
        obtain ⟨wi, rfl, w1, w2⟩ := inB_int hb
        obtain ⟨c, rfl⟩ := isI_some hc
        obtain ⟨k, rfl⟩ : ∃ k : Nat, wi = k := ⟨wi.toNat, by omega⟩
        have g := k6 hc p k c rfl rfl rfl
        refine ⟨_, rfl, _, rfl, fun D hD => ?_⟩
        have S1 : Same H (upd H D (.dT [])) := (Same.refl _).put hD
        have tail : ∀ (b : Addr) (H3 : Hp), Same (upd H D (.dT [])) H3 → H3 b = some (.tup ((List.replicate k (0 : Int)).map V.int)) → Puts D [(V.ref b, V.int c)] H3 fun H4 => ∀ x dx, H4 x = none → H4 dx = none → dx ≠ x → spInit K bp C B M [.ref x, .int p, .int k, .ref D] (upd (upd H4 dx (.own x)) x (.ins C dx [])) (fun v H2 => v = .non ∧ Q (.ref x) H2) (fun _ _ _ => False) := by
          intro b H3 S3 hb3
          have hD3 := S3 D _ upd_same
          refine puts_one (H2 := H) hD3 hb3 fun x dx nx ndx ne => ?_
          have S4 : Same H (upd H3 D (.dT (rK [(List.replicate k 0, c)]))) := fun z o e => by
            rw [upd_ne (ne_of_none e hD)]
            exact S3 _ _ (S1 _ _ e)
          exact make_good pp (by omega) (by omega) upd_same (one_rows (List.length_replicate ..) (fun e he => by rw [List.eq_of_mem_replicate he]; exact Int.le_refl _) (by rw [sum_zeros]; decide)) (by simp) (show (1 : Nat) ≤ 1000000 by decide) nx ndx ne (g.same S4)
        refine ⟨by decide, fun l hl => ⟨_, rfl, l, k, _, rfl, rfl, SqT.of upd_same, (fun z => nomatch z), by omega, by omega, by decide, fun e1 => ?_, fun e1 l2 hl2 => ?_⟩⟩
        · obtain rfl : k = 1 := by omega
          exact ⟨_, rfl, tail l _ ((Same.refl _).put hl) upd_same⟩
        · refine ⟨_, rfl, tail l2 _ (((Same.refl _).put hl).new hl2) ?_⟩
          rw [upd_same, ← rep_flat]
          rfl
end
end P2
end

section
set_option maxRecDepth 100000
set_option maxHeartbeats 2000000
namespace P2
open PySem L2 ClX
/-- the row of one unknown -/
def letR (k : Nat) (s : Int) : List Int := (List.range k).map fun i : Nat => if (i : Int) = s then (1 : Int) else 0
theorem letR_nn {k : Nat} {s : Int} : ∀ e ∈ letR k s, 0 ≤ e := fun e he => by
  obtain ⟨i, _, rfl⟩ := List.mem_map.mp he
  show (0 : Int) ≤ if (i : Int) = s then 1 else 0
  split <;> omega
theorem letR_sum (s : Int) : ∀ k : Nat, (letR k s).sum = if 0 ≤ s ∧ s < k then 1 else 0
  | 0 => by
    rw [if_neg (by omega)]
    rfl
  | k + 1 => by
    have ih := letR_sum s k
    have e : letR (k + 1) s = letR k s ++ [if (k : Int) = s then 1 else 0] := by
      unfold letR
      rw [List.range_succ, List.map_append]
      rfl
    rw [e, List.sum_append, ih]
    show _ + (([if (k : Int) = s then (1 : Int) else 0]).sum) = _
    rw [List.sum_cons, List.sum_nil]
    by_cases h1 : (k : Int) = s
    · rw [if_pos h1, if_neg (by omega), if_pos (by omega)]
      rfl
    · rw [if_neg h1]
      by_cases h2 : 0 ≤ s ∧ s < (k : Int)
      · rw [if_pos h2, if_pos (by omega)]
        rfl
      · rw [if_neg h2, if_neg (by omega)]
        rfl
section
variable {P : Program} {w : World} {K : PySem.W.Frag} {mg : Str → Option Value} {base : Heap} {bp C B M N : Addr}
def spLetter (K : PySem.W.Frag) (bp C N : Addr) : Sp := fun vs H Q E => ∃ vp vw vn, vs = [vp, vw, vn] ∧ PV K H vp ∧ (isP vp = false → E (.ref bp) none H) ∧ (isP vp = true → PV K H vw ∧ (inB vw 1 12 = false → BadN N "wide" H E) ∧
  (inB vw 1 12 = true → PV K H vn ∧ ∀ k : Nat, vw = .int k → (inB vn 0 (k - 1) = false → BadN N "spot" H E) ∧ (inB vn 0 (k - 1) = true → ∀ (p : Int) (s : Int), vp = .int p → vn = .int s → Gives C H p k [(letR k s, 1)] Q)))
abbrev NLE : List Str := ["prime", "wide", "spot", "place"]
theorem sc31 : FnScope NLE ["prime", "wide", "spot"] (defScope (top 31)) := ⟨rfl, rfl, rfl, by decide +kernel, rfl, by decide +kernel, by decide +kernel⟩
theorem ok_letter {f fP fW fI fN : Addr} {fd dP dW dI dN : FuncData} (F : Fun K "letter" "letter" (top 31) f fd) (T : Tx K mg bp) (Y : Py K mg C B M) (X : Nx K mg N) (Mk_ : Mk K C fI)
    (GP : FnOk P w K mg base (L2.CX P w) 3 fP dP ["prime"] (spCheckPrime K bp)) (kP : PySem.W.keepIn K (.ref fP) = true) (bP : Binds K dP ["prime"] []) (gP : mg "check_prime" = some (.ref fP))
    (GW : FnOk P w K mg base CX0 2 fW dW ["thing", "least", "most"] (spWithin K)) (kW : PySem.W.keepIn K (.ref fW) = true) (bW : Binds K dW ["thing", "least", "most"] []) (gW : mg "is_within" = some (.ref fW))
    (GI : FnOk P w K mg base (L2.CX P w) 6 fI dI ["self", "prime", "wide", "terms"] (spInit K bp C B M)) (bI : Binds K dI ["self", "prime", "wide", "terms"] [])
    (GN : FnOk P w K mg base CX0 1 fN dN ["self", "part"] (spErr "part" N)) (bN : Binds K dN ["self", "part"] []) (iN : PySem.W.findIn K (.ref N) "__init__" = some (some (.ref fN))) (tN : PySem.W.typeIn K (.ref fN) = some (.type "function")) :
    FnOk P w K mg base (L2.CX P w) 8 f fd ["prime", "wide", "spot"] (spLetter K bp C N) := by
  refine okX F sc31 (fun vs H Q E h => ?_) (fun cdv A outer s H vs Q E hr h => ?_)
  · obtain ⟨vp, vw, vn, rfl, _⟩ := h
    rfl
  · obtain ⟨vp, vw, vn, rfl, p1, k1, k2⟩ := h
    have r2 : Room 2 _ := hr.mono (by decide)
    have hu := hu_of hr
    obtain ⟨tu, hm⟩ := Y.mu
    refine ⟨_, pss_cons (ps_expr (pe_call (E := E) GP (hr.mono (by decide)) rfl gP kP bP .nil (passes_call (takes_of rfl rfl rfl rfl) fun _ _ _ _ h => h) (pa_cons (pv 0) pa_nil)))
      (pss_cons (ps_if (pt_not (pt_val (pe_call GW r2 rfl gW kW bW .nil pass0 (pa_cons (pv 1) (pa_cons pe_int (pa_cons (pe_glob (v := .int 12) rfl hm ⟨tu, rfl⟩) pa_nil))))))
        (pss_one (ps_raise rfl (takes_of rfl rfl rfl rfl) (pmk_oex (dvs := []) X.oN iN tN GN r2 bN .nil pass0 rfl X.gN (pa_cons pe_str pa_nil)))) pss_nil)
      (pss_cons (ps_if (pt_not (pt_val (pe_call GW r2 rfl gW kW bW .nil pass0 (pa_cons (pv 2) (pa_cons pe_int (pa_cons (pe_op op_sub (pv 1) pe_int) pa_nil))))))
        (pss_one (ps_raise rfl (takes_of rfl rfl rfl rfl) (pmk_oex (dvs := []) X.oN iN tN GN r2 bN .nil pass0 rfl X.gN (pa_cons pe_str pa_nil)))) pss_nil)
      (pss_one (ps_ret (pe_make (E := fun _ _ _ => False) Mk_ GI (hr.mono (by decide)) rfl Y.gC bI .nil passF (pa_cons (pv 0) (pa_cons (pv 1) (pa_cons
        (pe_dispT (Nat.lt_of_succ_lt hu) (pps_cons (pe_callTy call_tuple_of (by rfl) T.tuple (by decide +kernel) (pa_cons (pe_lc (own := [("place", 3)]) (g := gName 3) (tt := tYes) rfl sc31.nd (pi_range1 rfl T.range (pa_cons (pv 1) pa_nil)) (blkOk_by (own := [("place", 3)]) (N := NLE) (sc := defScope (top 31)) (by decide +kernel))
          (fun _ _ _ _ _ => pg_name (i := 3) sc31.nd rfl (Or.inl rfl)) (fun _ _ _ _ _ => pts_nil) (fun _ _ _ _ _ => pe_ifExp (pt_cmpR op_eq (pv 3) (pv 2) (nomark _)) pe_int pe_int)) pa_nil)) pe_int pps_nil) (by rfl) (by rfl) (fun z => by cases z) (by decide)) pa_nil)))))))), ?_⟩
    refine ⟨vp, rfl, vp, rfl, p1, fun hp => ?_, k1⟩
    obtain ⟨p2, k3, k4⟩ := k2 hp
    refine ⟨vw, rfl, vw, 1, 12, rfl, p2, _, rfl, ?_⟩
    cases hb : inB vw 1 12 with
    | false => exact iteT ⟨by decide, fun y hn => err_left hn fun d3 H3 S3 nd hd => k3 hb d3 H3 S3 nd hd⟩
    | true =>
      refine iteF ?_
      obtain ⟨p3, k5⟩ := k4 hb
      obtain ⟨wi, rfl, w1, w2⟩ := inB_int hb
      obtain ⟨k, rfl⟩ : ∃ k : Nat, wi = k := ⟨wi.toNat, by omega⟩
      obtain ⟨k5, k6⟩ := k5 k rfl
      refine ⟨vn, rfl, _, rfl, _, _, rfl, rfl, vn, 0, _, rfl, p3, _, rfl, ?_⟩
      cases hc : inB vn 0 ((k : Int) - 1) with
      | false => exact iteT ⟨by decide, fun y hn => err_left hn fun d3 H3 S3 nd hd => k5 hc d3 H3 S3 nd hd⟩
      | true =>
        refine iteF ?_
        obtain ⟨p, rfl, pp⟩ := isP_int hp
        obtain ⟨sp, rfl, s1, s2⟩ := inB_int hc
        have g := k6 hc p sp rfl rfl
        refine ⟨_, rfl, _, rfl, fun D hD => ?_⟩
        have S1 : Same H (upd H D (.dT [])) := (Same.refl _).put hD
        have hDD : upd H D (.dT []) D = some (.dT []) := upd_same
        generalize upd H D (.dT []) = H1 at S1 hDD
        refine ⟨_, rfl, k, rfl, by omega, by omega, fun L hL0 => lc_it (walk_range (lo := 0) (n := k)) (fun i H' => Same H1 H' ∧ H' L = some (.lst ((letR i sp).map V.int))) ⟨(Same.refl _).put hL0, upd_same⟩ (fun _ _ _ _ => trivial) ?_ ?_⟩
        · rintro i y H2 H3 hi ⟨S2, hL⟩ ⟨rfl, rfl⟩
          have fin : ∀ x : Int, x = (if (i : Int) = sp then 1 else 0) → Same H1 (upd H3 L (.lst ((letR i sp).map V.int ++ [V.int x]))) ∧ upd H3 L (.lst ((letR i sp).map V.int ++ [V.int x])) L = some (.lst ((letR (i + 1) sp).map V.int)) := by
            rintro x rfl
            refine ⟨S2.put hL0, ?_⟩
            rw [upd_same]
            unfold letR
            rw [List.range_succ, List.map_append, List.map_append]
            rfl
          have sz : ((letR i sp).map V.int).length < sizeLine := by
            unfold letR
            rw [List.length_map, List.length_map, List.length_range]
            exact small1000 (by omega)
          refine ⟨rfl, _, rfl, _, rfl, rfl, _, rfl, ite2 (fun h1 => ?_) fun h1 => ?_⟩
          · have e := V.int.inj (of_decide_eq_true h1)
            exact ⟨_, hL, sz, fin 1 (by rw [if_pos (by omega)])⟩
          · have e : ¬ (i : Int) = sp := fun z => h1 (decide_eq_true (by show V.int (0 + (i : Int)) = V.int sp; rw [Int.zero_add, z]))
            exact ⟨_, hL, sz, fin 0 (by rw [if_neg e])⟩
        · intro H2 ⟨S2, hL⟩
          refine ⟨L, _, rfl, .inl ⟨SqL.of hL, fun b hb => ?_⟩⟩
          have S3 := S2.new (o := .tup ((letR k sp).map V.int)) hb
          have hb3 : upd H2 b (.tup ((letR k sp).map V.int)) b = some (.tup ((letR k sp).map V.int)) := upd_same
          generalize upd H2 b (.tup ((letR k sp).map V.int)) = H3 at S3 hb3
          refine puts_one (H2 := H) (S3 _ _ hDD) hb3 fun x dx nx ndx ne => ?_
          have S4 : Same H (upd H3 D (.dT (rK [(letR k sp, 1)]))) := fun z o e => by
            rw [upd_ne (ne_of_none e hD)]
            exact S3 _ _ (S1 _ _ e)
          refine make_good pp (by omega) (by omega) upd_same (one_rows ?_ letR_nn ?_) (by simp) (show (1 : Nat) ≤ 1000000 by decide) nx ndx ne (g.same S4)
          · unfold letR
            rw [List.length_map, List.length_range]
          · rw [letR_sum]
            split <;> decide
end
end P2
end

section
set_option maxRecDepth 100000
set_option maxHeartbeats 4000000
/-! == and != by a class's own __eq__. -/
namespace ClX
open PySem PySem.Spec PyProof.Rows L2
section
variable {prog : Program} {w : World} {A : Around} {E : Value → Shared → Prop} {s : Shared} {K : PySem.W.Frag} {x C L f : Addr} {h₀ : Heap} {m : Str → Option Value} {ox : Obj} {od : Option Obj} {name : Str} {b tb : Value}
theorem ifBound_B {M : Model} {args : List Value} {id : String} {Q : Option Value → Shared → Prop} (X : K.In s.heap) (I : PySem.W.InstAt s.heap x ox C od) (hs : PySem.W.findIn K (.ref C) name = some (some (.builtin id)))
    (hb : ∀ self, bindSpecial (.builtin id) self = pure (.builtin id, [self])) (h : wpAny M A (call (.builtin id) (.ref x :: args)) (fun v => Q (some v)) E s) : wpAny M A (callSpecialIfBound? (.ref x) name args) Q E s := by
  simp only [callSpecialIfBound?, bindSpecialIfBound?]
  refine wpAny_holding (wpAny_bind (wpAny_bind (wpAny_bind (I.type.here ((PySem.W.looks_findIn X hs).here ?_)))))
  refine wpAny_bind (wpAny_askSetting (wpAny_ite ?_))
  have fin : wpAny M A (call (.builtin id) ([.ref x] ++ args) >>= fun v => pure (some v)) Q E s := wpAny_bind (wpAny_mono h (fun v s' h' => wpAny_pure h') fun _ _ h' => h')
  have bd : PySem.W.Looks M s.heap (bindSpecial (.builtin id) (.ref x)) (.builtin id, [.ref x]) := PySem.W.Looks.of_pure (hb _)
  split
  · exact wpAny_bind (bd.here (wpAny_pure (by exact fin)))
  · exact wpAny_tryCatch (wpAny_bind (bd.here (wpAny_pure (by exact fin))))
theorem one_bind (self : Value) : bindSpecial (.builtin "object.__ne__") self = pure (.builtin "object.__ne__", [self]) := F.cmp_object.ne.bind self
/-- the body of object's own !=: the == of the class, turned -/
theorem objNe_K {Q : Fin → Shared → Prop} (hu : A.units < cLine) (X : K.In s.heap) (I : PySem.W.InstAt s.heap x ox C od) (hs : PySem.W.findIn K (.ref C) "__eq__" = some (some (.ref f))) (hf : PySem.W.isFn K (.ref f) = true)
    (hcall : wpAny (model prog w) A (call (.ref f) [.ref x, b]) (fun v s' => ∃ c, v = .bool c ∧ Q (.done (.ret (.bool (!c)))) s') E s) : wpAny (model prog w) A (Builtin.«object.__ne__» ⟨[.ref x, b], []⟩) Q E s := by
  obtain ⟨hh, g, d, t, os⟩ := s
  unfold Builtin.«object.__ne__»
  repeat (first
    | with_reducible refine wpAny_cRoomFor hu ?_
    | (refine wpAny_bind (m := callSpecialIfBound? (.ref x) (Str.ofString "__eq__") [b])
        (PySem.W.ifBound_K X I hs hf (wpAny_mono hcall (fun r s' hr => by
          obtain ⟨b, rfl, hq⟩ := hr
          repeat (first | exact hq | exact wpAny_pure hq | exact wpAny_truthy_bool hq | (refine wpAny_bind (m := truthy (.bool _)) (wpAny_truthy_bool ?_)) | wp_step)) fun _ _ e => e)))
    | wp_step)
theorem ne_K {Q : Value → Shared → Prop} (hu : A.units + 1 < cLine) (F' : Fr h₀ L s.heap m) (X₀ : K.In h₀) (I : PySem.W.InstAt s.heap x ox C od) (hb : PySem.W.Looks (model prog w) s.heap (typeOf b) tb) (hn : PySem.W.notFirst K C tb = true)
    (hne : PySem.W.findIn K (.ref C) "__ne__" = some (some (.builtin "object.__ne__"))) (hm : PySem.W.mroIn K C (.type "object") = some true)
    (hs : PySem.W.findIn K (.ref C) "__eq__" = some (some (.ref f))) (hf : PySem.W.isFn K (.ref f) = true)
    (h : wpAny (model prog w) A.in1 (call (.ref f) [.ref x, b]) (fun v s' => ∃ c, v = .bool c ∧ Q (.bool (!c)) s') E s) : wpAny (model prog w) A (richCompare .NotEq (.ref x) b) Q E s := by
  have X := X₀.keeps F'.keep
  have ii : PySem.W.Looks (model prog w) s.heap (isInstance (.ref x) (.type "object")) true := I.type.andThen (PySem.W.looks_mroIn X hm)
  have one : wpAny (model prog w) A (tryCompare (.ref x) (cmpInfo .NotEq).2.1 b) (fun r s' => ∃ v, r = some v ∧ Q v s') E s := by
    unfold tryCompare
    refine wpAny_bind (ifBound_B X I hne one_bind (wpAny_call (codeAny_call_builtin F.cmp_object.ne.plain F.cmpEntry_ne
      (@PySem.W.check_slot (model prog w) _ _ s "object.__ne__" "object" "__ne__" (.ref x) [b] [] _ F.cmpKind_ne F.cmpSplit_ne ii (F.cmpArgs_ne _ _)
        (objNe_K (A := A.in1) (by exact Nat.lt_of_le_of_lt (Nat.le_refl _) hu) X I hs hf (wpAny_mono h (fun v s' hv => ?_) fun _ _ e => e))))))
    obtain ⟨c, rfl, hq⟩ := hv
    first | exact ⟨c, rfl, wpAny_pure ⟨_, rfl, hq⟩⟩ | exact ⟨c, rfl, _, rfl, wpAny_pure ⟨_, rfl, hq⟩⟩
  unfold richCompare
  simp only [oneThing_ref]
  refine wpAny_holding (wpAny_bind (wpAny_cRoomFor (Nat.lt_of_succ_lt hu) ?_))
  refine wpAny_bind (I.type.here (wpAny_bind (hb.here ?_)))
  split
  · rename_i q
    have e : PySem.W.subIn K tb (.ref C) = some false := by
      rcases Bool.or_eq_true_iff.mp hn with e | e
      · rw [beq_iff_eq.mp e] at q; simp at q
      · exact beq_iff_eq.mp e
    refine wpAny_bind ((PySem.W.looks_subIn X e).here ?_)
    simp only [Bool.false_eq_true, if_false]
    refine wpAny_bind (wpAny_mono one (fun r s' z => ?_) fun _ _ e => e)
    obtain ⟨v, rfl, hq⟩ := z
    exact wpAny_pure hq
  · refine wpAny_bind (wpAny_pure ?_)
    simp only [Bool.false_eq_true, if_false]
    refine wpAny_bind (wpAny_mono one (fun r s' z => ?_) fun _ _ e => e)
    obtain ⟨v, rfl, hq⟩ := z
    exact wpAny_pure hq
end
/-- what may stand at the right -/
inductive RhsT (H : Hp) : V → Value → Prop
  | ins {b C' dy : Addr} {gs : List (Str × V)} (h : H b = some (.ins C' dy gs)) : RhsT H (.ref b) (.ref C')
  | dT {b : Addr} {kvs : List (List Key × V)} (h : Rd H b (.dT kvs)) : RhsT H (.ref b) (.type "dict")
  | dK {b : Addr} {kvs : List (Key × V)} (h : Rd H b (.dK kvs)) : RhsT H (.ref b) (.type "dict")
section
variable {X : Cx} {CX : CXT} {pins : List (Addr × Obj)} {σ : L2.St} {H : Hp} {s : Shared} {C f : Addr} {fd : FuncData} {ps : List Str} {n : Nat} {sp : Sp} {E : XK}
theorem rhs_looks {y : V} {t u : Value} (I : Inv X pins σ H s) (r : RhsT H y t) (ry : RelV y u) : PySem.W.Looks (model X.prog X.w) s.heap (typeOf u) t := by
  have tp : ∀ {b : Addr}, s.TypeIs (.ref b) "dict" → PySem.W.Looks (model X.prog X.w) s.heap (typeOf (.ref b)) (.type "dict") := fun h => by
    obtain ⟨o, e, c⟩ := h
    exact c ▸ (PySem.W.Looks.ld e).andThen .now
  cases r with
  | @ins b C' dy gs h =>
    cases (show u = Value.ref b from ry)
    obtain ⟨mB, J', _⟩ := ins_get I.hok h
    obtain ⟨od', J', _⟩ := J'.look
    exact J'.type
  | @dT b kvs h =>
    cases (show u = Value.ref b from ry)
    obtain ⟨_, _, xs, _, dd⟩ := dt_rd I.hok h
    exact tp dd.typeIs
  | @dK b kvs h =>
    cases (show u = Value.ref b from ry)
    obtain ⟨_, _, vs, _, dd⟩ := dk_rd I.hok h
    exact tp dd.typeIs
/-- x == y and x != y by x's own == -/
def rEqI (K : PySem.W.Frag) (C : Addr) (sp : Sp) (E : XK) : R2 := fun x y H Q => ∃ a dx fs t, x = .ref a ∧ H a = some (.ins C dx fs) ∧ RhsT H y t ∧ PySem.W.notFirst K C t = true ∧ sp [x, y] H (fun v H' => ∃ c, v = .bl c ∧ Q (.bl c) H') E
def rNeI (K : PySem.W.Frag) (C : Addr) (sp : Sp) (E : XK) : R2 := fun x y H Q => ∃ a dx fs t, x = .ref a ∧ H a = some (.ins C dx fs) ∧ RhsT H y t ∧ PySem.W.notFirst K C t = true ∧ sp [x, y] H (fun v H' => ∃ c, v = .bl c ∧ Q (.bl (!c)) H') E
theorem run_own {A : Around} {u1 u2 : Value} {v1 v2 : V} {Q : VK} (F : FnOk X.prog X.w X.K X.mg X.base CX n f fd ps sp) (hb : Binds X.K fd ps []) (hx : Passes CX X E) (hr : Room n A) (e0 : Env0 X.prog X.w X.K X.mg X.base A X.stack s H) (I : Inv X pins σ H s) (r1 : RelV v1 u1) (r2 : RelV v2 u2) (h : sp [v1, v2] H Q E) :
    wpAny (model X.prog X.w) A (call (.ref f) [u1, u2]) (EP X pins σ Q) X.xe s := by
  have hl := F.len _ _ _ _ h
  have rs : Vals [v1, v2] [u1, u2] := .cons r1 (.cons r2 .nil)
  refine wpAny_call (codeAny_mono (F.run A X.stack s H ⟨[u1, u2], []⟩ [u1, u2] [v1, v2] Q E hr e0 (by
    have := hb s [u1, u2] I.kIn (by simpa using hl)
    simpa using this) rs h) fun r s' hq => ?_)
  cases r with
  | error e => exact hx pins σ H s e s' I hq
  | ok fl =>
    cases fl with
    | ret w => exact I.after hq
    | next => exact False.elim hq
    | brk => exact False.elim hq
    | cont => exact False.elim hq
theorem op_eqI (F : FnOk X.prog X.w X.K X.mg X.base CX n f fd ps sp) (hb : Binds X.K fd ps []) (hx : Passes CX X E) (hs : PySem.W.findIn X.K (.ref C) "__eq__" = some (some (.ref f))) (hf : PySem.W.isFn X.K (.ref f) = true) (hr : Room n X.A) : OpR X (compareOp .Eq) (rEqI X.K C sp E) := by
  intro pins s σ H x y v u Q I rx ry h
  obtain ⟨a, dx, fs, t, rfl, ha, rt, hn, q⟩ := h
  cases (show v = Value.ref a from rx)
  obtain ⟨mA, J, _⟩ := ins_get I.hok ha
  obtain ⟨od, J, _⟩ := J.look
  obtain ⟨m, hF⟩ := I.fr
  show wpAny _ _ (richCompare .Eq (.ref a) u) _ _ s
  refine PySem.W.cmp_K (op := .Eq) hr.units0 hF I.ok.mod.kin J (rhs_looks I rt ry) hn hs hf ?_
  refine wpAny_mono (run_own (v1 := .ref a) F hb hx hr I.env0 I rfl ry q) (fun w s' z => ?_) fun _ _ x => x
  obtain ⟨z', H', I', rz, c, ec, qz⟩ := z
  subst ec
  cases (show w = Value.bool c from rz)
  exact ⟨.bl c, H', I', rfl, qz⟩
theorem op_neI (F : FnOk X.prog X.w X.K X.mg X.base CX n f fd ps sp) (hb : Binds X.K fd ps []) (hx : Passes CX X E) (hs : PySem.W.findIn X.K (.ref C) "__eq__" = some (some (.ref f))) (hf : PySem.W.isFn X.K (.ref f) = true)
    (hne : PySem.W.findIn X.K (.ref C) "__ne__" = some (some (.builtin "object.__ne__"))) (hm : PySem.W.mroIn X.K C (.type "object") = some true) (hr : Room (n + 1) X.A) : OpR X (compareOp .NotEq) (rNeI X.K C sp E) := by
  intro pins s σ H x y v u Q I rx ry h
  obtain ⟨a, dx, fs, t, rfl, ha, rt, hn, q⟩ := h
  cases (show v = Value.ref a from rx)
  obtain ⟨mA, J, _⟩ := ins_get I.hok ha
  obtain ⟨od, J, _⟩ := J.look
  obtain ⟨m, hF⟩ := I.fr
  show wpAny _ _ (richCompare .NotEq (.ref a) u) _ _ s
  refine ne_K hr.in1.units0 hF I.ok.mod.kin J (rhs_looks I rt ry) hn hne hm hs hf ?_
  refine wpAny_mono (run_own (v1 := .ref a) F hb hx hr.in1 I.env0.in1 I rfl ry q) (fun w s' z => ?_) fun _ _ x => x
  obtain ⟨z', H', I', rz, c, ec, qz⟩ := z
  subst ec
  cases (show w = Value.bool c from rz)
  exact ⟨c, rfl, .bl (!c), H', I', rfl, qz⟩
end
end ClX
end

section
set_option maxRecDepth 100000
set_option maxHeartbeats 2000000
namespace P2
open PySem L2 ClX
section
variable {P : Program} {w : World} {K : PySem.W.Frag} {mg : Str → Option Value} {base : Heap} {bp C B M N : Addr}
/-- whether two polynomials are equal, as their == tells -/
def sameP (p n : Int) (ts : List (List Int × Int)) (p2 n2 : Int) (ts2 : List (List Int × Int)) : Bool := if p = p2 ∧ n = n2 then sameT (rK ts) (rK ts2) else false
def spPolyEq (C : Addr) : Sp := fun vs H Q _ => ∃ a y p n ts, vs = [.ref a, y] ∧ PolyAt H C a p n ts ∧ ((∃ b kvs, y = .ref b ∧ H b = some (.dT kvs) ∧ Q (.bl false) H) ∨ ∃ b p2 n2 ts2, y = .ref b ∧ PolyAt H C b p2 n2 ts2 ∧ Q (.bl (sameP p n ts p2 n2 ts2)) H)
theorem scEq : FnScope ["self", "other"] ["self", "other"] (defScope sEq) := ⟨rfl, rfl, rfl, by decide +kernel, rfl, by decide +kernel, by decide +kernel⟩
theorem rK_int (ts : List (List Int × Int)) : ∀ q ∈ rK ts, intV q.2 = true := fun q hq => by
  obtain ⟨r, _, rfl⟩ := List.mem_map.mp hq
  rfl
theorem ok_polyeq {f : Addr} {fd : FuncData} (F : Fun K "__eq__" "Poly.__eq__" sEq f fd) (T : Tx K mg bp) (Y : Py K mg C B M) : FnOk P w K mg base CX0 1 f fd ["self", "other"] (spPolyEq C) := by
  refine F.ok scEq (fun vs H Q E h => ?_) (fun cdv A outer s H vs Q E hr h => ?_)
  · obtain ⟨a, y, p, n, ts, rfl, _⟩ := h
    rfl
  · obtain ⟨a, y, p, n, ts, rfl, hp, h⟩ := h
    have hu := hu_of hr
    refine ⟨_, pss_one (ps_ret (pe_and (pe_callB (r := rIsi K) call_isi (by rfl) T.isi (by decide +kernel) (pa_cons (pv 1) (pa_cons (pe_glob (v := .ref C) (by rfl) Y.gC rfl) pa_nil)))
      (pe_and (pe_cmpR op_eq (pe_fld (pv 0) rfl) (pe_fld (pv 1) rfl) (nomark _)) (pe_and (pe_cmpR op_eq (pe_fld (pv 0) rfl) (pe_fld (pv 1) rfl) (nomark _)) (pe_one (pe_cmpR (op_eq_T hu) (pe_fld (pv 0) rfl) (pe_fld (pv 1) rfl) (nomark _))))))), ?_⟩
    obtain ⟨dx, d, ha, hd⟩ := id hp
    rcases h with ⟨b, kvs, rfl, hb, q⟩ | ⟨b, p2, n2, ts2, rfl, hp2, q⟩
    · exact ⟨_, rfl, _, .ref C, .type "dict", .ref C, false, rfl, .own _, .base (.dT hb), Y.kN _ (by decide), _, rfl, iteF q⟩
    · obtain ⟨dx2, d2, hb, hd2⟩ := id hp2
      refine ⟨_, rfl, _, .ref C, .ref C, .ref C, true, rfl, .own _, ty_poly Y hp2, Y.kC, _, rfl, iteT ⟨_, rfl, a, C, dx, _, _, rfl, ha, Y.cl, Y.n1, fs_prime _ _ _ _, _, rfl, b, C, dx2, _, _, rfl, hb, Y.cl, Y.n1, fs_prime _ _ _ _, rfl, _, rfl, ?_⟩⟩
      unfold sameP at q
      have e1 : decide (V.int p = V.int p2) = decide (p = p2) := decide_eq_decide.mpr ⟨fun z => V.int.inj z, fun z => by rw [z]⟩
      have e2 : decide (V.int n = V.int n2) = decide (n = n2) := decide_eq_decide.mpr ⟨fun z => V.int.inj z, fun z => by rw [z]⟩
      rw [e1]
      by_cases hpp : p = p2
      · rw [decide_eq_true hpp]
        refine iteT ⟨_, rfl, a, C, dx, _, _, rfl, ha, Y.cl, Y.n2, fs_wide _ _ _ _, _, rfl, b, C, dx2, _, _, rfl, hb, Y.cl, Y.n2, fs_wide _ _ _ _, rfl, _, rfl, ?_⟩
        rw [e2]
        by_cases hnn : n = n2
        · rw [decide_eq_true hnn]
          rw [if_pos ⟨hpp, hnn⟩] at q
          exact iteT ⟨_, rfl, a, C, dx, _, _, rfl, ha, Y.cl, Y.n3, fs_terms _ _ _ _, _, rfl, b, C, dx2, _, _, rfl, hb, Y.cl, Y.n3, fs_terms _ _ _ _, d, d2, _, _, rfl, rfl, .inl hd, .inl hd2, rK_int ts, rK_int ts2, q⟩
        · rw [decide_eq_false hnn]
          rw [if_neg fun z => hnn z.2] at q
          exact iteF q
      · rw [decide_eq_false hpp]
        rw [if_neg fun z => hpp z.1] at q
        exact iteF q
end
end P2
end

section
set_option maxRecDepth 100000
set_option maxHeartbeats 1000000
namespace P2
open PySem L2 ClX
abbrev sBegun : Stmt := top 38
abbrev sMixed : Stmt := top 39
abbrev sTake : Stmt := top 40
abbrev sPick : Stmt := top 41
/-- the built-in names that the draws use -/
structure TxB (mg : Str → Option Value) : Prop where
  abs : mg "abs" = none
  int : mg "int" = none
  len : mg "len" = none
section
variable {P : Program} {w : World} {K : PySem.W.Frag} {mg : Str → Option Value} {base : Heap}
/-- the state of the draws -/
def dKvs (l c : Addr) (r t : Int) : List (Key × V) := [(Sum.inr "large", .ref l), (Sum.inr "rest", .int r), (Sum.inr "cells", .ref c), (Sum.inr "turn", .int t)]
structure DrawAt (H : Hp) (d l c : Addr) : Prop where
  hd : ∃ r t, H d = some (.dK (dKvs l c r t))
  hl : ∃ ls : List Int, H l = some (.lst (ls.map V.int)) ∧ ls.length ≤ 63
  hc : ∃ cs : List Int, H c = some (.lst (cs.map V.int)) ∧ cs.length ≤ 63
  ne : l ≠ c
def spBegun (K : PySem.W.Frag) : Sp := fun vs H Q _ => ∃ (a : Addr) (ns : List Int), vs = [.ref a] ∧ SqL K H a (ns.map V.int) ∧ ns.length ≤ 63 ∧
  ∀ (d l c : Addr) H', H d = none → H l = none → H c = none → DrawAt H' d l c → Same H H' → Q (.ref d) H'
theorem dk_merge (l c : Addr) (r t : Int) : mergeK [] (dKvs l c r t) = dKvs l c r t := by
  have h1 : ¬ ("large" : Str) = "rest" := by decide +kernel
  have h2 : ¬ ("large" : Str) = "cells" := by decide +kernel
  have h3 : ¬ ("large" : Str) = "turn" := by decide +kernel
  have h4 : ¬ ("rest" : Str) = "cells" := by decide +kernel
  have h5 : ¬ ("rest" : Str) = "turn" := by decide +kernel
  have h6 : ¬ ("cells" : Str) = "turn" := by decide +kernel
  simp [mergeK, putK, dKvs, h1, h2, h3, h4, h5, h6]
theorem dk_rest (l c : Addr) (r t x : Int) : putK (dKvs l c r t) (Sum.inr "rest" : Key) (V.int x) = dKvs l c x t := by
  have h1 : ¬ ("large" : Str) = "rest" := by decide +kernel
  have h4 : ¬ ("cells" : Str) = "rest" := by decide +kernel
  have h5 : ¬ ("turn" : Str) = "rest" := by decide +kernel
  simp [putK, dKvs, h1, h4, h5]
theorem dk_turn (l c : Addr) (r t x : Int) : putK (dKvs l c r t) (Sum.inr "turn" : Key) (V.int x) = dKvs l c r x := by
  have h1 : ¬ ("large" : Str) = "turn" := by decide +kernel
  have h4 : ¬ ("cells" : Str) = "turn" := by decide +kernel
  have h5 : ¬ ("rest" : Str) = "turn" := by decide +kernel
  simp [putK, dKvs, h1, h4, h5]
theorem dv_large (l c : Addr) (r t : Int) : valV (dKvs l c r t) (Sum.inr "large" : Key) = some (.ref l) := by
  simp [valV, dKvs]
theorem dv_rest (l c : Addr) (r t : Int) : valV (dKvs l c r t) (Sum.inr "rest" : Key) = some (.int r) := by
  have h1 : ¬ ("large" : Str) = "rest" := by decide +kernel
  simp [valV, dKvs, h1]
theorem dv_cells (l c : Addr) (r t : Int) : valV (dKvs l c r t) (Sum.inr "cells" : Key) = some (.ref c) := by
  have h1 : ¬ ("large" : Str) = "cells" := by decide +kernel
  have h4 : ¬ ("rest" : Str) = "cells" := by decide +kernel
  simp [valV, dKvs, h1, h4]
theorem dv_turn (l c : Addr) (r t : Int) : valV (dKvs l c r t) (Sum.inr "turn" : Key) = some (.int t) := by
  have h1 : ¬ ("large" : Str) = "turn" := by decide +kernel
  have h4 : ¬ ("cells" : Str) = "turn" := by decide +kernel
  have h5 : ¬ ("rest" : Str) = "turn" := by decide +kernel
  simp [valV, dKvs, h1, h4, h5]
theorem dg_large {H : Hp} {d l c : Addr} {r t : Int} (e : H d = some (.dK (dKvs l c r t))) : DGet H d (.str "large") (some (.ref l)) := by
  rw [← dv_large l c r t]; exact DGet.k (k := Sum.inr "large") e
theorem dg_rest {H : Hp} {d l c : Addr} {r t : Int} (e : H d = some (.dK (dKvs l c r t))) : DGet H d (.str "rest") (some (.int r)) := by
  rw [← dv_rest l c r t]; exact DGet.k (k := Sum.inr "rest") e
theorem dg_cells {H : Hp} {d l c : Addr} {r t : Int} (e : H d = some (.dK (dKvs l c r t))) : DGet H d (.str "cells") (some (.ref c)) := by
  rw [← dv_cells l c r t]; exact DGet.k (k := Sum.inr "cells") e
theorem dg_turn {H : Hp} {d l c : Addr} {r t : Int} (e : H d = some (.dK (dKvs l c r t))) : DGet H d (.str "turn") (some (.int t)) := by
  rw [← dv_turn l c r t]; exact DGet.k (k := Sum.inr "turn") e
theorem dp_turn {H : Hp} {d l c : Addr} {r t x : Int} (e : H d = some (.dK (dKvs l c r t))) : DPut H d (.str "turn") (.int x) (upd H d (.dK (dKvs l c r x))) := by
  rw [← dk_turn l c r t x]; exact DPut.k (k := Sum.inr "turn") e (by show 4 < sizeLine; decide)
theorem dp_rest {H : Hp} {d l c : Addr} {r t x : Int} (e : H d = some (.dK (dKvs l c r t))) : DPut H d (.str "rest") (.int x) (upd H d (.dK (dKvs l c x t))) := by
  rw [← dk_rest l c r t x]; exact DPut.k (k := Sum.inr "rest") e (by show 4 < sizeLine; decide)
theorem dp_ints {K : PySem.W.Frag} {H : Hp} : ∀ ns : List Int, DpAll K H (ns.map V.int) (ns.map PyData.int)
  | [] => .nil
  | n :: ns => .cons (.int n) (dp_ints ns)
theorem canLay_ints : ∀ ns : List Int, PyData.canLayAll0 (ns.map PyData.int) = true
  | [] => by simp [PyData.canLayAll0]
  | n :: ns => by simp [PyData.canLayAll0, PyData.canLay0, canLay_ints ns]
theorem depth_ints : ∀ ns : List Int, PyData.depthAll (ns.map PyData.int) = 0
  | [] => by simp [PyData.depthAll]
  | n :: ns => by simp [PyData.depthAll, PyData.depth, depth_ints ns]
theorem shaped_ints (ns : List Int) : SeqAt.shaped (.list (ns.map PyData.int)) = true := by
  simp [SeqAt.shaped, PyData.canLay0, PyData.depth, canLay_ints, depth_ints]
theorem seq0 {n : Nat} (h : 0 < n) : seqIndex? 0 n = some 0 := by
  have h' : (0 : Int) < n := by omega
  simp [seqIndex?, h']
  omega
/-- all but what stands at d is as it was -/
theorem int_at {ns : List Int} {i : Nat} {x : V} (hi : (ns.map V.int)[i]? = some x) : ∃ z, x = V.int z ∧ i < ns.length := by
  rw [List.getElem?_map] at hi
  cases e : ns[i]? with
  | none => rw [e] at hi; cases hi
  | some z => rw [e] at hi; exact ⟨z, (Option.some.inj hi).symm, (List.getElem?_eq_some_iff.mp e).1⟩
theorem scB : FnScope ["script", "large", "grain"] ["script"] (defScope sBegun) := ⟨rfl, rfl, rfl, by decide +kernel, rfl, by decide +kernel, by decide +kernel⟩
theorem ok_begun {f : Addr} {fd : FuncData} (F : Fun K "_law_begun" "_law_begun" sBegun f fd) (T : TxB mg) : FnOk P w K mg base CX0 1 f fd ["script"] (spBegun K) := by
  refine F.ok scB (fun vs H Q E h => ?_) (fun cdv A outer s H vs Q E hr h => ?_)
  · obtain ⟨a, ns, rfl, _⟩ := h
    rfl
  · obtain ⟨a, ns, rfl, hS, hn, k⟩ := h
    refine ⟨_, pss_cons (ps_setLc (i := 1) (own := [("grain", 2)]) (g := gName 2) rfl scB.nd rfl rfl (sw_true rfl rfl rfl (by decide +kernel)) (pi_list (pv 0)) (blkOk_by (own := [("grain", 2)]) (N := ["script", "large", "grain"]) (sc := defScope sBegun) (by decide +kernel))
        (fun _ _ _ _ _ => pg_name (i := 2) scB.nd rfl (Or.inl rfl))
        (fun _ _ _ _ _ => pts_one (pt_cmpR op_ge (pe_callB call_abs (by rfl) T.abs (by decide +kernel) (pa_cons (pv 2) pa_nil)) (pe_op op_pow pe_int pe_int) (nomark _)))
        (fun _ _ _ _ _ => pe_op op_sub (pe_callB call_abs (by rfl) T.abs (by decide +kernel) (pa_cons (pv 2) pa_nil)) (pe_op op_pow pe_int pe_int)))
      (pss_one (ps_ret (pe_disp (pps_cons pe_str (pv 1) (pps_cons pe_str pe_int (pps_cons pe_str (pe_lc (own := [("grain", 2)]) (g := gName 2) (tt := tYes) rfl scB.nd (pi_list (pv 0)) (blkOk_by (own := [("grain", 2)]) (N := ["script", "large", "grain"]) (sc := defScope sBegun) (by decide +kernel))
          (fun _ _ _ _ _ => pg_name (i := 2) scB.nd rfl (Or.inl rfl)) (fun _ _ _ _ _ => pts_nil) (fun _ _ _ _ _ => pe_callB call_abs (by rfl) T.abs (by decide +kernel) (pa_cons (pv 2) pa_nil)))
          (pps_cons pe_str pe_int pps_nil)))) (by rfl) (by rfl) (fun z => by cases z) (by decide)))), ?_⟩
    refine ⟨_, rfl, a, rfl, ⟨_, hS⟩, fun D hD => lc_list (K := K) (a := a) (xs := ns.map V.int) (fun i H' => Same H H' ∧ ∃ ls : List Int, H' D = some (.lst (ls.map V.int)) ∧ ls.length ≤ i) ?_ ?_ ?_ ?_⟩
    · exact ⟨fun b o e => by rw [upd_ne (ne_of_none e hD)]; exact e, [], upd_same, Nat.zero_le _⟩
    · exact fun i H' _ h => h.1.seq hS
    · rintro i x H' hi ⟨S, ls, hL, hle⟩
      obtain ⟨z, rfl, hlt⟩ := int_at hi
      refine ⟨rfl, _, rfl, _, rfl, _, _, rfl, rfl, ⟨by decide, by decide, by decide⟩, _, _, rfl, rfl, _, rfl, ?_⟩
      refine ite2 (fun _ => ?_) (fun _ => ?_)
      · refine ⟨_, rfl, _, rfl, _, _, rfl, rfl, ⟨by decide, by decide, by decide⟩, _, _, rfl, rfl, ?_⟩
        refine ⟨_, hL, ?_, S.put hD, ls ++ [_], by rw [upd_same, List.map_append]; rfl, ?_⟩
        · rw [List.length_map]; exact small1000 (by omega)
        · rw [List.length_append]; simp; omega
      · exact ⟨S, ls, hL, Nat.le_succ_of_le hle⟩
    · rintro H1 ⟨S, ls, hL, hle⟩
      intro d hd
      refine ⟨_, rfl, ?_⟩
      have hDd : D ≠ d := ne_of_none hL hd
      refine ⟨_, rfl, a, rfl, ⟨_, (S.new hd).seq hS⟩, fun c hc => lc_list (K := K) (a := a) (xs := ns.map V.int) (fun i H' => Same (upd H1 d (.dK [])) H' ∧ ∃ cs : List Int, H' c = some (.lst (cs.map V.int)) ∧ cs.length ≤ i) ?_ ?_ ?_ ?_⟩
      · exact ⟨(Same.refl _).put hc, [], upd_same, Nat.zero_le _⟩
      · exact fun i H' _ h => h.1.seq ((S.new hd).seq hS)
      · rintro i x H' hi ⟨S2, cs, hC, hle2⟩
        obtain ⟨z, rfl, hlt⟩ := int_at hi
        refine ⟨rfl, _, rfl, _, rfl, _, hC, ?_, S2.put hc, cs ++ [_], by rw [upd_same, List.map_append]; rfl, ?_⟩
        · rw [List.length_map]; exact small1000 (by omega)
        · rw [List.length_append]; simp; omega
      · rintro H2 ⟨S2, cs, hC, hle2⟩
        rw [List.length_map] at hle hle2
        have hcd : c ≠ d := fun e => by rw [e, upd_same] at hc; cases hc
        have hcD : D ≠ c := fun e => by rw [← e, upd_ne hDd, hL] at hc; cases hc
        refine ⟨S2 _ _ upd_same, dKvs D c 0 0, rfl, (by show 4 ≤ 15; decide), ?_⟩
        refine k d D c _ (S.free hd) hD ?_ ⟨⟨0, 0, by rw [upd_same, dk_merge]⟩, ⟨ls, by rw [upd_ne hDd]; exact S2 _ _ (by rw [upd_ne hDd]; exact hL), by omega⟩, ⟨cs, by rw [upd_ne hcd]; exact hC, by omega⟩, hcD⟩ fun b o e => ?_
        · refine S.free ?_
          rw [upd_ne hcd] at hc
          exact hc
        · have := S _ _ e
          have nd : b ≠ d := ne_of_none this hd
          rw [upd_ne nd]
          exact S2 _ _ (by rw [upd_ne nd]; exact this)
/-- another draw: any number -/
def spMixed : Sp := fun vs H Q _ => ∃ (d l c : Addr), vs = [.ref d] ∧ DrawAt H d l c ∧ ∀ (v : Int) H', DrawAt H' d l c → (∀ b o, H b = some o → b ≠ d → H' b = some o) → Q (.int v) H'
theorem scM : FnScope ["draw", "turn", "found", "great", "blend", "grain"] ["draw"] (defScope sMixed) := ⟨rfl, rfl, rfl, by decide +kernel, rfl, by decide +kernel, by decide +kernel⟩
theorem ok_mixed {f : Addr} {fd : FuncData} (F : Fun K "_law_mixed" "_law_mixed" sMixed f fd) (T : TxB mg) : FnOk P w K mg base CX0 1 f fd ["draw"] spMixed := by
  refine F.ok scM (fun vs H Q E h => ?_) (fun cdv A outer s H vs Q E hr h => ?_)
  · obtain ⟨d, l, c, rfl, _⟩ := h
    rfl
  · obtain ⟨d, l, c, rfl, D, k⟩ := h
    have hu := hu_of hr
    refine ⟨_, pss_cons (ps_dput hu (pv 0) pe_str (pe_op op_add (pe_dget hu (pv 0) pe_str (fun _ _ => rfl)) pe_int) rfl)
      (pss_cons (ps_par (i := 1) (j := 2) (by rfl) scM.nd rfl rfl (by decide) rfl rfl (pa_cons (pe_callTy call_int1 (by rfl) T.int (by decide +kernel) (pa_cons (pe_dget hu (pv 0) pe_str (fun _ _ => rfl)) pa_nil)) (pa_cons pe_int pa_nil)) (by rfl))
      (pss_cons (ps_for PassesOwn.never rfl (pi_list (pe_lst (pa_cons pe_int (pa_cons pe_int (pa_cons pe_int pa_nil))))) (pg_name (i := 3) scM.nd rfl (Or.inl rfl))
        (pss_cons (ps_set (i := 4) scM.nd rfl (Or.inl rfl) (pe_op op_mod (pe_op op_add (pe_op op_mul (pv 1) pe_int) (pe_op op_fdiv (pv 3) pe_int)) (pv 3)))
        (pss_cons (ps_for PassesOwn.never rfl (pi_list (pe_dget hu (pv 0) pe_str (fun _ _ => rfl))) (pg_name (i := 5) scM.nd rfl (Or.inl rfl))
          (pss_one (ps_set (i := 4) scM.nd rfl (Or.inl rfl) (pe_op op_mod (pe_op op_add (pe_op op_mul (pv 4) pe_int) (pe_callTy call_int1 (by rfl) T.int (by decide +kernel) (pa_cons (pv 5) pa_nil))) (pv 3)))))
        (pss_one (ps_set (i := 2) scM.nd rfl (Or.inl rfl) (pe_op op_add (pe_op op_mul (pv 2) pe_int) (pe_op op_mod (pe_op op_pow (pv 4) pe_int) (pv 3))))))))
      (pss_one (ps_ret (pv 2))))), ?_⟩
    obtain ⟨r, t, hd⟩ := D.hd
    obtain ⟨cs, hc, hcl⟩ := D.hc
    obtain ⟨ls, hl, hll⟩ := D.hl
    have hdl : l ≠ d := ne_of hl hd (by intro z; cases z)
    have hdc : c ≠ d := ne_of hc hd (by intro z; cases z)
    refine ⟨_, rfl, d, _, rfl, dg_turn hd, _, _, rfl, rfl, _, rfl, d, _, rfl, dp_turn hd, ?_⟩
    have hd1 : (upd H d (.dK (dKvs l c r (t + 1)))) d = some (.dK (dKvs l c r (t + 1))) := upd_same
    have hS1 : SameX d H (upd H d (.dK (dKvs l c r (t + 1)))) := fun b o e n => by rw [upd_ne n]; exact e
    generalize upd H d (.dK (dKvs l c r (t + 1))) = H1 at hd1 hS1 ⊢
    refine ⟨_, rfl, d, _, rfl, dg_turn hd1, .inl ⟨_, rfl, _, _, rfl, ?_⟩⟩
    refine ⟨by decide, fun p hp => ⟨p, rfl, ⟨_, SqL.of upd_same⟩, for_list (K := K) (a := p) (xs := [V.int 2147483629, V.int 2147483587, V.int 2147483579]) (fun i σ H' => ∃ (f : Int) (g b gr : Option V), σ = [some (.ref d), some (.int (t + 1)), some (.int f), g, b, gr] ∧ Same (upd H1 p (.lst [V.int 2147483629, V.int 2147483587, V.int 2147483579])) H') ?_ ?_ ?_ ?_⟩⟩
    · exact ⟨0, none, none, none, rfl, Same.refl _⟩
    · rintro i σ H' _ ⟨_, _, _, _, _, S⟩
      exact SqL.of (S _ _ upd_same)
    · rintro i x σ H' hi ⟨f, g, b, gr, rfl, S⟩
      obtain ⟨m, rfl, m0, m1⟩ : ∃ m : Int, x = V.int m ∧ 0 < m ∧ m < 2147483648 := by
        match i, hi with
        | 0, hi => cases hi; exact ⟨_, rfl, by decide, by decide⟩
        | 1, hi => cases hi; exact ⟨_, rfl, by decide, by decide⟩
        | 2, hi => cases hi; exact ⟨_, rfl, by decide, by decide⟩
        | n + 3, hi => simp at hi
      have hd2 : H' d = some (.dK (dKvs l c r (t + 1))) := S _ _ (by rw [upd_ne (ne_of_none hd1 hp)]; exact hd1)
      have hc1 : H1 c = some (.lst (cs.map V.int)) := hS1 _ _ hc hdc
      have hc2 : H' c = some (.lst (cs.map V.int)) := S _ _ (by rw [upd_ne (ne_of_none hc1 hp)]; exact hc1)
      refine ⟨_, rfl, _, _, rfl, rfl, .inr ⟨by decide, by decide⟩, _, rfl, _, _, rfl, rfl, ⟨by decide, by decide⟩, _, _, rfl, rfl, _, rfl, _, _, rfl, rfl, m0, ?_⟩
      have b0 := Int.emod_nonneg ((t + 1) * 69621 + m / 7) (Int.ne_of_gt m0)
      have b1 := Int.emod_lt_of_pos ((t + 1) * 69621 + m / 7) m0
      refine ⟨_, rfl, d, _, rfl, dg_cells hd2, c, rfl, ⟨_, SqL.of hc2⟩, for_list (K := K) (a := c) (xs := cs.map V.int) (fun i σ H'' => H'' = H' ∧ ∃ (b : Int) (gr : Option V), σ = [some (.ref d), some (.int (t + 1)), some (.int f), some (.int m), some (.int b), gr] ∧ 0 ≤ b ∧ b < m) ?_ ?_ ?_ ?_⟩
      · exact ⟨rfl, _, gr, rfl, b0, b1⟩
      · rintro i σ H'' _ ⟨rfl, _⟩
        exact SqL.of hc2
      · rintro i x σ H'' hi ⟨rfl, b, gr, rfl, b0, b1⟩
        obtain ⟨z, rfl, _⟩ := int_at hi
        refine ⟨_, rfl, _, _, rfl, rfl, .inr ⟨by decide, by decide⟩, _, rfl, .inl ⟨_, rfl, _, _, rfl, rfl, _, rfl, _, _, rfl, rfl, m0, ?_⟩⟩
        exact ⟨rfl, _, _, rfl, Int.emod_nonneg _ (Int.ne_of_gt m0), Int.emod_lt_of_pos _ m0⟩
      · rintro σ H'' ⟨rfl, b, gr, rfl, b0, b1⟩
        refine ⟨_, rfl, _, _, rfl, rfl, .inr ⟨by decide, by decide⟩, _, rfl, _, _, rfl, rfl, ⟨by decide, by decide, by omega⟩, _, rfl, _, _, rfl, rfl, m0, _, _, rfl, rfl, ?_⟩
        exact ⟨_, _, _, _, rfl, S⟩
    · rintro σ H' ⟨f, g, b, gr, rfl, S⟩
      refine ⟨_, rfl, ?_⟩
      have up : ∀ b o, H1 b = some o → H' b = some o := fun b o e => S _ _ (by rw [upd_ne (ne_of_none e hp)]; exact e)
      exact k f H' ⟨⟨r, t + 1, up _ _ hd1⟩, ⟨ls, up _ _ (hS1 _ _ hl hdl), hll⟩, ⟨cs, up _ _ (hS1 _ _ hc hdc), hcl⟩, D.ne⟩ fun b o e n => up _ _ (hS1 _ _ e n)
/-- a draw below amount -/
def spTake : Sp := fun vs H Q _ => ∃ (d l c : Addr) (n : Int), vs = [.ref d, .int n] ∧ 0 < n ∧ n < 1073741824 ∧ DrawAt H d l c ∧ ∀ (v : Int) H', 0 ≤ v → v < n → DrawAt H' d l c → (∀ b o, H b = some o → b ≠ d → b ≠ l → H' b = some o) → Q (.int v) H'
theorem scT : FnScope ["draw", "amount", "found"] ["draw", "amount"] (defScope sTake) := ⟨rfl, rfl, rfl, by decide +kernel, rfl, by decide +kernel, by decide +kernel⟩
theorem ok_take {f fM : Addr} {fd fdM : FuncData} (F : Fun K "_law_take" "_law_take" sTake f fd) (T : TxB mg) (FM : Fun K "_law_mixed" "_law_mixed" sMixed fM fdM) (bM : Binds K fdM ["draw"] []) (gM : mg "_law_mixed" = some (.ref fM)) :
    FnOk P w K mg base CX0 2 f fd ["draw", "amount"] spTake := by
  have GM : FnOk P w K mg base CX0 1 fM fdM ["draw"] spMixed := ok_mixed FM T
  refine F.ok scT (fun vs H Q E h => ?_) (fun cdv A outer s H vs Q E hr h => ?_)
  · obtain ⟨d, l, c, n, rfl, _⟩ := h
    rfl
  · obtain ⟨d, l, c, n, rfl, n0, n1, D, k⟩ := h
    have hu := hu_of hr
    refine ⟨_, Evl.pss_cut (ps_if (pt_cmpR op_eq (pe_dget hu (pv 0) pe_str (fun _ _ => rfl)) pe_int (nomark _))
        (pss_one (ps_dput hu (pv 0) pe_str (pe_ifExp (pt_cmpR (op_neD hr.units) (pe_dget hu (pv 0) pe_str (fun _ _ => rfl)) (pe_lst pa_nil) (nomark _))
            (pe_bm PySem.F.plainAttrs_list PySem.F.slot_list_pop PySem.F.type_list_pop mt_popAt (pe_dget hu (pv 0) pe_str (fun _ _ => rfl)) (pa_cons pe_int pa_nil))
            (pe_call GM hr rfl gM FM.kp bM .nil pass0 (pa_cons (pv 0) pa_nil))) rfl)) pss_nil)
      (pss_cons (ps_set (i := 2) scT.nd rfl (Or.inl rfl) (pe_op op_mod (pe_callTy call_int1 (by rfl) T.int (by decide +kernel) (pa_cons (pe_dget hu (pv 0) pe_str (fun _ _ => rfl)) pa_nil)) (pv 1)))
      (pss_cons (ps_dput hu (pv 0) pe_str (pe_op op_fdiv (pe_callTy call_int1 (by rfl) T.int (by decide +kernel) (pa_cons (pe_dget hu (pv 0) pe_str (fun _ _ => rfl)) pa_nil)) (pv 1)) rfl)
      (pss_one (ps_ret (pv 2))))), ?_⟩
    obtain ⟨r, t, hd⟩ := D.hd
    obtain ⟨ls, hl, hll⟩ := D.hl
    obtain ⟨cs, hc, hcl⟩ := D.hc
    have hdl : l ≠ d := ne_of hl hd (by intro z; cases z)
    have hdc : c ≠ d := ne_of hc hd (by intro z; cases z)
    refine ⟨fun σ H2 => σ = [some (.ref d), some (.int n), none] ∧ DrawAt H2 d l c ∧ ∀ b o, H b = some o → b ≠ d → b ≠ l → H2 b = some o, ?_, ?_⟩
    · refine ⟨_, rfl, d, _, rfl, dg_rest hd, rfl, _, rfl, ite2 (fun _ => ?_) (fun _ => ?_)⟩
      · cases ls with
        | nil =>
          refine ⟨_, rfl, d, _, rfl, dg_large hd, Nat.zero_le _, fun p hp => ⟨.list [], .list [], .lst (SqL.of (by rw [upd_ne (ne_of_none hl hp)]; exact hl)) .nil, .lst (SqL.of upd_same) .nil, rfl, rfl, _, rfl, ?_⟩⟩
          refine iteF ?_
          have hdp : (upd H p (.lst [])) d = some (.dK (dKvs l c r t)) := by rw [upd_ne (ne_of_none hd hp)]; exact hd
          refine ⟨_, rfl, d, l, c, rfl, ⟨⟨r, t, hdp⟩, ⟨[], by rw [upd_ne (ne_of_none hl hp)]; exact hl, hll⟩, ⟨cs, by rw [upd_ne (ne_of_none hc hp)]; exact hc, hcl⟩, D.ne⟩, fun v H' D' S' => ?_⟩
          obtain ⟨r', t', hd'⟩ := D'.hd
          obtain ⟨ls', hl', hll'⟩ := D'.hl
          obtain ⟨cs', hc', hcl'⟩ := D'.hc
          refine ⟨_, rfl, d, _, rfl, dp_rest hd', ?_⟩
          refine ⟨rfl, ⟨⟨_, _, upd_same⟩, ⟨ls', by rw [upd_ne hdl]; exact hl', hll'⟩, ⟨cs', by rw [upd_ne hdc]; exact hc', hcl'⟩, D.ne⟩, fun b o e n1 n2 => ?_⟩
          rw [upd_ne n1]
          exact S' _ _ (by rw [upd_ne (ne_of_none e hp)]; exact e) n1
        | cons z zs =>
          refine ⟨_, rfl, d, _, rfl, dg_large hd, Nat.zero_le _, fun p hp => ⟨.list ((z :: zs).map PyData.int), .list [], .lst (SqL.of (by rw [upd_ne (ne_of_none hl hp)]; exact hl)) (dp_ints _), .lst (SqL.of upd_same) .nil, shaped_ints _, rfl, _, rfl, ?_⟩⟩
          refine iteT ?_
          have hdp : (upd H p (.lst [])) d = some (.dK (dKvs l c r t)) := by rw [upd_ne (ne_of_none hd hp)]; exact hd
          have hlp : (upd H p (.lst [])) l = some (.lst ((z :: zs).map V.int)) := by rw [upd_ne (ne_of_none hl hp)]; exact hl
          refine ⟨_, rfl, d, _, rfl, dg_large hdp, .inl ⟨rfl, _, SqL.of hlp⟩, l, _, 0, 0, V.int z, rfl, rfl, hlp, by decide, by decide, seq0 (by simp), rfl, ?_⟩
          have hdq : ∀ o, (upd (upd H p (.lst [])) l o) d = some (.dK (dKvs l c r t)) := fun o => by rw [upd_ne hdl.symm]; exact hdp
          refine ⟨_, rfl, d, _, rfl, dp_rest (hdq _), ?_⟩
          refine ⟨rfl, ⟨⟨_, _, upd_same⟩, ⟨zs, by rw [upd_ne hdl, upd_same]; rfl, by simp at hll; omega⟩, ⟨cs, by rw [upd_ne hdc, upd_ne D.ne.symm, upd_ne (ne_of_none hc hp)]; exact hc, hcl⟩, D.ne⟩, fun b o e n1 n2 => ?_⟩
          rw [upd_ne n1, upd_ne n2, upd_ne (ne_of_none e hp)]
          exact e
      · exact ⟨rfl, D, fun _ _ e _ _ => e⟩
    · rintro σ H2 ⟨rfl, D2, S2⟩
      obtain ⟨r2, t2, hd2⟩ := D2.hd
      obtain ⟨ls2, hl2, hll2⟩ := D2.hl
      obtain ⟨cs2, hc2, hcl2⟩ := D2.hc
      refine ⟨_, rfl, d, _, rfl, dg_rest hd2, .inl ⟨_, rfl, _, rfl, _, _, rfl, rfl, n0, ?_⟩⟩
      refine ⟨_, rfl, d, _, rfl, dg_rest hd2, .inl ⟨_, rfl, _, rfl, _, _, rfl, rfl, ⟨n0, n1⟩, _, rfl, d, _, rfl, dp_rest hd2, _, rfl, ?_⟩⟩
      refine k _ _ (Int.emod_nonneg _ (Int.ne_of_gt n0)) (Int.emod_lt_of_pos _ n0) ⟨⟨_, _, upd_same⟩, ⟨ls2, by rw [upd_ne hdl]; exact hl2, hll2⟩, ⟨cs2, by rw [upd_ne hdc]; exact hc2, hcl2⟩, D.ne⟩ fun b o e m1 m2 => ?_
      rw [upd_ne m1]
      exact S2 _ _ e m1 m2
/-- one of some things -/
def spPick (K : PySem.W.Frag) : Sp := fun vs H Q _ => ∃ (d l c p : Addr) (xs : List V), vs = [.ref d, .ref p] ∧ H p = some (.lst xs) ∧ p ≠ l ∧ 0 < xs.length ∧ xs.length < 1000 ∧ DrawAt H d l c ∧
  ∀ (v : V) H', v ∈ xs → DrawAt H' d l c → (∀ b o, H b = some o → b ≠ d → b ≠ l → H' b = some o) → Q v H'
theorem scP : FnScope ["draw", "some"] ["draw", "some"] (defScope sPick) := ⟨rfl, rfl, rfl, by decide +kernel, rfl, by decide +kernel, by decide +kernel⟩
theorem ok_pick {f fT : Addr} {fd fdT : FuncData} (F : Fun K "_law_pick" "_law_pick" sPick f fd) (T : TxB mg) (GT : FnOk P w K mg base CX0 2 fT fdT ["draw", "amount"] spTake) (kT : PySem.W.keepIn K (.ref fT) = true) (bT : Binds K fdT ["draw", "amount"] []) (gT : mg "_law_take" = some (.ref fT)) :
    FnOk P w K mg base CX0 3 f fd ["draw", "some"] (spPick K) := by
  refine F.ok scP (fun vs H Q E h => ?_) (fun cdv A outer s H vs Q E hr h => ?_)
  · obtain ⟨d, l, c, p, xs, rfl, _⟩ := h
    rfl
  · obtain ⟨d, l, c, p, xs, rfl, hp, hpl, h0, h1, D, k⟩ := h
    have hu := hu_of hr
    refine ⟨_, pss_one (ps_ret (pe_ix ix_list (pv 1) (pe_call GT hr rfl gT kT bT .nil pass0 (pa_cons (pv 0) (pa_cons (pe_callB call_len_seq (by rfl) T.len PySem.boot_len (pa_cons (pv 1) pa_nil)) pa_nil))) (fun _ _ => rfl))), ?_⟩
    obtain ⟨r, t, hd⟩ := D.hd
    have npd : p ≠ d := ne_of hp hd (by intro z; cases z)
    refine ⟨_, rfl, _, rfl, _, rfl, p, _, rfl, .inl (SqL.of hp), d, l, c, _, rfl, by omega, by omega, D, fun v H' v0 v1 D' S' => ?_⟩
    have hp' := S' _ _ hp npd hpl
    obtain ⟨j, hj⟩ : ∃ j : Nat, v = j := ⟨v.toNat, by omega⟩
    subst hj
    have hjl : j < xs.length := by omega
    refine ⟨p, xs, _, xs[j], rfl, rfl, SqL.of hp', atI_nat (by simp [hjl]), k _ _ (List.getElem_mem _) D' S'⟩
end
end P2
end

section
set_option maxRecDepth 100000
set_option maxHeartbeats 2000000
namespace P2
open PySem L2 ClX
section
variable {P : Program} {w : World} {K : PySem.W.Frag} {mg : Str → Option Value} {base : Heap} {bp C B M N : Addr}
/-- the heap behind some draws -/
def Drawn (d l : Addr) (H H' : Hp) : Prop := ∀ b o, H b = some o → b ≠ d → b ≠ l → H' b = some o
abbrev fields : List Int := [2, 3, 3, 5, 5, 7, 7, 11, 13, 97]
def spField : Sp := fun vs H Q _ => ∃ (d l c : Addr), vs = [.ref d] ∧ DrawAt H d l c ∧ ∀ (p : Int) H', p ∈ fields → DrawAt H' d l c → Drawn d l H H' → Q (.int p) H'
theorem sc42 : FnScope ["draw"] ["draw"] (defScope (top 42)) := ⟨rfl, rfl, rfl, by decide +kernel, rfl, by decide +kernel, by decide +kernel⟩
theorem ok_field {f fP : Addr} {fd dP : FuncData} (F : Fun K "_law_field" "_law_field" (top 42) f fd) (GP : FnOk P w K mg base CX0 3 fP dP ["draw", "some"] (spPick K)) (kP : PySem.W.keepIn K (.ref fP) = true) (bP : Binds K dP ["draw", "some"] []) (gP : mg "_law_pick" = some (.ref fP)) :
    FnOk P w K mg base CX0 4 f fd ["draw"] spField := by
  refine F.ok sc42 (fun vs H Q E h => ?_) (fun cdv A outer s H vs Q E hr h => ?_)
  · obtain ⟨d, l, c, rfl, _⟩ := h
    rfl
  · obtain ⟨d, l, c, rfl, D, k⟩ := h
    refine ⟨_, pss_one (ps_ret (pe_call GP hr rfl gP kP bP .nil pass0 (pa_cons (pv 0) (pa_cons (pe_lst (pa_cons pe_int (pa_cons pe_int (pa_cons pe_int (pa_cons pe_int (pa_cons pe_int (pa_cons pe_int (pa_cons pe_int (pa_cons pe_int (pa_cons pe_int (pa_cons pe_int pa_nil))))))))))) pa_nil)))), ?_⟩
    obtain ⟨r, t, hd⟩ := D.hd
    obtain ⟨ls, hl, hll⟩ := D.hl
    obtain ⟨cs, hc, hcl⟩ := D.hc
    refine ⟨_, rfl, by decide, fun p hp => ?_⟩
    have S : Same H (upd H p (.lst (fields.map V.int))) := (Same.refl _).put hp
    refine ⟨d, l, c, p, fields.map V.int, rfl, upd_same, (fun z => by rw [z, hl] at hp; cases hp), by decide, by decide, ⟨⟨r, t, S _ _ hd⟩, ⟨ls, S _ _ hl, hll⟩, ⟨cs, S _ _ hc, hcl⟩, D.ne⟩, fun v H' hv D' S' => ?_⟩
    obtain ⟨i, hi, rfl⟩ := List.mem_map.mp hv
    exact k i H' hi D' fun b o e n1 n2 => S' _ _ (S _ _ e) n1 n2
end
end P2
end

section
set_option maxRecDepth 100000
set_option maxHeartbeats 2000000
namespace P2
open PySem L2 ClX
/-- the rows of n entries with a sum, as the law lists them -/
def rowsL : Nat → Nat → List (List Int)
  | 0, _ => []
  | 1, t => [[(t : Int)]]
  | n + 2, t => (List.range (t + 1)).flatMap fun i => (rowsL (n + 1) (t - i)).map fun r => (i : Int) :: r
def rowsP (n t i : Nat) : List (List Int) := (List.range i).flatMap fun j => (rowsL n (t - j)).map fun r => (j : Int) :: r
theorem rowsL_step (n t : Nat) : rowsL (n + 2) t = rowsP (n + 1) t (t + 1) := by
  rw [rowsL]
  rfl
theorem rowsP_succ (n t i : Nat) : rowsP n t (i + 1) = rowsP n t i ++ (rowsL n (t - i)).map fun r => (i : Int) :: r := by
  unfold rowsP
  rw [List.range_succ, List.flatMap_append]
  simp
/-- rows stand in memory -/
def RowsAt (H : Hp) (bs : List Addr) (rs : List (List Int)) : Prop := bs.length = rs.length ∧ ∀ (i : Nat) (b : Addr) (r : List Int), bs[i]? = some b → rs[i]? = some r → H b = some (.tup (r.map V.int))
theorem RowsAt.same {H H' : Hp} {bs : List Addr} {rs : List (List Int)} (h : RowsAt H bs rs) (S : Same H H') : RowsAt H' bs rs := ⟨h.1, fun i b r h1 h2 => S _ _ (h.2 i b r h1 h2)⟩
theorem RowsAt.nil {H : Hp} : RowsAt H [] [] := ⟨rfl, fun i b r h _ => by simp at h⟩
theorem RowsAt.append {H : Hp} {bs cs : List Addr} {rs ss : List (List Int)} (h : RowsAt H bs rs) (g : RowsAt H cs ss) : RowsAt H (bs ++ cs) (rs ++ ss) := by
  refine ⟨by rw [List.length_append, List.length_append, h.1, g.1], fun i b r h1 h2 => ?_⟩
  by_cases hi : i < bs.length
  · rw [List.getElem?_append_left hi] at h1
    rw [List.getElem?_append_left (by rw [← h.1]; exact hi)] at h2
    exact h.2 i b r h1 h2
  · rw [List.getElem?_append_right (by omega)] at h1
    rw [List.getElem?_append_right (by rw [← h.1]; omega)] at h2
    rw [← h.1] at h2
    exact g.2 _ b r h1 h2
theorem RowsAt.one {H : Hp} {b : Addr} {r : List Int} (h : H b = some (.tup (r.map V.int))) : RowsAt H [b] [r] := ⟨rfl, fun i b2 r2 h1 h2 => by
  cases i with
  | zero => cases h1; cases h2; exact h
  | succ i => simp at h1⟩
theorem RowsAt.get {H : Hp} {bs : List Addr} {rs : List (List Int)} (h : RowsAt H bs rs) {i : Nat} {x : V} (hx : (bs.map V.ref)[i]? = some x) : ∃ b r, x = .ref b ∧ bs[i]? = some b ∧ rs[i]? = some r ∧ H b = some (.tup (r.map V.int)) := by
  rw [List.getElem?_map] at hx
  obtain ⟨b, hb, rfl⟩ := Option.map_eq_some_iff.mp hx
  have hi := (List.getElem?_eq_some_iff.mp hb).1
  have hr : rs[i]? = some (rs[i]'(by rw [← h.1]; exact hi)) := List.getElem?_eq_getElem _
  exact ⟨b, _, rfl, hb, hr, h.2 i b _ hb hr⟩
theorem rows_small : ∀ n, n < 5 → ∀ t, t < 5 → (rowsL n t).length ≤ 1000 ∧ ∀ i, i < 6 → (rowsP n t i).length ≤ 1000 := by decide +kernel
theorem rows_facts : ∀ n, n < 5 → ∀ t, t < 5 → ∀ r ∈ rowsL n t, r.length = n ∧ (∀ e ∈ r, 0 ≤ e) ∧ r.sum = t := by decide +kernel
section
variable {P : Program} {w : World} {K : PySem.W.Frag} {mg : Str → Option Value} {base : Heap} {bp C B M N : Addr}
def spRows (n : Nat) : Sp := fun vs H Q _ => ∃ (x y : Int) (t : Nat), vs = [.int x, .int y] ∧ x = n ∧ y = t ∧ 1 ≤ n ∧ n ≤ 4 ∧ t ≤ 4 ∧ ∀ p H' bs, Same H H' → H p = none → H' p = some (.lst (bs.map V.ref)) → RowsAt H' bs (rowsL n t) → Q (.ref p) H'
abbrev NRO : List Str := ["wide_here", "total", "found", "item", "rest"]
theorem sc43 : FnScope NRO ["wide_here", "total"] (defScope (top 43)) := ⟨rfl, rfl, rfl, by decide +kernel, rfl, by decide +kernel, by decide +kernel⟩
theorem ok_rows {f : Addr} {fd : FuncData} (F : Fun K "_law_rows" "_law_rows" (top 43) f fd) (T : Tx K mg bp) (bR : Binds K fd ["wide_here", "total"] []) (gR : mg "_law_rows" = some (.ref f)) : ∀ n, FnOk P w K mg base CX0 (n + 1) f fd ["wide_here", "total"] (spRows n)
  | 0 => ⟨fun vs H Q E h => by obtain ⟨x, y, t, _, _, _, z, _⟩ := h; omega, fun A outer s H args us vs Q E _ _ _ _ h => by obtain ⟨x, y, t, _, _, _, z, _⟩ := h; omega⟩
  | n + 1 => by
    have GR := ok_rows F T bR gR n
    refine F.ok sc43 (fun vs H Q E h => ?_) (fun cdv A outer s H vs Q E hr h => ?_)
    · obtain ⟨x, y, t, rfl, _⟩ := h
      rfl
    · obtain ⟨x, y, t, rfl, rfl, rfl, n1, n4, t4, k⟩ := h
      have hu := hu_of hr
      refine ⟨_, pss_cons (ps_if (pt_cmpR op_eq (pv 0) pe_int (nomark _)) (pss_one (ps_ret (pe_lst (pa_cons (pe_tup (pa_cons (pv 1) pa_nil)) pa_nil)))) pss_nil)
        (pss_cons (ps_set (i := 2) sc43.nd rfl (Or.inl rfl) (pe_lst pa_nil))
        (pss_cons (ps_for PassesOwn.never rfl (pi_range1 rfl T.range (pa_cons (pe_op op_add (pv 1) pe_int) pa_nil)) (pg_name (i := 3) sc43.nd rfl (Or.inr rfl))
          (pss_one (ps_set (i := 2) sc43.nd rfl (Or.inl rfl) (pe_op op_cat (pv 2) (pe_lc (own := [("rest", 4)]) (g := gName 4) (tt := tYes) rfl sc43.nd (pi_list (pe_call GR hr rfl gR F.kp bR .nil pass0 (pa_cons (pe_op op_sub (pv 0) pe_int) (pa_cons (pe_op op_sub (pv 1) (pv 3)) pa_nil)))) (blkOk_by (own := [("rest", 4)]) (N := NRO) (sc := defScope (top 43)) (by decide +kernel))
            (fun _ _ _ _ _ => pg_name (i := 4) sc43.nd rfl (Or.inl rfl)) (fun _ _ _ _ _ => pts_nil) (fun _ _ _ _ _ => pe_op (r := rCatT K) op_catT (pe_tup (pa_cons (pv 3) pa_nil)) (pv 4)))))))
        (pss_one (ps_ret (pv 2))))), ?_⟩
      refine ⟨_, rfl, rfl, _, rfl, ite2 (fun h1 => ?_) fun h1 => ?_⟩
      · have e := V.int.inj (of_decide_eq_true h1)
        obtain rfl : n = 0 := by omega
        have s1 : (1 : Nat) ≤ sizeLine := by decide
        refine ⟨_, rfl, s1, fun b hb => ⟨s1, fun p hp => ?_⟩⟩
        have S1 : Same H (upd H b (.tup [V.int t])) := (Same.refl _).put hb
        exact k p _ [b] (S1.new hp) (S1.free hp) upd_same (RowsAt.one (by rw [upd_ne (ne_of_none upd_same hp), upd_same]; rfl))
      · have n2 : n ≠ 0 := fun z => h1 (decide_eq_true (by rw [z]; rfl))
        obtain ⟨m, rfl⟩ : ∃ m, n = m + 1 := ⟨n - 1, by omega⟩
        refine ⟨Nat.zero_le _, fun q0 hq0 => ?_⟩
        refine ⟨_, rfl, _, _, rfl, rfl, t + 1, rfl, by omega, by omega, for_it (walk_range (lo := 0) (n := t + 1)) (fun i σ H' => ∃ (q : Addr) (bs : List Addr) (e3 : Option V), σ = [some (.int ((m + 1 + 1 : Nat) : Int)), some (.int (t : Int)), some (.ref q), e3, none] ∧ Same H H' ∧ H q = none ∧ H' q = some (.lst (bs.map V.ref)) ∧ RowsAt H' bs (rowsP (m + 1) t i))
          ⟨q0, [], none, rfl, (Same.refl _).put hq0, hq0, upd_same, RowsAt.nil⟩ (fun _ _ _ _ _ => trivial) ?_ ?_⟩
        · rintro i x σ H1 H2 hi ⟨q, bs, e3, rfl, S1, hqn, hq, hR⟩ ⟨rfl, rfl⟩
          refine ⟨_, rfl, _, rfl, _, _, rfl, rfl, _, rfl, _, rfl, _, _, rfl, rfl, _, _, t - i, rfl, (by omega), (by omega), by omega, by omega, by omega, fun L H3 cs S3 hLn hL hcs => ⟨L, rfl, ⟨_, SqL.of hL⟩, fun D1 hD => ?_⟩⟩
          refine lc_it (walk_list (K := K) (a := L) (xs := cs.map V.ref)) (fun j H' => Same H3 H' ∧ ∃ es : List Addr, H' D1 = some (.lst (es.map V.ref)) ∧ RowsAt H' es (((rowsL (m + 1) (t - i)).take j).map fun r => (i : Int) :: r)) ⟨(Same.refl _).put hD, [], upd_same, RowsAt.nil⟩ (fun j H' _ h => h.1.seq (SqL.of hL)) ?_ ?_
          · rintro j x H4 H5 hj ⟨S4, es, hD4, hR4⟩ ⟨rfl, hx⟩
            obtain ⟨b, r, rfl, hb, hr, hbt⟩ := hcs.get hx
            obtain ⟨rl, _, _⟩ := rows_facts (m + 1) (by omega) (t - i) (by omega) r (List.mem_of_getElem? hr)
            have s1 : (1 : Nat) ≤ sizeLine := by decide
            have nr : r.map V.int ≠ [] := fun z => by
              have z2 := congrArg List.length z
              rw [List.length_map, rl] at z2
              exact absurd z2 (by simp)
            have els : es.length ≤ 1000 := by
              rw [hR4.1, List.length_map, List.length_take]
              have z := (rows_small (m + 1) (by omega) (t - i) (by omega)).1
              omega
            refine ⟨rfl, _, rfl, s1, fun T1 hT1 => ⟨_, rfl, T1, b, _, r.map V.int, rfl, rfl, SqT.of upd_same, SqT.of (by rw [upd_ne (ne_of_none (S4 _ _ hbt) hT1)]; exact S4 _ _ hbt), (fun z => nomatch z), ?_, (fun z => absurd z nr), fun _ p hp => ?_⟩⟩
            · rw [List.length_map, rl]
              have z : (1000 : Nat) ≤ sizeLine := by decide
              show 1 + (m + 1) ≤ sizeLine
              omega
            · have S5 : Same H5 (upd H5 T1 (.tup [V.int (0 + (i : Int))])) := (Same.refl _).put hT1
              have S6 := S5.new (o := .tup ([V.int (0 + (i : Int))] ++ r.map V.int)) hp
              have hp5 : H5 p = none := S5.free hp
              have hD6 := S6 _ _ hD4
              have hp6 : upd (upd H5 T1 (.tup [V.int (0 + (i : Int))])) p (.tup ([V.int (0 + (i : Int))] ++ r.map V.int)) p = some (.tup ([V.int (0 + (i : Int))] ++ r.map V.int)) := upd_same
              generalize upd (upd H5 T1 (.tup [V.int (0 + (i : Int))])) p (.tup ([V.int (0 + (i : Int))] ++ r.map V.int)) = H6 at S6 hD6 hp6
              refine ⟨_, hD6, ?_, (S4.trans S6).put hD, es ++ [p], ?_, ?_⟩
              · rw [List.length_map]
                exact small1000 (by omega)
              · rw [upd_same, List.map_append]
                rfl
              · have nD : ∀ (l : List Addr) (rs : List (List Int)), RowsAt H6 l rs → RowsAt (upd H6 D1 (.lst (es.map V.ref ++ [V.ref p]))) l rs := fun l rs h => ⟨h.1, fun i b r h1 h2 => by
                  have z := h.2 i b r h1 h2
                  rw [upd_ne (fun e => by rw [e, hD6] at z; cases z)]
                  exact z⟩
                refine nD _ _ ?_
                rw [List.take_succ, hr, List.map_append]
                refine (hR4.same S6).append (RowsAt.one ?_)
                rw [hp6, Int.zero_add]
                rfl
          · rintro H4 ⟨S4, es, hD4, hR4⟩
            have S14 := S3.trans S4
            have lcs : (cs.map V.ref).length = (rowsL (m + 1) (t - i)).length := by rw [List.length_map, hcs.1]
            rw [lcs, List.take_length] at hR4
            have z1 := (rows_small (m + 1) (by omega) t (by omega)).2 i (by omega)
            have z2 := (rows_small (m + 1) (by omega) (t - i) (by omega)).1
            refine ⟨q, D1, _, _, rfl, rfl, S14 _ _ hq, hD4, ?_, fun p hp => ⟨p, bs ++ es, _, rfl, (S1.trans S14).new hp, (S1.trans S14).free hp, ?_, ?_⟩⟩
            · rw [List.length_map, List.length_map, hR.1, hR4.1, List.length_map]
              have z : (2000 : Nat) ≤ sizeLine := by decide
              omega
            · rw [upd_same, List.map_append]
            · rw [rowsP_succ]
              exact ((hR.same S14).append hR4).same ((Same.refl _).put hp)
        · rintro σ H1 ⟨q, bs, e3, rfl, S1, hqn, hq, hR⟩
          refine ⟨_, rfl, k q H1 bs S1 hqn hq ?_⟩
          rw [rowsL_step]
          exact hR
end
end P2
end

section
set_option maxRecDepth 100000
set_option maxHeartbeats 2000000
namespace P2
open PySem L2 ClX
section
variable {P : Program} {w : World} {K : PySem.W.Frag} {mg : Str → Option Value} {base : Heap} {bp C B M N : Addr}
/-- the terms that stand modulo p, rows ascending: a new dict -/
def spTidied : Sp := fun vs H Q _ => ∃ (p : Int) (a : Addr) (ts : List (List Int × Int)), vs = [.int p, .ref a] ∧ 0 < p ∧ H a = some (.dT (rK ts)) ∧ (ts.map (·.1)).Nodup ∧ (∀ q ∈ ts, q.1 ≠ []) ∧ ts.length ≤ 1000000 ∧
  ∀ D H' ys, List.Perm ys (ts.map (·.1)) → Asc ys → Same H H' → H D = none → H' D = some (.dT (rK (tidyOf p ts ys))) → Q (.ref D) H'
abbrev NTD : List Str := ["field", "terms_here", "found", "row"]
theorem sc44 : FnScope NTD ["field", "terms_here"] (defScope (top 44)) := ⟨rfl, rfl, rfl, by decide +kernel, rfl, by decide +kernel, by decide +kernel⟩
theorem ok_tidied {f : Addr} {fd : FuncData} (F : Fun K "_law_tidied" "_law_tidied" (top 44) f fd) (T : Tx K mg bp) : FnOk P w K mg base CX0 1 f fd ["field", "terms_here"] spTidied := by
  refine F.ok sc44 (fun vs H Q E h => ?_) (fun cdv A outer s H vs Q E hr h => ?_)
  · obtain ⟨p, a, ts, rfl, _⟩ := h
    rfl
  · obtain ⟨p, a, ts, rfl, hp, ha, hn, hne, hz, k⟩ := h
    have hu := hu_of hr
    refine ⟨_, pss_cons (ps_set (i := 2) sc44.nd rfl (Or.inl rfl) pe_dnewT)
      (pss_cons (ps_for PassesOwn.never rfl (pi_list (pe_callB (r := rSortT) (call_sortedT rfl) (by rfl) T.sorted (by decide +kernel) (pa_cons (pv 1) pa_nil))) (pg_name (i := 3) sc44.nd rfl (Or.inl rfl))
        (pss_one (ps_if (pt_cmpR op_ne (pe_op op_mod (pe_dget hu (pv 1) (pv 3) (fun _ _ => rfl)) (pv 0)) pe_int (nomark _))
          (pss_one (ps_dput hu (pv 2) (pv 3) (pe_op op_mod (pe_dget hu (pv 1) (pv 3) (fun _ _ => rfl)) (pv 0)) rfl)) pss_nil)))
      (pss_one (ps_ret (pv 2)))), ?_⟩
    refine fun D hD => ?_
    have S0 : Same H (upd H D (.dT [])) := (Same.refl _).put hD
    have hDD : upd H D (.dT []) D = some (.dT []) := upd_same
    generalize upd H D (.dT []) = H1 at S0 hDD
    have a1 := S0 _ _ ha
    have haD : a ≠ D := fun z => by rw [z, hD] at ha; cases ha
    have ek : (rK ts).map (·.1) = (ts.map (·.1)).map fun k => k.map Sum.inl := by
      unfold rK asK
      rw [List.map_map, List.map_map]
      rfl
    refine ⟨_, rfl, a, rK ts, ts.map (·.1), rfl, .inl a1, ek, fun r hr => ?_, fun pL bs ys perm asc pb hpL => ⟨pL, rfl, ⟨_, SqL.of upd_same⟩, ?_⟩⟩
    · obtain ⟨q, hq, e⟩ := List.mem_map.mp hr
      rw [← e]
      exact hne q hq
    have S2 : Same H1 (upd H1 pL (.lst (bs.map V.ref))) := (Same.refl _).put hpL
    have hL0 : upd H1 pL (.lst (bs.map V.ref)) pL = some (.lst (bs.map V.ref)) := upd_same
    have hD2 := S2 _ _ hDD
    have hpD : pL ≠ D := fun z => by rw [z, hDD] at hpL; cases hpL
    generalize upd H1 pL (.lst (bs.map V.ref)) = H2 at S2 hL0 hD2
    have lb : ys.length = bs.length := Paired.length pb
    refine for_it (walk_list (K := K) (a := pL) (xs := bs.map V.ref)) (fun i σ H' => ∃ e3, σ = [some (.int p), some (.ref a), some (.ref D), e3] ∧ SameX D H2 H' ∧ H' D = some (.dT (rK (tidyOf p ts (ys.take i))))) ⟨none, rfl, fun _ _ e _ => e, hD2⟩ (fun i σ H' _ ⟨_, _, h, _⟩ => SqL.of (h _ _ hL0 hpD)) ?_ ?_
    · rintro i v σ H3 H4 hi ⟨e3, rfl, S3, hL⟩ ⟨rfl, hv⟩
      rw [List.length_map] at hi
      have hy : ys[i]? = some ys[i] := List.getElem?_eq_getElem (by omega)
      obtain ⟨b, hb, hbt⟩ := paired_get pb hy
      rw [List.getElem?_map, hb] at hv
      obtain rfl := (Option.some.inj hv).symm
      have hbD : b ≠ D := fun z => by rw [z, hDD] at hbt; cases hbt
      have ht3 := S3 _ _ (S2 _ _ hbt) hbD
      have ha3 := S3 _ _ (S2 _ _ a1) haD
      obtain ⟨q, hq, eq⟩ := List.mem_map.mp (perm.mem_iff.mp (List.mem_of_getElem? hy))
      obtain ⟨j, hj, hjq⟩ := List.mem_iff_getElem.mp hq
      have hgj : getA ts ys[i] = some q.2 := getA_at hn (i := j) (by rw [List.getElem?_eq_getElem hj, hjq, ← eq])
      have dg : DGet H4 a (.ref b) (some (.int q.2)) := .inr ⟨rK ts, rowK ys[i], b, .inl ha3, rfl, by rw [rowK_kV]; exact ht3, by rw [valV_asK rowK_inj, hgj]; rfl⟩
      have hs := foldI_snoc (fun r => if (getA ts r).getD 0 % p = 0 then none else some (r, (getA ts r).getD 0 % p)) hy
      rw [hgj] at hs
      simp only [Option.getD_some] at hs
      refine ⟨_, rfl, _, rfl, a, _, rfl, dg, _, rfl, q.2, p, rfl, rfl, hp, rfl, _, rfl, ?_⟩
      by_cases h0 : q.2 % p = 0
      · simp only [h0, if_true] at hs
        refine ite2 (fun z => absurd z (by simp [h0])) fun _ => ⟨_, rfl, S3, ?_⟩
        unfold tidyOf
        rw [hs]
        exact hL
      · simp only [h0, if_false] at hs
        refine ite2 (fun _ => ?_) fun z => absurd (show (!decide (V.int (q.2 % p) = V.int 0)) = true by simp [h0]) z
        refine ⟨_, rfl, _, rfl, a, _, rfl, dg, _, rfl, q.2, p, rfl, rfl, hp, _, rfl, _, rfl, D, _, rfl, DPut.t (k := rowK ys[i]) hL (by rw [rowK_kV]; exact ht3) ?_, _, rfl, S3.at_D, ?_⟩
        · refine foldI_small rowK _ i ?_
          rw [perm.length_eq, List.length_map]
          exact hz
        · rw [upd_same, putK_asK rowK_inj]
          unfold tidyOf
          rw [hs]
    · rintro σ H3 ⟨e3, rfl, S3, hL⟩
      rw [List.length_map, ← lb, List.take_length] at hL
      refine ⟨_, rfl, k D H3 ys perm asc (fun b o e => S3 _ _ (S2 _ _ (S0 _ _ e)) (ne_of_none e hD)) hD hL⟩
end
end P2
end

section
set_option maxRecDepth 100000
set_option maxHeartbeats 4000000
/-! Defs that are called where no repr is under way: their bodies may call repr of nested data. -/
namespace ClX
open PySem PySem.Spec PyProof.Rows L2
theorem guards_deeper {A : Around} {env : Env} (h : A.guards = some []) : (A.deeper env).guards = some [] := by
  obtain ⟨hd, d, fr, gs, u⟩ := A
  cases (show gs = some [] from h)
  rfl
/-- FnOk, where no repr is under way -/
structure FnG (P : Program) (w : World) (K : PySem.W.Frag) (mg : Str → Option Value) (base : Heap) (k : Nat) (f : Addr) (fd : FuncData) (ps : List Str) (sp : Sp) : Prop where
  len : ∀ vs H Q E, sp vs H Q E → vs.length = ps.length
  run : ∀ (A : Around) (outer : List Env) (s : Shared) (H : Hp) (args : Args) (us : List Value) (vs : List V) (Q : VK), A.guards = some [] → Room k A → Env0 P w K mg base A outer s H → BindsTo s fd args (ps.zip us) → Vals vs us → sp vs H Q E0 →
    codeAny (model P w) A (.call (.ref f) args) (CR CX0 outer P w H s Q E0) s
theorem _root_.L2.FnOk.g {P : Program} {w : World} {K : PySem.W.Frag} {mg : Str → Option Value} {base : Heap} {k : Nat} {f : Addr} {fd : FuncData} {ps : List Str} {sp : Sp} (F : FnOk P w K mg base CX0 k f fd ps sp) : FnG P w K mg base k f fd ps sp :=
  ⟨F.len, fun A outer s H args us vs Q _ => F.run A outer s H args us vs Q E0⟩
theorem okG {P : Program} {w : World} {K : PySem.W.Frag} {mg : Str → Option Value} {base : Heap} {k : Nat} {f : Addr} {fd : FuncData} {x : Str} {st : Stmt} {N ps : List Str} {sp : Sp} (F : Fun K x x st f fd) (S : FnScope N ps (defScope st)) (len : ∀ vs H Q E, sp vs H Q E → vs.length = ps.length)
    (hbody : ∀ (cdv : Value) (A : Around) (outer : List Env) (s : Shared) (H : Hp) (vs : List V) (Q : VK), Room k (A.deeper (envOfC x (defScope st) s.heap.objs.size f cdv)) → (A.deeper (envOfC x (defScope st) s.heap.objs.size f cdv)).guards = some [] → sp vs H Q E0 →
      ∃ t, PSs (cxOf CX0 P w K mg base N x (defScope st) f cdv A outer s H E0).nox (defBody st) t ∧ t { nx := fun _ H' => Q .non H', rt := Q } (start N vs) H) : FnG P w K mg base (k + 1) f fd ps sp := by
  refine ⟨len, fun A outer s H args us vs Q hgd hr e0 hb r hsp => ?_⟩
  have hl := len _ _ _ _ hsp
  obtain ⟨oc, od, kV, doc, pm, an, cdv, ct, osl, rfl, lk, hcd⟩ := F.ex
  have old : ∀ b o, base.get? b = some o → s.heap.get? b = some o := fun b o e => (e0.bs b o e).1
  have KX : K.In s.heap := e0.mod.kin.keeps old
  refine codeAny_call_function hr.depth (KX _ _ lk) rfl S.co S.gen rfl (PySem.W.codeRec_of KX hcd) (hb _ _ _ _ ?_)
  refine wpAny_newFunctionEnv_cells S.kind (fun y hy => ?_) fun env he s1 x => ?_
  · exact (S.par y.1 (List.of_mem_zip (a := y.1) (b := y.2) hy).1).imp id fun q => ⟨q, PySem.W.cellsFrom_some _ _ _ (.inl q)⟩
  · subst he
    refine ⟨(e0.mod.nolimit.keeps old).keeps x.toInCall.keep, codeAny_func ?_⟩
    obtain ⟨t, ht, hq⟩ := hbody cdv A outer s H vs Q (hr.deeper _) (guards_deeper hgd) hsp
    refine wpAny_mono (ht.nox.run [] s1 (start N vs) H _ (inv_start S hr.hd e0 hl r x) hq) (fun fl s' hs => ?_) fun e s' hs => hs
    cases fl with
    | ret u => exact let ⟨v, σ', H', J, rv, q⟩ := hs; ⟨v, H', J.os, J.bare, J.base, J.hok, rv, q⟩
    | next => exact let ⟨σ', H', J, q⟩ := hs; ⟨.non, H', J.os, J.bare, J.base, J.hok, rfl, q⟩
    | brk => exact let ⟨_, _, _, q⟩ := hs; q.elim
    | cont => exact let ⟨_, _, _, q⟩ := hs; q.elim
section
variable {X : Cx} {f : Addr} {fd : FuncData} {ps : List Str} {x : Str} {e : Expr} {es : List Expr} {p pos : Pos} {k : Nat} {sp : Sp} {ta : TA}
theorem pe_callG (G : FnG X.prog X.w X.K X.mg X.base k f fd ps sp) (hgd : X.A.guards = some []) (hr : Room k X.A) (hg : Gl X x) (hm : X.mg x = some (.ref f)) (hk : PySem.W.keepIn X.K (.ref f) = true) (hb : L2.Binds X.K fd ps []) (hx : Passes CX0 X E0)
    (ha : PA X (e :: es) ta) (hdb : (x == ("__debug__" : Str)) = false := by decide) (he : starEach (e :: es) X.env = (false, eval e X.env) :: starEach es X.env := by rfl) (hpl : (backTo pos (starEach es X.env)).any (·.1) = false := by rfl) :
    PE X (.Call (.Name x p) (e :: es) [] pos) (fun σ H Q => ta σ H fun vs H1 => sp vs H1 Q E0) :=
  pe_callAt (T := fun _ vs H Q => sp vs H Q E0) hg hm hk hb hx (fun pins σ s H us vs Q I b r q => G.run X.A X.stack s H _ us vs Q hgd hr I.env0 b r q) (fun _ vs H Q q => G.len vs H Q E0 q) ha hdb he hpl
end
end ClX
end

section
set_option maxRecDepth 100000
set_option maxHeartbeats 2000000
namespace P2
open PySem L2 ClX
/-- terms as data -/
def termsD (ts : List (List Int × Int)) : PyData := .dict (ts.map fun q => (.tuple (q.1.map .int), .int q.2))
/-- their text is of a fair size -/
structure Shows (ts : List (List Int × Int)) : Prop where
  s : (termsD ts).showable = true
  d : (termsD ts).depth ≤ 20
  l : (termsD ts).shown.length ≤ sizeLine
section
variable {P : Program} {w : World} {K : PySem.W.Frag} {mg : Str → Option Value} {base : Heap} {bp C B M N : Addr}
theorem dr_rows {H : Hp} : ∀ ts : List (List Int × Int), DrKt True K H (rK ts) (ts.map fun q => (.tuple (q.1.map .int), .int q.2))
  | [] => .nil
  | q :: ts => by
    have z := DrKt.cons (k := rowK q.1) (Dr.int (b := True) (K := K) (H := H) q.2) (dr_rows ts)
    have e : (rowK q.1).map keyD = q.1.map PyData.int := by
      unfold rowK
      rw [List.map_map]
      rfl
    rw [e] at z
    exact z
theorem dr_terms {H : Hp} {a : Addr} {ts : List (List Int × Int)} (h : H a = some (.dT (rK ts))) : Dr True K H (.ref a) (termsD ts) := .dctT h (dr_rows ts)
/-- the law's look at a polynomial, where it is as due -/
def spIsPoly (C : Addr) : Sp := fun vs H Q _ => ∃ (a t : Addr) (p n : Int) (ts raw : List (List Int × Int)), vs = [.ref a, .int p, .int n, .ref t] ∧ PolyAt H C a p n ts ∧ H t = some (.dT (rK raw)) ∧ 0 < p ∧ (raw.map (·.1)).Nodup ∧ (∀ q ∈ raw, q.1 ≠ []) ∧ raw.length ≤ 1000000 ∧
  (ts.map (·.1)).Nodup ∧ ts.length ≤ 1000000 ∧ Shows ts ∧ (∀ ys, List.Perm ys (raw.map (·.1)) → Asc ys → tidyOf p raw ys = ts) ∧ ∀ H', Same H H' → Q (.bl true) H'
theorem sc47 : FnScope ["thing", "field", "wide_here", "terms_here"] ["thing", "field", "wide_here", "terms_here"] (defScope (top 47)) := ⟨rfl, rfl, rfl, by decide +kernel, rfl, by decide +kernel, by decide +kernel⟩
theorem ok_ispoly {f fT fD pT : Addr} {fd dT dD : FuncData} (F : Fun K "_law_is_poly" "_law_is_poly" (top 47) f fd) (T : Tx K mg bp) (Y : Py K mg C B M)
    (GT : FnOk P w K mg base CX0 1 fT dT ["self"] (spTerms C)) (hT : PropOf K C "terms" pT fT) (bT : Binds K dT ["self"] [])
    (GD_ : FnOk P w K mg base CX0 1 fD dD ["field", "terms_here"] spTidied) (kD : PySem.W.keepIn K (.ref fD) = true) (bD : Binds K dD ["field", "terms_here"] []) (gD : mg "_law_tidied" = some (.ref fD)) :
    FnG P w K mg base 3 f fd ["thing", "field", "wide_here", "terms_here"] (spIsPoly C) := by
  refine okG F sc47 (fun vs H Q E h => ?_) (fun cdv A outer s H vs Q hr hgd h => ?_)
  · obtain ⟨a, t, p, n, ts, raw, rfl, _⟩ := h
    rfl
  · obtain ⟨a, t, p, n, ts, raw, rfl, hp, ht, p0, rn, rne, rz, tn, tz, sh, same, k⟩ := h
    have hu := hu_of hr
    refine ⟨_, pss_cons (ps_if (PW.pt (pw_or (pt_not (pt_val (pe_callB (r := rIsi K) call_isi (by rfl) T.isi (by decide +kernel) (pa_cons (pv 0) (pa_cons (pe_glob (v := .ref C) (by rfl) Y.gC rfl) pa_nil)))))
        (pw_or (pt_cmpR op_ne (pe_fld (pv 0) rfl) (pv 1) (nomark _)) (pw_or1 (pt_cmpR op_ne (pe_fld (pv 0) rfl) (pv 2) (nomark _)))))) (pss_one (ps_ret pe_bl)) pss_nil)
      (pss_one (ps_ret (pe_cmpR op_eq (pe_callB (r := rRepR K) (id := "repr") (call_reprR hgd hr.units) (by rfl) T.repr (by decide +kernel) (pa_cons (pe_prop (E := E0) (pv 0) Y.cl hT GT (hr.mono (by decide)) bT .nil pass0 rfl) pa_nil))
        (pe_callB (r := rRepR K) (id := "repr") (call_reprR hgd hr.units) (by rfl) T.repr (by decide +kernel) (pa_cons (pe_call GD_ (hr.mono (by decide)) rfl gD kD bD .nil pass0 (pa_cons (pv 1) (pa_cons (pv 3) pa_nil))) pa_nil)) (nomark _)))), ?_⟩
    obtain ⟨dx, d, ha, hd⟩ := id hp
    refine ⟨_, rfl, _, .ref C, .ref C, .ref C, true, rfl, .own _, ty_poly Y hp, Y.kC, _, rfl, ?_⟩
    refine iteF ⟨_, rfl, a, C, dx, _, _, rfl, ha, Y.cl, Y.n1, fs_prime _ _ _ _, _, rfl, rfl, _, rfl, ?_⟩
    refine ite2 (fun z => absurd z (by simp)) fun _ => ⟨_, rfl, a, C, dx, _, _, rfl, ha, Y.cl, Y.n2, fs_wide _ _ _ _, _, rfl, rfl, _, rfl, ?_⟩
    refine ite2 (fun z => absurd z (by simp)) fun _ => ?_
    refine ⟨_, rfl, a, dx, _, rfl, ha, a, p, n, ts, rfl, hp, tn, tz, fun q1 H1 S1 n1 hq1 => ?_⟩
    refine ⟨q1, termsD ts, True, rfl, dr_terms hq1, (fun _ => trivial), sh.s, sh.d, sh.l, ?_⟩
    refine ⟨_, rfl, _, rfl, p, t, raw, rfl, p0, S1 _ _ ht, rn, rne, rz, fun D H2 ys perm asc S2 nD hD => ?_⟩
    rw [same ys perm asc] at hD
    refine ⟨D, termsD ts, True, rfl, dr_terms hD, (fun _ => trivial), sh.s, sh.d, sh.l, rfl, ?_⟩
    rw [decide_eq_true rfl]
    exact k H2 (S1.trans S2)
end
end P2
end

section
namespace P2
section
variable {κ μ : Type} [DecidableEq κ] [DecidableEq μ]
/-- the sum of numbers times what φ says of their keys -/
def pr (m : List (κ × Int)) (φ : κ → Int) : Int := (m.map fun q => q.2 * φ q.1).sum
def cf (m : List (κ × Int)) (k : κ) : Int := (getA m k).getD 0
omit [DecidableEq κ] in
theorem pr_nil (φ : κ → Int) : pr [] φ = 0 := rfl
omit [DecidableEq κ] in
theorem pr_cons (q : κ × Int) (m : List (κ × Int)) (φ : κ → Int) : pr (q :: m) φ = q.2 * φ q.1 + pr m φ := by simp [pr]
omit [DecidableEq κ] in
theorem pr_app (m n : List (κ × Int)) (φ : κ → Int) : pr (m ++ n) φ = pr m φ + pr n φ := by simp [pr]
omit [DecidableEq κ] in
theorem pr_congr {φ ψ : κ → Int} : ∀ {m : List (κ × Int)}, (∀ q ∈ m, φ q.1 = ψ q.1) → pr m φ = pr m ψ
  | [], _ => rfl
  | q :: m, h => by rw [pr_cons, pr_cons, h q List.mem_cons_self, pr_congr fun q hq => h q (List.mem_cons_of_mem _ hq)]
omit [DecidableEq κ] [DecidableEq μ] in
theorem pr_map (f : κ → μ) (φ : μ → Int) : ∀ m : List (κ × Int), pr (m.map fun q => (f q.1, q.2)) φ = pr m fun x => φ (f x)
  | [] => rfl
  | q :: m => by rw [List.map_cons, pr_cons, pr_cons, pr_map f φ m]
omit [DecidableEq κ] in
theorem pr_mul (c : Int) (φ : κ → Int) : ∀ m : List (κ × Int), pr m (fun x => c * φ x) = c * pr m φ
  | [] => by rw [pr_nil, pr_nil]; omega
  | q :: m => by rw [pr_cons, pr_cons, pr_mul c φ m, Int.mul_add, Int.mul_left_comm]
omit [DecidableEq κ] in
theorem pr_add (φ ψ : κ → Int) : ∀ m : List (κ × Int), pr m (fun x => φ x + ψ x) = pr m φ + pr m ψ
  | [] => rfl
  | q :: m => by
    rw [pr_cons, pr_cons, pr_cons, pr_add φ ψ m, Int.mul_add]
    omega
omit [DecidableEq κ] in
theorem pr_zero : ∀ m : List (κ × Int), pr m (fun _ => 0) = 0
  | [] => rfl
  | q :: m => by rw [pr_cons, pr_zero m]; omega
omit [DecidableEq κ] [DecidableEq μ] in
theorem pr_swap (F : κ → μ → Int) (n : List (μ × Int)) : ∀ m : List (κ × Int), pr m (fun x => pr n (F x)) = pr n fun y => pr m fun x => F x y
  | [] => by
    show 0 = pr n fun y => 0
    rw [pr_zero]
  | q :: m => by
    rw [pr_cons, pr_swap F n m, ← pr_mul, ← pr_add]
    exact pr_congr fun y _ => by rw [pr_cons]
omit [DecidableEq κ] in
theorem pr_scale (c : Int) (φ : κ → Int) : ∀ m : List (κ × Int), pr (m.map fun q => (q.1, q.2 * c)) φ = c * pr m φ
  | [] => by
    show (0 : Int) = c * 0
    omega
  | q :: m => by
    rw [List.map_cons, pr_cons, pr_cons, pr_scale c φ m, Int.mul_add, Int.mul_comm q.2 c, Int.mul_assoc]
theorem putA_ne {q : κ × Int} {m : List (κ × Int)} {k : κ} {v : Int} (h : q.1 ≠ k) : putA (q :: m) k v = q :: putA m k v := by
  unfold putA
  rw [List.any_cons, decide_eq_false h, Bool.false_or]
  by_cases z : (m.any fun p => decide (p.1 = k)) = true
  · rw [if_pos z, if_pos z, List.map_cons, if_neg h]
  · rw [if_neg z, if_neg z, List.cons_append]
theorem putA_eq {q : κ × Int} {m : List (κ × Int)} {k : κ} {v : Int} (h : q.1 = k) (hk : k ∉ m.map (·.1)) : putA (q :: m) k v = (k, v) :: m := by
  unfold putA
  rw [List.any_cons, decide_eq_true h, Bool.true_or, if_pos rfl, List.map_cons, if_pos h, h]
  congr 1
  have e : m.map (fun p => if p.1 = k then (p.1, v) else p) = m.map id := List.map_congr_left fun p hp => by
    rw [if_neg]
    · rfl
    · intro z
      exact hk (List.mem_map.mpr ⟨p, hp, z⟩)
  rw [e, List.map_id]
theorem cf_cons (q : κ × Int) (m : List (κ × Int)) (k : κ) : cf (q :: m) k = if q.1 = k then q.2 else cf m k := by
  unfold cf getA
  rw [List.find?_cons]
  by_cases h : q.1 = k
  · rw [decide_eq_true h, if_pos h]
    rfl
  · rw [decide_eq_false h, if_neg h]
theorem cf_out : ∀ {m : List (κ × Int)} {k : κ}, k ∉ m.map (·.1) → cf m k = 0
  | [], _, _ => rfl
  | q :: m, k, h => by
    rw [cf_cons, if_neg, cf_out]
    · exact fun z => h (List.mem_cons_of_mem _ z)
    · intro z
      exact h (List.mem_map.mpr ⟨q, List.mem_cons_self, z⟩)
theorem pr_put (φ : κ → Int) (k : κ) (v : Int) : ∀ {m : List (κ × Int)}, (m.map (·.1)).Nodup → pr (putA m k v) φ = pr m φ + (v - cf m k) * φ k
  | [], _ => by
    show v * φ k + 0 = 0 + (v - 0) * φ k
    rw [Int.sub_zero]
    omega
  | q :: m, h => by
    rw [List.map_cons, List.nodup_cons] at h
    rw [cf_cons]
    by_cases z : q.1 = k
    · rw [putA_eq z (by rw [← z]; exact h.1), if_pos z, pr_cons, pr_cons, z]
      show v * φ k + _ = _
      rw [Int.sub_mul]
      omega
    · rw [putA_ne z, if_neg z, pr_cons, pr_cons, pr_put φ k v h.2]
      omega
theorem nodup_add {m : List (κ × Int)} (h : (m.map (·.1)).Nodup) (k : κ) (v : Int) : ((addA m k v).map (·.1)).Nodup := nodup_put h _ _
theorem pr_addA (φ : κ → Int) (k : κ) (v : Int) {m : List (κ × Int)} (h : (m.map (·.1)).Nodup) : pr (addA m k v) φ = pr m φ + v * φ k := by
  unfold addA
  rw [pr_put φ k _ h]
  unfold cf
  rw [show (getA m k).getD 0 + v - (getA m k).getD 0 = v by omega]
theorem pr_fold {α : Type} (g : α → κ × Int) (φ : κ → Int) : ∀ (xs : List α) {m : List (κ × Int)}, (m.map (·.1)).Nodup → pr (xs.foldl (fun m x => addA m (g x).1 (g x).2) m) φ = pr m φ + pr (xs.map g) φ
  | [], m, _ => by
    show pr m φ = pr m φ + 0
    omega
  | x :: xs, m, h => by
    rw [List.foldl_cons, pr_fold g φ xs (nodup_add h _ _), pr_addA φ _ _ h, List.map_cons, pr_cons]
    omega
theorem nodup_addF {α : Type} (g : α → κ × Int) (xs : List α) {m : List (κ × Int)} (h : (m.map (·.1)).Nodup) : ((xs.foldl (fun m x => addA m (g x).1 (g x).2) m).map (·.1)).Nodup := nodup_fold (fun _ _ h => nodup_add h _ _) xs m h
theorem cf_pr (k : κ) : ∀ {m : List (κ × Int)}, (m.map (·.1)).Nodup → cf m k = pr m fun x => if x = k then 1 else 0
  | [], _ => rfl
  | q :: m, h => by
    rw [List.map_cons, List.nodup_cons] at h
    rw [cf_cons, pr_cons, ← cf_pr k h.2]
    by_cases z : q.1 = k
    · rw [if_pos z, if_pos z, cf_out (by rw [← z]; exact h.1)]
      omega
    · rw [if_neg z, if_neg z]
      omega
/-- nodup folds are maps -/
theorem foldA_snoc {α : Type} (g : α → κ × Int) : ∀ (xs : List α) (m : List (κ × Int)), ((m.map (·.1)) ++ xs.map fun x => (g x).1).Nodup → xs.foldl (fun m x => putA m (g x).1 (g x).2) m = m ++ xs.map g
  | [], m, _ => by simp
  | x :: xs, m, h => by
    have h1 : (g x).1 ∉ m.map (·.1) := fun z => by
      have := (List.nodup_append.mp h).2.2 _ z (g x).1 (by simp)
      exact this rfl
    rw [List.foldl_cons, putA_end h1, foldA_snoc g xs _ (by simpa [List.append_assoc] using h), List.map_cons, List.append_assoc]
    rfl
theorem foldA_is {α : Type} (g : α → κ × Int) {xs : List α} (h : (xs.map fun x => (g x).1).Nodup) : foldA g xs = xs.map g := by
  unfold foldA
  rw [foldA_snoc g xs [] (by simpa using h)]
  rfl
theorem foldI_snoc2 {α : Type} (g : α → Option (κ × Int)) : ∀ (xs : List α) (m : List (κ × Int)), ((m.map (·.1)) ++ (xs.filterMap g).map (·.1)).Nodup → xs.foldl (fun m x => match g x with | some p => putA m p.1 p.2 | none => m) m = m ++ xs.filterMap g
  | [], m, _ => by simp
  | x :: xs, m, h => by
    rw [List.foldl_cons]
    cases e : g x with
    | none =>
      rw [List.filterMap_cons_none e] at h ⊢
      exact foldI_snoc2 g xs m h
    | some p =>
      rw [List.filterMap_cons_some e] at h ⊢
      have h1 : p.1 ∉ m.map (·.1) := fun z => by
        have := (List.nodup_append.mp h).2.2 _ z p.1 (by simp)
        exact this rfl
      show xs.foldl _ (putA m p.1 p.2) = _
      rw [putA_end h1, foldI_snoc2 g xs _ (by simpa [List.append_assoc] using h), List.append_assoc]
      rfl
theorem foldI_is {α : Type} (g : α → Option (κ × Int)) {xs : List α} (h : ((xs.filterMap g).map (·.1)).Nodup) : foldI g xs = xs.filterMap g := by
  have z := foldI_snoc2 g xs [] (by simpa using h)
  rw [List.nil_append] at z
  exact z
end
/-- alike modulo p -/
def Eqm (p : Int) (a b : Int) : Prop := ∃ z, a - b = p * z
theorem Eqm.rfl {p a : Int} : Eqm p a a := ⟨0, by omega⟩
theorem Eqm.of {p a b : Int} (h : a = b) : Eqm p a b := h ▸ .rfl
theorem Eqm.symm {p a b : Int} (h : Eqm p a b) : Eqm p b a := let ⟨z, e⟩ := h; ⟨-z, by rw [Int.mul_neg, ← e]; omega⟩
theorem Eqm.trans {p a b c : Int} (h : Eqm p a b) (g : Eqm p b c) : Eqm p a c := let ⟨z, e⟩ := h; let ⟨y, d⟩ := g; ⟨z + y, by rw [Int.mul_add, ← e, ← d]; omega⟩
theorem Eqm.add {p a b c d : Int} (h : Eqm p a b) (g : Eqm p c d) : Eqm p (a + c) (b + d) := let ⟨z, e⟩ := h; let ⟨y, f⟩ := g; ⟨z + y, by rw [Int.mul_add, ← e, ← f]; omega⟩
theorem Eqm.mul {p a b : Int} (c : Int) (h : Eqm p a b) : Eqm p (c * a) (c * b) := let ⟨z, e⟩ := h; ⟨c * z, by rw [← Int.mul_sub, e, Int.mul_left_comm]⟩
theorem Eqm.mod {p a : Int} : Eqm p (a % p) a := ⟨-(a / p), by
  have := Int.mul_ediv_add_emod a p
  rw [Int.mul_neg]
  omega⟩
theorem Eqm.emod {p a b : Int} (h : Eqm p a b) : a % p = b % p := let ⟨z, e⟩ := h; by
  have : a = b + p * z := by omega
  rw [this, Int.add_mul_emod_self_left]
section
variable {κ μ : Type} [DecidableEq κ] [DecidableEq μ]
/-- two lists of terms that are alike modulo p -/
def Eqp (p : Int) (m n : List (κ × Int)) : Prop := ∀ φ : κ → Int, Eqm p (pr m φ) (pr n φ)
omit [DecidableEq κ] in
theorem Eqp.rfl {p : Int} {m : List (κ × Int)} : Eqp p m m := fun _ => .rfl
omit [DecidableEq κ] in
theorem Eqp.symm {p : Int} {m n : List (κ × Int)} (h : Eqp p m n) : Eqp p n m := fun φ => (h φ).symm
omit [DecidableEq κ] in
theorem Eqp.trans {p : Int} {m n l : List (κ × Int)} (h : Eqp p m n) (g : Eqp p n l) : Eqp p m l := fun φ => (h φ).trans (g φ)
omit [DecidableEq κ] in
theorem pr_eqm {p : Int} {φ ψ : κ → Int} : ∀ {m : List (κ × Int)}, (∀ q ∈ m, Eqm p (φ q.1) (ψ q.1)) → Eqm p (pr m φ) (pr m ψ)
  | [], _ => .rfl
  | q :: m, h => by
    rw [pr_cons, pr_cons]
    exact (Eqm.mul q.2 (h q List.mem_cons_self)).add (pr_eqm fun q hq => h q (List.mem_cons_of_mem _ hq))
omit [DecidableEq κ] in
theorem eqp_filter (p : Int) : ∀ m : List (κ × Int), Eqp p (m.filterMap fun q => if q.2 % p = 0 then none else some (q.1, q.2 % p)) m
  | [] => .rfl
  | q :: m => fun φ => by
    by_cases h : q.2 % p = 0
    · rw [List.filterMap_cons_none (by rw [if_pos h]), pr_cons]
      have e : Eqm p 0 (q.2 * φ q.1) := by
        have z := (Eqm.mod (p := p) (a := q.2)).mul (φ q.1)
        rw [h, Int.mul_zero, Int.mul_comm] at z
        exact z
      have y := e.add (eqp_filter p m φ)
      rw [Int.zero_add] at y
      exact y
    · rw [List.filterMap_cons_some (b := (q.1, q.2 % p)) (by rw [if_neg h]), pr_cons, pr_cons]
      refine Eqm.add ?_ (eqp_filter p m φ)
      have z := (Eqm.mod (p := p) (a := q.2)).mul (φ q.1)
      rw [Int.mul_comm, Int.mul_comm (φ q.1)] at z
      exact z
theorem nodup_filter (p : Int) {m : List (κ × Int)} (h : (m.map (·.1)).Nodup) : ((m.filterMap fun q => if q.2 % p = 0 then none else some (q.1, q.2 % p)).map (·.1)).Nodup := by
  induction m with
  | nil => exact h
  | cons q m ih =>
    rw [List.map_cons, List.nodup_cons] at h
    by_cases z : q.2 % p = 0
    · rw [List.filterMap_cons_none (by rw [if_pos z])]
      exact ih h.2
    · rw [List.filterMap_cons_some (b := (q.1, q.2 % p)) (by rw [if_neg z]), List.map_cons, List.nodup_cons]
      refine ⟨fun y => ?_, ih h.2⟩
      obtain ⟨u, hu, eu⟩ := List.mem_map.mp y
      obtain ⟨v, hv, ev⟩ := List.mem_filterMap.mp hu
      by_cases t : v.2 % p = 0
      · rw [if_pos t] at ev
        cases ev
      · rw [if_neg t] at ev
        cases ev
        exact h.1 (List.mem_map.mpr ⟨v, hv, eu⟩)
end
end P2
namespace P2
section
variable {κ μ : Type} [DecidableEq κ] [DecidableEq μ]
/-- all keys are so -/
def Keys (Φ : κ → Prop) (m : List (κ × Int)) : Prop := ∀ q ∈ m, Φ q.1
theorem keys_put {Φ : κ → Prop} {m : List (κ × Int)} (h : Keys Φ m) {k : κ} (hk : Φ k) (v : Int) : Keys Φ (putA m k v) := by
  intro q hq
  unfold putA at hq
  by_cases z : (m.any fun p => decide (p.1 = k)) = true
  · rw [if_pos z] at hq
    obtain ⟨p, hp, e⟩ := List.mem_map.mp hq
    by_cases y : p.1 = k
    · rw [if_pos y] at e
      rw [← e]
      exact h p hp
    · rw [if_neg y] at e
      rw [← e]
      exact h p hp
  · rw [if_neg z] at hq
    rcases List.mem_append.mp hq with hq | hq
    · exact h q hq
    · rw [List.mem_singleton.mp hq]
      exact hk
theorem keys_addF {α : Type} {Φ : κ → Prop} (g : α → κ × Int) : ∀ (xs : List α) {m : List (κ × Int)}, Keys Φ m → (∀ x ∈ xs, Φ (g x).1) → Keys Φ (xs.foldl (fun m x => addA m (g x).1 (g x).2) m)
  | [], _, h, _ => h
  | x :: xs, m, h, hg => keys_addF g xs (keys_put h (hg x List.mem_cons_self) _) fun y hy => hg y (List.mem_cons_of_mem _ hy)
end
theorem wz_is (p : Int) {m : List (Int × Int)} (h : (m.map (·.1)).Nodup) : withoutZ p m = m.filterMap fun q => if q.2 % p = 0 then none else some (q.1, q.2 % p) := foldI_is _ (nodup_filter p h)
theorem wz_eqp (p : Int) {m : List (Int × Int)} (h : (m.map (·.1)).Nodup) : Eqp p (withoutZ p m) m := by
  rw [wz_is p h]
  exact eqp_filter p m
theorem wz_nd (p : Int) (m : List (Int × Int)) : ((withoutZ p m).map (·.1)).Nodup := nodup_foldI _ _
theorem wz_keys {p : Int} {Φ : Int → Prop} {m : List (Int × Int)} (h : (m.map (·.1)).Nodup) (k : Keys Φ m) : Keys Φ (withoutZ p m) := by
  rw [wz_is p h]
  intro q hq
  obtain ⟨v, hv, ev⟩ := List.mem_filterMap.mp hq
  by_cases t : v.2 % p = 0
  · rw [if_pos t] at ev
    cases ev
  · rw [if_neg t] at ev
    cases ev
    exact k v hv
theorem self_foldA {m : List (Int × Int)} (h : (m.map (·.1)).Nodup) : foldA (fun q : Int × Int => (q.1, q.2)) m = m := by
  rw [foldA_is _ h, show (fun q : Int × Int => (q.1, q.2)) = id from rfl, List.map_id]
theorem sumP_eqp (p : Int) {m n : List (Int × Int)} (h : (m.map (·.1)).Nodup) : Eqp p (sumP p m n) (m ++ n) := by
  unfold sumP
  rw [self_foldA h]
  refine (wz_eqp p (nodup_addF (fun q => q) n h)).trans fun φ => .of ?_
  rw [pr_fold (fun q => q) φ n h, pr_app, List.map_id']
theorem sumP_nd (p : Int) (m n : List (Int × Int)) : ((sumP p m n).map (·.1)).Nodup := wz_nd p _
theorem sumP_keys {p : Int} {Φ : Int → Prop} {m n : List (Int × Int)} (h : (m.map (·.1)).Nodup) (k1 : Keys Φ m) (k2 : Keys Φ n) : Keys Φ (sumP p m n) := by
  unfold sumP
  rw [self_foldA h]
  exact wz_keys (nodup_addF (fun q => q) n h) (keys_addF (fun q => q) n k1 k2)
theorem rowP_nd (f : Int × Int) (my : List (Int × Int)) {m : List (Int × Int)} (h : (m.map (·.1)).Nodup) : ((rowP f my m).map (·.1)).Nodup := nodup_addF (fun g : Int × Int => (g.1 + f.1, g.2 * f.2)) my h
theorem rowP_pr (f : Int × Int) (my : List (Int × Int)) {m : List (Int × Int)} (h : (m.map (·.1)).Nodup) (φ : Int → Int) : pr (rowP f my m) φ = pr m φ + f.2 * pr my fun y => φ (y + f.1) := by
  unfold rowP
  rw [pr_fold (fun g : Int × Int => (g.1 + f.1, g.2 * f.2)) φ my h]
  congr 1
  clear h
  induction my with
  | nil =>
    show (0 : Int) = f.2 * 0
    omega
  | cons g my ih => rw [List.map_cons, pr_cons, pr_cons, ih, Int.mul_add, Int.mul_comm g.2, Int.mul_assoc]
theorem prodF_pr (my : List (Int × Int)) (φ : Int → Int) : ∀ (mx : List (Int × Int)) {m : List (Int × Int)}, (m.map (·.1)).Nodup → pr (mx.foldl (fun m f => rowP f my m) m) φ = pr m φ + pr mx fun x => pr my fun y => φ (y + x)
  | [], m, _ => by
    show pr m φ = pr m φ + 0
    omega
  | f :: mx, m, h => by
    rw [List.foldl_cons, prodF_pr my φ mx (rowP_nd f my h), rowP_pr f my h, pr_cons]
    omega
theorem prodF_nd (my : List (Int × Int)) : ∀ (mx : List (Int × Int)) {m : List (Int × Int)}, (m.map (·.1)).Nodup → ((mx.foldl (fun m f => rowP f my m) m).map (·.1)).Nodup
  | [], _, h => h
  | f :: mx, _, h => prodF_nd my mx (rowP_nd f my h)
theorem prodF_keys {Φ : Int → Prop} (my : List (Int × Int)) : ∀ (mx : List (Int × Int)) {m : List (Int × Int)}, Keys Φ m → (∀ x ∈ mx, ∀ y ∈ my, Φ (y.1 + x.1)) → Keys Φ (mx.foldl (fun m f => rowP f my m) m)
  | [], _, h, _ => h
  | f :: mx, _, h, g => prodF_keys my mx (keys_addF (fun g : Int × Int => (g.1 + f.1, g.2 * f.2)) my h (g f List.mem_cons_self)) fun x hx => g x (List.mem_cons_of_mem _ hx)
theorem prodL_pr (mx my : List (Int × Int)) (φ : Int → Int) : pr (prodL mx my) φ = pr mx fun x => pr my fun y => φ (y + x) := by
  have z := prodF_pr my φ mx (m := []) List.nodup_nil
  rw [pr_nil, Int.zero_add] at z
  exact z
theorem prodL_nd (mx my : List (Int × Int)) : ((prodL mx my).map (·.1)).Nodup := prodF_nd my mx (m := []) List.nodup_nil
theorem prodP_pr (p : Int) (m n : List (Int × Int)) (φ : Int → Int) : Eqm p (pr (prodP p m n) φ) (pr m fun x => pr n fun y => φ (x + y)) := by
  unfold prodP
  by_cases z : m.length < n.length
  · rw [if_pos z]
    refine (wz_eqp p (prodL_nd m n) φ).trans (.of ?_)
    rw [prodL_pr]
    exact pr_congr fun x _ => pr_congr fun y _ => by rw [Int.add_comm]
  · rw [if_neg z]
    refine (wz_eqp p (prodL_nd n m) φ).trans (.of ?_)
    rw [prodL_pr, pr_swap (fun x y => φ (y + x)) m n]
theorem prodP_nd (p : Int) (m n : List (Int × Int)) : ((prodP p m n).map (·.1)).Nodup := wz_nd p _
theorem prodP_keys {p : Int} {Φ : Int → Prop} {m n : List (Int × Int)} (h : ∀ x ∈ m, ∀ y ∈ n, Φ (x.1 + y.1)) : Keys Φ (prodP p m n) := by
  unfold prodP
  by_cases z : m.length < n.length
  · rw [if_pos z]
    exact wz_keys (prodL_nd m n) (prodF_keys n m (fun _ z => nomatch z) fun x hx y hy => by rw [Int.add_comm]; exact h x hx y hy)
  · rw [if_neg z]
    exact wz_keys (prodL_nd n m) (prodF_keys m n (fun _ z => nomatch z) fun x hx y hy => h y hy x hx)
/-- a power, as it acts -/
def pw (f : List (Int × Int)) : Nat → (Int → Int) → Int
  | 0, ψ => ψ 0
  | n + 1, ψ => pr f fun x => pw f n fun y => ψ (x + y)
theorem pw_congr {f : List (Int × Int)} : ∀ {n : Nat} {φ ψ : Int → Int}, (∀ x, φ x = ψ x) → pw f n φ = pw f n ψ
  | 0, _, _, h => h 0
  | n + 1, _, _, h => pr_congr fun x _ => pw_congr fun y => h (x.1 + y)
theorem pw_pr (f : List (Int × Int)) {μ : Type} [DecidableEq μ] (m : List (μ × Int)) : ∀ (n : Nat) (F : Int → μ → Int), pw f n (fun y => pr m (F y)) = pr m fun z => pw f n fun y => F y z
  | 0, _ => rfl
  | n + 1, F => by
    show pr f (fun x => pw f n fun y => pr m (F (x + y))) = pr m fun z => pr f fun x => pw f n fun y => F (x + y) z
    rw [pr_swap (fun z x => pw f n fun y => F (x + y) z) f m]
    exact pr_congr fun x _ => pw_pr f m n fun y => F (x.1 + y)
theorem mulN_pr (p : Int) (f : List (Int × Int)) : ∀ (n : Nat) (t : List (Int × Int)) (φ : Int → Int), Eqm p (pr (mulN p f n t) φ) (pr t fun x => pw f n fun y => φ (x + y))
  | 0, t, φ => .of (pr_congr fun x _ => by
    show φ x.1 = φ (x.1 + 0)
    rw [Int.add_zero])
  | n + 1, t, φ => by
    refine (mulN_pr p f n (prodP p t f) φ).trans ((prodP_pr p t f _).trans (.of (pr_congr fun x _ => pr_congr fun y _ => pw_congr fun z => by rw [Int.add_assoc])))
theorem mulN_nd (p : Int) (f : List (Int × Int)) : ∀ (n : Nat) {t : List (Int × Int)}, (t.map (·.1)).Nodup → ((mulN p f n t).map (·.1)).Nodup
  | 0, _, h => h
  | n + 1, t, _ => mulN_nd p f n (prodP_nd p t f)
/-- sums of so many keys -/
def Sums (f : List (Int × Int)) : Nat → Int → Prop
  | 0, x => x = 0
  | n + 1, x => ∃ q ∈ f, ∃ y, Sums f n y ∧ x = y + q.1
theorem mulN_keys {p : Int} {f : List (Int × Int)} : ∀ {n i : Nat} {t : List (Int × Int)}, Keys (Sums f i) t → Keys (Sums f (i + n)) (mulN p f n t)
  | 0, _, _, h => h
  | n + 1, i, t, h => by
    have z := mulN_keys (p := p) (f := f) (n := n) (i := i + 1) (t := prodP p t f) (prodP_keys fun x hx y hy => ⟨y, hy, x.1, h x hx, rfl⟩)
    rw [show i + 1 + n = i + (n + 1) by omega] at z
    exact z
theorem frob_is {p : Int} (hp : 0 < p) {f : List (Int × Int)} (h : (f.map (·.1)).Nodup) : frob p f = f.map fun q => (q.1 * p, q.2) := by
  refine foldA_is _ ?_
  have e : f.map (fun q : Int × Int => (q.1 * p, q.2).1) = (f.map (·.1)).map (· * p) := by rw [List.map_map]; rfl
  show (f.map fun q : Int × Int => (q.1 * p, q.2).1).Nodup
  rw [e]
  refine List.Pairwise.map _ (fun a b ne e => ne ?_) h
  exact Int.eq_of_mul_eq_mul_right (by omega) e
theorem frob_nd (p : Int) (f : List (Int × Int)) : ((frob p f).map (·.1)).Nodup := nodup_foldA _ _
end P2
end

section
namespace P2
/-- twice modulo 2, three times modulo 3 -/
theorem sq_mod2 (c : Int) : Eqm 2 (c * c) c := by
  obtain h | h : c % 2 = 0 ∨ c % 2 = 1 := by omega
  · obtain ⟨d, rfl⟩ : ∃ d, c = 2 * d := ⟨c / 2, by omega⟩
    exact ⟨d * (2 * d) - d, by rw [Int.mul_sub, Int.mul_assoc]⟩
  · obtain ⟨d, rfl⟩ : ∃ d, c = 2 * d + 1 := ⟨c / 2, by omega⟩
    refine ⟨d * (2 * d) + d, ?_⟩
    rw [Int.mul_add, Int.mul_add, Int.add_mul, Int.mul_assoc]
    omega
theorem cu_mod3 (c : Int) : Eqm 3 (c * (c * c)) c := by
  have e : ∀ d r : Int, Eqm 3 ((3 * d + r) * ((3 * d + r) * (3 * d + r))) (r * (r * r)) := fun d r => by
    have h1 : Eqm 3 (3 * d + r) r := ⟨d, by omega⟩
    have h2 : Eqm 3 ((3 * d + r) * (3 * d + r)) (r * r) := ((h1.mul _).trans (by rw [Int.mul_comm]; exact h1.mul r))
    refine (h2.mul _).trans ?_
    rw [Int.mul_comm]
    have := h1.mul (r * r)
    rw [Int.mul_comm r (r * r)]
    exact this
  obtain h | h | h : c % 3 = 0 ∨ c % 3 = 1 ∨ c % 3 = 2 := by omega
  · have := e (c / 3) 0
    rw [show 3 * (c / 3) + 0 = c by omega] at this
    exact this.trans ⟨-(c / 3), by omega⟩
  · have := e (c / 3) 1
    rw [show 3 * (c / 3) + 1 = c by omega] at this
    exact this.trans ⟨-(c / 3), by omega⟩
  · have := e (c / 3) 2
    rw [show 3 * (c / 3) + 2 = c by omega] at this
    exact this.trans ⟨-(c / 3) + 2, by omega⟩
theorem frob2 (ψ : Int → Int) : ∀ f : List (Int × Int), Eqm 2 (pr f fun x => ψ (x * 2)) (pr f fun x => pr f fun y => ψ (x + y))
  | [] => .rfl
  | q :: f => by
    have e : (pr (q :: f) fun x => pr (q :: f) fun y => ψ (x + y)) = q.2 * q.2 * ψ (q.1 * 2) + 2 * (q.2 * pr f fun y => ψ (q.1 + y)) + pr f fun x => pr f fun y => ψ (x + y) := by
      have e1 : (fun x => pr (q :: f) fun y => ψ (x + y)) = fun x => q.2 * ψ (x + q.1) + pr f fun y => ψ (x + y) := funext fun x => pr_cons _ _ _
      rw [e1, pr_cons, pr_add, pr_mul]
      have e2 : (pr f fun x => ψ (x + q.1)) = pr f fun y => ψ (q.1 + y) := pr_congr fun x _ => by rw [Int.add_comm]
      rw [e2, Int.mul_add, ← Int.mul_assoc, show q.1 + q.1 = q.1 * 2 by omega]
      omega
    rw [e, pr_cons]
    refine Eqm.add ?_ (frob2 ψ f)
    have h := ((sq_mod2 q.2).symm).mul (ψ (q.1 * 2))
    rw [Int.mul_comm, Int.mul_comm _ (q.2 * q.2)] at h
    refine h.trans ⟨-(q.2 * pr f fun y => ψ (q.1 + y)), by omega⟩
theorem frob3 (ψ : Int → Int) : ∀ f : List (Int × Int), Eqm 3 (pr f fun x => ψ (x * 3)) (pr f fun x => pr f fun y => pr f fun z => ψ (x + (y + z)))
  | [] => .rfl
  | q :: f => by
    have e : (pr (q :: f) fun x => pr (q :: f) fun y => pr (q :: f) fun z => ψ (x + (y + z))) = q.2 * (q.2 * q.2) * ψ (q.1 * 3) + 3 * (q.2 * (q.2 * pr f fun y => ψ (q.1 + (q.1 + y))) + q.2 * pr f fun y => pr f fun z => ψ (q.1 + (y + z))) + pr f fun x => pr f fun y => pr f fun z => ψ (x + (y + z)) := by
      have e0 : ∀ x y, (pr (q :: f) fun z => ψ (x + (y + z))) = q.2 * ψ (x + (y + q.1)) + pr f fun z => ψ (x + (y + z)) := fun x y => pr_cons _ _ _
      have e1 : ∀ x, (pr (q :: f) fun y => pr (q :: f) fun z => ψ (x + (y + z))) = q.2 * (q.2 * ψ (x + (q.1 + q.1)) + pr f fun z => ψ (x + (q.1 + z))) + (q.2 * (pr f fun y => ψ (x + (y + q.1))) + pr f fun y => pr f fun z => ψ (x + (y + z))) := fun x => by
        rw [show (fun y => pr (q :: f) fun z => ψ (x + (y + z))) = fun y => q.2 * ψ (x + (y + q.1)) + pr f fun z => ψ (x + (y + z)) from funext fun y => e0 x y, pr_cons, pr_add, pr_mul]
      have e2 : (fun x => pr (q :: f) fun y => pr (q :: f) fun z => ψ (x + (y + z))) = fun x => q.2 * (q.2 * ψ (x + (q.1 + q.1)) + pr f fun z => ψ (x + (q.1 + z))) + (q.2 * (pr f fun y => ψ (x + (y + q.1))) + pr f fun y => pr f fun z => ψ (x + (y + z))) := funext e1
      rw [e2, pr_cons, pr_add, pr_mul, pr_add, pr_mul, pr_add, pr_mul]
      have a1 : (pr f fun x => ψ (x + (q.1 + q.1))) = pr f fun y => ψ (q.1 + (q.1 + y)) := pr_congr fun x _ => by congr 1; omega
      have a2 : (pr f fun x => ψ (q.1 + (x + q.1))) = pr f fun y => ψ (q.1 + (q.1 + y)) := pr_congr fun x _ => by congr 1; omega
      have a3 : (pr f fun x => pr f fun z => ψ (x + (q.1 + z))) = pr f fun y => pr f fun z => ψ (q.1 + (y + z)) := pr_congr fun x _ => pr_congr fun y _ => by congr 1; omega
      have a4 : (pr f fun x => pr f fun z => ψ (x + (z + q.1))) = pr f fun y => pr f fun z => ψ (q.1 + (y + z)) := pr_congr fun x _ => pr_congr fun y _ => by congr 1; omega
      rw [a1, a2, a3, a4, show q.1 + (q.1 + q.1) = q.1 * 3 by omega]
      simp only [Int.mul_add, Int.mul_assoc]
      omega
    rw [e, pr_cons]
    refine Eqm.add ?_ (frob3 ψ f)
    have h := ((cu_mod3 q.2).symm).mul (ψ (q.1 * 3))
    rw [Int.mul_comm, Int.mul_comm _ (q.2 * (q.2 * q.2))] at h
    refine h.trans ⟨-(q.2 * (q.2 * pr f fun y => ψ (q.1 + (q.1 + y))) + q.2 * pr f fun y => pr f fun z => ψ (q.1 + (y + z))), by omega⟩
end P2
namespace P2
theorem pr_one (ψ : Int → Int) : pr [((0 : Int), (1 : Int))] ψ = ψ 0 := by
  rw [pr_cons, pr_nil]
  show 1 * ψ 0 + 0 = ψ 0
  omega
theorem pw_one (f : List (Int × Int)) (ψ : Int → Int) : pw f 1 ψ = pr f ψ := pr_congr fun x _ => by
  show ψ (x.1 + 0) = ψ x.1
  rw [Int.add_zero]
theorem mulN_one (p : Int) (f : List (Int × Int)) (n : Nat) (φ : Int → Int) : Eqm p (pr (mulN p f n [(0, 1)]) φ) (pw f n φ) := by
  refine (mulN_pr p f n _ φ).trans (.of ?_)
  rw [pr_one]
  exact pw_congr fun x => by rw [Int.zero_add]
theorem frob_pr {p : Int} (hp : 0 < p) {f : List (Int × Int)} (h : (f.map (·.1)).Nodup) (ψ : Int → Int) : pr (frob p f) ψ = pr f fun x => ψ (x * p) := by
  rw [frob_is hp h]
  exact pr_map (fun x => x * p) ψ f
/-- p times one after the other -/
theorem pow_step (p : Int) (n : Nat) (t f : List (Int × Int)) (l : Int) : powF p (n + 1) t f l = if 0 < l then (if 0 < l / p then powF p n (mulN p f (l % p).toNat t) (frob p f) (l / p) else mulN p f (l % p).toNat t) else t := rfl
theorem okp_step (p : Int) (n : Nat) (t f : List (Int × Int)) (l : Int) : OkPow p (n + 1) t f l = (0 < l → OkMul p f (l % p).toNat t ∧ (0 < l / p → OkPow p n (mulN p f (l % p).toNat t) (frob p f) (l / p))) := rfl
theorem powF_low {p : Int} {n : Nat} {f t : List (Int × Int)} (h : (n : Int) < p) (h0 : 0 < n) : powF p n t f n = mulN p f n t := by
  obtain ⟨m, rfl⟩ : ∃ m, n = m + 1 := ⟨n - 1, by omega⟩
  rw [pow_step, if_pos (by omega), Int.ediv_eq_zero_of_lt (by omega) h, if_neg (by omega), Int.emod_eq_of_lt (by omega) h, Int.toNat_natCast]
theorem okPow_low {p : Int} {n : Nat} {f t : List (Int × Int)} (h : (n : Int) < p) (h0 : 0 < n) (k : OkMul p f n t) : OkPow p n t f n := by
  obtain ⟨m, rfl⟩ : ∃ m, n = m + 1 := ⟨n - 1, by omega⟩
  rw [okp_step, Int.ediv_eq_zero_of_lt (by omega) h, Int.emod_eq_of_lt (by omega) h, Int.toNat_natCast]
  exact fun _ => ⟨k, fun z => absurd z (by decide)⟩
theorem p22 (f : List (Int × Int)) : powF 2 2 [(0, 1)] f 2 = prodP 2 [(0, 1)] (frob 2 f) := rfl
theorem p33 (f : List (Int × Int)) : powF 3 3 [(0, 1)] f 3 = prodP 3 [(0, 1)] (frob 3 f) := rfl
theorem p23 (f : List (Int × Int)) : powF 2 3 [(0, 1)] f 3 = prodP 2 (prodP 2 [(0, 1)] f) (frob 2 f) := rfl
/-- powers up to the third, as they act -/
theorem pow_pr {p : Int} (hp : 2 ≤ p) {n : Nat} (hn : n ≤ 3) {f : List (Int × Int)} (h : (f.map (·.1)).Nodup) (φ : Int → Int) : Eqm p (pr (powF p n [(0, 1)] f n) φ) (pw f n φ) := by
  by_cases h0 : n = 0
  · subst h0
    exact .of (pr_one φ)
  by_cases hl : (n : Int) < p
  · rw [powF_low hl (by omega)]
    exact mulN_one p f n φ
  obtain ⟨rfl, rfl⟩ | ⟨rfl, rfl⟩ | ⟨rfl, rfl⟩ : (p = 2 ∧ n = 2) ∨ (p = 3 ∧ n = 3) ∨ (p = 2 ∧ n = 3) := by omega
  · rw [show ((2 : Nat) : Int) = 2 from rfl, p22]
    refine (prodP_pr 2 _ _ φ).trans ?_
    rw [pr_one, frob_pr (by omega) h]
    refine (Eqm.of (pr_congr fun x _ => by rw [Int.zero_add])).trans ((frob2 φ f).trans (.of (pr_congr fun x _ => ?_)))
    rw [pw_one]
  · rw [show ((3 : Nat) : Int) = 3 from rfl, p33]
    refine (prodP_pr 3 _ _ φ).trans ?_
    rw [pr_one, frob_pr (by omega) h]
    refine (Eqm.of (pr_congr fun x _ => by rw [Int.zero_add])).trans ((frob3 φ f).trans (.of (pr_congr fun x _ => pr_congr fun y _ => ?_)))
    rw [pw_one]
  · rw [show ((3 : Nat) : Int) = 3 from rfl, p23]
    refine (prodP_pr 2 _ _ φ).trans ((prodP_pr 2 _ _ _).trans ?_)
    rw [pr_one]
    refine pr_eqm fun x _ => ?_
    rw [frob_pr (by omega) h]
    refine Eqm.trans (.of ?_) ((frob2 (fun z => φ (x.1 + z)) f).trans (.of (pr_congr fun y _ => ?_)))
    · exact pr_congr fun y _ => by rw [Int.zero_add]
    · rw [pw_one]
theorem pow_nd {p : Int} {n : Nat} (hn : n ≤ 3) (hp : 2 ≤ p) (f : List (Int × Int)) : ((powF p n [(0, 1)] f n).map (·.1)).Nodup := by
  by_cases h0 : n = 0
  · subst h0
    exact List.nodup_cons.mpr ⟨by simp, List.nodup_nil⟩
  by_cases hl : (n : Int) < p
  · rw [powF_low hl (by omega)]
    exact mulN_nd p f n (List.nodup_cons.mpr ⟨by simp, List.nodup_nil⟩)
  obtain ⟨rfl, rfl⟩ | ⟨rfl, rfl⟩ | ⟨rfl, rfl⟩ : (p = 2 ∧ n = 2) ∨ (p = 3 ∧ n = 3) ∨ (p = 2 ∧ n = 3) := by omega
  · exact prodP_nd _ _ _
  · exact prodP_nd _ _ _
  · exact prodP_nd _ _ _
theorem sums_frob2 {f : List (Int × Int)} {q : Int × Int} (h : q ∈ f) {i : Nat} {x : Int} (hx : Sums f i x) : Sums f (i + 2) (x + q.1 * 2) := ⟨q, h, x + q.1, ⟨q, h, x, hx, rfl⟩, by omega⟩
theorem pow_keys {p : Int} {n : Nat} (hn : n ≤ 3) (hp : 2 ≤ p) {f : List (Int × Int)} (h : (f.map (·.1)).Nodup) : Keys (Sums f n) (powF p n [(0, 1)] f n) := by
  have k0 : Keys (Sums f 0) [((0 : Int), (1 : Int))] := fun q hq => by
    rw [List.mem_singleton.mp hq]
    rfl
  by_cases h0 : n = 0
  · subst h0
    exact k0
  by_cases hl : (n : Int) < p
  · rw [powF_low hl (by omega)]
    have := mulN_keys (p := p) (f := f) (n := n) k0
    rw [Nat.zero_add] at this
    exact this
  have fr : ∀ {p : Int}, 0 < p → ∀ y ∈ frob p f, ∃ q ∈ f, y.1 = q.1 * p := fun hp y hy => by
    rw [frob_is hp h] at hy
    obtain ⟨q, hq, rfl⟩ := List.mem_map.mp hy
    exact ⟨q, hq, rfl⟩
  obtain ⟨rfl, rfl⟩ | ⟨rfl, rfl⟩ | ⟨rfl, rfl⟩ : (p = 2 ∧ n = 2) ∨ (p = 3 ∧ n = 3) ∨ (p = 2 ∧ n = 3) := by omega
  · rw [show ((2 : Nat) : Int) = 2 from rfl, p22]
    refine prodP_keys fun x hx y hy => ?_
    obtain ⟨q, hq, e⟩ := fr (by omega) y hy
    rw [e]
    exact sums_frob2 hq (k0 x hx)
  · rw [show ((3 : Nat) : Int) = 3 from rfl, p33]
    refine prodP_keys fun x hx y hy => ?_
    obtain ⟨q, hq, e⟩ := fr (by omega) y hy
    rw [e]
    have z := sums_frob2 hq (k0 x hx)
    exact ⟨q, hq, _, z, by omega⟩
  · rw [show ((3 : Nat) : Int) = 3 from rfl, p23]
    refine prodP_keys fun x hx y hy => ?_
    obtain ⟨q, hq, e⟩ := fr (by omega) y hy
    rw [e]
    have z : Keys (Sums f 1) (prodP 2 [(0, 1)] f) := prodP_keys fun x hx y hy => ⟨y, hy, x.1, k0 x hx, rfl⟩
    exact sums_frob2 hq (z x hx)
theorem okMul_3 {p : Int} {f : List (Int × Int)} (hf : f.length ≤ 90) : ∀ {n : Nat} {t : List (Int × Int)}, t.length * 90 ^ n ≤ 1000000 → OkMul p f n t ∧ (mulN p f n t).length ≤ 1000000
  | 0, t, h => ⟨trivial, by
    have : t.length * 1 ≤ 1000000 := h
    show t.length ≤ 1000000
    omega⟩
  | n + 1, t, h => by
    have e1 : t.length * f.length ≤ t.length * 90 := Nat.mul_le_mul_left _ hf
    have e2 : t.length * 90 * 90 ^ n ≤ 1000000 := by rw [Nat.mul_assoc, ← Nat.pow_succ']; exact h
    have e3 : 0 < 90 ^ n := Nat.pow_pos (by omega)
    have e4 : t.length * 90 ≤ t.length * 90 * 90 ^ n := Nat.le_mul_of_pos_right _ e3
    have z := okMul_3 (p := p) (f := f) hf (n := n) (t := prodP p t f) (Nat.le_trans (Nat.mul_le_mul_right _ (Nat.le_trans (prodP_len p t f) e1)) e2)
    exact ⟨⟨by omega, by omega, z.1⟩, z.2⟩
theorem frob_len (p : Int) (f : List (Int × Int)) : (frob p f).length ≤ f.length := foldA_le _ _
theorem pow_ok {p : Int} {n : Nat} (hn : n ≤ 3) (hp : 2 ≤ p) {f : List (Int × Int)} (hf : f.length ≤ 90) : OkPow p n [(0, 1)] f n ∧ (powF p n [(0, 1)] f n).length ≤ 1000000 := by
  by_cases h0 : n = 0
  · subst h0
    exact ⟨trivial, by show 1 ≤ 1000000; decide⟩
  have fl := Nat.le_trans (frob_len p f) hf
  by_cases hl : (n : Int) < p
  · have z := okMul_3 (p := p) (f := f) hf (n := n) (t := [(0, 1)]) (by
      show 1 * 90 ^ n ≤ 1000000
      rw [Nat.one_mul]
      exact Nat.le_trans (Nat.pow_le_pow_right (by omega) hn) (by decide))
    rw [powF_low hl (by omega)]
    exact ⟨okPow_low hl (by omega) z.1, z.2⟩
  obtain ⟨rfl, rfl⟩ | ⟨rfl, rfl⟩ | ⟨rfl, rfl⟩ : (p = 2 ∧ n = 2) ∨ (p = 3 ∧ n = 3) ∨ (p = 2 ∧ n = 3) := by omega
  · have z := okMul_3 (p := 2) (f := frob 2 f) fl (n := 1) (t := [(0, 1)]) (by decide)
    refine ⟨?_, z.2⟩
    rw [show ((2 : Nat) : Int) = 2 from rfl]
    exact fun _ => ⟨trivial, fun _ _ => ⟨z.1, fun h => absurd h (by decide)⟩⟩
  · have z := okMul_3 (p := 3) (f := frob 3 f) fl (n := 1) (t := [(0, 1)]) (by decide)
    refine ⟨?_, z.2⟩
    rw [show ((3 : Nat) : Int) = 3 from rfl]
    exact fun _ => ⟨trivial, fun _ _ => ⟨z.1, fun h => absurd h (by decide)⟩⟩
  · have y := okMul_3 (p := 2) (f := f) hf (n := 1) (t := [(0, 1)]) (by decide)
    have z := okMul_3 (p := 2) (f := frob 2 f) fl (n := 1) (t := prodP 2 [(0, 1)] f) (by
      have := prodP_len 2 [(0, 1)] f
      rw [show [((0 : Int), (1 : Int))].length = 1 from rfl] at this
      omega)
    refine ⟨?_, z.2⟩
    rw [show ((3 : Nat) : Int) = 3 from rfl]
    exact fun _ => ⟨y.1, fun _ _ => ⟨z.1, fun h => absurd h (by decide)⟩⟩
end P2
end

section
namespace P2
open ClX
/-! rows in order -/
theorem ltI_irr : ∀ a : List Int, ltI a a = false
  | [] => rfl
  | x :: r => by
    show (decide (x < x) || (!decide (x < x) && ltI r r)) = false
    rw [ltI_irr r]
    simp
theorem ltI_total : ∀ a b : List Int, ltI a b = false → ltI b a = false → a = b
  | [], [], _, _ => rfl
  | [], _ :: _, h, _ => by cases h
  | _ :: _, [], _, h => by cases h
  | x :: r, y :: t, h, g => by
    simp only [ltI, Bool.or_eq_false_iff, Bool.and_eq_false_iff, decide_eq_false_iff_not, Bool.not_eq_false', decide_eq_true_eq] at h g
    have e : x = y := by omega
    subst e
    rw [ltI_total r t (by rcases h.2 with z | z; · omega
                          · exact z) (by rcases g.2 with z | z; · omega
                                         · exact z)]
theorem ltI_trans : ∀ a b c : List Int, ltI a b = true → ltI b c = true → ltI a c = true
  | [], [], _, h, _ => by cases h
  | _ :: _, [], _, h, _ => by cases h
  | [], _ :: _, [], _, h => by cases h
  | [], _ :: _, _ :: _, _, _ => rfl
  | _ :: _, _ :: _, [], _, h => by cases h
  | x :: r, y :: t, z :: u, h, g => by
    simp only [ltI, Bool.or_eq_true, Bool.and_eq_true, Bool.not_eq_true', decide_eq_false_iff_not, decide_eq_true_eq] at h g ⊢
    rcases h with h | ⟨h1, h2⟩
    · rcases g with g | ⟨g1, g2⟩
      · exact .inl (by omega)
      · exact .inl (by omega)
    · rcases g with g | ⟨g1, g2⟩
      · exact .inl (by omega)
      · exact .inr ⟨by omega, ltI_trans r t u h2 g2⟩
def Inc (ys : List (List Int)) : Prop := ys.Pairwise fun a b => ltI a b = true
theorem asc_inc {ys : List (List Int)} (h : Asc ys) (n : ys.Nodup) : Inc ys := by
  have z := List.Pairwise.and h n
  refine z.imp fun {a b} q => ?_
  cases e : ltI a b with
  | true => rfl
  | false => exact absurd (ltI_total a b e q.1) q.2
theorem inc_ext : ∀ {xs ys : List (List Int)}, Inc xs → Inc ys → (∀ a, a ∈ xs ↔ a ∈ ys) → xs = ys
  | [], [], _, _, _ => rfl
  | [], y :: ys, _, _, h => absurd ((h y).mpr List.mem_cons_self) (by simp)
  | x :: xs, [], _, _, h => absurd ((h x).mp List.mem_cons_self) (by simp)
  | x :: xs, y :: ys, h, g, k => by
    have h1 := List.pairwise_cons.mp h
    have g1 := List.pairwise_cons.mp g
    have e : x = y := by
      rcases List.mem_cons.mp ((k x).mp List.mem_cons_self) with e | e
      · exact e
      rcases List.mem_cons.mp ((k y).mpr List.mem_cons_self) with e2 | e2
      · exact e2.symm
      have := ltI_trans _ _ _ (h1.1 y e2) (g1.1 x e)
      rw [ltI_irr] at this
      cases this
    subst e
    rw [inc_ext h1.2 g1.2 fun a => ⟨fun m => ?_, fun m => ?_⟩]
    · rcases List.mem_cons.mp ((k a).mp (List.mem_cons_of_mem _ m)) with e | e
      · have := h1.1 a m
        rw [e, ltI_irr] at this
        cases this
      · exact e
    · rcases List.mem_cons.mp ((k a).mpr (List.mem_cons_of_mem _ m)) with e | e
      · have := g1.1 a m
        rw [e, ltI_irr] at this
        cases this
      · exact e
/-- the rows in order -/
def srt (ys : List (List Int)) : List (List Int) := ys.mergeSort fun a b => !ltI b a
theorem srt_perm (ys : List (List Int)) : (srt ys).Perm ys := List.mergeSort_perm _ _
theorem srt_asc (ys : List (List Int)) : Asc (srt ys) := by
  have z := List.pairwise_mergeSort (le := fun a b => !ltI b a) (fun a b c h g => by
    simp only [Bool.not_eq_true'] at h g ⊢
    cases e : ltI c a with
    | false => rfl
    | true =>
      cases e2 : ltI a b with
      | true =>
        have := ltI_trans _ _ _ e e2
        rw [g] at this
        cases this
      | false =>
        have := ltI_total a b e2 h
        rw [this, g] at e
        cases e) (fun a b => by
    cases e : ltI b a with
    | false => rfl
    | true =>
      cases e2 : ltI a b with
      | false => rfl
      | true =>
        have := ltI_trans _ _ _ e e2
        rw [ltI_irr] at this
        cases this) ys
  exact z.imp fun {a b} h => by simpa using h
/-- the terms that stand modulo p, rows ascending -/
def tid (p : Int) (ts : List (List Int × Int)) : List (List Int × Int) := tidyOf p ts (srt (ts.map (·.1)))
theorem tidy_is (p : Int) (ts : List (List Int × Int)) {ys : List (List Int)} (h : ys.Nodup) : tidyOf p ts ys = (ys.filter fun r => decide (cf ts r % p ≠ 0)).map fun r => (r, cf ts r % p) := by
  have e : ∀ ys : List (List Int), (ys.filterMap fun r => if cf ts r % p = 0 then none else some (r, cf ts r % p)) = (ys.filter fun r => decide (cf ts r % p ≠ 0)).map fun r => (r, cf ts r % p) := fun ys => by
    induction ys with
    | nil => rfl
    | cons r ys ih =>
      by_cases z : cf ts r % p = 0
      · rw [List.filterMap_cons_none (by rw [if_pos z]), List.filter_cons_of_neg (by simp [z]), ih]
      · rw [List.filterMap_cons_some (b := (r, cf ts r % p)) (by rw [if_neg z]), List.filter_cons_of_pos (by simp [z]), List.map_cons, ih]
  show foldI (fun r => if cf ts r % p = 0 then none else some (r, cf ts r % p)) ys = _
  rw [foldI_is, e]
  rw [e, List.map_map]
  show ((ys.filter _).map id).Nodup
  rw [List.map_id]
  exact h.filter _
/-- alike terms have one tidy form -/
theorem tidy_ext {p : Int} {A B : List (List Int × Int)} (hA : (A.map (·.1)).Nodup) (hB : (B.map (·.1)).Nodup) (h : ∀ r, cf A r % p = cf B r % p) {ya yb : List (List Int)} (pa : ya.Perm (A.map (·.1))) (aa : Asc ya) (pb : yb.Perm (B.map (·.1))) (ab : Asc yb) : tidyOf p A ya = tidyOf p B yb := by
  have na := pa.nodup_iff.mpr hA
  have nb := pb.nodup_iff.mpr hB
  rw [tidy_is p A na, tidy_is p B nb]
  have e : (ya.filter fun r => decide (cf A r % p ≠ 0)) = yb.filter fun r => decide (cf B r % p ≠ 0) := by
    refine inc_ext ((asc_inc aa na).filter _) ((asc_inc ab nb).filter _) fun a => ?_
    have out : ∀ {m : List (List Int × Int)}, cf m a % p ≠ 0 → a ∈ m.map (·.1) := fun {m} z => by
      refine Classical.byContradiction fun y => z ?_
      rw [cf_out y, Int.zero_emod]
    rw [List.mem_filter, List.mem_filter, decide_eq_true_iff, decide_eq_true_iff, h a]
    refine ⟨fun z => ⟨pb.mem_iff.mpr (out z.2), z.2⟩, fun z => ⟨pa.mem_iff.mpr (out (by rw [h a]; exact z.2)), z.2⟩⟩
  rw [e]
  exact List.map_congr_left fun r _ => by rw [h r]
theorem tidy_tid {p : Int} {A : List (List Int × Int)} (hA : (A.map (·.1)).Nodup) {ys : List (List Int)} (pa : ys.Perm (A.map (·.1))) (aa : Asc ys) : tidyOf p A ys = tid p A := tidy_ext hA hA (fun _ => rfl) pa aa (srt_perm _) (srt_asc _)
theorem tid_ext {p : Int} {A B : List (List Int × Int)} (hA : (A.map (·.1)).Nodup) (hB : (B.map (·.1)).Nodup) (h : Eqp p A B) : tid p A = tid p B := tidy_ext hA hB (fun r => by
  rw [cf_pr r hA, cf_pr r hB]
  exact (h _).emod) (srt_perm _) (srt_asc _) (srt_perm _) (srt_asc _)
theorem tid_nd {p : Int} {A : List (List Int × Int)} : ((tid p A).map (·.1)).Nodup := nodup_foldI _ _
theorem tid_in {p : Int} {A : List (List Int × Int)} (hA : (A.map (·.1)).Nodup) {q : List Int × Int} : q ∈ tid p A ↔ (q.1 ∈ A.map (·.1) ∧ cf A q.1 % p ≠ 0 ∧ q.2 = cf A q.1 % p) := by
  unfold tid
  rw [tidy_is p A ((srt_perm _).nodup_iff.mpr hA), List.mem_map]
  constructor
  · rintro ⟨r, h, rfl⟩
    have h := List.mem_filter.mp h
    exact ⟨(srt_perm _).mem_iff.mp h.1, of_decide_eq_true h.2, rfl⟩
  · rintro ⟨h1, h2, h3⟩
    refine ⟨q.1, List.mem_filter.mpr ⟨(srt_perm _).mem_iff.mpr h1, decide_eq_true h2⟩, ?_⟩
    rw [← h3]
theorem pr_perm {κ : Type} (φ : κ → Int) {m n : List (κ × Int)} (h : m.Perm n) : pr m φ = pr n φ := by
  induction h with
  | nil => rfl
  | cons q _ ih => rw [pr_cons, pr_cons, ih]
  | swap a b l =>
    rw [pr_cons, pr_cons, pr_cons, pr_cons]
    omega
  | trans _ _ i1 i2 => rw [i1, i2]
theorem tid_eqp {p : Int} {A : List (List Int × Int)} (hA : (A.map (·.1)).Nodup) : Eqp p (tid p A) A := by
  unfold tid
  rw [tidy_is p A ((srt_perm _).nodup_iff.mpr hA)]
  have h1 : ∀ (ys : List (List Int)) (φ : List Int → Int), Eqm p (pr ((ys.filter fun r => decide (cf A r % p ≠ 0)).map fun r => (r, cf A r % p)) φ) (pr (ys.map fun r => (r, cf A r)) φ) := fun ys φ => by
    induction ys with
    | nil => exact .rfl
    | cons r ys ih =>
      have m : Eqm p (cf A r % p * φ r) (cf A r * φ r) := by
        rw [Int.mul_comm, Int.mul_comm (cf A r)]
        exact Eqm.mod.mul _
      by_cases z : cf A r % p = 0
      · rw [List.filter_cons_of_neg (by simp [z]), List.map_cons, pr_cons]
        rw [z] at m
        have := m.add ih
        rw [Int.zero_mul, Int.zero_add] at this
        exact this
      · rw [List.filter_cons_of_pos (by simp [z]), List.map_cons, List.map_cons, pr_cons, pr_cons]
        exact m.add ih
  have h2 : ∀ (m : List (List Int × Int)), (m.map (·.1)).Nodup → (m.map fun q => (q.1, cf m q.1)) = m := fun m hm => by
    induction m with
    | nil => rfl
    | cons q m ih =>
      rw [List.map_cons, List.nodup_cons] at hm
      rw [List.map_cons, cf_cons, if_pos rfl]
      congr 1
      refine (List.map_congr_left fun u hu => ?_).trans (ih hm.2)
      rw [cf_cons, if_neg]
      intro e
      exact hm.1 (List.mem_map.mpr ⟨u, hu, e.symm⟩)
  intro φ
  refine (h1 _ φ).trans (.of ?_)
  have pp : (((srt (A.map (·.1))).map fun r => (r, cf A r))).Perm A := by
    refine ((srt_perm _).map _).trans ?_
    rw [List.map_map]
    exact .of_eq (h2 A hA)
  exact pr_perm φ pp
end P2
end

section
namespace P2
open ClX
def addR (a b : List Int) : List Int := List.zipWith (fun x y => x + y) a b
theorem addR_len {a b : List Int} {k : Nat} (h : a.length = k) (g : b.length = k) : (addR a b).length = k := by
  unfold addR
  rw [List.length_zipWith, h, g, Nat.min_self]
theorem addR_nn : ∀ {a b : List Int}, (∀ e ∈ a, 0 ≤ e) → (∀ e ∈ b, 0 ≤ e) → ∀ e ∈ addR a b, 0 ≤ e
  | [], _, _, _, _, h => by cases h
  | _ :: _, [], _, _, _, h => by cases h
  | x :: a, y :: b, h, g, e, he => by
    rcases List.mem_cons.mp (show e ∈ (x + y) :: addR a b from he) with rfl | he
    · have := h x List.mem_cons_self
      have := g y List.mem_cons_self
      omega
    · exact addR_nn (fun e h2 => h e (List.mem_cons_of_mem _ h2)) (fun e h2 => g e (List.mem_cons_of_mem _ h2)) e he
theorem addR_sum : ∀ {a b : List Int}, a.length = b.length → (addR a b).sum = a.sum + b.sum
  | [], [], _ => rfl
  | [], _ :: _, h => by cases h
  | _ :: _, [], h => by cases h
  | x :: a, y :: b, h => by
    show ((x + y) :: addR a b).sum = _
    rw [List.sum_cons, List.sum_cons, List.sum_cons, addR_sum (Nat.succ.inj h)]
    omega
theorem packF_add : ∀ {a b : List Int} (u v : Int), a.length = b.length → (addR a b).foldl (fun w e => w * 2 ^ 7 + e) (u + v) = a.foldl (fun w e => w * 2 ^ 7 + e) u + b.foldl (fun w e => w * 2 ^ 7 + e) v
  | [], [], _, _, _ => rfl
  | [], _ :: _, _, _, h => by cases h
  | _ :: _, [], _, _, h => by cases h
  | x :: a, y :: b, u, v, h => by
    show (addR a b).foldl _ ((u + v) * 2 ^ 7 + (x + y)) = a.foldl _ (u * 2 ^ 7 + x) + b.foldl _ (v * 2 ^ 7 + y)
    rw [show (u + v) * 2 ^ 7 + (x + y) = (u * 2 ^ 7 + x) + (v * 2 ^ 7 + y) by omega]
    exact packF_add _ _ (Nat.succ.inj h)
theorem packR_add {a b : List Int} (h : a.length = b.length) : packR (addR a b) = packR a + packR b := packF_add 0 0 h
theorem unpack_succ (x : Int) (n : Nat) : unpackR x (n + 1) = unpackR (x / 2 ^ 7) n ++ [x % 2 ^ 7] := by
  unfold unpackR
  rw [List.range_succ, List.map_append]
  congr 1
  · refine List.map_congr_left fun s hs => ?_
    have h := List.mem_range.mp hs
    rw [Int.ediv_ediv_of_nonneg (by decide), show 7 * (n + 1 - 1 - s) = 7 + 7 * (n - 1 - s) by omega, Int.pow_add]
  · show [x / 2 ^ (7 * (n + 1 - 1 - n)) % 2 ^ 7] = _
    rw [show 7 * (n + 1 - 1 - n) = 0 by omega, Int.pow_zero, Int.ediv_one]
theorem unpack_pack : ∀ (n : Nat) {r : List Int}, r.length = n → Exps r → unpackR (packR r) n = r
  | 0, r, h, _ => by
    rw [List.length_eq_zero_iff.mp h]
    rfl
  | n + 1, r, h, e => by
    have hne : r ≠ [] := fun z => by
      rw [z] at h
      cases h
    have d := List.dropLast_concat_getLast hne
    have e1 := e (r.getLast hne) (List.getLast_mem hne)
    rw [unpack_succ]
    conv => lhs; rw [← d]
    rw [packR_snoc, show (packR r.dropLast * 2 ^ 7 + r.getLast hne) / 2 ^ 7 = packR r.dropLast by omega, show (packR r.dropLast * 2 ^ 7 + r.getLast hne) % 2 ^ 7 = r.getLast hne by omega, unpack_pack n (by rw [List.length_dropLast, h]; rfl) fun x hx => e x (List.dropLast_subset _ hx), d]
/-- a row's number -/
def RowN (k : Nat) (d : Int) (x : Int) : Prop := ∃ r, x = packR r ∧ r.length = k ∧ (∀ e ∈ r, 0 ≤ e) ∧ r.sum ≤ d
theorem exps_of {r : List Int} (h : ∀ e ∈ r, 0 ≤ e) (s : r.sum ≤ 120) : Exps r := fun e he => by
  have z := (le_sum h).1 e he
  exact ⟨h e he, by show e < 128; omega⟩
theorem RowN.add {k : Nat} {d d' x y : Int} (h : RowN k d x) (g : RowN k d' y) : RowN k (d + d') (x + y) := by
  obtain ⟨r, rfl, a1, a2, a3⟩ := h
  obtain ⟨s, rfl, b1, b2, b3⟩ := g
  refine ⟨addR r s, (packR_add (by rw [a1, b1])).symm, addR_len a1 b1, addR_nn a2 b2, ?_⟩
  rw [addR_sum (by rw [a1, b1])]
  omega
theorem RowN.le {k : Nat} {d d' x : Int} (h : RowN k d x) (l : d ≤ d') : RowN k d' x := let ⟨r, a, b, c, e⟩ := h; ⟨r, a, b, c, by omega⟩
theorem nodup_inj {α β : Type} {f : α → β} : ∀ {l : List α}, (∀ x ∈ l, ∀ y ∈ l, f x = f y → x = y) → l.Nodup → (l.map f).Nodup
  | [], _, _ => List.nodup_nil
  | x :: l, h, n => by
    rw [List.nodup_cons] at n
    rw [List.map_cons, List.nodup_cons]
    refine ⟨fun z => ?_, nodup_inj (fun a ha b hb => h a (List.mem_cons_of_mem _ ha) b (List.mem_cons_of_mem _ hb)) n.2⟩
    obtain ⟨y, hy, e⟩ := List.mem_map.mp z
    rw [h y (List.mem_cons_of_mem _ hy) x List.mem_cons_self e] at hy
    exact n.1 hy
theorem pack_is {k : Nat} {A : List (List Int × Int)} (n : (A.map (·.1)).Nodup) (h : RowsOk k A) : packOf A = A.map fun q => (packR q.1, q.2) := by
  refine foldA_is _ ?_
  show (A.map fun q => packR q.1).Nodup
  have e : (A.map fun q => packR q.1) = (A.map (·.1)).map packR := by rw [List.map_map]; rfl
  rw [e]
  refine nodup_inj (fun x hx y hy e => ?_) n
  obtain ⟨a, ha, rfl⟩ := List.mem_map.mp hx
  obtain ⟨b, hb, rfl⟩ := List.mem_map.mp hy
  have ea := unpack_pack k (h a ha).1 (exps_of (h a ha).2.1 (h a ha).2.2)
  have eb := unpack_pack k (h b hb).1 (exps_of (h b hb).2.1 (h b hb).2.2)
  rw [← ea, ← eb, e]
theorem pack_pr {k : Nat} {A : List (List Int × Int)} (n : (A.map (·.1)).Nodup) (h : RowsOk k A) (ψ : Int → Int) : pr (packOf A) ψ = pr A fun r => ψ (packR r) := by
  rw [pack_is n h]
  exact pr_map packR ψ A
theorem pack_nd (A : List (List Int × Int)) : ((packOf A).map (·.1)).Nodup := nodup_foldA _ _
theorem pack_keys {k : Nat} {d : Int} {A : List (List Int × Int)} (n : (A.map (·.1)).Nodup) (h : RowsOk k A) (hd : ∀ q ∈ A, q.1.sum ≤ d) : Keys (RowN k d) (packOf A) := by
  rw [pack_is n h]
  intro q hq
  obtain ⟨r, hr, rfl⟩ := List.mem_map.mp hq
  exact ⟨r.1, rfl, (h r hr).1, (h r hr).2.1, hd r hr⟩
theorem pack_len (A : List (List Int × Int)) : (packOf A).length ≤ A.length := foldA_le _ _
theorem terms_is {k : Nat} {m : List (Int × Int)} (n : (m.map (·.1)).Nodup) (h : Keys (RowN k 120) m) : termsOf m k = m.map fun q => (unpackR q.1 k, q.2) := by
  refine foldA_is _ ?_
  show (m.map fun q => unpackR q.1 k).Nodup
  have e : (m.map fun q => unpackR q.1 k) = (m.map (·.1)).map fun x => unpackR x k := by rw [List.map_map]; rfl
  rw [e]
  refine nodup_inj (fun x hx y hy e => ?_) n
  obtain ⟨a, ha, rfl⟩ := List.mem_map.mp hx
  obtain ⟨b, hb, rfl⟩ := List.mem_map.mp hy
  obtain ⟨r, ea, l1, n1, s1⟩ := h a ha
  obtain ⟨s, eb, l2, n2, s2⟩ := h b hb
  simp only [ea, eb, unpack_pack k l1 (exps_of n1 s1), unpack_pack k l2 (exps_of n2 s2)] at e ⊢
  rw [e]
theorem terms_nd (m : List (Int × Int)) (k : Nat) : ((termsOf m k).map (·.1)).Nodup := nodup_foldA _ _
theorem terms_rows {k : Nat} {m : List (Int × Int)} (n : (m.map (·.1)).Nodup) (h : Keys (RowN k 120) m) : RowsOk k (termsOf m k) := by
  rw [terms_is n h]
  intro q hq
  obtain ⟨a, ha, rfl⟩ := List.mem_map.mp hq
  obtain ⟨r, ea, l1, n1, s1⟩ := h a ha
  show (unpackR a.1 k).length = k ∧ (∀ e ∈ unpackR a.1 k, 0 ≤ e) ∧ (unpackR a.1 k).sum ≤ 120
  rw [ea, unpack_pack k l1 (exps_of n1 s1)]
  exact ⟨l1, n1, s1⟩
theorem terms_pr {k : Nat} {m : List (Int × Int)} (n : (m.map (·.1)).Nodup) (h : Keys (RowN k 120) m) (φ : List Int → Int) : pr (termsOf m k) φ = pr m fun x => φ (unpackR x k) := by
  rw [terms_is n h]
  exact pr_map (fun x => unpackR x k) φ m
/-! sums, products, powers against the law's own -/
theorem sum_tid {p : Int} {k : Nat} {A B C : List (List Int × Int)} (nA : (A.map (·.1)).Nodup) (nB : (B.map (·.1)).Nodup) (nC : (C.map (·.1)).Nodup) (rA : RowsOk k A) (rB : RowsOk k B) (h : ∀ φ, Eqm p (pr C φ) (pr A φ + pr B φ)) : RowsOk k (termsOf (sumP p (packOf A) (packOf B)) k) ∧ tid p (termsOf (sumP p (packOf A) (packOf B)) k) = tid p C := by
  have kk : Keys (RowN k 120) (sumP p (packOf A) (packOf B)) := sumP_keys (pack_nd A) (pack_keys nA rA fun q hq => (rA q hq).2.2) (pack_keys nB rB fun q hq => (rB q hq).2.2)
  refine ⟨terms_rows (sumP_nd ..) kk, tid_ext (terms_nd ..) nC fun φ => ?_⟩
  rw [terms_pr (sumP_nd ..) kk]
  refine (sumP_eqp p (pack_nd A) _).trans (.trans (.of ?_) (h φ).symm)
  rw [pr_app, pack_pr nA rA, pack_pr nB rB]
  congr 1
  · exact pr_congr fun q hq => by rw [unpack_pack k (rA q hq).1 (exps_of (rA q hq).2.1 (rA q hq).2.2)]
  · exact pr_congr fun q hq => by rw [unpack_pack k (rB q hq).1 (exps_of (rB q hq).2.1 (rB q hq).2.2)]
theorem prod_tid {p d e : Int} {k : Nat} {A B C : List (List Int × Int)} (nA : (A.map (·.1)).Nodup) (nB : (B.map (·.1)).Nodup) (nC : (C.map (·.1)).Nodup) (rA : RowsOk k A) (rB : RowsOk k B) (dA : ∀ q ∈ A, q.1.sum ≤ d) (dB : ∀ q ∈ B, q.1.sum ≤ e) (de : d + e ≤ 120) (h : ∀ φ, Eqm p (pr C φ) (pr A fun a => pr B fun b => φ (addR a b))) : RowsOk k (termsOf (prodP p (packOf A) (packOf B)) k) ∧ tid p (termsOf (prodP p (packOf A) (packOf B)) k) = tid p C := by
  have kk : Keys (RowN k 120) (prodP p (packOf A) (packOf B)) := prodP_keys fun x hx y hy => ((pack_keys nA rA dA x hx).add (pack_keys nB rB dB y hy)).le de
  refine ⟨terms_rows (prodP_nd ..) kk, tid_ext (terms_nd ..) nC fun φ => ?_⟩
  rw [terms_pr (prodP_nd ..) kk]
  refine (prodP_pr p _ _ _).trans (.trans (.of ?_) (h φ).symm)
  rw [pack_pr nA rA]
  refine pr_congr fun a ha => ?_
  rw [pack_pr nB rB]
  refine pr_congr fun b hb => ?_
  have l : a.1.length = b.1.length := by rw [(rA a ha).1, (rB b hb).1]
  rw [← packR_add l, unpack_pack k (addR_len (rA a ha).1 (rB b hb).1) (exps_of (addR_nn (rA a ha).2.1 (rB b hb).2.1) ?_)]
  rw [addR_sum l]
  have := dA a ha
  have := dB b hb
  omega
/-- the law's own power, as it acts -/
def pwR (A : List (List Int × Int)) (k : Nat) : Nat → (List Int → Int) → Int
  | 0, φ => φ (List.replicate k 0)
  | n + 1, φ => pwR A k n fun a => pr A fun b => φ (addR a b)
theorem pack_zeros (k : Nat) : packR (List.replicate k 0) = 0 := by
  induction k with
  | zero => rfl
  | succ k ih => rw [List.replicate_succ', packR_snoc, ih]; rfl
theorem zeros_sum (k : Nat) : (List.replicate k (0 : Int)).sum = 0 := by
  induction k with
  | zero => rfl
  | succ k ih => rw [List.replicate_succ, List.sum_cons, ih]; rfl
theorem pwR_congr {A : List (List Int × Int)} {k : Nat} {d : Int} (rA : RowsOk k A) (dA : ∀ q ∈ A, q.1.sum ≤ d) : ∀ {n : Nat} {φ φ' : List Int → Int}, (∀ r, r.length = k → (∀ e ∈ r, 0 ≤ e) → r.sum ≤ n * d → φ r = φ' r) → pwR A k n φ = pwR A k n φ'
  | 0, _, _, h => h _ List.length_replicate (fun e he => by rw [(List.mem_replicate.mp he).2]; decide) (by rw [zeros_sum]; omega)
  | n + 1, _, _, h => pwR_congr rA dA (n := n) fun r h1 h2 h3 => pr_congr fun b hb => h _ (addR_len h1 (rA b hb).1) (addR_nn h2 (rA b hb).2.1) (by
    rw [addR_sum (by rw [h1, (rA b hb).1]), Int.natCast_add, Int.add_mul]
    have := dA b hb
    omega)
theorem pwR_pw {A : List (List Int × Int)} {k : Nat} (nA : (A.map (·.1)).Nodup) (rA : RowsOk k A) : ∀ (n : Nat) (ψ : Int → Int), pwR A k n (fun r => ψ (packR r)) = pw (packOf A) n ψ
  | 0, ψ => by
    show ψ (packR (List.replicate k 0)) = ψ 0
    rw [pack_zeros]
  | n + 1, ψ => by
    show pwR A k n (fun a => pr A fun b => ψ (packR (addR a b))) = pr (packOf A) fun x => pw (packOf A) n fun y => ψ (x + y)
    rw [← pw_pr (packOf A) (packOf A) n (fun y x => ψ (x + y)), ← pwR_pw nA rA n]
    refine pwR_congr rA (d := 120) (fun q hq => (rA q hq).2.2) fun r h1 _ _ => ?_
    rw [pack_pr nA rA]
    exact pr_congr fun b hb => by rw [packR_add (by rw [h1, (rA b hb).1]), Int.add_comm]
theorem sums_row {k : Nat} {d : Int} {f : List (Int × Int)} (h : Keys (RowN k d) f) (h0 : RowN k 0 0) : ∀ {n : Nat} {x : Int}, Sums f n x → RowN k (n * d) x
  | 0, x, e => by
    rw [show x = 0 from e]
    exact h0.le (by omega)
  | n + 1, x, ⟨q, hq, y, hy, e⟩ => by
    rw [e]
    refine ((sums_row h h0 hy).add (h q hq)).le ?_
    rw [Int.natCast_add, Int.add_mul]
    omega
theorem pow_tid {p d : Int} {k n : Nat} {A C : List (List Int × Int)} (hp : 2 ≤ p) (hn : n ≤ 3) (nA : (A.map (·.1)).Nodup) (nC : (C.map (·.1)).Nodup) (rA : RowsOk k A) (dA : ∀ q ∈ A, q.1.sum ≤ d) (de : n * d ≤ 120) (h : ∀ φ, Eqm p (pr C φ) (pwR A k n φ)) : RowsOk k (termsOf (powF p n [(0, 1)] (packOf A) n) k) ∧ tid p (termsOf (powF p n [(0, 1)] (packOf A) n) k) = tid p C := by
  have h0 : RowN k 0 0 := ⟨List.replicate k 0, (pack_zeros k).symm, List.length_replicate, (fun e he => by rw [(List.mem_replicate.mp he).2]; decide), by rw [zeros_sum]; decide⟩
  have kk : Keys (RowN k 120) (powF p n [(0, 1)] (packOf A) n) := fun q hq => (sums_row (pack_keys nA rA dA) h0 (pow_keys hn hp (pack_nd A) q hq)).le de
  refine ⟨terms_rows (pow_nd hn hp _) kk, tid_ext (terms_nd ..) nC fun φ => ?_⟩
  rw [terms_pr (pow_nd hn hp _) kk]
  refine (pow_pr hp hn (pack_nd A) _).trans (.trans (.of ?_) (h φ).symm)
  rw [← pwR_pw nA rA]
  refine pwR_congr rA dA fun r h1 h2 h3 => ?_
  rw [unpack_pack k h1 (exps_of h2 (by omega))]
end P2
end

section
set_option maxRecDepth 100000
set_option maxHeartbeats 2000000
namespace P2
open PySem L2 ClX
/-- what a row hashes to -/
def rowHash (r : List Int) : Int := reduceHash (Builtin.Tuple.tupleHashOf (r.map fun i => hashInt i))
theorem hash_row (P : Program) (w : World) (r : List Int) : (tupleKind (mixKind P w)).hash (rowK r) = rowHash r := by
  show reduceHash (Builtin.Tuple.tupleHashOf ((rowK r).map (mixKind P w).hash)) = _
  unfold rowK rowHash
  rw [List.map_map]
  rfl
def rows4 (n : Nat) : List (List Int) := (List.range 5).flatMap (rowsL n)
theorem rows4_apart : ∀ n, n < 5 → ((rows4 n).map rowHash).Nodup := by decide +kernel
theorem inj_of_nodup {α β : Type} {f : α → β} : ∀ {l : List α}, (l.map f).Nodup → ∀ x ∈ l, ∀ y ∈ l, f x = f y → x = y
  | [], _, _, h, _, _, _ => by cases h
  | a :: l, n, x, hx, y, hy, e => by
    rw [List.map_cons, List.nodup_cons] at n
    rcases List.mem_cons.mp hx with ex | hx <;> rcases List.mem_cons.mp hy with ey | hy
    · rw [ex, ey]
    · exact absurd (List.mem_map.mpr ⟨y, hy, by rw [← e, ex]⟩) n.1
    · exact absurd (List.mem_map.mpr ⟨x, hx, by rw [e, ey]⟩) n.1
    · exact inj_of_nodup n.2 x hx y hy e
/-- rows of small sums -/
def Four (n : Nat) (ts : List (List Int × Int)) : Prop := ∀ q ∈ ts, q.1 ∈ rows4 n
theorem four_apart {P : Program} {w : World} {n : Nat} (hn : n < 5) {ts : List (List Int × Int)} (nd : (ts.map (·.1)).Nodup) (h : Four n ts) : ((rK ts).map fun x => (tupleKind (mixKind P w)).hash x.1).Nodup := by
  have e : ((rK ts).map fun x => (tupleKind (mixKind P w)).hash x.1) = (ts.map (·.1)).map rowHash := by
    unfold rK asK
    rw [List.map_map, List.map_map]
    exact List.map_congr_left fun q _ => hash_row P w q.1
  rw [e]
  refine nodup_inj (fun x hx y hy z => ?_) nd
  obtain ⟨a, ha, rfl⟩ := List.mem_map.mp hx
  obtain ⟨b, hb, rfl⟩ := List.mem_map.mp hy
  exact inj_of_nodup (rows4_apart n hn) _ (h a ha) _ (h b hb) z
theorem four_row {n : Nat} (hn : n < 5) {r : List Int} (h : r ∈ rows4 n) : r.length = n ∧ (∀ e ∈ r, 0 ≤ e) ∧ 0 ≤ r.sum ∧ r.sum ≤ 4 := by
  obtain ⟨t, ht, hr⟩ := List.mem_flatMap.mp h
  have t5 := List.mem_range.mp ht
  obtain ⟨a, b, c⟩ := rows_facts n hn t t5 r hr
  exact ⟨a, b, by omega, by omega⟩
end P2
end

section
set_option maxRecDepth 100000
set_option maxHeartbeats 2000000
namespace P2
open PySem L2 ClX
/-- one, and two so many times -/
def addL (A B : List (List Int × Int)) (c : Int) : List (List Int × Int) := B.foldl (fun m q => addA m q.1 (c * q.2)) A
theorem addL_nd {A : List (List Int × Int)} (B : List (List Int × Int)) (c : Int) (h : (A.map (·.1)).Nodup) : ((addL A B c).map (·.1)).Nodup := nodup_addF (fun q : List Int × Int => (q.1, c * q.2)) B h
theorem addL_four {n : Nat} {A B : List (List Int × Int)} {c : Int} (h : Four n A) (g : Four n B) : Four n (addL A B c) := keys_addF (Φ := fun r => r ∈ rows4 n) (fun q : List Int × Int => (q.1, c * q.2)) B h g
theorem addL_len (B : List (List Int × Int)) (c : Int) : ∀ A : List (List Int × Int), (addL A B c).length ≤ A.length + B.length := by
  induction B with
  | nil => exact fun A => Nat.le_refl _
  | cons q B ih =>
    intro A
    have h1 := ih (addA A q.1 (c * q.2))
    have h2 := addA_len A q.1 (c * q.2)
    show (addL (addA A q.1 (c * q.2)) B c).length ≤ _
    rw [List.length_cons]
    omega
theorem addL_pr {A : List (List Int × Int)} (B : List (List Int × Int)) (c : Int) (h : (A.map (·.1)).Nodup) (φ : List Int → Int) : pr (addL A B c) φ = pr A φ + c * pr B φ := by
  unfold addL
  rw [pr_fold (fun q : List Int × Int => (q.1, c * q.2)) φ B h]
  congr 1
  rw [← pr_scale]
  congr 1
  exact List.map_congr_left fun q _ => by rw [Int.mul_comm]
theorem four_ne {n : Nat} (h1 : 1 ≤ n) (hn : n < 5) {ts : List (List Int × Int)} (h : Four n ts) : ∀ q ∈ ts, q.1 ≠ [] := fun q hq e => by
  have z := (four_row hn (h q hq)).1
  rw [e] at z
  exact absurd z (by show (0 : Nat) ≠ n; omega)
theorem cmul60 {x : Int} (y : Int) (a : -(2 ^ 60) < x) (b : x < 2 ^ 60) : CMul x y := .inl ⟨by omega, by omega⟩
section
variable {P : Program} {w : World} {K : PySem.W.Frag} {mg : Str → Option Value} {base : Heap} {bp C B M N : Addr}
def spAdded (n : Nat) : Sp := fun vs H Q _ => ∃ (p c : Int) (a b : Addr) (A B : List (List Int × Int)), vs = [.int p, .ref a, .ref b, .int c] ∧ 0 < p ∧ H a = some (.dT (rK A)) ∧ H b = some (.dT (rK B)) ∧ (A.map (·.1)).Nodup ∧ (B.map (·.1)).Nodup ∧ Four n A ∧ Four n B ∧ A.length ≤ 1000 ∧ B.length ≤ 1000 ∧ -(2 ^ 60) < c ∧ c < 2 ^ 60 ∧
  ∀ D H', Same H H' → H D = none → H' D = some (.dT (rK (tid p (addL A B c)))) → Q (.ref D) H'
abbrev NAD : List Str := ["field", "one", "two", "many_here", "found", "row"]
theorem sc45 : FnScope NAD ["field", "one", "two", "many_here"] (defScope (top 45)) := ⟨rfl, rfl, rfl, by decide +kernel, rfl, by decide +kernel, by decide +kernel⟩
theorem ok_added {n : Nat} (n1 : 1 ≤ n) (n5 : n < 5) {f fT : Addr} {fd dT : FuncData} (F : Fun K "_law_added" "_law_added" (top 45) f fd) (hdict : mg "dict" = none)
    (GT : FnOk P w K mg base CX0 1 fT dT ["field", "terms_here"] spTidied) (kT : PySem.W.keepIn K (.ref fT) = true) (bT : Binds K dT ["field", "terms_here"] []) (gT : mg "_law_tidied" = some (.ref fT)) :
    FnOk P w K mg base CX0 2 f fd ["field", "one", "two", "many_here"] (spAdded n) := by
  refine F.ok sc45 (fun vs H Q E h => ?_) (fun cdv A outer s H vs Q E hr h => ?_)
  · obtain ⟨p, c, a, b, A, B, rfl, _⟩ := h
    rfl
  · obtain ⟨p, c, a, b, m1, m2, rfl, hp, ha, hb, hn1, hn2, h41, h42, hz1, hz2, c1, c2, k⟩ := h
    have hu := hu_of hr
    have hu2 : (cxOf CX0 P w K mg base NAD "_law_added" (defScope (top 45)) f cdv A outer s H E).nox.A.in1.units + 1 < cLine := Nat.lt_of_le_of_lt (Nat.add_le_add_left (by decide : 2 ≤ 64) _) hr.units
    refine ⟨_, pss_cons (ps_set (i := 4) sc45.nd rfl (Or.inl rfl) (pe_callTy (r := rDictT P w) (call_dictT hu2) (by rfl) hdict (by decide +kernel) (pa_cons (pv 1) pa_nil)))
      (pss_cons (ps_lock (ps_for PassesOwn.never rfl (pi_keys (pv 2)) (pg_name (i := 5) sc45.nd rfl (Or.inl rfl)) (pss_one (ps_dput hu (pv 4) (pv 5) (pe_op op_add (pe_dget2 hu (pv 4) (pv 5) pe_int ⟨rfl, rfl, rfl, rfl⟩) (pe_op op_mul (pv 3) (pe_dget hu (pv 2) (pv 5) (fun _ _ => rfl)))) rfl))))
      (pss_one (ps_ret (pe_call GT hr rfl gT kT bT .nil pass0 (pa_cons (pv 0) (pa_cons (pv 4) pa_nil)))))), ?_⟩
    refine ⟨_, rfl, a, _, rfl, ha, four_apart n5 hn1 h41, fun D hDH => ?_⟩
    have S2 : Same H (upd H D (.dT (rK m1))) := (Same.refl _).put hDH
    have hD2 : upd H D (.dT (rK m1)) D = some (.dT (rK m1)) := upd_same
    have hDb : D ≠ b := fun z => by rw [z, hb] at hDH; cases hDH
    generalize upd H D (.dT (rK m1)) = H2 at S2 hD2
    have hb2 := S2 _ _ hb
    refine ⟨b, _, hb2, trivial, fun od2 => ?_⟩
    have hf2 : upd H2 b (.frz od2 (.dT (rK m2))) b = some (.frz od2 (.dT (rK m2))) := upd_same
    refine ⟨_, rfl, b, od2, rfl, .inr ⟨_, hf2, for_it walk_keysT (fun i σ H' => (∃ e, σ = [some (.int p), some (.ref a), some (.ref b), some (.int c), some (.ref D), e]) ∧ SameX D (upd H2 b (.frz od2 (.dT (rK m2)))) H' ∧ H' D = some (.dT (rK (addL m1 (m2.take i) c)))) ⟨⟨none, rfl⟩, fun _ _ e _ => e, by rw [upd_ne hDb]; exact hD2⟩ (fun i σ H' _ h => h.2.1 _ _ hf2 (Ne.symm hDb)) ?_ ?_⟩⟩
    · rintro i x σ H3 H4 hi ⟨⟨e, rfl⟩, S3, hL3⟩ ⟨rfl, kk, v, q, hkv, rfl, hq⟩
      obtain ⟨r, z, hm, rfl, rfl⟩ := asK_get hkv
      have g1 : DGet H4 D (.ref q) (valV (rK (addL m1 (m2.take i) c)) (rowK r)) := .inr ⟨_, _, q, .inl hL3, rfl, hq, rfl⟩
      have g2 : DGet H4 b (.ref q) (some (V.int z)) := .inr ⟨_, _, q, .inr ⟨od2, S3 _ _ hf2 (Ne.symm hDb)⟩, rfl, hq, by rw [valV_asK rowK_inj, getA_at hn2 hm]; rfl⟩
      rw [valV_asK rowK_inj] at g1
      refine ⟨_, rfl, D, rfl, .inr ⟨_, .inl hL3⟩, _, rfl, _, g1, _, rfl, _, rfl, _, rfl, b, V.int z, rfl, g2, c, z, rfl, rfl, cmul60 z c1 c2, _, _, getD_int _ _, rfl, _, rfl, _, rfl, D, _, rfl, DPut.t hL3 hq ?_, ⟨_, rfl⟩, fun z o e ne => by rw [upd_ne ne]; exact S3 z o e ne, ?_⟩
      · rw [asK_len]
        have h5 := addL_len (m2.take i) c m1
        have h7 : (m2.take i).length ≤ m2.length := by rw [List.length_take]; omega
        have h8 : (1000000 : Nat) < sizeLine := by decide
        omega
      · rw [upd_same, putK_asK rowK_inj, List.take_succ, hm]
        unfold addL
        rw [List.foldl_append]
        rfl
    · rintro σ H' ⟨⟨e, rfl⟩, S3, hL3⟩
      rw [asK_len, List.take_length] at hL3
      have hb3 := S3 _ _ hf2 (Ne.symm hDb)
      refine ⟨hb3, ?_⟩
      have S4 : Same H (upd H' b (.dT (rK m2))) := fun z o e => by
        by_cases hz2 : z = b
        · subst hz2
          rw [hb] at e
          cases e
          exact upd_same
        · rw [upd_ne hz2]
          exact S3 _ _ (by rw [upd_ne hz2]; exact S2 _ _ e) (fun y => by rw [y, hDH] at e; cases e)
      have hD4 := lock_at (u := .dT (rK m2)) hDb hL3
      generalize upd H' b (.dT (rK m2)) = H5 at S4 hD4
      have h5 := addL_len m2 c m1
      refine ⟨_, rfl, _, rfl, p, D, _, rfl, hp, hD4, addL_nd _ _ hn1, four_ne n1 n5 (addL_four h41 h42), by omega, fun D2 H6 ys pm ac S6 nq hq => k D2 H6 (S4.trans S6) (S4.free nq) ?_⟩
      rw [← tidy_tid (addL_nd _ _ hn1) pm ac]
      exact hq
end
end P2
end

section
set_option maxRecDepth 100000
set_option maxHeartbeats 2000000
namespace P2
open PySem L2 ClX
theorem walk_zipT {K : PySem.W.Frag} {a b : Addr} {xs ys : List V} {n : Nat} (hn : n = min xs.length ys.length) : Walk (RZ.ItzT K a b) n (fun H => SqT K H a xs ∧ SqT K H b ys) (YPair (fun i => xs[i]?) (fun i => ys[i]?)) := by
  subst hn
  refine ⟨fun i _ hi q => ?_, fun _ q => ⟨xs, ys, q.1, q.2, by omega⟩, fun i H v H' _ q y => ?_⟩
  · have h1 : i < xs.length := by omega
    have h2 : i < ys.length := by omega
    exact ⟨xs, ys, xs[i], ys[i], q.1, q.2, by simp [h1], by simp [h2]⟩
  · obtain ⟨T, x, z, h1, h2, h3, h4, h5⟩ := y
    exact ⟨T, x, z, h1, h2, h3, h4 xs q.1, h5 ys q.2⟩
/-- one term times all of B, added -/
def rowM (q : List Int × Int) (B m : List (List Int × Int)) : List (List Int × Int) := B.foldl (fun m g => addA m (addR q.1 g.1) (q.2 * g.2)) m
def mulL (A B : List (List Int × Int)) : List (List Int × Int) := A.foldl (fun m q => rowM q B m) []
theorem rowM_nd (q : List Int × Int) (B : List (List Int × Int)) {m : List (List Int × Int)} (h : (m.map (·.1)).Nodup) : ((rowM q B m).map (·.1)).Nodup := nodup_addF (fun g : List Int × Int => (addR q.1 g.1, q.2 * g.2)) B h
theorem rowM_pr (q : List Int × Int) (B : List (List Int × Int)) {m : List (List Int × Int)} (h : (m.map (·.1)).Nodup) (φ : List Int → Int) : pr (rowM q B m) φ = pr m φ + q.2 * pr B fun b => φ (addR q.1 b) := by
  unfold rowM
  rw [pr_fold (fun g : List Int × Int => (addR q.1 g.1, q.2 * g.2)) φ B h]
  congr 1
  clear h
  induction B with
  | nil =>
    show (0 : Int) = q.2 * 0
    omega
  | cons g B ih => rw [List.map_cons, pr_cons, pr_cons, ih, Int.mul_add, Int.mul_assoc]
theorem mulF_nd (B : List (List Int × Int)) : ∀ (A : List (List Int × Int)) {m : List (List Int × Int)}, (m.map (·.1)).Nodup → ((A.foldl (fun m q => rowM q B m) m).map (·.1)).Nodup
  | [], _, h => h
  | q :: A, _, h => mulF_nd B A (rowM_nd q B h)
theorem mulF_pr (B : List (List Int × Int)) (φ : List Int → Int) : ∀ (A : List (List Int × Int)) {m : List (List Int × Int)}, (m.map (·.1)).Nodup → pr (A.foldl (fun m q => rowM q B m) m) φ = pr m φ + pr A fun a => pr B fun b => φ (addR a b)
  | [], m, _ => by
    show pr m φ = pr m φ + 0
    omega
  | q :: A, m, h => by
    rw [List.foldl_cons, mulF_pr B φ A (rowM_nd q B h), rowM_pr q B h, pr_cons]
    omega
theorem mulL_nd (A B : List (List Int × Int)) : ((mulL A B).map (·.1)).Nodup := mulF_nd B A (m := []) List.nodup_nil
theorem mulL_pr (A B : List (List Int × Int)) (φ : List Int → Int) : pr (mulL A B) φ = pr A fun a => pr B fun b => φ (addR a b) := by
  have z := mulF_pr B φ A (m := []) List.nodup_nil
  rw [pr_nil, Int.zero_add] at z
  exact z
theorem rowM_len (q : List Int × Int) : ∀ (B m : List (List Int × Int)), (rowM q B m).length ≤ m.length + B.length
  | [], m => Nat.le_refl _
  | g :: B, m => by
    have h1 := rowM_len q B (addA m (addR q.1 g.1) (q.2 * g.2))
    have h2 := addA_len m (addR q.1 g.1) (q.2 * g.2)
    show (rowM q B (addA m (addR q.1 g.1) (q.2 * g.2))).length ≤ _
    rw [List.length_cons]
    omega
theorem mulF_len (B : List (List Int × Int)) : ∀ (A m : List (List Int × Int)), (A.foldl (fun m q => rowM q B m) m).length ≤ m.length + A.length * B.length
  | [], m => by
    show m.length ≤ m.length + 0 * _
    omega
  | q :: A, m => by
    have h1 := mulF_len B A (rowM q B m)
    have h2 := rowM_len q B m
    rw [List.foldl_cons, List.length_cons, Nat.succ_mul]
    omega
theorem mulL_len (A B : List (List Int × Int)) : (mulL A B).length ≤ A.length * B.length := by
  have z := mulF_len B A []
  rw [List.length_nil, Nat.zero_add] at z
  exact z
theorem mulL_snoc {A B : List (List Int × Int)} {i : Nat} {q : List Int × Int} (h : A[i]? = some q) : mulL (A.take (i + 1)) B = rowM q B (mulL (A.take i) B) := by
  unfold mulL
  rw [List.take_succ, h, List.foldl_append]
  rfl
theorem rowM_snoc {q g : List Int × Int} {B m : List (List Int × Int)} {j : Nat} (h : B[j]? = some g) : rowM q (B.take (j + 1)) m = addA (rowM q (B.take j) m) (addR q.1 g.1) (q.2 * g.2) := by
  unfold rowM
  rw [List.take_succ, h, List.foldl_append]
  rfl
theorem rowM_keys {Φ : List Int → Prop} (q : List Int × Int) (B : List (List Int × Int)) {m : List (List Int × Int)} (h : Keys Φ m) (g : ∀ b ∈ B, Φ (addR q.1 b.1)) : Keys Φ (rowM q B m) := keys_addF (fun g : List Int × Int => (addR q.1 g.1, q.2 * g.2)) B h g
theorem mulF_keys {Φ : List Int → Prop} (B : List (List Int × Int)) : ∀ (A : List (List Int × Int)) {m : List (List Int × Int)}, Keys Φ m → (∀ a ∈ A, ∀ b ∈ B, Φ (addR a.1 b.1)) → Keys Φ (A.foldl (fun m q => rowM q B m) m)
  | [], _, h, _ => h
  | q :: A, _, h, g => mulF_keys B A (rowM_keys q B h (g q List.mem_cons_self)) fun a ha => g a (List.mem_cons_of_mem _ ha)
theorem mulL_keys {Φ : List Int → Prop} {A B : List (List Int × Int)} (g : ∀ a ∈ A, ∀ b ∈ B, Φ (addR a.1 b.1)) : Keys Φ (mulL A B) := mulF_keys B A (m := []) (fun _ z => nomatch z) g
theorem addR_take {r s : List Int} {j : Nat} {x y : Int} (hx : r[j]? = some x) (hy : s[j]? = some y) : addR (r.take (j + 1)) (s.take (j + 1)) = addR (r.take j) (s.take j) ++ [x + y] := by
  have h1 : j < r.length := (List.getElem?_eq_some_iff.mp hx).1
  have h2 : j < s.length := (List.getElem?_eq_some_iff.mp hy).1
  unfold addR
  rw [List.take_succ, List.take_succ, hx, hy, List.zipWith_append (by rw [List.length_take, List.length_take]; omega)]
  rfl
section
variable {P : Program} {w : World} {K : PySem.W.Frag} {mg : Str → Option Value} {base : Heap} {bp C B M N : Addr}
def spMultd : Sp := fun vs H Q _ => ∃ (p : Int) (k : Nat) (a b : Addr) (A B : List (List Int × Int)), vs = [.int p, .ref a, .ref b] ∧ 0 < p ∧ H a = some (.dT (rK A)) ∧ H b = some (.dT (rK B)) ∧ a ≠ b ∧ (A.map (·.1)).Nodup ∧ (B.map (·.1)).Nodup ∧ 1 ≤ k ∧ k ≤ 12 ∧ (∀ q ∈ A, q.1.length = k) ∧ (∀ q ∈ B, q.1.length = k) ∧ A.length * B.length ≤ 100000 ∧ (∀ q ∈ A, -(2 ^ 60) < q.2 ∧ q.2 < 2 ^ 60) ∧
  ∀ D H', Same H H' → H D = none → H' D = some (.dT (rK (tid p (mulL A B)))) → Q (.ref D) H'
abbrev NMU : List Str := ["field", "one", "two", "found", "row", "mate", "whole_row", "a", "b"]
theorem sc46 : FnScope NMU ["field", "one", "two"] (defScope (top 46)) := ⟨rfl, rfl, rfl, by decide +kernel, rfl, by decide +kernel, by decide +kernel⟩
abbrev slM (p : Int) (a b D : Addr) (e4 e5 e6 e7 e8 : Option V) : St := [some (.int p), some (.ref a), some (.ref b), some (.ref D), e4, e5, e6, e7, e8]
theorem ok_multd {f fT : Addr} {fd dT : FuncData} (F : Fun K "_law_multiplied" "_law_multiplied" (top 46) f fd) (T : Tx K mg bp)
    (GT : FnOk P w K mg base CX0 1 fT dT ["field", "terms_here"] spTidied) (kT : PySem.W.keepIn K (.ref fT) = true) (bT : Binds K dT ["field", "terms_here"] []) (gT : mg "_law_tidied" = some (.ref fT)) :
    FnOk P w K mg base CX0 2 f fd ["field", "one", "two"] spMultd := by
  refine F.ok sc46 (fun vs H Q E h => ?_) (fun cdv A outer s H vs Q E hr h => ?_)
  · obtain ⟨p, k, a, b, A, B, rfl, _⟩ := h
    rfl
  · obtain ⟨p, n, a, b, mx, my, rfl, hp, hx, hy, hxy, hn1, hn2, n1, n12, l1, l2, hz, hv, k⟩ := h
    have hu := hu_of hr
    refine ⟨_, pss_cons (ps_set (i := 3) sc46.nd rfl (Or.inl rfl) pe_dnewT)
      (pss_cons (ps_lock (ps_for PassesOwn.never rfl (pi_keys (pv 1)) (pg_name (i := 4) sc46.nd rfl (Or.inl rfl))
        (pss_one (ps_lock (ps_for PassesOwn.never rfl (pi_keys (pv 2)) (pg_name (i := 5) sc46.nd rfl (Or.inl rfl))
          (pss_cons (ps_set (i := 6) sc46.nd rfl (Or.inl rfl) (pe_callTy call_tuple_of (by rfl) T.tuple (by decide +kernel) (pa_cons (pe_lc (own := [("a", 7), ("b", 8)]) (g := gTup K 2 (gCons (gName 7) (gCons (gName 8) gNil))) (tt := tYes) (te := tOp (rI0 fun i j => .int (i + j)) (tVar 7) (tVar 8)) rfl sc46.nd (RZ.pi_zipA (by rfl) T.zip (pa_cons (pv 4) (pa_cons (pv 5) pa_nil))) (blkOk_by (own := [("a", 7), ("b", 8)]) (N := NMU) (sc := defScope (top 46)) (by decide +kernel))
            (fun _ _ _ _ _ => pg_tup rfl (pgs_cons (pg_name (i := 7) sc46.nd rfl (Or.inl rfl)) (pgs_cons (pg_name (i := 8) sc46.nd rfl (Or.inl rfl)) pgs_nil))) (fun _ _ _ _ _ => pts_nil) (fun _ _ _ _ _ => pe_op op_add (pv 7) (pv 8))) pa_nil)))
          (pss_one (ps_dput hu (pv 3) (pv 6) (pe_op op_add (pe_dget2 hu (pv 3) (pv 6) pe_int ⟨rfl, rfl, rfl, rfl⟩) (pe_op op_mul (pe_dget hu (pv 1) (pv 4) (fun _ _ => rfl)) (pe_dget hu (pv 2) (pv 5) (fun _ _ => rfl)))) rfl))))))))
      (pss_one (ps_ret (pe_call GT hr rfl gT kT bT .nil pass0 (pa_cons (pv 0) (pa_cons (pv 3) pa_nil)))))), ?_⟩
    refine fun T hT => ?_
    obtain ⟨H1, e1, a1, S1⟩ : ∃ H1, upd H T (.dT []) = H1 ∧ H1 T = some (.dT []) ∧ Same H H1 := ⟨_, rfl, upd_same, (Same.refl _).put hT⟩
    show ∃ d u, upd H T (.dT []) d = some u ∧ _
    rw [e1]
    have hTx : T ≠ a := fun z => by rw [z, hx] at hT; cases hT
    have hTy : T ≠ b := fun z => by rw [z, hy] at hT; cases hT
    refine ⟨a, _, S1 _ _ hx, trivial, fun od => ?_⟩
    have hf : upd H1 a (.frz od (.dT (rK mx))) a = some (.frz od (.dT (rK mx))) := upd_same
    refine ⟨_, rfl, a, od, rfl, .inr ⟨_, hf, for_it walk_keysT (fun i σ H' => (∃ e4 e5 e6 e7 e8, σ = slM p a b T e4 e5 e6 e7 e8) ∧ SameX T (upd H1 a (.frz od (.dT (rK mx)))) H' ∧ H' T = some (.dT (rK (mulL (mx.take i) my)))) ⟨⟨none, none, none, none, none, rfl⟩, fun _ _ e _ => e, by rw [upd_ne hTx]; exact a1⟩ (fun i σ H' _ h => h.2.1 _ _ hf (Ne.symm hTx)) ?_ ?_⟩⟩
    · rintro i x σ H3 H4 hi ⟨⟨e4, e5, e6, e7, e8, rfl⟩, S3, hL3⟩ ⟨rfl, kk, v, q, hkv, rfl, hq⟩
      obtain ⟨r, z, hm, rfl, rfl⟩ := asK_get hkv
      have hy3 : H4 b = some (.dT (rK my)) := S3 _ _ (by rw [upd_ne (Ne.symm hxy)]; exact S1 _ _ hy) (Ne.symm hTy)
      have hx3 : H4 a = some (.frz od (.dT (rK mx))) := S3 _ _ hf (Ne.symm hTx)
      refine ⟨b, _, hy3, trivial, fun od2 => ?_⟩
      have hf2 : upd H4 b (.frz od2 (.dT (rK my))) b = some (.frz od2 (.dT (rK my))) := upd_same
      have hq0 : upd H4 b (.frz od2 (.dT (rK my))) q = some (.tup (r.map V.int)) := by rw [upd_ne (fun e => by rw [e, hy3] at hq; cases hq)]; rw [rowK_kV] at hq; exact hq
      have hx0 : upd H4 b (.frz od2 (.dT (rK my))) a = some (.frz od (.dT (rK mx))) := by rw [upd_ne hxy]; exact hx3
      have qT : q ≠ T := fun e => by rw [e, hL3] at hq; cases hq
      have rl := l1 _ (List.mem_of_getElem? hm)
      have rv := hv _ (List.mem_of_getElem? hm)
      refine ⟨_, rfl, b, od2, rfl, .inr ⟨_, hf2, for_it walk_keysT (fun j σ H' => (∃ e5 e6 e7 e8, σ = slM p a b T (some (.ref q)) e5 e6 e7 e8) ∧ SameX T (upd H4 b (.frz od2 (.dT (rK my)))) H' ∧ H' T = some (.dT (rK (rowM (r, z) (my.take j) (mulL (mx.take i) my))))) ⟨⟨e5, e6, e7, e8, rfl⟩, fun _ _ e _ => e, by rw [upd_ne hTy]; exact hL3⟩ (fun j σ H' _ h => h.2.1 _ _ hf2 (Ne.symm hTy)) ?_ ?_⟩⟩
      · rintro j x σ H5 H6 hj ⟨⟨e5, e6, e7, e8, rfl⟩, S5, hL5⟩ ⟨rfl, kk, v, q2, hkv2, rfl, hq2⟩
        obtain ⟨s2, z2, hm2, rfl, rfl⟩ := asK_get hkv2
        have sl := l2 _ (List.mem_of_getElem? hm2)
        have hq1 := S5 _ _ hq0 qT
        have q2T : q2 ≠ T := fun e => by rw [e, hL5] at hq2; cases hq2
        rw [rowK_kV] at hq2
        refine ⟨_, rfl, _, rfl, q, q2, r.map V.int, s2.map V.int, rfl, .inr ⟨SqT.of hq1, SqT.of hq2, fun L hL => ?_⟩⟩
        have LT : L ≠ T := fun e => by rw [e, hL5] at hL; cases hL
        refine lc_it (walk_zipT (n := n) (by rw [List.length_map, List.length_map, rl, sl, Nat.min_self])) (fun i H' => Same H6 H' ∧ H' L = some (.lst ((addR (r.take i) (s2.take i)).map V.int))) ⟨(Same.refl _).put hL, upd_same⟩ (fun i H' _ h => ⟨SqT.of (h.1 _ _ hq1), SqT.of (h.1 _ _ hq2)⟩) ?_ ?_
        · rintro t x H7 H8 ht ⟨S7, hL7⟩ ⟨T2, x1, x2, rfl, hT2, rfl, hx1, hx2⟩
          simp only [List.getElem?_map] at hx1 hx2
          obtain ⟨u1, hu1, rfl⟩ := Option.map_eq_some_iff.mp hx1
          obtain ⟨u2, hu2, rfl⟩ := Option.map_eq_some_iff.mp hx2
          have hL8 : upd H7 T2 (.tup [V.int u1, V.int u2]) L = some (.lst ((addR (r.take t) (s2.take t)).map V.int)) := by rw [upd_ne (ne_of_none hL7 hT2)]; exact hL7
          have S8 := S7.new (o := .tup [V.int u1, V.int u2]) hT2
          refine ⟨T2, _, rfl, SqT.of upd_same, rfl, _, _, rfl, _, _, rfl, rfl, ?_⟩
          refine ⟨rfl, _, rfl, _, rfl, _, _, rfl, rfl, _, hL8, ?_, S8.put hL, ?_⟩
          · rw [List.length_map]
            have e1 : (addR (r.take t) (s2.take t)).length = min (r.take t).length (s2.take t).length := List.length_zipWith
            rw [List.length_take, List.length_take, rl, sl] at e1
            exact small1000 (by omega)
          · rw [upd_same, addR_take hu1 hu2, List.map_append]
            rfl
        · rintro H7 ⟨S7, hL7⟩
          have er : r.take n = r := List.take_of_length_le (by rw [rl]; exact Nat.le_refl _)
          have es : s2.take n = s2 := List.take_of_length_le (by rw [sl]; exact Nat.le_refl _)
          rw [er, es] at hL7
          refine ⟨L, _, rfl, .inl ⟨SqL.of hL7, fun W hW => ?_⟩⟩
          have S8 := S7.new (o := .tup ((addR r s2).map V.int)) hW
          have hW8 : upd H7 W (.tup ((addR r s2).map V.int)) W = some (.tup ((addR r s2).map V.int)) := upd_same
          generalize upd H7 W (.tup ((addR r s2).map V.int)) = H8 at S8 hW8
          have hL8 := S8 _ _ hL5
          have g1 : DGet H8 T (.ref W) (valV (rK (rowM (r, z) (my.take j) (mulL (mx.take i) my))) (rowK (addR r s2))) := .inr ⟨_, _, W, .inl hL8, rfl, by rw [rowK_kV]; exact hW8, rfl⟩
          have g2 : DGet H8 a (.ref q) (some (V.int z)) := .inr ⟨_, _, q, .inr ⟨od, S8 _ _ (S5 _ _ hx0 (Ne.symm hTx))⟩, rfl, by rw [rowK_kV]; exact S8 _ _ hq1, by rw [valV_asK rowK_inj, getA_at hn1 hm]; rfl⟩
          have g3 : DGet H8 b (.ref q2) (some (V.int z2)) := .inr ⟨_, _, q2, .inr ⟨od2, S8 _ _ (S5 _ _ hf2 (Ne.symm hTy))⟩, rfl, by rw [rowK_kV]; exact S8 _ _ hq2, by rw [valV_asK rowK_inj, getA_at hn2 hm2]; rfl⟩
          rw [valV_asK rowK_inj] at g1
          refine ⟨_, rfl, T, rfl, .inr ⟨_, .inl hL8⟩, _, rfl, _, g1, _, rfl, _, rfl, a, V.int z, rfl, g2, _, rfl, _, rfl, b, V.int z2, rfl, g3, z, z2, rfl, rfl, cmul60 z2 rv.1 rv.2, _, _, getD_int _ _, rfl, _, rfl, _, rfl, T, _, rfl, DPut.t hL8 (by rw [rowK_kV]; exact hW8) ?_, ⟨_, _, _, _, rfl⟩, fun y o e ne => ?_, ?_⟩
          · rw [asK_len]
            have h1 := rowM_len (r, z) (my.take j) (mulL (mx.take i) my)
            have h2 := mulL_len (mx.take i) my
            have h3 : (mx.take i).length = i := by rw [List.length_take]; rw [asK_len] at hi; omega
            have h4 : (my.take j).length ≤ j := by rw [List.length_take]; omega
            rw [h3] at h2
            rw [asK_len] at hi hj
            have h5 : (i + 1) * my.length ≤ mx.length * my.length := Nat.mul_le_mul_right _ hi
            rw [Nat.succ_mul] at h5
            have h6 : (1000000 : Nat) < sizeLine := by decide
            omega
          · rw [upd_ne ne]
            exact S8 _ _ (S5 _ _ e ne)
          · rw [upd_same, putK_asK rowK_inj, rowM_snoc hm2]
            rfl
      · rintro σ H' ⟨⟨e5, e6, e7, e8, rfl⟩, S5, hL5⟩
        rw [asK_len, List.take_length] at hL5
        refine ⟨S5 _ _ hf2 (Ne.symm hTy), ⟨_, _, _, _, _, rfl⟩, fun z o e ne => ?_, ?_⟩
        · by_cases hz2 : z = b
          · subst hz2
            rw [upd_ne (Ne.symm hxy), S1 _ _ hy] at e
            cases e
            exact upd_same
          · rw [upd_ne hz2]
            exact S5 _ _ (by rw [upd_ne hz2]; exact S3 _ _ e ne) ne
        · rw [upd_ne hTy, hL5, mulL_snoc hm]
    · rintro σ H' ⟨⟨e4, e5, e6, e7, e8, rfl⟩, S2, hL2⟩
      rw [asK_len, List.take_length] at hL2
      refine ⟨S2 _ _ hf (Ne.symm hTx), ?_⟩
      have S4 : Same H (upd H' a (.dT (rK mx))) := fun z o e => by
        by_cases hz2 : z = a
        · subst hz2
          rw [hx] at e
          cases e
          exact upd_same
        · rw [upd_ne hz2]
          exact S2 _ _ (by rw [upd_ne hz2]; exact S1 _ _ e) (fun y => by rw [y, hT] at e; cases e)
      have hD4 := lock_at (u := .dT (rK mx)) hTx hL2
      generalize upd H' a (.dT (rK mx)) = H5 at S4 hD4
      have nd := mulL_nd mx my
      refine ⟨_, rfl, _, rfl, p, T, _, rfl, hp, hD4, nd, ?_, ?_, fun D2 H6 ys pm ac S6 nq hq => k D2 H6 (S4.trans S6) (S4.free nq) ?_⟩
      · refine fun q hq e => ?_
        have z := mulL_keys (Φ := fun r => r.length = n) (fun a ha b hb => addR_len (l1 a ha) (l2 b hb)) q hq
        rw [e] at z
        exact absurd z (by show (0 : Nat) ≠ n; omega)
      · exact Nat.le_trans (mulL_len mx my) (by omega)
      · rw [← tidy_tid nd pm ac]
        exact hq
end
end P2
end

section
set_option maxRecDepth 100000
set_option maxHeartbeats 2000000
namespace P2
open PySem L2 ClX
theorem fields_p {p : Int} (h : p ∈ fields) : p ∈ primes ∧ 2 ≤ p ∧ p < 100 := by
  revert h p
  decide
theorem DrawAt.up {H H' : Hp} {d l c : Addr} (D : DrawAt H d l c) (S : Same H H') : DrawAt H' d l c := let ⟨r, t, hd⟩ := D.hd; let ⟨ls, hl, hll⟩ := D.hl; let ⟨cs, hc, hcl⟩ := D.hc; ⟨⟨r, t, S _ _ hd⟩, ⟨ls, S _ _ hl, hll⟩, ⟨cs, S _ _ hc, hcl⟩, D.ne⟩
/-- a draw's places hold neither a tuple nor a dict of rows -/
theorem DrawAt.tup {H : Hp} {d l c b : Addr} {xs : List V} (D : DrawAt H d l c) (h : H b = some (.tup xs)) : b ≠ d ∧ b ≠ l := by
  obtain ⟨r, t, hd⟩ := D.hd
  obtain ⟨ls, hl, _⟩ := D.hl
  exact ⟨(fun e => by rw [e, hd] at h; cases h), (fun e => by rw [e, hl] at h; cases h)⟩
theorem DrawAt.dt {H : Hp} {d l c b : Addr} {xs : List (List Key × V)} (D : DrawAt H d l c) (h : H b = some (.dT xs)) : b ≠ d ∧ b ≠ l := by
  obtain ⟨r, t, hd⟩ := D.hd
  obtain ⟨ls, hl, _⟩ := D.hl
  exact ⟨(fun e => by rw [e, hd] at h; cases h), (fun e => by rw [e, hl] at h; cases h)⟩
theorem DrawAt.none {H : Hp} {d l c b : Addr} (D : DrawAt H d l c) (h : H b = none) : b ≠ d ∧ b ≠ l := by
  obtain ⟨r, t, hd⟩ := D.hd
  obtain ⟨ls, hl, _⟩ := D.hl
  exact ⟨(fun e => by rw [e, hd] at h; cases h), (fun e => by rw [e, hl] at h; cases h)⟩
theorem Drawn.trans {d l : Addr} {H H1 H2 : Hp} (a : Drawn d l H H1) (b : Drawn d l H1 H2) : Drawn d l H H2 := fun x o e n1 n2 => b _ _ (a _ _ e n1 n2) n1 n2
theorem Drawn.of {d l : Addr} {H H1 : Hp} (a : Same H H1) : Drawn d l H H1 := fun x o e n1 n2 => a _ _ e
theorem putA_in {κ : Type} [DecidableEq κ] {m : List (κ × Int)} {k : κ} {v : Int} : ∀ q ∈ putA m k v, q ∈ m ∨ q = (k, v) := fun q hq => by
  unfold putA at hq
  by_cases z : (m.any fun p => decide (p.1 = k)) = true
  · rw [if_pos z] at hq
    obtain ⟨p, hp, e⟩ := List.mem_map.mp hq
    by_cases y : p.1 = k
    · rw [if_pos y, y] at e
      exact .inr e.symm
    · rw [if_neg y] at e
      exact .inl (e ▸ hp)
  · rw [if_neg z] at hq
    rcases List.mem_append.mp hq with hq | hq
    · exact .inl hq
    · exact .inr (List.mem_singleton.mp hq)
theorem rows_count : ∀ n, n < 5 → ∀ t, t < 5 → 1 ≤ n → 0 < (rowsL n t).length ∧ (rowsL n t).length < 1000 := by decide +kernel
/-- raw terms: up to five, rows of sums up to 4, any numbers below 10 ^ 31 -/
structure Raw (n : Nat) (ts : List (List Int × Int)) : Prop where
  nd : (ts.map (·.1)).Nodup
  four : Four n ts
  len : ts.length ≤ 5
  vals : ∀ q ∈ ts, -(10 ^ 31) < q.2 ∧ q.2 < 10 ^ 31
section
variable {P : Program} {w : World} {K : PySem.W.Frag} {mg : Str → Option Value} {base : Heap} {bp C B M N : Addr}
def spRaw : Sp := fun vs H Q _ => ∃ (d l c : Addr) (p : Int) (n : Nat), vs = [.ref d, .int p, .int n] ∧ DrawAt H d l c ∧ p ∈ fields ∧ 1 ≤ n ∧ n ≤ 4 ∧
  ∀ D H' ts, H D = none → DrawAt H' d l c → Drawn d l H H' → H' D = some (.dT (rK ts)) → Raw n ts → Q (.ref D) H'
abbrev NRW : List Str := ["draw", "field", "wide_here", "found", "lap", "row"]
theorem sc49 : FnScope NRW ["draw", "field", "wide_here"] (defScope (top 49)) := ⟨rfl, rfl, rfl, by decide +kernel, rfl, by decide +kernel, by decide +kernel⟩
theorem ok_raw {f fT fP fR : Addr} {fd dT dP dR : FuncData} (F : Fun K "_law_raw_terms" "_law_raw_terms" (top 49) f fd) (T : Tx K mg bp)
    (GT : FnOk P w K mg base CX0 2 fT dT ["draw", "amount"] spTake) (kT : PySem.W.keepIn K (.ref fT) = true) (bT : Binds K dT ["draw", "amount"] []) (gT : mg "_law_take" = some (.ref fT))
    (GP : FnOk P w K mg base CX0 3 fP dP ["draw", "some"] (spPick K)) (kP : PySem.W.keepIn K (.ref fP) = true) (bP : Binds K dP ["draw", "some"] []) (gP : mg "_law_pick" = some (.ref fP))
    (GR : ∀ n, FnOk P w K mg base CX0 (n + 1) fR dR ["wide_here", "total"] (spRows n)) (kR : PySem.W.keepIn K (.ref fR) = true) (bR : Binds K dR ["wide_here", "total"] []) (gR : mg "_law_rows" = some (.ref fR)) :
    FnOk P w K mg base CX0 6 f fd ["draw", "field", "wide_here"] spRaw := by
  refine F.ok sc49 (fun vs H Q E h => ?_) (fun cdv A outer s H vs Q E hr h => ?_)
  · obtain ⟨d, l, c, p, n, rfl, _⟩ := h
    rfl
  · obtain ⟨d, l, c, p, n, rfl, D, hp, n1, n4, k⟩ := h
    have hu := hu_of hr
    obtain ⟨_, p2, p100⟩ := fields_p hp
    refine ⟨_, pss_cons (ps_set (i := 3) sc49.nd rfl (Or.inl rfl) pe_dnewT)
      (pss_cons (ps_for PassesOwn.never rfl (pi_range1 rfl T.range (pa_cons (pe_call GT (hr.mono (by decide)) rfl gT kT bT .nil pass0 (pa_cons (pv 0) (pa_cons pe_int pa_nil))) pa_nil)) (pg_name (i := 4) sc49.nd rfl (Or.inl rfl))
        (pss_cons (ps_set (i := 5) sc49.nd rfl (Or.inl rfl) (pe_call GP (hr.mono (by decide)) rfl gP kP bP .nil pass0 (pa_cons (pv 0) (pa_cons (pe_call (GR n) (hr.mono (by omega)) rfl gR kR bR .nil pass0 (pa_cons (pv 2) (pa_cons (pe_call GT (hr.mono (by decide)) rfl gT kT bT .nil pass0 (pa_cons (pv 0) (pa_cons pe_int pa_nil))) pa_nil))) pa_nil))))
        (pss_one (ps_dput hu (pv 3) (pv 5) (pe_call GP (hr.mono (by decide)) rfl gP kP bP .nil pass0 (pa_cons (pv 0) (pa_cons (pe_lst (pa_cons pe_int (pa_cons (pv 1)
          (pa_cons (pe_call GT (hr.mono (by decide)) rfl gT kT bT .nil pass0 (pa_cons (pv 0) (pa_cons (pv 1) pa_nil)))
          (pa_cons (pe_op op_sub (pe_call GT (hr.mono (by decide)) rfl gT kT bT .nil pass0 (pa_cons (pv 0) (pa_cons (pe_op op_mul pe_int (pv 1)) pa_nil))) (pe_op op_mul pe_int (pv 1)))
          (pa_cons (pe_op op_add (pe_op op_pow pe_int pe_int) (pe_call GT (hr.mono (by decide)) rfl gT kT bT .nil pass0 (pa_cons (pv 0) (pa_cons (pe_op op_pow pe_int pe_int) pa_nil)))) pa_nil)))))) pa_nil))) rfl))))
      (pss_one (ps_ret (pv 3)))), ?_⟩
    refine fun X hX => ?_
    have S0 : Same H (upd H X (.dT [])) := (Same.refl _).put hX
    have hX0 : upd H X (.dT []) X = some (.dT []) := upd_same
    generalize upd H X (.dT []) = H1 at S0 hX0
    have D1 := D.up S0
    have nX := D.none hX
    refine ⟨_, rfl, d, l, c, 6, rfl, by decide, by decide, D1, fun t H2 t0 t6 D2 S2 => ?_⟩
    obtain ⟨m, rfl⟩ : ∃ m : Nat, t = m := ⟨t.toNat, by omega⟩
    have hX2 := S2 _ _ hX0 nX.1 nX.2
    refine ⟨m, rfl, by omega, by omega, for_it (walk_range (lo := 0) (n := m)) (fun i σ H' => ∃ e4 e5 ts, σ = [some (.ref d), some (.int p), some (.int n), some (.ref X), e4, e5] ∧ DrawAt H' d l c ∧ (∀ b o, H2 b = some o → b ≠ d → b ≠ l → b ≠ X → H' b = some o) ∧ H' X = some (.dT (rK ts)) ∧ (ts.map (·.1)).Nodup ∧ Four n ts ∧ ts.length ≤ i ∧ ∀ q ∈ ts, -(10 ^ 31) < q.2 ∧ q.2 < 10 ^ 31)
      ⟨none, none, [], rfl, D2, fun _ _ e _ _ _ => e, hX2, List.nodup_nil, (fun _ z => nomatch z), Nat.zero_le _, (fun _ z => nomatch z)⟩ (fun _ _ _ _ _ => trivial) ?_ ?_⟩
    · rintro i x σ H3 H4 hi ⟨e4, e5, ts, rfl, D3, S3, hX3, nd, four, len, vals⟩ ⟨rfl, rfl⟩
      refine ⟨_, rfl, _, rfl, _, rfl, d, l, c, 5, rfl, by decide, by decide, D3, fun t H5 t0 t5 D5 S5 => ?_⟩
      obtain ⟨tt, rfl⟩ : ∃ tt : Nat, t = tt := ⟨t.toNat, by omega⟩
      refine ⟨_, _, tt, rfl, rfl, rfl, n1, n4, by omega, fun L H6 bs S6 hLn hL hR => ?_⟩
      have D6 := D5.up S6
      have rlen := hR.1
      obtain ⟨rpos, rsm⟩ := rows_count n (by omega) tt (by omega) n1
      have hLl : L ≠ l := (D5.none hLn).2
      refine ⟨d, l, c, L, bs.map V.ref, rfl, hL, hLl, by rw [List.length_map]; omega, by rw [List.length_map]; omega, D6, fun v H7 hv D7 S7 => ?_⟩
      obtain ⟨j, hj, hvj⟩ := List.mem_iff_getElem.mp hv
      obtain ⟨b, r, rfl, hb, hr2, hbt⟩ := hR.get (i := j) (x := v) (by rw [List.getElem?_eq_getElem hj, hvj])
      have hrm : r ∈ rows4 n := List.mem_flatMap.mpr ⟨tt, List.mem_range.mpr (by omega), List.mem_of_getElem? hr2⟩
      have nb := D6.tup hbt
      have hb7 := S7 _ _ hbt nb.1 nb.2
      have hX7 : H7 X = some (.dT (rK ts)) := S7 _ _ (S6 _ _ (S5 _ _ hX3 nX.1 nX.2)) nX.1 nX.2
      have S37 : Drawn d l H4 H7 := fun x o e m1 m2 => S7 _ _ (S6 _ _ (S5 _ _ e m1 m2)) m1 m2
      clear S5 S6 S7 D6 hR hL hLn
      refine ⟨_, rfl, _, rfl, _, rfl, _, rfl, d, l, c, p, rfl, by omega, by omega, D7, fun v3 H8 a3 b3 D8 S8 => ?_⟩
      refine ⟨_, rfl, _, rfl, _, _, rfl, rfl, .inl ⟨by decide, by decide⟩, d, l, c, 4 * p, rfl, by omega, by omega, D8, fun v4 H9 a4 b4 D9 S9 => ?_⟩
      refine ⟨_, rfl, _, _, rfl, rfl, .inl ⟨by decide, by decide⟩, _, _, rfl, rfl, ?_⟩
      refine ⟨_, _, rfl, rfl, ⟨by decide, by decide, by decide⟩, _, rfl, _, _, rfl, rfl, ⟨by decide, by decide, by decide⟩, d, l, c, 10 ^ 6, rfl, by decide, by decide, D9, fun v5 H10 a5 b5 D10 S10 => ?_⟩
      refine ⟨_, _, rfl, rfl, by show 5 ≤ sizeLine; decide, fun L2 hL2 => ?_⟩
      have N2 := D10.none hL2
      have S11 : Same H10 (upd H10 L2 (.lst [.int 0, .int p, .int v3, .int (v4 - 2 * p), .int (10 ^ 30 + v5)])) := (Same.refl _).put hL2
      refine ⟨d, l, c, L2, [.int 0, .int p, .int v3, .int (v4 - 2 * p), .int (10 ^ 30 + v5)], rfl, upd_same, N2.2, by show 0 < 5; decide, by show 5 < 1000; decide, D10.up S11, fun v H12 hv D12 S12 => ?_⟩
      have SS : Drawn d l H7 H12 := fun x o e m1 m2 => S12 _ _ (S11 _ _ (S10 _ _ (S9 _ _ (S8 _ _ e m1 m2) m1 m2) m1 m2)) m1 m2
      have hX12 := SS _ _ hX7 nX.1 nX.2
      have hb12 := SS _ _ hb7 nb.1 nb.2
      obtain ⟨u, rfl, u0, u1⟩ : ∃ u : Int, v = .int u ∧ -(10 ^ 31) < u ∧ u < 10 ^ 31 := by
        have e31 : (10 : Int) ^ 31 = 10000000000000000000000000000000 := by decide
        have e30 : (10 : Int) ^ 30 = 1000000000000000000000000000000 := by decide
        have e6 : (10 : Int) ^ 6 = 1000000 := by decide
        rw [e31]
        rw [e6] at b5
        rw [e30] at hv
        simp only [List.mem_cons, List.not_mem_nil, or_false] at hv
        rcases hv with rfl | rfl | rfl | rfl | rfl
        · exact ⟨_, rfl, by omega, by omega⟩
        · exact ⟨_, rfl, by omega, by omega⟩
        · exact ⟨_, rfl, by omega, by omega⟩
        · exact ⟨_, rfl, by omega, by omega⟩
        · exact ⟨_, rfl, by omega, by omega⟩
      refine ⟨_, rfl, _, rfl, X, _, rfl, DPut.t (k := rowK r) hX12 (by rw [rowK_kV]; exact hb12) ?_, _, _, putA ts r u, rfl, ?_, fun y o e m1 m2 m3 => ?_, by rw [upd_same, putK_asK rowK_inj], nodup_put nd r u, keys_put four hrm u, Nat.le_trans (putA_len ts r u) (by omega), fun q hq => ?_⟩
      · rw [asK_len]
        exact small1000 (by omega)
      · obtain ⟨r0, t0, hd0⟩ := D12.hd
        obtain ⟨ls, hl0, hll⟩ := D12.hl
        obtain ⟨cs, hc0, hcl⟩ := D12.hc
        have hXc : c ≠ X := fun e => by rw [e, hX12] at hc0; cases hc0
        exact ⟨⟨r0, t0, by rw [upd_ne (Ne.symm nX.1)]; exact hd0⟩, ⟨ls, by rw [upd_ne (Ne.symm nX.2)]; exact hl0, hll⟩, ⟨cs, by rw [upd_ne hXc]; exact hc0, hcl⟩, D12.ne⟩
      · rw [upd_ne m3]
        exact SS _ _ (S37 _ _ (S3 _ _ e m1 m2 m3) m1 m2) m1 m2
      · rcases putA_in q hq with z | z
        · exact vals q z
        · rw [z]
          exact ⟨u0, u1⟩
    · rintro σ H3 ⟨e4, e5, ts, rfl, D3, S3, hX3, nd, four, len, vals⟩
      refine ⟨_, rfl, k X H3 ts hX D3 (fun b o e m1 m2 => S3 _ _ (S2 _ _ (S0 _ _ e) m1 m2) m1 m2 (fun z => by rw [z, hX] at e; cases e)) hX3 ⟨nd, four, by omega, vals⟩⟩
end
end P2
end

section
set_option maxRecDepth 100000
set_option maxHeartbeats 2000000
namespace P2
open PySem L2 ClX
theorem foldl_max : ∀ (ns : List Int) (n : Int), (∀ y ∈ ns, y ≤ ns.foldl max n) ∧ n ≤ ns.foldl max n ∧ (ns.foldl max n = n ∨ ns.foldl max n ∈ ns)
  | [], n => ⟨(fun _ h => nomatch h), Int.le_refl _, .inl rfl⟩
  | x :: ns, n => by
    obtain ⟨a, b, c⟩ := foldl_max ns (max n x)
    rw [List.foldl_cons]
    refine ⟨fun y hy => ?_, by omega, ?_⟩
    · rcases List.mem_cons.mp hy with rfl | hy
      · omega
      · exact a y hy
    · rcases c with c | c
      · rw [c]
        rcases Int.le_total n x with h | h
        · rw [Int.max_eq_right h]
          exact .inr List.mem_cons_self
        · rw [Int.max_eq_left h]
          exact .inl rfl
      · exact .inr (List.mem_cons_of_mem _ c)
theorem maxOr_is {ns : List Int} (h0 : ∀ y ∈ ns, 0 ≤ y) {m : Int} (h : m ∈ (-1 : Int) :: ns) (g : ∀ y ∈ (-1 : Int) :: ns, y ≤ m) : m = maxOr (-1) ns := by
  cases ns with
  | nil => exact List.mem_singleton.mp h
  | cons n ns =>
    obtain ⟨a, b, c⟩ := foldl_max ns n
    show m = ns.foldl max n
    have g1 := g n (by simp)
    have n0 := h0 n (by simp)
    have e1 : ns.foldl max n ≤ m := by
      rcases c with c | c
      · rw [c]; exact g1
      · exact g _ (by simp [c])
    rcases List.mem_cons.mp h with z | h
    · omega
    · rcases List.mem_cons.mp h with z | h
      · omega
      · have := a m h
        omega
section
variable {P : Program} {w : World} {K : PySem.W.Frag} {mg : Str → Option Value} {base : Heap} {bp C B M N : Addr}
def spDegree : Sp := fun vs H Q _ => ∃ (a : Addr) (ts : List (List Int × Int)), vs = [.ref a] ∧ H a = some (.dT (rK ts)) ∧ ts.length ≤ 100000 ∧ (∀ q ∈ ts, 0 ≤ q.1.sum) ∧ ∀ H', Same H H' → Q (.int (degOf ts)) H'
theorem sc50 : FnScope ["terms_here", "row"] ["terms_here"] (defScope (top 50)) := ⟨rfl, rfl, rfl, by decide +kernel, rfl, by decide +kernel, by decide +kernel⟩
theorem ok_degree {f : Addr} {fd : FuncData} (F : Fun K "_law_degree" "_law_degree" (top 50) f fd) (T : Tx K mg bp) : FnOk P w K mg base CX0 1 f fd ["terms_here"] spDegree := by
  refine F.ok sc50 (fun vs H Q E h => ?_) (fun cdv A outer s H vs Q E hr h => ?_)
  · obtain ⟨a, ts, rfl, _⟩ := h
    rfl
  · obtain ⟨a, ts, rfl, ha, hz, h0, k⟩ := h
    have hu := hu_of hr
    refine ⟨_, pss_one (ps_ret (pe_callB (r := rMax K) (cr_max rfl) (by rfl) T.max (by decide +kernel) (pa_cons (pe_op op_cat (pe_lst (pa_cons (pe_un un_neg pe_int) pa_nil)) (pe_lock (pe_lc (own := [("row", 1)]) (g := gName 1) (tt := tYes) (te := tCB (rSumT K) (tCons (tVar 1) tNil)) rfl sc50.nd (pi_keys (pv 0)) (blkOk_by (own := [("row", 1)]) (N := ["terms_here", "row"]) (sc := defScope (top 50)) (by decide +kernel))
        (fun _ _ _ _ _ => pg_name (i := 1) sc50.nd rfl (Or.inl rfl)) (fun _ _ _ _ _ => pts_nil) (fun _ _ _ _ _ => pe_callB (r := rSumT K) (cr_sumT rfl) (by rfl) T.sum (by decide +kernel) (pa_cons (pv 1) pa_nil))))) pa_nil))), ?_⟩
    refine ⟨1, rfl, by show 1 ≤ sizeLine; decide, fun L hL => ?_⟩
    have S1 : Same H (upd H L (.lst [V.int (-1)])) := (Same.refl _).put hL
    have hL1 : upd H L (.lst [V.int (-1)]) L = some (.lst [V.int (-1)]) := upd_same
    generalize upd H L (.lst [V.int (-1)]) = H1 at S1 hL1
    have a1 := S1 _ _ ha
    refine ⟨a, _, a1, trivial, fun od => ?_⟩
    have hf : upd H1 a (.frz od (.dT (rK ts))) a = some (.frz od (.dT (rK ts))) := upd_same
    have hLa : L ≠ a := fun e => by rw [e, a1] at hL1; cases hL1
    refine ⟨_, rfl, a, od, rfl, .inr ⟨_, hf, fun D2 hD2 => lc_it walk_keysT (fun i H' => Same (upd H1 a (.frz od (.dT (rK ts)))) H' ∧ H' D2 = some (.lst (((ts.take i).map fun q => q.1.sum).map V.int))) ⟨(Same.refl _).put hD2, upd_same⟩ (fun i H' _ h => h.1 _ _ hf) ?_ ?_⟩⟩
    · rintro i y H5 H6 hi ⟨S5, hL5⟩ ⟨rfl, kk, v, q, hkv, rfl, hq⟩
      obtain ⟨r, c, hts, rfl, rfl⟩ := asK_get hkv
      rw [rowK_kV] at hq
      rw [asK_len] at hi
      refine ⟨rfl, _, rfl, q, r, rfl, SqT.of hq, _, hL5, ?_, S5.put hD2, ?_⟩
      · rw [List.length_map, List.length_map, List.length_take]
        have h8 : (1000000 : Nat) < sizeLine := by decide
        omega
      · rw [upd_same, take_succ (fun q : List Int × Int => q.1.sum) hts, List.map_append]
        rfl
    · intro H5 ⟨S5, hL5⟩
      rw [asK_len, List.take_length] at hL5
      have hD21 : D2 ≠ a := fun z => by rw [z, hf] at hD2; cases hD2
      have S6 := lock_same a1 S5
      have hL6 := lock_at (u := .dT (rK ts)) hD21 hL5
      refine ⟨S5 _ _ hf, ?_⟩
      generalize upd H5 a (.dT (rK ts)) = H6 at S6 hL6
      refine ⟨L, D2, _, _, rfl, rfl, S6 _ _ hL1, hL6, ?_, fun p hp => ?_⟩
      · rw [List.length_map, List.length_map]
        have h8 : (1000000 : Nat) < sizeLine := by decide
        show 1 + ts.length ≤ sizeLine
        omega
      · refine ⟨p, (-1) :: ts.map fun q => q.1.sum, rfl, SqL.of upd_same, by simp, fun m hm hg => ?_⟩
        have e := maxOr_is (ns := ts.map fun q => q.1.sum) (fun y hy => by
          obtain ⟨q, hq, rfl⟩ := List.mem_map.mp hy
          exact h0 q hq) hm hg
        rw [e]
        exact k _ ((S1.trans S6).new hp)
end
end P2
end

section
set_option maxRecDepth 100000
set_option maxHeartbeats 2000000
namespace P2
open PySem L2 ClX
/-- a number of fair size -/
def Fn (e : Int) : Prop := -(10 ^ 31) < e ∧ e < 10 ^ 31
structure Fair (ts : List (List Int × Int)) : Prop where
  len : ts.length ≤ 200
  row : ∀ q ∈ ts, q.1.length ≤ 12 ∧ (∀ e ∈ q.1, Fn e) ∧ Fn q.2
theorem fn_abs {e : Int} (h : Fn e) : e.natAbs < 10 ^ 31 := by
  obtain ⟨a, b⟩ := h
  have e31 : (10 : Int) ^ 31 = ((10 ^ 31 : Nat) : Int) := by decide
  rw [e31] at a b
  omega
theorem fn_log {e : Int} (h : Fn e) : e.natAbs.log2 < 104 := by
  by_cases z : e.natAbs = 0
  · rw [z]; decide
  · exact (Nat.log2_lt z).mpr (Nat.lt_trans (fn_abs h) (by decide))
theorem fn_show {e : Int} (h : Fn e) : PyData.showable (.int e) = true := decide_eq_true (Nat.lt_trans (fn_log h) (by decide))
theorem fn_short {e : Int} (h : Fn e) : PyData.leavesShort 40 (.int e) = true := by
  have z := int_text_length_le10 (k := 31) (by decide) (fn_abs h)
  refine decide_eq_true ?_
  show (Str.ofString (toString e)).length ≤ 40
  rw [ofString_length]
  omega
theorem fn_weight {e : Int} (h : Fn e) : PyData.weight (.int e) ≤ 104 := by
  have z := fn_log h
  show (if e == 0 then 0 else e.natAbs.log2 + 1) ≤ 104
  split <;> omega
theorem row_facts : ∀ {r : List Int}, (∀ e ∈ r, Fn e) → PyData.showableAll (r.map .int) = true ∧ PyData.leavesShortAll 40 (r.map .int) = true ∧ PyData.weightAll (r.map .int) ≤ 105 * r.length
  | [], _ => ⟨rfl, rfl, Nat.le_refl _⟩
  | x :: r, h => by
    have hx := h x List.mem_cons_self
    obtain ⟨a, b, c⟩ := row_facts fun e he => h e (List.mem_cons_of_mem _ he)
    have w := fn_weight hx
    refine ⟨?_, ?_, ?_⟩
    · simp only [List.map_cons, PyData.showableAll, fn_show hx, a, Bool.and_self]
    · simp only [List.map_cons, PyData.leavesShortAll, fn_short hx, b, Bool.and_self]
    · simp only [List.map_cons, PyData.weightAll, List.length_cons]
      omega
def kvD (ts : List (List Int × Int)) : List (PyData × PyData) := ts.map fun q => (.tuple (q.1.map .int), .int q.2)
theorem kv_facts : ∀ {ts : List (List Int × Int)}, (∀ q ∈ ts, q.1.length ≤ 12 ∧ (∀ e ∈ q.1, Fn e) ∧ Fn q.2) → PyData.showableKv (kvD ts) = true ∧ PyData.leavesShortKv 40 (kvD ts) = true ∧ PyData.weightKv (kvD ts) ≤ 1400 * ts.length
  | [], _ => ⟨rfl, rfl, Nat.le_refl _⟩
  | q :: ts, h => by
    obtain ⟨h1, h2, h3⟩ := h q List.mem_cons_self
    obtain ⟨a, b, c⟩ := kv_facts fun e he => h e (List.mem_cons_of_mem _ he)
    obtain ⟨a1, b1, c1⟩ := row_facts h2
    have w := fn_weight h3
    refine ⟨?_, ?_, ?_⟩
    · show PyData.showableKv ((PyData.tuple (q.1.map .int), PyData.int q.2) :: kvD ts) = true
      simp only [PyData.showableKv, a, fn_show h3, Bool.and_true]
      exact a1
    · show PyData.leavesShortKv 40 ((PyData.tuple (q.1.map .int), PyData.int q.2) :: kvD ts) = true
      simp only [PyData.leavesShortKv, b, fn_short h3, Bool.and_true]
      exact b1
    · show PyData.weightKv ((PyData.tuple (q.1.map .int), PyData.int q.2) :: kvD ts) ≤ _
      simp only [PyData.weightKv, PyData.weight, List.length_cons] at w ⊢
      omega
theorem kv_depth : ∀ ts : List (List Int × Int), PyData.depthKv (kvD ts) ≤ 3
  | [] => by decide
  | q :: ts => by
    have h := kv_depth ts
    show PyData.depthKv ((PyData.tuple (q.1.map .int), PyData.int q.2) :: kvD ts) ≤ 3
    simp only [PyData.depthKv, PyData.depth, depth0]
    omega
theorem shows_of {ts : List (List Int × Int)} (h : Fair ts) : Shows ts := by
  obtain ⟨a, b, c⟩ := kv_facts h.row
  refine ⟨a, ?_, ?_⟩
  · have z := kv_depth ts
    show PyData.depth (.dict (kvD ts)) ≤ 20
    simp only [PyData.depth]
    omega
  · have z := PyData.shown_le 40 (by decide) (termsD ts) b
    have w : (termsD ts).weight ≤ 1400 * ts.length := c
    have hl := h.len
    have e : (12000000 : Nat) ≤ sizeLine := by decide
    omega
end P2
end

section
set_option maxRecDepth 100000
set_option maxHeartbeats 2000000
/-! Calls of defs by names of parameters alone. -/
namespace ClX
open PySem PySem.Spec PyProof.Rows L2
section
variable {X : Cx} {CX : CXT} {k : Nat} {f : Addr} {fd : FuncData} {ps ks : List Str} {sp : Sp} {E : XK} {x : Str} {p pos : Pos} {kws : List Keyword} {tk : TA} {g : List Value → List Value → List Value} {gV : List V → List V → List V}
theorem pe_callK0 (F : FnOk X.prog X.w X.K X.mg X.base CX k f fd ps sp) (hr : Room k X.A) (hg : Gl X x) (hm : X.mg x = some (.ref f)) (hk : PySem.W.keepIn X.K (.ref f) = true) (hb : KBn X.K fd ps 0 ks g gV) (hx : Passes CX X E) (hkw : PK X kws tk)
    (hall : (backToKw pos (keywordEach kws X.env)).all (·.1.isSome) = true := by rfl) (hks : (backToKw pos (keywordEach kws X.env)).filterMap (·.1) = ks := by rfl) (hdb : (x == ("__debug__" : Str)) = false := by decide)
    (hpl : ((backTo pos (starEach [] X.env)).any (·.1) || (backToKw pos (keywordEach kws X.env)).any (·.1.isNone)) = false := by rfl) :
    PE X (.Call (.Name x p) [] kws pos) (fun σ H Q => tk σ H fun zs H2 => zs.length = ks.length ∧ sp (gV [] zs) H2 Q E) := by
  refine ⟨fun pins s σ H Q I h => ?_⟩
  refine wpAny_Call_Name_kw (ld_glob I hg hm ?_ hdb)
  refine PySem.W.callWith_KW0 (h₀ := X.base) I.ok.mod.kin hk hall ?_ hpl
  refine thn (hkw.run pos pins s σ H _ I h) fun ws s2 ⟨zs, H2, I2, rz, l2, q2⟩ => ⟨I2.kIn, ?_⟩
  rw [hks]
  exact run_fnN F hr hb hx I2 .nil rz rfl l2 q2
end
end ClX
end

section
set_option maxRecDepth 100000
set_option maxHeartbeats 2000000
namespace P2
open PySem L2 ClX
theorem sub_all {α : Type} [DecidableEq α] : ∀ {xs ys : List α}, xs.Nodup → (∀ a ∈ xs, a ∈ ys) → ys.length ≤ xs.length → ∀ b ∈ ys, b ∈ xs
  | [], ys, _, _, h, b, hb => by
    rw [List.length_eq_zero_iff.mp (Nat.le_zero.mp h)] at hb
    exact hb
  | x :: xs, ys, n, s, h, b, hb => by
    rw [List.nodup_cons] at n
    by_cases e : b = x
    · rw [e]
      exact List.mem_cons_self
    · have hx := s x List.mem_cons_self
      refine List.mem_cons_of_mem _ (sub_all (xs := xs) (ys := ys.erase x) n.2 (fun a ha => ?_) ?_ b ((List.mem_erase_of_ne e).mpr hb))
      · refine (List.mem_erase_of_ne ?_).mpr (s a (List.mem_cons_of_mem _ ha))
        intro z
        rw [z] at ha
        exact n.1 ha
      · rw [List.length_erase_of_mem hx]
        rw [List.length_cons] at h
        omega
theorem cf_of {κ : Type} [DecidableEq κ] {m : List (κ × Int)} {k : κ} {v : Int} (h : getA m k = some v) : cf m k = v := by
  unfold cf
  rw [h]
  rfl
theorem cf_mem {κ : Type} [DecidableEq κ] : ∀ {m : List (κ × Int)}, (m.map (·.1)).Nodup → ∀ {q : κ × Int}, q ∈ m → cf m q.1 = q.2
  | [], _, _, h => by cases h
  | a :: m, n, q, h => by
    rw [List.map_cons, List.nodup_cons] at n
    rw [cf_cons]
    rcases List.mem_cons.mp h with e | h
    · rw [e, if_pos rfl]
    · rw [if_neg, cf_mem n.2 h]
      intro e
      exact n.1 (List.mem_map.mpr ⟨q, h, e.symm⟩)
theorem getA_mem {κ : Type} [DecidableEq κ] {m : List (κ × Int)} (n : (m.map (·.1)).Nodup) {q : κ × Int} (h : q ∈ m) : getA m q.1 = some q.2 := by
  obtain ⟨j, hj, e⟩ := List.mem_iff_getElem.mp h
  exact getA_at n (i := j) (by rw [List.getElem?_eq_getElem hj, e])
theorem same_refl {A : List (List Int × Int)} (n : (A.map (·.1)).Nodup) : sameT (rK A) (rK A) = true := by
  unfold sameT
  rw [beq_self_eq_true, Bool.true_and]
  refine List.all_eq_true.mpr fun q hq => ?_
  obtain ⟨r, hr, rfl⟩ := List.mem_map.mp hq
  refine decide_eq_true ?_
  show valV (rK A) (rowK r.1) = some (V.int r.2)
  rw [valV_asK rowK_inj, getA_mem n hr]
  rfl
theorem same_cf {A B : List (List Int × Int)} (nA : (A.map (·.1)).Nodup) (nB : (B.map (·.1)).Nodup) (h : sameT (rK A) (rK B) = true) : ∀ r, cf A r = cf B r := by
  unfold sameT at h
  rw [Bool.and_eq_true] at h
  have hl : A.length = B.length := by
    have z := beq_iff_eq.mp h.1
    rw [asK_len, asK_len] at z
    exact z
  have hA : ∀ q ∈ A, getA B q.1 = some q.2 := fun q hq => by
    have z := List.all_eq_true.mp h.2 (rowK q.1, V.int q.2) (List.mem_map.mpr ⟨q, hq, rfl⟩)
    have z2 := of_decide_eq_true z
    rw [valV_asK rowK_inj] at z2
    obtain ⟨v, e1, e2⟩ := Option.map_eq_some_iff.mp z2
    rw [e1, V.int.inj e2]
  have key : ∀ r, r ∈ A.map (·.1) → r ∈ B.map (·.1) := fun r hr => by
    obtain ⟨q, hq, rfl⟩ := List.mem_map.mp hr
    have z := hA q hq
    refine Classical.byContradiction fun y => ?_
    unfold getA at z
    obtain ⟨u, e1, _⟩ := Option.map_eq_some_iff.mp z
    have e2 := List.find?_some e1
    exact y (List.mem_map.mpr ⟨u, List.mem_of_find?_eq_some e1, of_decide_eq_true e2⟩)
  have back := sub_all nA key (by rw [List.length_map, List.length_map, hl]; exact Nat.le_refl _)
  intro r
  by_cases hr : r ∈ A.map (·.1)
  · obtain ⟨q, hq, rfl⟩ := List.mem_map.mp hr
    rw [cf_mem nA hq, cf_of (hA q hq)]
  · rw [cf_out hr, cf_out fun z => hr (back r z)]
theorem cf_tid {p : Int} {A : List (List Int × Int)} (hA : (A.map (·.1)).Nodup) (r : List Int) : cf (tid p A) r = cf A r % p := by
  by_cases h : cf A r % p = 0
  · rw [h, cf_out]
    intro z
    obtain ⟨q, hq, rfl⟩ := List.mem_map.mp z
    exact ((tid_in hA).mp hq).2.1 h
  · have hr : r ∈ A.map (·.1) := by
      refine Classical.byContradiction fun y => h ?_
      rw [cf_out y, Int.zero_emod]
    exact cf_mem tid_nd (q := (r, cf A r % p)) ((tid_in hA).mpr ⟨hr, h, rfl⟩)
theorem tid_len (p : Int) (A : List (List Int × Int)) : (tid p A).length ≤ A.length := by
  have z : (tid p A).length ≤ (srt (A.map (·.1))).length := foldI_le _ _
  rw [(srt_perm _).length_eq, List.length_map] at z
  exact z
theorem tid_sub {p : Int} {A : List (List Int × Int)} (hA : (A.map (·.1)).Nodup) {q : List Int × Int} (h : q ∈ tid p A) : ∃ u ∈ A, u.1 = q.1 := List.mem_map.mp ((tid_in hA).mp h).1
theorem tid_val {p : Int} (hp : 0 < p) {A : List (List Int × Int)} (hA : (A.map (·.1)).Nodup) {q : List Int × Int} (h : q ∈ tid p A) : 0 < q.2 ∧ q.2 < p := by
  obtain ⟨_, h1, h2⟩ := (tid_in hA).mp h
  have := Int.emod_nonneg (cf A q.1) (show p ≠ 0 by omega)
  have := Int.emod_lt_of_pos (cf A q.1) hp
  omega
theorem rows_tid {p : Int} {n : Nat} {A : List (List Int × Int)} (hA : (A.map (·.1)).Nodup) (h : RowsOk n A) : RowsOk n (tid p A) := fun q hq => by
  obtain ⟨u, hu, e⟩ := tid_sub hA hq
  rw [← e]
  exact h u hu
theorem tsok_tid {p : Int} (hp : 0 < p) {n : Nat} {A : List (List Int × Int)} (hA : (A.map (·.1)).Nodup) (h : RowsOk n A) (hz : A.length ≤ 1000000) : TsOk p n (tid p A) :=
  ⟨tid_nd, rows_tid hA h, fun _ hq => tid_val hp hA hq, Nat.le_trans (tid_len p A) hz⟩
theorem tid_tid {p : Int} {A : List (List Int × Int)} (hA : (A.map (·.1)).Nodup) : tid p (tid p A) = tid p A := tid_ext tid_nd hA (tid_eqp hA)
theorem four_tid {p : Int} {n : Nat} {A : List (List Int × Int)} (hA : (A.map (·.1)).Nodup) (h : Four n A) : Four n (tid p A) := fun q hq => by
  obtain ⟨u, hu, e⟩ := tid_sub hA hq
  rw [← e]
  exact h u hu
theorem four_rows {n : Nat} (hn : n < 5) {A : List (List Int × Int)} (h : Four n A) : RowsOk n A := fun q hq => by
  obtain ⟨a, b, _, c⟩ := four_row hn (h q hq)
  exact ⟨a, b, by omega⟩
theorem fair_tid {p : Int} (hp : 0 < p) (p100 : p < 100) {n : Nat} (n12 : n ≤ 12) {A : List (List Int × Int)} (hA : (A.map (·.1)).Nodup) (h : RowsOk n A) (hz : A.length ≤ 200) : Fair (tid p A) := by
  refine ⟨Nat.le_trans (tid_len p A) hz, fun q hq => ?_⟩
  obtain ⟨a, b, c⟩ := rows_tid hA h q hq
  have v := tid_val hp hA hq
  have e31 : (10 : Int) ^ 31 = 10000000000000000000000000000000 := by decide
  refine ⟨by omega, fun e he => ?_, ?_⟩
  · have z := (le_sum b).1 e he
    have := b e he
    unfold Fn
    rw [e31]
    omega
  · unfold Fn
    rw [e31]
    omega
section
variable {P : Program} {w : World} {K : PySem.W.Frag} {mg : Str → Option Value} {base : Heap} {bp C B M N : Addr}
/-- a def at hand -/
structure Def (P : Program) (w : World) (K : PySem.W.Frag) (mg : Str → Option Value) (base : Heap) (CX : CXT) (k : Nat) (x : Str) (ps : List Str) (sp : Sp) (f : Addr) (fd : FuncData) : Prop where
  ok : FnOk P w K mg base CX k f fd ps sp
  kp : PySem.W.keepIn K (.ref f) = true
  b : Binds K fd ps []
  g : mg x = some (.ref f)
def spTid : Sp := fun vs H Q _ => ∃ (p : Int) (a : Addr) (ts : List (List Int × Int)), vs = [.int p, .ref a] ∧ 0 < p ∧ H a = some (.dT (rK ts)) ∧ (ts.map (·.1)).Nodup ∧ (∀ q ∈ ts, q.1 ≠ []) ∧ ts.length ≤ 1000000 ∧ ∀ D H', Same H H' → H D = none → H' D = some (.dT (rK (tid p ts))) → Q (.ref D) H'
theorem tid_of {vs : List V} {H : Hp} {Q : VK} {E : XK} (h : spTid vs H Q E) : spTidied vs H Q E := by
  obtain ⟨p, a, ts, rfl, hp, ha, hn, hne, hz, k⟩ := h
  exact ⟨p, a, ts, rfl, hp, ha, hn, hne, hz, fun D H' ys pm ac S nD hD => k D H' S nD (by rw [← tidy_tid hn pm ac]; exact hD)⟩
theorem make_tid {H : Hp} {x dx a : Addr} {p : Int} {n : Nat} {ts : List (List Int × Int)} {Q : VK} {E : XK} (hp : p ∈ primes) (h1 : 1 ≤ n) (h12 : n ≤ 12) (ha : H a = some (.dT (rK ts))) (hr : RowsOk n ts) (hn : (ts.map (·.1)).Nodup) (hz : ts.length ≤ 1000000)
    (nx : H x = none) (ndx : H dx = none) (ne : dx ≠ x) (k : ∀ y H', Same H H' → H y = none → PolyAt H' C y p n (tid p ts) → Q (.ref y) H') :
    spInit K bp C B M [.ref x, .int p, .int n, .ref a] (upd (upd H dx (.own x)) x (.ins C dx [])) (fun v H2 => v = .non ∧ Q (.ref x) H2) E :=
  make_good hp h1 h12 ha hr hn hz nx ndx ne fun y H' ys pm ac S ny hy => k y H' S ny (by rw [← tidy_tid hn pm ac]; exact hy)
theorem is_poly_tid {H : Hp} {C a t : Addr} {p n : Int} {ts raw : List (List Int × Int)} {Q : VK} {E : XK} (hp : PolyAt H C a p n ts) (ht : H t = some (.dT (rK raw))) (p0 : 0 < p) (rn : (raw.map (·.1)).Nodup) (rne : ∀ q ∈ raw, q.1 ≠ []) (rz : raw.length ≤ 1000000)
    (e : ts = tid p raw) (fr : Fair ts) (k : ∀ H', Same H H' → Q (.bl true) H') : spIsPoly C [.ref a, .int p, .int n, .ref t] H Q E := by
  refine ⟨a, t, p, n, ts, raw, rfl, hp, ht, p0, rn, rne, rz, ?_, ?_, shows_of fr, fun ys pm ac => ?_, k⟩
  · rw [e]; exact tid_nd
  · have := fr.len; omega
  · rw [e]; exact tidy_tid rn pm ac
end
end P2
end

section
set_option maxRecDepth 100000
set_option maxHeartbeats 4000000
namespace P2
open PySem L2 ClX
abbrev cat {α : Type} (us ws : List α) : List α := us ++ ws
section
variable {P : Program} {w : World} {K : PySem.W.Frag} {mg : Str → Option Value} {base : Heap} {bp C B M N : Addr}
/-- `(c,) * k` -/
theorem rep_read {H : Hp} {l : Addr} {c : Int} {k : Nat} {Q : VK} (hl : H l = some (.tup [V.int c])) (h1 : 1 ≤ k) (h2 : k ≤ 1000) (q : ∀ t H', Same H H' → H' t = some (.tup ((List.replicate k c).map V.int)) → Q (.ref t) H') : rRepN K (.ref l) (.int (k : Int)) H Q := by
  refine ⟨l, (k : Int), [V.int c], rfl, rfl, SqT.of hl, (fun z => nomatch z), by omega, by omega, (show (1 : Nat) ≤ 1000 by decide), fun e1 => ?_, fun e1 l2 hl2 => ?_⟩
  · obtain rfl : k = 1 := by omega
    exact q l H (Same.refl _) hl
  · refine q l2 _ ((Same.refl _).put hl2) ?_
    rw [upd_same]
    rw [Int.toNat_natCast]
    congr 2
    clear q e1 h1 h2
    induction k with
    | zero => rfl
    | succ k ih =>
      rw [List.replicate_succ, List.replicate_succ, List.flatten_cons, ih]
      rfl
/-- a polynomial made of good terms -/
theorem make_p {H : Hp} {x dx a : Addr} {p : Int} {n : Nat} {ts : List (List Int × Int)} {vs : List V} {R : VK} {E : XK} (hp : p ∈ primes) (h1 : 1 ≤ n) (h12 : n ≤ 12) (ha : H a = some (.dT (rK ts))) (hr : RowsOk n ts) (hn : (ts.map (·.1)).Nodup) (hz : ts.length ≤ 1000000)
    (nx : H x = none) (ndx : H dx = none) (ne : dx ≠ x) (e : vs = [.ref x, .int p, .int n, .ref a]) (k : ∀ H', Same H H' → PolyAt H' C x p n (tid p ts) → R .non H') :
    spInit K bp C B M vs (upd (upd H dx (.own x)) x (.ins C dx [])) R E := by
  have S0 : Same H (upd (upd H dx (.own x)) x (.ins C dx [])) := fun b o e => by rw [upd_ne (ne_of_none e nx), upd_ne (ne_of_none e ndx)]; exact e
  have hw : inB (.int n) 1 12 = true := by
    show (decide ((1 : Int) ≤ n) && decide ((n : Int) ≤ 12)) = true
    rw [decide_eq_true (by omega), decide_eq_true (by omega)]
    rfl
  have hpp : isP (.int p) = true := decide_eq_true hp
  subst e
  refine ⟨x, dx, _, _, _, rfl, upd_same, pv_flat rfl, (fun z => by rw [hpp] at z; cases z), fun _ => ⟨pv_flat rfl, (fun z => by rw [hw] at z; cases z), fun _ => ⟨n, true, rfl, terms_good (S0 _ _ ha) hr h12 hz, (fun z => by cases z), fun _ => ⟨a, ts, rfl, S0 _ _ ha, hn, fun q hq => ?_, hz, fun z => ?_, fun _ p2 ep d H' ys perm asc S nd hd hx => ?_⟩⟩⟩⟩
  · intro e
    have z := (hr q hq).1
    rw [e] at z
    exact absurd z (by show (0 : Nat) ≠ n; omega)
  · obtain ⟨q, hq, e⟩ := List.any_eq_true.mp z
    have h3 := (hr q hq).2.2
    have h4 : 120 < q.1.sum := of_decide_eq_true e
    omega
  · cases ep
    rw [tidy_tid hn perm asc] at hd hx
    exact k H' (fun b o e => S b o (S0 _ _ e) (ne_of_none e nx)) ⟨dx, d, hx, hd⟩
/-- the classes' own == of polynomials -/
structure PEq (P : Program) (w : World) (K : PySem.W.Frag) (mg : Str → Option Value) (base : Heap) (C fE : Addr) (dE : FuncData) : Prop where
  ok : FnOk P w K mg base CX0 1 fE dE ["self", "other"] (spPolyEq C)
  b : Binds K dE ["self", "other"] []
  at_ : PySem.W.findIn K (.ref C) "__eq__" = some (some (.ref fE))
  fn : PySem.W.isFn K (.ref fE) = true
  ne : PySem.W.findIn K (.ref C) "__ne__" = some (some (.builtin "object.__ne__"))
  n1 : PySem.W.notFirst K C (.ref C) = true
  n2 : PySem.W.notFirst K C (.type "dict") = true
/-- making polynomials -/
structure PMake (P : Program) (w : World) (K : PySem.W.Frag) (mg : Str → Option Value) (base : Heap) (bp C B M fI : Addr) (dI : FuncData) : Prop where
  mkk : Mk K C fI
  ok : FnOk P w K mg base (L2.CX P w) 6 fI dI ["self", "prime", "wide", "terms"] (spInit K bp C B M)
  b : Binds K dI ["self", "prime", "wide", "terms"] []
  kb : KBn K dI ["self", "prime", "wide", "terms"] 1 ["prime", "wide", "terms"] cat cat
structure PTm (P : Program) (w : World) (K : PySem.W.Frag) (mg : Str → Option Value) (base : Heap) (C pT fT : Addr) (dT : FuncData) : Prop where
  ok : FnOk P w K mg base CX0 1 fT dT ["self"] (spTerms C)
  at_ : PropOf K C "terms" pT fT
  b : Binds K dT ["self"] []
structure DefG (P : Program) (w : World) (K : PySem.W.Frag) (mg : Str → Option Value) (base : Heap) (k : Nat) (x : Str) (ps : List Str) (sp : Sp) (f : Addr) (fd : FuncData) : Prop where
  ok : FnG P w K mg base k f fd ps sp
  kp : PySem.W.keepIn K (.ref f) = true
  b : Binds K fd ps []
  g : mg x = some (.ref f)
def spAttr : Sp := fun vs H Q _ => ∃ (p : Int) (n : Nat) (a : Addr) (raw : List (List Int × Int)), vs = [.int p, .int n, .ref a] ∧ p ∈ fields ∧ 1 ≤ n ∧ n ≤ 4 ∧ H a = some (.dT (rK raw)) ∧ Raw n raw ∧ ∀ H', Same H H' → Q (.bl true) H'
abbrev NAT : List Str := ["field", "wide_here", "raw", "told", "again", "bent"]
theorem sc51 : FnScope NAT ["field", "wide_here", "raw"] (defScope (top 51)) := ⟨rfl, rfl, rfl, by decide +kernel, rfl, by decide +kernel, by decide +kernel⟩
theorem ok_attr {f fI pT fT fE fP fD fG : Addr} {fd dI dT dE dP dD dG : FuncData} (F : Fun K "_law_attributes_right" "_law_attributes_right" (top 51) f fd) (Y : Py K mg C B M)
    (I : PMake P w K mg base bp C B M fI dI) (Tm : PTm P w K mg base C pT fT dT) (Eq : PEq P w K mg base C fE dE)
    (DP : DefG P w K mg base 3 "_law_is_poly" ["thing", "field", "wide_here", "terms_here"] (spIsPoly C) fP dP)
    (DD : Def P w K mg base CX0 1 "_law_tidied" ["field", "terms_here"] spTid fD dD)
    (DG : Def P w K mg base CX0 1 "_law_degree" ["terms_here"] spDegree fG dG) :
    FnG P w K mg base 8 f fd ["field", "wide_here", "raw"] spAttr := by
  refine okG F sc51 (fun vs H Q E h => ?_) (fun cdv A outer s H vs Q hr hgd h => ?_)
  · obtain ⟨p, n, a, raw, rfl, _⟩ := h
    rfl
  · obtain ⟨p, n, a, raw, rfl, hp, n1, n4, ha, R, k⟩ := h
    have hu := hu_of hr
    have r1 : Room 1 _ := hr.mono (by decide)
    have r2 : Room 2 _ := hr.mono (by decide)
    have r3 : Room 3 _ := hr.mono (by decide)
    refine ⟨_, pss_cons (ps_set (i := 3) sc51.nd rfl (Or.inl rfl) (pe_make (E := fun _ _ _ => False) I.mkk I.ok hr rfl Y.gC I.b .nil passF (pa_cons (pv 0) (pa_cons (pv 1) (pa_cons (pv 2) pa_nil)))))
      (pss_cons (ps_if (PW.pt (pw_or (pt_not (pt_val (pe_callG DP.ok hgd r3 rfl DP.g DP.kp DP.b pass0 (pa_cons (pv 3) (pa_cons (pv 0) (pa_cons (pv 1) (pa_cons (pv 2) pa_nil)))))))
          (pw_or1 (pt_cmpR op_ne (pe_fld (pv 3) rfl) (pe_call DG.ok r1 rfl DG.g DG.kp DG.b .nil pass0 (pa_cons (pe_call DD.ok r1 rfl DD.g DD.kp DD.b .nil pass0 (pa_cons (pv 0) (pa_cons (pv 2) pa_nil))) pa_nil)) (nomark _))))) (pss_one (ps_ret pe_bl)) pss_nil)
      (pss_cons (ps_dput hu (pe_prop (E := E0) (pv 3) Y.cl Tm.at_ Tm.ok r2 Tm.b .nil pass0 rfl) (pe_op op_repN (pe_tup (pa_cons pe_int pa_nil)) (pv 1)) pe_int rfl)
      (pss_cons (ps_set (i := 4) sc51.nd rfl (Or.inl rfl) (pe_makeK0 (E := fun _ _ _ => False) I.mkk I.ok hr rfl Y.gC I.kb passF (pk_cons (pv 0) (pk_cons (pv 1) (pk_cons (pe_call DD.ok r1 rfl DD.g DD.kp DD.b .nil pass0 (pa_cons (pv 0) (pa_cons (pv 2) pa_nil))) pk_nil)))))
      (pss_cons (ps_if (PW.pt (pw_or (pt_cmpR (op_neI (E := E0) Eq.ok Eq.b pass0 Eq.at_ Eq.fn Eq.ne Y.c4 r2) (pv 4) (pv 3) (nomark _))
          (pw_or (pt_not (pt_val (pe_callG DP.ok hgd r3 rfl DP.g DP.kp DP.b pass0 (pa_cons (pv 3) (pa_cons (pv 0) (pa_cons (pv 1) (pa_cons (pv 2) pa_nil)))))))
            (pw_or1 (pt_cmpR (op_eqI (E := E0) Eq.ok Eq.b pass0 Eq.at_ Eq.fn r1) (pv 3) (pv 2) (nomark _)))))) (pss_one (ps_ret pe_bl)) pss_nil)
      (pss_cons (ps_set (i := 5) sc51.nd rfl (Or.inl rfl) (pe_call DD.ok r1 rfl DD.g DD.kp DD.b .nil pass0 (pa_cons (pv 0) (pa_cons (pv 2) pa_nil))))
      (pss_cons (ps_dput hu (pv 5) (pe_op op_repN (pe_tup (pa_cons pe_int pa_nil)) (pv 1)) (pe_op op_add (pe_dget2 hu (pv 5) (pe_op op_repN (pe_tup (pa_cons pe_int pa_nil)) (pv 1)) pe_int ⟨rfl, rfl, rfl, rfl⟩) pe_int) rfl)
      (pss_one (ps_ret (pe_and (pe_cmpR (op_neI (E := E0) Eq.ok Eq.b pass0 Eq.at_ Eq.fn Eq.ne Y.c4 r2) (pe_make (E := fun _ _ _ => False) I.mkk I.ok hr rfl Y.gC I.b .nil passF (pa_cons (pv 0) (pa_cons (pv 1) (pa_cons (pv 5) pa_nil)))) (pv 3) (nomark _))
        (pe_one (pe_cmpR (op_neI (E := E0) Eq.ok Eq.b pass0 Eq.at_ Eq.fn Eq.ne Y.c4 r2) (pe_make (E := fun _ _ _ => False) I.mkk I.ok hr rfl Y.gC I.b .nil passF (pa_cons (pv 0) (pa_cons (pe_op op_add (pv 1) pe_int) (pa_cons pe_dnewT pa_nil))))
          (pe_make (E := fun _ _ _ => False) I.mkk I.ok hr rfl Y.gC I.b .nil passF (pa_cons (pv 0) (pa_cons (pv 1) (pa_cons pe_dnewT pa_nil)))) (nomark _)))))))))))), ?_⟩
    obtain ⟨pp, p2, p100⟩ := fields_p hp
    have p0 : 0 < p := by omega
    have n5 : n < 5 := by omega
    have nd := R.nd
    have rows := four_rows n5 R.four
    have rne := four_ne n1 n5 R.four
    have rlen := R.len
    have l1 : raw.length ≤ 1000000 := by omega
    have fair := fair_tid p0 p100 (show n ≤ 12 by omega) nd rows (by omega)
    have tl : (tid p raw).length ≤ 5 := Nat.le_trans (tid_len p raw) rlen
    refine ⟨_, rfl, _, rfl, _, rfl, fun y1 dx ny1 ndx nex => make_p pp n1 (by omega) ha rows nd l1 ny1 ndx nex rfl fun H1 S1 hy1 => ⟨rfl, ?_⟩⟩
    have ha1 := S1 _ _ ha
    refine ⟨_, rfl, _, rfl, _, rfl, _, rfl, y1, a, p, n, _, raw, rfl, hy1, ha1, p0, nd, rne, l1, tid_nd, by omega, shows_of fair, fun ys pm ac => tidy_tid nd pm ac, fun H2 S2 => ?_⟩
    have ha2 := S2 _ _ ha1
    have hy2 := hy1.same S2
    obtain ⟨dx2, d2, hi2, hd2⟩ := id hy2
    refine ⟨_, rfl, iteF ⟨_, rfl, y1, C, dx2, _, _, rfl, hi2, Y.cl, Y.n4, fs_degree _ _ _ _, ?_⟩⟩
    refine ⟨_, rfl, _, rfl, p, a, raw, rfl, p0, ha2, nd, rne, l1, fun D H3 S3 nD hD => ⟨D, _, rfl, hD, by omega, fun q hq => ?_, fun H4 S4 => ?_⟩⟩
    · have z := rows_tid nd rows q hq
      exact (le_sum z.2.1).2
    refine ⟨rfl, _, rfl, ite2 (fun z => absurd z (by simp)) fun _ => ?_⟩
    have S24 := S3.trans S4
    have hy4 := hy2.same S24
    have ha4 := S24 _ _ ha2
    obtain ⟨dx4, d4, hi4, hd4⟩ := id hy4
    clear hi2 hd2 hD
    have S04 : Same H H4 := (S1.trans S2).trans S24
    have sm : sameP p n (tid p raw) p n (tid p raw) = true := by
      unfold sameP
      rw [if_pos ⟨rfl, rfl⟩]
      exact same_refl tid_nd
    refine ⟨_, rfl, y1, dx4, _, rfl, hi4, y1, p, n, _, rfl, hy4, tid_nd, by omega, fun q H5 S5 nq hq => ?_⟩
    refine ⟨(show (1 : Nat) ≤ sizeLine by decide), fun l hl => ⟨_, rfl, ?_⟩⟩
    refine rep_read (K := K) upd_same n1 (by omega) fun t H6 S6 ht6 => ?_
    have S56 := ((Same.refl H5).put (o := .tup [V.int 7]) hl).trans S6
    refine ⟨q, _, rfl, DPut.t (k := rowK (List.replicate n 7)) (S56 _ _ hq) (by rw [rowK_kV]; exact ht6) (by rw [asK_len]; exact small1000 (by omega)), ?_⟩
    have S47 : Same H4 (upd H6 q (.dT (putK (rK (tid p raw)) (rowK (List.replicate n 7)) (V.int 1)))) := fun b o e => by
      rw [upd_ne (ne_of_none e nq)]
      exact S56 _ _ (S5 _ _ e)
    generalize upd H6 q (.dT (putK (rK (tid p raw)) (rowK (List.replicate n 7)) (V.int 1))) = H7 at S47
    have hy7 := hy4.same S47
    have ha7 := S47 _ _ ha4
    clear S5 nq hq S6 ht6 S56 hl
    refine ⟨_, rfl, _, rfl, _, rfl, _, rfl, p, a, raw, rfl, p0, ha7, nd, rne, l1, fun D H8 S8 nD hD => ?_⟩
    refine ⟨rfl, rfl, fun y2 dx ny2 ndx nex => make_p pp n1 (by omega) hD (rows_tid nd rows) tid_nd (by omega) ny2 ndx nex rfl fun H9 S9 hy9 => ⟨rfl, ?_⟩⟩
    rw [tid_tid nd] at hy9
    have hy9b := hy7.same (S8.trans S9)
    have ha9 := (S8.trans S9) _ _ ha7
    obtain ⟨dx9, d9, hi9, hd9⟩ := id hy9
    obtain ⟨dx9b, d9b, hi9b, hd9b⟩ := id hy9b
    refine ⟨_, rfl, _, rfl, y2, dx9, _, .ref C, rfl, hi9, .ins hi9b, Eq.n1, y2, _, p, n, _, rfl, hy9, .inr ⟨y1, p, n, _, rfl, hy9b, _, rfl, _, rfl, ?_⟩⟩
    rw [sm]
    refine ite2 (fun z => absurd z (by decide)) fun _ => ?_
    refine ⟨_, rfl, _, rfl, _, rfl, _, rfl, y1, a, p, n, _, raw, rfl, hy9b, ha9, p0, nd, rne, l1, tid_nd, by omega, shows_of fair, fun ys pm ac => tidy_tid nd pm ac, fun H10 S10 => ?_⟩
    have hy10 := hy9b.same S10
    have ha10 := S10 _ _ ha9
    obtain ⟨dx10, d10, hi10, hd10⟩ := id hy10
    refine ⟨_, rfl, iteF ⟨_, rfl, _, rfl, y1, dx10, _, .type "dict", rfl, hi10, .dT (Rd.of ha10), Eq.n2, y1, _, p, n, _, rfl, hy10, .inl ⟨a, _, rfl, ha10, _, rfl, _, rfl, ?_⟩⟩⟩
    refine ite2 (fun z => absurd z (by decide)) fun _ => ?_
    refine ⟨_, rfl, _, rfl, p, a, raw, rfl, p0, ha10, nd, rne, l1, fun D2 H11 S11 nD2 hD2 => ?_⟩
    have hy11 := hy10.same S11
    have S011 : Same H H11 := ((((S04.trans S47).trans (S8.trans S9)).trans S10)).trans S11
    have nDH : H D2 = none := (((S04.trans S47).trans (S8.trans S9)).trans S10).free nD2
    have nd10 : d10 ≠ D2 := fun e => by rw [e, nD2] at hd10; cases hd10
    have hi11 := S11 _ _ hi10
    have hd11 := S11 _ _ hd10
    clear S8 S9 S10 S11 hi10 hd10 hi9 hd9 hi9b hd9b hy9 hy9b hD hi4 hd4
    refine ⟨_, rfl, D2, rfl, .inr ⟨_, .inl hD2⟩, (show (1 : Nat) ≤ sizeLine by decide), fun l2 hl2 => ⟨_, rfl, ?_⟩⟩
    refine rep_read (K := K) upd_same n1 (by omega) fun t2 H12 S12 ht12 => ?_
    have S12b := ((Same.refl H11).put (o := .tup [V.int 0]) hl2).trans S12
    have hD12 := S12b _ _ hD2
    have g1 : DGet H12 D2 (.ref t2) (valV (rK (tid p raw)) (rowK (List.replicate n 0))) := .inr ⟨_, _, t2, .inl hD12, rfl, by rw [rowK_kV]; exact ht12, rfl⟩
    rw [valV_asK rowK_inj] at g1
    refine ⟨_, g1, _, _, getD_int _ _, rfl, _, rfl, (show (1 : Nat) ≤ sizeLine by decide), fun l3 hl3 => ⟨_, rfl, ?_⟩⟩
    refine rep_read (K := K) upd_same n1 (by omega) fun t3 H13 S13 ht13 => ?_
    have S13b := ((Same.refl H12).put (o := .tup [V.int 0]) hl3).trans S13
    have hD13 := S13b _ _ hD12
    refine ⟨D2, _, rfl, DPut.t (k := rowK (List.replicate n 0)) hD13 (by rw [rowK_kV]; exact ht13) (by rw [asK_len]; exact small1000 (by omega)), ?_⟩
    rw [putK_asK rowK_inj]
    have hy13 := hy11.same (S12b.trans S13b)
    have S014 : Same H (upd H13 D2 (.dT (rK (putA (tid p raw) (List.replicate n 0) ((getA (tid p raw) (List.replicate n 0)).getD 0 + 1))))) := fun b o e => by
      rw [upd_ne (ne_of_none e nDH)]
      exact S13b _ _ (S12b _ _ (S011 _ _ e))
    have hD14 : upd H13 D2 (.dT (rK (putA (tid p raw) (List.replicate n 0) ((getA (tid p raw) (List.replicate n 0)).getD 0 + 1)))) D2 = some (.dT (rK (putA (tid p raw) (List.replicate n 0) ((getA (tid p raw) (List.replicate n 0)).getD 0 + 1)))) := upd_same
    have hy14 : PolyAt (upd H13 D2 (.dT (rK (putA (tid p raw) (List.replicate n 0) ((getA (tid p raw) (List.replicate n 0)).getD 0 + 1))))) C y1 p n (tid p raw) := by
      refine ⟨dx10, d10, ?_, ?_⟩
      · rw [upd_ne (fun e => by rw [e, hD2] at hi11; cases hi11)]
        exact S13b _ _ (S12b _ _ hi11)
      · rw [upd_ne nd10]
        exact S13b _ _ (S12b _ _ hd11)
    generalize upd H13 D2 (.dT (rK (putA (tid p raw) (List.replicate n 0) ((getA (tid p raw) (List.replicate n 0)).getD 0 + 1)))) = H14 at S014 hD14 hy14
    clear S12 S12b S13 S13b hD12 hD13 g1 hl2 hl3
    have zr : RowsOk n (putA (tid p raw) (List.replicate n 0) ((getA (tid p raw) (List.replicate n 0)).getD 0 + 1)) := keys_put (Φ := fun r : List Int => r.length = n ∧ (∀ e ∈ r, 0 ≤ e) ∧ r.sum ≤ 120) (rows_tid (p := p) nd rows) ⟨List.length_replicate, (fun e he => by rw [(List.mem_replicate.mp he).2]; exact Int.le_refl _), by rw [zeros_sum]; decide⟩ _
    have zn := nodup_put (tid_nd (p := p) (A := raw)) (List.replicate n 0) ((getA (tid p raw) (List.replicate n 0)).getD 0 + 1)
    have zl := putA_len (tid p raw) (List.replicate n 0) ((getA (tid p raw) (List.replicate n 0)).getD 0 + 1)
    have zc : cf (putA (tid p raw) (List.replicate n 0) ((getA (tid p raw) (List.replicate n 0)).getD 0 + 1)) (List.replicate n 0) = cf (tid p raw) (List.replicate n 0) + 1 := by
      rw [cf_pr _ zn, pr_put _ _ _ tid_nd, ← cf_pr _ tid_nd, if_pos rfl]
      show cf (tid p raw) (List.replicate n 0) + (cf (tid p raw) (List.replicate n 0) + 1 - cf (tid p raw) (List.replicate n 0)) * 1 = _
      omega
    have cr := cf_tid (p := p) nd (List.replicate n 0)
    generalize putA (tid p raw) (List.replicate n 0) ((getA (tid p raw) (List.replicate n 0)).getD 0 + 1) = bent at hD14 zr zn zl zc
    have sf : sameP p n (tid p bent) p n (tid p raw) = false := by
      unfold sameP
      rw [if_pos ⟨rfl, rfl⟩]
      cases e : sameT (rK (tid p bent)) (rK (tid p raw)) with
      | false => rfl
      | true =>
        have z := same_cf tid_nd tid_nd e (List.replicate n 0)
        rw [cf_tid zn, zc] at z
        have b1 := Int.emod_nonneg (cf raw (List.replicate n 0)) (show p ≠ 0 by omega)
        have b2 := Int.emod_lt_of_pos (cf raw (List.replicate n 0)) p0
        rw [← cr] at b1 b2
        by_cases zz : cf (tid p raw) (List.replicate n 0) + 1 = p
        · rw [zz, Int.emod_self] at z
          omega
        · rw [Int.emod_eq_of_lt (by omega) (by omega)] at z
          omega
    refine ⟨_, rfl, _, rfl, _, rfl, fun y3 dx ny3 ndx nex => make_p pp n1 (by omega) hD14 zr zn (by omega) ny3 ndx nex rfl fun H15 S15 hy15 => ⟨rfl, ?_⟩⟩
    have hy15b := hy14.same S15
    obtain ⟨dx15, d15, hi15, hd15⟩ := id hy15
    obtain ⟨dx15b, d15b, hi15b, hd15b⟩ := id hy15b
    refine ⟨_, rfl, y3, dx15, _, .ref C, rfl, hi15, .ins hi15b, Eq.n1, y3, _, p, n, _, rfl, hy15, .inr ⟨y1, p, n, _, rfl, hy15b, _, rfl, ?_⟩⟩
    rw [sf]
    refine ⟨_, rfl, iteT ?_⟩
    refine ⟨_, rfl, _, rfl, _, _, rfl, rfl, fun D4 hD4 => ?_⟩
    have S16 : Same H15 (upd H15 D4 (.dT [])) := (Same.refl _).put hD4
    have r0 : ∀ n, RowsOk n [] := fun n q hq => nomatch hq
    have l0 : ([] : List (List Int × Int)).length ≤ 1000000 := by decide
    refine fun y4 dx ny4 ndx nex => make_p (n := n + 1) (ts := []) pp (by omega) (by omega) upd_same (r0 _) List.nodup_nil l0 ny4 ndx nex rfl fun H17 S17 hy17 => ⟨rfl, ?_⟩
    refine ⟨_, rfl, _, rfl, fun D5 hD5 => ?_⟩
    have S18 : Same H17 (upd H17 D5 (.dT [])) := (Same.refl _).put hD5
    refine fun y5 dx ny5 ndx nex => make_p (n := n) (ts := []) pp n1 (by omega) upd_same (r0 _) List.nodup_nil l0 ny5 ndx nex rfl fun H19 S19 hy19 => ⟨rfl, ?_⟩
    have hy19b := hy17.same (S18.trans S19)
    obtain ⟨dx19, d19, hi19, hd19⟩ := id hy19
    obtain ⟨dx19b, d19b, hi19b, hd19b⟩ := id hy19b
    have sf2 : sameP p ((n + 1 : Nat) : Int) (tid p []) p n (tid p []) = false := by
      unfold sameP
      rw [if_neg]
      rintro ⟨_, z⟩
      omega
    refine ⟨y4, dx19b, _, .ref C, rfl, hi19b, .ins hi19, Eq.n1, y4, _, p, _, _, rfl, hy19b, .inr ⟨y5, p, n, _, rfl, hy19, _, rfl, ?_⟩⟩
    rw [sf2]
    exact k H19 ((((S014.trans S15).trans S16).trans (S17.trans S18)).trans S19)
end
end P2
end

section
set_option maxRecDepth 100000
set_option maxHeartbeats 2000000
namespace P2
open PySem L2 ClX
/-- tidy terms of raw ones -/
def Canon (n : Nat) (p : Int) (A : List (List Int × Int)) : Prop := ∃ raw, Raw n raw ∧ A = tid p raw
structure CanonF (n : Nat) (p : Int) (A : List (List Int × Int)) : Prop where
  nd : (A.map (·.1)).Nodup
  four : Four n A
  len : A.length ≤ 5
  self : tid p A = A
  ts : TsOk p n A
  sum : ∀ q ∈ A, q.1.sum ≤ 4
  row : RowsOk n A
  ln : ∀ q ∈ A, q.1.length = n
  ne : ∀ q ∈ A, q.1 ≠ []
  vals : ∀ q ∈ A, -(2 ^ 60) < q.2 ∧ q.2 < 2 ^ 60
theorem canon_f {n : Nat} {p : Int} (hp : p ∈ fields) (n1 : 1 ≤ n) (n4 : n ≤ 4) {A : List (List Int × Int)} (h : Canon n p A) : CanonF n p A := by
  obtain ⟨raw, R, rfl⟩ := h
  obtain ⟨pp, p2, p100⟩ := fields_p hp
  have n5 : n < 5 := by omega
  have f := four_tid (p := p) R.nd R.four
  have r := four_rows n5 f
  have rl := R.len
  have tl := tid_len p raw
  have l : (tid p raw).length ≤ 1000000 := by omega
  refine ⟨tid_nd, f, by omega, tid_tid R.nd, tsok_tid (by omega) R.nd (four_rows n5 R.four) (by omega), fun q hq => (four_row n5 (f q hq)).2.2.2, r, fun q hq => (r q hq).1, four_ne n1 n5 f, fun q hq => ?_⟩
  have v := tid_val (show 0 < p by omega) R.nd hq
  omega
theorem degOf_le {ts : List (List Int × Int)} {d : Int} (h : ∀ q ∈ ts, q.1.sum ≤ d) (h1 : -1 ≤ d) : degOf ts ≤ d := by
  unfold degOf
  cases ts with
  | nil => exact h1
  | cons q ts =>
    show (ts.map fun p => p.1.sum).foldl max q.1.sum ≤ d
    obtain ⟨_, _, c⟩ := foldl_max (ts.map fun p => p.1.sum) q.1.sum
    rcases c with c | c
    · rw [c]
      exact h q List.mem_cons_self
    · obtain ⟨u, hu, e⟩ := List.mem_map.mp c
      rw [← e]
      exact h u (List.mem_cons_of_mem _ hu)
theorem addL_rows {n : Nat} {A B : List (List Int × Int)} (c : Int) (h : RowsOk n A) (g : RowsOk n B) : RowsOk n (addL A B c) := keys_addF (Φ := fun r => r.length = n ∧ (∀ e ∈ r, 0 ≤ e) ∧ r.sum ≤ 120) (fun q : List Int × Int => (q.1, c * q.2)) B h g
theorem mulL_rows {n : Nat} {d e : Int} {A B : List (List Int × Int)} (h : RowsOk n A) (g : RowsOk n B) (dA : ∀ q ∈ A, q.1.sum ≤ d) (dB : ∀ q ∈ B, q.1.sum ≤ e) (de : d + e ≤ 120) : RowsOk n (mulL A B) ∧ ∀ q ∈ mulL A B, q.1.sum ≤ d + e := by
  have k := mulL_keys (Φ := fun r : List Int => r.length = n ∧ (∀ e ∈ r, 0 ≤ e) ∧ r.sum ≤ d + e) (A := A) (B := B) fun a ha b hb => ⟨addR_len (h a ha).1 (g b hb).1, addR_nn (h a ha).2.1 (g b hb).2.1, by
    rw [addR_sum (by rw [(h a ha).1, (g b hb).1])]
    have := dA a ha
    have := dB b hb
    omega⟩
  exact ⟨fun q hq => ⟨(k q hq).1, (k q hq).2.1, by have := (k q hq).2.2; omega⟩, fun q hq => (k q hq).2.2⟩
/-- the law's own powers -/
def dueL (p : Int) (n : Nat) (A : List (List Int × Int)) : Nat → List (List Int × Int)
  | 0 => [(List.replicate n 0, 1)]
  | i + 1 => tid p (mulL (dueL p n A i) A)
structure DueF (p : Int) (n : Nat) (A : List (List Int × Int)) (i : Nat) : Prop where
  nd : ((dueL p n A i).map (·.1)).Nodup
  row : RowsOk n (dueL p n A i)
  sum : ∀ q ∈ dueL p n A i, q.1.sum ≤ 4 * i
  len : (dueL p n A i).length ≤ 5 ^ i
  vals : ∀ q ∈ dueL p n A i, -(2 ^ 60) < q.2 ∧ q.2 < 2 ^ 60
theorem due_f {p : Int} (p2 : 2 ≤ p) (p100 : p < 100) {n : Nat} {A : List (List Int × Int)} (f : CanonF n p A) : ∀ {i : Nat}, i ≤ 3 → DueF p n A i
  | 0, _ => ⟨List.nodup_cons.mpr ⟨by simp, List.nodup_nil⟩, one_rows List.length_replicate (fun e he => by rw [(List.mem_replicate.mp he).2]; exact Int.le_refl _) (by rw [zeros_sum]; decide), fun q hq => by
      rw [List.mem_singleton.mp hq]
      show (List.replicate n (0 : Int)).sum ≤ _
      rw [zeros_sum]
      decide, Nat.le_refl _, fun q hq => by
      rw [List.mem_singleton.mp hq]
      show -(2 ^ 60) < (1 : Int) ∧ (1 : Int) < 2 ^ 60
      decide⟩
  | i + 1, h => by
    have d := due_f p2 p100 f (i := i) (by omega)
    obtain ⟨r, s⟩ := mulL_rows d.row f.row d.sum f.sum (by omega)
    have nd := mulL_nd (dueL p n A i) A
    refine ⟨tid_nd, rows_tid nd r, fun q hq => ?_, ?_, fun q hq => ?_⟩
    · obtain ⟨u, hu, e⟩ := tid_sub nd hq
      rw [← e]
      have := s u hu
      omega
    · have h1 := tid_len p (mulL (dueL p n A i) A)
      have h2 := mulL_len (dueL p n A i) A
      have h3 : (dueL p n A i).length * A.length ≤ 5 ^ i * 5 := Nat.mul_le_mul d.len f.len
      show (tid p (mulL (dueL p n A i) A)).length ≤ 5 ^ (i + 1)
      rw [Nat.pow_succ]
      omega
    · have v := tid_val (show 0 < p by omega) nd hq
      omega
theorem due_pr {p : Int} {n : Nat} {A : List (List Int × Int)} : ∀ (i : Nat) (φ : List Int → Int), Eqm p (pr (dueL p n A i) φ) (pwR A n i φ)
  | 0, φ => .of (by
    show 1 * φ (List.replicate n 0) + 0 = φ (List.replicate n 0)
    omega)
  | i + 1, φ => by
    show Eqm p (pr (tid p (mulL (dueL p n A i) A)) φ) (pwR A n i fun a => pr A fun b => φ (addR a b))
    refine (tid_eqp (mulL_nd _ _) φ).trans (.trans (.of (mulL_pr _ _ φ)) (due_pr i _))
end P2
end

section
set_option maxRecDepth 100000
set_option maxHeartbeats 4000000
namespace P2
open PySem L2 ClX
theorem PolyAt.drawn {H H' : Hp} {C a d l c : Addr} {p n : Int} {ts : List (List Int × Int)} (D : DrawAt H d l c) (S : Drawn d l H H') (h : PolyAt H C a p n ts) : PolyAt H' C a p n ts := by
  obtain ⟨dx, e, h1, h2⟩ := h
  obtain ⟨r, t, hd⟩ := D.hd
  obtain ⟨ls, hl, _⟩ := D.hl
  have n2 := D.dt h2
  exact ⟨dx, e, S _ _ h1 (fun z => by rw [z, hd] at h1; cases h1) (fun z => by rw [z, hl] at h1; cases h1), S _ _ h2 n2.1 n2.2⟩
section
variable {P : Program} {w : World} {K : PySem.W.Frag} {mg : Str → Option Value} {base : Heap} {bp C B M N : Addr}
/-- a def that may be called with names of parameters -/
structure DefK (P : Program) (w : World) (K : PySem.W.Frag) (mg : Str → Option Value) (base : Heap) (CX : CXT) (k : Nat) (x : Str) (ps : List Str) (n : Nat) (ks : List Str) (sp : Sp) (f : Addr) (fd : FuncData) : Prop where
  ok : FnOk P w K mg base CX k f fd ps sp
  kp : PySem.W.keepIn K (.ref f) = true
  b : Binds K fd ps []
  kb : KBn K fd ps n ks cat cat
  g : mg x = some (.ref f)
theorem gives_tid {H : Hp} {p : Int} {n : Nat} {ts R : List (List Int × Int)} {Q : VK} (nd : (ts.map (·.1)).Nodup) (e : tid p ts = R) (k : ∀ y H', Same H H' → H y = none → PolyAt H' C y p n R → Q (.ref y) H') : Gives C H p n ts Q := fun y H' ys pm ac S ny hy => k y H' S ny (by rw [← e, ← tidy_tid nd pm ac]; exact hy)
def spSums : Sp := fun vs H Q _ => ∃ (d l c a b : Addr) (p : Int) (n : Nat) (A B : List (List Int × Int)), vs = [.ref d, .int p, .int n, .ref a, .ref b] ∧ DrawAt H d l c ∧ p ∈ fields ∧ 1 ≤ n ∧ n ≤ 4 ∧ H a = some (.dT (rK A)) ∧ H b = some (.dT (rK B)) ∧ a ≠ b ∧ Canon n p A ∧ Canon n p B ∧
  ∀ H', DrawAt H' d l c → Drawn d l H H' → Q (.bl true) H'
abbrev NSU : List Str := ["draw", "field", "wide_here", "one", "two", "first", "second", "made", "many_here", "due", "most", "lap", "spot", "row", "k"]
theorem sc52 : FnScope NSU ["draw", "field", "wide_here", "one", "two"] (defScope (top 52)) := ⟨rfl, rfl, rfl, by decide +kernel, rfl, by decide +kernel, by decide +kernel⟩
theorem ok_sums {f fI fP fA fM fT fS fQ fC fW fL fK : Addr} {fd dI dP dA dM dT dS dQ dC dW dL dK : FuncData} (F : Fun K "_law_sums_right" "_law_sums_right" (top 52) f fd) (T : Tx K mg bp) (Y : Py K mg C B M)
    (I : PMake P w K mg base bp C B M fI dI)
    (DP : DefG P w K mg base 3 "_law_is_poly" ["thing", "field", "wide_here", "terms_here"] (spIsPoly C) fP dP)
    (DA : ∀ n, 1 ≤ n → n < 5 → Def P w K mg base CX0 2 "_law_added" ["field", "one", "two", "many_here"] (spAdded n) fA dA)
    (DM : Def P w K mg base CX0 2 "_law_multiplied" ["field", "one", "two"] spMultd fM dM)
    (DT : Def P w K mg base CX0 2 "_law_take" ["draw", "amount"] spTake fT dT)
    (GS : DefK P w K mg base (L2.CX P w) 9 "poly_sum" ["one", "other"] 1 ["other"] (spPolySum K C B) fS dS)
    (GQ : DefK P w K mg base (L2.CX P w) 9 "poly_product" ["one", "other"] 0 ["one", "other"] (spPolyProd K C B M) fQ dQ)
    (GC : DefK P w K mg base (L2.CX P w) 8 "poly_scaled" ["one", "number"] 1 ["number"] (spPolyScaled K C B N) fC dC)
    (GW : DefK P w K mg base (L2.CX P w) 9 "poly_power" ["one", "times"] 1 ["times"] (spPolyPow K C B M N) fW dW)
    (GL : Def P w K mg base (L2.CX P w) 8 "letter" ["prime", "wide", "spot"] (spLetter K bp C N) fL dL)
    (GK : DefK P w K mg base (L2.CX P w) 8 "constant" ["prime", "wide", "number"] 0 ["prime", "wide", "number"] (spConst K bp C N) fK dK) :
    FnG P w K mg base 10 f fd ["draw", "field", "wide_here", "one", "two"] (spSums) := by
  refine okG F sc52 (fun vs H Q E h => ?_) (fun cdv A outer s H vs Q hr hgd h => ?_)
  · obtain ⟨d, l, c, a, b, p, n, A, B, rfl, _⟩ := h
    rfl
  · obtain ⟨d, l, c, a, b, p, n, A, B, rfl, D, hp, n1, n4, ha, hb, hab, cA, cB, k⟩ := h
    have hu := hu_of hr
    have r1 : Room 1 _ := hr.mono (by decide)
    have r2 : Room 2 _ := hr.mono (by decide)
    have r3 : Room 3 _ := hr.mono (by decide)
    have n5 : n < 5 := by omega
    have DA := DA n n1 n5
    refine ⟨_, pss_cons (ps_par (i := 5) (j := 6) (by rfl) sc52.nd rfl rfl (by decide) rfl rfl
          (pa_cons (pe_make (E := fun _ _ _ => False) I.mkk I.ok (hr.mono (by decide)) rfl Y.gC I.b .nil passF (pa_cons (pv 1) (pa_cons (pv 2) (pa_cons (pv 3) pa_nil))))
          (pa_cons (pe_make (E := fun _ _ _ => False) I.mkk I.ok (hr.mono (by decide)) rfl Y.gC I.b .nil passF (pa_cons (pv 1) (pa_cons (pv 2) (pa_cons (pv 4) pa_nil)))) pa_nil)) (by rfl))
      (pss_cons (ps_if (pt_not (pt_val (pe_callG DP.ok hgd r3 rfl DP.g DP.kp DP.b pass0
          (pa_cons (pe_callN (n := 1) (E := fun _ _ _ => False) GS.ok hr rfl GS.g GS.kp GS.kb passF (pa_cons (pv 5) pa_nil) (pk_cons (pv 6) pk_nil)) (pa_cons (pv 1) (pa_cons (pv 2)
            (pa_cons (pe_call DA.ok r2 rfl DA.g DA.kp DA.b .nil pass0 (pa_cons (pv 1) (pa_cons (pv 3) (pa_cons (pv 4) (pa_cons pe_int pa_nil))))) pa_nil))))))) (pss_one (ps_ret pe_bl)) pss_nil)
      (pss_cons (ps_set (i := 7) sc52.nd rfl (Or.inl rfl) (pe_call DM.ok r2 rfl DM.g DM.kp DM.b .nil pass0 (pa_cons (pv 1) (pa_cons (pv 3) (pa_cons (pv 4) pa_nil)))))
      (pss_cons (ps_if (pt_not (pt_val (pe_callG DP.ok hgd r3 rfl DP.g DP.kp DP.b pass0
          (pa_cons (pe_callK0 (E := fun _ _ _ => False) GQ.ok hr rfl GQ.g GQ.kp GQ.kb passF (pk_cons (pv 5) (pk_cons (pv 6) pk_nil))) (pa_cons (pv 1) (pa_cons (pv 2) (pa_cons (pv 7) pa_nil))))))) (pss_one (ps_ret pe_bl)) pss_nil)
      (pss_cons (ps_set (i := 8) sc52.nd rfl (Or.inl rfl) (pe_op op_sub (pe_call DT.ok r2 rfl DT.g DT.kp DT.b .nil pass0 (pa_cons (pv 0) (pa_cons pe_int pa_nil))) pe_int))
      (pss_cons (ps_if (pt_not (pt_val (pe_callG DP.ok hgd r3 rfl DP.g DP.kp DP.b pass0
          (pa_cons (pe_callN (n := 1) (E := fun _ _ _ => False) GC.ok (hr.mono (by decide)) rfl GC.g GC.kp GC.kb passF (pa_cons (pv 5) pa_nil) (pk_cons (pv 8) pk_nil)) (pa_cons (pv 1) (pa_cons (pv 2)
            (pa_cons (pe_call DA.ok r2 rfl DA.g DA.kp DA.b .nil pass0 (pa_cons (pv 1) (pa_cons pe_dnewT (pa_cons (pv 3) (pa_cons (pv 8) pa_nil))))) pa_nil))))))) (pss_one (ps_ret pe_bl)) pss_nil)
      (pss_cons (ps_par (i := 9) (j := 10) (by rfl) sc52.nd rfl rfl (by decide) rfl rfl
          (pa_cons (pe_dispT (Nat.lt_of_succ_lt hu) (pps_cons (pe_op op_repN (pe_tup (pa_cons pe_int pa_nil)) (pv 2)) pe_int pps_nil) (by rfl) (by rfl) (fun z => by cases z) (by decide))
          (pa_cons (pe_call DT.ok r2 rfl DT.g DT.kp DT.b .nil pass0 (pa_cons (pv 0) (pa_cons pe_int pa_nil))) pa_nil)) (by rfl))
      (pss_cons (ps_for PassesOwn.never rfl (pi_range1 rfl T.range (pa_cons (pv 10) pa_nil)) (pg_name (i := 11) sc52.nd rfl (Or.inl rfl))
          (pss_one (ps_set (i := 9) sc52.nd rfl (Or.inl rfl) (pe_call DM.ok r2 rfl DM.g DM.kp DM.b .nil pass0 (pa_cons (pv 1) (pa_cons (pv 9) (pa_cons (pv 3) pa_nil)))))))
      (pss_cons (ps_if (pt_not (pt_val (pe_callG DP.ok hgd r3 rfl DP.g DP.kp DP.b pass0
          (pa_cons (pe_callN (n := 1) (E := fun _ _ _ => False) GW.ok hr rfl GW.g GW.kp GW.kb passF (pa_cons (pv 5) pa_nil) (pk_cons (pv 10) pk_nil)) (pa_cons (pv 1) (pa_cons (pv 2) (pa_cons (pv 9) pa_nil))))))) (pss_one (ps_ret pe_bl)) pss_nil)
      (pss_cons (ps_set (i := 12) sc52.nd rfl (Or.inr rfl) (pe_call DT.ok r2 rfl DT.g DT.kp DT.b .nil pass0 (pa_cons (pv 0) (pa_cons (pv 2) pa_nil))))
      (pss_cons (ps_set (i := 13) sc52.nd rfl (Or.inl rfl) (pe_callTy call_tuple_of (by rfl) T.tuple (by decide +kernel) (pa_cons (pe_lc (own := [("k", 14)]) (g := gName 14) (tt := tYes) rfl sc52.nd (pi_range1 rfl T.range (pa_cons (pv 2) pa_nil)) (blkOk_by (own := [("k", 14)]) (N := NSU) (sc := defScope (top 52)) (by decide +kernel))
          (fun _ _ _ _ _ => pg_name (i := 14) sc52.nd rfl (Or.inl rfl)) (fun _ _ _ _ _ => pts_nil) (fun _ _ _ _ _ => pe_callTy call_int1 (by rfl) T.int (by decide +kernel) (pa_cons (pe_cmpR op_eq (pv 14) (pv 12) (nomark _)) pa_nil))) pa_nil)))
      (pss_cons (ps_if (pt_not (pt_val (pe_callG DP.ok hgd r3 rfl DP.g DP.kp DP.b pass0
          (pa_cons (pe_call (E := fun _ _ _ => False) GL.ok (hr.mono (by decide)) rfl GL.g GL.kp GL.b .nil passF (pa_cons (pv 1) (pa_cons (pv 2) (pa_cons (pv 12) pa_nil)))) (pa_cons (pv 1) (pa_cons (pv 2)
            (pa_cons (pe_dispT (Nat.lt_of_succ_lt hu) (pps_cons (pv 13) pe_int pps_nil) (by rfl) (by rfl) (fun z => by cases z) (by decide)) pa_nil))))))) (pss_one (ps_ret pe_bl)) pss_nil)
      (pss_one (ps_ret (pe_callG DP.ok hgd r3 rfl DP.g DP.kp DP.b pass0
          (pa_cons (pe_callK0 (E := fun _ _ _ => False) GK.ok (hr.mono (by decide)) rfl GK.g GK.kp GK.kb passF (pk_cons (pv 1) (pk_cons (pv 2) (pk_cons (pv 8) pk_nil)))) (pa_cons (pv 1) (pa_cons (pv 2)
            (pa_cons (pe_dispT (Nat.lt_of_succ_lt hu) (pps_cons (pe_op op_repN (pe_tup (pa_cons pe_int pa_nil)) (pv 2)) (pv 8) pps_nil) (by rfl) (by rfl) (fun z => by cases z) (by decide)) pa_nil)))))))))))))))))), ?_⟩
    obtain ⟨pp, p2, p100⟩ := fields_p hp
    have p0 : 0 < p := by omega
    have n12 : n ≤ 12 := by omega
    have fA := canon_f hp n1 n4 cA
    have fB := canon_f hp n1 n4 cB
    have lA := fA.len
    have lB := fB.len
    have l6 : A.length ≤ 1000000 := by omega
    have l6b : B.length ≤ 1000000 := by omega
    refine ⟨_, rfl, _, rfl, _, rfl, fun y1 dx ny1 ndx nex => make_p pp n1 n12 ha fA.row fA.nd l6 ny1 ndx nex rfl fun H1 S1 hy1 => ⟨rfl, ?_⟩⟩
    rw [fA.self] at hy1
    have hb1 := S1 _ _ hb
    refine ⟨_, rfl, _, rfl, _, rfl, fun y2 dx ny2 ndx nex => make_p pp n1 n12 hb1 fB.row fB.nd l6b ny2 ndx nex rfl fun H2 S2 hy2 => ⟨rfl, ?_⟩⟩
    rw [fB.self] at hy2
    have hy12 := hy1.same S2
    have S02 := S1.trans S2
    clear hy1 hb1 S1 S2 ny1 ny2
    have ha2 := S02 _ _ ha
    have hb2 := S02 _ _ hb
    have D2 := D.up S02
    -- the sum
    have zs := sum_tid (p := p) (k := n) fA.nd fB.nd (addL_nd B 1 fA.nd) fA.row fB.row (fun φ => .of (by rw [addL_pr B 1 fA.nd φ]; omega))
    have r3' := addL_rows 1 fA.row fB.row
    have l3 := addL_len B 1 A
    have nd3 := addL_nd B 1 fA.nd
    have f3 := addL_four (c := 1) fA.four fB.four
    refine ⟨_, _, rfl, ?_⟩
    refine ⟨_, rfl, _, rfl, rfl, rfl, _, _, rfl, .inr ⟨y1, p, n, A, rfl, hy12, .inr ⟨y2, p, n, B, rfl, hy2, (fun z => absurd ⟨rfl, rfl⟩ z), fun _ => ⟨n, rfl, pp, n1, n12, fA.ts, fB.ts, by omega, zs.1, gives_tid (terms_nd ..) zs.2 fun y3 H3 S3 ny3 hy3 => ?_⟩⟩⟩⟩
    refine ⟨_, rfl, _, rfl, _, rfl, _, rfl, _, rfl, p, 1, a, b, A, B, rfl, p0, S3 _ _ ha2, S3 _ _ hb2, fA.nd, fB.nd, fA.four, fB.four, by omega, by omega, by decide, by decide, fun D4 H4 S4 nD4 hD4 => ?_⟩
    refine ⟨y3, D4, p, n, _, _, rfl, hy3.same S4, hD4, p0, tid_nd, four_ne n1 n5 (four_tid nd3 f3), Nat.le_trans (tid_len _ _) (by omega), tid_nd, Nat.le_trans (tid_len _ _) (by omega), shows_of (fair_tid p0 p100 n12 nd3 r3' (by omega)), fun ys pm ac => (tidy_tid tid_nd pm ac).trans (tid_tid nd3), fun H5 S5 => ?_⟩
    have S25 := (S3.trans S4).trans S5
    refine ⟨_, rfl, iteF ?_⟩
    have hy15 := hy12.same S25
    have hy25 := hy2.same S25
    have ha5 := S25 _ _ ha2
    have hb5 := S25 _ _ hb2
    have S05 := S02.trans S25
    have D5 := D.up S05
    clear S3 S4 S5 S25 S02 hy3 hy12 hy2 ha2 hb2 zs hD4 ny3 nD4 r3' l3 nd3 f3
    -- the product
    have dA := degOf_le fA.sum (by decide)
    have dB := degOf_le fB.sum (by decide)
    have zp := prod_tid (p := p) (k := n) fA.nd fB.nd (mulL_nd A B) fA.row fB.row fA.sum fB.sum (by decide) (fun φ => .of (mulL_pr A B φ))
    obtain ⟨r6, s6⟩ := mulL_rows fA.row fB.row fA.sum fB.sum (by decide)
    have lab : A.length * B.length ≤ 5 * 5 := Nat.mul_le_mul lA lB
    have l3 := mulL_len A B
    have nd6 := mulL_nd A B
    have ne6 : ∀ q ∈ mulL A B, q.1 ≠ [] := fun q hq e => by
      have z := (r6 q hq).1
      rw [e] at z
      exact absurd z (by show (0 : Nat) ≠ n; omega)
    have ne6t : ∀ q ∈ tid p (mulL A B), q.1 ≠ [] := fun q hq e => by
      obtain ⟨u, hu, e2⟩ := tid_sub nd6 hq
      exact ne6 u hu (e2.trans e)
    refine ⟨_, rfl, _, rfl, _, rfl, p, n, a, b, A, B, rfl, p0, ha5, hb5, hab, fA.nd, fB.nd, n1, n12, fA.ln, fB.ln, by omega, fA.vals, fun D6 H6 S6 nD6 hD6 => ?_⟩
    refine ⟨_, rfl, _, rfl, rfl, _, _, rfl, .inr ⟨y1, p, n, A, rfl, hy15.same S6, .inr ⟨y2, p, n, B, rfl, hy25.same S6, (fun z => absurd ⟨rfl, rfl⟩ z), fun _ => ⟨fun z => absurd z (by omega), fun _ => ⟨n, rfl, pp, n1, n12, fA.ts, fB.ts, by omega, zp.1, gives_tid (terms_nd ..) zp.2 fun y3 H7 S7 ny3 hy3 => ?_⟩⟩⟩⟩⟩
    refine ⟨_, rfl, _, rfl, _, rfl, y3, D6, p, n, _, _, rfl, hy3, S7 _ _ hD6, p0, tid_nd, ne6t, Nat.le_trans (tid_len _ _) (by omega), tid_nd, Nat.le_trans (tid_len _ _) (by omega), shows_of (fair_tid p0 p100 n12 nd6 r6 (by omega)), fun ys pm ac => (tidy_tid tid_nd pm ac).trans (tid_tid nd6), fun H8 S8 => ?_⟩
    refine ⟨_, rfl, iteF ?_⟩
    have S58 := (S6.trans S7).trans S8
    have hy18 := hy15.same S58
    have ha8 := S58 _ _ ha5
    have D8 := D5.up S58
    have S08 := S05.trans S58
    clear S6 S7 S8 S58 hy3 hy15 hy25 ha5 hb5 zp hD6 ny3 nD6 r6 l3 nd6 ne6 ne6t s6 S05 D5
    -- times a number
    refine ⟨_, rfl, d, l, c, 1000, rfl, by decide, by decide, D8, fun v H9 v0 v1 D9 S9 => ⟨_, _, rfl, rfl, ?_⟩⟩
    have hy19 := hy18.drawn D8 S9
    have ha9 := S9 _ _ ha8 (D8.dt ha8).1 (D8.dt ha8).2
    have S09 : Drawn d l H H9 := (Drawn.of S08).trans S9
    clear S9 D8 hy18 ha8 S08
    have m1 : -500 ≤ v - 500 ∧ v - 500 < 500 := by omega
    have ndS : ((scaleT (v - 500) A).map (·.1)).Nodup := nodup_foldA _ _
    have nd9 : ((addL [] A (v - 500)).map (·.1)).Nodup := addL_nd A (v - 500) List.nodup_nil
    have zc : tid p (scaleT (v - 500) A) = tid p (addL [] A (v - 500)) := tid_ext ndS nd9 fun φ => .of (by rw [scale_map fA.nd, pr_scale, addL_pr (A := []) A (v - 500) List.nodup_nil, pr_nil, Int.zero_add])
    have r9 := addL_rows (n := n) (v - 500) (A := []) (fun _ z => nomatch z) fA.row
    have l9 := addL_len A (v - 500) []
    have f9 := addL_four (n := n) (c := (v - 500)) (A := []) (fun _ z => nomatch z) fA.four
    rw [List.length_nil] at l9
    refine ⟨_, rfl, _, rfl, rfl, rfl, _, _, rfl, .inr ⟨y1, p, n, A, rfl, hy19, pv_flat rfl, (fun z => by cases z), fun _ => ⟨(v - 500), n, rfl, rfl, pp, n1, n12, fA.ts, gives_tid ndS zc fun y3 H10 S10 ny3 hy3 => ?_⟩⟩⟩
    refine ⟨_, rfl, _, rfl, _, rfl, fun E0_ nE => ?_⟩
    have S11 : Same H10 (upd H10 E0_ (.dT [])) := (Same.refl _).put nE
    have l0 : ([] : List (List Int × Int)).length ≤ 1000 := by decide
    refine ⟨_, rfl, _, rfl, p, (v - 500), E0_, a, [], A, rfl, p0, upd_same, S11 _ _ (S10 _ _ ha9), List.nodup_nil, fA.nd, (fun _ z => nomatch z), fA.four, l0, by omega, by omega, by omega, fun D12 H12 S12 nD12 hD12 => ?_⟩
    refine ⟨y3, D12, p, n, _, _, rfl, (hy3.same S11).same S12, hD12, p0, tid_nd, four_ne n1 n5 (four_tid nd9 f9), Nat.le_trans (tid_len _ _) (by omega), tid_nd, Nat.le_trans (tid_len _ _) (by omega), shows_of (fair_tid p0 p100 n12 nd9 r9 (by omega)), fun ys pm ac => (tidy_tid tid_nd pm ac).trans (tid_tid nd9), fun H13 S13 => ?_⟩
    refine ⟨_, rfl, iteF ?_⟩
    have S913 := ((S10.trans S11).trans S12).trans S13
    have hy13 := hy19.same S913
    have ha13 := S913 _ _ ha9
    have D13 := D9.up S913
    have S013 : Drawn d l H H13 := S09.trans (Drawn.of S913)
    clear S10 S11 S12 S13 S913 hy3 hy19 ha9 D9 S09 hD12 nD12 ny3 nE ndS nd9 zc r9 l9 f9 l0 v0 v1
    -- powers
    have nz : ∀ e ∈ List.replicate n (0 : Int), 0 ≤ e := fun e he => by rw [(List.mem_replicate.mp he).2]; exact Int.le_refl _
    refine fun X hX => ?_
    have S14 : Same H13 (upd H13 X (.dT [])) := (Same.refl _).put hX
    have hX0 : upd H13 X (.dT []) X = some (.dT []) := upd_same
    generalize upd H13 X (.dT []) = H14 at S14 hX0
    refine ⟨(show (1 : Nat) ≤ sizeLine by decide), fun l2 hl2 => ⟨_, rfl, ?_⟩⟩
    refine rep_read (K := K) upd_same n1 (by omega) fun t H15 S15 ht => ?_
    have S15b := ((Same.refl H14).put (o := .tup [V.int 0]) hl2).trans S15
    refine puts_one (H2 := H14) (S15b _ _ hX0) ht ?_
    have hX16 : upd H15 X (.dT (rK [(List.replicate n 0, 1)])) X = some (.dT (rK [(List.replicate n 0, 1)])) := upd_same
    have S16 : Same H13 (upd H15 X (.dT (rK [(List.replicate n 0, 1)]))) := fun b o e => by
      rw [upd_ne (ne_of_none e hX)]
      exact S15b _ _ (S14 _ _ e)
    generalize upd H15 X (.dT (rK [(List.replicate n 0, 1)])) = H16 at S16 hX16
    have D16 := D13.up S16
    have hy16 := hy13.same S16
    have ha16 := S16 _ _ ha13
    have S016 : Drawn d l H H16 := S013.trans (Drawn.of S16)
    have hXa : X ≠ a := fun e => by rw [e, ha13] at hX; cases hX
    clear S14 hX0 hl2 S15 ht S15b S16 D13 hy13 ha13 S013 hX
    refine ⟨_, rfl, d, l, c, 4, rfl, by decide, by decide, D16, fun u H17 u0 u1 D17 S17 => ?_⟩
    obtain ⟨t, rfl⟩ : ∃ t : Nat, u = t := ⟨u.toNat, by omega⟩
    have hy17 := hy16.drawn D16 S17
    have ha17 := S17 _ _ ha16 (D16.dt ha16).1 (D16.dt ha16).2
    have hX17 := S17 _ _ hX16 (D16.dt hX16).1 (D16.dt hX16).2
    have S017 : Drawn d l H H17 := S016.trans S17
    clear S17 D16 hy16 ha16 hX16 S016
    refine ⟨_, _, rfl, ?_⟩
    refine ⟨_, rfl, t, rfl, by omega, by omega, for_it (walk_range (lo := 0) (n := t)) (fun i σ H' => ∃ (e11 : Option V) (Z : Addr), σ = [some (.ref d), some (.int p), some (.int n), some (.ref a), some (.ref b), some (.ref y1), some (.ref y2), some (.ref D6), some (.int (v - 500)), some (.ref Z), some (.int t), e11, none, none, none] ∧ Same H17 H' ∧ H' Z = some (.dT (rK (dueL p n A i))) ∧ Z ≠ a)
      ⟨none, X, rfl, Same.refl _, hX17, hXa⟩ (fun _ _ _ _ _ => trivial) ?_ ?_⟩
    · rintro i x σ H18 H19 hi ⟨e11, Z, rfl, S18, hZ, hZa⟩ ⟨rfl, rfl⟩
      have fd := due_f p2 p100 fA (i := i) (by omega)
      have len5 : (dueL p n A i).length * A.length ≤ 5 ^ i * 5 := Nat.mul_le_mul fd.len lA
      have pw5 : 5 ^ i ≤ 5 ^ 3 := Nat.pow_le_pow_right (by omega) (by omega)
      refine ⟨_, rfl, _, rfl, _, rfl, p, n, Z, a, _, A, rfl, p0, hZ, S18 _ _ ha17, hZa, fd.nd, fA.nd, n1, n12, (fun q hq => (fd.row q hq).1), fA.ln, by omega, fd.vals, fun D20 H20 S20 nD hD => ?_⟩
      exact ⟨_, D20, rfl, S18.trans S20, hD, fun e => by rw [e, S18 _ _ ha17] at nD; cases nD⟩
    · rintro σ H18 ⟨e11, Z, rfl, S18, hZ, hZa⟩
      have fd := due_f p2 p100 fA (i := t) (by omega)
      have pw5 : 5 ^ t ≤ 5 ^ 3 := Nat.pow_le_pow_right (by omega) (by omega)
      have zw := pow_tid (p := p) (d := 4) (k := n) (n := t) p2 (by omega) fA.nd fd.nd fA.row fA.sum (by omega) (fun φ => due_pr t φ)
      have zk := pow_ok (p := p) (n := t) (by omega) p2 (f := packOf A) (Nat.le_trans (pack_len A) (by omega))
      have zd := pow_nd (p := p) (n := t) (by omega) p2 (packOf A)
      have hy18 := hy17.same S18
      have ib : inB (.int (t : Int)) 0 120 = true := by
        show (decide ((0 : Int) ≤ t) && decide ((t : Int) ≤ 120)) = true
        rw [decide_eq_true (by omega), decide_eq_true (by omega)]
        rfl
      have dm : degOf A * (t : Int) ≤ 120 := by
        obtain rfl | rfl | rfl | rfl : t = 0 ∨ t = 1 ∨ t = 2 ∨ t = 3 := by omega
        all_goals omega
      refine ⟨_, rfl, _, rfl, rfl, rfl, _, _, rfl, .inr ⟨y1, p, n, A, rfl, hy18, pv_flat rfl, (fun z => by rw [ib] at z; cases z), fun _ => ⟨t, rfl, fun z => absurd z (by omega), fun _ => ⟨n, rfl, pp, n1, n12, fA.ts, by omega, zk.1, zd, zk.2, zw.1, gives_tid (terms_nd ..) zw.2 fun y3 H19 S19 ny3 hy3 => ?_⟩⟩⟩⟩
      have dl := fd.len
      refine ⟨_, rfl, _, rfl, _, rfl, y3, Z, p, n, _, _, rfl, hy3, S19 _ _ hZ, p0, fd.nd, (fun q hq e => ?_), by omega, tid_nd, Nat.le_trans (tid_len _ _) (by omega), shows_of (fair_tid p0 p100 n12 fd.nd fd.row (by omega)), fun ys pm ac => tidy_tid fd.nd pm ac, fun H20 S20 => ?_⟩
      · have z := (fd.row q hq).1
        rw [e] at z
        exact absurd z (by show (0 : Nat) ≠ n; omega)
      refine ⟨_, rfl, iteF ?_⟩
      have S1720 := (S18.trans S19).trans S20
      have hy20 := hy17.same S1720
      have D20 := D17.up S1720
      have S020 : Drawn d l H H20 := S017.trans (Drawn.of S1720)
      clear S18 hZ hZa fd pw5 zw zk zd hy18 ib dm dl S19 hy3 ny3 S20 S1720 hy17 D17 S017 ha17 hX17
      -- the letter
      have isp : isP (.int p) = true := decide_eq_true pp
      have ibn : inB (.int (n : Int)) 1 12 = true := by
        show (decide ((1 : Int) ≤ n) && decide ((n : Int) ≤ 12)) = true
        rw [decide_eq_true (by omega), decide_eq_true (by omega)]
        rfl
      refine ⟨_, rfl, _, rfl, d, l, c, n, rfl, by omega, by omega, D20, fun sp H21 s0 s1 D21 S21 => ?_⟩
      have S021 := S020.trans S21
      clear S21 D20 hy20 S020
      refine ⟨_, rfl, n, rfl, by omega, by omega, fun L hL0 => lc_it (walk_range (lo := 0) (n := n)) (fun i H' => Same H21 H' ∧ H' L = some (.lst ((letR i sp).map V.int))) ⟨(Same.refl _).put hL0, upd_same⟩ (fun _ _ _ _ => trivial) ?_ ?_⟩
      · rintro i y H22 H23 hi ⟨S22, hL⟩ ⟨rfl, rfl⟩
        have sz : ((letR i sp).map V.int).length < sizeLine := by
          unfold letR
          rw [List.length_map, List.length_map, List.length_range]
          exact small1000 (by omega)
        refine ⟨rfl, _, rfl, _, rfl, rfl, .inr ⟨_, rfl, _, hL, sz, S22.put hL0, ?_⟩⟩
        have ed : decide (V.int (0 + (i : Int)) = V.int sp) = decide ((i : Int) = sp) := decide_eq_decide.mpr ⟨fun z => by have := V.int.inj z; omega, fun z => by rw [z, Int.zero_add]⟩
        rw [upd_same, ed]
        unfold letR
        rw [List.range_succ, List.map_append, List.map_append]
        simp only [decide_eq_true_eq]
        rfl
      · rintro H22 ⟨S22, hL⟩
        refine ⟨L, _, rfl, .inl ⟨SqL.of hL, fun b2 hb2 => ?_⟩⟩
        have S23 := S22.new (o := .tup ((letR n sp).map V.int)) hb2
        have hb3 : upd H22 b2 (.tup ((letR n sp).map V.int)) b2 = some (.tup ((letR n sp).map V.int)) := upd_same
        generalize upd H22 b2 (.tup ((letR n sp).map V.int)) = H23 at S23 hb3
        have ibs : inB (.int sp) 0 ((n : Int) - 1) = true := by
          show (decide ((0 : Int) ≤ sp) && decide (sp ≤ (n : Int) - 1)) = true
          rw [decide_eq_true (by omega), decide_eq_true (by omega)]
          rfl
        have ll : (letR n sp).length = n := by
          unfold letR
          rw [List.length_map, List.length_range]
        have lr : RowsOk n [(letR n sp, 1)] := one_rows ll letR_nn (by rw [letR_sum]; split <;> decide)
        have ne1 : ∀ (r : List Int) (c : Int), r.length = n → ∀ q ∈ [(r, c)], q.1 ≠ [] := fun r c hr q hq e => by
          rw [List.mem_singleton.mp hq] at e
          have z := congrArg List.length e
          rw [hr] at z
          exact absurd z (by show n ≠ 0; omega)
        have nd1 : ∀ (r : List Int) (c : Int), (([(r, c)] : List (List Int × Int)).map (·.1)).Nodup := fun r c => List.nodup_cons.mpr ⟨by simp, List.nodup_nil⟩
        have ln1 : ∀ (r : List Int) (c : Int), ([(r, c)] : List (List Int × Int)).length ≤ 200 := fun r c => (show (1 : Nat) ≤ 200 by decide)
        refine ⟨_, rfl, _, rfl, _, rfl, _, _, _, rfl, pv_flat rfl, (fun z => by rw [isp] at z; cases z), fun _ => ⟨pv_flat rfl, (fun z => by rw [ibn] at z; cases z), fun _ => ⟨pv_flat rfl, fun k2 ek => ?_⟩⟩⟩
        obtain rfl : n = k2 := by
          have := V.int.inj ek
          omega
        refine ⟨(fun z => by rw [ibs] at z; cases z), fun _ p' s' e1 e2 => ?_⟩
        cases e1
        cases e2
        refine gives_tid (nd1 _ _) rfl fun y3 H24 S24 ny3 hy3 => ?_
        refine ⟨_, rfl, _, rfl, fun X2 hX2 => ⟨_, rfl, ?_⟩⟩
        refine puts_one (H2 := H24) (r := letR n sp) upd_same (by rw [upd_ne (ne_of_none (S24 _ _ hb3) hX2)]; exact S24 _ _ hb3) ?_
        rw [upd_upd]
        have S25 : Same H24 (upd H24 X2 (.dT (rK [(letR n sp, 1)]))) := (Same.refl _).put hX2
        have hX25 : upd H24 X2 (.dT (rK [(letR n sp, 1)])) X2 = some (.dT (rK [(letR n sp, 1)])) := upd_same
        generalize upd H24 X2 (.dT (rK [(letR n sp, 1)])) = H25 at S25 hX25
        have o6 : (1 : Nat) ≤ 1000000 := by decide
        refine ⟨y3, X2, p, n, _, _, rfl, hy3.same S25, hX25, p0, nd1 _ _, ne1 _ _ ll, o6, tid_nd, Nat.le_trans (tid_len _ _) o6, shows_of (fair_tid p0 p100 n12 (nd1 _ _) lr (ln1 _ _)), fun ys pm ac => tidy_tid (nd1 _ _) pm ac, fun H26 S26 => ?_⟩
        refine ⟨_, rfl, iteF ?_⟩
        have S2126 := ((S23.trans S24).trans S25).trans S26
        have D26 := D21.up S2126
        have S026 : Drawn d l H H26 := S021.trans (Drawn.of S2126)
        clear S22 hL hb2 S23 hb3 S24 hy3 ny3 S25 hX25 hX2 S26 S2126 D21 S021
        -- the constant
        have lc : (List.replicate n (0 : Int)).length = n := List.length_replicate
        have rc : RowsOk n [(List.replicate n 0, v - 500)] := one_rows lc nz (by rw [zeros_sum]; decide)
        refine ⟨_, rfl, _, rfl, _, rfl, rfl, _, _, _, rfl, pv_flat rfl, (fun z => by rw [isp] at z; cases z), fun _ => ⟨pv_flat rfl, (fun z => by rw [ibn] at z; cases z), fun _ => ⟨pv_flat rfl, (fun z => by cases z), fun _ p' k2 c' e1 e2 e3 => ?_⟩⟩⟩
        cases e1
        cases e3
        obtain rfl : n = k2 := by
          have := V.int.inj e2
          omega
        refine gives_tid (nd1 _ _) rfl fun y4 H27 S27 ny4 hy4 => ?_
        refine ⟨_, rfl, _, rfl, fun X3 hX3 => ⟨(show (1 : Nat) ≤ sizeLine by decide), fun l3 hl3 => ⟨_, rfl, ?_⟩⟩⟩
        refine rep_read (K := K) upd_same n1 (by omega) fun t3 H28 S28 ht3 => ?_
        have S28b := ((Same.refl _).put (o := .tup [V.int 0]) hl3).trans S28
        refine ⟨_, rfl, puts_one (H2 := H27) (S28b _ _ upd_same) ht3 ?_⟩
        have S29 : Same H27 (upd H28 X3 (.dT (rK [(List.replicate n 0, v - 500)]))) := fun b o e => by
          rw [upd_ne (ne_of_none e hX3)]
          exact S28b _ _ (by rw [upd_ne (ne_of_none e hX3)]; exact e)
        have hX29 : upd H28 X3 (.dT (rK [(List.replicate n 0, v - 500)])) X3 = some (.dT (rK [(List.replicate n 0, v - 500)])) := upd_same
        generalize upd H28 X3 (.dT (rK [(List.replicate n 0, v - 500)])) = H29 at S29 hX29
        refine ⟨y4, X3, p, n, _, _, rfl, hy4.same S29, hX29, p0, nd1 _ _, ne1 _ _ lc, o6, tid_nd, Nat.le_trans (tid_len _ _) o6, shows_of (fair_tid p0 p100 n12 (nd1 _ _) rc (ln1 _ _)), fun ys pm ac => tidy_tid (nd1 _ _) pm ac, fun H30 S30 => ?_⟩
        have S2630 := (S27.trans S29).trans S30
        exact k H30 (D26.up S2630) (S026.trans (Drawn.of S2630))
end
end P2
end

section
set_option maxRecDepth 100000
set_option maxHeartbeats 4000000
/-! Closures made in a frame, with the promise that each call of them keeps; calls of defs that take them. -/
namespace ClX
open PySem PySem.Spec PyProof.Rows L2 LamX
/-- okG, the def's code object told -/
theorem okGc {P : Program} {w : World} {K : PySem.W.Frag} {mg : Str → Option Value} {base : Heap} {k : Nat} {f : Addr} {fd : FuncData} {x : Str} {st : Stmt} {N ps : List Str} {sp : Sp} {cd : Value} (F : Fun K x x st f fd) (hcd0 : fd.code = cd) (S : FnScope N ps (defScope st)) (len : ∀ vs H Q E, sp vs H Q E → vs.length = ps.length)
    (hbody : ∀ (A : Around) (outer : List Env) (s : Shared) (H : Hp) (vs : List V) (Q : VK), Room k (A.deeper (envOfC x (defScope st) s.heap.objs.size f cd)) → (A.deeper (envOfC x (defScope st) s.heap.objs.size f cd)).guards = some [] → sp vs H Q E0 →
      ∃ t, PSs (cxOf CX0 P w K mg base N x (defScope st) f cd A outer s H E0).nox (defBody st) t ∧ t { nx := fun _ H' => Q .non H', rt := Q } (start N vs) H) : FnG P w K mg base (k + 1) f fd ps sp := by
  refine ⟨len, fun A outer s H args us vs Q hgd hr e0 hb r hsp => ?_⟩
  have hl := len _ _ _ _ hsp
  obtain ⟨oc, od, kV, doc, pm, an, cdv, ct, osl, rfl, lk, hcd⟩ := F.ex
  obtain rfl : cdv = cd := hcd0
  have old : ∀ b o, base.get? b = some o → s.heap.get? b = some o := fun b o e => (e0.bs b o e).1
  have KX : K.In s.heap := e0.mod.kin.keeps old
  refine codeAny_call_function hr.depth (KX _ _ lk) rfl S.co S.gen rfl (PySem.W.codeRec_of KX hcd) (hb _ _ _ _ ?_)
  refine wpAny_newFunctionEnv_cells S.kind (fun y hy => ?_) fun env he s1 x => ?_
  · exact (S.par y.1 (List.of_mem_zip (a := y.1) (b := y.2) hy).1).imp id fun q => ⟨q, PySem.W.cellsFrom_some _ _ _ (.inl q)⟩
  · subst he
    refine ⟨(e0.mod.nolimit.keeps old).keeps x.toInCall.keep, codeAny_func ?_⟩
    obtain ⟨t, ht, hq⟩ := hbody A outer s H vs Q (hr.deeper _) (guards_deeper hgd) hsp
    refine wpAny_mono (ht.nox.run [] s1 (start N vs) H _ (inv_start S hr.hd e0 hl r x) hq) (fun fl s' hs => ?_) fun e s' hs => hs
    cases fl with
    | ret u => exact let ⟨v, σ', H', J, rv, q⟩ := hs; ⟨v, H', J.os, J.bare, J.base, J.hok, rv, q⟩
    | next => exact let ⟨σ', H', J, q⟩ := hs; ⟨.non, H', J.os, J.bare, J.base, J.hok, rfl, q⟩
    | brk => exact let ⟨_, _, _, q⟩ := hs; q.elim
    | cont => exact let ⟨_, _, _, q⟩ := hs; q.elim
/-- the cells of X's frame that a lambda of this scope captures, with what the slots hold -/
def capL (X : Cx) (sc : Scope) (σ : L2.St) : List (Addr × V) := (X.N.zip σ).filterMap fun q => match q.2, sc.names.lookup q.1, X.env.cells.lookup q.1 with
  | some v, some .free, some c => some (c, v)
  | _, _, _ => none
theorem capL_in {X : Cx} {sc : Scope} {σ : L2.St} {i : Nat} {y : Str} {v : V} {c : Addr} (h1 : X.N[i]? = some y) (h2 : σ[i]? = some (some v)) (h3 : sc.names.lookup y = some .free) (h4 : X.env.cells.lookup y = some c) : (c, v) ∈ capL X sc σ := by
  refine List.mem_filterMap.mpr ⟨(y, some v), ?_, ?_⟩
  · refine List.mem_of_getElem? (i := i) ?_
    rw [List.getElem?_zip_eq_some]
    exact ⟨h1, h2⟩
  · dsimp only
    rw [h3, h4]
theorem capL_out {X : Cx} {sc : Scope} {σ : L2.St} {p : Addr × V} (h : p ∈ capL X sc σ) : ∃ (i : Nat) (y : Str), X.N[i]? = some y ∧ σ[i]? = some (some p.2) ∧ sc.names.lookup y = some .free ∧ X.env.cells.lookup y = some p.1 := by
  obtain ⟨q, hq, e⟩ := List.mem_filterMap.mp h
  obtain ⟨i, hi⟩ := List.mem_iff_getElem?.mp hq
  obtain ⟨a, b⟩ := List.getElem?_zip_eq_some.mp hi
  refine ⟨i, q.1, a, ?_⟩
  cases e1 : q.2 with
  | none => rw [e1] at e; cases e
  | some v =>
    rw [e1] at e b
    cases e2 : sc.names.lookup q.1 with
    | none => rw [e2] at e; cases e
    | some k =>
      cases e3 : X.env.cells.lookup q.1 with
      | none => rw [e2, e3] at e; cases k <;> cases e
      | some c =>
        rw [e2, e3] at e
        cases k <;> cases e
        exact ⟨b, rfl, rfl⟩
/-- slots that hold something -/
def HasAll (σ : L2.St) : List Nat → Prop
  | [] => True
  | i :: is => (∃ v, σ[i]? = some (some v)) ∧ HasAll σ is
theorem HasAll.get {σ : L2.St} : ∀ {is : List Nat}, HasAll σ is → ∀ i ∈ is, ∃ v, σ[i]? = some (some v)
  | [], _, _, h => nomatch h
  | j :: is, h, i, hi => by
    rcases List.mem_cons.mp hi with rfl | hi
    · exact h.1
    · exact h.2.get i hi
/-- the captured names stand in these slots -/
structure LamI (N : List Str) (sc : Scope) (is : List Nat) : Prop where
  to : ∀ p ∈ sc.names, p.2 = .free → sc.names.lookup p.1 = some .free ∧ ∃ i ∈ is, N[i]? = some p.1
  only : ∀ i < N.length, (sc.names.lookup (N.getD i "") = some .free → i ∈ is)
instance {N : List Str} {sc : Scope} {is : List Nat} : Decidable (LamI N sc is) :=
  if h : (∀ p ∈ sc.names, p.2 = .free → sc.names.lookup p.1 = some .free ∧ ∃ i ∈ is, N[i]? = some p.1) ∧ ∀ i < N.length, (sc.names.lookup (N.getD i "") = some .free → i ∈ is) then .isTrue ⟨h.1, h.2⟩ else .isFalse fun x => h ⟨x.1, x.2⟩
theorem caught_of {X : Cx} {sc : Scope} {σ : L2.St} {is : List Nat} (hl : σ.length = X.N.length) (I : LamI X.N sc is) (h : HasAll σ is) : Caught X sc σ (capL X sc σ) :=
  ⟨hl, fun y c hy hc => by
    obtain ⟨h1, i, hi, hN⟩ := I.to _ hy rfl
    obtain ⟨v, hv⟩ := h.get i hi
    exact ⟨v, capL_in hN hv h1 hc⟩, fun i y v c h1 h2 h3 h4 => capL_in h1 h2 h3 h4⟩
/-- the slots is hold the same -/
def SameAt (σ σ' : L2.St) : List Nat → Prop
  | [] => True
  | i :: is => σ[i]? = σ'[i]? ∧ SameAt σ σ' is
theorem SameAt.get {σ σ' : L2.St} : ∀ {is : List Nat}, SameAt σ σ' is → ∀ i ∈ is, σ[i]? = σ'[i]?
  | [], _, _, h => nomatch h
  | j :: is, h, i, hi => by
    rcases List.mem_cons.mp hi with rfl | hi
    · exact h.1
    · exact h.2.get i hi
theorem caps_of {X : Cx} {sc : Scope} {σ σ' : L2.St} {is : List Nat} (L : LamS X.env.scope sc) (I : LamI X.N sc is) (h : SameAt σ σ' is) : Caps X σ' (capL X sc σ) := fun p hp => by
  obtain ⟨i, y, h1, h2, h3, h4⟩ := capL_out hp
  have hi : i < X.N.length := (List.getElem?_eq_some_iff.mp h1).1
  have hm := I.only i hi (by rw [List.getD_eq_getElem?_getD, h1]; exact h3)
  exact ⟨i, y, h1, by rw [← h.get i hm]; exact h2, L.free _ (PySem.mem_of_lookup h3) rfl, h4⟩
theorem same_put {H : Hp} {a : Addr} {o : HO} (h : H a = none) : ∀ b u, H b = some u → upd H a o b = some u := fun b u e => by rw [upd_ne (ne_of_none e h)]; exact e
/-- O is the object of a lambda at f -/
def LamHO (O : HO) (c' f : Addr) : Prop := ∃ q params body scope cl, O = LamO q params body scope cl c' f
theorem LamHO.is {O : HO} {c' f : Addr} {H : Hp} (h : LamHO O c' f) (e : H f = some O) : IsLam H f := by
  obtain ⟨q, params, body, scope, cl, rfl⟩ := h
  exact ⟨q, params, body, scope, cl, c', e⟩
theorem LamHO.other {O : HO} {c' f : Addr} (h : LamHO O c' f) : (∀ kvs, O ≠ .dK kvs) ∧ (∀ xs, O ≠ .lst xs) ∧ ∀ ps, O ≠ .tbl ps := by
  obtain ⟨q, params, body, scope, cl, rfl⟩ := h
  unfold LamO
  exact ⟨(fun _ z => nomatch z), (fun _ z => nomatch z), (fun _ z => nomatch z)⟩
/-- what the making of a lambda tells, with what its calls keep -/
def tLamR (X : Cx) (k : Nat) (T : List (Addr × Str)) (q : Str) (sc : Scope) (is : List Nat) (t : XK → TE) : TE := fun σ H Q => Tabs T H ∧ HasAll σ is ∧ ∀ (f c' : Addr) (O : HO) (H2 : Hp), ExtN H H2 → Tabs T H2 → H2 c' = some (CodeO c' q) → LamHO O c' f → H2 f = some O →
  Runs X k (capL X sc σ) f (fun E H Q => H f = some O ∧ H c' = some (CodeO c' q) ∧ t E σ H Q) → Q (.ref f) H2
section
variable {X : Cx}
theorem pe_lamR {T : List (Addr × Str)} {c P : Addr} {params : Arguments} {body : Expr} {scope : Scope} {pos : Pos} {k : Nat} {is : List Nat} {t : XK → TE} (TB : TabB X.base X.mg c P) (hcode : X.env.code = .ref c) (hm : (P, X.env.qual ++ "<lambda>") ∈ T) (hu : ∀ p ∈ T, p.1 = P → p.2 = X.env.qual ++ "<lambda>")
    (hdef : defaultsOf params X.env = ([], [])) (L : LamS X.env.scope scope) (I0 : LamI X.N scope is)
    (hbind : ∀ (cl : List (Str × Addr)) (pm cv ctv : Value), bindArgs (PySem.W.kla_fn "<lambda>" (X.env.qual ++ "<lambda>") params body scope cl pm cv ctv) ⟨[], []⟩ = pure [])
    (hbody : ∀ (f c' : Addr) (A : Around) (outer : List Env) (s : Shared) (H : Hp) (E : XK), Room k (A.deeper (lamEnv X scope s.heap.objs.size f c')) → PE (lamCx X A outer s H E scope f c') body (t E)) :
    PE X (.Lambda params body scope pos) (tLamR X (k + 1) T (X.env.qual ++ "<lambda>") scope is t) := by
  refine ⟨fun pins s σ H Q I h => ?_⟩
  obtain ⟨h1, h2, h3⟩ := h
  refine (pe_lam TB hcode hm hu hdef L).run pins s σ H Q I ⟨h1, fun f c' H1 e1 e2 e3 e4 => ?_⟩
  have S := same_put (H := H1) (o := LamO (X.env.qual ++ "<lambda>") params body scope (cloFrom X.env.cells scope.names []) c' f) e4
  refine h3 f c' _ _ (e1.trans (ExtN.of S)) (e2.ext S) (S _ _ e3) ⟨_, _, _, _, _, rfl⟩ upd_same (runs_lam (q := X.env.qual ++ "<lambda>") I.ok L (caught_of I.len I0 h2) rfl (hbind _) (hbody f c'))
/-- the def that takes a closure, called from a frame: its promise -/
def tCgt (X : Cx) (k : Nat) (K : PySem.W.Frag) (CS : Addr) : L2.St → List V → Hp → VK → Prop := fun σ vs H Q => ∃ (f : Addr) (L : List (Addr × V)) (tl : XK → Hp → VK → Prop), Caps X σ L ∧ Runs X k L f tl ∧ spCaught K CS f tl vs H Q
end
end ClX
end

section
set_option maxRecDepth 100000
set_option maxHeartbeats 4000000
namespace P2
open PySem PySem.Spec PyProof.Rows L2 LamX ClX
theorem sc48 : FnScope ["work", "caught", "error"] ["work"] (defScope (top 48)) := ⟨rfl, rfl, rfl, by decide +kernel, rfl, by decide +kernel, by decide +kernel⟩
section
variable {X : Cx} {k : Nat} {g CS : Addr} {fd : FuncData}
theorem caught_run (F : Fun X.K "_law_caught" "_law_caught" (top 48) g fd) (hm : X.mg "SwayError" = some (.ref CS)) {L : List (Addr × V)} {f : Addr} {tl : XK → Hp → VK → Prop} (r : Runs X k L f tl)
    {A : Around} {outer : List Env} {s : Shared} {H : Hp} {us : List Value} {vs : List V} {Q : VK} {E : XK} (hr : Room (k + 1) A) (e0 : Env0 X.prog X.w X.K X.mg X.base A outer s H) (cv : CellsV L s.heap H)
    (hb : BindsTo s fd ⟨us, []⟩ ((["work"] : List Str).zip us)) (rv : Vals vs us) (h : spCaught X.K CS f tl vs H Q) : codeAny (model X.prog X.w) A (.call (.ref g) ⟨us, []⟩) (CR (L2.CX X.prog X.w) outer X.prog X.w H s Q E) s := by
  obtain ⟨oc, od, kV, doc, pm, an, cdv, ct, osl, rfl, lk, hcd⟩ := F.ex
  exact caught_at r lk hcd sc48 rfl rfl rfl rfl hm hr e0 cv hb rv h
theorem pe_cgt {p pos : Pos} {e : Expr} {ta : TA} (F : Fun X.K "_law_caught" "_law_caught" (top 48) g fd) (hS : X.mg "SwayError" = some (.ref CS)) (hg : Gl X "_law_caught") (hm : X.mg "_law_caught" = some (.ref g)) (hk : PySem.W.keepIn X.K (.ref g) = true) (hb : L2.Binds X.K fd ["work"] [])
    (hr : Room (k + 1) X.A) (hx : Passes (L2.CX X.prog X.w) X (fun _ _ _ => False)) (ha : PA X [e] ta) (he : starEach [e] X.env = (false, eval e X.env) :: starEach [] X.env := by rfl) (hpl : (backTo pos (starEach [] X.env)).any (·.1) = false := by rfl) :
    PE X (.Call (.Name "_law_caught" p) [e] [] pos) (fun σ H Q => ta σ H fun vs H1 => tCgt X k X.K CS σ vs H1 Q) :=
  pe_callAt (T := tCgt X k X.K CS) hg hm hk hb hx (fun pins σ s H us vs Q I b r q => by
    obtain ⟨f, L, tl, cp, rn, sp⟩ := q
    exact caught_run F hS rn hr I.env0 (cp.cells I) b r sp) (fun σ vs H Q q => by
    obtain ⟨f, L, tl, cp, rn, rfl, _⟩ := q
    rfl) ha (by decide) he hpl
end
end P2
end

section
set_option maxRecDepth 100000
set_option maxHeartbeats 4000000
namespace P2
open PySem L2 ClX
/-- v at s, else 0 -/
def rowV (n : Nat) (s v : Int) : List Int := (List.range n).map fun i : Nat => if (i : Int) = s then v else 0
theorem rowV_len (n : Nat) (s v : Int) : (rowV n s v).length = n := by
  unfold rowV
  rw [List.length_map, List.length_range]
theorem rowV_nn {n : Nat} {s v : Int} (h : 0 ≤ v) : ∀ e ∈ rowV n s v, 0 ≤ e := fun e he => by
  obtain ⟨i, _, rfl⟩ := List.mem_map.mp he
  split
  · exact h
  · exact Int.le_refl _
theorem rowV_sum (s v : Int) : ∀ n : Nat, (rowV n s v).sum = if 0 ≤ s ∧ s < n then v else 0
  | 0 => by
    rw [if_neg (by omega)]
    rfl
  | n + 1 => by
    have ih := rowV_sum s v n
    unfold rowV at ih ⊢
    rw [List.range_succ, List.map_append, List.sum_append, ih]
    show _ + ((if (n : Int) = s then v else 0) + 0) = _
    by_cases h : (n : Int) = s
    · rw [if_pos h, if_neg (by omega), if_pos (by omega)]
      omega
    · rw [if_neg h]
      by_cases g : 0 ≤ s ∧ s < n
      · rw [if_pos g, if_pos (by omega)]
        omega
      · rw [if_neg g, if_neg (by omega)]
        omega
theorem rowV_ok {n : Nat} {s v : Int} (h0 : 0 ≤ s) (h1 : s < n) : (rowV n s v).sum = v := by
  rw [rowV_sum, if_pos ⟨h0, h1⟩]
theorem rowV_step (n : Nat) (s v : Int) : rowV (n + 1) s v = rowV n s v ++ [if (n : Int) = s then v else 0] := by
  unfold rowV
  rw [List.range_succ, List.map_append]
  rfl
theorem letR_rowV (n : Nat) (s : Int) : letR n s = rowV n s 1 := rfl
theorem pack_rowV (s v : Int) : ∀ n : Nat, packR (rowV n s v) = v * packR (rowV n s 1)
  | 0 => by
    show (0 : Int) = v * 0
    omega
  | n + 1 => by
    rw [rowV_step, rowV_step, packR_snoc, packR_snoc, pack_rowV s v n, Int.mul_add, Int.mul_assoc]
    congr 1
    split <;> omega
theorem tid_one {p : Int} (p2 : 2 ≤ p) (r : List Int) : tid p [(r, 1)] = [(r, 1)] := by
  have nd : (([(r, 1)] : List (List Int × Int)).map (·.1)).Nodup := List.nodup_cons.mpr ⟨by simp, List.nodup_nil⟩
  unfold tid
  have e : srt ([(r, (1 : Int))].map (·.1)) = [r] := List.perm_singleton.mp (srt_perm [r])
  rw [tidy_is p _ (by rw [e]; exact List.nodup_cons.mpr ⟨by simp, List.nodup_nil⟩), e]
  have c : cf [(r, (1 : Int))] r = 1 := by rw [cf_cons, if_pos rfl]
  have m : (1 : Int) % p = 1 := Int.emod_eq_of_lt (by omega) (by omega)
  rw [List.filter_cons_of_pos (by rw [c, m]; decide)]
  show [(r, cf [(r, 1)] r % p)] = _
  rw [c, m]
theorem degOf_one (r : List Int) (c : Int) : degOf [(r, c)] = r.sum := rfl
theorem degOf_ge {ts : List (List Int × Int)} {q : List Int × Int} (h : q ∈ ts) : q.1.sum ≤ degOf ts := by
  unfold degOf
  cases ts with
  | nil => cases h
  | cons a ts =>
    show q.1.sum ≤ (ts.map fun p => p.1.sum).foldl max a.1.sum
    obtain ⟨h1, h2, _⟩ := foldl_max (ts.map fun p => p.1.sum) a.1.sum
    rcases List.mem_cons.mp h with rfl | h
    · exact h2
    · exact h1 _ (List.mem_map.mpr ⟨q, h, rfl⟩)
/-! one term's powers -/
theorem prodP_one {p : Int} (p2 : 2 ≤ p) (a b : Int) : prodP p [(a, 1)] [(b, 1)] = [(a + b, 1)] := by
  have m : (1 : Int) % p = 1 := Int.emod_eq_of_lt (by omega) (by omega)
  have e : prodL [(b, (1 : Int))] [(a, (1 : Int))] = [(a + b, 1)] := rfl
  show withoutZ p (prodL [(b, 1)] [(a, 1)]) = _
  rw [e, wz_is p (m := [(a + b, (1 : Int))]) (List.nodup_cons.mpr ⟨by simp, List.nodup_nil⟩)]
  rw [List.filterMap_cons_some (b := (a + b, (1 : Int) % p)) (by rw [if_neg]; rw [m]; decide), m]
  rfl
theorem mulN_1 {p : Int} (p2 : 2 ≤ p) (b : Int) : ∀ (m : Nat) (a : Int), mulN p [(b, 1)] m [(a, 1)] = [(a + m * b, 1)] ∧ OkMul p [(b, 1)] m [(a, 1)]
  | 0, a => ⟨by
    show [(a, (1 : Int))] = [(a + 0 * b, 1)]
    rw [Int.zero_mul, Int.add_zero], trivial⟩
  | m + 1, a => by
    obtain ⟨h1, h2⟩ := mulN_1 p2 b m (a + b)
    refine ⟨?_, (show (1 : Nat) ≤ 1000000 by decide), (show (1 : Nat) * 1 ≤ 1000000 by decide), by rw [prodP_one p2]; exact h2⟩
    show mulN p [(b, 1)] m (prodP p [(a, 1)] [(b, 1)]) = _
    rw [prodP_one p2, h1, Int.natCast_add, Int.add_mul]
    congr 2
    omega
theorem frob_1 {p : Int} (p2 : 2 ≤ p) (b : Int) : frob p [(b, 1)] = [(b * p, 1)] := by
  rw [frob_is (f := [(b, (1 : Int))]) (by omega) (List.nodup_cons.mpr ⟨by simp, List.nodup_nil⟩)]
  rfl
theorem powF_1 {p : Int} (p2 : 2 ≤ p) : ∀ (n : Nat) (a b l : Int), 0 ≤ l → l ≤ n → powF p n [(a, 1)] [(b, 1)] l = [(a + l * b, 1)] ∧ OkPow p n [(a, 1)] [(b, 1)] l
  | 0, a, b, l, h0, h1 => by
    obtain rfl : l = 0 := by omega
    refine ⟨?_, trivial⟩
    show [(a, (1 : Int))] = [(a + 0 * b, 1)]
    rw [Int.zero_mul, Int.add_zero]
  | n + 1, a, b, l, h0, h1 => by
    rw [pow_step, okp_step]
    have hm0 := Int.emod_nonneg l (show p ≠ 0 by omega)
    obtain ⟨m1, m2⟩ := mulN_1 p2 b (l % p).toNat a
    have ec : (((l % p).toNat : Nat) : Int) = l % p := Int.toNat_of_nonneg hm0
    rw [ec] at m1
    have dm := Int.mul_ediv_add_emod l p
    by_cases hl : 0 < l
    · rw [if_pos hl, m1]
      by_cases hd : 0 < l / p
      · have hlt : l / p < l := by
          refine Int.ediv_lt_of_lt_mul (by omega) ?_
          have : l * 2 ≤ l * p := Int.mul_le_mul_of_nonneg_left p2 (by omega)
          omega
        obtain ⟨i1, i2⟩ := powF_1 p2 n (a + l % p * b) (b * p) (l / p) (by omega) (by omega)
        rw [if_pos hd, frob_1 p2, i1]
        refine ⟨?_, fun _ => ⟨m2, fun _ => i2⟩⟩
        have e : a + l % p * b + l / p * (b * p) = a + l * b := by
          conv => rhs; rw [← dm]
          rw [Int.add_mul, Int.mul_comm b p, ← Int.mul_assoc, Int.mul_comm (l / p) p]
          omega
        rw [e]
      · rw [if_neg hd]
        have z : l / p = 0 := by
          have := Int.ediv_nonneg h0 (show 0 ≤ p by omega)
          omega
        rw [z, Int.mul_zero, Int.zero_add] at dm
        refine ⟨by rw [dm], fun _ => ⟨m2, fun x => absurd x hd⟩⟩
    · obtain rfl : l = 0 := by omega
      rw [if_neg hl]
      refine ⟨?_, fun x => absurd x hl⟩
      rw [Int.zero_mul, Int.add_zero]
end P2
namespace P2
open PySem L2 ClX
theorem nd_one {κ : Type} (r : κ) (c : Int) : (([(r, c)] : List (κ × Int)).map (·.1)).Nodup := List.nodup_cons.mpr ⟨by simp, List.nodup_nil⟩
theorem ts_one {p : Int} (p2 : 2 ≤ p) {n : Nat} {r : List Int} (h : RowsOk n [(r, (1 : Int))]) : TsOk p n [(r, 1)] := by
  have z := tsok_tid (p := p) (by omega) (nd_one r 1) h (show (1 : Nat) ≤ 1000000 by decide)
  rw [tid_one p2] at z
  exact z
theorem rowV_rows {n : Nat} {s v : Int} (c : Int) (h0 : 0 ≤ s) (h1 : s < n) (hv : 0 ≤ v) (hv2 : v ≤ 120) : RowsOk n [(rowV n s v, c)] := one_rows (rowV_len n s v) (rowV_nn hv) (by rw [rowV_ok h0 h1]; exact hv2)
/-- a letter's 120th power -/
theorem pow120 {p : Int} (p2 : 2 ≤ p) {n : Nat} {s : Int} (h0 : 0 ≤ s) (h1 : s < n) : OkPow p 120 [(0, 1)] (packOf [(letR n s, 1)]) ((120 : Nat) : Int) ∧ ((powF p 120 [(0, 1)] (packOf [(letR n s, 1)]) ((120 : Nat) : Int)).map (·.1)).Nodup ∧ (powF p 120 [(0, 1)] (packOf [(letR n s, 1)]) ((120 : Nat) : Int)).length ≤ 1000000 ∧
    RowsOk n (termsOf (powF p 120 [(0, 1)] (packOf [(letR n s, 1)]) ((120 : Nat) : Int)) n) ∧ tid p (termsOf (powF p 120 [(0, 1)] (packOf [(letR n s, 1)]) ((120 : Nat) : Int)) n) = [(rowV n s 120, 1)] := by
  have e0 : packOf [(letR n s, 1)] = [(packR (rowV n s 1), 1)] := rfl
  obtain ⟨a, b⟩ := powF_1 p2 120 0 (packR (rowV n s 1)) ((120 : Nat) : Int) (by decide) (Int.le_refl _)
  have e1 : (0 : Int) + ((120 : Nat) : Int) * packR (rowV n s 1) = packR (rowV n s 120) := by rw [pack_rowV s 120 n, Int.zero_add]; rfl
  rw [e1] at a
  rw [e0, a]
  have kk : Keys (RowN n 120) [(packR (rowV n s 120), (1 : Int))] := fun q hq => by
    rw [List.mem_singleton.mp hq]
    exact ⟨_, rfl, rowV_len n s 120, rowV_nn (by decide), by rw [rowV_ok h0 h1]; exact Int.le_refl _⟩
  have e2 : termsOf [(packR (rowV n s 120), (1 : Int))] n = [(rowV n s 120, 1)] := by
    rw [terms_is (nd_one _ _) kk]
    show [(unpackR (packR (rowV n s 120)) n, (1 : Int))] = _
    rw [unpack_pack n (rowV_len n s 120) (exps_of (rowV_nn (by decide)) (by rw [rowV_ok h0 h1]; exact Int.le_refl _))]
  refine ⟨b, nd_one _ _, (show (1 : Nat) ≤ 1000000 by decide), ?_, ?_⟩
  · rw [e2]
    exact rowV_rows 1 h0 h1 (by decide) (by decide)
  · rw [e2, tid_one p2]
/-- a product of two terms -/
theorem prod_one {p : Int} (p2 : 2 ≤ p) {n : Nat} {r s : List Int} {d e : Int} (hr : RowsOk n [(r, (1 : Int))]) (hs : RowsOk n [(s, (1 : Int))]) (dr : r.sum = d) (ds : s.sum = e) (de : d + e ≤ 120) :
    RowsOk n (termsOf (prodP p (packOf [(r, 1)]) (packOf [(s, 1)])) n) ∧ tid p (termsOf (prodP p (packOf [(r, 1)]) (packOf [(s, 1)])) n) = [(addR r s, 1)] ∧ (addR r s).sum = d + e := by
  have z := prod_tid (p := p) (k := n) (A := [(r, 1)]) (B := [(s, 1)]) (C := [(addR r s, 1)]) (d := d) (e := e) (nd_one _ _) (nd_one _ _) (nd_one _ _) hr hs (fun q hq => by rw [List.mem_singleton.mp hq]; exact Int.le_of_eq dr) (fun q hq => by rw [List.mem_singleton.mp hq]; exact Int.le_of_eq ds) de (fun φ => .of (by
    show 1 * φ (addR r s) + 0 = 1 * (1 * φ (addR r s) + 0) + 0
    omega))
  refine ⟨z.1, by rw [z.2, tid_one p2], ?_⟩
  rw [addR_sum (by rw [(hr _ List.mem_cons_self).1, (hs _ List.mem_cons_self).1]), dr, ds]
/-- a product with nothing -/
theorem prod_nil {p : Int} {n : Nat} {r : List Int} (hr : RowsOk n [(r, (1 : Int))]) : RowsOk n (termsOf (prodP p (packOf [(r, 1)]) (packOf [])) n) ∧ tid p (termsOf (prodP p (packOf [(r, 1)]) (packOf [])) n) = tid p [] := by
  have hn : ∀ q ∈ ([] : List (List Int × Int)), q.1.sum ≤ 0 := fun _ h => nomatch h
  exact prod_tid (p := p) (k := n) (A := [(r, 1)]) (B := []) (C := []) (d := 120) (e := 0) (nd_one _ _) List.nodup_nil List.nodup_nil hr (fun _ h => nomatch h) (fun q hq => (hr q hq).2.2) hn (by decide) (fun φ => .of (by
    show (0 : Int) = 1 * 0 + 0
    omega))
/-- a display of one pair -/
theorem puts1 {H : Hp} {X b : Addr} {r : List Int} {c : Int} {Q : Hp → Prop} (hX : H X = none) (hb : H b = some (.tup (r.map V.int))) (k : ∀ H', Same H H' → H' X = some (.dT (rK [(r, c)])) → Q H') : Puts X [(V.ref b, V.int c)] (upd H X (.dT [])) Q := by
  refine puts_one (H2 := H) (r := r) upd_same (by rw [upd_ne (ne_of_none hb hX)]; exact hb) ?_
  rw [upd_upd]
  exact k _ ((Same.refl _).put hX) upd_same
end P2
end

section
set_option maxRecDepth 100000
set_option maxHeartbeats 8000000
namespace P2
open PySem PySem.Spec PyProof.Rows L2 LamX ClX
theorem DrawAt.ext {H H' : Hp} {d l c : Addr} (D : DrawAt H d l c) (S : ExtN H H') : DrawAt H' d l c := by
  obtain ⟨⟨r, t, hd⟩, ⟨ls, hl, hll⟩, ⟨cs, hc, hcl⟩, ne⟩ := D
  exact ⟨⟨r, t, S _ _ hd (fun ps z => by cases z)⟩, ⟨ls, S _ _ hl (fun ps z => by cases z), hll⟩, ⟨cs, S _ _ hc (fun ps z => by cases z), hcl⟩, ne⟩
/-- all but the draw's places and the tables stay -/
def Kept (d l : Addr) (H H' : Hp) : Prop := ∀ b o, H b = some o → b ≠ d → b ≠ l → (∀ ps, o ≠ .tbl ps) → H' b = some o
theorem Kept.trans {d l : Addr} {H H1 H2 : Hp} (a : Kept d l H H1) (b : Kept d l H1 H2) : Kept d l H H2 := fun x o e n1 n2 n3 => b _ _ (a _ _ e n1 n2 n3) n1 n2 n3
theorem Kept.of {d l : Addr} {H H1 : Hp} (a : Same H H1) : Kept d l H H1 := fun x o e _ _ _ => a _ _ e
theorem Kept.ext {d l : Addr} {H H1 : Hp} (a : ExtN H H1) : Kept d l H H1 := fun x o e _ _ n => a _ _ e n
theorem Kept.drawn {d l : Addr} {H H1 : Hp} (a : Drawn d l H H1) : Kept d l H H1 := fun x o e n1 n2 _ => a _ _ e n1 n2
theorem tabs_drawn {T : List (Addr × Str)} {H H' : Hp} {d l c : Addr} (D : DrawAt H d l c) (S : Drawn d l H H') (t : Tabs T H) : Tabs T H' := fun p hp => by
  obtain ⟨ps, h1, h2, h3⟩ := t p hp
  obtain ⟨r, u, hd⟩ := D.hd
  obtain ⟨ls, hl, _⟩ := D.hl
  refine ⟨ps, S _ _ h1 (fun z => by rw [z, hd] at h1; cases h1) (fun z => by rw [z, hl] at h1; cases h1), h2, fun pos cv hc => ?_⟩
  obtain ⟨c0, e1, e2⟩ := h3 pos cv hc
  refine ⟨c0, e1, S _ _ e2 (fun z => ?_) (fun z => ?_)⟩
  · rw [z, hd] at e2
    unfold CodeO at e2
    cases e2
  · rw [z, hl] at e2
    unfold CodeO at e2
    cases e2
theorem tabs_new {T : List (Addr × Str)} {H : Hp} {a : Addr} {o : HO} (h : H a = none) (t : Tabs T H) : Tabs T (upd H a o) := t.ext ((Same.refl H).put h)
theorem PolyAt.ext {H H' : Hp} {C a : Addr} {p n : Int} {ts : List (List Int × Int)} (h : PolyAt H C a p n ts) (S : ExtN H H') : PolyAt H' C a p n ts := let ⟨dx, d, h1, h2⟩ := h; ⟨dx, d, S _ _ h1 (fun ps z => by cases z), S _ _ h2 (fun ps z => by cases z)⟩
theorem DrawAt.other {H : Hp} {d l c b : Addr} {o : HO} (D : DrawAt H d l c) (h : H b = some o) (n1 : ∀ kvs, o ≠ .dK kvs) (n2 : ∀ xs, o ≠ .lst xs) : b ≠ d ∧ b ≠ l := by
  obtain ⟨r, t, hd⟩ := D.hd
  obtain ⟨ls, hl, _⟩ := D.hl
  exact ⟨(fun e => by rw [e, hd] at h; exact n1 _ (Option.some.inj h).symm), (fun e => by rw [e, hl] at h; exact n2 _ (Option.some.inj h).symm)⟩
theorem code_other {c : Addr} {q : Str} : (∀ kvs, CodeO c q ≠ .dK kvs) ∧ (∀ xs, CodeO c q ≠ .lst xs) := by
  unfold CodeO
  exact ⟨(fun _ z => nomatch z), (fun _ z => nomatch z)⟩
theorem tabs_lst {T : List (Addr × Str)} {H : Hp} {L : Addr} {xs ys : List V} (h : H L = some (.lst xs)) (t : Tabs T H) : Tabs T (upd H L (.lst ys)) := fun p hp => by
  obtain ⟨ps, h1, h2, h3⟩ := t p hp
  refine ⟨ps, by rw [upd_ne (fun z => by rw [z, h] at h1; cases h1)]; exact h1, h2, fun pos cv hc => ?_⟩
  obtain ⟨c0, e1, e2⟩ := h3 pos cv hc
  refine ⟨c0, e1, ?_⟩
  rw [upd_ne (fun z => by rw [z, h] at e2; unfold CodeO at e2; cases e2)]
  exact e2
theorem tid_nil (p : Int) : tid p [] = [] := by
  have h := tid_len p []
  exact List.length_eq_zero_iff.mp (Nat.le_zero.mp h)
theorem ts_nil (p : Int) (n : Nat) : TsOk p n [] := ⟨List.nodup_nil, (fun _ h => nomatch h), (fun _ h => nomatch h), Nat.zero_le _⟩
/-- what the error that was caught is known by -/
def EB (M : Addr) (f : Str) (v : V) (d l c : Addr) (H0 : Hp) : XK := fun cls dd H' => cls = .ref M ∧ ∃ d1, dd = some d1 ∧ H' d1 = some (.xd [(f, v)]) ∧ DrawAt H' d l c ∧ Drawn d l H0 H'
section
variable {P : Program} {w : World} {K : PySem.W.Frag} {mg : Str → Option Value} {base : Heap} {bp C B M N CS : Addr}
/-- what the laws' `_law_caught` leans on, for an own error -/
structure ErrC (K : PySem.W.Frag) (CS M : Addr) (f : Str) : Prop where
  ex : PySem.W.exmOne K (.ref M) (.ref CS) = some true
  xf : XfC K M
  at_ : PySem.W.findIn K (.ref M) f = some none
  c : ExcC K M
  kit : PySem.W.kitOne K (.ref M) (.ref M) = some true
abbrev NBO : List Str := ["draw", "field", "wide_here", "spot", "low", "row", "rest", "beyond", "first", "whole", "works", "work", "caught", "k"]
theorem sc53 : FnScope NBO ["draw", "field", "wide_here"] (defScope (top 53)) := ⟨rfl, rfl, rfl, by decide +kernel, rfl, by decide +kernel, by decide +kernel⟩
abbrev qL53 : Str := "_law_bounds_right" ++ ".<locals>." ++ "<lambda>"
theorem terms_good2 {H : Hp} {a : Addr} {n : Nat} {ts : List (List Int × Int)} (h : H a = some (.dT (rK ts))) (hr : ∀ q ∈ ts, q.1.length = n ∧ ∀ e ∈ q.1, 0 ≤ e) (hn : n ≤ 12) (hz : ts.length ≤ 1000000) : TermsAre K H n (.ref a) true := by
  have e : ((rK ts).all fun p => termB "tuple" (p.1.map kV) n p.2) = true := by
    refine List.all_eq_true.mpr fun q hq => ?_
    obtain ⟨r, hr2, rfl⟩ := List.mem_map.mp hq
    obtain ⟨e1, e2⟩ := hr r hr2
    show termB "tuple" ((rowK r.1).map kV) n (.int r.2) = true
    rw [rowK_kV]
    have a1 : (r.1.map V.int).all isI = true := List.all_eq_true.mpr fun x hx => by
      obtain ⟨i, _, rfl⟩ := List.mem_map.mp hx
      rfl
    have a2 : (r.1.map V.int).all nn = true := List.all_eq_true.mpr fun x hx => by
      obtain ⟨i, hi, rfl⟩ := List.mem_map.mp hx
      exact decide_eq_true (e2 i hi)
    unfold termB
    rw [a1, a2, List.length_map, e1]
    simp [isI]
  have z := TermsAre.rows (K := K) (m := (n : Int)) h (by rw [asK_len]; exact hz) (fun q hq => by
    obtain ⟨r, hr2, rfl⟩ := List.mem_map.mp hq
    refine ⟨?_, rfl⟩
    show (rowK r.1).length ≤ 1000
    unfold rowK
    rw [List.length_map, (hr r hr2).1]
    omega)
  rw [e] at z
  exact z
/-- a polynomial of a too great degree -/
theorem make_big {H : Hp} {x dx a : Addr} {p : Int} {n : Nat} {ts : List (List Int × Int)} {vs : List V} {R : VK} {E : XK} (hp : p ∈ primes) (h1 : 1 ≤ n) (h12 : n ≤ 12) (ha : H a = some (.dT (rK ts))) (hr : ∀ q ∈ ts, q.1.length = n ∧ ∀ e ∈ q.1, 0 ≤ e) (hn : (ts.map (·.1)).Nodup) (hz : ts.length ≤ 1000000)
    (big : (ts.any fun p => decide (120 < p.1.sum)) = true) (nx : H x = none) (ndx : H dx = none) (ne : dx ≠ x) (e : vs = [.ref x, .int p, .int n, .ref a]) (k : ∀ d H', Same H H' → H' d = some (.xd [("most", .int 120)]) → E (.ref M) (some d) H') :
    spInit K bp C B M vs (upd (upd H dx (.own x)) x (.ins C dx [])) R E := by
  have S0 : Same H (upd (upd H dx (.own x)) x (.ins C dx [])) := fun b o e => by rw [upd_ne (ne_of_none e nx), upd_ne (ne_of_none e ndx)]; exact e
  have hw : inB (.int n) 1 12 = true := by
    show (decide ((1 : Int) ≤ n) && decide ((n : Int) ≤ 12)) = true
    rw [decide_eq_true (by omega), decide_eq_true (by omega)]
    rfl
  have hpp : isP (.int p) = true := decide_eq_true hp
  subst e
  refine ⟨x, dx, _, _, _, rfl, upd_same, pv_flat rfl, (fun z => by rw [hpp] at z; cases z), fun _ => ⟨pv_flat rfl, (fun z => by rw [hw] at z; cases z), fun _ => ⟨n, true, rfl, terms_good2 (S0 _ _ ha) hr h12 hz, (fun z => by cases z), fun _ => ⟨a, ts, rfl, S0 _ _ ha, hn, fun q hq => ?_, hz, fun _ d H' S nd hd => k d H' (S0.trans S) hd, fun z => by rw [big] at z; cases z⟩⟩⟩⟩
  intro e
  have z := (hr q hq).1
  rw [e] at z
  exact absurd z (by show (0 : Nat) ≠ n; omega)
/-- what is known where the bounds are looked at -/
def spBounds (T : List (Addr × Str)) : Sp := fun vs H Q _ => ∃ (d l c : Addr) (p : Int) (n : Nat), vs = [.ref d, .int p, .int n] ∧ DrawAt H d l c ∧ p ∈ fields ∧ 1 ≤ n ∧ n ≤ 4 ∧ Tabs T H ∧ ∀ H', DrawAt H' d l c → Tabs T H' → Kept d l H H' → Q (.bl true) H'
/-- the rows with one number -/
abbrev tRow (K : PySem.W.Frag) (v : TE) : TE := v
def tB1 (K : PySem.W.Frag) (bp C B M : Addr) (E : XK) : TE := tCall (spPolyProd K C B M) [] E (tCons (tVar 8) (tCons (tMake C (spInit K bp C B M) [] (fun _ _ _ => False) (tCons (tVar 1) (tCons (tVar 2) (tCons (tDispT [(tVar 7, tC (V.int 1))]) tNil)))) tNil))
def tB2 (K : PySem.W.Frag) (bp C B M : Addr) (E : XK) : TE := tMake C (spInit K bp C B M) [] E (tCons (tVar 1) (tCons (tVar 2) (tCons (tDispT [(tVar 9, tCall (spPick K) [] E0 (tCons (tVar 0) (tCons (tLst (tCons (tC (V.int 0)) (tCons (tC (V.int 1)) (tCons (tVar 1) tNil)))) tNil)))]) tNil)))
def tB3 (K : PySem.W.Frag) (bp C B M N : Addr) (E : XK) : TE := tCall (spPolyPow K C B M N) [] E (tCons (tMake C (spInit K bp C B M) [] (fun _ _ _ => False) (tCons (tVar 1) (tCons (tVar 2) (tCons (tDispT [(tVar 5, tC (V.int 1)), (tOp (rRepN K) (tTup (tCons (tC (V.int 0)) tNil)) (tVar 2), tC (V.int 1))]) tNil))))
  (tCons (tOp (rI0 fun i j => .int (i + j)) (tOp (rI CDiv fun i j => .int (i / j)) (tC (V.int 120)) (tVar 4)) (tC (V.int 1))) tNil))
theorem ok_bounds {f fI fT fP fQ fW fL fG cc P1 : Addr} {fd dI dT dP dQ dW dL dG : FuncData} {T : List (Addr × Str)} (F : Fun K "_law_bounds_right" "_law_bounds_right" (top 53) f fd) (hcd : fd.code = .ref cc) (TB : TabB base mg cc P1) (hT : (P1, qL53) ∈ T) (hT1 : ∀ q ∈ T, q.1 = P1 → q.2 = qL53) (T0 : Tx K mg bp) (Y : Py K mg C B M)
    (I : PMake P w K mg base bp C B M fI dI) (hS : mg "SwayError" = some (.ref CS)) (Er : ErrC K CS M "most")
    (DT : Def P w K mg base CX0 2 "_law_take" ["draw", "amount"] spTake fT dT)
    (DP : Def P w K mg base CX0 3 "_law_pick" ["draw", "some"] (spPick K) fP dP)
    (GQ : Def P w K mg base (L2.CX P w) 9 "poly_product" ["one", "other"] (spPolyProd K C B M) fQ dQ)
    (GW : Def P w K mg base (L2.CX P w) 9 "poly_power" ["one", "times"] (spPolyPow K C B M N) fW dW)
    (GL : Def P w K mg base (L2.CX P w) 8 "letter" ["prime", "wide", "spot"] (spLetter K bp C N) fL dL)
    (FG : Fun K "_law_caught" "_law_caught" (top 48) fG dG) (kG : PySem.W.keepIn K (.ref fG) = true) (bG : Binds K dG ["work"] []) (gG : mg "_law_caught" = some (.ref fG)) :
    FnG P w K mg base 12 f fd ["draw", "field", "wide_here"] (spBounds T) := by
  refine okGc F hcd sc53 (fun vs H Q E h => ?_) (fun A outer s H vs Q hr hgd h => ?_)
  · obtain ⟨d, l, c, p, n, rfl, _⟩ := h
    rfl
  · obtain ⟨d, l, c, p, n, rfl, D, hp, n1, n4, tb, k⟩ := h
    have hu := hu_of hr
    have r2 : Room 2 _ := hr.mono (by decide)
    have r9 : Room 9 _ := hr.mono (by decide)
    refine ⟨_, pss_cons (ps_asg (pe_tup (pa_cons (pe_call DT.ok r2 rfl DT.g DT.kp DT.b .nil pass0 (pa_cons (pv 0) (pa_cons (pv 2) pa_nil))) (pa_cons (pe_op op_add pe_int (pe_call DT.ok r2 rfl DT.g DT.kp DT.b .nil pass0 (pa_cons (pv 0) (pa_cons pe_int pa_nil)))) pa_nil)))
          (pg_tup rfl (pgs_cons (pg_name (i := 3) sc53.nd rfl (Or.inr rfl)) (pgs_cons (pg_name (i := 4) sc53.nd rfl (Or.inr rfl)) pgs_nil))))
      (pss_cons (ps_set (i := 5) sc53.nd rfl (Or.inr rfl) (pe_callTy call_tuple_of (by rfl) T0.tuple (by decide +kernel) (pa_cons (pe_lc (own := [("k", 13)]) (g := gName 13) (tt := tYes) rfl sc53.nd (pi_range1 rfl T0.range (pa_cons (pv 2) pa_nil)) (blkOk_by (own := [("k", 13)]) (N := NBO) (sc := defScope (top 53)) (by decide +kernel))
          (fun _ _ _ _ _ => pg_name (i := 13) sc53.nd rfl (Or.inl rfl)) (fun _ _ _ _ _ => pts_nil) (fun _ _ _ _ _ => pe_ifExp (pt_cmpR op_eq (pv 13) (pv 3) (nomark _)) (pv 4) pe_int)) pa_nil)))
      (pss_cons (ps_set (i := 6) sc53.nd rfl (Or.inl rfl) (pe_callTy call_tuple_of (by rfl) T0.tuple (by decide +kernel) (pa_cons (pe_lc (own := [("k", 13)]) (g := gName 13) (tt := tYes) rfl sc53.nd (pi_range1 rfl T0.range (pa_cons (pv 2) pa_nil)) (blkOk_by (own := [("k", 13)]) (N := NBO) (sc := defScope (top 53)) (by decide +kernel))
          (fun _ _ _ _ _ => pg_name (i := 13) sc53.nd rfl (Or.inl rfl)) (fun _ _ _ _ _ => pts_nil) (fun _ _ _ _ _ => pe_ifExp (pt_cmpR op_eq (pv 13) (pv 3) (nomark _)) (pe_op op_sub pe_int (pv 4)) pe_int)) pa_nil)))
      (pss_cons (ps_set (i := 7) sc53.nd rfl (Or.inr rfl) (pe_callTy call_tuple_of (by rfl) T0.tuple (by decide +kernel) (pa_cons (pe_lc (own := [("k", 13)]) (g := gName 13) (tt := tYes) rfl sc53.nd (pi_range1 rfl T0.range (pa_cons (pv 2) pa_nil)) (blkOk_by (own := [("k", 13)]) (N := NBO) (sc := defScope (top 53)) (by decide +kernel))
          (fun _ _ _ _ _ => pg_name (i := 13) sc53.nd rfl (Or.inl rfl)) (fun _ _ _ _ _ => pts_nil) (fun _ _ _ _ _ => pe_ifExp (pt_cmpR op_eq (pv 13) (pv 3) (nomark _)) (pe_op op_sub pe_int (pv 4)) pe_int)) pa_nil)))
      (pss_cons (ps_set (i := 8) sc53.nd rfl (Or.inr rfl) (pe_make (E := fun _ _ _ => False) I.mkk I.ok (hr.mono (by decide)) rfl Y.gC I.b .nil passF (pa_cons (pv 1) (pa_cons (pv 2) (pa_cons (pe_dispT (Nat.lt_of_succ_lt hu) (pps_cons (pv 5) pe_int pps_nil) (by rfl) (by rfl) (fun z => by cases z) (by decide)) pa_nil)))))
      (pss_cons (ps_if (PW.pt (pw_or (pt_cmpR op_ne (pe_fld (pe_call (E := fun _ _ _ => False) GQ.ok r9 rfl GQ.g GQ.kp GQ.b .nil passF (pa_cons (pv 8) (pa_cons (pe_make (E := fun _ _ _ => False) I.mkk I.ok (hr.mono (by decide)) rfl Y.gC I.b .nil passF (pa_cons (pv 1) (pa_cons (pv 2)
            (pa_cons (pe_dispT (Nat.lt_of_succ_lt hu) (pps_cons (pv 6) pe_int pps_nil) (by rfl) (by rfl) (fun z => by cases z) (by decide)) pa_nil)))) pa_nil))) rfl) pe_int (nomark _))
          (pw_or1 (pt_cmpR op_ne (pe_fld (pe_call (E := fun _ _ _ => False) GW.ok r9 rfl GW.g GW.kp GW.b .nil passF (pa_cons (pe_call (E := fun _ _ _ => False) GL.ok (hr.mono (by decide)) rfl GL.g GL.kp GL.b .nil passF (pa_cons (pv 1) (pa_cons (pv 2) (pa_cons (pv 3) pa_nil)))) (pa_cons pe_int pa_nil))) rfl) pe_int (nomark _))))) (pss_one (ps_ret pe_bl)) pss_nil)
      (pss_cons (ps_set (i := 9) sc53.nd rfl (Or.inr rfl) (pe_callTy call_tuple_of (by rfl) T0.tuple (by decide +kernel) (pa_cons (pe_lc (own := [("k", 13)]) (g := gName 13) (tt := tYes) rfl sc53.nd (pi_range1 rfl T0.range (pa_cons (pv 2) pa_nil)) (blkOk_by (own := [("k", 13)]) (N := NBO) (sc := defScope (top 53)) (by decide +kernel))
          (fun _ _ _ _ _ => pg_name (i := 13) sc53.nd rfl (Or.inl rfl)) (fun _ _ _ _ _ => pts_nil) (fun _ _ _ _ _ => pe_ifExp (pt_cmpR op_eq (pv 13) (pv 3) (nomark _)) pe_int pe_int)) pa_nil)))
      (pss_cons (ps_set (i := 10) sc53.nd rfl (Or.inl rfl) (pe_lst (pa_cons (pe_lamR (k := 9) (T := T) (is := [7, 1, 8, 2]) (t := tB1 K bp C B M) TB rfl hT hT1 rfl (lamS_by (sc := defScope (top 53)) (by decide +kernel)) (show LamI NBO _ _ by decide +kernel) (fun _ _ _ _ => rfl)
          (fun f c' A outer s H E hr2 => pe_call (E := E) GQ.ok hr2 rfl GQ.g GQ.kp GQ.b .nil (passes_call (takes_of rfl rfl rfl rfl) fun _ _ _ _ h => h) (pa_cons (pv 8) (pa_cons (pe_make (E := fun _ _ _ => False) I.mkk I.ok (hr2.mono (by decide)) rfl Y.gC I.b .nil passF (pa_cons (pv 1) (pa_cons (pv 2)
            (pa_cons (pe_dispT (Nat.lt_of_succ_lt (hu_of hr2)) (pps_cons (pv 7) pe_int pps_nil) (by rfl) (by rfl) (fun z => by cases z) (by decide)) pa_nil)))) pa_nil)))) pa_nil)))
      (pss_cons (ps_expr (pe_bm PySem.F.plainAttrs_list PySem.F.slot_list_append PySem.F.type_list_append mt_append (pv 10) (pa_cons (pe_lamR (k := 9) (T := T) (is := [0, 1, 9, 2]) (t := tB2 K bp C B M) TB rfl hT hT1 rfl (lamS_by (sc := defScope (top 53)) (by decide +kernel)) (show LamI NBO _ _ by decide +kernel) (fun _ _ _ _ => rfl)
          (fun f c' A outer s H E hr2 => pe_make (E := E) I.mkk I.ok (hr2.mono (by decide)) rfl Y.gC I.b .nil (passes_call (takes_of rfl rfl rfl rfl) fun _ _ _ _ h => h) (pa_cons (pv 1) (pa_cons (pv 2)
            (pa_cons (pe_dispT (Nat.lt_of_succ_lt (hu_of hr2)) (pps_cons (pv 9) (pe_call DP.ok (hr2.mono (by decide)) rfl DP.g DP.kp DP.b .nil pass0 (pa_cons (pv 0) (pa_cons (pe_lst (pa_cons pe_int (pa_cons pe_int (pa_cons (pv 1) pa_nil)))) pa_nil))) pps_nil) (by rfl) (by rfl) (fun z => by cases z) (by decide)) pa_nil))))) pa_nil)))
      (pss_cons (ps_expr (pe_bm PySem.F.plainAttrs_list PySem.F.slot_list_append PySem.F.type_list_append mt_append (pv 10) (pa_cons (pe_lamR (k := 9) (T := T) (is := [1, 4, 5, 2]) (t := tB3 K bp C B M N) TB rfl hT hT1 rfl (lamS_by (sc := defScope (top 53)) (by decide +kernel)) (show LamI NBO _ _ by decide +kernel) (fun _ _ _ _ => rfl)
          (fun f c' A outer s H E hr2 => pe_call (E := E) GW.ok hr2 rfl GW.g GW.kp GW.b .nil (passes_call (takes_of rfl rfl rfl rfl) fun _ _ _ _ h => h) (pa_cons (pe_make (E := fun _ _ _ => False) I.mkk I.ok (hr2.mono (by decide)) rfl Y.gC I.b .nil passF (pa_cons (pv 1) (pa_cons (pv 2)
            (pa_cons (pe_dispT (Nat.lt_of_succ_lt (hu_of hr2)) (pps_cons (pv 5) pe_int (pps_cons (pe_op op_repN (pe_tup (pa_cons pe_int pa_nil)) (pv 2)) pe_int pps_nil)) (by rfl) (by rfl) (fun z => by cases z) (by decide)) pa_nil)))) (pa_cons (pe_op op_add (pe_op op_fdiv pe_int (pv 4)) pe_int) pa_nil)))) pa_nil)))
      (pss_cons (ps_for PassesOwn.never rfl (pi_list (pv 10)) (pg_name (i := 11) sc53.nd rfl (Or.inl rfl))
          (pss_cons (ps_set (i := 12) sc53.nd rfl (Or.inl rfl) (pe_cgt (k := 10) (CS := CS) FG hS rfl gG kG bG hr passF (pa_cons (pv 11) pa_nil)))
          (pss_one (ps_if (PW.pt (pw_or (pt_not (pt_val (pe_callB (r := rIsC K) call_isC (by rfl) T0.isi (by decide +kernel) (pa_cons (pv 12) (pa_cons (pe_glob (v := .ref M) (by rfl) Y.gM rfl) pa_nil))))) (pw_or1 (pt_cmpR op_ne (pe_xfc (pv 12)) pe_int (nomark _))))) (pss_one (ps_ret pe_bl)) pss_nil))))
      (pss_one (ps_ret (pe_cmpR op_eq (pe_fld (pe_call (E := fun _ _ _ => False) GQ.ok r9 rfl GQ.g GQ.kp GQ.b .nil passF (pa_cons (pv 8) (pa_cons (pe_make (E := fun _ _ _ => False) I.mkk I.ok (hr.mono (by decide)) rfl Y.gC I.b .nil passF (pa_cons (pv 1) (pa_cons (pv 2) (pa_cons pe_dnewT pa_nil)))) pa_nil))) rfl) (pe_un un_neg pe_int) (nomark _)))))))))))))), ?_⟩
    obtain ⟨pp, p2, p100⟩ := fields_p hp
    have p0 : 0 < p := by omega
    have n12 : n ≤ 12 := by omega
    refine ⟨_, rfl, _, rfl, d, l, c, n, rfl, by omega, by omega, D, fun sp H1 s0 s1 D1 S1 => ?_⟩
    refine ⟨_, rfl, d, l, c, 118, rfl, by decide, by decide, D1, fun u H2 u0 u1 D2 S2 => ?_⟩
    refine ⟨_, _, rfl, rfl, (show (2 : Nat) ≤ sizeLine by decide), fun t0 ht0 => ?_⟩
    have S3 : Same H2 (upd H2 t0 (.tup [V.int sp, V.int (2 + u)])) := (Same.refl _).put ht0
    refine ⟨t0, _, rfl, SqT.of upd_same, rfl, _, _, rfl, _, _, rfl, rfl, ?_⟩
    generalize upd H2 t0 (.tup [V.int sp, V.int (2 + u)]) = H3 at S3
    have tb3 : Tabs T H3 := (tabs_drawn D1 S2 (tabs_drawn D S1 tb)).ext S3
    have D3 := D2.up S3
    have K3 : Kept d l H H3 := (Kept.drawn (d := d) (l := l) S1).trans ((Kept.drawn (d := d) (l := l) S2).trans (Kept.of S3))
    clear S1 S2 S3 D1 D2 ht0
    refine ⟨_, rfl, n, rfl, by omega, by omega, fun L hL0 => lc_it (walk_range (lo := 0) (n := n)) (fun i H' => Same H3 H' ∧ H' L = some (.lst ((rowV i sp (2 + u)).map V.int))) ⟨(Same.refl _).put hL0, upd_same⟩ (fun _ _ _ _ => trivial) ?s1 ?e1⟩
    case s1 =>
      rintro i y H2_ H3_ hi ⟨S2_, hL⟩ ⟨rfl, rfl⟩
      have fin : ∀ x : Int, x = (if (i : Int) = sp then (2 + u) else 0) → Same H3 (upd H3_ L (.lst ((rowV i sp (2 + u)).map V.int ++ [V.int x]))) ∧ upd H3_ L (.lst ((rowV i sp (2 + u)).map V.int ++ [V.int x])) L = some (.lst ((rowV (i + 1) sp (2 + u)).map V.int)) := by
        rintro x rfl
        refine ⟨S2_.put hL0, ?_⟩
        rw [upd_same, rowV_step, List.map_append]
        rfl
      have sz : ((rowV i sp (2 + u)).map V.int).length < sizeLine := by
        rw [List.length_map, rowV_len]
        exact small1000 (by omega)
      refine ⟨rfl, _, rfl, _, rfl, rfl, _, rfl, ite2 (fun h1 => ?_) fun h1 => ?_⟩
      · have e := V.int.inj (of_decide_eq_true h1)
        exact ⟨_, rfl, _, hL, sz, fin _ (by rw [if_pos (by omega)])⟩
      · have e : ¬ (i : Int) = sp := fun z => h1 (decide_eq_true (by show V.int (0 + (i : Int)) = V.int sp; rw [Int.zero_add, z]))
        exact ⟨_, hL, sz, fin 0 (by rw [if_neg e])⟩
    intro HL_ ⟨SL_, hL_⟩
    refine ⟨L, _, rfl, .inl ⟨SqL.of hL_, fun b1 hb_ => ?_⟩⟩
    have S4 := SL_.new (o := .tup ((rowV n sp (2 + u)).map V.int)) hb_
    have hb1 : upd HL_ b1 (.tup ((rowV n sp (2 + u)).map V.int)) b1 = some (.tup ((rowV n sp (2 + u)).map V.int)) := upd_same
    generalize upd HL_ b1 (.tup ((rowV n sp (2 + u)).map V.int)) = H4 at S4 hb1
    clear hL0 SL_ hL_ hb_
    refine ⟨_, rfl, n, rfl, by omega, by omega, fun L hL0 => lc_it (walk_range (lo := 0) (n := n)) (fun i H' => Same H4 H' ∧ H' L = some (.lst ((rowV i sp (120 - (2 + u))).map V.int))) ⟨(Same.refl _).put hL0, upd_same⟩ (fun _ _ _ _ => trivial) ?s2 ?e2⟩
    case s2 =>
      rintro i y H2_ H3_ hi ⟨S2_, hL⟩ ⟨rfl, rfl⟩
      have fin : ∀ x : Int, x = (if (i : Int) = sp then (120 - (2 + u)) else 0) → Same H4 (upd H3_ L (.lst ((rowV i sp (120 - (2 + u))).map V.int ++ [V.int x]))) ∧ upd H3_ L (.lst ((rowV i sp (120 - (2 + u))).map V.int ++ [V.int x])) L = some (.lst ((rowV (i + 1) sp (120 - (2 + u))).map V.int)) := by
        rintro x rfl
        refine ⟨S2_.put hL0, ?_⟩
        rw [upd_same, rowV_step, List.map_append]
        rfl
      have sz : ((rowV i sp (120 - (2 + u))).map V.int).length < sizeLine := by
        rw [List.length_map, rowV_len]
        exact small1000 (by omega)
      refine ⟨rfl, _, rfl, _, rfl, rfl, _, rfl, ite2 (fun h1 => ?_) fun h1 => ?_⟩
      · have e := V.int.inj (of_decide_eq_true h1)
        exact ⟨_, rfl, _, _, rfl, rfl, _, hL, sz, fin _ (by rw [if_pos (by omega)])⟩
      · have e : ¬ (i : Int) = sp := fun z => h1 (decide_eq_true (by show V.int (0 + (i : Int)) = V.int sp; rw [Int.zero_add, z]))
        exact ⟨_, hL, sz, fin 0 (by rw [if_neg e])⟩
    intro HL_ ⟨SL_, hL_⟩
    refine ⟨L, _, rfl, .inl ⟨SqL.of hL_, fun b2 hb_ => ?_⟩⟩
    have S5 := SL_.new (o := .tup ((rowV n sp (120 - (2 + u))).map V.int)) hb_
    have hb2 : upd HL_ b2 (.tup ((rowV n sp (120 - (2 + u))).map V.int)) b2 = some (.tup ((rowV n sp (120 - (2 + u))).map V.int)) := upd_same
    generalize upd HL_ b2 (.tup ((rowV n sp (120 - (2 + u))).map V.int)) = H5 at S5 hb2
    clear hL0 SL_ hL_ hb_
    refine ⟨_, rfl, n, rfl, by omega, by omega, fun L hL0 => lc_it (walk_range (lo := 0) (n := n)) (fun i H' => Same H5 H' ∧ H' L = some (.lst ((rowV i sp (121 - (2 + u))).map V.int))) ⟨(Same.refl _).put hL0, upd_same⟩ (fun _ _ _ _ => trivial) ?s3 ?e3⟩
    case s3 =>
      rintro i y H2_ H3_ hi ⟨S2_, hL⟩ ⟨rfl, rfl⟩
      have fin : ∀ x : Int, x = (if (i : Int) = sp then (121 - (2 + u)) else 0) → Same H5 (upd H3_ L (.lst ((rowV i sp (121 - (2 + u))).map V.int ++ [V.int x]))) ∧ upd H3_ L (.lst ((rowV i sp (121 - (2 + u))).map V.int ++ [V.int x])) L = some (.lst ((rowV (i + 1) sp (121 - (2 + u))).map V.int)) := by
        rintro x rfl
        refine ⟨S2_.put hL0, ?_⟩
        rw [upd_same, rowV_step, List.map_append]
        rfl
      have sz : ((rowV i sp (121 - (2 + u))).map V.int).length < sizeLine := by
        rw [List.length_map, rowV_len]
        exact small1000 (by omega)
      refine ⟨rfl, _, rfl, _, rfl, rfl, _, rfl, ite2 (fun h1 => ?_) fun h1 => ?_⟩
      · have e := V.int.inj (of_decide_eq_true h1)
        exact ⟨_, rfl, _, _, rfl, rfl, _, hL, sz, fin _ (by rw [if_pos (by omega)])⟩
      · have e : ¬ (i : Int) = sp := fun z => h1 (decide_eq_true (by show V.int (0 + (i : Int)) = V.int sp; rw [Int.zero_add, z]))
        exact ⟨_, hL, sz, fin 0 (by rw [if_neg e])⟩
    intro HL_ ⟨SL_, hL_⟩
    refine ⟨L, _, rfl, .inl ⟨SqL.of hL_, fun b3 hb_ => ?_⟩⟩
    have S6 := SL_.new (o := .tup ((rowV n sp (121 - (2 + u))).map V.int)) hb_
    have hb3 : upd HL_ b3 (.tup ((rowV n sp (121 - (2 + u))).map V.int)) b3 = some (.tup ((rowV n sp (121 - (2 + u))).map V.int)) := upd_same
    generalize upd HL_ b3 (.tup ((rowV n sp (121 - (2 + u))).map V.int)) = H6 at S6 hb3
    clear hL0 SL_ hL_ hb_
    have hb1 := S6 _ _ (S5 _ _ hb1)
    have hb2 := S6 _ _ hb2
    have S36 := (S4.trans S5).trans S6
    have tb6 : Tabs T H6 := tb3.ext S36
    have D6 := D3.up S36
    have K6 : Kept d l H H6 := K3.trans (Kept.of S36)
    clear S4 S5 S6 S36 tb3 D3 K3
    have rr1 : RowsOk n [(rowV n sp (2 + u), (1 : Int))] := rowV_rows 1 s0 s1 (by omega) (by omega)
    have rr2 : RowsOk n [(rowV n sp (120 - (2 + u)), (1 : Int))] := rowV_rows 1 s0 s1 (by omega) (by omega)
    have l1 : ∀ (r : List Int) (c : Int), ([(r, c)] : List (List Int × Int)).length ≤ 1000000 := fun _ _ => (show (1 : Nat) ≤ 1000000 by decide)
    -- the first
    refine ⟨_, rfl, _, rfl, fun X hX => ⟨_, rfl, puts1 hX hb1 fun H7 S7 hX7 => ?_⟩⟩
    refine fun y1 dx ny1 ndx nex => make_p pp n1 n12 hX7 rr1 (nd_one _ _) (l1 _ _) ny1 ndx nex rfl fun H8 S8 hy1 => ⟨rfl, ?_⟩
    rw [tid_one p2] at hy1
    have S68 := S7.trans S8
    have tb8 : Tabs T H8 := tb6.ext S68
    have D8 := D6.up S68
    have K8 : Kept d l H H8 := K6.trans (Kept.of S68)
    have hb1 := S68 _ _ hb1
    have hb2 := S68 _ _ hb2
    have hb3 := S68 _ _ hb3
    clear S7 S8 S68 tb6 D6 K6 hX7 ny1 hX
    -- degree 120 by a product
    obtain ⟨q1, q2, q3⟩ := prod_one (p := p) (n := n) p2 rr1 rr2 (rowV_ok s0 s1) (rowV_ok s0 s1) (by omega)
    refine ⟨_, rfl, _, rfl, _, rfl, fun X hX => ⟨_, rfl, puts1 hX hb2 fun H9 S9 hX9 => ?_⟩⟩
    refine fun y2 dx ny2 ndx nex => make_p pp n1 n12 hX9 rr2 (nd_one _ _) (l1 _ _) ny2 ndx nex rfl fun H10 S10 hy2 => ⟨rfl, ?_⟩
    rw [tid_one p2] at hy2
    have dg : ¬ 120 < degOf [(rowV n sp (2 + u), (1 : Int))] + degOf [(rowV n sp (120 - (2 + u)), (1 : Int))] := by
      rw [degOf_one, degOf_one, rowV_ok s0 s1, rowV_ok s0 s1]
      omega
    have S810 := S9.trans S10
    have hy1b := hy1.same S810
    refine ⟨_, _, rfl, .inr ⟨y1, p, n, _, rfl, hy1b, .inr ⟨y2, p, n, _, rfl, hy2, (fun z => absurd ⟨rfl, rfl⟩ z), fun _ => ⟨fun z => absurd z dg, fun _ => ⟨n, rfl, pp, n1, n12, ts_one p2 rr1, ts_one p2 rr2, (show (1 : Nat) * 1 ≤ 1000000 by decide), q1, gives_tid (terms_nd ..) q2 fun y3 H11 S11 ny3 hy3 => ?_⟩⟩⟩⟩⟩
    obtain ⟨dx3, d3, hi3, hd3⟩ := id hy3
    refine ⟨y3, C, dx3, _, _, rfl, hi3, Y.cl, Y.n4, fs_degree _ _ _ _, rfl, _, rfl, ?_⟩
    rw [degOf_one, q3, show 2 + u + (120 - (2 + u)) = 120 by omega]
    refine ite2 (fun z => absurd z (by decide)) fun _ => ?_
    have S811 := S810.trans S11
    have tb11 : Tabs T H11 := tb8.ext S811
    have D11 := D8.up S811
    have K11 : Kept d l H H11 := K8.trans (Kept.of S811)
    have hb1 := S811 _ _ hb1
    have hb3 := S811 _ _ hb3
    have hy1 := hy1.same S811
    clear S9 S10 S811 S11 tb8 D8 K8 hX9 hy2 hy3 hi3 hd3 hy1b dg q1 q2 q3 hX S810 ny2 ny3 hb2 rr2
    -- degree 120 by a power
    have isp : isP (.int p) = true := decide_eq_true pp
    have ibn : inB (.int (n : Int)) 1 12 = true := by
      show (decide ((1 : Int) ≤ n) && decide ((n : Int) ≤ 12)) = true
      rw [decide_eq_true (by omega), decide_eq_true (by omega)]
      rfl
    have ibs : inB (.int sp) 0 ((n : Int) - 1) = true := by
      show (decide ((0 : Int) ≤ sp) && decide (sp ≤ (n : Int) - 1)) = true
      rw [decide_eq_true (by omega), decide_eq_true (by omega)]
      rfl
    obtain ⟨w1, w2, w3, w4, w5⟩ := pow120 (p := p) p2 s0 s1
    have rl : RowsOk n [(letR n sp, (1 : Int))] := rowV_rows 1 s0 s1 (by decide) (by decide)
    refine ⟨_, rfl, _, rfl, _, rfl, _, _, _, rfl, pv_flat rfl, (fun z => by rw [isp] at z; cases z), fun _ => ⟨pv_flat rfl, (fun z => by rw [ibn] at z; cases z), fun _ => ⟨pv_flat rfl, fun k2 ek => ?_⟩⟩⟩
    obtain rfl : n = k2 := by
      have := V.int.inj ek
      omega
    refine ⟨(fun z => by rw [ibs] at z; cases z), fun _ p' s' e1 e2 => ?_⟩
    cases e1
    cases e2
    refine gives_tid (nd_one _ _) (tid_one p2 _) fun y4 H12 S12 ny4 hy4 => ?_
    have dg4 : degOf [(letR n sp, (1 : Int))] = 1 := by rw [degOf_one]; exact rowV_ok s0 s1
    refine ⟨_, _, rfl, .inr ⟨y4, p, n, _, rfl, hy4, pv_flat rfl, (fun z => absurd z (by decide)), fun _ => ⟨120, rfl, fun z => absurd z (by rw [dg4]; decide), fun _ => ⟨n, rfl, pp, n1, n12, ts_one p2 rl, Nat.le_refl _, w1, w2, w3, w4, gives_tid (terms_nd ..) w5 fun y5 H13 S13 ny5 hy5 => ?_⟩⟩⟩⟩
    obtain ⟨dx5, d5, hi5, hd5⟩ := id hy5
    refine ⟨y5, C, dx5, _, _, rfl, hi5, Y.cl, Y.n4, fs_degree _ _ _ _, rfl, _, rfl, ?_⟩
    rw [degOf_one, rowV_ok s0 s1]
    refine ite2 (fun z => absurd z (by decide)) fun _ => ?_
    have S1113 := S12.trans S13
    have tb13 : Tabs T H13 := tb11.ext S1113
    have D13 := D11.up S1113
    have K13 : Kept d l H H13 := K11.trans (Kept.of S1113)
    have hb1 := S1113 _ _ hb1
    have hb3 := S1113 _ _ hb3
    have hy1 := hy1.same S1113
    clear S12 S13 S1113 tb11 D11 K11 hy4 hy5 hi5 hd5 w1 w2 w3 w4 w5 rl dg4 ny4 ny5
    refine ⟨_, rfl, n, rfl, by omega, by omega, fun L hL0 => lc_it (walk_range (lo := 0) (n := n)) (fun i H' => Same H13 H' ∧ H' L = some (.lst ((rowV i sp (121)).map V.int))) ⟨(Same.refl _).put hL0, upd_same⟩ (fun _ _ _ _ => trivial) ?s4 ?e4⟩
    case s4 =>
      rintro i y H2_ H3_ hi ⟨S2_, hL⟩ ⟨rfl, rfl⟩
      have fin : ∀ x : Int, x = (if (i : Int) = sp then (121) else 0) → Same H13 (upd H3_ L (.lst ((rowV i sp (121)).map V.int ++ [V.int x]))) ∧ upd H3_ L (.lst ((rowV i sp (121)).map V.int ++ [V.int x])) L = some (.lst ((rowV (i + 1) sp (121)).map V.int)) := by
        rintro x rfl
        refine ⟨S2_.put hL0, ?_⟩
        rw [upd_same, rowV_step, List.map_append]
        rfl
      have sz : ((rowV i sp (121)).map V.int).length < sizeLine := by
        rw [List.length_map, rowV_len]
        exact small1000 (by omega)
      refine ⟨rfl, _, rfl, _, rfl, rfl, _, rfl, ite2 (fun h1 => ?_) fun h1 => ?_⟩
      · have e := V.int.inj (of_decide_eq_true h1)
        exact ⟨_, hL, sz, fin _ (by rw [if_pos (by omega)])⟩
      · have e : ¬ (i : Int) = sp := fun z => h1 (decide_eq_true (by show V.int (0 + (i : Int)) = V.int sp; rw [Int.zero_add, z]))
        exact ⟨_, hL, sz, fin 0 (by rw [if_neg e])⟩
    intro HL_ ⟨SL_, hL_⟩
    refine ⟨L, _, rfl, .inl ⟨SqL.of hL_, fun b4 hb_ => ?_⟩⟩
    have S14 := SL_.new (o := .tup ((rowV n sp (121)).map V.int)) hb_
    have hb4 : upd HL_ b4 (.tup ((rowV n sp (121)).map V.int)) b4 = some (.tup ((rowV n sp (121)).map V.int)) := upd_same
    generalize upd HL_ b4 (.tup ((rowV n sp (121)).map V.int)) = H14 at S14 hb4
    clear hL0 SL_ hL_ hb_
    have tb14 : Tabs T H14 := tb13.ext S14
    have D14 := D13.up S14
    have K14 : Kept d l H H14 := K13.trans (Kept.of S14)
    have hb1 := S14 _ _ hb1
    have hb3 := S14 _ _ hb3
    have hy1 := hy1.same S14
    clear S14 tb13 D13 K13
    -- the closures
    refine ⟨tb14, ⟨⟨_, rfl⟩, ⟨_, rfl⟩, ⟨_, rfl⟩, ⟨_, rfl⟩, trivial⟩, fun f1 c1 O1 H16 E16 tb16 hc1 lo1 hf1 R1 => ⟨(show (1 : Nat) ≤ sizeLine by decide), fun L hL => ?_⟩⟩
    have S17 : Same H16 (upd H16 L (.lst [.ref f1])) := (Same.refl _).put hL
    have hL17 : upd H16 L (.lst [.ref f1]) L = some (.lst [.ref f1]) := upd_same
    generalize upd H16 L (.lst [.ref f1]) = H17 at S17 hL17
    have D17 := (D14.ext E16).up S17
    have nL := (D14.ext E16).none hL
    have E17 := E16.trans (ExtN.of S17)
    have tb17 : Tabs T H17 := tb16.ext S17
    have hf1 := S17 _ _ hf1
    have hc1 := S17 _ _ hc1
    have nLold : ∀ b o, H14 b = some o → (∀ ps, o ≠ .tbl ps) → b ≠ L := fun b o e n z => by
      have y := E16 _ _ e n
      rw [z, hL] at y
      cases y
    clear S17 E16 tb16 hL
    refine ⟨_, rfl, .inl ⟨rfl, _, SqL.of hL17⟩, tb17, ⟨⟨_, rfl⟩, ⟨_, rfl⟩, ⟨_, rfl⟩, ⟨_, rfl⟩, trivial⟩, fun f2 c2 O2 H18 E18 tb18 hc2 lo2 hf2 R2 => ⟨L, _, _, rfl, rfl, E18 _ _ hL17 (fun _ z => by cases z), (show (1 : Nat) < sizeLine by decide), ?_⟩⟩
    have hL18 := E18 _ _ hL17 (fun _ z => by cases z)
    have hf1 := E18 _ _ hf1 lo1.other.2.2
    have hc1 := E18 _ _ hc1 codeO_ne
    have E18 := E17.trans E18
    have nf1 : f1 ≠ L := fun e => lo1.other.2.1 _ (Option.some.inj ((e ▸ hf1 : H18 L = some O1).symm.trans hL18))
    have nf2 : f2 ≠ L := fun e => lo2.other.2.1 _ (Option.some.inj ((e ▸ hf2 : H18 L = some O2).symm.trans hL18))
    have nco : ∀ {H : Hp} {c0 : Addr} {xs : List V}, H c0 = some (CodeO c0 qL53) → H L = some (.lst xs) → c0 ≠ L := fun {H c0 xs} h1 h2 e => by
      rw [e, h2] at h1
      exact (code_other (c := L) (q := qL53)).2 _ (Option.some.inj h1).symm
    have nc1 := nco hc1 hL18
    have nc2 := nco hc2 hL18
    have hL19 : upd H18 L (.lst ([V.ref f1] ++ [V.ref f2])) L = some (.lst [.ref f1, .ref f2]) := upd_same
    have E19 : ExtN H14 (upd H18 L (.lst ([V.ref f1] ++ [V.ref f2]))) := fun b o e n => by rw [upd_ne (nLold b o e n)]; exact E18 _ _ e n
    have tb19 := tabs_lst (ys := [V.ref f1] ++ [V.ref f2]) hL18 tb18
    have hf1 := (upd_ne (o := .lst ([V.ref f1] ++ [V.ref f2])) nf1).trans hf1
    have hf2 := (upd_ne (o := .lst ([V.ref f1] ++ [V.ref f2])) nf2).trans hf2
    have hc1 := (upd_ne (o := .lst ([V.ref f1] ++ [V.ref f2])) nc1).trans hc1
    have hc2 := (upd_ne (o := .lst ([V.ref f1] ++ [V.ref f2])) nc2).trans hc2
    generalize upd H18 L (.lst ([V.ref f1] ++ [V.ref f2])) = H19 at E19 tb19 hL19 hf1 hc1 hf2 hc2
    clear E18 tb18 hL18 D17 hL17 tb17 E17
    refine ⟨_, rfl, .inl ⟨rfl, _, SqL.of hL19⟩, tb19, ⟨⟨_, rfl⟩, ⟨_, rfl⟩, ⟨_, rfl⟩, ⟨_, rfl⟩, trivial⟩, fun f3 c3 O3 H20 E20 tb20 hc3 lo3 hf3 R3 => ⟨L, _, _, rfl, rfl, E20 _ _ hL19 (fun _ z => by cases z), (show (2 : Nat) < sizeLine by decide), ?_⟩⟩
    have hL20 := E20 _ _ hL19 (fun _ z => by cases z)
    have hf1 := E20 _ _ hf1 lo1.other.2.2
    have hf2 := E20 _ _ hf2 lo2.other.2.2
    have hc1 := E20 _ _ hc1 codeO_ne
    have hc2 := E20 _ _ hc2 codeO_ne
    have E20 := E19.trans E20
    have nf3 : f3 ≠ L := fun e => lo3.other.2.1 _ (Option.some.inj ((e ▸ hf3 : H20 L = some O3).symm.trans hL20))
    have nc3 := nco hc3 hL20
    have hL21 : upd H20 L (.lst ([V.ref f1, V.ref f2] ++ [V.ref f3])) L = some (.lst [.ref f1, .ref f2, .ref f3]) := upd_same
    have E21 : ExtN H14 (upd H20 L (.lst ([V.ref f1, V.ref f2] ++ [V.ref f3]))) := fun b o e n => by rw [upd_ne (nLold b o e n)]; exact E20 _ _ e n
    have tb21 := tabs_lst (ys := [V.ref f1, V.ref f2] ++ [V.ref f3]) hL20 tb20
    have hf1 := (upd_ne (o := .lst ([V.ref f1, V.ref f2] ++ [V.ref f3])) nf1).trans hf1
    have hf2 := (upd_ne (o := .lst ([V.ref f1, V.ref f2] ++ [V.ref f3])) nf2).trans hf2
    have hf3 := (upd_ne (o := .lst ([V.ref f1, V.ref f2] ++ [V.ref f3])) nf3).trans hf3
    have hc1 := (upd_ne (o := .lst ([V.ref f1, V.ref f2] ++ [V.ref f3])) nc1).trans hc1
    have hc2 := (upd_ne (o := .lst ([V.ref f1, V.ref f2] ++ [V.ref f3])) nc2).trans hc2
    have hc3 := (upd_ne (o := .lst ([V.ref f1, V.ref f2] ++ [V.ref f3])) nc3).trans hc3
    generalize upd H20 L (.lst ([V.ref f1, V.ref f2] ++ [V.ref f3])) = H21 at E21 tb21 hL21 hf1 hc1 hf2 hc2 hf3 hc3
    clear E20 tb20 hL20 E19 tb19 hL19 nco nc1 nc2 nc3 nf1 nf2 nf3
    have D21 := D14.ext E21
    have K21 : Kept d l H H21 := K14.trans (Kept.ext E21)
    have hb1 := E21 _ _ hb1 (fun _ z => by cases z)
    have hb3 := E21 _ _ hb3 (fun _ z => by cases z)
    have hb4 := E21 _ _ hb4 (fun _ z => by cases z)
    have hy1 := hy1.ext E21
    clear D14 K14 E21 tb14 nLold
    have key : ∀ (i : Nat) (x : V) (H' : Hp) (e11 e12 : Option V), [V.ref f1, V.ref f2, V.ref f3][i]? = some x → DrawAt H' d l c → Drawn d l H21 H' → ∃ (g : Addr) (Lc : List (Addr × V)) (tl : XK → Hp → VK → Prop), x = .ref g ∧
        Caps (cxOf CX0 P w K mg base NBO "_law_bounds_right" (defScope (top 53)) f (.ref cc) A outer s H E0).nox [some (.ref d), some (.int p), some (.int n), some (.int sp), some (.int (2 + u)), some (.ref b1), some (.ref b2), some (.ref b3), some (.ref y1), some (.ref b4), some (.ref L), e11, e12, none] Lc ∧
        Runs (cxOf CX0 P w K mg base NBO "_law_bounds_right" (defScope (top 53)) f (.ref cc) A outer s H E0).nox 10 Lc g tl ∧ IsLam H' g ∧ tl (EB M "most" (.int 120) d l c H21) H' (fun _ _ => False) := by
      intro i x H' e11 e12 hx D' S'
      have hb1' := S' _ _ hb1 (D21.tup hb1).1 (D21.tup hb1).2
      have hb3' := S' _ _ hb3 (D21.tup hb3).1 (D21.tup hb3).2
      have hb4' := S' _ _ hb4 (D21.tup hb4).1 (D21.tup hb4).2
      have hy1' := hy1.drawn D21 S'
      match i, hx with
      | 0, hx =>
        obtain rfl : V.ref f1 = x := Option.some.inj hx
        have z1 := D21.other hf1 lo1.other.1 lo1.other.2.1
        have z2 := D21.other hc1 code_other.1 code_other.2
        have hf' := S' _ _ hf1 z1.1 z1.2
        refine ⟨f1, _, _, rfl, ?c1, R1, lo1.is hf', hf', S' _ _ hc1 z2.1 z2.2, ?t1⟩
        case c1 => exact caps_of (lamS_by (sc := defScope (top 53)) (by decide +kernel)) (show LamI NBO _ [7, 1, 8, 2] by decide +kernel) ⟨rfl, rfl, rfl, rfl, trivial⟩
        have rr3 : RowsOk n [(rowV n sp (121 - (2 + u)), (1 : Int))] := rowV_rows 1 s0 s1 (by omega) (by omega)
        refine ⟨_, rfl, _, rfl, _, rfl, fun X hX => ⟨_, rfl, puts1 hX hb3' fun Ha Sa hXa => ?_⟩⟩
        refine fun y2 dx ny2 ndx nex => make_p pp n1 n12 hXa rr3 (nd_one _ _) (l1 _ _) ny2 ndx nex rfl fun Hb Sb hy2 => ⟨rfl, ?_⟩
        rw [tid_one p2] at hy2
        have dg : 120 < degOf [(rowV n sp (2 + u), (1 : Int))] + degOf [(rowV n sp (121 - (2 + u)), (1 : Int))] := by
          rw [degOf_one, degOf_one, rowV_ok s0 s1, rowV_ok s0 s1]
          omega
        have Sab := Sa.trans Sb
        refine ⟨_, _, rfl, .inr ⟨y1, p, n, _, rfl, hy1'.same Sab, .inr ⟨y2, p, n, _, rfl, hy2, (fun z => absurd ⟨rfl, rfl⟩ z), fun _ => ⟨fun _ d' H3 S3 nd hd => ⟨rfl, d', rfl, hd, D'.up (Sab.trans S3), S'.trans (Drawn.of (Sab.trans S3))⟩, fun z => absurd dg z⟩⟩⟩⟩
      | 1, hx =>
        obtain rfl : V.ref f2 = x := Option.some.inj hx
        have z1 := D21.other hf2 lo2.other.1 lo2.other.2.1
        have z2 := D21.other hc2 code_other.1 code_other.2
        have hf' := S' _ _ hf2 z1.1 z1.2
        refine ⟨f2, _, _, rfl, ?c2, R2, lo2.is hf', hf', S' _ _ hc2 z2.1 z2.2, ?t2⟩
        case c2 => exact caps_of (lamS_by (sc := defScope (top 53)) (by decide +kernel)) (show LamI NBO _ [0, 1, 9, 2] by decide +kernel) ⟨rfl, rfl, rfl, rfl, trivial⟩
        refine ⟨_, rfl, _, rfl, fun X hX => ⟨_, rfl, _, rfl, _, rfl, (show (3 : Nat) ≤ sizeLine by decide), fun L2 hL2 => ?_⟩⟩
        have Sa : Same H' (upd (upd H' X (.dT [])) L2 (.lst [.int 0, .int 1, .int p])) := ((Same.refl H').put hX).trans ((Same.refl _).put hL2)
        have hXL : upd (upd H' X (.dT [])) L2 (.lst [.int 0, .int 1, .int p]) X = some (.dT []) := by rw [upd_ne (ne_of_none upd_same hL2)]; exact upd_same
        have nX := D'.none hX
        have nL2 := (D'.up ((Same.refl H').put (o := .dT []) hX)).none hL2
        have Da := D'.up Sa
        refine ⟨d, l, c, L2, [.int 0, .int 1, .int p], rfl, upd_same, nL2.2, (show 0 < 3 by decide), (show 3 < 1000 by decide), Da, fun v Hq hv Dq Sq => ?_⟩
        obtain ⟨z, rfl⟩ : ∃ z, v = .int z := by
          simp only [List.mem_cons, List.not_mem_nil, or_false] at hv
          rcases hv with rfl | rfl | rfl
          · exact ⟨_, rfl⟩
          · exact ⟨_, rfl⟩
          · exact ⟨_, rfl⟩
        have hXq := Sq _ _ hXL nX.1 nX.2
        have hb4q := Sq _ _ (Sa _ _ hb4') (D'.tup hb4').1 (D'.tup hb4').2
        refine puts_one (H2 := Hq) hXq hb4q ?_
        have DX : DrawAt (upd Hq X (.dT (rK [(rowV n sp 121, z)]))) d l c := by
          obtain ⟨⟨r0, t0, hd0⟩, ⟨ls, hl0, hll⟩, ⟨cs, hc0, hcl⟩, ne⟩ := Dq
          have hXc : c ≠ X := fun e => by rw [e, hXq] at hc0; cases hc0
          exact ⟨⟨r0, t0, by rw [upd_ne (Ne.symm nX.1)]; exact hd0⟩, ⟨ls, by rw [upd_ne (Ne.symm nX.2)]; exact hl0, hll⟩, ⟨cs, by rw [upd_ne hXc]; exact hc0, hcl⟩, ne⟩
        have SX : Drawn d l H' (upd Hq X (.dT (rK [(rowV n sp 121, z)]))) := fun b o e m1 m2 => by
          rw [upd_ne (ne_of_none e hX)]
          exact Sq _ _ (Sa _ _ e) m1 m2
        refine fun y2 dx ny2 ndx nex => make_big pp n1 n12 upd_same (fun q hq => by rw [List.mem_singleton.mp hq]; exact ⟨rowV_len n sp 121, rowV_nn (by decide)⟩) (nd_one _ _) (l1 _ _) (by simp [rowV_ok s0 s1]) ny2 ndx nex rfl fun d' H3 S3 hd => ⟨rfl, d', rfl, hd, DX.up S3, (S'.trans SX).trans (Drawn.of S3)⟩
      | 2, hx =>
        obtain rfl : V.ref f3 = x := Option.some.inj hx
        have z1 := D21.other hf3 lo3.other.1 lo3.other.2.1
        have z2 := D21.other hc3 code_other.1 code_other.2
        have hf' := S' _ _ hf3 z1.1 z1.2
        refine ⟨f3, _, _, rfl, ?c3, R3, lo3.is hf', hf', S' _ _ hc3 z2.1 z2.2, ?t3⟩
        case c3 => exact caps_of (lamS_by (sc := defScope (top 53)) (by decide +kernel)) (show LamI NBO _ [1, 4, 5, 2] by decide +kernel) ⟨rfl, rfl, rfl, rfl, trivial⟩
        refine ⟨_, rfl, _, rfl, fun X hX => ⟨_, rfl, (show (1 : Nat) ≤ sizeLine by decide), fun l2 hl2 => ⟨_, rfl, ?_⟩⟩⟩
        refine rep_read (K := K) upd_same n1 (by omega) fun t Ha Sa ht => ?_
        have Sb : Same (upd H' X (.dT [])) Ha := ((Same.refl _).put (o := .tup [V.int 0]) hl2).trans Sa
        have hXa := Sb _ _ (upd_same (H := H') (a := X) (o := .dT []))
        have hb1a := Sb _ _ (by rw [upd_ne (ne_of_none hb1' hX)]; exact hb1')
        refine ⟨_, DPut.t (k := rowK (rowV n sp (2 + u))) hXa (by rw [rowK_kV]; exact hb1a) (by decide), ?_⟩
        have e1 : putK ([] : List (List Key × V)) (rowK (rowV n sp (2 + u))) (V.int 1) = rK [(rowV n sp (2 + u), 1)] := rfl
        rw [e1]
        have htX : t ≠ X := fun e => by rw [e, hXa] at ht; cases ht
        refine ⟨_, DPut.t (k := rowK (List.replicate n 0)) upd_same (by rw [rowK_kV, upd_ne htX]; exact ht) (show (1 : Nat) < sizeLine by decide), ?_⟩
        rw [putK_asK rowK_inj, upd_upd]
        show ∀ x dx, _
        have SX : Same H' (upd Ha X (.dT (rK (putA [(rowV n sp (2 + u), 1)] (List.replicate n 0) 1)))) := fun b o e => by
          rw [upd_ne (ne_of_none e hX)]
          exact Sb _ _ (by rw [upd_ne (ne_of_none e hX)]; exact e)
        have hX2 : upd Ha X (.dT (rK (putA [(rowV n sp (2 + u), 1)] (List.replicate n 0) 1))) X = some (.dT (rK (putA [(rowV n sp (2 + u), 1)] (List.replicate n 0) 1))) := upd_same
        generalize upd Ha X (.dT (rK (putA [(rowV n sp (2 + u), 1)] (List.replicate n 0) 1))) = Hc at SX hX2
        have zr : RowsOk n (putA [(rowV n sp (2 + u), 1)] (List.replicate n 0) 1) := keys_put (Φ := fun r : List Int => r.length = n ∧ (∀ e ∈ r, 0 ≤ e) ∧ r.sum ≤ 120) rr1 ⟨List.length_replicate, (fun e he => by rw [(List.mem_replicate.mp he).2]; exact Int.le_refl _), by rw [zeros_sum]; decide⟩ _
        have zn := nodup_put (nd_one (rowV n sp (2 + u)) 1) (List.replicate n 0) 1
        have zl := putA_len [(rowV n sp (2 + u), (1 : Int))] (List.replicate n 0) 1
        have z0 : rowV n sp (2 + u) ≠ List.replicate n 0 := fun e => by
          have z := congrArg List.sum e
          rw [rowV_ok s0 s1, zeros_sum] at z
          omega
        have zc : cf (putA [(rowV n sp (2 + u), (1 : Int))] (List.replicate n 0) 1) (rowV n sp (2 + u)) = 1 := by
          rw [cf_pr _ zn, pr_put _ _ _ (nd_one _ _), if_neg (Ne.symm z0), Int.mul_zero, Int.add_zero, pr_cons, pr_nil, if_pos rfl]
          rfl
        have zm : (rowV n sp (2 + u), (1 : Int)) ∈ tid p (putA [(rowV n sp (2 + u), 1)] (List.replicate n 0) 1) := by
          refine (tid_in zn).mpr ⟨?_, ?_, ?_⟩
          · refine Classical.byContradiction fun y => ?_
            rw [cf_out y] at zc
            cases zc
          · show cf _ (rowV n sp (2 + u)) % p ≠ 0
            rw [zc, Int.emod_eq_of_lt (by omega) (by omega)]
            decide
          · show (1 : Int) = cf _ (rowV n sp (2 + u)) % p
            rw [zc, Int.emod_eq_of_lt (by omega) (by omega)]
        have zd := degOf_ge zm
        rw [show (rowV n sp (2 + u), (1 : Int)).1.sum = 2 + u from rowV_ok s0 s1] at zd
        have zlen : (putA [(rowV n sp (2 + u), (1 : Int))] (List.replicate n 0) 1).length ≤ 1000000 := Nat.le_trans zl (by show 1 + 1 ≤ 1000000; decide)
        generalize putA [(rowV n sp (2 + u), (1 : Int))] (List.replicate n 0) 1 = ts3 at hX2 zr zn zlen zd
        clear zl zc zm
        refine fun y2 dx ny2 ndx nex => make_p pp n1 n12 hX2 zr zn zlen ny2 ndx nex rfl fun Hd Sd hy2 => ⟨rfl, ?_⟩
        have q0 := Int.ediv_nonneg (show (0 : Int) ≤ 120 by decide) (show 0 ≤ 2 + u by omega)
        have q1 : 120 / (2 + u) ≤ 60 := by
          refine Int.le_of_lt_add_one (Int.ediv_lt_of_lt_mul (by omega) ?_)
          omega
        have q2 := Int.lt_ediv_add_one_mul_self 120 (show 0 < 2 + u by omega)
        refine ⟨_, rfl, _, _, rfl, rfl, ⟨by omega, by omega⟩, _, _, rfl, rfl, ?_⟩
        have ib : inB (.int (120 / (2 + u) + 1)) 0 120 = true := by
          show (decide ((0 : Int) ≤ 120 / (2 + u) + 1) && decide (120 / (2 + u) + 1 ≤ 120)) = true
          rw [decide_eq_true (by omega), decide_eq_true (by omega)]
          rfl
        have et : (((120 / (2 + u) + 1).toNat : Nat) : Int) = 120 / (2 + u) + 1 := Int.toNat_of_nonneg (by omega)
        have big : 120 < degOf (tid p ts3) * (((120 / (2 + u) + 1).toNat : Nat) : Int) := by
          rw [et, Int.mul_comm]
          have := Int.mul_le_mul_of_nonneg_left zd (show 0 ≤ 120 / (2 + u) + 1 by omega)
          omega
        refine ⟨_, _, rfl, .inr ⟨y2, p, n, _, rfl, hy2, pv_flat rfl, (fun z => by rw [ib] at z; cases z), fun _ => ⟨(120 / (2 + u) + 1).toNat, by rw [et], fun _ d' H3 S3 nd hd => ⟨rfl, d', rfl, hd, D'.up ((SX.trans Sd).trans S3), S'.trans (Drawn.of ((SX.trans Sd).trans S3))⟩, fun z => absurd big z⟩⟩⟩
      | i + 3, hx => exact absurd hx (by simp)
    refine ⟨_, rfl, L, rfl, ⟨_, SqL.of hL21⟩, for_it (walk_list (K := K) (a := L) (xs := [.ref f1, .ref f2, .ref f3])) (fun i σ H' => ∃ e11 e12 : Option V, σ = [some (.ref d), some (.int p), some (.int n), some (.int sp), some (.int (2 + u)), some (.ref b1), some (.ref b2), some (.ref b3), some (.ref y1), some (.ref b4), some (.ref L), e11, e12, none] ∧ DrawAt H' d l c ∧ Drawn d l H21 H')
      ⟨none, none, rfl, D21, fun _ _ e _ _ => e⟩ (fun i σ H' _ ⟨_, _, _, _, S⟩ => SqL.of (S _ _ hL21 nL.1 nL.2)) ?_ ?_⟩
    · rintro i x σ H22 H23 hi ⟨e11, e12, rfl, D22, S22⟩ ⟨rfl, hx⟩
      obtain ⟨g, Lc, tl, rfl, cp, rn, il, ht⟩ := key i x H23 (some x) e12 hx D22 S22
      refine ⟨_, rfl, g, Lc, tl, cp, rn, rfl, il, _, _, ht, (fun _ _ z => z.elim), fun cls dd H' h => ?_⟩
      obtain ⟨rfl, d1, rfl, hd1, D', S'⟩ := h
      refine ⟨Er.ex, fun a na => ?_⟩
      have nad : d1 ≠ a := fun e => by rw [e, na] at hd1; cases hd1
      have hd1' : upd H' a (CauO (.ref M) (some d1) a) d1 = some (.xd [("most", .int 120)]) := by rw [upd_ne nad]; exact hd1
      refine ⟨_, rfl, a, M, .ref M, .ref M, true, rfl, .own _, .inr ⟨d1, _, upd_same, hd1'⟩, Er.c, Er.kit, _, rfl, iteF ?_⟩
      refine ⟨_, rfl, a, M, d1, _, .int 120, rfl, Er.xf, Er.at_, upd_same, hd1', rfl, rfl, _, rfl, ?_⟩
      refine ite2 (fun z => absurd z (by decide)) fun _ => ?_
      exact ⟨_, _, rfl, D'.up ((Same.refl _).put na), S'.trans (Drawn.of ((Same.refl _).put na))⟩
    · rintro σ H22 ⟨e11, e12, rfl, D22, S22⟩
      have hy1 := hy1.drawn D21 S22
      have tb22 := tabs_drawn D21 S22 tb21
      have K22 : Kept d l H H22 := K21.trans (Kept.drawn S22)
      obtain ⟨q1, q2⟩ := prod_nil (p := p) (n := n) rr1
      refine ⟨_, rfl, _, rfl, _, rfl, fun X hX => ?_⟩
      have S23 : Same H22 (upd H22 X (.dT [])) := (Same.refl _).put hX
      refine fun y2 dx ny2 ndx nex => make_p (ts := []) pp n1 n12 upd_same (fun _ h => nomatch h) List.nodup_nil (Nat.zero_le _) ny2 ndx nex rfl fun H24 S24 hy2 => ⟨rfl, ?_⟩
      rw [tid_nil] at hy2
      have hy1 := hy1.same (S23.trans S24)
      have dg : ¬ 120 < degOf [(rowV n sp (2 + u), (1 : Int))] + degOf [] := by
        rw [degOf_one, rowV_ok s0 s1]
        show ¬ 120 < 2 + u + -1
        omega
      refine ⟨_, _, rfl, .inr ⟨y1, p, n, _, rfl, hy1, .inr ⟨y2, p, n, _, rfl, hy2, (fun z => absurd ⟨rfl, rfl⟩ z), fun _ => ⟨fun z => absurd z dg, fun _ => ⟨n, rfl, pp, n1, n12, ts_one p2 rr1, ts_nil p n, (show (1 : Nat) * 0 ≤ 1000000 by decide), q1, gives_tid (terms_nd ..) q2 fun y3 H25 S25 ny3 hy3 => ?_⟩⟩⟩⟩⟩
      obtain ⟨dx3, d3, hi3, hd3⟩ := id hy3
      have S2225 := (S23.trans S24).trans S25
      refine ⟨y3, C, dx3, _, _, rfl, hi3, Y.cl, Y.n4, fs_degree _ _ _ _, 1, rfl, rfl, ?_⟩
      rw [tid_nil]
      exact k H25 (D22.up S2225) (tb22.ext S2225) (K22.trans (Kept.of S2225))
end
end P2
end

section
set_option maxRecDepth 100000
set_option maxHeartbeats 4000000
namespace P2
open PySem PySem.Spec PyProof.Rows L2 LamX ClX
/-! ### `_law_word_of` -/
/-- what its errors are known by -/
structure Words (K : PySem.W.Frag) (CS N B bp : Addr) : Prop where
  n : ErrC K CS N "part"
  eB : PySem.W.exmOne K (.ref B) (.ref CS) = some true
  ep : PySem.W.exmOne K (.ref bp) (.ref CS) = some true
  cB : ExcC K B
  cp : ExcC K bp
  bn : PySem.W.kitOne K (.ref B) (.ref N) = some false
  bb : PySem.W.kitOne K (.ref B) (.ref B) = some true
  pn : PySem.W.kitOne K (.ref bp) (.ref N) = some false
  pb : PySem.W.kitOne K (.ref bp) (.ref B) = some false
  pp : PySem.W.kitOne K (.ref bp) (.ref bp) = some true
/-- the error that a work is due to raise -/
def ErrW (N B bp : Addr) (due : Str) (Z : Hp → Prop) : XK := fun cls dd H' => Z H' ∧ ((due = "poly" ∧ cls = .ref B ∧ dd = none) ∨ (due = "prime" ∧ cls = .ref bp ∧ dd = none) ∨ (cls = .ref N ∧ ∃ d1, dd = some d1 ∧ H' d1 = some (.xd [("part", .str due)])))
theorem sc54 : FnScope ["work", "caught"] ["work"] (defScope (top 54)) := ⟨rfl, rfl, rfl, by decide +kernel, rfl, by decide +kernel, by decide +kernel⟩
section
variable {X : Cx} {k : Nat} {g gc CS N B bp : Addr} {fd fc : FuncData}
theorem pe_cgt2 {Y : Cx} {p pos : Pos} {e : Expr} {ta : TA} {L : List (Addr × V)} {f : Addr} {tl : XK → Hp → VK → Prop} (F : Fun Y.K "_law_caught" "_law_caught" (top 48) g fd) (hS : Y.mg "SwayError" = some (.ref CS)) (hg : Gl Y "_law_caught") (hm : Y.mg "_law_caught" = some (.ref g)) (hk : PySem.W.keepIn Y.K (.ref g) = true) (hb : L2.Binds Y.K fd ["work"] [])
    (hr : Room (k + 1) Y.A) (hx : Passes (L2.CX Y.prog Y.w) Y (fun _ _ _ => False)) (r : Runs Y k L f tl) (cv : CellsV L Y.s_0.heap Y.H_0) (hex : Y.ex = []) (ha : PA Y [e] ta) (he : starEach [e] Y.env = (false, eval e Y.env) :: starEach [] Y.env := by rfl) (hpl : (backTo pos (starEach [] Y.env)).any (·.1) = false := by rfl) :
    PE Y (.Call (.Name "_law_caught" p) [e] [] pos) (fun σ H Q => ta σ H fun vs H1 => spCaught Y.K CS f tl vs H1 Q) :=
  pe_callAt (T := fun _ vs H Q => spCaught Y.K CS f tl vs H Q) hg hm hk hb hx (fun pins σ s H us vs Q I b rv q => caught_run F hS r hr I.env0 (cv.inv I fun p _ z => by rw [hex] at z; cases z) b rv q) (fun σ vs H Q q => by
    obtain ⟨rfl, _⟩ := q
    rfl) ha (by decide) he hpl
/-- the word of a work that raises what it is due to -/
theorem word_run {mp : Str → Option Value} (hmp : mp = X.mg) (F : Fun X.K "_law_word_of" "_law_word_of" (top 54) g fd) (FC : Fun X.K "_law_caught" "_law_caught" (top 48) gc fc) (kC : PySem.W.keepIn X.K (.ref gc) = true) (bC : L2.Binds X.K fc ["work"] []) (gC : X.mg "_law_caught" = some (.ref gc)) (hS : X.mg "SwayError" = some (.ref CS))
    (Wd : Words X.K CS N B bp) (hN : X.mg "BadNumber" = some (.ref N)) (hB : X.mg "BadPoly" = some (.ref B)) (hP : X.mg "BadPrime" = some (.ref bp)) (hI : X.mg "isinstance" = none)
    {L : List (Addr × V)} {f : Addr} {tl : XK → Hp → VK → Prop} (r : Runs X k L f tl)
    {A : Around} {outer : List Env} {s : Shared} {H : Hp} {us : List Value} {vs : List V} {Q : VK} {E : XK} {due : Str} {Z : Hp → Prop} (hr : Room (k + 2) A) (e0 : Env0 X.prog X.w X.K X.mg X.base A outer s H) (cv : CellsV L s.heap H)
    (hb : BindsTo s fd ⟨us, []⟩ ((["work"] : List Str).zip us)) (rv : Vals vs us) (hv : vs = [.ref f]) (il : IsLam H f) (ht : tl (ErrW N B bp due Z) H (fun _ _ => False)) (hQ : ∀ H' a o, Z H' → H' a = none → Q (.str due) (upd H' a o)) :
    codeAny (model X.prog X.w) A (.call (.ref g) ⟨us, []⟩) (CR (L2.CX X.prog X.w) outer X.prog X.w H s Q E) s := by
  obtain ⟨oc, od, kV, doc, pm, an, cdv, ct, osl, rfl, lk, hcd⟩ := F.ex
  refine run_ofS lk hcd sc54 hr e0 hb rv (by rw [hv]; rfl) fun hr' => ?_
  let Y : Cx := cxOf (L2.CX X.prog X.w) X.prog X.w X.K X.mg X.base ["work", "caught"] "_law_word_of" (defScope (top 54)) g cdv A outer s H E
  have rY : Runs Y k L f tl := r.like ⟨rfl, rfl, rfl, rfl, rfl⟩
  refine ⟨_, pss_cons (ps_set (i := 1) sc54.nd rfl (Or.inl rfl) (pe_cgt2 (Y := Y) (k := k) (CS := CS) FC hS rfl gC kC bC (hr'.mono (by omega)) passF rY cv rfl (pa_cons (pv 0) pa_nil)))
    (pss_cons (ps_if (pt_val (pe_callB (r := rIsC X.K) call_isC (by rfl) hI (by decide +kernel) (pa_cons (pv 1) (pa_cons (pe_glob (v := .ref N) (by rfl) hN rfl) pa_nil)))) (pss_one (ps_ret (pe_xfc (pv 1)))) pss_nil)
    (pss_one (ps_ret (pe_ifExp (pt_val (pe_callB (r := rIsC X.K) call_isC (by rfl) hI (by decide +kernel) (pa_cons (pv 1) (pa_cons (pe_glob (v := .ref B) (by rfl) hB rfl) pa_nil)))) pe_str
      (pe_ifExp (pt_val (pe_callB (r := rIsC X.K) call_isC (by rfl) hI (by decide +kernel) (pa_cons (pv 1) (pa_cons (pe_glob (v := .ref bp) (by rfl) hP rfl) pa_nil)))) pe_str pe_str))))), ?_⟩
  subst hv
  refine ⟨_, rfl, rfl, il, _, _, ht, (fun _ _ z => z.elim), fun cls dd H' h => ?_⟩
  obtain ⟨hZ, h⟩ := h
  rcases h with ⟨rfl, rfl, rfl⟩ | ⟨rfl, rfl, rfl⟩ | ⟨rfl, d1, rfl, hd1⟩
  · refine ⟨Wd.eB, fun a na => ?_⟩
    refine ⟨_, rfl, a, B, .ref N, .ref N, false, rfl, .own _, .inl upd_same, Wd.cB, Wd.bn, _, rfl, iteF ?_⟩
    refine ⟨_, rfl, a, B, .ref B, .ref B, true, rfl, .own _, .inl upd_same, Wd.cB, Wd.bb, _, rfl, iteT ?_⟩
    exact hQ H' a _ hZ na
  · refine ⟨Wd.ep, fun a na => ?_⟩
    refine ⟨_, rfl, a, bp, .ref N, .ref N, false, rfl, .own _, .inl upd_same, Wd.cp, Wd.pn, _, rfl, iteF ?_⟩
    refine ⟨_, rfl, a, bp, .ref B, .ref B, false, rfl, .own _, .inl upd_same, Wd.cp, Wd.pb, _, rfl, iteF ?_⟩
    refine ⟨_, rfl, a, bp, .ref bp, .ref bp, true, rfl, .own _, .inl upd_same, Wd.cp, Wd.pp, _, rfl, iteT ?_⟩
    exact hQ H' a _ hZ na
  · refine ⟨Wd.n.ex, fun a na => ?_⟩
    have nad : d1 ≠ a := fun e => by rw [e, na] at hd1; cases hd1
    have hd1' : upd H' a (CauO (.ref N) (some d1) a) d1 = some (.xd [("part", .str due)]) := by rw [upd_ne nad]; exact hd1
    refine ⟨_, rfl, a, N, .ref N, .ref N, true, rfl, .own _, .inr ⟨d1, _, upd_same, hd1'⟩, Wd.n.c, Wd.n.kit, _, rfl, iteT ?_⟩
    refine ⟨_, rfl, a, N, d1, _, .str due, rfl, Wd.n.xf, Wd.n.at_, upd_same, hd1', rfl, ?_⟩
    exact hQ H' a _ hZ na
end
end P2
end

section
set_option maxRecDepth 100000
set_option maxHeartbeats 4000000
namespace P2
open PySem PySem.Spec PyProof.Rows L2 LamX ClX
section
variable {P : Program} {w : World} {K : PySem.W.Frag} {mg : Str → Option Value} {base : Heap} {bp C B M N CS : Addr}
/-- no polynomial -/
inductive OddV (H : Hp) : V → Prop
  | non : OddV H .non
  | int (i : Int) : OddV H (.int i)
  | str (x : Str) : OddV H (.str x)
  | dict {b : Addr} {kvs : List (List Key × V)} (h : H b = some (.dT kvs)) : OddV H (.ref b)
theorem OddV.pv {H : Hp} {v : V} (h : OddV H v) : PV K H v := by
  cases h with
  | non => exact pv_flat rfl
  | int i => exact pv_flat rfl
  | str x => exact pv_flat rfl
  | dict h => exact ⟨"dict", by decide, .base (.dT h)⟩
/-- no good terms -/
inductive BadV (d l : Addr) (n : Nat) (H : Hp) : V → Prop
  | non : BadV d l n H .non
  | lst {b : Addr} {xs : List V} (h : H b = some (.lst xs)) (hl : b ≠ l) : BadV d l n H (.ref b)
  | rows {b : Addr} {kvs : List (List Key × V)} (h : H b = some (.dT kvs)) (hz : kvs.length ≤ 1000000) (hk : ∀ p ∈ kvs, p.1.length ≤ 1000 ∧ flatV p.2 = true) (e : (kvs.all fun p => termB "tuple" (p.1.map kV) n p.2) = false) : BadV d l n H (.ref b)
  | raw {b t : Addr} {ks : List V} {v : V} (h : H b = some (RawO b t v)) (ht : H t = some (.tup ks)) (hz : ks.length ≤ 1000) (hk : ∀ x ∈ ks, flatV x = true) (hv : flatV v = true) (e : termB "tuple" ks n v = false) : BadV d l n H (.ref b)
  | keys {b : Addr} {kvs : List (Key × V)} (h : H b = some (.dK kvs)) (hz : kvs.length ≤ 1000000) (hk : ∀ p ∈ kvs, flatV p.2 = true) (e : kvs.isEmpty = false) (hd : b ≠ d) : BadV d l n H (.ref b)
theorem BadV.terms {d l : Addr} {n : Nat} {H : Hp} {v : V} (h : BadV d l n H v) : TermsAre K H n v false := by
  cases h with
  | non => exact .other (n := "NoneType") (by decide) (.base .non) (by decide)
  | lst h hl => exact .other (n := "list") (by decide) (.base (.lst h)) (by decide)
  | rows h hz hk e =>
    have z := TermsAre.rows (K := K) (m := (n : Int)) h hz hk
    rw [e] at z
    exact z
  | raw h ht hz hk hv e =>
    have z := TermsAre.raw (K := K) (m := (n : Int)) h ht hz hk hv
    rw [e] at z
    exact z
  | keys h hz hk e hd =>
    have z := TermsAre.keys (K := K) (m := (n : Int)) h hz hk
    rw [e] at z
    exact z
theorem rawO_other {a t : Addr} {v : V} : (∀ kvs, RawO a t v ≠ .dK kvs) ∧ (∀ xs, RawO a t v ≠ .lst xs) ∧ ∀ ps, RawO a t v ≠ .tbl ps := by
  unfold RawO
  exact ⟨(fun _ z => nomatch z), (fun _ z => nomatch z), (fun _ z => nomatch z)⟩
theorem PolyAt.kept {H H' : Hp} {d l c : Addr} {C a : Addr} {p n : Int} {ts : List (List Int × Int)} (D : DrawAt H d l c) (S : Kept d l H H') (h : PolyAt H C a p n ts) : PolyAt H' C a p n ts := by
  obtain ⟨dx, e, h1, h2⟩ := h
  have n1 := D.other h1 (fun _ z => nomatch z) (fun _ z => nomatch z)
  have n2 := D.dt h2
  exact ⟨dx, e, S _ _ h1 n1.1 n1.2 (fun _ z => nomatch z), S _ _ h2 n2.1 n2.2 (fun _ z => nomatch z)⟩
/-- what the works lean on -/
structure BF (C d l c y1 ys yw a : Addr) (p q : Int) (n : Nat) (A : List (List Int × Int)) (vo vb : V) (H : Hp) : Prop where
  D : DrawAt H d l c
  f : PolyAt H C y1 p n A
  s : PolyAt H C ys q n []
  w : PolyAt H C yw p ((n + 1 : Nat) : Int) []
  o : OddV H vo
  a : H a = some (.dT (rK A))
  b : BadV d l n H vb
theorem OddV.kept {H H' : Hp} {d l c : Addr} {v : V} (D : DrawAt H d l c) (S : Kept d l H H') (h : OddV H v) : OddV H' v := by
  cases h with
  | non => exact .non
  | int i => exact .int i
  | str x => exact .str x
  | dict h => exact .dict (S _ _ h (D.dt h).1 (D.dt h).2 (fun _ z => nomatch z))
theorem BadV.kept {H H' : Hp} {d l c : Addr} {n : Nat} {v : V} (D : DrawAt H d l c) (S : Kept d l H H') (h : BadV d l n H v) : BadV d l n H' v := by
  cases h with
  | non => exact .non
  | @lst b xs h hl =>
    obtain ⟨r, t, hd⟩ := D.hd
    exact .lst (S _ _ h (fun e => by rw [e, hd] at h; cases h) hl (fun _ z => nomatch z)) hl
  | rows h hz hk e => exact .rows (S _ _ h (D.dt h).1 (D.dt h).2 (fun _ z => nomatch z)) hz hk e
  | @raw b t ks v h ht hz hk hv e =>
    have n1 := D.other h rawO_other.1 rawO_other.2.1
    have n2 := D.tup ht
    exact .raw (S _ _ h n1.1 n1.2 rawO_other.2.2) (S _ _ ht n2.1 n2.2 (fun _ z => nomatch z)) hz hk hv e
  | @keys b kvs h hz hk e hd =>
    obtain ⟨ls, hl, _⟩ := D.hl
    exact .keys (S _ _ h hd (fun z => by rw [z, hl] at h; cases h) (fun _ z => nomatch z)) hz hk e hd
theorem BF.kept {d l c y1 ys yw a : Addr} {p q : Int} {n : Nat} {A : List (List Int × Int)} {vo vb : V} {H H' : Hp} (b : BF C d l c y1 ys yw a p q n A vo vb H) (D : DrawAt H' d l c) (S : Kept d l H H') : BF C d l c y1 ys yw a p q n A vo vb H' :=
  ⟨D, b.f.kept b.D S, b.s.kept b.D S, b.w.kept b.D S, b.o.kept b.D S, S _ _ b.a (b.D.dt b.a).1 (b.D.dt b.a).2 (fun _ z => nomatch z), b.b.kept b.D S⟩
abbrev qL55 : Str := "_law_refused" ++ ".<locals>." ++ "<lambda>"
/-- where an error leaves the heap -/
abbrev ZW (d l c : Addr) (H : Hp) : Hp → Prop := fun H'' => DrawAt H'' d l c ∧ Drawn d l H H''
/-- one work, with the word that it is due to -/
def Job (X : Cx) (σ0 : L2.St) (BFp : Hp → Prop) (N B bp d l c : Addr) (H : Hp) (t : Addr) (due : Str) : Prop := ∃ (f c0 : Addr) (O : HO) (Lc : List (Addr × V)) (tl : XK → Hp → VK → Prop), H t = some (.tup [.ref f, .str due]) ∧ H f = some O ∧ H c0 = some (CodeO c0 qL55) ∧ LamHO O c0 f ∧
  Caps X σ0 Lc ∧ Runs X 10 Lc f tl ∧ ∀ H', BFp H' → H' f = some O → H' c0 = some (CodeO c0 qL55) → tl (ErrW N B bp due (ZW d l c H')) H' (fun _ _ => False)
theorem Job.kept {X : Cx} {σ0 : L2.St} {BFp : Hp → Prop} {d l c : Addr} {H H' : Hp} {t : Addr} {due : Str} (D : DrawAt H d l c) (j : Job X σ0 BFp N B bp d l c H t due) (S : Kept d l H H') : Job X σ0 BFp N B bp d l c H' t due := by
  obtain ⟨f, c0, O, Lc, tl, h1, h2, h3, h4, h5⟩ := j
  have n1 := D.tup h1
  have n2 := D.other h2 h4.other.1 h4.other.2.1
  have n3 := D.other h3 code_other.1 code_other.2
  exact ⟨f, c0, O, Lc, tl, S _ _ h1 n1.1 n1.2 (fun _ z => nomatch z), S _ _ h2 n2.1 n2.2 h4.other.2.2, S _ _ h3 n3.1 n3.2 codeO_ne, h4, h5⟩
/-- the works so far -/
structure ST (X : Cx) (σ0 : L2.St) (BFp : Hp → Prop) (N B bp d l c L : Addr) (T : List (Addr × Str)) (H0 : Hp) (js : List (Addr × Str)) (H : Hp) : Prop where
  D : DrawAt H d l c
  tb : Tabs T H
  hL : H L = some (.lst (js.map fun j => V.ref j.1))
  nL : L ≠ d ∧ L ≠ l
  nc : c ≠ L
  fresh : H0 L = none
  kp : ∀ b o, H0 b = some o → (∀ ps, o ≠ .tbl ps) → H b = some o
  jobs : ∀ j ∈ js, Job X σ0 BFp N B bp d l c H j.1 j.2
theorem st_step {X : Cx} {σ0 : L2.St} {BFp : Hp → Prop} {d l c L : Addr} {T : List (Addr × Str)} {H0 H H2 : Hp} {js : List (Addr × Str)} {f c0 t : Addr} {O : HO} {due : Str} {Lc : List (Addr × V)} {tl : XK → Hp → VK → Prop} (s : ST X σ0 BFp N B bp d l c L T H0 js H) (E : ExtN H H2) (tb : Tabs T H2) (hc : H2 c0 = some (CodeO c0 qL55)) (lo : LamHO O c0 f) (hf : H2 f = some O) (ht : H2 t = none)
    (cp : Caps X σ0 Lc) (R : Runs X 10 Lc f tl) (good : ∀ H', BFp H' → H' f = some O → H' c0 = some (CodeO c0 qL55) → tl (ErrW N B bp due (ZW d l c H')) H' (fun _ _ => False)) :
    ST X σ0 BFp N B bp d l c L T H0 (js ++ [(t, due)]) (upd (upd H2 t (.tup [.ref f, .str due])) L (.lst ((js.map fun j => V.ref j.1) ++ [V.ref t]))) := by
  have hL2 := E _ _ s.hL (fun _ z => nomatch z)
  have S3 : Same H2 (upd H2 t (.tup [.ref f, .str due])) := (Same.refl _).put ht
  have ht3 : upd H2 t (.tup [.ref f, .str due]) t = some (.tup [.ref f, .str due]) := upd_same
  have hL3 := S3 _ _ hL2
  have D3 := (s.D.ext E).up S3
  have tb3 := tb.ext S3
  have hf3 := S3 _ _ hf
  have hc3 := S3 _ _ hc
  have E3 := E.trans (ExtN.of S3)
  generalize upd H2 t (.tup [.ref f, .str due]) = H3 at S3 ht3 hL3 D3 tb3 hf3 hc3 E3
  have off : ∀ {b : Addr} {o : HO}, H3 b = some o → (∀ xs, o ≠ .lst xs) → upd H3 L (.lst ((js.map fun j => V.ref j.1) ++ [V.ref t])) b = some o := fun {b o} e n => by
    rw [upd_ne (fun z => by rw [z, hL3] at e; exact n _ (Option.some.inj e).symm)]
    exact e
  refine ⟨?_, tabs_lst hL3 tb3, ?_, s.nL, s.nc, s.fresh, fun b o e n => ?_, fun j hj => ?_⟩
  · obtain ⟨⟨r0, t0, hd0⟩, ⟨ls, hl0, hll⟩, ⟨cs, hc0, hcl⟩, ne⟩ := D3
    exact ⟨⟨r0, t0, off hd0 (fun _ z => nomatch z)⟩, ⟨ls, by rw [upd_ne (Ne.symm s.nL.2)]; exact hl0, hll⟩, ⟨cs, by rw [upd_ne s.nc]; exact hc0, hcl⟩, ne⟩
  · rw [upd_same, List.map_append]
    rfl
  · have nb : b ≠ L := fun z => by rw [z, s.fresh] at e; cases e
    rw [upd_ne nb]
    exact E3 _ _ (s.kp b o e n) n
  · rcases List.mem_append.mp hj with hj | hj
    · obtain ⟨f', c', O', Lc', tl', h1, h2, h3, h4, h5⟩ := s.jobs j hj
      exact ⟨f', c', O', Lc', tl', off (E3 _ _ h1 (fun _ z => nomatch z)) (fun _ z => nomatch z), off (E3 _ _ h2 h4.other.2.2) h4.other.2.1, off (E3 _ _ h3 codeO_ne) code_other.2, h4, h5⟩
    · rw [List.mem_singleton.mp hj]
      exact ⟨f, c0, O, Lc, tl, off ht3 (fun _ z => nomatch z), off hf3 lo.other.2.1, off hc3 code_other.2, lo, cp, R, good⟩
end
end P2
end

section
set_option maxRecDepth 100000
set_option maxHeartbeats 8000000
namespace P2
open PySem PySem.Spec PyProof.Rows L2 LamX ClX
/-- `(v,) * k` -/
theorem rep_readV {K : PySem.W.Frag} {H : Hp} {l : Addr} {v : V} {k : Nat} {Q : VK} (hl : H l = some (.tup [v])) (h1 : 1 ≤ k) (h2 : k ≤ 1000) (q : ∀ t H', Same H H' → H' t = some (.tup (List.replicate k v)) → Q (.ref t) H') : rRepN K (.ref l) (.int (k : Int)) H Q := by
  refine ⟨l, (k : Int), [v], rfl, rfl, SqT.of hl, (fun z => nomatch z), by omega, by omega, (show (1 : Nat) ≤ 1000 by decide), fun e1 => ?_, fun e1 l2 hl2 => ?_⟩
  · obtain rfl : k = 1 := by omega
    exact q l H (Same.refl _) hl
  · refine q l2 _ ((Same.refl _).put hl2) ?_
    rw [upd_same]
    rw [Int.toNat_natCast]
    congr 2
    clear q e1 h1 h2
    induction k with
    | zero => rfl
    | succ k ih =>
      rw [List.replicate_succ, List.replicate_succ, List.flatten_cons, ih]
      rfl
section
variable {X : Cx} {g gc CS N B bp : Addr} {fd fc : FuncData}
/-- the word of a work, asked within a comprehension of the frame that made it -/
theorem pe_wordB {σ : L2.St} {s : Shared} {H : Hp} {C : Addr} {cl : List (Str × Addr)} {fp : List Addr} {scope : Scope} {p pos : Pos} {e : Expr} {ta : TA} (a0 : At0 X σ s H fp) (F : Fun X.K "_law_word_of" "_law_word_of" (top 54) g fd) (kG : PySem.W.keepIn X.K (.ref g) = true) (bG : L2.Binds X.K fd ["work"] []) (gG : X.mg "_law_word_of" = some (.ref g)) (hg : Gl (X.blk s H scope (compEnvC scope cl C X.env) fp) "_law_word_of")
    (FC : Fun X.K "_law_caught" "_law_caught" (top 48) gc fc) (kC : PySem.W.keepIn X.K (.ref gc) = true) (bC : L2.Binds X.K fc ["work"] []) (gC : X.mg "_law_caught" = some (.ref gc)) (hS : X.mg "SwayError" = some (.ref CS))
    (Wd : Words X.K CS N B bp) (hN : X.mg "BadNumber" = some (.ref N)) (hB : X.mg "BadPoly" = some (.ref B)) (hP : X.mg "BadPrime" = some (.ref bp)) (hI : X.mg "isinstance" = none) (hr : Room 12 X.A)
    (ha : PA (X.blk s H scope (compEnvC scope cl C X.env) fp) [e] ta) (he : starEach [e] (compEnvC scope cl C X.env) = (false, eval e (compEnvC scope cl C X.env)) :: starEach [] (compEnvC scope cl C X.env) := by rfl) (hpl : (backTo pos (starEach [] (compEnvC scope cl C X.env))).any (·.1) = false := by rfl) :
    PE (X.blk s H scope (compEnvC scope cl C X.env) fp) (.Call (.Name "_law_word_of" p) [e] [] pos) (fun σ' H1 Q => ta σ' H1 fun vs H2 => ∃ (f : Addr) (Lc : List (Addr × V)) (tl : XK → Hp → VK → Prop) (due : Str) (Z : Hp → Prop), vs = [.ref f] ∧ Caps X σ Lc ∧ Runs X 10 Lc f tl ∧ IsLam H2 f ∧ tl (ErrW N B bp due Z) H2 (fun _ _ => False) ∧ ∀ H' a o, Z H' → H' a = none → Q (.str due) (upd H' a o)) :=
  pe_callAt (X := X.blk s H scope (compEnvC scope cl C X.env) fp) (CX := L2.CX X.prog X.w) (E := fun _ _ _ => False) (T := fun _ vs H2 Q => ∃ (f : Addr) (Lc : List (Addr × V)) (tl : XK → Hp → VK → Prop) (due : Str) (Z : Hp → Prop), vs = [.ref f] ∧ Caps X σ Lc ∧ Runs X 10 Lc f tl ∧ IsLam H2 f ∧ tl (ErrW N B bp due Z) H2 (fun _ _ => False) ∧ ∀ H' a o, Z H' → H' a = none → Q (.str due) (upd H' a o))
    hg gG kG bG passF (fun pins σ' s' H' us vs Q I b rv q => by
      obtain ⟨f, Lc, tl, due, Z, hv, cp, rn, il, ht, hQ⟩ := q
      have cv0 : CellsV Lc s.heap H := by
        obtain ⟨pn, I0⟩ := a0.inv
        exact cp.cells I0
      have cv : CellsV Lc s'.heap H' := CellsV.inv (X := X.blk s H scope (compEnvC scope cl C X.env) fp) cv0 I fun q hq z => by
        obtain ⟨i, x, _, _, _, h4⟩ := cp q hq
        exact (a0.fps _ z).1 _ _ h4 rfl
      exact word_run rfl F FC kC bC gC hS Wd hN hB hP hI rn hr I.env0 cv b rv hv il ht hQ) (fun σ' vs H2 Q q => by
      obtain ⟨f, Lc, tl, due, Z, rfl, _⟩ := q
      rfl) ha (by decide) he hpl
end
abbrev NRF : List Str := ["draw", "field", "wide_here", "one", "first", "stranger", "wider", "odd", "zero_row", "bad_terms", "works", "work", "due"]
theorem sc55 : FnScope NRF ["draw", "field", "wide_here", "one"] (defScope (top 55)) := ⟨rfl, rfl, rfl, by decide +kernel, rfl, by decide +kernel, by decide +kernel⟩
end P2
end

section
set_option maxRecDepth 100000
set_option maxHeartbeats 16000000
namespace P2
open PySem PySem.Spec PyProof.Rows L2 LamX ClX
/-- a display of one pair, any flat value -/
theorem puts1V {H : Hp} {X b : Addr} {r : List Int} {v : V} {Q : Hp → Prop} (hX : H X = none) (hb : H b = some (.tup (r.map V.int))) (k : ∀ H', Same H H' → H' X = some (.dT [(rowK r, v)]) → Q H') : Puts X [(V.ref b, v)] (upd H X (.dT [])) Q := by
  refine ⟨_, DPut.t (k := rowK r) upd_same (by rw [rowK_kV, upd_ne (ne_of_none hb hX)]; exact hb) (by decide), ?_⟩
  rw [upd_upd]
  exact k _ ((Same.refl _).put hX) upd_same
section
variable {P : Program} {w : World} {K : PySem.W.Frag} {mg : Str → Option Value} {base : Heap} {bp C B M N CS : Addr}
theorem all_not {f : V → Bool} {xs : List V} (h : (xs.all fun v => !f v) = true) {v : V} (hv : v ∈ xs) : f v = false := by
  have z := List.all_eq_true.mp h v hv
  cases e : f v with
  | false => rfl
  | true => rw [e] at z; cases z
theorem all_yes {f : V → Bool} {xs : List V} (h : (xs.all f) = true) {v : V} (hv : v ∈ xs) : f v = true := List.all_eq_true.mp h v hv
theorem no_of {b : Bool} {α : Prop} (h : b = false) (g : b = true) : α := by rw [h] at g; cases g
theorem no_of' {b : Bool} {α : Prop} (h : b = true) (g : b = false) : α := by rw [h] at g; cases g
theorem same_own {H : Hp} {x dx C : Addr} (nx : H x = none) (ndx : H dx = none) : Same H (upd (upd H dx (.own x)) x (.ins C dx [])) := fun b o e => by rw [upd_ne (ne_of_none e nx), upd_ne (ne_of_none e ndx)]; exact e
theorem zw_same {d l c : Addr} {H H1 H2 : Hp} (z : ZW d l c H H1) (S : Same H1 H2) : ZW d l c H H2 := ⟨z.1.up S, z.2.trans (Drawn.of S)⟩
/-- what is known where the refusals are looked at -/
def spRefused (T : List (Addr × Str)) : Sp := fun vs H Q _ => ∃ (d l c a : Addr) (p : Int) (n : Nat) (A : List (List Int × Int)), vs = [.ref d, .int p, .int n, .ref a] ∧ DrawAt H d l c ∧ p ∈ fields ∧ 1 ≤ n ∧ n ≤ 4 ∧ H a = some (.dT (rK A)) ∧ Canon n p A ∧ Tabs T H ∧ ∀ H', Kept d l H H' → Q (.bl true) H'
theorem ok_refused {f fI fP fS fQ fW fC fL fK fG fWd cc P1 : Addr} {fd dI dP dS dQ dW dC dL dK dG dWd : FuncData} {T : List (Addr × Str)} (F : Fun K "_law_refused" "_law_refused" (top 55) f fd) (hcd : fd.code = .ref cc) (TB : TabB base mg cc P1) (hT : (P1, qL55) ∈ T) (hT1 : ∀ q ∈ T, q.1 = P1 → q.2 = qL55) (T0 : Tx K mg bp) (Y : Py K mg C B M)
    (I : PMake P w K mg base bp C B M fI dI) (hS : mg "SwayError" = some (.ref CS)) (Wd : Words K CS N B bp) (hN : mg "BadNumber" = some (.ref N)) (hP : mg "BadPrime" = some (.ref bp))
    (DP : Def P w K mg base CX0 3 "_law_pick" ["draw", "some"] (spPick K) fP dP)
    (GS : Def P w K mg base (L2.CX P w) 9 "poly_sum" ["one", "other"] (spPolySum K C B) fS dS)
    (GQ : Def P w K mg base (L2.CX P w) 9 "poly_product" ["one", "other"] (spPolyProd K C B M) fQ dQ)
    (GC : Def P w K mg base (L2.CX P w) 8 "poly_scaled" ["one", "number"] (spPolyScaled K C B N) fC dC)
    (GW : Def P w K mg base (L2.CX P w) 9 "poly_power" ["one", "times"] (spPolyPow K C B M N) fW dW)
    (GL : Def P w K mg base (L2.CX P w) 8 "letter" ["prime", "wide", "spot"] (spLetter K bp C N) fL dL)
    (GK : Def P w K mg base (L2.CX P w) 8 "constant" ["prime", "wide", "number"] (spConst K bp C N) fK dK)
    (FG : Fun K "_law_caught" "_law_caught" (top 48) fG dG) (kG : PySem.W.keepIn K (.ref fG) = true) (bG : L2.Binds K dG ["work"] []) (gG : mg "_law_caught" = some (.ref fG))
    (FW : Fun K "_law_word_of" "_law_word_of" (top 54) fWd dWd) (kW : PySem.W.keepIn K (.ref fWd) = true) (bW : L2.Binds K dWd ["work"] []) (gW : mg "_law_word_of" = some (.ref fWd)) :
    FnG P w K mg base 13 f fd ["draw", "field", "wide_here", "one"] (spRefused T) := by
  refine okGc F hcd sc55 (fun vs H Q E h => ?_) (fun A outer s H vs Q hr hgd h => ?_)
  · obtain ⟨d, l, c, a, p, n, A, rfl, _⟩ := h
    rfl
  · obtain ⟨d, l, c, a, p, n, A1, rfl, D, hp, n1, n4, ha, cA, tb, k⟩ := h
    have hu := hu_of hr
    refine ⟨_, pss_cons (ps_asg (pe_tup (pa_cons (pe_make (E := fun _ _ _ => False) I.mkk I.ok (hr.mono (by decide)) rfl Y.gC I.b .nil passF (pa_cons (pv 1) (pa_cons (pv 2) (pa_cons (pv 3) pa_nil)))) (pa_cons (pe_make (E := fun _ _ _ => False) I.mkk I.ok (hr.mono (by decide)) rfl Y.gC I.b .nil passF (pa_cons (pe_ifExp (pt_cmpR op_ne (pv 1) pe_int (nomark _)) pe_int pe_int) (pa_cons (pv 2) (pa_cons pe_dnewT pa_nil)))) pa_nil))) (pg_tup rfl (pgs_cons (pg_name (i := 4) sc55.nd rfl (Or.inr rfl)) (pgs_cons (pg_name (i := 5) sc55.nd rfl (Or.inr rfl)) pgs_nil))))
      (pss_cons (ps_asg (pe_tup (pa_cons (pe_make (E := fun _ _ _ => False) I.mkk I.ok (hr.mono (by decide)) rfl Y.gC I.b .nil passF (pa_cons (pv 1) (pa_cons (pe_op op_add (pv 2) pe_int) (pa_cons pe_dnewT pa_nil)))) (pa_cons (pe_call DP.ok (hr.mono (by decide)) rfl DP.g DP.kp DP.b .nil pass0 (pa_cons (pv 0) (pa_cons (pe_lst (pa_cons pe_non (pa_cons pe_int (pa_cons pe_dnewT (pa_cons pe_str (pa_cons (pv 3) pa_nil)))))) pa_nil))) pa_nil))) (pg_tup rfl (pgs_cons (pg_name (i := 6) sc55.nd rfl (Or.inr rfl)) (pgs_cons (pg_name (i := 7) sc55.nd rfl (Or.inr rfl)) pgs_nil))))
      (pss_cons (ps_set (i := 8) sc55.nd rfl (Or.inl rfl) (pe_op op_repN (pe_tup (pa_cons pe_int pa_nil)) (pv 2)))
      (pss_cons (ps_set (i := 9) sc55.nd rfl (Or.inr rfl) (pe_lst (pa_cons pe_non (pa_cons (pe_lst pa_nil) (pa_cons (pe_lst (pa_cons (pe_tup (pa_cons (pv 8) (pa_cons pe_int pa_nil))) pa_nil)) (pa_cons (pe_dispT (Nat.lt_of_succ_lt hu) (pps_cons (pe_op op_catT (pv 8) (pe_tup (pa_cons pe_int pa_nil))) pe_int pps_nil) (by rfl) (by rfl) (fun z => by cases z) (by decide)) (pa_cons (pe_dispB (Nat.lt_of_succ_lt hu) (pe_op op_repN (pe_tup (pa_cons pe_bl pa_nil)) (pv 2)) pe_int) (pa_cons (pe_dispT (Nat.lt_of_succ_lt hu) (pps_cons (pv 8) pe_str pps_nil) (by rfl) (by rfl) (fun z => by cases z) (by decide)) pa_nil))))))))
      (pss_cons (ps_set (i := 9) sc55.nd rfl (Or.inr rfl) (pe_call DP.ok (hr.mono (by decide)) rfl DP.g DP.kp DP.b .nil pass0 (pa_cons (pv 0) (pa_cons (pe_op op_cat (pv 9) (pe_lst (pa_cons (pe_dispT (Nat.lt_of_succ_lt hu) (pps_cons (pv 8) pe_bl pps_nil) (by rfl) (by rfl) (fun z => by cases z) (by decide)) (pa_cons (pe_dispT (Nat.lt_of_succ_lt hu) (pps_cons (pe_op op_repN (pe_tup (pa_cons (pe_un un_neg pe_int) pa_nil)) (pv 2)) pe_int pps_nil) (by rfl) (by rfl) (fun z => by cases z) (by decide)) (pa_cons (pe_disp (pps_cons pe_str pe_int pps_nil) (by rfl) (by rfl) (fun z => by cases z) (by decide)) pa_nil))))) pa_nil))))
      (pss_cons (ps_set (i := 10) sc55.nd rfl (Or.inl rfl) (pe_lst pa_nil))
      (pss_cons (ps_expr (pe_bm PySem.F.plainAttrs_list PySem.F.slot_list_append PySem.F.type_list_append mt_append (pv 10) (pa_cons (pe_tup (pa_cons (pe_lamR (k := 9) (T := T) (is := [0]) TB rfl hT hT1 rfl (lamS_by (sc := defScope (top 55)) (by decide +kernel)) (show LamI NRF _ _ by decide +kernel) (fun _ _ _ _ => rfl)
          (fun f c' A outer s H E hr2 => pe_make (E := E) I.mkk I.ok (hr2.mono (by decide)) rfl Y.gC I.b .nil (passes_call (takes_of rfl rfl rfl rfl) fun _ _ _ _ h => h) (pa_cons (pe_call DP.ok (hr2.mono (by decide)) rfl DP.g DP.kp DP.b .nil pass0 (pa_cons (pv 0) (pa_cons (pe_lst (pa_cons pe_int (pa_cons pe_int (pa_cons pe_int (pa_cons pe_bl (pa_cons pe_non (pa_cons pe_int pa_nil))))))) pa_nil))) (pa_cons pe_int (pa_cons pe_non pa_nil))))) (pa_cons pe_str pa_nil))) pa_nil)))
      (pss_cons (ps_expr (pe_bm PySem.F.plainAttrs_list PySem.F.slot_list_append PySem.F.type_list_append mt_append (pv 10) (pa_cons (pe_tup (pa_cons (pe_lamR (k := 9) (T := T) (is := [0, 1, 3]) TB rfl hT hT1 rfl (lamS_by (sc := defScope (top 55)) (by decide +kernel)) (show LamI NRF _ _ by decide +kernel) (fun _ _ _ _ => rfl)
          (fun f c' A outer s H E hr2 => pe_make (E := E) I.mkk I.ok (hr2.mono (by decide)) rfl Y.gC I.b .nil (passes_call (takes_of rfl rfl rfl rfl) fun _ _ _ _ h => h) (pa_cons (pv 1) (pa_cons (pe_call DP.ok (hr2.mono (by decide)) rfl DP.g DP.kp DP.b .nil pass0 (pa_cons (pv 0) (pa_cons (pe_lst (pa_cons pe_int (pa_cons pe_int (pa_cons pe_bl (pa_cons pe_non (pa_cons pe_str pa_nil)))))) pa_nil))) (pa_cons (pv 3) pa_nil))))) (pa_cons pe_str pa_nil))) pa_nil)))
      (pss_cons (ps_expr (pe_bm PySem.F.plainAttrs_list PySem.F.slot_list_append PySem.F.type_list_append mt_append (pv 10) (pa_cons (pe_tup (pa_cons (pe_lamR (k := 9) (T := T) (is := [9, 1, 2]) TB rfl hT hT1 rfl (lamS_by (sc := defScope (top 55)) (by decide +kernel)) (show LamI NRF _ _ by decide +kernel) (fun _ _ _ _ => rfl)
          (fun f c' A outer s H E hr2 => pe_make (E := E) I.mkk I.ok (hr2.mono (by decide)) rfl Y.gC I.b .nil (passes_call (takes_of rfl rfl rfl rfl) fun _ _ _ _ h => h) (pa_cons (pv 1) (pa_cons (pv 2) (pa_cons (pv 9) pa_nil))))) (pa_cons pe_str pa_nil))) pa_nil)))
      (pss_cons (ps_expr (pe_bm PySem.F.plainAttrs_list PySem.F.slot_list_append PySem.F.type_list_append mt_append (pv 10) (pa_cons (pe_tup (pa_cons (pe_lamR (k := 9) (T := T) (is := [4, 5]) TB rfl hT hT1 rfl (lamS_by (sc := defScope (top 55)) (by decide +kernel)) (show LamI NRF _ _ by decide +kernel) (fun _ _ _ _ => rfl)
          (fun f c' A outer s H E hr2 => pe_call (E := E) GS.ok (hr2.mono (by decide)) rfl GS.g GS.kp GS.b .nil (passes_call (takes_of rfl rfl rfl rfl) fun _ _ _ _ h => h) (pa_cons (pv 4) (pa_cons (pv 5) pa_nil)))) (pa_cons pe_str pa_nil))) pa_nil)))
      (pss_cons (ps_expr (pe_bm PySem.F.plainAttrs_list PySem.F.slot_list_append PySem.F.type_list_append mt_append (pv 10) (pa_cons (pe_tup (pa_cons (pe_lamR (k := 9) (T := T) (is := [7, 4]) TB rfl hT hT1 rfl (lamS_by (sc := defScope (top 55)) (by decide +kernel)) (show LamI NRF _ _ by decide +kernel) (fun _ _ _ _ => rfl)
          (fun f c' A outer s H E hr2 => pe_call (E := E) GS.ok (hr2.mono (by decide)) rfl GS.g GS.kp GS.b .nil (passes_call (takes_of rfl rfl rfl rfl) fun _ _ _ _ h => h) (pa_cons (pv 7) (pa_cons (pv 4) pa_nil)))) (pa_cons pe_str pa_nil))) pa_nil)))
      (pss_cons (ps_expr (pe_bm PySem.F.plainAttrs_list PySem.F.slot_list_append PySem.F.type_list_append mt_append (pv 10) (pa_cons (pe_tup (pa_cons (pe_lamR (k := 9) (T := T) (is := [4, 6]) TB rfl hT hT1 rfl (lamS_by (sc := defScope (top 55)) (by decide +kernel)) (show LamI NRF _ _ by decide +kernel) (fun _ _ _ _ => rfl)
          (fun f c' A outer s H E hr2 => pe_call (E := E) GQ.ok (hr2.mono (by decide)) rfl GQ.g GQ.kp GQ.b .nil (passes_call (takes_of rfl rfl rfl rfl) fun _ _ _ _ h => h) (pa_cons (pv 4) (pa_cons (pv 6) pa_nil)))) (pa_cons pe_str pa_nil))) pa_nil)))
      (pss_cons (ps_expr (pe_bm PySem.F.plainAttrs_list PySem.F.slot_list_append PySem.F.type_list_append mt_append (pv 10) (pa_cons (pe_tup (pa_cons (pe_lamR (k := 9) (T := T) (is := [4, 7]) TB rfl hT hT1 rfl (lamS_by (sc := defScope (top 55)) (by decide +kernel)) (show LamI NRF _ _ by decide +kernel) (fun _ _ _ _ => rfl)
          (fun f c' A outer s H E hr2 => pe_call (E := E) GQ.ok (hr2.mono (by decide)) rfl GQ.g GQ.kp GQ.b .nil (passes_call (takes_of rfl rfl rfl rfl) fun _ _ _ _ h => h) (pa_cons (pv 4) (pa_cons (pv 7) pa_nil)))) (pa_cons pe_str pa_nil))) pa_nil)))
      (pss_cons (ps_expr (pe_bm PySem.F.plainAttrs_list PySem.F.slot_list_append PySem.F.type_list_append mt_append (pv 10) (pa_cons (pe_tup (pa_cons (pe_lamR (k := 9) (T := T) (is := [7]) TB rfl hT hT1 rfl (lamS_by (sc := defScope (top 55)) (by decide +kernel)) (show LamI NRF _ _ by decide +kernel) (fun _ _ _ _ => rfl)
          (fun f c' A outer s H E hr2 => pe_call (E := E) GC.ok (hr2.mono (by decide)) rfl GC.g GC.kp GC.b .nil (passes_call (takes_of rfl rfl rfl rfl) fun _ _ _ _ h => h) (pa_cons (pv 7) (pa_cons pe_non pa_nil)))) (pa_cons pe_str pa_nil))) pa_nil)))
      (pss_cons (ps_expr (pe_bm PySem.F.plainAttrs_list PySem.F.slot_list_append PySem.F.type_list_append mt_append (pv 10) (pa_cons (pe_tup (pa_cons (pe_lamR (k := 9) (T := T) (is := [4, 0]) TB rfl hT hT1 rfl (lamS_by (sc := defScope (top 55)) (by decide +kernel)) (show LamI NRF _ _ by decide +kernel) (fun _ _ _ _ => rfl)
          (fun f c' A outer s H E hr2 => pe_call (E := E) GC.ok (hr2.mono (by decide)) rfl GC.g GC.kp GC.b .nil (passes_call (takes_of rfl rfl rfl rfl) fun _ _ _ _ h => h) (pa_cons (pv 4) (pa_cons (pe_call DP.ok (hr2.mono (by decide)) rfl DP.g DP.kp DP.b .nil pass0 (pa_cons (pv 0) (pa_cons (pe_lst (pa_cons pe_non (pa_cons pe_bl (pa_cons pe_str pa_nil)))) pa_nil))) pa_nil)))) (pa_cons pe_str pa_nil))) pa_nil)))
      (pss_cons (ps_expr (pe_bm PySem.F.plainAttrs_list PySem.F.slot_list_append PySem.F.type_list_append mt_append (pv 10) (pa_cons (pe_tup (pa_cons (pe_lamR (k := 9) (T := T) (is := [7]) TB rfl hT hT1 rfl (lamS_by (sc := defScope (top 55)) (by decide +kernel)) (show LamI NRF _ _ by decide +kernel) (fun _ _ _ _ => rfl)
          (fun f c' A outer s H E hr2 => pe_call (E := E) GW.ok (hr2.mono (by decide)) rfl GW.g GW.kp GW.b .nil (passes_call (takes_of rfl rfl rfl rfl) fun _ _ _ _ h => h) (pa_cons (pv 7) (pa_cons pe_int pa_nil)))) (pa_cons pe_str pa_nil))) pa_nil)))
      (pss_cons (ps_expr (pe_bm PySem.F.plainAttrs_list PySem.F.slot_list_append PySem.F.type_list_append mt_append (pv 10) (pa_cons (pe_tup (pa_cons (pe_lamR (k := 9) (T := T) (is := [4, 0]) TB rfl hT hT1 rfl (lamS_by (sc := defScope (top 55)) (by decide +kernel)) (show LamI NRF _ _ by decide +kernel) (fun _ _ _ _ => rfl)
          (fun f c' A outer s H E hr2 => pe_call (E := E) GW.ok (hr2.mono (by decide)) rfl GW.g GW.kp GW.b .nil (passes_call (takes_of rfl rfl rfl rfl) fun _ _ _ _ h => h) (pa_cons (pv 4) (pa_cons (pe_call DP.ok (hr2.mono (by decide)) rfl DP.g DP.kp DP.b .nil pass0 (pa_cons (pv 0) (pa_cons (pe_lst (pa_cons (pe_un un_neg pe_int) (pa_cons pe_int (pa_cons pe_bl (pa_cons pe_non pa_nil))))) pa_nil))) pa_nil)))) (pa_cons pe_str pa_nil))) pa_nil)))
      (pss_cons (ps_expr (pe_bm PySem.F.plainAttrs_list PySem.F.slot_list_append PySem.F.type_list_append mt_append (pv 10) (pa_cons (pe_tup (pa_cons (pe_lamR (k := 9) (T := T) (is := [1, 0]) TB rfl hT hT1 rfl (lamS_by (sc := defScope (top 55)) (by decide +kernel)) (show LamI NRF _ _ by decide +kernel) (fun _ _ _ _ => rfl)
          (fun f c' A outer s H E hr2 => pe_call (E := E) GL.ok (hr2.mono (by decide)) rfl GL.g GL.kp GL.b .nil (passes_call (takes_of rfl rfl rfl rfl) fun _ _ _ _ h => h) (pa_cons (pv 1) (pa_cons (pe_call DP.ok (hr2.mono (by decide)) rfl DP.g DP.kp DP.b .nil pass0 (pa_cons (pv 0) (pa_cons (pe_lst (pa_cons pe_int (pa_cons pe_int (pa_cons pe_non pa_nil)))) pa_nil))) (pa_cons pe_int pa_nil))))) (pa_cons pe_str pa_nil))) pa_nil)))
      (pss_cons (ps_expr (pe_bm PySem.F.plainAttrs_list PySem.F.slot_list_append PySem.F.type_list_append mt_append (pv 10) (pa_cons (pe_tup (pa_cons (pe_lamR (k := 9) (T := T) (is := [1, 2, 0]) TB rfl hT hT1 rfl (lamS_by (sc := defScope (top 55)) (by decide +kernel)) (show LamI NRF _ _ by decide +kernel) (fun _ _ _ _ => rfl)
          (fun f c' A outer s H E hr2 => pe_call (E := E) GL.ok (hr2.mono (by decide)) rfl GL.g GL.kp GL.b .nil (passes_call (takes_of rfl rfl rfl rfl) fun _ _ _ _ h => h) (pa_cons (pv 1) (pa_cons (pv 2) (pa_cons (pe_call DP.ok (hr2.mono (by decide)) rfl DP.g DP.kp DP.b .nil pass0 (pa_cons (pv 0) (pa_cons (pe_lst (pa_cons (pe_un un_neg pe_int) (pa_cons (pv 2) (pa_cons pe_bl (pa_cons pe_non pa_nil))))) pa_nil))) pa_nil))))) (pa_cons pe_str pa_nil))) pa_nil)))
      (pss_cons (ps_expr (pe_bm PySem.F.plainAttrs_list PySem.F.slot_list_append PySem.F.type_list_append mt_append (pv 10) (pa_cons (pe_tup (pa_cons (pe_lamR (k := 9) (T := T) (is := []) TB rfl hT hT1 rfl (lamS_by (sc := defScope (top 55)) (by decide +kernel)) (show LamI NRF _ _ by decide +kernel) (fun _ _ _ _ => rfl)
          (fun f c' A outer s H E hr2 => pe_call (E := E) GK.ok (hr2.mono (by decide)) rfl GK.g GK.kp GK.b .nil (passes_call (takes_of rfl rfl rfl rfl) fun _ _ _ _ h => h) (pa_cons pe_int (pa_cons pe_int (pa_cons pe_non pa_nil))))) (pa_cons pe_str pa_nil))) pa_nil)))
      (pss_cons (ps_expr (pe_bm PySem.F.plainAttrs_list PySem.F.slot_list_append PySem.F.type_list_append mt_append (pv 10) (pa_cons (pe_tup (pa_cons (pe_lamR (k := 9) (T := T) (is := [1]) TB rfl hT hT1 rfl (lamS_by (sc := defScope (top 55)) (by decide +kernel)) (show LamI NRF _ _ by decide +kernel) (fun _ _ _ _ => rfl)
          (fun f c' A outer s H E hr2 => pe_call (E := E) GK.ok (hr2.mono (by decide)) rfl GK.g GK.kp GK.b .nil (passes_call (takes_of rfl rfl rfl rfl) fun _ _ _ _ h => h) (pa_cons (pv 1) (pa_cons pe_int (pa_cons pe_non pa_nil))))) (pa_cons pe_str pa_nil))) pa_nil)))
      (pss_cons (ps_expr (pe_bm PySem.F.plainAttrs_list PySem.F.slot_list_append PySem.F.type_list_append mt_append (pv 10) (pa_cons (pe_tup (pa_cons (pe_lamR (k := 9) (T := T) (is := [1, 2, 0]) TB rfl hT hT1 rfl (lamS_by (sc := defScope (top 55)) (by decide +kernel)) (show LamI NRF _ _ by decide +kernel) (fun _ _ _ _ => rfl)
          (fun f c' A outer s H E hr2 => pe_call (E := E) GK.ok (hr2.mono (by decide)) rfl GK.g GK.kp GK.b .nil (passes_call (takes_of rfl rfl rfl rfl) fun _ _ _ _ h => h) (pa_cons (pv 1) (pa_cons (pv 2) (pa_cons (pe_call DP.ok (hr2.mono (by decide)) rfl DP.g DP.kp DP.b .nil pass0 (pa_cons (pv 0) (pa_cons (pe_lst (pa_cons pe_non (pa_cons pe_bl (pa_cons pe_str pa_nil)))) pa_nil))) pa_nil))))) (pa_cons pe_str pa_nil))) pa_nil)))
      (pss_one (ps_ret (pe_cmpR (op_eqD hr.units) (lcAt (own := [("work", 11), ("due", 12)]) (g := fun _ => gTup K 2 (gCons (gName 11) (gCons (gName 12) gNil))) (te := fun _ => tC (.int 1)) rfl sc55.nd (pi_list (pv 10)) (blkOk_by (own := [("work", 11), ("due", 12)]) (N := NRF) (sc := defScope (top 55)) (by decide +kernel))
          (fun σ s H C cl fp a0 => pg_tup rfl (pgs_cons (pg_name (i := 11) sc55.nd rfl (Or.inl rfl)) (pgs_cons (pg_name (i := 12) sc55.nd rfl (Or.inl rfl)) pgs_nil)))
          (fun σ s H C cl fp a0 => pts_one (pt_cmpR op_ne (pe_wordB a0 FW kW bW gW rfl FG kG bG gG hS Wd hN Y.gB hP T0.isi hr (pa_cons (pv 11) pa_nil)) (pv 12) (nomark _)))
          (fun σ s H C cl fp a0 => pe_int)) (pe_lst pa_nil) (nomark _))))))))))))))))))))))))), ?_⟩
    obtain ⟨pp, p2, p100⟩ := fields_p hp
    have p0 : 0 < p := by omega
    have n12 : n ≤ 12 := by omega
    have fA := canon_f hp n1 n4 cA
    have lA := fA.len
    have p17 : p ≠ 17 := by
      have z : ∀ p ∈ fields, p ≠ 17 := by decide
      exact z p hp
    have nl : ∀ q ∈ ([] : List (List Int × Int)), False := fun _ h => nomatch h
    refine ⟨_, rfl, _, rfl, _, rfl, fun y1 dx ny1 ndx nex => make_p pp n1 n12 ha fA.row fA.nd (by omega) ny1 ndx nex rfl fun H1 S1 hy1 => ⟨rfl, ?_⟩⟩
    rw [fA.self] at hy1
    refine ⟨_, rfl, rfl, _, rfl, ite2 (fun _ => ?_) fun z => absurd (show (!decide (V.int p = V.int 17)) = true by rw [decide_eq_false (fun e => p17 (V.int.inj e))]; rfl) z⟩
    refine ⟨_, rfl, fun X1 hX1 => ?_⟩
    have S2 : Same H1 (upd H1 X1 (.dT [])) := (Same.refl _).put hX1
    refine fun ys dx nys ndx nex => make_p (ts := []) (p := 17) (by decide) n1 n12 upd_same (fun q h => (nl q h).elim) List.nodup_nil (Nat.zero_le _) nys ndx nex rfl fun H3 S3 hys => ⟨rfl, ?_⟩
    rw [tid_nil] at hys
    refine ⟨(show (2 : Nat) ≤ sizeLine by decide), fun tp htp => ?_⟩
    have S4 : Same H3 (upd H3 tp (.tup [V.ref y1, V.ref ys])) := (Same.refl _).put htp
    refine ⟨tp, _, rfl, SqT.of upd_same, rfl, _, _, rfl, _, _, rfl, rfl, ?_⟩
    generalize upd H3 tp (.tup [V.ref y1, V.ref ys]) = H4 at S4
    have S24 := (S2.trans S3).trans S4
    have hy1 := hy1.same S24
    have hys := hys.same S4
    have S04 := S1.trans S24
    clear S1 S2 S3 S4 S24 ny1 nys hX1 htp
    -- wider, odd
    refine ⟨_, rfl, _, rfl, _, _, rfl, rfl, fun X1 hX1 => ?_⟩
    have S5 : Same H4 (upd H4 X1 (.dT [])) := (Same.refl _).put hX1
    refine fun yw dx nyw ndx nex => make_p (ts := []) (n := n + 1) pp (by omega) (by omega) upd_same (fun q h => (nl q h).elim) List.nodup_nil (Nat.zero_le _) nyw ndx nex rfl fun H6 S6 hyw => ⟨rfl, ?_⟩
    rw [tid_nil] at hyw
    refine ⟨_, rfl, fun Xo hXo => ?_⟩
    have S7 : Same H6 (upd H6 Xo (.dT [])) := (Same.refl _).put hXo
    have hXo7 : upd H6 Xo (.dT []) Xo = some (.dT []) := upd_same
    generalize upd H6 Xo (.dT []) = H7 at S7 hXo7
    refine ⟨_, rfl, (show (5 : Nat) ≤ sizeLine by decide), fun Lo hLo => ?_⟩
    have S8 : Same H7 (upd H7 Lo (.lst [.non, .int 0, .ref Xo, .str "x", .ref a])) := (Same.refl _).put hLo
    have S47 := (S5.trans S6).trans S7
    have D7 := D.up (S04.trans S47)
    refine ⟨d, l, c, Lo, [.non, .int 0, .ref Xo, .str "x", .ref a], rfl, upd_same, (D7.none hLo).2, (show 0 < 5 by decide), (show 5 < 1000 by decide), D7.up S8, fun vo H9 hvo D9 S9 => ?_⟩
    have ha7 := (S04.trans S47) _ _ ha
    have hvo9 : OddV H9 vo := by
      have n1 := D7.dt hXo7
      have n2 := D7.dt ha7
      simp only [List.mem_cons, List.not_mem_nil, or_false] at hvo
      rcases hvo with rfl | rfl | rfl | rfl | rfl
      · exact .non
      · exact .int 0
      · exact .dict (S9 _ _ (S8 _ _ hXo7) n1.1 n1.2)
      · exact .str "x"
      · exact .dict (S9 _ _ (S8 _ _ ha7) n2.1 n2.2)
    have K09 : Kept d l H H9 := (Kept.of ((S04.trans S47).trans S8)).trans (Kept.drawn S9)
    have K49 : Kept d l H4 H9 := (Kept.of (S47.trans S8)).trans (Kept.drawn S9)
    have K69 : Kept d l H6 H9 := (Kept.of (S7.trans S8)).trans (Kept.drawn S9)
    have D4 := D.up S04
    have D6 := D4.up (S5.trans S6)
    have hy1 := hy1.kept D4 K49
    have hys := hys.kept D4 K49
    have hyw := hyw.kept D6 K69
    have tb9 : Tabs T H9 := tabs_drawn (D7.up S8) S9 (tb.ext ((S04.trans S47).trans S8))
    have ha9 := K09 _ _ ha (D.dt ha).1 (D.dt ha).2 (fun _ z => nomatch z)
    clear S04 S5 S6 S7 S8 S9 S47 K49 K69 D4 D6 D7 hXo7 ha7 hLo hXo hX1 nyw hvo
    refine ⟨(show (2 : Nat) ≤ sizeLine by decide), fun tp htp => ?_⟩
    have S10 : Same H9 (upd H9 tp (.tup [V.ref yw, vo])) := (Same.refl _).put htp
    refine ⟨tp, _, rfl, SqT.of upd_same, rfl, _, _, rfl, _, _, rfl, rfl, ?_⟩
    generalize upd H9 tp (.tup [V.ref yw, vo]) = H10 at S10
    -- zero_row
    refine ⟨(show (1 : Nat) ≤ sizeLine by decide), fun l1 hl1 => ⟨_, rfl, ?_⟩⟩
    refine rep_read (K := K) upd_same n1 (by omega) fun z0 H11 S11 hz0 => ?_
    have S911 := (S10.trans ((Same.refl _).put (o := .tup [V.int 0]) hl1)).trans S11
    clear S10 S11 htp hl1
    -- the bad terms
    refine ⟨Nat.zero_le _, fun b1 hb1 => ?_⟩
    have S12 : Same H11 (upd H11 b1 (.lst [])) := (Same.refl _).put hb1
    have hb1' : upd H11 b1 (.lst []) b1 = some (.lst []) := upd_same
    generalize upd H11 b1 (.lst []) = H12 at S12 hb1'
    refine ⟨_, rfl, (show (2 : Nat) ≤ sizeLine by decide), fun tt htt => ⟨(show (1 : Nat) ≤ sizeLine by decide), fun b2 hb2 => ?_⟩⟩
    have S13 : Same H12 (upd (upd H12 tt (.tup [V.ref z0, V.int 1])) b2 (.lst [V.ref tt])) := ((Same.refl H12).put htt).trans ((Same.refl _).put hb2)
    have hb2' : upd (upd H12 tt (.tup [V.ref z0, V.int 1])) b2 (.lst [V.ref tt]) b2 = some (.lst [V.ref tt]) := upd_same
    have nb2 : H12 b2 = none := ((Same.refl H12).put (o := .tup [V.ref z0, V.int 1]) htt).free hb2
    generalize upd (upd H12 tt (.tup [V.ref z0, V.int 1])) b2 (.lst [V.ref tt]) = H13 at S13 hb2'
    have hz13 := S13 _ _ (S12 _ _ hz0)
    refine fun X4 hX4 => ?_
    have S14 : Same H13 (upd H13 X4 (.dT [])) := (Same.refl _).put hX4
    have hX4' : upd H13 X4 (.dT []) X4 = some (.dT []) := upd_same
    generalize upd H13 X4 (.dT []) = H14 at S14 hX4'
    refine ⟨_, rfl, (show (1 : Nat) ≤ sizeLine by decide), fun tz htz => ⟨z0, tz, _, _, rfl, rfl, SqT.of (by rw [upd_ne (ne_of_none (S14 _ _ hz13) htz)]; exact S14 _ _ hz13), SqT.of upd_same, ?_, ?_, (fun z => nomatch z), fun _ t4 ht4 => ?_⟩⟩
    · intro z
      have z2 := congrArg List.length z
      rw [List.length_map, List.length_replicate] at z2
      exact absurd z2 (by show n ≠ 0; omega)
    · rw [List.length_map, List.length_replicate]
      have z : (1000 : Nat) ≤ sizeLine := by decide
      show n + 1 ≤ sizeLine
      omega
    have S15 : Same H14 (upd (upd H14 tz (.tup [V.int 0])) t4 (.tup ((List.replicate n (0 : Int)).map V.int ++ [V.int 0]))) := ((Same.refl H14).put htz).trans ((Same.refl _).put ht4)
    have ht4' : upd (upd H14 tz (.tup [V.int 0])) t4 (.tup ((List.replicate n (0 : Int)).map V.int ++ [V.int 0])) t4 = some (.tup ((List.replicate n (0 : Int) ++ [0]).map V.int)) := by rw [upd_same, List.map_append]; rfl
    generalize upd (upd H14 tz (.tup [V.int 0])) t4 (.tup ((List.replicate n (0 : Int)).map V.int ++ [V.int 0])) = H15 at S15 ht4'
    refine ⟨_, DPut.t (k := rowK (List.replicate n 0 ++ [0])) (S15 _ _ hX4') (by rw [rowK_kV]; exact ht4') (by decide), ?_⟩
    have S16 : Same H13 (upd H15 X4 (.dT (putK [] (rowK (List.replicate n 0 ++ [0])) (V.int 1)))) := fun b o e => by
      rw [upd_ne (ne_of_none e hX4)]
      exact S15 _ _ (S14 _ _ e)
    have hX4d : upd H15 X4 (.dT (putK [] (rowK (List.replicate n 0 ++ [0])) (V.int 1))) X4 = some (.dT [(rowK (List.replicate n 0 ++ [0]), V.int 1)]) := upd_same
    show Puts X4 [] _ _
    generalize upd H15 X4 (.dT (putK [] (rowK (List.replicate n 0 ++ [0])) (V.int 1))) = H16 at S16 hX4d
    clear S14 hX4' htz ht4 S15 ht4'
    refine fun X5 hX5 => ⟨(show (1 : Nat) ≤ sizeLine by decide), fun l5 hl5 => ⟨_, rfl, ?_⟩⟩
    refine rep_readV (K := K) (v := V.bl true) upd_same n1 (by omega) fun t5 H17 S17 ht5 => ?_
    have S17b := ((Same.refl _).put (o := .tup [V.bl true]) hl5).trans S17
    refine ⟨_, _, t5, n, rfl, rfl, S17b _ _ upd_same, ht5, ?_⟩
    have S18 : Same H16 (upd H17 X5 (RawO X5 t5 (.int 1))) := fun b o e => by
      rw [upd_ne (ne_of_none e hX5)]
      exact S17b _ _ (by rw [upd_ne (ne_of_none e hX5)]; exact e)
    have hX5d : upd H17 X5 (RawO X5 t5 (.int 1)) X5 = some (RawO X5 t5 (.int 1)) := upd_same
    have n55 : t5 ≠ X5 := fun e => by
      have z := S17b _ _ (upd_same (H := H16) (a := X5) (o := .dT []))
      rw [e, z] at ht5
      cases ht5
    have ht5d : upd H17 X5 (RawO X5 t5 (.int 1)) t5 = some (.tup (List.replicate n (V.bl true))) := by rw [upd_ne n55]; exact ht5
    generalize upd H17 X5 (RawO X5 t5 (.int 1)) = H18 at S18 hX5d ht5d
    clear S17 S17b hl5 ht5
    have hz18 := S18 _ _ (S16 _ _ hz13)
    refine fun X6 hX6 => ⟨_, rfl, puts1V hX6 hz18 fun H19 S19 hX6d => ?_⟩
    refine ⟨(show (6 : Nat) ≤ sizeLine by decide), fun Lb hLb => ?_⟩
    have S20 : Same H19 (upd H19 Lb (.lst [.non, .ref b1, .ref b2, .ref X4, .ref X5, .ref X6])) := (Same.refl _).put hLb
    have hLbd : upd H19 Lb (.lst [.non, .ref b1, .ref b2, .ref X4, .ref X5, .ref X6]) Lb = some (.lst [.non, .ref b1, .ref b2, .ref X4, .ref X5, .ref X6]) := upd_same
    generalize upd H19 Lb (.lst [.non, .ref b1, .ref b2, .ref X4, .ref X5, .ref X6]) = H20 at S20 hLbd
    have hz20 := S20 _ _ (S19 _ _ hz18)
    have hz0r := hz20
    have S920 : Same H9 H20 := ((((S911.trans S12).trans S13).trans S16).trans S18).trans (S19.trans S20)
    have hb1e := S20 _ _ (S19 _ _ (S18 _ _ (S16 _ _ (S13 _ _ hb1'))))
    have hb2e := S20 _ _ (S19 _ _ (S18 _ _ (S16 _ _ hb2')))
    have hX4e := S20 _ _ (S19 _ _ (S18 _ _ hX4d))
    have hX5e := S20 _ _ (S19 _ _ hX5d)
    have ht5e := S20 _ _ (S19 _ _ ht5d)
    have hX6e := S20 _ _ hX6d
    have fb1 : H9 b1 = none := S911.free hb1
    have fb2 : H9 b2 = none := (S911.trans S12).free nb2
    clear S911 S12 S13 S16 S18 S19 S20 hb1 hb2 htt hb1' hb2' nb2 hX4d hX5d ht5d hX6d hX4 hX5 hX6 hLb hz0 hz13 hz18 hz20
    refine ⟨_, rfl, _, rfl, fun X7 hX7 => ⟨_, rfl, puts1V hX7 hz0r fun H21 S21 hX7d => ?_⟩⟩
    refine fun X8 hX8 => ⟨1, rfl, (show (1 : Nat) ≤ sizeLine by decide), fun l8 hl8 => ⟨_, rfl, ?_⟩⟩
    refine rep_read (K := K) (c := -1) upd_same n1 (by omega) fun t8 H22 S22 ht8 => ?_
    have S22b := ((Same.refl _).put (o := .tup [V.int (-1)]) hl8).trans S22
    refine ⟨_, DPut.t (k := rowK (List.replicate n (-1))) (S22b _ _ (upd_same (H := H21) (a := X8) (o := .dT []))) (by rw [rowK_kV]; exact ht8) (by decide), ?_⟩
    have S23 : Same H21 (upd H22 X8 (.dT (putK [] (rowK (List.replicate n (-1))) (V.int 1)))) := fun b o e => by
      rw [upd_ne (ne_of_none e hX8)]
      exact S22b _ _ (by rw [upd_ne (ne_of_none e hX8)]; exact e)
    have hX8d : upd H22 X8 (.dT (putK [] (rowK (List.replicate n (-1))) (V.int 1))) X8 = some (.dT [(rowK (List.replicate n (-1)), V.int 1)]) := upd_same
    show Puts X8 [] _ _
    generalize upd H22 X8 (.dT (putK [] (rowK (List.replicate n (-1))) (V.int 1))) = H23 at S23 hX8d
    clear S22 S22b hl8 ht8
    refine fun X9 hX9 => ⟨upd_same, [(Sum.inr "ab", V.int 1)], rfl, (show 1 ≤ 15 by decide), ?_⟩
    have S24 : Same H23 (upd (upd H23 X9 (.dK [])) X9 (.dK (mergeK [] [(Sum.inr "ab", V.int 1)]))) := fun b o e => by
      rw [upd_ne (ne_of_none e hX9), upd_ne (ne_of_none e hX9)]
      exact e
    have hX9d : upd (upd H23 X9 (.dK [])) X9 (.dK (mergeK [] [(Sum.inr "ab", V.int 1)])) X9 = some (.dK [(Sum.inr "ab", V.int 1)]) := upd_same
    generalize upd (upd H23 X9 (.dK [])) X9 (.dK (mergeK [] [(Sum.inr "ab", V.int 1)])) = H24 at S24 hX9d
    have S2024 := (S21.trans S23).trans S24
    have S924 := S920.trans S2024
    have fX9 : H9 X9 = none := (S920.trans (S21.trans S23)).free hX9
    have hX7e := S24 _ _ (S23 _ _ hX7d)
    have hX8e := S24 _ _ hX8d
    refine ⟨(show (3 : Nat) ≤ sizeLine by decide), fun L3 hL3 => ?_⟩
    have S25 : Same H24 (upd H24 L3 (.lst [.ref X7, .ref X8, .ref X9])) := (Same.refl _).put hL3
    refine ⟨Lb, L3, _, _, rfl, rfl, S25 _ _ (S2024 _ _ hLbd), upd_same, (show 6 + 3 ≤ sizeLine by decide), fun L4 hL4 => ?_⟩
    have S26 := S25.trans ((Same.refl _).put (o := .lst ([.non, .ref b1, .ref b2, .ref X4, .ref X5, .ref X6] ++ [.ref X7, .ref X8, .ref X9])) hL4)
    have DD := D9.up (S924.trans S26)
    have nL4 := (D9.up (S924.trans S25)).none hL4
    refine ⟨d, l, c, L4, [.non, .ref b1, .ref b2, .ref X4, .ref X5, .ref X6] ++ [.ref X7, .ref X8, .ref X9], rfl, upd_same, nL4.2, (by show 0 < 9; decide), (by show 9 < 1000; decide), DD, fun vb H27 hvb D27 S27 => ?_⟩
    have bad24 : BadV d l n H24 vb := by
      have zz : ∀ (u : V), (([(rowK (List.replicate n 0), u)] : List (List Key × V)).all fun p => termB "tuple" (p.1.map kV) n p.2) = termB "tuple" ((List.replicate n (0 : Int)).map V.int) n u := fun u => by
        rw [List.all_cons, List.all_nil, Bool.and_true]
        show termB "tuple" ((rowK (List.replicate n 0)).map kV) n u = _
        rw [rowK_kV]
      have flat1 : ∀ (r : List Int) (u : V), r.length ≤ 1000 → flatV u = true → ∀ p ∈ ([(rowK r, u)] : List (List Key × V)), p.1.length ≤ 1000 ∧ flatV p.2 = true := fun r u h1 h2 p hp => by
        rw [List.mem_singleton.mp hp]
        refine ⟨?_, h2⟩
        show (rowK r).length ≤ 1000
        unfold rowK
        rw [List.length_map]
        exact h1
      have e24 := S2024
      simp only [List.cons_append, List.nil_append, List.mem_cons, List.not_mem_nil, or_false] at hvb
      rcases hvb with rfl | rfl | rfl | rfl | rfl | rfl | rfl | rfl | rfl
      · exact .non
      · exact .lst (S2024 _ _ hb1e) (D9.none fb1).2
      · exact .lst (S2024 _ _ hb2e) (D9.none fb2).2
      · refine .rows (S2024 _ _ hX4e) (show (1 : Nat) ≤ 1000000 by decide) (flat1 _ _ (by rw [List.length_append, List.length_replicate]; show n + 1 ≤ 1000; omega) rfl) ?_
        rw [List.all_cons, List.all_nil, Bool.and_true]
        show termB "tuple" ((rowK (List.replicate n 0 ++ [0])).map kV) n (.int 1) = false
        rw [rowK_kV]
        unfold termB
        have zl : decide (((((List.replicate n (0 : Int) ++ [0]).map V.int).length : Nat) : Int) = (n : Int)) = false := by
          rw [List.length_map, List.length_append, List.length_replicate]
          refine decide_eq_false ?_
          show ¬ (((n + 1 : Nat) : Int) = n)
          omega
        rw [zl]
        simp
      · refine .raw (S2024 _ _ hX5e) (S2024 _ _ ht5e) (by rw [List.length_replicate]; omega) (fun x hx => by rw [(List.mem_replicate.mp hx).2]; rfl) rfl ?_
        unfold termB
        have za : (List.replicate n (V.bl true)).all isI = false := by
          obtain ⟨m, rfl⟩ : ∃ m, n = m + 1 := ⟨n - 1, by omega⟩
          rw [List.replicate_succ, List.all_cons]
          rfl
        rw [za]
        simp
      · refine .rows (S2024 _ _ hX6e) (show (1 : Nat) ≤ 1000000 by decide) (flat1 _ _ (by rw [List.length_replicate]; omega) rfl) ?_
        rw [zz]
        unfold termB
        simp [isI]
      · refine .rows hX7e (show (1 : Nat) ≤ 1000000 by decide) (flat1 _ _ (by rw [List.length_replicate]; omega) rfl) ?_
        rw [zz]
        unfold termB
        simp [isI]
      · refine .rows hX8e (show (1 : Nat) ≤ 1000000 by decide) (flat1 _ _ (by rw [List.length_replicate]; omega) rfl) ?_
        rw [List.all_cons, List.all_nil, Bool.and_true]
        show termB "tuple" ((rowK (List.replicate n (-1))).map kV) n (.int 1) = false
        rw [rowK_kV]
        unfold termB
        have za : ((List.replicate n (-1 : Int)).map V.int).all nn = false := by
          obtain ⟨m, rfl⟩ : ∃ m, n = m + 1 := ⟨n - 1, by omega⟩
          rw [List.replicate_succ, List.map_cons, List.all_cons]
          rfl
        rw [za]
        simp
      · exact .keys hX9d (show (1 : Nat) ≤ 1000000 by decide) (fun p hp => by rw [List.mem_singleton.mp hp]; rfl) rfl (D9.none fX9).1
    have K2427 : Kept d l H24 H27 := (Kept.of S26).trans (Kept.drawn S27)
    have K927 : Kept d l H9 H27 := (Kept.of (S924.trans S26)).trans (Kept.drawn S27)
    have bf : BF C d l c y1 ys yw a p 17 n A1 vo vb H27 := ⟨D27, hy1.kept D9 K927, hys.kept D9 K927, hyw.kept D9 K927, hvo9.kept D9 K927, K927 _ _ ha9 (D9.dt ha9).1 (D9.dt ha9).2 (fun _ z => nomatch z), bad24.kept (D9.up S924) K2427⟩
    have tb27 : Tabs T H27 := tabs_drawn DD S27 (tb9.ext (S924.trans S26))
    have K027 : Kept d l H H27 := K09.trans K927
    clear S920 hb1e hb2e hX4e hX5e ht5e hX6e fb1 fb2 S21 S23 S24 S25 S26 S27 hX7d hX8d hX9d S2024 S924 fX9 hX7e hX8e hL3 hL4 DD nL4 hX7 hX8 hX9 hvb bad24 K2427 K927 K09 tb9 ha9 hy1 hys hyw hvo9 hLbd hz0r D9 tb
    -- the works
    refine ⟨Nat.zero_le _, fun L hL => ?_⟩
    have st : ST (cxOf CX0 P w K mg base NRF "_law_refused" (defScope (top 55)) f (.ref cc) A outer s H E0).nox [some (.ref d), some (.int p), some (.int n), some (.ref a), some (.ref y1), some (.ref ys), some (.ref yw), some vo, some (.ref z0), some vb, some (.ref L), none, none] (BF C d l c y1 ys yw a p 17 n A1 vo vb) N B bp d l c L T H27 [] (upd H27 L (.lst [])) := by
      have S28 : Same H27 (upd H27 L (.lst [])) := (Same.refl _).put hL
      obtain ⟨cs, hc0, _⟩ := D27.hc
      exact ⟨D27.up S28, tb27.ext S28, upd_same, D27.none hL, (fun e => by rw [e, hL] at hc0; cases hc0), hL, fun b o e _ => S28 _ _ e, fun j hj => nomatch hj⟩
    generalize upd H27 L (.lst []) = H28 at st
    clear tb27
    have isp : isP (.int p) = true := decide_eq_true pp
    have ibn : inB (.int (n : Int)) 1 12 = true := by
      show (decide ((1 : Int) ≤ n) && decide ((n : Int) ≤ 12)) = true
      rw [decide_eq_true (by omega), decide_eq_true (by omega)]
      rfl
    refine ⟨_, rfl, .inl ⟨rfl, _, SqL.of st.hL⟩, st.tb, ⟨⟨_, rfl⟩, trivial⟩, fun f0 c0 O0 H0a E0 tb0 hc0 lo0 hf0 R0 => ⟨(show (2 : Nat) ≤ sizeLine by decide), fun t0 ht0 => ⟨L, _, _, rfl, rfl, by rw [upd_ne (ne_of_none (E0 _ _ st.hL (fun _ z => nomatch z)) ht0)]; exact E0 _ _ st.hL (fun _ z => nomatch z), by show (0 : Nat) < sizeLine; decide, ?_⟩⟩⟩
    have st := st_step (due := "prime") st E0 tb0 hc0 lo0 hf0 ht0 (caps_of (lamS_by (sc := defScope (top 55)) (by decide +kernel)) (show LamI NRF _ [0] by decide +kernel) ⟨rfl, trivial⟩) R0 (fun H' b hO hC => ⟨hO, hC, by
      refine ⟨_, rfl, (show (6 : Nat) ≤ sizeLine by decide), fun L' hL' => ?_⟩
      have S' : Same H' (upd H' L' (.lst [.int 0, .int 1, .int 8, .bl true, .non, .int 101])) := (Same.refl _).put hL'
      refine ⟨d, l, c, L', [.int 0, .int 1, .int 8, .bl true, .non, .int 101], rfl, upd_same, (b.D.none hL').2, by show 0 < 6; decide, by show 6 < 1000; decide, b.D.up S', fun v Hq hv Dq Sq => ?_⟩
      have zq : ZW d l c H' Hq := ⟨Dq, (Drawn.of S').trans Sq⟩
      have hyq := b.f.kept b.D (Kept.drawn zq.2)
      have fP : isP v = false := all_not (xs := [.int 0, .int 1, .int 8, .bl true, .non, .int 101]) (by decide) hv
      exact fun x dx nx ndx nex => ⟨x, dx, v, .int 0, .non, rfl, upd_same, pv_flat (all_yes (xs := [.int 0, .int 1, .int 8, .bl true, .non, .int 101]) rfl hv), (fun _ => ⟨zw_same zq (same_own nx ndx), .inr (.inl ⟨rfl, rfl, rfl⟩)⟩), fun z => no_of fP z⟩⟩)
    generalize upd (upd H0a t0 (.tup [V.ref f0, V.str "prime"])) L _ = H0b at st
    clear E0 tb0 hc0 lo0 hf0 ht0 R0
    refine ⟨_, rfl, .inl ⟨rfl, _, SqL.of st.hL⟩, st.tb, ⟨⟨_, rfl⟩, ⟨⟨_, rfl⟩, ⟨⟨_, rfl⟩, trivial⟩⟩⟩, fun f1 c1 O1 H1a E1 tb1 hc1 lo1 hf1 R1 => ⟨(show (2 : Nat) ≤ sizeLine by decide), fun t1 ht1 => ⟨L, _, _, rfl, rfl, by rw [upd_ne (ne_of_none (E1 _ _ st.hL (fun _ z => nomatch z)) ht1)]; exact E1 _ _ st.hL (fun _ z => nomatch z), by show (1 : Nat) < sizeLine; decide, ?_⟩⟩⟩
    have st := st_step (due := "poly") st E1 tb1 hc1 lo1 hf1 ht1 (caps_of (lamS_by (sc := defScope (top 55)) (by decide +kernel)) (show LamI NRF _ [0, 1, 3] by decide +kernel) ⟨rfl, ⟨rfl, ⟨rfl, trivial⟩⟩⟩) R1 (fun H' b hO hC => ⟨hO, hC, by
      refine ⟨_, rfl, _, rfl, (show (5 : Nat) ≤ sizeLine by decide), fun L' hL' => ?_⟩
      have S' : Same H' (upd H' L' (.lst [.int 0, .int 13, .bl true, .non, .str "2"])) := (Same.refl _).put hL'
      refine ⟨d, l, c, L', [.int 0, .int 13, .bl true, .non, .str "2"], rfl, upd_same, (b.D.none hL').2, by show 0 < 5; decide, by show 5 < 1000; decide, b.D.up S', fun v Hq hv Dq Sq => ?_⟩
      have zq : ZW d l c H' Hq := ⟨Dq, (Drawn.of S').trans Sq⟩
      have hyq := b.f.kept b.D (Kept.drawn zq.2)
      have fW : inB v 1 12 = false := all_not (f := fun v => inB v 1 12) (xs := [.int 0, .int 13, .bl true, .non, .str "2"]) rfl hv
      refine ⟨_, rfl, fun x dx nx ndx nex => ⟨x, dx, .int p, v, .ref a, rfl, upd_same, pv_flat rfl, (fun z => no_of' isp z), fun _ => ⟨pv_flat (all_yes (xs := [.int 0, .int 13, .bl true, .non, .str "2"]) rfl hv), (fun _ => ⟨zw_same zq (same_own nx ndx), .inl ⟨rfl, rfl, rfl⟩⟩), fun z => no_of fW z⟩⟩⟩⟩)
    generalize upd (upd H1a t1 (.tup [V.ref f1, V.str "poly"])) L _ = H1b at st
    clear E1 tb1 hc1 lo1 hf1 ht1 R1
    refine ⟨_, rfl, .inl ⟨rfl, _, SqL.of st.hL⟩, st.tb, ⟨⟨_, rfl⟩, ⟨⟨_, rfl⟩, ⟨⟨_, rfl⟩, trivial⟩⟩⟩, fun f2 c2 O2 H2a E2 tb2 hc2 lo2 hf2 R2 => ⟨(show (2 : Nat) ≤ sizeLine by decide), fun t2 ht2 => ⟨L, _, _, rfl, rfl, by rw [upd_ne (ne_of_none (E2 _ _ st.hL (fun _ z => nomatch z)) ht2)]; exact E2 _ _ st.hL (fun _ z => nomatch z), by show (2 : Nat) < sizeLine; decide, ?_⟩⟩⟩
    have st := st_step (due := "poly") st E2 tb2 hc2 lo2 hf2 ht2 (caps_of (lamS_by (sc := defScope (top 55)) (by decide +kernel)) (show LamI NRF _ [9, 1, 2] by decide +kernel) ⟨rfl, ⟨rfl, ⟨rfl, trivial⟩⟩⟩) R2 (fun H' b hO hC => ⟨hO, hC, ⟨_, rfl, _, rfl, _, rfl, fun x dx nx ndx nex => ⟨x, dx, .int p, .int n, vb, rfl, upd_same, pv_flat rfl, (fun z => no_of' isp z), fun _ => ⟨pv_flat rfl, (fun z => no_of' ibn z), fun _ => ⟨n, false, rfl, (b.b.kept b.D (Kept.of (same_own nx ndx))).terms, (fun _ H3 S3 => ⟨zw_same (zw_same ⟨b.D, fun _ _ e _ _ => e⟩ (same_own nx ndx)) S3, .inl ⟨rfl, rfl, rfl⟩⟩), fun z => nomatch z⟩⟩⟩⟩⟩)
    generalize upd (upd H2a t2 (.tup [V.ref f2, V.str "poly"])) L _ = H2b at st
    clear E2 tb2 hc2 lo2 hf2 ht2 R2
    refine ⟨_, rfl, .inl ⟨rfl, _, SqL.of st.hL⟩, st.tb, ⟨⟨_, rfl⟩, ⟨⟨_, rfl⟩, trivial⟩⟩, fun f3 c3 O3 H3a E3 tb3 hc3 lo3 hf3 R3 => ⟨(show (2 : Nat) ≤ sizeLine by decide), fun t3 ht3 => ⟨L, _, _, rfl, rfl, by rw [upd_ne (ne_of_none (E3 _ _ st.hL (fun _ z => nomatch z)) ht3)]; exact E3 _ _ st.hL (fun _ z => nomatch z), by show (3 : Nat) < sizeLine; decide, ?_⟩⟩⟩
    have st := st_step (due := "poly") st E3 tb3 hc3 lo3 hf3 ht3 (caps_of (lamS_by (sc := defScope (top 55)) (by decide +kernel)) (show LamI NRF _ [4, 5] by decide +kernel) ⟨rfl, ⟨rfl, trivial⟩⟩) R3 (fun H' b hO hC => ⟨hO, hC, ⟨_, rfl, _, rfl, _, _, rfl, .inr ⟨y1, p, n, A1, rfl, b.f, .inr ⟨ys, 17, n, [], rfl, b.s, (fun _ => ⟨⟨b.D, fun _ _ e _ _ => e⟩, .inl ⟨rfl, rfl, rfl⟩⟩), fun z => absurd z.1 p17⟩⟩⟩⟩)
    generalize upd (upd H3a t3 (.tup [V.ref f3, V.str "poly"])) L _ = H3b at st
    clear E3 tb3 hc3 lo3 hf3 ht3 R3
    refine ⟨_, rfl, .inl ⟨rfl, _, SqL.of st.hL⟩, st.tb, ⟨⟨_, rfl⟩, ⟨⟨_, rfl⟩, trivial⟩⟩, fun f4 c4 O4 H4a E4 tb4 hc4 lo4 hf4 R4 => ⟨(show (2 : Nat) ≤ sizeLine by decide), fun t4 ht4 => ⟨L, _, _, rfl, rfl, by rw [upd_ne (ne_of_none (E4 _ _ st.hL (fun _ z => nomatch z)) ht4)]; exact E4 _ _ st.hL (fun _ z => nomatch z), by show (4 : Nat) < sizeLine; decide, ?_⟩⟩⟩
    have st := st_step (due := "poly") st E4 tb4 hc4 lo4 hf4 ht4 (caps_of (lamS_by (sc := defScope (top 55)) (by decide +kernel)) (show LamI NRF _ [7, 4] by decide +kernel) ⟨rfl, ⟨rfl, trivial⟩⟩) R4 (fun H' b hO hC => ⟨hO, hC, ⟨_, rfl, _, rfl, _, _, rfl, .inl ⟨b.o.pv, ⟨⟨b.D, fun _ _ e _ _ => e⟩, .inl ⟨rfl, rfl, rfl⟩⟩⟩⟩⟩)
    generalize upd (upd H4a t4 (.tup [V.ref f4, V.str "poly"])) L _ = H4b at st
    clear E4 tb4 hc4 lo4 hf4 ht4 R4
    refine ⟨_, rfl, .inl ⟨rfl, _, SqL.of st.hL⟩, st.tb, ⟨⟨_, rfl⟩, ⟨⟨_, rfl⟩, trivial⟩⟩, fun f5 c5 O5 H5a E5 tb5 hc5 lo5 hf5 R5 => ⟨(show (2 : Nat) ≤ sizeLine by decide), fun t5 ht5 => ⟨L, _, _, rfl, rfl, by rw [upd_ne (ne_of_none (E5 _ _ st.hL (fun _ z => nomatch z)) ht5)]; exact E5 _ _ st.hL (fun _ z => nomatch z), by show (5 : Nat) < sizeLine; decide, ?_⟩⟩⟩
    have st := st_step (due := "poly") st E5 tb5 hc5 lo5 hf5 ht5 (caps_of (lamS_by (sc := defScope (top 55)) (by decide +kernel)) (show LamI NRF _ [4, 6] by decide +kernel) ⟨rfl, ⟨rfl, trivial⟩⟩) R5 (fun H' b hO hC => ⟨hO, hC, ⟨_, rfl, _, rfl, _, _, rfl, .inr ⟨y1, p, n, A1, rfl, b.f, .inr ⟨yw, p, ((n + 1 : Nat) : Int), [], rfl, b.w, (fun _ => ⟨⟨b.D, fun _ _ e _ _ => e⟩, .inl ⟨rfl, rfl, rfl⟩⟩), fun z => absurd z.2 (by omega)⟩⟩⟩⟩)
    generalize upd (upd H5a t5 (.tup [V.ref f5, V.str "poly"])) L _ = H5b at st
    clear E5 tb5 hc5 lo5 hf5 ht5 R5
    refine ⟨_, rfl, .inl ⟨rfl, _, SqL.of st.hL⟩, st.tb, ⟨⟨_, rfl⟩, ⟨⟨_, rfl⟩, trivial⟩⟩, fun f6 c6 O6 H6a E6 tb6 hc6 lo6 hf6 R6 => ⟨(show (2 : Nat) ≤ sizeLine by decide), fun t6 ht6 => ⟨L, _, _, rfl, rfl, by rw [upd_ne (ne_of_none (E6 _ _ st.hL (fun _ z => nomatch z)) ht6)]; exact E6 _ _ st.hL (fun _ z => nomatch z), by show (6 : Nat) < sizeLine; decide, ?_⟩⟩⟩
    have st := st_step (due := "poly") st E6 tb6 hc6 lo6 hf6 ht6 (caps_of (lamS_by (sc := defScope (top 55)) (by decide +kernel)) (show LamI NRF _ [4, 7] by decide +kernel) ⟨rfl, ⟨rfl, trivial⟩⟩) R6 (fun H' b hO hC => ⟨hO, hC, ⟨_, rfl, _, rfl, _, _, rfl, .inr ⟨y1, p, n, A1, rfl, b.f, .inl ⟨b.o.pv, ⟨⟨b.D, fun _ _ e _ _ => e⟩, .inl ⟨rfl, rfl, rfl⟩⟩⟩⟩⟩⟩)
    generalize upd (upd H6a t6 (.tup [V.ref f6, V.str "poly"])) L _ = H6b at st
    clear E6 tb6 hc6 lo6 hf6 ht6 R6
    refine ⟨_, rfl, .inl ⟨rfl, _, SqL.of st.hL⟩, st.tb, ⟨⟨_, rfl⟩, trivial⟩, fun f7 c7 O7 H7a E7 tb7 hc7 lo7 hf7 R7 => ⟨(show (2 : Nat) ≤ sizeLine by decide), fun t7 ht7 => ⟨L, _, _, rfl, rfl, by rw [upd_ne (ne_of_none (E7 _ _ st.hL (fun _ z => nomatch z)) ht7)]; exact E7 _ _ st.hL (fun _ z => nomatch z), by show (7 : Nat) < sizeLine; decide, ?_⟩⟩⟩
    have st := st_step (due := "poly") st E7 tb7 hc7 lo7 hf7 ht7 (caps_of (lamS_by (sc := defScope (top 55)) (by decide +kernel)) (show LamI NRF _ [7] by decide +kernel) ⟨rfl, trivial⟩) R7 (fun H' b hO hC => ⟨hO, hC, ⟨_, rfl, _, _, rfl, .inl ⟨b.o.pv, ⟨⟨b.D, fun _ _ e _ _ => e⟩, .inl ⟨rfl, rfl, rfl⟩⟩⟩⟩⟩)
    generalize upd (upd H7a t7 (.tup [V.ref f7, V.str "poly"])) L _ = H7b at st
    clear E7 tb7 hc7 lo7 hf7 ht7 R7
    refine ⟨_, rfl, .inl ⟨rfl, _, SqL.of st.hL⟩, st.tb, ⟨⟨_, rfl⟩, ⟨⟨_, rfl⟩, trivial⟩⟩, fun f8 c8 O8 H8a E8 tb8 hc8 lo8 hf8 R8 => ⟨(show (2 : Nat) ≤ sizeLine by decide), fun t8 ht8 => ⟨L, _, _, rfl, rfl, by rw [upd_ne (ne_of_none (E8 _ _ st.hL (fun _ z => nomatch z)) ht8)]; exact E8 _ _ st.hL (fun _ z => nomatch z), by show (8 : Nat) < sizeLine; decide, ?_⟩⟩⟩
    have st := st_step (due := "number") st E8 tb8 hc8 lo8 hf8 ht8 (caps_of (lamS_by (sc := defScope (top 55)) (by decide +kernel)) (show LamI NRF _ [4, 0] by decide +kernel) ⟨rfl, ⟨rfl, trivial⟩⟩) R8 (fun H' b hO hC => ⟨hO, hC, by
      refine ⟨_, rfl, _, rfl, (show (3 : Nat) ≤ sizeLine by decide), fun L' hL' => ?_⟩
      have S' : Same H' (upd H' L' (.lst [.non, .bl true, .str "1"])) := (Same.refl _).put hL'
      refine ⟨d, l, c, L', [.non, .bl true, .str "1"], rfl, upd_same, (b.D.none hL').2, by show 0 < 3; decide, by show 3 < 1000; decide, b.D.up S', fun v Hq hv Dq Sq => ?_⟩
      have zq : ZW d l c H' Hq := ⟨Dq, (Drawn.of S').trans Sq⟩
      have hyq := b.f.kept b.D (Kept.drawn zq.2)
      have fI : isI v = false := all_not (xs := [.non, .bl true, .str "1"]) rfl hv
      exact ⟨_, _, rfl, .inr ⟨y1, p, n, A1, rfl, hyq, pv_flat (all_yes (xs := [.non, .bl true, .str "1"]) rfl hv), (fun _ d1 H3 S3 _ hd => ⟨zw_same zq S3, .inr (.inr ⟨rfl, d1, rfl, hd⟩)⟩), fun z => no_of fI z⟩⟩⟩)
    generalize upd (upd H8a t8 (.tup [V.ref f8, V.str "number"])) L _ = H8b at st
    clear E8 tb8 hc8 lo8 hf8 ht8 R8
    refine ⟨_, rfl, .inl ⟨rfl, _, SqL.of st.hL⟩, st.tb, ⟨⟨_, rfl⟩, trivial⟩, fun f9 c9 O9 H9a E9 tb9 hc9 lo9 hf9 R9 => ⟨(show (2 : Nat) ≤ sizeLine by decide), fun t9 ht9 => ⟨L, _, _, rfl, rfl, by rw [upd_ne (ne_of_none (E9 _ _ st.hL (fun _ z => nomatch z)) ht9)]; exact E9 _ _ st.hL (fun _ z => nomatch z), by show (9 : Nat) < sizeLine; decide, ?_⟩⟩⟩
    have st := st_step (due := "poly") st E9 tb9 hc9 lo9 hf9 ht9 (caps_of (lamS_by (sc := defScope (top 55)) (by decide +kernel)) (show LamI NRF _ [7] by decide +kernel) ⟨rfl, trivial⟩) R9 (fun H' b hO hC => ⟨hO, hC, ⟨_, rfl, _, _, rfl, .inl ⟨b.o.pv, ⟨⟨b.D, fun _ _ e _ _ => e⟩, .inl ⟨rfl, rfl, rfl⟩⟩⟩⟩⟩)
    generalize upd (upd H9a t9 (.tup [V.ref f9, V.str "poly"])) L _ = H9b at st
    clear E9 tb9 hc9 lo9 hf9 ht9 R9
    refine ⟨_, rfl, .inl ⟨rfl, _, SqL.of st.hL⟩, st.tb, ⟨⟨_, rfl⟩, ⟨⟨_, rfl⟩, trivial⟩⟩, fun f10 c10 O10 H10a E10 tb10 hc10 lo10 hf10 R10 => ⟨(show (2 : Nat) ≤ sizeLine by decide), fun t10 ht10 => ⟨L, _, _, rfl, rfl, by rw [upd_ne (ne_of_none (E10 _ _ st.hL (fun _ z => nomatch z)) ht10)]; exact E10 _ _ st.hL (fun _ z => nomatch z), by show (10 : Nat) < sizeLine; decide, ?_⟩⟩⟩
    have st := st_step (due := "times") st E10 tb10 hc10 lo10 hf10 ht10 (caps_of (lamS_by (sc := defScope (top 55)) (by decide +kernel)) (show LamI NRF _ [4, 0] by decide +kernel) ⟨rfl, ⟨rfl, trivial⟩⟩) R10 (fun H' b hO hC => ⟨hO, hC, by
      refine ⟨_, rfl, _, rfl, 1, rfl, (show (4 : Nat) ≤ sizeLine by decide), fun L' hL' => ?_⟩
      have S' : Same H' (upd H' L' (.lst [.int (-1), .int 121, .bl true, .non])) := (Same.refl _).put hL'
      refine ⟨d, l, c, L', [.int (-1), .int 121, .bl true, .non], rfl, upd_same, (b.D.none hL').2, by show 0 < 4; decide, by show 4 < 1000; decide, b.D.up S', fun v Hq hv Dq Sq => ?_⟩
      have zq : ZW d l c H' Hq := ⟨Dq, (Drawn.of S').trans Sq⟩
      have hyq := b.f.kept b.D (Kept.drawn zq.2)
      have fW : inB v 0 120 = false := all_not (f := fun v => inB v 0 120) (xs := [.int (-1), .int 121, .bl true, .non]) rfl hv
      exact ⟨_, _, rfl, .inr ⟨y1, p, n, A1, rfl, hyq, pv_flat (all_yes (xs := [.int (-1), .int 121, .bl true, .non]) rfl hv), (fun _ d1 H3 S3 _ hd => ⟨zw_same zq S3, .inr (.inr ⟨rfl, d1, rfl, hd⟩)⟩), fun z => no_of fW z⟩⟩⟩)
    generalize upd (upd H10a t10 (.tup [V.ref f10, V.str "times"])) L _ = H10b at st
    clear E10 tb10 hc10 lo10 hf10 ht10 R10
    refine ⟨_, rfl, .inl ⟨rfl, _, SqL.of st.hL⟩, st.tb, ⟨⟨_, rfl⟩, ⟨⟨_, rfl⟩, trivial⟩⟩, fun f11 c11 O11 H11a E11 tb11 hc11 lo11 hf11 R11 => ⟨(show (2 : Nat) ≤ sizeLine by decide), fun t11 ht11 => ⟨L, _, _, rfl, rfl, by rw [upd_ne (ne_of_none (E11 _ _ st.hL (fun _ z => nomatch z)) ht11)]; exact E11 _ _ st.hL (fun _ z => nomatch z), by show (11 : Nat) < sizeLine; decide, ?_⟩⟩⟩
    have st := st_step (due := "wide") st E11 tb11 hc11 lo11 hf11 ht11 (caps_of (lamS_by (sc := defScope (top 55)) (by decide +kernel)) (show LamI NRF _ [1, 0] by decide +kernel) ⟨rfl, ⟨rfl, trivial⟩⟩) R11 (fun H' b hO hC => ⟨hO, hC, by
      refine ⟨_, rfl, _, rfl, (show (3 : Nat) ≤ sizeLine by decide), fun L' hL' => ?_⟩
      have S' : Same H' (upd H' L' (.lst [.int 0, .int 13, .non])) := (Same.refl _).put hL'
      refine ⟨d, l, c, L', [.int 0, .int 13, .non], rfl, upd_same, (b.D.none hL').2, by show 0 < 3; decide, by show 3 < 1000; decide, b.D.up S', fun v Hq hv Dq Sq => ?_⟩
      have zq : ZW d l c H' Hq := ⟨Dq, (Drawn.of S').trans Sq⟩
      have hyq := b.f.kept b.D (Kept.drawn zq.2)
      have fW : inB v 1 12 = false := all_not (f := fun v => inB v 1 12) (xs := [.int 0, .int 13, .non]) rfl hv
      exact ⟨.int p, v, .int 0, rfl, pv_flat rfl, (fun z => no_of' isp z), fun _ => ⟨pv_flat (all_yes (xs := [.int 0, .int 13, .non]) rfl hv), (fun _ d1 H3 S3 _ hd => ⟨zw_same zq S3, .inr (.inr ⟨rfl, d1, rfl, hd⟩)⟩), fun z => no_of fW z⟩⟩⟩)
    generalize upd (upd H11a t11 (.tup [V.ref f11, V.str "wide"])) L _ = H11b at st
    clear E11 tb11 hc11 lo11 hf11 ht11 R11
    refine ⟨_, rfl, .inl ⟨rfl, _, SqL.of st.hL⟩, st.tb, ⟨⟨_, rfl⟩, ⟨⟨_, rfl⟩, ⟨⟨_, rfl⟩, trivial⟩⟩⟩, fun f12 c12 O12 H12a E12 tb12 hc12 lo12 hf12 R12 => ⟨(show (2 : Nat) ≤ sizeLine by decide), fun t12 ht12 => ⟨L, _, _, rfl, rfl, by rw [upd_ne (ne_of_none (E12 _ _ st.hL (fun _ z => nomatch z)) ht12)]; exact E12 _ _ st.hL (fun _ z => nomatch z), by show (12 : Nat) < sizeLine; decide, ?_⟩⟩⟩
    have st := st_step (due := "spot") st E12 tb12 hc12 lo12 hf12 ht12 (caps_of (lamS_by (sc := defScope (top 55)) (by decide +kernel)) (show LamI NRF _ [1, 2, 0] by decide +kernel) ⟨rfl, ⟨rfl, ⟨rfl, trivial⟩⟩⟩) R12 (fun H' b hO hC => ⟨hO, hC, by
      refine ⟨_, rfl, _, rfl, _, rfl, 1, rfl, _, rfl, (show (4 : Nat) ≤ sizeLine by decide), fun L' hL' => ?_⟩
      have S' : Same H' (upd H' L' (.lst [.int (-1), .int n, .bl true, .non])) := (Same.refl _).put hL'
      refine ⟨d, l, c, L', [.int (-1), .int n, .bl true, .non], rfl, upd_same, (b.D.none hL').2, by show 0 < 4; decide, by show 4 < 1000; decide, b.D.up S', fun v Hq hv Dq Sq => ?_⟩
      have zq : ZW d l c H' Hq := ⟨Dq, (Drawn.of S').trans Sq⟩
      have hyq := b.f.kept b.D (Kept.drawn zq.2)
      have fS : inB v 0 ((n : Int) - 1) = false ∧ flatV v = true := by
        simp only [List.mem_cons, List.not_mem_nil, or_false] at hv
        rcases hv with rfl | rfl | rfl | rfl
        · exact ⟨rfl, rfl⟩
        · refine ⟨?_, rfl⟩
          show (decide ((0 : Int) ≤ n) && decide ((n : Int) ≤ (n : Int) - 1)) = false
          rw [decide_eq_false (show ¬ (n : Int) ≤ (n : Int) - 1 by omega), Bool.and_false]
        · exact ⟨rfl, rfl⟩
        · exact ⟨rfl, rfl⟩
      refine ⟨.int p, .int n, v, rfl, pv_flat rfl, (fun z => no_of' isp z), fun _ => ⟨pv_flat rfl, (fun z => no_of' ibn z), fun _ => ⟨pv_flat fS.2, fun k2 ek => ?_⟩⟩⟩
      obtain rfl : n = k2 := by
        have := V.int.inj ek
        omega
      exact ⟨(fun _ d1 H3 S3 _ hd => ⟨zw_same zq S3, .inr (.inr ⟨rfl, d1, rfl, hd⟩)⟩), fun z => no_of fS.1 z⟩⟩)
    generalize upd (upd H12a t12 (.tup [V.ref f12, V.str "spot"])) L _ = H12b at st
    clear E12 tb12 hc12 lo12 hf12 ht12 R12
    refine ⟨_, rfl, .inl ⟨rfl, _, SqL.of st.hL⟩, st.tb, trivial, fun f13 c13 O13 H13a E13 tb13 hc13 lo13 hf13 R13 => ⟨(show (2 : Nat) ≤ sizeLine by decide), fun t13 ht13 => ⟨L, _, _, rfl, rfl, by rw [upd_ne (ne_of_none (E13 _ _ st.hL (fun _ z => nomatch z)) ht13)]; exact E13 _ _ st.hL (fun _ z => nomatch z), by show (13 : Nat) < sizeLine; decide, ?_⟩⟩⟩
    have st := st_step (due := "prime") st E13 tb13 hc13 lo13 hf13 ht13 (caps_of (lamS_by (sc := defScope (top 55)) (by decide +kernel)) (show LamI NRF _ [] by decide +kernel) trivial) R13 (fun H' b hO hC => ⟨hO, hC, ⟨.int 4, .int 0, .non, rfl, pv_flat rfl, (fun _ => ⟨⟨b.D, fun _ _ e _ _ => e⟩, .inr (.inl ⟨rfl, rfl, rfl⟩)⟩), fun z => absurd z (by decide)⟩⟩)
    generalize upd (upd H13a t13 (.tup [V.ref f13, V.str "prime"])) L _ = H13b at st
    clear E13 tb13 hc13 lo13 hf13 ht13 R13
    refine ⟨_, rfl, .inl ⟨rfl, _, SqL.of st.hL⟩, st.tb, ⟨⟨_, rfl⟩, trivial⟩, fun f14 c14 O14 H14a E14 tb14 hc14 lo14 hf14 R14 => ⟨(show (2 : Nat) ≤ sizeLine by decide), fun t14 ht14 => ⟨L, _, _, rfl, rfl, by rw [upd_ne (ne_of_none (E14 _ _ st.hL (fun _ z => nomatch z)) ht14)]; exact E14 _ _ st.hL (fun _ z => nomatch z), by show (14 : Nat) < sizeLine; decide, ?_⟩⟩⟩
    have st := st_step (due := "wide") st E14 tb14 hc14 lo14 hf14 ht14 (caps_of (lamS_by (sc := defScope (top 55)) (by decide +kernel)) (show LamI NRF _ [1] by decide +kernel) ⟨rfl, trivial⟩) R14 (fun H' b hO hC => ⟨hO, hC, by
      have zw0 : ZW d l c H' H' := ⟨b.D, fun _ _ e _ _ => e⟩
      exact ⟨_, rfl, .int p, .int 13, .non, rfl, pv_flat rfl, (fun z => no_of' isp z), fun _ => ⟨pv_flat rfl, (fun _ d1 H3 S3 _ hd => ⟨zw_same zw0 S3, .inr (.inr ⟨rfl, d1, rfl, hd⟩)⟩), fun z => absurd z (by decide)⟩⟩⟩)
    generalize upd (upd H14a t14 (.tup [V.ref f14, V.str "wide"])) L _ = H14b at st
    clear E14 tb14 hc14 lo14 hf14 ht14 R14
    refine ⟨_, rfl, .inl ⟨rfl, _, SqL.of st.hL⟩, st.tb, ⟨⟨_, rfl⟩, ⟨⟨_, rfl⟩, ⟨⟨_, rfl⟩, trivial⟩⟩⟩, fun f15 c15 O15 H15a E15 tb15 hc15 lo15 hf15 R15 => ⟨(show (2 : Nat) ≤ sizeLine by decide), fun t15 ht15 => ⟨L, _, _, rfl, rfl, by rw [upd_ne (ne_of_none (E15 _ _ st.hL (fun _ z => nomatch z)) ht15)]; exact E15 _ _ st.hL (fun _ z => nomatch z), by show (15 : Nat) < sizeLine; decide, ?_⟩⟩⟩
    have st := st_step (due := "number") st E15 tb15 hc15 lo15 hf15 ht15 (caps_of (lamS_by (sc := defScope (top 55)) (by decide +kernel)) (show LamI NRF _ [1, 2, 0] by decide +kernel) ⟨rfl, ⟨rfl, ⟨rfl, trivial⟩⟩⟩) R15 (fun H' b hO hC => ⟨hO, hC, by
      refine ⟨_, rfl, _, rfl, _, rfl, (show (3 : Nat) ≤ sizeLine by decide), fun L' hL' => ?_⟩
      have S' : Same H' (upd H' L' (.lst [.non, .bl true, .str "1"])) := (Same.refl _).put hL'
      refine ⟨d, l, c, L', [.non, .bl true, .str "1"], rfl, upd_same, (b.D.none hL').2, by show 0 < 3; decide, by show 3 < 1000; decide, b.D.up S', fun v Hq hv Dq Sq => ?_⟩
      have zq : ZW d l c H' Hq := ⟨Dq, (Drawn.of S').trans Sq⟩
      have hyq := b.f.kept b.D (Kept.drawn zq.2)
      have fI : isI v = false := all_not (xs := [.non, .bl true, .str "1"]) rfl hv
      exact ⟨.int p, .int n, v, rfl, pv_flat rfl, (fun z => no_of' isp z), fun _ => ⟨pv_flat rfl, (fun z => no_of' ibn z), fun _ => ⟨pv_flat (all_yes (xs := [.non, .bl true, .str "1"]) rfl hv), (fun _ d1 H3 S3 _ hd => ⟨zw_same zq S3, .inr (.inr ⟨rfl, d1, rfl, hd⟩)⟩), fun z => no_of fI z⟩⟩⟩⟩)
    generalize upd (upd H15a t15 (.tup [V.ref f15, V.str "number"])) L _ = H15b at st
    clear E15 tb15 hc15 lo15 hf15 ht15 R15
    have kst : Kept d l H27 H15b := fun b o e _ _ n => st.kp b o e n
    refine ⟨_, rfl, L, rfl, ⟨_, SqL.of st.hL⟩, fun D1 hD1 => lc_it (walk_list (K := K) (a := L)) (fun i H' => DrawAt H' d l c ∧ Drawn d l H15b H' ∧ H' D1 = some (.lst [])) ⟨st.D.up ((Same.refl _).put hD1), Drawn.of ((Same.refl _).put hD1), upd_same⟩ (fun i H' _ h => SqL.of (h.2.1 _ _ st.hL st.nL.1 st.nL.2)) ?_ ?_⟩
    · rintro i x Ha Hb hi ⟨Da, Sa, hDa⟩ ⟨rfl, hx⟩
      rw [List.getElem?_map] at hx
      obtain ⟨j, hj, rfl⟩ := Option.map_eq_some_iff.mp hx
      obtain ⟨t, due⟩ := j
      obtain ⟨f0, c0, O0, Lc, tl, h1, h2, h3, h4, h5, h6, good⟩ := (st.jobs _ (List.mem_of_getElem? hj)).kept st.D (Kept.drawn Sa)
      have bfa := bf.kept Da (kst.trans (Kept.drawn Sa))
      have nD1 := st.D.none hD1
      refine ⟨t, _, rfl, SqT.of h1, rfl, _, _, rfl, _, _, rfl, rfl, rfl, ?_⟩
      refine ⟨_, rfl, f0, Lc, tl, due, _, rfl, h5, h6, h4.is h2, good _ bfa h2 h3, fun H3 a o hZ na => ?_⟩
      have S3 : Same H3 (upd H3 a o) := (Same.refl _).put na
      refine ⟨_, rfl, rfl, _, rfl, ite2 (fun z => absurd z (by simp)) fun _ => ?_⟩
      exact ⟨hZ.1.up S3, Sa.trans (hZ.2.trans (Drawn.of S3)), S3 _ _ (hZ.2 _ _ hDa nD1.1 nD1.2)⟩
    · rintro Ha ⟨Da, Sa, hDa⟩
      refine ⟨Nat.zero_le _, fun E1 hE1 => ⟨.list [], .list [], .lst (SqL.of (by rw [upd_ne (ne_of_none hDa hE1)]; exact hDa)) .nil, .lst (SqL.of upd_same) .nil, rfl, rfl, ?_⟩⟩
      exact k _ (((K027.trans kst).trans (Kept.drawn Sa)).trans (Kept.of ((Same.refl _).put hE1)))
end
end P2
end

section
set_option maxRecDepth 100000
set_option maxHeartbeats 4000000
/-! The end of a law over a head that is one run: the tables of code objects start empty; the call is run at its own around. -/
namespace HE
open PySem PySem.Spec PyProof.Rows L2 LamX
/-- what stands there neither is a row of items nor an empty table -/
def Odd (o : Obj) : Prop := (∀ vs n, o.data ≠ .seq vs n) ∧ o.data ≠ .fields #[]
section
variable {P : Program} {w : World} {K : PySem.W.Frag} {mg mb : Str → Option Value} {s : Shared} {a : Addr} {vs : List Value} {H : Hp} {ts : List Addr}
/-- what is tracked at the entry: the script, the tables -/
structure Entry (K : PySem.W.Frag) (s : Shared) (a : Addr) (vs : List Value) (ts : List Addr) (H : Hp) : Prop where
  ha : s.heap.get? a = some { cls := .type "list", data := .seq vs.toArray }
  hT : ∀ t ∈ ts, s.heap.get? t = some { cls := .none, data := .fields #[] }
  nT : ∀ t ∈ ts, K.lookup t = none
  hA : ∀ b o, H b = some o → (b = a ∧ K.lookup a = none) ∨ b ∈ ts
theorem Entry.free (N : Entry K s a vs ts H) {b : Addr} {o : Obj} (e : s.heap.get? b = some o) (h : Odd o) : H b = none := by
  cases q : H b with
  | none => rfl
  | some u =>
    rcases N.hA b u q with ⟨z, _⟩ | z
    · rw [z, N.ha] at e
      cases e
      exact absurd rfl (h.1 _ _)
    · rw [N.hT b z] at e
      cases e
      exact absurd rfl h.2
theorem odd_dict {o : Obj} {es : Array DictEntry} {ep : Nat} (d : o.data = .dict es ep) : Odd o := ⟨(fun vs n z => by rw [d] at z; cases z), (fun z => by rw [d] at z; cases z)⟩
theorem odd_plain {o : Obj} (d : o.data = .plain) : Odd o := ⟨(fun vs n z => by rw [d] at z; cases z), (fun z => by rw [d] at z; cases z)⟩
theorem Entry.ns (N : Entry K s a vs ts H) {b : Addr} {m : Str → Option Value} (h : s.heap.Ns b m) : (hidT s.heap H).Ns b m := by
  obtain ⟨o, es, ep, e, d, r⟩ := h
  exact ⟨o, es, ep, hidT_get e (N.free e (odd_dict d)), d, r⟩
theorem Entry.kin (N : Entry K s a vs ts H) (KX : K.In s.heap) : K.In (hidT s.heap H) := fun b o e => hidT_get (KX b o e) (by
  cases q : H b with
  | none => rfl
  | some u =>
    rcases N.hA b u q with ⟨z, z2⟩ | z
    · rw [z, z2] at e; cases e
    · rw [N.nT b z] at e; cases e)
theorem Entry.env (N : Entry K s a vs ts H) (KX : K.In s.heap) (hns : s.heap.Ns mainGlobals mg) (hb : s.heap.Ns builtinsNs mb) (hbb : ∀ x : Str, x ≠ "__name__" → mb x = bootBuiltins x) (hlim : s.heap.NoLimit) (hg : s.gens = #[]) (hok : HOk P w H s.heap) :
    Env0 P w K mg (hidT s.heap H) callerA [] s H :=
  ⟨rfl, ⟨N.kin KX, N.ns hns, ⟨mb, N.ns hb, hbb⟩, let ⟨mc, h1, h2⟩ := hlim; ⟨mc, N.ns h1, h2⟩⟩, fun b o e => of_hidT e, Nat.le_of_eq (hidT_size _ _), trivial, fun b hb => absurd hb (by simp [frs]), hok, .of_eq hg⟩
theorem Entry.tab (N : Entry K s a vs ts H) (KX : K.In s.heap) (hns : s.heap.Ns mainGlobals mg) (hbm : ∃ (bm : Addr) (ob : Obj), mg "__builtins__" = some (.ref bm) ∧ bm ≠ builtinsNs ∧ s.heap.get? bm = some ob ∧ ob.cls = .type "module" ∧ ob.dict = some builtinsNs ∧ ob.data = .plain)
    {c t : Addr} (ht : t ∈ ts) (hh : PySem.W.codeHdIn K c t = true) : TabB (hidT s.heap H) mg c t := by
  have et := N.hT t ht
  obtain ⟨o, es, ep, eG, dG, _⟩ := hns
  have h := NdefX.tabB_of_K (mg := mg) (N.kin KX) hh ?_ fun z => ?_
  · exact h
  · obtain ⟨bm, ob, b1, b2, b3, b4, b5, b6⟩ := hbm
    refine ⟨bm, ob, b1, b2, fun z => ?_, fun z => ?_, hidT_get b3 (N.free b3 (odd_plain b6)), b4, b5, b6⟩
    · rw [z, eG] at b3
      cases b3
      rw [dG] at b6
      cases b6
    · rw [z, et] at b3
      cases b3
      cases b6
  · rw [z, et] at eG
    cases eG
    cases dG
/-- what the call leaves: all as it was, but that the tables have grown -/
theorem left_old {cs : List (Addr × Addr)} {s' : Shared} {H' : Hp} (N : Entry K s a vs (cs.map (·.2)) H) (KX : K.In s.heap) (C : ∀ p ∈ cs, PySem.W.codeHdIn K p.1 p.2 = true) (only : ∀ b o, H b = some o → b ∉ cs.map (·.2) → ∃ ob xs, o = .frz ob (.lst xs)) (hH : ∀ t ∈ cs.map (·.2), H t = some (.tbl #[]))
    (hok : HOk P w H s.heap) (hok' : HOk P w H' s'.heap) (un : Un (frs []) [] H H' s.heap s'.heap) : OldK s.heap s'.heap := by
  have grown : ∀ t ∈ cs.map (·.2), ∃ more : Array Value, s'.heap.get? t = some { cls := .none, data := .fields more } := fun t ht => by
    obtain ⟨more, z⟩ := un.tbls t #[] (hH t ht)
    exact ⟨_, hok' t _ z⟩
  have kept : ∀ b o, b ∉ cs.map (·.2) → s.heap.get? b = some o → s'.heap.get? b = some o := fun b o nb e => by
    cases q : H b with
    | none => exact un.keep b o e q (by simp [frs]) (by simp)
    | some u =>
      obtain ⟨ob', xs, rfl⟩ := only b u q nb
      have z1 : s.heap.get? b = some ob' := (hok b _ q).1
      have z2 : s'.heap.get? b = some ob' := (hok' b _ (un.frzs b ob' _ q)).1
      rw [e] at z1
      cases z1
      exact z2
  constructor
  · intro b o e
    by_cases hb : b ∈ cs.map (·.2)
    · obtain ⟨p, hp, ep⟩ := List.mem_map.mp hb
      obtain ⟨more, hm⟩ := grown b hb
      have eb := N.hT b hb
      rw [eb] at e
      cases e
      have tt := (PySem.W.codeHd_of_K KX (C p hp)).tab (by rw [ep]; exact eb)
      rw [ep] at tt
      exact .inr (.inl ⟨tt.isCodeTable, rfl, #[], more, rfl, by rw [Array.empty_append]; exact hm⟩)
    · exact .inl (kept b o hb e)
  · intro b o e
    by_cases hb : b ∈ cs.map (·.2)
    · obtain ⟨more, hm⟩ := grown b hb
      exact ⟨_, hm⟩
    · exact ⟨o, kept b o hb e⟩
end
/-- the end of a law: the head's fragment, the tables of code objects, the call run at its own around -/
theorem walk_end {l : PySem.W.OpenLaw} {n : Nat} {q : Program} {loose : List Str} {XP : (Str → Option Value) → Heap → Prop} {YP : World → Heap → Prop} {d : DefRec} (hn : l.most = some n) (hn2 : n ≤ sizeLine) (hdf : d.params.defaults = [])
    (F : ∀ (w : World) (mg : Str → Option Value) (fa : Addr) (h : Heap), YP w h → h.Ns mainGlobals mg → mg d.name = some (.ref fa) → ∃ (K : PySem.W.Frag) (cs : List (Addr × Addr)), K.In h ∧ (∀ p ∈ cs, PySem.W.codeHdIn K p.1 p.2 = true) ∧ (∀ p ∈ cs, K.lookup p.2 = none) ∧ (∀ p ∈ cs, h.get? p.2 = some { cls := .none, data := .fields #[] }) ∧
      ∀ (base : Heap) (s : Shared) (H : Hp) (a : Addr) (ns : List Int), K.In base → base.Ns mainGlobals mg → (∀ p ∈ cs, TabB base mg p.1 p.2) → (∀ p ∈ cs, H p.2 = some (.tbl #[])) → Env0 l.prog w K mg base callerA [] s H → SqL K H a (ns.map V.int) → ns.length ≤ n → (∀ z ∈ ns, Builtin.Int.intBits z ≤ 1048576) →
        codeAny (model l.prog w) callerA (.call (.ref fa) ⟨[.ref a], []⟩) (CR CX0 [] l.prog w H s (fun v _ => v = .bl true) E0) s) :
    PySem.W.WalkO q loose XP YP l.row.toRowW d [] (fun f vs => PySem.call f vs) := by
  refine Att.attach_callB hn hdf fun w s₀ s mg mb fa o pm cd doc a vs ns G Y ho hd hcd hmg hobj hints hlen hbits hg => ?_
  obtain ⟨K, cs, KX, C, nT, hT, run⟩ := F w mg fa _ Y G.T.g hmg
  have rv := vals_ints hints
  have lv := hints.length
  have hT' : ∀ t ∈ cs.map (·.2), s.heap.get? t = some { cls := .none, data := .fields #[] } := fun t ht => by
    obtain ⟨p, hp, e⟩ := List.mem_map.mp ht
    rw [← e]; exact hT p hp
  have nT' : ∀ t ∈ cs.map (·.2), K.lookup t = none := fun t ht => by
    obtain ⟨p, hp, e⟩ := List.mem_map.mp ht
    rw [← e]; exact nT p hp
  have aT : a ∉ cs.map (·.2) := fun z => by
    have q := hT' a z
    rw [hobj] at q
    cases q
  have go : ∀ H : Hp, (∀ b o, H b = some o → b ∉ cs.map (·.2) → ∃ ob xs, o = .frz ob (.lst xs)) → (∀ t ∈ cs.map (·.2), H t = some (.tbl #[])) → (∀ b o, H b = some o → (b = a ∧ K.lookup a = none) ∨ b ∈ cs.map (·.2)) → HOk l.prog w H s.heap → SqL K H a (ns.map V.int) →
      codeAny (model l.prog w) callerA (.call (.ref fa) ⟨[.ref a], []⟩) (fun r s' => r = .ok (.ret (.bool true)) ∧ OldK s.heap s'.heap ∧ s'.os = s.os ∧ AllBare s'.gens) s := by
    intro H only hH hA hok hS
    have N : Entry K s a vs (cs.map (·.2)) H := ⟨hobj, hT', nT', hA⟩
    have e0 := N.env (P := l.prog) KX G.T.g G.T.b G.T.builtins G.T.nolimit hg hok
    refine codeAny_mono (run _ s H a ns e0.mod.kin e0.mod.glob (fun p hp => N.tab KX G.T.g G.T.bmain (List.mem_map.mpr ⟨p, hp, rfl⟩) (C p hp)) (fun p hp => hH _ (List.mem_map.mpr ⟨p, hp, rfl⟩)) e0 hS hlen hbits) fun r s' h => ?_
    match r, h with
    | .ok (.ret u), ⟨v, H', os, bare, un, hok', rv, e⟩ =>
      subst e
      have eu : u = Value.bool true := rv
      subst eu
      exact ⟨rfl, left_old N KX C only hH hok hok' un, os, bare⟩
    | .error _, h => exact (show False from h).elim
    | .ok .next, h => exact (show False from h).elim
    | .ok .brk, h => exact (show False from h).elim
    | .ok .cont, h => exact (show False from h).elim
  cases hk : K.lookup a with
  | some ob =>
    have e := KX a ob hk
    rw [hobj] at e
    cases e
    have at_b : ∀ b o, (fun b => if b ∈ cs.map (·.2) then some (HO.tbl #[]) else none) b = some o → b ∈ cs.map (·.2) ∧ o = .tbl #[] := fun b o z => by
      by_cases hb : b ∈ cs.map (·.2)
      · have z' := (if_pos hb).symm.trans z
        cases z'
        exact ⟨hb, rfl⟩
      · have z' := (if_neg hb).symm.trans z
        cases z'
    refine go (fun b => if b ∈ cs.map (·.2) then some (.tbl #[]) else none) (fun b o z nb => absurd (at_b b o z).1 nb) (fun t ht => if_pos ht) (fun b o z => .inr (at_b b o z).1) (fun b o z => ?_) (.inr ⟨_, vs.toArray, _, hk, rfl, rfl, rfl, by rw [List.size_toArray, lv]; exact Nat.le_trans hlen hn2, by simpa using rv⟩)
    obtain ⟨hb, rfl⟩ := at_b b o z
    exact hT' b hb
  | none =>
    have at_b : ∀ b o, (fun b => if b = a then some (.frz { cls := .type "list", data := .seq vs.toArray } (.lst (ns.map V.int))) else if b ∈ cs.map (·.2) then some (HO.tbl #[]) else none) b = some o →
        (b = a ∧ o = .frz { cls := .type "list", data := .seq vs.toArray } (.lst (ns.map V.int))) ∨ (b ∈ cs.map (·.2) ∧ o = .tbl #[]) := fun b o z => by
      by_cases ha : b = a
      · have z' := (if_pos ha).symm.trans z
        cases z'
        exact .inl ⟨ha, rfl⟩
      · have z1 := (if_neg ha).symm.trans z
        by_cases hb : b ∈ cs.map (·.2)
        · have z' := (if_pos hb).symm.trans z1
          cases z'
          exact .inr ⟨hb, rfl⟩
        · have z' := (if_neg hb).symm.trans z1
          cases z'
    refine go (fun b => if b = a then some (.frz { cls := .type "list", data := .seq vs.toArray } (.lst (ns.map V.int))) else if b ∈ cs.map (·.2) then some (.tbl #[]) else none) (fun b o z nb => ?_) (fun t ht => (if_neg (fun z => aT (by rw [← z]; exact ht))).trans (if_pos ht)) (fun b o z => ?_) (fun b o z => ?_)
      (.inl (.inr ⟨{ cls := .type "list", data := .seq vs.toArray }, if_pos rfl⟩))
    · rcases at_b b o z with ⟨_, rfl⟩ | ⟨hb, _⟩
      · exact ⟨_, _, rfl⟩
      · exact absurd hb nb
    · rcases at_b b o z with ⟨h, _⟩ | ⟨hb, _⟩
      · exact .inl ⟨h, hk⟩
      · exact .inr hb
    · rcases at_b b o z with ⟨h, rfl⟩ | ⟨hb, rfl⟩
      · rw [h]
        exact ⟨hobj, by rw [List.length_map]; exact Nat.le_trans hlen hn2, vs, _, rv, hobj⟩
      · exact hT' b hb
section
variable {X : Cx}
/-- a list display, with the place told to be no place of the start -/
def tLstN (t : TA) : TE := fun σ H Q => t σ H fun xs H1 => xs.length ≤ sizeLine ∧ ∀ p, H1 p = none → p ≠ sysModules → Q (.ref p) (upd H1 p (.lst xs))
theorem pe_lstN {es : List Expr} {t : TA} {pos : Pos} (h : PA X es t) : PE X (.List es pos) (tLstN t) := ⟨fun pins s σ H Q I hq =>
  wpAny_List_spliced (thn (h.run pos pins s σ H _ I hq) fun us s1 ⟨xs, H1, I1, r, z, q⟩ => ⟨r.length ▸ z,
    .ref s1.heap.objs.size, _, I1.laid (o := .lst xs) (t' := s1.toks) (fun _ _ e => Heap.get?_push_of_some _ e) (Nat.le_refl _) ⟨z, us, 0, r, Heap.get?_push_size _ rfl⟩, rfl, q _ (I1.hok.fresh (Nat.le_refl _)) (Nat.ne_of_gt I1.big)⟩)⟩
end
end HE
end

section
set_option maxRecDepth 100000
set_option maxHeartbeats 8000000
namespace P2
open PySem PySem.Spec PyProof.Rows L2 LamX ClX
theorem four_row4 {n : Nat} (n4 : n ≤ 4) {r : List Int} (h : r ∈ rows4 n) : r.length = n ∧ (∀ e ∈ r, 0 ≤ e) ∧ 0 ≤ r.sum ∧ r.sum ≤ 4 := four_row (by omega) h
theorem fair_raw {n : Nat} (n4 : n ≤ 4) {A : List (List Int × Int)} (R : Raw n A) : Fair A := by
  refine ⟨by have := R.len; omega, fun q hq => ?_⟩
  obtain ⟨h1, h2, h3, h4⟩ := four_row4 n4 (R.four q hq)
  refine ⟨by omega, fun e he => ?_, R.vals q hq⟩
  have a := h2 e he
  have b : e ≤ q.1.sum := (le_sum h2).1 e he
  have e31 : (10 : Int) ^ 31 = ((10 ^ 31 : Nat) : Int) := by decide
  unfold Fn
  rw [e31]
  omega
/-- the text of two of them -/
theorem shows_two {A B : List (List Int × Int)} (hA : Fair A) (hB : Fair B) (lA : A.length ≤ 5) (lB : B.length ≤ 5) : (PyData.list [termsD A, termsD B]).showable = true ∧ (PyData.list [termsD A, termsD B]).depth ≤ 20 ∧ (PyData.list [termsD A, termsD B]).shown.length ≤ sizeLine := by
  obtain ⟨a1, a2, a3⟩ := kv_facts hA.row
  obtain ⟨b1, b2, b3⟩ := kv_facts hB.row
  refine ⟨?_, ?_, ?_⟩
  · have e1 : (termsD A).showable = true := a1
    have e2 : (termsD B).showable = true := b1
    show PyData.showableAll [termsD A, termsD B] = true
    simp only [PyData.showableAll, e1, e2, Bool.and_self]
  · have z1 := kv_depth A
    have z2 := kv_depth B
    show PyData.depth (.list [.dict (kvD A), .dict (kvD B)]) ≤ 20
    simp only [PyData.depth, PyData.depthAll]
    omega
  · have e1 : (termsD A).leavesShort 40 = true := a2
    have e2 : (termsD B).leavesShort 40 = true := b2
    have e : (PyData.list [termsD A, termsD B]).leavesShort 40 = true := by
      show PyData.leavesShortAll 40 [termsD A, termsD B] = true
      simp only [PyData.leavesShortAll, e1, e2, Bool.and_self]
    have z := PyData.shown_le 40 (by decide) (PyData.list [termsD A, termsD B]) e
    have w1 : (termsD A).weight ≤ 1400 * A.length := a3
    have w2 : (termsD B).weight ≤ 1400 * B.length := b3
    have w : (PyData.list [termsD A, termsD B]).weight ≤ 1400 * A.length + 1400 * B.length + 100 := by
      show PyData.weight (.list [termsD A, termsD B]) ≤ _
      simp only [PyData.weight, PyData.weightAll]
      omega
    have e : (12000000 : Nat) ≤ sizeLine := by decide
    omega
section
variable {P : Program} {w : World} {K : PySem.W.Frag} {mg : Str → Option Value} {base : Heap} {bp C B M N CS : Addr}
def spLaw (K : PySem.W.Frag) (T : List (Addr × Str)) : Sp := fun vs H Q _ => ∃ (a : Addr) (ns : List Int), vs = [.ref a] ∧ SqL K H a (ns.map V.int) ∧ ns.length ≤ 63 ∧ Tabs T H ∧ ∀ H', Q (.bl true) H'
abbrev NLW : List Str := ["script", "draw", "field", "wide_here", "raw", "more", "kept_here"]
theorem sc56 : FnScope NLW ["script"] (defScope (top 56)) := ⟨rfl, rfl, rfl, by decide +kernel, rfl, by decide +kernel, by decide +kernel⟩
theorem ok_law {f fB fF fT fR fA fS fU fR2 fD : Addr} {fd dB dF dT dR dA dS dU dR2 dD : FuncData} {T : List (Addr × Str)} (F : Fun K "law" "law" (top 56) f fd) (T0 : Tx K mg bp)
    (DB : Def P w K mg base CX0 1 "_law_begun" ["script"] (spBegun K) fB dB)
    (DF : Def P w K mg base CX0 4 "_law_field" ["draw"] spField fF dF)
    (DT : Def P w K mg base CX0 2 "_law_take" ["draw", "amount"] spTake fT dT)
    (DR : Def P w K mg base CX0 6 "_law_raw_terms" ["draw", "field", "wide_here"] spRaw fR dR)
    (DD : Def P w K mg base CX0 1 "_law_tidied" ["field", "terms_here"] spTid fD dD)
    (DA : DefG P w K mg base 8 "_law_attributes_right" ["field", "wide_here", "raw"] spAttr fA dA)
    (DS : DefG P w K mg base 10 "_law_sums_right" ["draw", "field", "wide_here", "one", "two"] spSums fS dS)
    (DU : DefG P w K mg base 12 "_law_bounds_right" ["draw", "field", "wide_here"] (spBounds T) fU dU)
    (DV : DefG P w K mg base 13 "_law_refused" ["draw", "field", "wide_here", "one"] (spRefused T) fR2 dR2) :
    FnG P w K mg base 14 f fd ["script"] (spLaw K T) := by
  refine okG F sc56 (fun vs H Q E h => ?_) (fun cdv A outer s H vs Q hr hgd h => ?_)
  · obtain ⟨a, ns, rfl, _⟩ := h
    rfl
  · obtain ⟨a, ns, rfl, hS, hn, tb, k⟩ := h
    have r1 : Room 1 _ := hr.mono (by decide)
    have r2 : Room 2 _ := hr.mono (by decide)
    refine ⟨_, pss_cons (ps_set (i := 1) sc56.nd rfl (Or.inl rfl) (pe_call DB.ok r1 rfl DB.g DB.kp DB.b .nil pass0 (pa_cons (pv 0) pa_nil)))
      (pss_cons (ps_par (i := 2) (j := 3) (by rfl) sc56.nd rfl rfl (by decide) rfl rfl
          (pa_cons (pe_call DF.ok (hr.mono (by decide)) rfl DF.g DF.kp DF.b .nil pass0 (pa_cons (pv 1) pa_nil))
          (pa_cons (pe_op op_add pe_int (pe_call DT.ok r2 rfl DT.g DT.kp DT.b .nil pass0 (pa_cons (pv 1) (pa_cons pe_int pa_nil)))) pa_nil)) (by rfl))
      (pss_cons (ps_par (i := 4) (j := 5) (by rfl) sc56.nd rfl rfl (by decide) rfl rfl
          (pa_cons (pe_call DR.ok (hr.mono (by decide)) rfl DR.g DR.kp DR.b .nil pass0 (pa_cons (pv 1) (pa_cons (pv 2) (pa_cons (pv 3) pa_nil))))
          (pa_cons (pe_call DR.ok (hr.mono (by decide)) rfl DR.g DR.kp DR.b .nil pass0 (pa_cons (pv 1) (pa_cons (pv 2) (pa_cons (pv 3) pa_nil)))) pa_nil)) (by rfl))
      (pss_cons (ps_set (i := 6) sc56.nd rfl (Or.inl rfl) (pe_callB (r := rRepR K) (id := "repr") (call_reprR hgd hr.units) (by rfl) T0.repr (by decide +kernel) (pa_cons (HE.pe_lstN (pa_cons (pv 4) (pa_cons (pv 5) pa_nil))) pa_nil)))
      (pss_cons (ps_if (PW.pt (pw_or (pt_not (pt_val (pe_callG DA.ok hgd (hr.mono (by decide)) rfl DA.g DA.kp DA.b pass0 (pa_cons (pv 2) (pa_cons (pv 3) (pa_cons (pv 4) pa_nil))))))
          (pw_or1 (pt_not (pt_val (pe_callG DS.ok hgd (hr.mono (by decide)) rfl DS.g DS.kp DS.b pass0 (pa_cons (pv 1) (pa_cons (pv 2) (pa_cons (pv 3)
            (pa_cons (pe_call DD.ok r1 rfl DD.g DD.kp DD.b .nil pass0 (pa_cons (pv 2) (pa_cons (pv 4) pa_nil))) (pa_cons (pe_call DD.ok r1 rfl DD.g DD.kp DD.b .nil pass0 (pa_cons (pv 2) (pa_cons (pv 5) pa_nil))) pa_nil)))))))))))
          (pss_one (ps_ret pe_bl)) pss_nil)
      (pss_cons (ps_if (PW.pt (pw_or (pt_not (pt_val (pe_callG DU.ok hgd (hr.mono (by decide)) rfl DU.g DU.kp DU.b pass0 (pa_cons (pv 1) (pa_cons (pv 2) (pa_cons (pv 3) pa_nil))))))
          (pw_or1 (pt_not (pt_val (pe_callG DV.ok hgd hr rfl DV.g DV.kp DV.b pass0 (pa_cons (pv 1) (pa_cons (pv 2) (pa_cons (pv 3)
            (pa_cons (pe_call DD.ok r1 rfl DD.g DD.kp DD.b .nil pass0 (pa_cons (pv 2) (pa_cons (pv 4) pa_nil))) pa_nil))))))))))
          (pss_one (ps_ret pe_bl)) pss_nil)
      (pss_one (ps_ret (pe_cmpR op_eq (pe_callB (r := rRepR K) (id := "repr") (call_reprR hgd hr.units) (by rfl) T0.repr (by decide +kernel) (pa_cons (HE.pe_lstN (pa_cons (pv 4) (pa_cons (pv 5) pa_nil))) pa_nil)) (pv 6) (nomark _))))))))), ?_⟩
    refine ⟨_, rfl, a, ns, rfl, hS, hn, fun d l c H1 nd nl nc D1 S1 => ?_⟩
    have tb1 := tb.ext S1
    refine ⟨_, rfl, d, l, c, rfl, D1, fun p H2 hp D2 X2 => ?_⟩
    have tb2 := tabs_drawn D1 X2 tb1
    refine ⟨_, rfl, d, l, c, 4, rfl, by decide, by decide, D2, fun v H3 v0 v4 D3 X3 => ?_⟩
    have tb3 := tabs_drawn D2 X3 tb2
    obtain ⟨n, hn1⟩ : ∃ n : Nat, (1 : Int) + v = n := ⟨(1 + v).toNat, by omega⟩
    refine ⟨_, _, rfl, rfl, ?_⟩
    have ew : (V.int ((1 : Int) + v)) = V.int (n : Int) := congrArg V.int hn1
    refine ⟨_, _, rfl, ?_⟩
    -- raw, more = ..
    refine ⟨_, rfl, _, rfl, _, rfl, d, l, c, p, n, (by show [V.ref d, V.int p, V.int (1 + v)] = _; rw [hn1]), D3, hp, by omega, by omega, fun ra H4 ts nra D4 X4 hra R1 => ?_⟩
    have tb4 := tabs_drawn D3 X4 tb3
    refine ⟨_, rfl, _, rfl, _, rfl, d, l, c, p, n, (by show [V.ref d, V.int p, V.int (1 + v)] = _; rw [hn1]), D4, hp, by omega, by omega, fun rb H5 us nrb D5 X5 hrb R2 => ?_⟩
    have tb5 := tabs_drawn D4 X5 tb4
    have na := D4.dt hra
    have hra5 := X5 _ _ hra na.1 na.2
    clear tb tb1 tb2 tb3 tb4 D1 D2 D3 S1 X2 X3 X4 X5
    have nab : ra ≠ rb := fun e => by rw [← e, hra] at nrb; cases nrb
    refine ⟨_, _, rfl, ?_⟩
    -- kept_here = repr([raw, more])
    refine ⟨_, rfl, _, rfl, (show (2 : Nat) ≤ sizeLine by decide), fun L5 nL5 sL5 => ?_⟩
    have SL : Same H5 (upd H5 L5 (.lst [.ref ra, .ref rb])) := (Same.refl _).put nL5
    have dr : ∀ (Hh : Hp) (Lh : Addr), Hh Lh = some (.lst [.ref ra, .ref rb]) → Lh ≠ sysModules → Hh ra = some (.dT (rK ts)) → Hh rb = some (.dT (rK us)) → Dr True K Hh (.ref Lh) (.list [termsD ts, termsD us]) := fun Hh Lh e1 e2 e3 e4 =>
      .lst e1 (fun _ => e2) (.cons (dr_terms e3) (.cons (dr_terms e4) .nil))
    obtain ⟨sh1, sh2, sh3⟩ := shows_two (fair_raw (by omega) R1) (fair_raw (by omega) R2) R1.len R2.len
    refine ⟨L5, _, True, rfl, dr _ L5 upd_same sL5 (SL _ _ hra5) (SL _ _ hrb), (fun _ => trivial), sh1, sh2, sh3, ?_⟩
    generalize upd H5 L5 (.lst [.ref ra, .ref rb]) = H6 at SL
    have D6 := D5.up SL
    have tb6 := tb5.ext SL
    have hra6 := SL _ _ hra5
    have hrb6 := SL _ _ hrb
    clear SL tb5 D5 D4 hra5 hrb hra nL5 sL5 nra nrb
    have n4 : n ≤ 4 := by omega
    have n1 : 1 ≤ n := by omega
    obtain ⟨pp, p2, p100⟩ := fields_p hp
    have p0 : 0 < p := by omega
    have ne1 := four_ne n1 (by omega) R1.four
    have ne2 := four_ne n1 (by omega) R2.four
    have lt1 : ts.length ≤ 1000000 := by have := R1.len; omega
    have lt2 : us.length ≤ 1000000 := by have := R2.len; omega
    -- if not .. or not ..
    refine ⟨_, rfl, _, rfl, _, rfl, p, n, ra, ts, (by show [V.int p, V.int (1 + v), V.ref ra] = _; rw [hn1]), hp, n1, n4, hra6, R1, fun H7 S7 => ?_⟩
    have D7 := D6.up S7
    refine ⟨_, rfl, iteF ⟨_, rfl, _, rfl, _, rfl, ?_⟩⟩
    refine ⟨_, rfl, _, rfl, p, ra, ts, rfl, p0, S7 _ _ hra6, R1.nd, ne1, lt1, fun A8 H8 S8 nA8 hA8 => ?_⟩
    refine ⟨_, rfl, _, rfl, p, rb, us, rfl, p0, S8 _ _ (S7 _ _ hrb6), R2.nd, ne2, lt2, fun B9 H9 S9 nB9 hB9 => ?_⟩
    have hA9 := S9 _ _ hA8
    refine ⟨d, l, c, A8, B9, p, n, tid p ts, tid p us, (by show [V.ref d, V.int p, V.int (1 + v), V.ref A8, V.ref B9] = _; rw [hn1]), (D7.up S8).up S9, hp, n1, n4, hA9, hB9, (fun e => by rw [← e, hA8] at nB9; cases nB9), ⟨ts, R1, rfl⟩, ⟨us, R2, rfl⟩, fun H10 D10 X10 => ?_⟩
    have S69 := (S7.trans S8).trans S9
    have tb10 := tabs_drawn ((D7.up S8).up S9) X10 (tb6.ext S69)
    have K610 : Kept d l H6 H10 := (Kept.of S69).trans (Kept.drawn X10)
    have nra := D6.dt hra6
    have nrb := D6.dt hrb6
    have hra10 := K610 _ _ hra6 nra.1 nra.2 (fun _ z => nomatch z)
    have hrb10 := K610 _ _ hrb6 nrb.1 nrb.2 (fun _ z => nomatch z)
    clear S7 S8 S9 S69 X10 tb6 K610 hA9 hB9 nB9 hA8 nA8 D7 hra6 hrb6 D6
    refine ⟨_, rfl, iteF ?_⟩
    -- if not .. or not ..
    refine ⟨_, rfl, _, rfl, _, rfl, d, l, c, p, n, (by show [V.ref d, V.int p, V.int (1 + v)] = _; rw [hn1]), D10, hp, n1, n4, tb10, fun H11 D11 tb11 K11 => ?_⟩
    have hra11 := K11 _ _ hra10 nra.1 nra.2 (fun _ z => nomatch z)
    have hrb11 := K11 _ _ hrb10 nrb.1 nrb.2 (fun _ z => nomatch z)
    refine ⟨_, rfl, iteF ⟨_, rfl, _, rfl, _, rfl, ?_⟩⟩
    refine ⟨_, rfl, _, rfl, p, ra, ts, rfl, p0, hra11, R1.nd, ne1, lt1, fun A12 H12 S12 nA12 hA12 => ?_⟩
    refine ⟨d, l, c, A12, p, n, tid p ts, (by show [V.ref d, V.int p, V.int (1 + v), V.ref A12] = _; rw [hn1]), D11.up S12, hp, n1, n4, hA12, ⟨ts, R1, rfl⟩, tb11.ext S12, fun H13 K13 => ?_⟩
    have hra13 := K13 _ _ (S12 _ _ hra11) nra.1 nra.2 (fun _ z => nomatch z)
    have hrb13 := K13 _ _ (S12 _ _ hrb11) nrb.1 nrb.2 (fun _ z => nomatch z)
    refine ⟨_, rfl, iteF ?_⟩
    -- return repr([raw, more]) == kept_here
    refine ⟨_, rfl, _, rfl, (show (2 : Nat) ≤ sizeLine by decide), fun L nL sL => ?_⟩
    have SL : Same H13 (upd H13 L (.lst [.ref ra, .ref rb])) := (Same.refl _).put nL
    refine ⟨L, _, True, rfl, dr _ L upd_same sL (SL _ _ hra13) (SL _ _ hrb13), (fun _ => trivial), sh1, sh2, sh3, ?_⟩
    refine ⟨_, rfl, rfl, ?_⟩
    rw [decide_eq_true rfl]
    exact k _
end
end P2
end

section
set_option maxRecDepth 100000
set_option maxHeartbeats 4000000
/-! What the top leaves, read off by one run: defs by where they stand, and one Bool of facts. -/
namespace HX
open PySem PySem.Spec PyProof.Rows L2
/-- a def: where it stands, its name, its qualified name, its statement -/
structure Df where
  at_ : PySem.W.Frag → Addr
  name : Str
  qual : Str
  st : Stmt
def seen (K : PySem.W.Frag) (a : Addr) : He.FnW := match K.lookup a with
  | some ⟨_, _, .func fd, _⟩ => some (fd.name, fd.qualname, fd.params, fd.body, fd.scope, fd.globals, fd.closure, fd.builtins)
  | _ => none
def Df.val (d : Df) : He.FnW := some (d.name, d.qual, defArgs d.st, .stmts (defBody d.st), defScope d.st, mainGlobals, [], builtinsNs)
def isNone : Value → Bool
  | .none => true
  | _ => false
def Df.ok (K : PySem.W.Frag) (d : Df) : Bool := PySem.W.keepIn K (.ref (d.at_ K)) && (match K.lookup (d.at_ K) with
  | some ⟨_, _, .func fd, _⟩ => PySem.W.codeIn K fd.code d.qual && isNone fd.defaults
  | _ => false)
/-- the function data at a place -/
def fdAt (K : PySem.W.Frag) (a : Addr) : FuncData := match K.lookup a with
  | some ⟨_, _, .func fd, _⟩ => fd
  | _ => PySem.W.fnOf "" "" ⟨[], [], none, [], [], none, []⟩ [] ⟨.function, [], false, false, []⟩ .none .none .none .none none .none .none
def refOf : Value → Addr
  | .ref c => c
  | _ => 0
def codeAt (K : PySem.W.Frag) (a : Addr) : Addr := refOf (fdAt K a).code
theorem Df.fn {K : PySem.W.Frag} {d : Df} (e : seen K (d.at_ K) = d.val) (c : d.ok K = true) : Fun K d.name d.qual d.st (d.at_ K) (fdAt K (d.at_ K)) ∧ (fdAt K (d.at_ K)).code = .ref (codeAt K (d.at_ K)) := by
  obtain ⟨kp, c2⟩ := He.ba c
  unfold seen at e
  unfold codeAt fdAt
  cases q : K.lookup (d.at_ K) with
  | none =>
    rw [q] at c2
    cases c2
  | some o =>
    obtain ⟨oc, od, dt, osl⟩ := o
    rw [q] at c2 e
    cases dt with
    | func fd =>
      obtain ⟨n1, n2, n3, n4, n5, n6, n7, n8, n9, n10, n11, n12, n13, n14, n15⟩ := fd
      have e2 : (some (n1, n2, n3, n4, n5, n6, n7, n15) : He.FnW) = some (d.name, d.qual, defArgs d.st, .stmts (defBody d.st), defScope d.st, mainGlobals, [], builtinsNs) := e
      simp only [Option.some.injEq, Prod.mk.injEq] at e2
      obtain ⟨h1, h2, h3, h4, h5, h6, h7, h8⟩ := e2
      subst h1 h2 h3 h4 h5 h6 h7 h8
      have c3 : (PySem.W.codeIn K n13 d.qual && isNone n8) = true := c2
      obtain ⟨k1, k2⟩ := He.ba c3
      have e8 : n8 = .none := by
        cases n8 with
        | none => rfl
        | _ => cases k2
      subst e8
      refine ⟨⟨⟨oc, od, n9, n10, n11, n12, n13, n14, osl, rfl, q, k1⟩, kp⟩, ?_⟩
      obtain ⟨c, hc⟩ := He.codeIn_ref k1
      show n13 = .ref (refOf n13)
      rw [hc]
      rfl
    | _ => cases c2
/-! ### exceptions, classes -/
def mroOk (C : Addr) : List Value → Bool
  | .ref c :: bm => decide (c = C) && PySem.HandSPX.refsVE bm
  | _ => false
theorem mroOk_ok {C : Addr} : ∀ {l : List Value}, mroOk C l = true → ∃ bm, l = .ref C :: bm ∧ PySem.HandSPX.refsVE bm = true
  | .ref c :: bm, h => by
    obtain ⟨g1, g2⟩ := He.ba (show (decide (c = C) && PySem.HandSPX.refsVE bm) = true from h)
    exact ⟨bm, by rw [of_decide_eq_true g1], g2⟩
def slotOk : List (Option Value) → Bool
  | [_, _, _, _, some (.builtin i), _] => decide (i = "ValueError.__new__")
  | _ => false
theorem slotOk_ok {l : List (Option Value)} (h : slotOk l = true) : ∃ k0 k1 k2 k3 k5, l = [k0, k1, k2, k3, some (.builtin "ValueError.__new__"), k5] := by
  unfold slotOk at h
  split at h
  · rw [of_decide_eq_true h]
    exact ⟨_, _, _, _, _, rfl⟩
  · cases h
def isRow (o : Option Obj) (C : Addr) : Bool := match o with
  | some ⟨.type t, _, .cls cd, sl⟩ => decide (t = "type") && (mroOk C cd.mro && (cd.hasDict && (!cd.hasDel && slotOk sl.toList)))
  | _ => false
theorem isRow_ok {K : PySem.W.Frag} {C : Addr} (h : isRow (K.lookup C) C = true) : ∃ nm q N bs bm sn sub ab col dd k0 k1 k2 k3 k5, K.lookup C = some (excClassObj nm q C N bs bm true sn sub ab col dd k0 k1 k2 k3 k5 "ValueError.__new__") ∧ PySem.HandSPX.refsVE bm = true := by
  cases e : K.lookup C with
  | none => rw [e] at h; cases h
  | some o =>
    rw [e] at h
    obtain ⟨oc, od, dt, ⟨sl⟩⟩ := o
    cases oc with
    | type t =>
      cases dt with
      | cls cd =>
        obtain ⟨n1, n2, n3, n4, n5, n6, n7, n8, n9, n10, n11⟩ := cd
        obtain ⟨h1, h2⟩ := He.ba (show (decide (t = "type") && (mroOk C n3 && (n6 && (!n11 && slotOk sl)))) = true from h)
        obtain ⟨h3, h4⟩ := He.ba h2
        obtain ⟨h5, h6⟩ := He.ba h4
        obtain ⟨h7, h8⟩ := He.ba h6
        have e1 : t = "type" := of_decide_eq_true h1
        have e7 : n11 = false := by
          cases n11 with
          | false => rfl
          | true => cases h7
        obtain ⟨bm, e3, g2⟩ := mroOk_ok h3
        obtain ⟨k0, k1, k2, k3, k5, e8⟩ := slotOk_ok h8
        rw [e1, e7, e3, h5, e8]
        exact ⟨_, _, _, _, _, _, _, _, _, _, _, _, _, _, _, rfl, g2⟩
      | _ => cases h
    | _ => cases dt <;> cases h
/-- once for all: __class__ of objects -/
def onceB (K : PySem.W.Frag) : Bool := decide (PySem.W.specialIn K (.builtin "object.__class__") "__get__" = some (some (.builtin "getset_descriptor.__get__"))) && decide (PySem.W.takesIn K (.builtin "object.__class__") = some true)
theorem onceB_ok {K : PySem.W.Frag} (h : onceB K = true) : PySem.W.specialIn K (.builtin "object.__class__") "__get__" = some (some (.builtin "getset_descriptor.__get__")) ∧ PySem.W.takesIn K (.builtin "object.__class__") = some true := by
  obtain ⟨h1, h2⟩ := He.ba h
  exact ⟨of_decide_eq_true h1, of_decide_eq_true h2⟩
/-- an own error, all that is asked of it -/
def errB (K : PySem.W.Frag) (C : Addr) : Bool := isRow (K.lookup C) C && (decide (PySem.W.findIn K (.ref C) "__setattr__" = some (some (.builtin "object.__setattr__"))) && (xfB K C && (decide (PySem.W.typeIn K (.ref C) = some (.type "type")) && (PySem.W.keepIn K (.ref C) &&
  (decide (PySem.W.findIn K (.ref C) "__class__" = some (some (.builtin "object.__class__"))) && (decide (PySem.W.mroIn K C (.type "object") = some true) && decide (PySem.W.subIn K (.ref C) (.type "BaseException") = some true)))))))
structure Err (K : PySem.W.Frag) (C : Addr) : Prop where
  o : OexC K C
  x : XfC K C
  e : ExcC K C
theorem errB_ok {K : PySem.W.Frag} {C : Addr} (o : onceB K = true) (h : errB K C = true) : Err K C := by
  obtain ⟨h1, h⟩ := He.ba h
  obtain ⟨h2, h⟩ := He.ba h
  obtain ⟨h3, h⟩ := He.ba h
  obtain ⟨h4, h⟩ := He.ba h
  obtain ⟨h5, h⟩ := He.ba h
  obtain ⟨h6, h⟩ := He.ba h
  obtain ⟨h7, h8⟩ := He.ba h
  obtain ⟨o1, o2⟩ := onceB_ok o
  have X := xfB_ok h3
  exact ⟨⟨isRow_ok h1, of_decide_eq_true h2, of_decide_eq_true h8, of_decide_eq_true h4, h5⟩, X, ⟨X.ga, X.gg, X.exC, X.hdC, of_decide_eq_true h6, o1, o2, of_decide_eq_true h7⟩⟩
/-- an own error without __init__, raised by its message -/
def plnB (K : PySem.W.Frag) (C : Addr) : Bool := PySem.W.excIn K C [.type "ValueError", .type "Exception", .type "BaseException", .type "object"] "ValueError.__new__"
def clsB (K : PySem.W.Frag) (C : Addr) : Bool := PySem.W.plainGet K C Str.empty && (PySem.W.hasDictIn K C && (PySem.W.plainOver K C && decide (PySem.W.findIn K (.ref C) "__setattr__" = some (some (.builtin "object.__setattr__")))))
theorem clsB_ok {K : PySem.W.Frag} {C : Addr} (h : clsB K C = true) : Cls K C := by
  obtain ⟨h1, h⟩ := He.ba h
  obtain ⟨h2, h⟩ := He.ba h
  obtain ⟨h3, h4⟩ := He.ba h
  exact ⟨h1, h2, h3, of_decide_eq_true h4⟩
def atB (K : PySem.W.Frag) (C : Addr) (f : Str) (r : Option Value) : Bool := decide (PySem.W.findIn K (.ref C) f = some r)
theorem atB_ok {K : PySem.W.Frag} {C : Addr} {f : Str} {r : Option Value} (h : atB K C f r = true) : PySem.W.findIn K (.ref C) f = some r := of_decide_eq_true h
def kitB2 (K : PySem.W.Frag) (t c : Value) (b : Bool) : Bool := decide (PySem.W.kitOne K t c = some b)
def mkB (K : PySem.W.Frag) (C f : Addr) : Bool := PySem.W.makesIn K C && (decide (PySem.W.findIn K (.ref C) "__init__" = some (some (.ref f))) && (PySem.W.isFn K (.ref f) && PySem.W.keepIn K (.ref C)))
theorem mkB_ok {K : PySem.W.Frag} {C f : Addr} (h : mkB K C f = true) : Mk K C f := by
  obtain ⟨h1, h⟩ := He.ba h
  obtain ⟨h2, h⟩ := He.ba h
  obtain ⟨h3, h4⟩ := He.ba h
  exact ⟨h1, of_decide_eq_true h2, h3, h4⟩
/-- the getter of a property -/
def getAt (C : Str) (f : Str) (K : PySem.W.Frag) : Addr := match PySem.W.recIn K (He.ma K (He.ga K C) f) "property" with
  | some (.ref g :: _) => g
  | _ => 0
def propB (K : PySem.W.Frag) (C f : Str) : Bool := decide (PySem.W.findIn K (.ref (He.ga K C)) f = some (some (.ref (He.ma K (He.ga K C) f)))) && (decide (PySem.W.specialIn K (.ref (He.ma K (He.ga K C) f)) "__get__" = some (some (.builtin "property.__get__"))) && (decide (PySem.W.takesIn K (.ref (He.ma K (He.ga K C) f)) = some true) &&
  (match PySem.W.recIn K (He.ma K (He.ga K C) f) "property" with
  | some (.ref _ :: _) => true
  | _ => false)))
theorem propB_ok {K : PySem.W.Frag} {C f : Str} (h : propB K C f = true) : PropOf K (He.ga K C) f (He.ma K (He.ga K C) f) (getAt C f K) := by
  obtain ⟨h1, h⟩ := He.ba h
  obtain ⟨h2, h⟩ := He.ba h
  obtain ⟨h3, h4⟩ := He.ba h
  refine ⟨of_decide_eq_true h1, of_decide_eq_true h2, of_decide_eq_true h3, ?_⟩
  unfold getAt
  split at h4
  · rename_i g r e
    rw [e]
    exact ⟨r, rfl⟩
  · cases h4
/-! ### the Hook -/
def tabsOk (g : Addr → Option Obj) (tf : List (PySem.W.Frag → Addr)) (K : PySem.W.Frag) : Bool := tf.all fun p => PySem.W.codeHdIn K (codeAt K (p K)) (He.tabOf K (codeAt K (p K))) && (match g (He.tabOf K (codeAt K (p K))) with
  | some o => He.emptyTab o
  | none => false)
abbrev Al : Type := Bool × List He.FnW
def obs (n : Nat) (fn : List Df) (tf : List (PySem.W.Frag → Addr)) (ex : PySem.W.Frag → Bool) (g : Addr → Option Obj) : Al :=
  ((fn.all fun d => d.ok (He.frT g (He.asD g n))) && (ex (He.frT g (He.asD g n)) && tabsOk g tf (He.frT g (He.asD g n))), fn.map fun d => seen (He.frT g (He.asD g n)) (d.at_ (He.frT g (He.asD g n))))
structure Says (fn : List Df) (tf : List (PySem.W.Frag → Addr)) (ex : PySem.W.Frag → Bool) (h : Heap) (K : PySem.W.Frag) : Prop where
  fn : ∀ d ∈ fn, Fun K d.name d.qual d.st (d.at_ K) (fdAt K (d.at_ K)) ∧ (fdAt K (d.at_ K)).code = .ref (codeAt K (d.at_ K))
  ex : ex K = true
  hd : ∀ p ∈ tf, PySem.W.codeHdIn K (codeAt K (p K)) (He.tabOf K (codeAt K (p K))) = true
  out : ∀ p ∈ tf, K.lookup (He.tabOf K (codeAt K (p K))) = none
  emp : ∀ p ∈ tf, h.get? (He.tabOf K (codeAt K (p K))) = some { cls := .none, data := .fields #[] }
theorem says_of {n : Nat} {fn : List Df} {tf : List (PySem.W.Frag → Addr)} {ex : PySem.W.Frag → Bool} {h : Heap} (e : obs n fn tf ex h.get? = (true, fn.map Df.val)) : Says fn tf ex h (He.frT h.get? (He.asD h.get? n)) := by
  have e1 : ((fn.all fun d => d.ok (He.frT h.get? (He.asD h.get? n))) && (ex (He.frT h.get? (He.asD h.get? n)) && tabsOk h.get? tf (He.frT h.get? (He.asD h.get? n)))) = true := congrArg (fun z : Al => z.1) e
  have e2 : (fn.map fun d => seen (He.frT h.get? (He.asD h.get? n)) (d.at_ (He.frT h.get? (He.asD h.get? n)))) = fn.map Df.val := congrArg (fun z : Al => z.2) e
  obtain ⟨a1, a2⟩ := He.ba e1
  obtain ⟨a3, a4⟩ := He.ba a2
  generalize hK : He.frT h.get? (He.asD h.get? n) = K at *
  have key : ∀ p ∈ tf, PySem.W.codeHdIn K (codeAt K (p K)) (He.tabOf K (codeAt K (p K))) = true ∧ ∃ o, h.get? (He.tabOf K (codeAt K (p K))) = some o ∧ He.emptyTab o = true := fun p hp => by
    obtain ⟨h3, h4⟩ := He.ba (List.all_eq_true.mp a4 p hp)
    refine ⟨h3, ?_⟩
    split at h4
    · rename_i o q
      exact ⟨o, q, h4⟩
    · cases h4
  refine ⟨fun d hd => Df.fn ?_ (List.all_eq_true.mp a1 d hd), a3, fun p hp => (key p hp).1, fun p hp => ?_, fun p hp => ?_⟩
  · exact List.map_inj_left.mp e2 d hd
  · obtain ⟨_, o, q, z⟩ := key p hp
    rw [← hK]
    rw [← hK] at q
    exact He.frT_none q z
  · obtain ⟨_, o, q, z⟩ := key p hp
    rw [q, He.emptyTab_eq z]
def hook (n : Nat) (fn : List Df) (tf : List (PySem.W.Frag → Addr)) (ex : PySem.W.Frag → Bool) : PySem.W.Hook where
  α := Al
  obs := fun s => obs n fn tf ex s.heap.get?
  val := fun _ => (true, fn.map Df.val)
  says := fun _ h => ∃ K : PySem.W.Frag, K.In h ∧ Says fn tf ex h K
  of := fun _ _ e => ⟨_, He.frT_in, says_of e⟩
  keeps := fun _ _ _ ⟨K, hK, c⟩ k => ⟨K, PySem.W.Frag.In.keeps hK k, ⟨c.fn, c.ex, c.hd, c.out, fun p hp => k _ _ (c.emp p hp)⟩⟩
theorem obs_eq {n : Nat} {fn : List Df} {tf : List (PySem.W.Frag → Addr)} {ex : PySem.W.Frag → Bool} {g : Addr → Option Obj} {s : Shared} (h : ∀ a, g a = s.heap.get? a) : obs n fn tf ex g = (hook n fn tf ex).obs s := by
  have e : g = s.heap.get? := funext h
  rw [e] <;> rfl
theorem Says.at_ {fn : List Df} {tf : List (PySem.W.Frag → Addr)} {ex : PySem.W.Frag → Bool} {h : Heap} {K : PySem.W.Frag} (c : Says fn tf ex h K) (i : Nat) {d : Df} (e : fn[i]? = some d := by rfl) : Fun K d.name d.qual d.st (d.at_ K) (fdAt K (d.at_ K)) := (c.fn d (List.mem_of_getElem? e)).1
theorem Says.code {fn : List Df} {tf : List (PySem.W.Frag → Addr)} {ex : PySem.W.Frag → Bool} {h : Heap} {K : PySem.W.Frag} (c : Says fn tf ex h K) (i : Nat) {d : Df} (e : fn[i]? = some d := by rfl) : (fdAt K (d.at_ K)).code = .ref (codeAt K (d.at_ K)) := (c.fn d (List.mem_of_getElem? e)).2
end HX
end

section
set_option maxRecDepth 100000
set_option maxHeartbeats 8000000
namespace P2
open PySem PySem.Spec PyProof.Rows L2 LamX ClX
def d2_0 : HX.Df := ⟨fun K => He.ma K (He.ga K "BadNumber") "__init__", "__init__", "BadNumber.__init__", inClass (top 2) 0⟩
def d5_0 : HX.Df := ⟨fun K => He.ma K (He.ga K "TooMany") "__init__", "__init__", "TooMany.__init__", inClass (top 5) 0⟩
def d8 : HX.Df := ⟨fun K => He.ga K "is_number", "is_number", "is_number", top 8⟩
def d9 : HX.Df := ⟨fun K => He.ga K "is_within", "is_within", "is_within", top 9⟩
def d10 : HX.Df := ⟨fun K => He.ga K "is_list", "is_list", "is_list", top 10⟩
def d11 : HX.Df := ⟨fun K => He.ga K "are_numbers", "are_numbers", "are_numbers", top 11⟩
def d12 : HX.Df := ⟨fun K => He.ga K "is_prime", "is_prime", "is_prime", top 12⟩
def d13 : HX.Df := ⟨fun K => He.ga K "check_prime", "check_prime", "check_prime", top 13⟩
def d16 : HX.Df := ⟨fun K => He.ga K "pack_row", "pack_row", "pack_row", top 16⟩
def d17 : HX.Df := ⟨fun K => He.ga K "unpack_row", "unpack_row", "unpack_row", top 17⟩
def d18 : HX.Df := ⟨fun K => He.ga K "pack_of", "pack_of", "pack_of", top 18⟩
def d19 : HX.Df := ⟨fun K => He.ga K "terms_of", "terms_of", "terms_of", top 19⟩
def d20 : HX.Df := ⟨fun K => He.ga K "pack_sum", "pack_sum", "pack_sum", top 20⟩
def d21 : HX.Df := ⟨fun K => He.ga K "pack_product", "pack_product", "pack_product", top 21⟩
def d22 : HX.Df := ⟨fun K => He.ga K "without_zeros", "without_zeros", "without_zeros", top 22⟩
def d23 : HX.Df := ⟨fun K => He.ga K "pack_power", "pack_power", "pack_power", top 23⟩
def d26_0 : HX.Df := ⟨fun K => He.ma K (He.ga K "Poly") "__init__", "__init__", "Poly.__init__", inClass (top 26) 0⟩
def d26_1 : HX.Df := ⟨HX.getAt "Poly" "terms", "terms", "Poly.terms", inClass (top 26) 1⟩
def d26_2 : HX.Df := ⟨fun K => He.ma K (He.ga K "Poly") "__eq__", "__eq__", "Poly.__eq__", inClass (top 26) 2⟩
def d27 : HX.Df := ⟨fun K => He.ga K "is_term", "is_term", "is_term", top 27⟩
def d28 : HX.Df := ⟨fun K => He.ga K "check_poly", "check_poly", "check_poly", top 28⟩
def d29 : HX.Df := ⟨fun K => He.ga K "check_pair", "check_pair", "check_pair", top 29⟩
def d30 : HX.Df := ⟨fun K => He.ga K "poly_of_pack", "poly_of_pack", "poly_of_pack", top 30⟩
def d31 : HX.Df := ⟨fun K => He.ga K "letter", "letter", "letter", top 31⟩
def d32 : HX.Df := ⟨fun K => He.ga K "constant", "constant", "constant", top 32⟩
def d33 : HX.Df := ⟨fun K => He.ga K "poly_sum", "poly_sum", "poly_sum", top 33⟩
def d34 : HX.Df := ⟨fun K => He.ga K "poly_product", "poly_product", "poly_product", top 34⟩
def d35 : HX.Df := ⟨fun K => He.ga K "poly_scaled", "poly_scaled", "poly_scaled", top 35⟩
def d36 : HX.Df := ⟨fun K => He.ga K "poly_power", "poly_power", "poly_power", top 36⟩
def d38 : HX.Df := ⟨fun K => He.ga K "_law_begun", "_law_begun", "_law_begun", top 38⟩
def d39 : HX.Df := ⟨fun K => He.ga K "_law_mixed", "_law_mixed", "_law_mixed", top 39⟩
def d40 : HX.Df := ⟨fun K => He.ga K "_law_take", "_law_take", "_law_take", top 40⟩
def d41 : HX.Df := ⟨fun K => He.ga K "_law_pick", "_law_pick", "_law_pick", top 41⟩
def d42 : HX.Df := ⟨fun K => He.ga K "_law_field", "_law_field", "_law_field", top 42⟩
def d43 : HX.Df := ⟨fun K => He.ga K "_law_rows", "_law_rows", "_law_rows", top 43⟩
def d44 : HX.Df := ⟨fun K => He.ga K "_law_tidied", "_law_tidied", "_law_tidied", top 44⟩
def d45 : HX.Df := ⟨fun K => He.ga K "_law_added", "_law_added", "_law_added", top 45⟩
def d46 : HX.Df := ⟨fun K => He.ga K "_law_multiplied", "_law_multiplied", "_law_multiplied", top 46⟩
def d47 : HX.Df := ⟨fun K => He.ga K "_law_is_poly", "_law_is_poly", "_law_is_poly", top 47⟩
def d48 : HX.Df := ⟨fun K => He.ga K "_law_caught", "_law_caught", "_law_caught", top 48⟩
def d49 : HX.Df := ⟨fun K => He.ga K "_law_raw_terms", "_law_raw_terms", "_law_raw_terms", top 49⟩
def d50 : HX.Df := ⟨fun K => He.ga K "_law_degree", "_law_degree", "_law_degree", top 50⟩
def d51 : HX.Df := ⟨fun K => He.ga K "_law_attributes_right", "_law_attributes_right", "_law_attributes_right", top 51⟩
def d52 : HX.Df := ⟨fun K => He.ga K "_law_sums_right", "_law_sums_right", "_law_sums_right", top 52⟩
def d53 : HX.Df := ⟨fun K => He.ga K "_law_bounds_right", "_law_bounds_right", "_law_bounds_right", top 53⟩
def d54 : HX.Df := ⟨fun K => He.ga K "_law_word_of", "_law_word_of", "_law_word_of", top 54⟩
def d55 : HX.Df := ⟨fun K => He.ga K "_law_refused", "_law_refused", "_law_refused", top 55⟩
def d56 : HX.Df := ⟨fun K => He.ga K "law", "law", "law", top 56⟩
def fnL : List HX.Df := [d2_0, d5_0, d8, d9, d10, d11, d12, d13, d16, d17, d18, d19, d20, d21, d22, d23, d26_0, d26_1, d26_2, d27, d28, d29, d30, d31, d32, d33, d34, d35, d36, d38, d39, d40, d41, d42, d43, d44, d45, d46, d47, d48, d49, d50, d51, d52, d53, d54, d55, d56]
def tfL : List (PySem.W.Frag → Addr) := [fun K => He.ga K "_law_bounds_right", fun K => He.ga K "_law_refused"]
def faL : List He.Fa := [.glo "is_number", .glo "is_within", .glo "is_list", .glo "are_numbers", .glo "is_prime", .glo "check_prime", .glo "pack_row", .glo "unpack_row", .glo "pack_of", .glo "terms_of", .glo "pack_sum", .glo "pack_product", .glo "without_zeros", .glo "pack_power", .glo "is_term", .glo "check_poly", .glo "check_pair", .glo "poly_of_pack", .glo "letter", .glo "constant", .glo "poly_sum", .glo "poly_product", .glo "poly_scaled", .glo "poly_power", .glo "_law_begun", .glo "_law_mixed", .glo "_law_take", .glo "_law_pick", .glo "_law_field", .glo "_law_rows", .glo "_law_tidied", .glo "_law_added", .glo "_law_multiplied", .glo "_law_is_poly", .glo "_law_caught", .glo "_law_raw_terms", .glo "_law_degree", .glo "_law_attributes_right", .glo "_law_sums_right", .glo "_law_bounds_right", .glo "_law_word_of", .glo "_law_refused", .glo "law", .glo "BadPrime", .glo "BadPoly", .glo "BadNumber", .glo "TooMany", .glo "SwayError", .glo "Poly", .glo "PRIMES", .free "isinstance", .free "int", .free "bool", .free "list", .free "tuple", .free "dict", .free "len", .free "all", .free "any", .free "sum", .free "max", .free "sorted", .free "range", .free "enumerate", .free "repr", .free "zip", .free "abs", .int "MOST_DEGREE" 120, .int "MOST_UNKNOWNS" 12]
/-- the facts of the top, for the kernel to reckon -/
def exL (K : PySem.W.Frag) : Bool :=
  faL.all (fun f => f.ok K) && (He.tupB K "PRIMES" (primes.map He.Dv.int) && (HX.onceB K && (["BadPrime", "BadPoly", "BadNumber", "TooMany"].all (fun x => HX.errB K (He.ga K x)) && (HX.plnB K (He.ga K "BadPrime") && (HX.plnB K (He.ga K "BadPoly") && (HX.clsB K (He.ga K "Poly") &&
  (["prime", "wide", "_terms", "degree"].all (fun f => HX.atB K (He.ga K "Poly") f none) && (HX.atB K (He.ga K "Poly") "__class__" (some (.builtin "object.__class__")) && (decide (PySem.W.mroIn K (He.ga K "Poly") (.type "object") = some true) && (HX.kitB2 K (.ref (He.ga K "Poly")) (.ref (He.ga K "Poly")) true &&
  (kinds7.all (fun n => HX.kitB2 K (.type n) (.ref (He.ga K "Poly")) false) && (HX.atB K (He.ga K "TooMany") "most" none && (HX.atB K (He.ga K "BadNumber") "part" none && (HX.mkB K (He.ga K "Poly") (He.ma K (He.ga K "Poly") "__init__") && (HX.propB K "Poly" "terms" &&
  (HX.atB K (He.ga K "Poly") "__eq__" (some (.ref (He.ma K (He.ga K "Poly") "__eq__"))) && (PySem.W.isFn K (.ref (He.ma K (He.ga K "Poly") "__eq__")) && (HX.atB K (He.ga K "Poly") "__ne__" (some (.builtin "object.__ne__")) && (PySem.W.notFirst K (He.ga K "Poly") (.ref (He.ga K "Poly")) && (PySem.W.notFirst K (He.ga K "Poly") (.type "dict") &&
  (["TooMany", "BadNumber"].all (fun x => HX.atB K (He.ga K x) "__init__" (some (.ref (He.ma K (He.ga K x) "__init__"))) && decide (PySem.W.typeIn K (.ref (He.ma K (He.ga K x) "__init__")) = some (.type "function"))) &&
  (["BadPrime", "BadPoly", "BadNumber", "TooMany"].all (fun x => decide (PySem.W.exmOne K (.ref (He.ga K x)) (.ref (He.ga K "SwayError")) = some true) && HX.kitB2 K (.ref (He.ga K x)) (.ref (He.ga K x)) true) &&
  (HX.kitB2 K (.ref (He.ga K "BadPoly")) (.ref (He.ga K "BadNumber")) false && (HX.kitB2 K (.ref (He.ga K "BadPrime")) (.ref (He.ga K "BadNumber")) false && (HX.kitB2 K (.ref (He.ga K "BadPrime")) (.ref (He.ga K "BadPoly")) false &&
  !(decide (He.tabOf K (HX.codeAt K (He.ga K "_law_bounds_right")) = He.tabOf K (HX.codeAt K (He.ga K "_law_refused")))))))))))))))))))))))))))))
abbrev RL : PySem.W.OpenRow := PySem.W.OpenLaw.row PySem.Challenge.rw_unswayed_k02_polynomials_put_together
abbrev hkL : PySem.W.Hook := HX.hook 7 fnL tfL exL
def obL (s : PySem.W.SharedT) : HX.Al := HX.obs 7 fnL tfL exL (HandSHeadRun.getT s)
theorem obL_eq (s : PySem.W.SharedT) : obL s = hkL.obs s.abs := HX.obs_eq (HandSHeadRun.getT_eq s)
def namesL : List PySem.Str := (PySem.Challenge.pw_unswayed_k02_polynomials_put_together.main.scope.names.map (·.1)).filter fun x => !(x == "law")
theorem runL (w : World) : HandSHeadRun.RunEq RL (PySem.W.view RL.prog [56]) hkL obL 3000 namesL w := by
  intro os
  kernel_rfl
end P2
end

section
set_option maxRecDepth 100000
set_option maxHeartbeats 8000000
namespace P2
open PySem PySem.Spec PyProof.Rows L2 LamX ClX
theorem imp_tid {P : Program} {w : World} {K : PySem.W.Frag} {mg : Str → Option Value} {base : Heap} {k : Nat} {f : Addr} {fd : FuncData} {ps : List Str} (F : FnOk P w K mg base CX0 k f fd ps spTidied) : FnOk P w K mg base CX0 k f fd ps spTid :=
  ⟨fun vs H Q E h => F.len vs H Q E (tid_of h), fun A outer s H args us vs Q E hr e0 hb r h => F.run A outer s H args us vs Q E hr e0 hb r (tid_of h)⟩
theorem kbI {K : PySem.W.Frag} {f : Addr} {fd : FuncData} (F : Fun K "__init__" "Poly.__init__" (inClass (top 26) 0) f fd) : KBn K fd ["self", "prime", "wide", "terms"] 1 ["prime", "wide", "terms"] cat cat := by
  obtain ⟨oc, od, kV, doc, pm, an, cdv, ct, osl, rfl, lk, hcd⟩ := F.ex
  exact ⟨fun s us ws _ h1 h2 => match us, ws, h1, h2 with | [u0], [w0, w1, w2], _, _ => BindsTo.of_eq rfl, fun r1 r2 => r1.append r2⟩
theorem kb33 {K : PySem.W.Frag} {f : Addr} {fd : FuncData} (F : Fun K "poly_sum" "poly_sum" (top 33) f fd) : KBn K fd ["one", "other"] 1 ["other"] cat cat := by
  obtain ⟨oc, od, kV, doc, pm, an, cdv, ct, osl, rfl, lk, hcd⟩ := F.ex
  exact ⟨fun s us ws _ h1 h2 => match us, ws, h1, h2 with | [u0], [w0], _, _ => BindsTo.of_eq rfl, fun r1 r2 => r1.append r2⟩
theorem kb34 {K : PySem.W.Frag} {f : Addr} {fd : FuncData} (F : Fun K "poly_product" "poly_product" (top 34) f fd) : KBn K fd ["one", "other"] 0 ["one", "other"] cat cat := by
  obtain ⟨oc, od, kV, doc, pm, an, cdv, ct, osl, rfl, lk, hcd⟩ := F.ex
  exact ⟨fun s us ws _ h1 h2 => match us, ws, h1, h2 with | [], [w0, w1], _, _ => BindsTo.of_eq rfl, fun r1 r2 => r1.append r2⟩
theorem kb35 {K : PySem.W.Frag} {f : Addr} {fd : FuncData} (F : Fun K "poly_scaled" "poly_scaled" (top 35) f fd) : KBn K fd ["one", "number"] 1 ["number"] cat cat := by
  obtain ⟨oc, od, kV, doc, pm, an, cdv, ct, osl, rfl, lk, hcd⟩ := F.ex
  exact ⟨fun s us ws _ h1 h2 => match us, ws, h1, h2 with | [u0], [w0], _, _ => BindsTo.of_eq rfl, fun r1 r2 => r1.append r2⟩
theorem kb36 {K : PySem.W.Frag} {f : Addr} {fd : FuncData} (F : Fun K "poly_power" "poly_power" (top 36) f fd) : KBn K fd ["one", "times"] 1 ["times"] cat cat := by
  obtain ⟨oc, od, kV, doc, pm, an, cdv, ct, osl, rfl, lk, hcd⟩ := F.ex
  exact ⟨fun s us ws _ h1 h2 => match us, ws, h1, h2 with | [u0], [w0], _, _ => BindsTo.of_eq rfl, fun r1 r2 => r1.append r2⟩
theorem kb32 {K : PySem.W.Frag} {f : Addr} {fd : FuncData} (F : Fun K "constant" "constant" (top 32) f fd) : KBn K fd ["prime", "wide", "number"] 0 ["prime", "wide", "number"] cat cat := by
  obtain ⟨oc, od, kV, doc, pm, an, cdv, ct, osl, rfl, lk, hcd⟩ := F.ex
  exact ⟨fun s us ws _ h1 h2 => match us, ws, h1, h2 with | [], [w0, w1, w2], _, _ => BindsTo.of_eq rfl, fun r1 r2 => r1.append r2⟩
theorem bindRow {K : PySem.W.Frag} {x : Str} {f : Addr} {fd : FuncData} (F : Fun K x x (top 56) f fd) (a : Addr) : bindArgs fd ⟨[Value.ref a], []⟩ = pure [(("script" : Str), Value.ref a)] := by
  obtain ⟨oc, od, kV, doc, pm, an, cdv, ct, osl, rfl, lk, hcd⟩ := F.ex
  rfl
theorem law_all {P : Program} {w : World} {h : Heap} {K : PySem.W.Frag} {mg : Str → Option Value} {fa : Addr} (X : K.In h) (G : h.Ns mainGlobals mg) (hfa : mg "law" = some (.ref fa)) (c : HX.Says fnL tfL exL h K) :
    ∃ (cs : List (Addr × Addr)), (∀ p ∈ cs, PySem.W.codeHdIn K p.1 p.2 = true) ∧ (∀ p ∈ cs, K.lookup p.2 = none) ∧ (∀ p ∈ cs, h.get? p.2 = some { cls := .none, data := .fields #[] }) ∧
      ∀ (base : Heap) (s : Shared) (H : Hp) (a : Addr) (ns : List Int), K.In base → base.Ns mainGlobals mg → (∀ p ∈ cs, TabB base mg p.1 p.2) → (∀ p ∈ cs, H p.2 = some (.tbl #[])) → Env0 P w K mg base callerA [] s H → SqL K H a (ns.map V.int) → ns.length ≤ 63 → (∀ z ∈ ns, Builtin.Int.intBits z ≤ 1048576) →
        codeAny (model P w) callerA (.call (.ref fa) ⟨[.ref a], []⟩) (CR CX0 [] P w H s (fun v _ => v = .bl true) E0) s := by
  have cx := c.ex
  simp only [exL, Bool.and_eq_true, List.all_eq_true, decide_eq_true_eq, Bool.not_eq_true', decide_eq_false_iff_not] at cx
  obtain ⟨cf, cP, co, ce, cbp, cB, cC, cat_, ccl, cmro, ckk, ckn, cM, cN, cmk, cpr, ceq, cfn, cne, cn1, cn2, cin, cex, c1, c2, c3, cT⟩ := cx
  have glo : ∀ x, He.Fa.glo x ∈ faL → mg x = some (.ref (He.ga K x)) := fun x hx => He.glo_ok X G (cf _ hx)
  have free : ∀ x, He.Fa.free x ∈ faL → mg x = none := fun x hx => He.free_ok X G (cf _ hx)
  have intg : ∀ x i, He.Fa.int x i ∈ faL → ∃ t, mg x = some (.int i t) := fun x i hx => He.int_ok X G (cf _ hx)
  have g_is_number := glo "is_number" (List.mem_of_getElem? (i := 0) rfl)
  have g_is_within := glo "is_within" (List.mem_of_getElem? (i := 1) rfl)
  have g_is_list := glo "is_list" (List.mem_of_getElem? (i := 2) rfl)
  have g_are_numbers := glo "are_numbers" (List.mem_of_getElem? (i := 3) rfl)
  have g_is_prime := glo "is_prime" (List.mem_of_getElem? (i := 4) rfl)
  have g_check_prime := glo "check_prime" (List.mem_of_getElem? (i := 5) rfl)
  have g_pack_row := glo "pack_row" (List.mem_of_getElem? (i := 6) rfl)
  have g_unpack_row := glo "unpack_row" (List.mem_of_getElem? (i := 7) rfl)
  have g_pack_of := glo "pack_of" (List.mem_of_getElem? (i := 8) rfl)
  have g_terms_of := glo "terms_of" (List.mem_of_getElem? (i := 9) rfl)
  have g_pack_sum := glo "pack_sum" (List.mem_of_getElem? (i := 10) rfl)
  have g_pack_product := glo "pack_product" (List.mem_of_getElem? (i := 11) rfl)
  have g_without_zeros := glo "without_zeros" (List.mem_of_getElem? (i := 12) rfl)
  have g_pack_power := glo "pack_power" (List.mem_of_getElem? (i := 13) rfl)
  have g_is_term := glo "is_term" (List.mem_of_getElem? (i := 14) rfl)
  have g_check_poly := glo "check_poly" (List.mem_of_getElem? (i := 15) rfl)
  have g_check_pair := glo "check_pair" (List.mem_of_getElem? (i := 16) rfl)
  have g_poly_of_pack := glo "poly_of_pack" (List.mem_of_getElem? (i := 17) rfl)
  have g_letter := glo "letter" (List.mem_of_getElem? (i := 18) rfl)
  have g_constant := glo "constant" (List.mem_of_getElem? (i := 19) rfl)
  have g_poly_sum := glo "poly_sum" (List.mem_of_getElem? (i := 20) rfl)
  have g_poly_product := glo "poly_product" (List.mem_of_getElem? (i := 21) rfl)
  have g_poly_scaled := glo "poly_scaled" (List.mem_of_getElem? (i := 22) rfl)
  have g_poly_power := glo "poly_power" (List.mem_of_getElem? (i := 23) rfl)
  have g__law_begun := glo "_law_begun" (List.mem_of_getElem? (i := 24) rfl)
  have g__law_mixed := glo "_law_mixed" (List.mem_of_getElem? (i := 25) rfl)
  have g__law_take := glo "_law_take" (List.mem_of_getElem? (i := 26) rfl)
  have g__law_pick := glo "_law_pick" (List.mem_of_getElem? (i := 27) rfl)
  have g__law_field := glo "_law_field" (List.mem_of_getElem? (i := 28) rfl)
  have g__law_rows := glo "_law_rows" (List.mem_of_getElem? (i := 29) rfl)
  have g__law_tidied := glo "_law_tidied" (List.mem_of_getElem? (i := 30) rfl)
  have g__law_added := glo "_law_added" (List.mem_of_getElem? (i := 31) rfl)
  have g__law_multiplied := glo "_law_multiplied" (List.mem_of_getElem? (i := 32) rfl)
  have g__law_is_poly := glo "_law_is_poly" (List.mem_of_getElem? (i := 33) rfl)
  have g__law_caught := glo "_law_caught" (List.mem_of_getElem? (i := 34) rfl)
  have g__law_raw_terms := glo "_law_raw_terms" (List.mem_of_getElem? (i := 35) rfl)
  have g__law_degree := glo "_law_degree" (List.mem_of_getElem? (i := 36) rfl)
  have g__law_attributes_right := glo "_law_attributes_right" (List.mem_of_getElem? (i := 37) rfl)
  have g__law_sums_right := glo "_law_sums_right" (List.mem_of_getElem? (i := 38) rfl)
  have g__law_bounds_right := glo "_law_bounds_right" (List.mem_of_getElem? (i := 39) rfl)
  have g__law_word_of := glo "_law_word_of" (List.mem_of_getElem? (i := 40) rfl)
  have g__law_refused := glo "_law_refused" (List.mem_of_getElem? (i := 41) rfl)
  have g_law := glo "law" (List.mem_of_getElem? (i := 42) rfl)
  have g_BadPrime := glo "BadPrime" (List.mem_of_getElem? (i := 43) rfl)
  have g_BadPoly := glo "BadPoly" (List.mem_of_getElem? (i := 44) rfl)
  have g_BadNumber := glo "BadNumber" (List.mem_of_getElem? (i := 45) rfl)
  have g_TooMany := glo "TooMany" (List.mem_of_getElem? (i := 46) rfl)
  have g_SwayError := glo "SwayError" (List.mem_of_getElem? (i := 47) rfl)
  have g_Poly := glo "Poly" (List.mem_of_getElem? (i := 48) rfl)
  have g_PRIMES := glo "PRIMES" (List.mem_of_getElem? (i := 49) rfl)
  have z_isinstance := free "isinstance" (List.mem_of_getElem? (i := 50) rfl)
  have z_int := free "int" (List.mem_of_getElem? (i := 51) rfl)
  have z_bool := free "bool" (List.mem_of_getElem? (i := 52) rfl)
  have z_list := free "list" (List.mem_of_getElem? (i := 53) rfl)
  have z_tuple := free "tuple" (List.mem_of_getElem? (i := 54) rfl)
  have z_dict := free "dict" (List.mem_of_getElem? (i := 55) rfl)
  have z_len := free "len" (List.mem_of_getElem? (i := 56) rfl)
  have z_all := free "all" (List.mem_of_getElem? (i := 57) rfl)
  have z_any := free "any" (List.mem_of_getElem? (i := 58) rfl)
  have z_sum := free "sum" (List.mem_of_getElem? (i := 59) rfl)
  have z_max := free "max" (List.mem_of_getElem? (i := 60) rfl)
  have z_sorted := free "sorted" (List.mem_of_getElem? (i := 61) rfl)
  have z_range := free "range" (List.mem_of_getElem? (i := 62) rfl)
  have z_enumerate := free "enumerate" (List.mem_of_getElem? (i := 63) rfl)
  have z_repr := free "repr" (List.mem_of_getElem? (i := 64) rfl)
  have z_zip := free "zip" (List.mem_of_getElem? (i := 65) rfl)
  have z_abs := free "abs" (List.mem_of_getElem? (i := 66) rfl)
  have e0 := hfa.symm.trans g_law
  obtain rfl : fa = He.ga K "law" := by injection e0 with e0; injection e0
  have er : ∀ x : String, x ∈ ["BadPrime", "BadPoly", "BadNumber", "TooMany"] → HX.Err K (He.ga K x) := fun x hx => HX.errB_ok co (ce x hx)
  have erP := er "BadPrime" (by simp)
  have erB := er "BadPoly" (by simp)
  have erN := er "BadNumber" (by simp)
  have erM := er "TooMany" (by simp)
  obtain ⟨on1, on2⟩ := HX.onceB_ok co
  have T : Tx K mg (He.ga K "BadPrime") := ⟨z_isinstance, z_int, z_bool, z_list, z_tuple, z_dict, z_len, z_all, z_any, z_sum, z_max, z_sorted, z_range, z_enumerate, z_repr, z_zip, ⟨He.ga K "PRIMES", g_PRIMES, fun H => by have z := He.tupB_ok cP H; rw [List.map_map] at z; exact z⟩, g_BadPrime, cbp, erP.o.kC, erP.e⟩
  have TB : TxB mg := ⟨z_abs, z_int, z_len⟩
  have Y : Py K mg (He.ga K "Poly") (He.ga K "BadPoly") (He.ga K "TooMany") := ⟨HX.clsB_ok cC, HX.atB_ok (cat_ "prime" (by simp)), HX.atB_ok (cat_ "wide" (by simp)), HX.atB_ok (cat_ "_terms" (by simp)), HX.atB_ok (cat_ "degree" (by simp)), g_Poly, intg "MOST_UNKNOWNS" 12 (List.mem_of_getElem? (i := 68) rfl), intg "MOST_DEGREE" 120 (List.mem_of_getElem? (i := 67) rfl),
    g_BadPoly, cB, erB.o.kC, erB.o.exC, erB.o.tyC, g_TooMany, erM.o, HX.atB_ok ccl, on1, on2, cmro, of_decide_eq_true ckk, fun n hn => of_decide_eq_true (ckn n hn)⟩
  have XN : Nx K mg (He.ga K "BadNumber") := ⟨g_BadNumber, erN.o, HX.atB_ok cN⟩
  have F2_0 := c.at_ 0 (d := d2_0)
  have B2_0 : L2.Binds K _ ["self", "part"] [] := F2_0.binds fun _ _ _ _ _ _ us hl => match us, hl with | [_, _], _ => rfl
  have F5_0 := c.at_ 1 (d := d5_0)
  have B5_0 : L2.Binds K _ ["self", "most"] [] := F5_0.binds fun _ _ _ _ _ _ us hl => match us, hl with | [_, _], _ => rfl
  have F8 := c.at_ 2 (d := d8)
  have B8 : L2.Binds K _ ["thing"] [] := F8.binds fun _ _ _ _ _ _ us hl => match us, hl with | [_], _ => rfl
  have F9 := c.at_ 3 (d := d9)
  have B9 : L2.Binds K _ ["thing", "least", "most"] [] := F9.binds fun _ _ _ _ _ _ us hl => match us, hl with | [_, _, _], _ => rfl
  have F10 := c.at_ 4 (d := d10)
  have B10 : L2.Binds K _ ["thing"] [] := F10.binds fun _ _ _ _ _ _ us hl => match us, hl with | [_], _ => rfl
  have F11 := c.at_ 5 (d := d11)
  have B11 : L2.Binds K _ ["thing", "many"] [] := F11.binds fun _ _ _ _ _ _ us hl => match us, hl with | [_, _], _ => rfl
  have F12 := c.at_ 6 (d := d12)
  have B12 : L2.Binds K _ ["thing"] [] := F12.binds fun _ _ _ _ _ _ us hl => match us, hl with | [_], _ => rfl
  have F13 := c.at_ 7 (d := d13)
  have B13 : L2.Binds K _ ["prime"] [] := F13.binds fun _ _ _ _ _ _ us hl => match us, hl with | [_], _ => rfl
  have F16 := c.at_ 8 (d := d16)
  have B16 : L2.Binds K _ ["row"] [] := F16.binds fun _ _ _ _ _ _ us hl => match us, hl with | [_], _ => rfl
  have F17 := c.at_ 9 (d := d17)
  have B17 : L2.Binds K _ ["whole", "wide"] [] := F17.binds fun _ _ _ _ _ _ us hl => match us, hl with | [_, _], _ => rfl
  have F18 := c.at_ 10 (d := d18)
  have B18 : L2.Binds K _ ["terms"] [] := F18.binds fun _ _ _ _ _ _ us hl => match us, hl with | [_], _ => rfl
  have F19 := c.at_ 11 (d := d19)
  have B19 : L2.Binds K _ ["pack", "wide"] [] := F19.binds fun _ _ _ _ _ _ us hl => match us, hl with | [_, _], _ => rfl
  have F20 := c.at_ 12 (d := d20)
  have B20 : L2.Binds K _ ["one", "other", "prime"] [] := F20.binds fun _ _ _ _ _ _ us hl => match us, hl with | [_, _, _], _ => rfl
  have F21 := c.at_ 13 (d := d21)
  have B21 : L2.Binds K _ ["one", "other", "prime"] [] := F21.binds fun _ _ _ _ _ _ us hl => match us, hl with | [_, _, _], _ => rfl
  have F22 := c.at_ 14 (d := d22)
  have B22 : L2.Binds K _ ["pack", "prime"] [] := F22.binds fun _ _ _ _ _ _ us hl => match us, hl with | [_, _], _ => rfl
  have F23 := c.at_ 15 (d := d23)
  have B23 : L2.Binds K _ ["one", "times", "prime"] [] := F23.binds fun _ _ _ _ _ _ us hl => match us, hl with | [_, _, _], _ => rfl
  have F26_0 := c.at_ 16 (d := d26_0)
  have B26_0 : L2.Binds K _ ["self", "prime", "wide", "terms"] [] := F26_0.binds fun _ _ _ _ _ _ us hl => match us, hl with | [_, _, _, _], _ => rfl
  have F26_1 := c.at_ 17 (d := d26_1)
  have B26_1 : L2.Binds K _ ["self"] [] := F26_1.binds fun _ _ _ _ _ _ us hl => match us, hl with | [_], _ => rfl
  have F26_2 := c.at_ 18 (d := d26_2)
  have B26_2 : L2.Binds K _ ["self", "other"] [] := F26_2.binds fun _ _ _ _ _ _ us hl => match us, hl with | [_, _], _ => rfl
  have F27 := c.at_ 19 (d := d27)
  have B27 : L2.Binds K _ ["row", "number", "wide"] [] := F27.binds fun _ _ _ _ _ _ us hl => match us, hl with | [_, _, _], _ => rfl
  have F28 := c.at_ 20 (d := d28)
  have B28 : L2.Binds K _ ["thing"] [] := F28.binds fun _ _ _ _ _ _ us hl => match us, hl with | [_], _ => rfl
  have F29 := c.at_ 21 (d := d29)
  have B29 : L2.Binds K _ ["one", "other"] [] := F29.binds fun _ _ _ _ _ _ us hl => match us, hl with | [_, _], _ => rfl
  have F30 := c.at_ 22 (d := d30)
  have B30 : L2.Binds K _ ["prime", "wide", "pack"] [] := F30.binds fun _ _ _ _ _ _ us hl => match us, hl with | [_, _, _], _ => rfl
  have F31 := c.at_ 23 (d := d31)
  have B31 : L2.Binds K _ ["prime", "wide", "spot"] [] := F31.binds fun _ _ _ _ _ _ us hl => match us, hl with | [_, _, _], _ => rfl
  have F32 := c.at_ 24 (d := d32)
  have B32 : L2.Binds K _ ["prime", "wide", "number"] [] := F32.binds fun _ _ _ _ _ _ us hl => match us, hl with | [_, _, _], _ => rfl
  have F33 := c.at_ 25 (d := d33)
  have B33 : L2.Binds K _ ["one", "other"] [] := F33.binds fun _ _ _ _ _ _ us hl => match us, hl with | [_, _], _ => rfl
  have F34 := c.at_ 26 (d := d34)
  have B34 : L2.Binds K _ ["one", "other"] [] := F34.binds fun _ _ _ _ _ _ us hl => match us, hl with | [_, _], _ => rfl
  have F35 := c.at_ 27 (d := d35)
  have B35 : L2.Binds K _ ["one", "number"] [] := F35.binds fun _ _ _ _ _ _ us hl => match us, hl with | [_, _], _ => rfl
  have F36 := c.at_ 28 (d := d36)
  have B36 : L2.Binds K _ ["one", "times"] [] := F36.binds fun _ _ _ _ _ _ us hl => match us, hl with | [_, _], _ => rfl
  have F38 := c.at_ 29 (d := d38)
  have B38 : L2.Binds K _ ["script"] [] := F38.binds fun _ _ _ _ _ _ us hl => match us, hl with | [_], _ => rfl
  have F39 := c.at_ 30 (d := d39)
  have B39 : L2.Binds K _ ["draw"] [] := F39.binds fun _ _ _ _ _ _ us hl => match us, hl with | [_], _ => rfl
  have F40 := c.at_ 31 (d := d40)
  have B40 : L2.Binds K _ ["draw", "amount"] [] := F40.binds fun _ _ _ _ _ _ us hl => match us, hl with | [_, _], _ => rfl
  have F41 := c.at_ 32 (d := d41)
  have B41 : L2.Binds K _ ["draw", "some"] [] := F41.binds fun _ _ _ _ _ _ us hl => match us, hl with | [_, _], _ => rfl
  have F42 := c.at_ 33 (d := d42)
  have B42 : L2.Binds K _ ["draw"] [] := F42.binds fun _ _ _ _ _ _ us hl => match us, hl with | [_], _ => rfl
  have F43 := c.at_ 34 (d := d43)
  have B43 : L2.Binds K _ ["wide_here", "total"] [] := F43.binds fun _ _ _ _ _ _ us hl => match us, hl with | [_, _], _ => rfl
  have F44 := c.at_ 35 (d := d44)
  have B44 : L2.Binds K _ ["field", "terms_here"] [] := F44.binds fun _ _ _ _ _ _ us hl => match us, hl with | [_, _], _ => rfl
  have F45 := c.at_ 36 (d := d45)
  have B45 : L2.Binds K _ ["field", "one", "two", "many_here"] [] := F45.binds fun _ _ _ _ _ _ us hl => match us, hl with | [_, _, _, _], _ => rfl
  have F46 := c.at_ 37 (d := d46)
  have B46 : L2.Binds K _ ["field", "one", "two"] [] := F46.binds fun _ _ _ _ _ _ us hl => match us, hl with | [_, _, _], _ => rfl
  have F47 := c.at_ 38 (d := d47)
  have B47 : L2.Binds K _ ["thing", "field", "wide_here", "terms_here"] [] := F47.binds fun _ _ _ _ _ _ us hl => match us, hl with | [_, _, _, _], _ => rfl
  have F48 := c.at_ 39 (d := d48)
  have B48 : L2.Binds K _ ["work"] [] := F48.binds fun _ _ _ _ _ _ us hl => match us, hl with | [_], _ => rfl
  have F49 := c.at_ 40 (d := d49)
  have B49 : L2.Binds K _ ["draw", "field", "wide_here"] [] := F49.binds fun _ _ _ _ _ _ us hl => match us, hl with | [_, _, _], _ => rfl
  have F50 := c.at_ 41 (d := d50)
  have B50 : L2.Binds K _ ["terms_here"] [] := F50.binds fun _ _ _ _ _ _ us hl => match us, hl with | [_], _ => rfl
  have F51 := c.at_ 42 (d := d51)
  have B51 : L2.Binds K _ ["field", "wide_here", "raw"] [] := F51.binds fun _ _ _ _ _ _ us hl => match us, hl with | [_, _, _], _ => rfl
  have F52 := c.at_ 43 (d := d52)
  have B52 : L2.Binds K _ ["draw", "field", "wide_here", "one", "two"] [] := F52.binds fun _ _ _ _ _ _ us hl => match us, hl with | [_, _, _, _, _], _ => rfl
  have F53 := c.at_ 44 (d := d53)
  have B53 : L2.Binds K _ ["draw", "field", "wide_here"] [] := F53.binds fun _ _ _ _ _ _ us hl => match us, hl with | [_, _, _], _ => rfl
  have F54 := c.at_ 45 (d := d54)
  have B54 : L2.Binds K _ ["work"] [] := F54.binds fun _ _ _ _ _ _ us hl => match us, hl with | [_], _ => rfl
  have F55 := c.at_ 46 (d := d55)
  have B55 : L2.Binds K _ ["draw", "field", "wide_here", "one"] [] := F55.binds fun _ _ _ _ _ _ us hl => match us, hl with | [_, _, _, _], _ => rfl
  have F56 := c.at_ 47 (d := d56)
  have B56 : L2.Binds K _ ["script"] [] := F56.binds fun _ _ _ _ _ _ us hl => match us, hl with | [_], _ => rfl
  obtain ⟨i1, i2⟩ := cin "TooMany" (by simp)
  obtain ⟨i3, i4⟩ := cin "BadNumber" (by simp)
  have mk_ := HX.mkB_ok cmk
  have pr_ := HX.propB_ok cpr
  refine ⟨[(HX.codeAt K (He.ga K "_law_bounds_right"), He.tabOf K (HX.codeAt K (He.ga K "_law_bounds_right"))), (HX.codeAt K (He.ga K "_law_refused"), He.tabOf K (HX.codeAt K (He.ga K "_law_refused")))], ?_, ?_, ?_, ?_⟩
  · intro p hp
    rcases List.mem_cons.mp hp with rfl | hp
    · exact c.hd _ (List.mem_of_getElem? (l := tfL) (i := 0) rfl)
    · rw [List.mem_singleton.mp hp]
      exact c.hd _ (List.mem_of_getElem? (l := tfL) (i := 1) rfl)
  · intro p hp
    rcases List.mem_cons.mp hp with rfl | hp
    · exact c.out _ (List.mem_of_getElem? (l := tfL) (i := 0) rfl)
    · rw [List.mem_singleton.mp hp]
      exact c.out _ (List.mem_of_getElem? (l := tfL) (i := 1) rfl)
  · intro p hp
    rcases List.mem_cons.mp hp with rfl | hp
    · exact c.emp _ (List.mem_of_getElem? (l := tfL) (i := 0) rfl)
    · rw [List.mem_singleton.mp hp]
      exact c.emp _ (List.mem_of_getElem? (l := tfL) (i := 1) rfl)
  intro base s H a ns _ _ hTB hTb e0 hS hn _
  -- the program
  have G8 := ok_isnum (P := P) (w := w) (base := base) F8 T
  have G9 := ok_within F9 G8 F8.kp B8 g_is_number
  have G10 := ok_islist (P := P) (w := w) (base := base) F10 T
  have G11 := ok_arenum F11 T G8 F8.kp B8 g_is_number G10 F10.kp B10 g_is_list
  have G12 := ok_isprime F12 T G8 F8.kp B8 g_is_number
  have G13 := ok_checkprime F13 T erP.o.tyC G12 F12.kp B12 g_is_prime
  have G16 := ok_packrow (P := P) (w := w) (mg := mg) (base := base) F16
  have G17 := ok_unpack (P := P) (w := w) (base := base) F17 T
  have G18 := ok_packof F18 G16 F16.kp B16 g_pack_row
  have G19 := ok_termsof F19 G17 F17.kp B17 g_unpack_row
  have G22 := ok_withoutz (P := P) (w := w) (mg := mg) (base := base) F22
  have G20 := ok_packsum F20 G22 F22.kp B22 g_without_zeros
  have G21 := ok_packprod F21 T G22 F22.kp B22 g_without_zeros
  have G23 := ok_packpow F23 T G21 F21.kp B21 g_pack_product
  have G27 := ok_isterm F27 T G8 F8.kp B8 g_is_number G11 F11.kp B11 g_are_numbers
  have GM := ok_tm (P := P) (w := w) (mg := mg) (base := base) F5_0 erM.o (HX.atB_ok cM)
  have GN := ok_bn (P := P) (w := w) (base := base) F2_0 XN
  have GI := ok_init F26_0 T Y G13 F13.kp B13 g_check_prime G9 F9.kp B9 g_is_within G27 F27.kp B27 g_is_term GM B5_0 (HX.atB_ok i1) i2
  have GT := ok_terms (P := P) (w := w) (base := base) F26_1 Y
  have GE := ok_polyeq (P := P) (w := w) (base := base) F26_2 T Y
  have G28 := ok_checkpoly (P := P) (w := w) (base := base) F28 T Y
  have G29 := ok_checkpair F29 T Y G28 F28.kp B28 g_check_poly
  have G30 := ok_ofpack F30 Y mk_ GI B26_0 G19 F19.kp B19 g_terms_of
  have G31 := ok_letter F31 T Y XN mk_ G13 F13.kp B13 g_check_prime G9 F9.kp B9 g_is_within GI B26_0 GN B2_0 (HX.atB_ok i3) i4
  have G32 := ok_const F32 Y XN mk_ G13 F13.kp B13 g_check_prime G9 F9.kp B9 g_is_within G8 F8.kp B8 g_is_number GI B26_0 GN B2_0 (HX.atB_ok i3) i4
  have G33 := ok_polysum F33 Y G29 F29.kp B29 g_check_pair G20 F20.kp B20 g_pack_sum G18 F18.kp B18 g_pack_of G30 F30.kp B30 g_poly_of_pack GT pr_ B26_1
  have G34 := ok_polyprod F34 Y G29 F29.kp B29 g_check_pair G21 F21.kp B21 g_pack_product G18 F18.kp B18 g_pack_of G30 F30.kp B30 g_poly_of_pack GT pr_ B26_1 GM B5_0 (HX.atB_ok i1) i2
  have G35 := ok_polyscaled F35 Y XN mk_ G28 F28.kp B28 g_check_poly G8 F8.kp B8 g_is_number GI B26_0 GT pr_ B26_1 GN B2_0 (HX.atB_ok i3) i4
  have G36 := ok_polypow F36 Y XN G28 F28.kp B28 g_check_poly G9 F9.kp B9 g_is_within G23 F23.kp B23 g_pack_power G18 F18.kp B18 g_pack_of G30 F30.kp B30 g_poly_of_pack GT pr_ B26_1 GM B5_0 (HX.atB_ok i1) i2 GN B2_0 (HX.atB_ok i3) i4
  -- the law
  have G38 := ok_begun (P := P) (w := w) (base := base) F38 TB
  have G40 := ok_take (P := P) (w := w) (base := base) F40 TB F39 B39 g__law_mixed
  have G41 := ok_pick F41 TB G40 F40.kp B40 g__law_take
  have G42 := ok_field F42 G41 F41.kp B41 g__law_pick
  have G43 := ok_rows (P := P) (w := w) (base := base) F43 T B43 g__law_rows
  have G44 := ok_tidied (P := P) (w := w) (base := base) F44 T
  have G45 := fun n (n1 : 1 ≤ n) (n5 : n < 5) => ok_added n1 n5 F45 z_dict G44 F44.kp B44 g__law_tidied
  have G46 := ok_multd F46 T G44 F44.kp B44 g__law_tidied
  have G47 := ok_ispoly F47 T Y GT pr_ B26_1 G44 F44.kp B44 g__law_tidied
  have G49 := ok_raw F49 T G40 F40.kp B40 g__law_take G41 F41.kp B41 g__law_pick G43 F43.kp B43 g__law_rows
  have G50 := ok_degree (P := P) (w := w) (base := base) F50 T
  have I : PMake P w K mg base (He.ga K "BadPrime") (He.ga K "Poly") (He.ga K "BadPoly") (He.ga K "TooMany") _ _ := ⟨mk_, GI, B26_0, kbI F26_0⟩
  have PT : PTm P w K mg base (He.ga K "Poly") _ _ _ := ⟨GT, pr_, B26_1⟩
  have PE_ : PEq P w K mg base (He.ga K "Poly") _ _ := ⟨GE, B26_2, HX.atB_ok ceq, cfn, HX.atB_ok cne, cn1, cn2⟩
  have D44 : Def P w K mg base CX0 1 "_law_tidied" ["field", "terms_here"] spTid _ _ := ⟨imp_tid G44, F44.kp, B44, g__law_tidied⟩
  have D47 : DefG P w K mg base 3 "_law_is_poly" ["thing", "field", "wide_here", "terms_here"] (spIsPoly (He.ga K "Poly")) _ _ := ⟨G47, F47.kp, B47, g__law_is_poly⟩
  have D40 : Def P w K mg base CX0 2 "_law_take" ["draw", "amount"] spTake _ _ := ⟨G40, F40.kp, B40, g__law_take⟩
  have D41 : Def P w K mg base CX0 3 "_law_pick" ["draw", "some"] (spPick K) _ _ := ⟨G41, F41.kp, B41, g__law_pick⟩
  have G51 := ok_attr F51 Y I PT PE_ D47 D44 ⟨G50, F50.kp, B50, g__law_degree⟩
  have G52 := ok_sums F52 T Y I D47 (fun n n1 n5 => ⟨G45 n n1 n5, F45.kp, B45, g__law_added⟩) ⟨G46, F46.kp, B46, g__law_multiplied⟩ D40
    ⟨G33, F33.kp, B33, kb33 F33, g_poly_sum⟩ ⟨G34, F34.kp, B34, kb34 F34, g_poly_product⟩ ⟨G35, F35.kp, B35, kb35 F35, g_poly_scaled⟩ ⟨G36, F36.kp, B36, kb36 F36, g_poly_power⟩ ⟨G31, F31.kp, B31, g_letter⟩ ⟨G32, F32.kp, B32, kb32 F32, g_constant⟩
  have tb1 := hTB _ (List.mem_cons_self)
  have tb2 := hTB _ (List.mem_cons_of_mem _ (List.mem_singleton.mpr rfl))
  have hb1 := hTb _ (List.mem_cons_self)
  have hb2 := hTb _ (List.mem_cons_of_mem _ (List.mem_singleton.mpr rfl))
  have ex1 : ∀ x : String, x ∈ ["BadPrime", "BadPoly", "BadNumber", "TooMany"] → PySem.W.exmOne K (.ref (He.ga K x)) (.ref (He.ga K "SwayError")) = some true ∧ PySem.W.kitOne K (.ref (He.ga K x)) (.ref (He.ga K x)) = some true := fun x hx => ⟨(cex x hx).1, of_decide_eq_true (cex x hx).2⟩
  have xP := ex1 "BadPrime" (by simp)
  have xB := ex1 "BadPoly" (by simp)
  have xN := ex1 "BadNumber" (by simp)
  have xM := ex1 "TooMany" (by simp)
  have G53 := ok_bounds (T := [(He.tabOf K (HX.codeAt K (He.ga K "_law_bounds_right")), qL53), (He.tabOf K (HX.codeAt K (He.ga K "_law_refused")), qL55)]) F53 (c.code 44 (d := d53)) tb1 (List.mem_cons_self) (fun q hq e => by
      rcases List.mem_cons.mp hq with rfl | hq
      · rfl
      · rw [List.mem_singleton.mp hq] at e
        exact absurd e.symm cT) T Y I g_SwayError ⟨xM.1, erM.x, HX.atB_ok cM, erM.e, xM.2⟩ D40 D41 ⟨G34, F34.kp, B34, g_poly_product⟩ ⟨G36, F36.kp, B36, g_poly_power⟩ ⟨G31, F31.kp, B31, g_letter⟩ F48 F48.kp B48 g__law_caught
  have Wd : Words K (He.ga K "SwayError") (He.ga K "BadNumber") (He.ga K "BadPoly") (He.ga K "BadPrime") := ⟨⟨xN.1, erN.x, HX.atB_ok cN, erN.e, xN.2⟩, xB.1, xP.1, erB.e, erP.e, of_decide_eq_true c1, xB.2, of_decide_eq_true c2, of_decide_eq_true c3, xP.2⟩
  have G55 := ok_refused (T := [(He.tabOf K (HX.codeAt K (He.ga K "_law_bounds_right")), qL53), (He.tabOf K (HX.codeAt K (He.ga K "_law_refused")), qL55)]) F55 (c.code 46 (d := d55)) tb2 (List.mem_cons_of_mem _ (List.mem_singleton.mpr rfl)) (fun q hq e => by
      rcases List.mem_cons.mp hq with rfl | hq
      · exact absurd e cT
      · rw [List.mem_singleton.mp hq]) T Y I g_SwayError Wd g_BadNumber g_BadPrime D41 ⟨G33, F33.kp, B33, g_poly_sum⟩ ⟨G34, F34.kp, B34, g_poly_product⟩ ⟨G35, F35.kp, B35, g_poly_scaled⟩ ⟨G36, F36.kp, B36, g_poly_power⟩ ⟨G31, F31.kp, B31, g_letter⟩ ⟨G32, F32.kp, B32, g_constant⟩
      F48 F48.kp B48 g__law_caught F54 F54.kp B54 g__law_word_of
  have GL := ok_law F56 T ⟨G38, F38.kp, B38, g__law_begun⟩ ⟨G42, F42.kp, B42, g__law_field⟩ D40 ⟨G49, F49.kp, B49, g__law_raw_terms⟩ D44 ⟨G51, F51.kp, B51, g__law_attributes_right⟩ ⟨G52, F52.kp, B52, g__law_sums_right⟩ ⟨G53, F53.kp, B53, g__law_bounds_right⟩ ⟨G55, F55.kp, B55, g__law_refused⟩
  refine GL.run callerA [] s H ⟨[.ref a], []⟩ [.ref a] [.ref a] _ rfl ⟨rfl, by decide, by decide⟩ e0 (BindsTo.of_eq (bindRow F56 a)) (.cons rfl .nil) ⟨a, ns, rfl, hS, hn, fun p hp => ?_, fun _ => rfl⟩
  rcases List.mem_cons.mp hp with rfl | hp
  · exact TabS.nil hb1
  · rw [List.mem_singleton.mp hp]
    exact TabS.nil hb2
end P2
end

open PySem PySem.W PySem.Calls PyProof.Rows
set_option maxRecDepth 100000 in
set_option maxHeartbeats 0 in
theorem PySem.Challenge.cw_unswayed_k02_polynomials_put_together_holds : PySem.Challenge.rw_unswayed_k02_polynomials_put_together.Holds := by
  w_on; o_law
  refine HandSHeadRun.head_any (r := OpenLaw.row PySem.Challenge.rw_unswayed_k02_polynomials_put_together) (q := view (OpenLaw.row PySem.Challenge.rw_unswayed_k02_polynomials_put_together).prog [56]) (H := P2.hkL) (ob := P2.obL) (M := 3000) (loose := P2.namesL)
    (d := HandSHeadRun.topDef (OpenLaw.row PySem.Challenge.rw_unswayed_k02_polynomials_put_together).prog 56) (kwd := []) P2.obL_eq (by kernel_rfl) (fun s => by kernel_rfl) P2.runL (by kernel_rfl) (by kernel_rfl) (by kernel_rfl) (by rfl) (by first | assumption | decide +kernel) (by decide +kernel) ⟨rfl, rfl, rfl, rfl, rfl, by decide +kernel⟩ ?hw ?hc
  case hw => w_witness2
  case hc =>
    refine HE.walk_end (l := PySem.Challenge.rw_unswayed_k02_polynomials_put_together) (n := 63) rfl (by decide) (by kernel_rfl) ?F
    intro w mg fa h Y G hmg0
    obtain ⟨K, KX, c⟩ := Y
    have hmg : mg ("law" : PySem.Str) = some (.ref fa) := by
      have e : (HandSHeadRun.topDef (OpenLaw.row PySem.Challenge.rw_unswayed_k02_polynomials_put_together).prog 56).name = ("law" : PySem.Str) := by kernel_rfl
      rw [← e]
      exact hmg0
    obtain ⟨cs, h1, h2, h3, h4⟩ := P2.law_all (P := (PySem.Challenge.rw_unswayed_k02_polynomials_put_together).prog) (w := w) KX G hmg c
    exact ⟨K, cs, KX, h1, h2, h3, h4⟩
#print axioms PySem.Challenge.cw_unswayed_k02_polynomials_put_together_holds
