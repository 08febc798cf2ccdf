import PyProof.Rows.All
import Wide.All
import OpenK.AllK
import Wide.FinOn
import HandS.Lambda
import HandS.ExcField
import HandS.ForExc
import HandS.ExcOwn
import HandS.IsInst
import KE.KExcIs
import HandS.ExcIs
import HandS.Comp
import HandS.Dict
import HandS.DictComp
import HandS.Iter
import HandS.DictTup
import KE.KSortTupG
import HandS.Conv
import HandS.More
import KE.KEqDict
import PyProof.DictFindH
import PyProof.ReprRoads
import HandS.Words
import HandS.WordsList
import HandS.WordsDict
import HandS.ForMost
import HandS.Wide
import HandS.Flow
import HandS.Style
import HandS.Evl
import HandS.AnyAll
import HandS.Walk
import HandS.WideBits
import HandS.ListItems
import HandS.SortKw
import KE.DataMinMax
import PyProof.SumWalkG
import PyProof.WalksMore
import HandS.TupMul
import PyProof.Rows.TupDisplay
import KE.KDictOf
import KE.KDictCopyH
import HandS.ExcInit
import HandS.EndBits
import HandS.WordsExc
import HandS.Defaults
import KE.KStateDown
import HandS.HeadHook4
import HandS.HeadWalk
import HandS.NestedK
import HandS.Head2
import HandS.Property
import HandS.Codes
import HandS.OwnEq
import HandS.ReplaceLit
import PyProof.NeKinds
import PyProof.StrBlock2
import HandS.Zip
import KE.GoesMore
import HandS.Steps
import HandS.FStr
import HandS.Deep
import HandS.SlotsOwn
import PyProof.InstNe
import PyProof.ReprLen
import HandS.MakeKwOnly
import HandS.MakeKw
import HandS.SetKeys
import HandS.TupAny
import PyProof.StrLawsJoin
import HandS.Struct
import KE.KMathGC
import HandS.TupLe
import HandS.ReplaceList
import PySem.Challenge.RW_unswayed_k97_texts_of_deeds
set_option Elab.async false
set_option linter.all false
/-! The law of texts of deeds, proved for the code at 9fbaef3. -/
section
set_option maxRecDepth 100000
set_option maxHeartbeats 4000000
/-! Closures as tracked values: their cells, their object, their run. -/
namespace ClX
open PySem PySem.Spec PyProof.Rows L2 LamX
/-- cells with what they hold, untracked -/
def CellsV (L : List (Addr × V)) (h : Heap) (H : Hp) : Prop := ∀ p ∈ L, (∃ u, RelV p.2 u ∧ h.IsCell p.1 (some u)) ∧ H p.1 = none
theorem CellsV.un {L : List (Addr × V)} {fs ex : List Addr} {H H' : Hp} {h h' : Heap} (c : CellsV L h H) (u : Un fs ex H H' h h') (hx : ∀ p ∈ L, p.1 ∉ ex) : CellsV L h' H' := fun p hp => by
  obtain ⟨⟨v, r, o, ho, hd⟩, hn⟩ := c p hp
  obtain ⟨sl, q⟩ := u.any ho hn (hx p hp)
  exact ⟨⟨v, r, _, q, hd⟩, u.free _ _ ho hn (hx p hp)⟩
theorem CellsV.kept {L : List (Addr × V)} {H : Hp} {h h' : Heap} (c : CellsV L h H) (k : ∀ b o, h.get? b = some o → h'.get? b = some o) : CellsV L h' H := fun p hp => by
  obtain ⟨⟨v, r, o, ho, hd⟩, hn⟩ := c p hp
  exact ⟨⟨v, r, o, k _ _ ho, hd⟩, hn⟩
/-- known at a def's entry, known while it runs -/
theorem CellsV.inv {L : List (Addr × V)} {X : Cx} {pins : List (Addr × Obj)} {σ : L2.St} {H : Hp} {s : Shared} (c : CellsV L X.s_0.heap X.H_0) (I : Inv X pins σ H s) (hx : ∀ p ∈ L, p.1 ∉ X.ex) : CellsV L s.heap H := c.un I.base hx
/-- a frame's own (or captured) cells -/
def Caps (X : Cx) (σ : L2.St) (L : List (Addr × V)) : Prop := ∀ p ∈ L, ∃ (i : Nat) (x : Str), X.N[i]? = some x ∧ σ[i]? = some (some p.2) ∧ (X.env.scope.names.lookup x = some .cell ∨ X.env.scope.names.lookup x = some .free) ∧ X.env.cells.lookup x = some p.1
theorem Caps.cells {L : List (Addr × V)} {X : Cx} {pins : List (Addr × Obj)} {σ : L2.St} {H : Hp} {s : Shared} (c : Caps X σ L) (I : Inv X pins σ H s) : CellsV L s.heap H := fun p hp => by
  obtain ⟨i, x, h1, h2, h3, h4⟩ := c p hp
  obtain ⟨m, hn, hl⟩ := I.loc
  obtain ⟨u, r, l⟩ := hl i x _ h1 h2 (.inr h3)
  refine ⟨⟨u, r, ?_⟩, I.freeC x _ h4⟩
  rcases l with ⟨k, _⟩ | ⟨_, c', e, z⟩
  · have k' : X.env.scope.names.lookup x = some .local := k
    rcases h3 with q | q <;> rw [q] at k' <;> cases k'
  · rw [h4] at e
    cases e
    exact z
/-- the function object of a lambda at f -/
def LamO (q : Str) (params : Arguments) (body : Expr) (scope : Scope) (cl : List (Str × Addr)) (c' f : Addr) : HO := .ext fun h => ∃ pm ctv : Value, h.get? f = some (PySem.W.kla_obj "<lambda>" q params body scope cl pm c' ctv)
theorem lamO_ok {P : Program} {w : World} {H : Hp} {h : Heap} {q : Str} {params : Arguments} {body : Expr} {scope : Scope} {cl : List (Str × Addr)} {c' f : Addr} {pm ctv : Value} (e : h.get? f = some (PySem.W.kla_obj "<lambda>" q params body scope cl pm c' ctv)) :
    ObjOk P w H h f (LamO q params body scope cl c' f) := ⟨⟨pm, ctv, e⟩, ⟨_, e⟩, fun _ _ ⟨a, b, z⟩ k => ⟨a, b, k _ z⟩⟩
def IsLam (H : Hp) (f : Addr) : Prop := ∃ q params body scope cl c', H f = some (LamO q params body scope cl c' f)
theorem isLam_at {P : Program} {w : World} {H : Hp} {h : Heap} {f : Addr} (ok : HOk P w H h) (x : IsLam H f) : ∃ q params body scope cl pm c' ctv, h.get? f = some (PySem.W.kla_obj "<lambda>" q params body scope cl pm c' ctv) := by
  obtain ⟨q, params, body, scope, cl, c', e⟩ := x
  obtain ⟨⟨pm, ctv, z⟩, _, _⟩ := ok f _ e
  exact ⟨q, params, body, scope, cl, pm, c', ctv, z⟩
/-! ### the making -/
section
variable {X : Cx} {pins : List (Addr × Obj)} {σ : L2.St} {H : Hp} {s : Shared}
theorem table_grows {T : List (Addr × Str)} {P c : Addr} {q : Str} {ps : Array Value} {pos : Pos} (hT : Tabs T H) (hu : ∀ p ∈ T, p.1 = P → p.2 = q) (hP : H P = some (.tbl ps)) (ht : TriplesOk ps.toList)
    (ha : ∀ (pos : Pos) (cv : Value), codeAmong pos ps.toList = some cv → ∃ c, cv = .ref c ∧ H c = some (CodeO c q)) (nC : H c = none) :
    ExtN H (upd (upd H P (.tbl (ps ++ #[rawInt pos.line, rawInt pos.col, .ref c]))) c (CodeO c q)) ∧ Tabs T (upd (upd H P (.tbl (ps ++ #[rawInt pos.line, rawInt pos.col, .ref c]))) c (CodeO c q)) := by
  have hE : ExtN H (upd (upd H P (.tbl (ps ++ #[rawInt pos.line, rawInt pos.col, .ref c]))) c (CodeO c q)) := fun b o e n => by
    have e1 : b ≠ P := fun z => n ps (Option.some.inj (e.symm.trans (z ▸ hP)))
    rw [upd_ne (ne_of_none e nC), upd_ne e1]
    exact e
  have eL : (ps ++ #[rawInt pos.line, rawInt pos.col, .ref c]).toList = ps.toList ++ [rawInt pos.line, rawInt pos.col, .ref c] := by simp
  refine ⟨hE, fun p hp => ?_⟩
  by_cases hb : p.1 = P
  · have q2 := hu p hp hb
    rw [hb, q2]
    refine ⟨ps ++ #[rawInt pos.line, rawInt pos.col, .ref c], by rw [upd_ne (ne_of_none hP nC), upd_same], by rw [eL]; exact PySem.TriplesOk_snoc _ _ _ _ ht, fun p' cv hcv => ?_⟩
    rw [eL] at hcv
    rcases among_app _ ht hcv with z | z
    · obtain ⟨c0, e1, e2⟩ := ha p' cv z
      exact ⟨c0, e1, hE _ _ e2 codeO_ne⟩
    · exact ⟨c, z, upd_same⟩
  · obtain ⟨ps', a1, a2, a3⟩ := hT p hp
    refine ⟨ps', by rw [upd_ne (ne_of_none a1 nC), upd_ne hb]; exact a1, a2, fun p' cv hcv => ?_⟩
    obtain ⟨c0, e1, e2⟩ := a3 p' cv hcv
    exact ⟨c0, e1, hE _ _ e2 codeO_ne⟩
/-- what the making of a lambda tells: H1 is the heap with the code object, f the new function -/
def tLam (T : List (Addr × Str)) (q : Str) (mk : Addr → Addr → HO) : TE := fun _ H Q => Tabs T H ∧ ∀ (f c' : Addr) (H1 : Hp), ExtN H H1 → Tabs T H1 → H1 c' = some (CodeO c' q) → H1 f = none → Q (.ref f) (upd H1 f (mk c' f))
theorem pe_lam {T : List (Addr × Str)} {c P : Addr} {params : Arguments} {body : Expr} {scope : Scope} {pos : Pos} (TB : TabB X.base X.mg c P) (hcode : X.env.code = .ref c) (hm : (P, X.env.qual ++ "<lambda>") ∈ T) (hu : ∀ p ∈ T, p.1 = P → p.2 = X.env.qual ++ "<lambda>")
    (hdef : defaultsOf params X.env = ([], [])) (L : LamS X.env.scope scope) :
    PE X (.Lambda params body scope pos) (tLam T (X.env.qual ++ "<lambda>") fun c' f => LamO (X.env.qual ++ "<lambda>") params body scope (cloFrom X.env.cells scope.names []) c' f) := by
  refine ⟨fun pins s σ H Q I h => ?_⟩
  obtain ⟨hT, h⟩ := h
  obtain ⟨ps, hP, ht, ha⟩ := hT _ hm
  have hP' : s.heap.get? P = some { cls := .none, data := .fields ps } := I.hok P _ hP
  have bP := TB.bm.keeps I.bk
  refine PySem.W.kla_eval hdef ?_
  cases hc : codeAmong pos ps.toList with
  | some cv =>
    obtain ⟨c', e, hco⟩ := ha pos cv hc
    subst e
    refine PySem.W.kla_makeFunctionHit (mg := X.mg) (c := c) (P := P) (ps := ps) (closure_ok (L.has I.ok)) I.ok.glob (I.mod.glob.keeps I.bk) hcode (TB.code.keeps I.bk) hP' ht hc bP fun ctv h' tk hx hsz => ?_
    refine ⟨.ref h'.objs.size, _, I.laid (fun b o e => Heap.get?_push_of_some _ (hx b o e)) hsz (lamO_ok (Heap.get?_push_size _ rfl)), rfl, h _ c' H (ExtN.refl H) hT hco (I.hok.fresh hsz)⟩
  | none =>
    refine PySem.W.kla_makeFunction (mg := X.mg) (c := c) (P := P) (ps := ps) (closure_ok (L.has I.ok)) I.ok.glob (I.mod.glob.keeps I.bk) hcode (TB.code.keeps I.bk) hP' ht hc TB.gP bP fun c' ctv h' tk hx hge hlt hrec htb => ?_
    obtain ⟨c2, oc, vs, t, e2, hoc, hd, hv⟩ := hrec
    cases e2
    have nC : H c' = none := I.hok.fresh hge
    obtain ⟨hE, hT2⟩ := table_grows (pos := pos) hT hu hP ht ha nC
    have I1 := inv_table (t' := tk) (more := #[rawInt pos.line, rawInt pos.col, .ref c']) (h' := h') I hP (fun b o hb e => hx b o hb e) htb hge ⟨oc, vs, t, hoc, hd, hv⟩
    have I2 := I1.laid (a := h'.objs.size) (t' := tk) (o := LamO (X.env.qual ++ "<lambda>") params body scope (cloFrom X.env.cells scope.names []) c' h'.objs.size)
      (h' := h'.push (PySem.W.kla_obj "<lambda>" (X.env.qual ++ "<lambda>") params body scope (cloFrom X.env.cells scope.names []) ((X.mg "__name__").getD .none) c' ctv)) (fun b o e => Heap.get?_push_of_some _ e) (Nat.le_refl _) (lamO_ok (Heap.get?_push_size _ rfl))
    exact ⟨.ref h'.objs.size, _, I2, rfl, h _ c' _ hE hT2 upd_same (I1.hok.fresh (Nat.le_refl _))⟩
end
/-! ### the run -/
/-- each name that the lambda captures stands in L with the slot's value -/
structure Caught (X : Cx) (scope : Scope) (σ : L2.St) (L : List (Addr × V)) : Prop where
  len : σ.length = X.N.length
  all : ∀ (y : Str) (c : Addr), (y, NameKind.free) ∈ scope.names → X.env.cells.lookup y = some c → ∃ v, (c, v) ∈ L
  val : ∀ (i : Nat) (y : Str) (v : V) (c : Addr), X.N[i]? = some y → σ[i]? = some (some v) → scope.names.lookup y = some .free → X.env.cells.lookup y = some c → (c, v) ∈ L
section
variable {X : Cx} {σ : L2.St} {scope : Scope} {Lc : List (Addr × V)}
theorem lam_inv {A : Around} {outer : List Env} {E : XK} {f c' : Addr} {H : Hp} {s : Shared} {h₁ : Heap} {tk : Nat} (ok : X.Ok) (L : LamS X.env.scope scope) (cg : Caught X scope σ Lc) (e0 : Env0 X.prog X.w X.K X.mg X.base A outer s H) (hd : A.handled = none) (cv : CellsV Lc s.heap H)
    (hns : h₁.Ns s.heap.objs.size fun y => ([] : List (Str × Value)).reverse.lookup y) (kp : ∀ b o, s.heap.get? b = some o → h₁.get? b = some o) :
    Inv (lamCx X A outer s H E scope f c') [] σ H { s with heap := h₁, toks := tk } := by
  have of_cl : ∀ {y c}, (cloFrom X.env.cells scope.names []).lookup y = some c → (y, NameKind.free) ∈ scope.names ∧ X.env.cells.lookup y = some c := fun {y c} e => by
    rcases cloFrom_mem (PySem.mem_of_lookup e) with z | ⟨z1, z2⟩
    · cases z
    · obtain ⟨c1, hc1⟩ := L.has ok _ z1 rfl
      have hc1 : X.env.cells.lookup y = some c1 := hc1
      have ec : c = c1 := by rw [z2, hc1] <;> rfl
      rw [ec]
      exact ⟨z1, hc1⟩
  have to_cl : ∀ {y}, scope.names.lookup y = some .free → ∃ c, (cloFrom X.env.cells scope.names []).lookup y = some c := fun {y} hl => mem_lookup (cloFrom_has (cells := X.env.cells) (acc := []) (PySem.mem_of_lookup hl))
  have cvk : CellsV Lc h₁ H := cv.kept kp
  have no : ∀ {b : Addr}, b ∉ (lamCx X A outer s H E scope f c').ex := fun {b} z => nomatch (show b ∈ ([] : List Addr) from z)
  constructor
  case ok =>
    exact ⟨e0.mod, L.kind, rfl, rfl, Nat.le_refl _, fun y z c e1 e2 => ok.inj y z c (of_cl e1).2 (of_cl e2).2, fun y hy => by
        have hy : scope.names.lookup y = some .cell ∨ scope.names.lookup y = some .free := hy
        rcases hy with q | q
        · exact absurd rfl (L.own _ (PySem.mem_of_lookup q)).2
        · exact to_cl q, fun y c z _ => Bool.noConfusion (show false = true from z), fun _ => hd, Around.frames_deeper e0.frames, .inr ⟨rfl, rfl⟩, fun b z => absurd z no, e0.bs, e0.bsz, fun b _ _ => no, fun b z => absurd z no, e0.funs, e0.frf⟩
  case os => rfl
  case bare => exact e0.bare
  case base => exact Un.kept kp
  case loc =>
    refine ⟨_, hns, fun i y v e1 e2 e3 => ?_⟩
    have e3 : Vis scope y := e3
    have hf : scope.names.lookup y = some .free := by
      rcases e3 with k | k | k
      · exact absurd rfl (L.own _ (PySem.mem_of_lookup k)).1
      · exact absurd rfl (L.own _ (PySem.mem_of_lookup k)).2
      · exact k
    obtain ⟨c, hc⟩ := to_cl hf
    obtain ⟨⟨u, r, z⟩, _⟩ := cvk _ (cg.val i y v c e1 e2 hf (of_cl hc).2)
    exact ⟨u, r, .inr ⟨.inr hf, c, hc, z⟩⟩
  case cell =>
    intro y c e
    obtain ⟨v, hv⟩ := cg.all y c (of_cl e).1 (of_cl e).2
    obtain ⟨⟨u, _, z⟩, _⟩ := cvk _ hv
    exact ⟨_, z⟩
  case free => exact e0.hok.fresh (Nat.le_refl _)
  case freeC =>
    intro y c e
    obtain ⟨v, hv⟩ := cg.all y c (of_cl e).1 (of_cl e).2
    exact (cvk _ hv).2
  case pin => exact fun q hq => nomatch (show q ∈ ([] : List (Addr × Obj)) ++ [] from hq)
  case hok => exact e0.hok.kept kp
  case len => exact cg.len
/-- f() runs as tl tells, from each state where the cells are so -/
def Runs (X : Cx) (k : Nat) (L : List (Addr × V)) (f : Addr) (tl : XK → Hp → VK → Prop) : Prop :=
  ∀ (A : Around) (outer : List Env) (s : Shared) (H : Hp) (Q : VK) (E : XK), Room k A → Env0 X.prog X.w X.K X.mg X.base A outer s H → CellsV L s.heap H → tl E H Q →
    codeAny (model X.prog X.w) A (.call (.ref f) ⟨[], []⟩) (CR (L2.CX X.prog X.w) outer X.prog X.w H s Q E) s
/-- the same program, the same ground -/
structure Like (X Y : Cx) : Prop where
  p : X.prog = Y.prog
  w : X.w = Y.w
  K : X.K = Y.K
  mg : X.mg = Y.mg
  b : X.base = Y.base
theorem Runs.like {X Y : Cx} {k : Nat} {L : List (Addr × V)} {f : Addr} {tl : XK → Hp → VK → Prop} (l : Like X Y) (r : Runs X k L f tl) : Runs Y k L f tl := by
  obtain ⟨h1, h2, h3, h4, h5⟩ := l
  unfold Runs at r ⊢
  rw [← h1, ← h2, ← h3, ← h4, ← h5]
  exact r
/-- a lambda of X's frame, its body by its rule -/
theorem runs_lam {k : Nat} {f c' : Addr} {q : Str} {params : Arguments} {body : Expr} {t : XK → TE} (ok : X.Ok) (L : LamS X.env.scope scope) (cg : Caught X scope σ Lc) (hq : q = X.env.qual ++ "<lambda>")
    (hbind : ∀ (pm cv ctv : Value), bindArgs (PySem.W.kla_fn "<lambda>" q params body scope (cloFrom X.env.cells scope.names []) pm cv ctv) ⟨[], []⟩ = pure [])
    (hbody : ∀ (A : Around) (outer : List Env) (s : Shared) (H : Hp) (E : XK), Room k (A.deeper (lamEnv X scope s.heap.objs.size f c')) → PE (lamCx X A outer s H E scope f c') body (t E)) :
    Runs X (k + 1) Lc f (fun E H Q => H f = some (LamO q params body scope (cloFrom X.env.cells scope.names []) c' f) ∧ H c' = some (CodeO c' q) ∧ t E σ H Q) := by
  subst hq
  intro A outer s H Q E hr e0 cv h
  obtain ⟨h1, h2, ht⟩ := h
  obtain ⟨⟨pm, ctv, hf⟩, _, _⟩ := e0.hok f _ h1
  obtain ⟨⟨oc, vs, tk, hoc, hdc, hvc⟩, _, _⟩ := e0.hok c' _ h2
  have lim : s.heap.NoLimit := e0.mod.nolimit.keeps fun b o e => (e0.bs b o e).1
  refine PySem.W.kla_callFunE hr.depth hf rfl L.co L.gen rfl ⟨c', oc, vs, tk, rfl, hoc, hdc, hvc⟩ ?_
  rw [hbind]
  refine wpAny_pure (wpAny_newFunctionEnv (fun y hy => (L.own y hy).2) (fun y hy => absurd hy (by simp)) (fun h₁ hns hsb => ⟨lim.fresh _ hsb, ?_⟩) L.kind)
  have kp : ∀ b o, s.heap.get? b = some o → h₁.get? b = some o := fun b o e => hsb.extBut b o (Nat.ne_of_lt (Heap.lt_size e)) (Heap.get?_push_of_some _ e)
  have J := lam_inv (E := E) (f := f) (c' := c') (tk := s.toks + ([] : List (Str × Value)).length) ok L cg e0 hr.hd cv hns kp
  refine PySem.W.kla_codeExpr (wpAny_mono ((hbody A outer s H E (hr.deeper _)).run [] _ σ H Q J ht) (fun v s' hv => ?_) fun e s' he => he)
  obtain ⟨w', H', J', rv, q'⟩ := hv
  exact ⟨w', H', J'.os, J'.bare, J'.base, J'.hok, rv, q'⟩
end
theorem cr_mono {P : Program} {w : World} {outer : List Env} {H : Hp} {s s' : Shared} {Q Q' : VK} {E E' : XK} {r : Result} (hQ : ∀ v H', Q v H' → Q' v H') (hE : ∀ c d H', E c d H' → E' c d H') (h : CR (L2.CX P w) outer P w H s Q E r s') : CR (L2.CX P w) outer P w H s Q' E' r s' := by
  cases r with
  | error e =>
    obtain ⟨a, B, H', cls, d, h1, h2, h3, h4, h5, h6, h7, h8⟩ := h
    exact ⟨a, B, H', cls, d, h1, h2, h3, h4, h5, h6, h7, hE _ _ _ h8⟩
  | ok fl =>
    cases fl with
    | ret u =>
      obtain ⟨v, H', h1, h2, h3, h4, h5, h6⟩ := h
      exact ⟨v, H', h1, h2, h3, h4, h5, hQ _ _ h6⟩
    | next => exact h
    | brk => exact h
    | cont => exact h
/-- a(), a the slot i: a closure -/
theorem pe_work {X : Cx} {k i : Nat} {a : Str} {f : Addr} {tl : XK → Hp → VK → Prop} {L : List (Addr × V)} {E : L2.St → XK} {p1 p2 : Pos} (r : Runs X k L f tl) (hr : Room k X.A) (cv : CellsV L X.s_0.heap X.H_0) (hex : X.ex = []) (hx : ∀ σ, PassesAt (L2.CX X.prog X.w) X σ (E σ)) (hN : X.N[i]? = some a) (hv : Vis X.env.scope a)
    (hd : (a == ("__debug__" : Str)) = false := by decide) (hcd : (a == ("__classdict__" : Str)) = false := by decide) :
    PE X (.Call (.Name a p1) [] [] p2) (fun σ H Q => σ[i]? = some (some (.ref f)) ∧ IsLam H f ∧ ∃ (E' : XK) (Q' : VK), tl E' H Q' ∧ (∀ v H', Q' v H' → Q v H') ∧ ∀ c d H', E' c d H' → E σ c d H') := by
  refine ⟨fun pins s σ H Q I h => ?_⟩
  obtain ⟨hs, hl, E', Q', ht, hQ, hE⟩ := h
  refine wpAny_Call_Name_kw (thn ((pe_var (pos := p1) (i := i) hN hv hd hcd).run pins s σ H (fun v H1 => v = .ref f ∧ H1 = H) I ⟨.ref f, hs, rfl, rfl⟩) fun u s1 ⟨v, H1, I1, r1, q1⟩ => ?_)
  obtain ⟨ev, eH⟩ := q1
  subst ev
  rw [eH] at I1
  obtain rfl : u = Value.ref f := r1
  obtain ⟨q, params, body, scope, cl, pm, c', ctv, hf⟩ := isLam_at I1.hok hl
  refine PySem.W.callWith_F0 ⟨_, _, _, _, hf⟩ (wpAny_call (codeAny_mono (r X.A X.stack s1 H Q' E' hr I1.env0 (cv.inv I1 fun p _ z => by rw [hex] at z; cases z) ht) fun rr s' hq => ?_))
  have hq := cr_mono hQ hE hq
  cases rr with
  | error e => exact hx σ pins H s1 e s' I1 hq
  | ok fl =>
    cases fl with
    | ret u => exact I1.after hq
    | next => exact False.elim hq
    | brk => exact False.elim hq
    | cont => exact False.elim hq
end ClX
end

section
set_option maxRecDepth 100000
set_option maxHeartbeats 4000000
/-! A caught exception kept as a value; the run of a def that takes a closure. -/
namespace ClX
open PySem PySem.Spec PyProof.Rows L2 LamX
/-- an exception of the class cls at a, its dict at d; caught once, so with whatever it bears of its flight -/
def CauO (cls : Value) (d : Option Addr) (a : Addr) : HO := .ext fun h => ∃ (oe : Obj) (vs : Array Value), h.get? a = some oe ∧ Zc cls d oe ∧ oe.data = .fields vs
theorem cauO_ok {P : Program} {w : World} {H : Hp} {h : Heap} {a : Addr} {cls : Value} {d : Option Addr} {oe : Obj} {vs : Array Value} (e : h.get? a = some oe) (z : Zc cls d oe) (f : oe.data = .fields vs) : ObjOk P w H h a (CauO cls d a) :=
  ⟨⟨oe, vs, e, z, f⟩, ⟨oe, e⟩, fun _ _ ⟨o, v, q, r⟩ k => ⟨o, v, k o q, r⟩⟩
section
variable {X : Cx} {pins : List (Addr × Obj)} {σ : L2.St} {H : Hp} {s : Shared}
/-- an exception's object that wasn't there at the entry is tracked from now on -/
theorem track_exc {a : Addr} {cls : Value} {d : Option Addr} {oe : Obj} {vs : Array Value} (I : Inv X pins σ H s) (n0 : X.s_0.heap.get? a = none) (hn : H a = none) (e : s.heap.get? a = some oe) (z : Zc cls d oe) (f : oe.data = .fields vs) (nL : a ≠ X.env.locals) (nP : ∀ p ∈ X.pn ++ pins, p.1 ≠ a) :
    Inv X pins σ (upd H a (CauO cls d a)) s := by
  have old : ∀ {b : Addr} {u : HO}, H b = some u → upd H a (CauO cls d a) b = some u := fun {b u} q => by rw [upd_ne (ne_of_none q hn)]; exact q
  refine { ok := I.ok, os := I.os, bare := I.bare, base := ?_, loc := I.loc, cell := I.cell, free := ?_, freeC := fun y c q => ?_, pin := fun p hp => ?_, hok := fun b u q => ?_, len := I.len }
  · refine { keep := I.base.keep, slot := I.base.slot, free := fun b o q n hx => ?_, there := I.base.there, tups := fun b xs q => old (I.base.tups b xs q), frzs := fun b o u q => old (I.base.frzs b o u q), tbls := fun b ps q => ?_ }
    · rw [upd_ne fun r => by rw [r, n0] at q; cases q]
      exact I.base.free b o q n hx
    · obtain ⟨m, q2⟩ := I.base.tbls b ps q
      exact ⟨m, old q2⟩
  · rw [upd_ne (Ne.symm nL)]
    exact I.free
  · have r : c ≠ a := fun r => by
      obtain ⟨v, o, q1, q2⟩ := I.cell y c q
      rw [r, e] at q1
      cases q1
      rw [f] at q2
      cases q2
    rw [upd_ne r]
    exact I.freeC y c q
  · obtain ⟨p1, p2, p3⟩ := I.pin p hp
    exact ⟨p1, by rw [upd_ne (nP p hp)]; exact p2, p3⟩
  · by_cases hb : b = a
    · subst hb
      rw [upd_same] at q
      cases q
      exact cauO_ok e z f
    · rw [upd_ne hb] at q
      exact (I.hok b u q).stay (fun c v _ r => r) (fun c r => old r) fun c xs r => old r
end
/-- try: .. / except x as n: m = n -/
def wCau (K : PySem.W.Frag) (c : Value) (i j : Nat) (D : Ends) : WX := fun cls d σ H =>
  PySem.W.exmOne K cls c = some true ∧ ∀ a, H a = none → D.nx ((σ.set j (some (.ref a))).set i none) (upd H a (CauO cls d a))
section
variable {X : Cx} {x n m : Str} {c : Value} {i j : Nat} {body : List Stmt} {st : Stmt} {np pos pos' : Pos} {tb : WX → TS}
theorem ps_caught (hs : X.stack = X.env :: X.outer) (hf : X.env.frame = some X.env.locals) (hN : X.N.Nodup) (hi : X.N[i]? = some n) (hln : X.env.kindOf n = some .local) (hc : Names X x c) (hij : i < X.N.length) (hex : X.ex = [])
    (hb : ∀ (W : WX) (pn : List (Addr × Obj)) (xe : Value → Shared → Prop), Takes (X.tr pn xe) W → PassesOwn (model X.prog X.w) X.A X.env xe → PSs (X.tr pn xe) body (tb W))
    (hst : ∀ (a : Addr) (q : Addr × Obj) (pn : List (Addr × Obj)), PS (X.suite a (q :: pn)) st (fun D σ H => ∃ v, σ[i]? = some (some v) ∧ D.nx (σ.set j (some v)) H)) :
    PS X (.Try body [.ExceptHandler (some (.Name x np)) (some n) [st] pos'] [] [] pos) (fun D σ H => tb (wCau X.K c i j D) D σ H) := by
  refine ⟨fun pins s σ H D I h => wpAny_Try_except ?_⟩
  have ok := I.ok
  have hfr : X.A.frames = some (X.env :: X.outer) := by rw [ok.frames, hs]
  refine wpAny_mono ((hb (wCau X.K c i j D) (X.pn ++ pins) _ (fun u s' xx => ?_) PassesOwn.looking).run [] s σ H D (I.toTry _) h) (fun f s1 hsp => ?_) (fun e s1 he => he)
  · obtain ⟨a, B, sI, pins', σ', H', cls, d, rfl, J', nb, up, sky, na, os, ag, hm, hD⟩ := xx
    have J : Inv X pins σ' H' sI := J'.ofTry ok
    rw [show (X.tr (X.pn ++ pins) _).stack = X.env :: X.outer from hs] at sky
    show wpAny (model X.prog X.w) X.A (noteFrame (.ref a) X.env) _ _ _
    refine Sky.land Zc.steady hfr hf sky fun h3 fl3 up3 => ?_
    obtain ⟨oe3, vs3, he3, hz3, hd3⟩ := fl3.there
    have nfr : a ∉ frs (X.env :: X.outer) := fun z => by
      obtain ⟨_, o', e', hnf⟩ := fl3.2.2.1.mem z
      rw [he3] at e'
      cases e'
      exact hnf _ hd3
    have nL : a ≠ X.env.locals := fun z => nfr (List.mem_filterMap.mpr ⟨X.env, List.mem_cons_self, by rw [hf, z]⟩)
    have nF : a ∉ X.fs := fun z => by
      obtain ⟨e, e1, e2⟩ := List.mem_filterMap.mp z
      exact nfr (List.mem_filterMap.mpr ⟨e, List.mem_cons_of_mem _ e1, e2⟩)
    -- the object is new
    have nI : sI.heap.get? a = none := by
      cases q : sI.heap.get? a with
      | none => rfl
      | some o =>
        have z := nb a o q (by rw [show (X.tr (X.pn ++ pins) _).stack = X.env :: X.outer from hs]; exact nfr)
        rw [fl3.2.1] at z
        cases z
    have n0 : X.s_0.heap.get? a = none := by
      cases q : X.s_0.heap.get? a with
      | none => rfl
      | some o =>
        obtain ⟨o', z⟩ := J.base.there a o q (by rw [hex]; exact fun r => nomatch r)
        rw [nI] at z
        cases z
    have nP : ∀ p ∈ X.pn ++ pins, p.1 ≠ a := fun p hp z => by
      have q := (J.pin p hp).1
      rw [z, nI] at q
      cases q
    have S3 := (J.landed (s' := { s' with heap := h3 }) nb fl3.1 (up.trans up3) os ag).suite he3 hd3 na nL nF
    have LT : PySem.W.Looks (model X.prog X.w) h3 (typeOf (.ref a)) cls := fun A Q E s k q => wpAny_typeOf_ref (k _ _ he3) (by rw [hz3.1]; exact q)
    have here : ∀ {Q : Value → Shared → Prop} {E : Value → Shared → Prop}, Q c { s' with heap := h3 } → wpAny (model X.prog X.w) (X.A.mark (some (.ref a))) (eval (.Name x np) X.env) Q E { s' with heap := h3 } := fun {Q E} q => by
      obtain ⟨hg, hdb, hm | ⟨hm, hv, hnn⟩⟩ := hc
      · exact ld_glob (X := X.suite a ((a, oe3) :: (X.pn ++ pins))) S3 hg hm q hdb
      · exact ld_blt (X := X.suite a ((a, oe3) :: (X.pn ++ pins))) S3 hg hm hv q hnn hdb
    refine wpAny_handleBy_cons (codeAny_handlers_test (here ((PySem.W.exm_one (M := model X.prog X.w) S3.kIn LT hm).here ?_))) (by intro q; cases q)
    refine codeAny_handlers_suite_as (HandSPX.lands_againZ fl3 fun h4 fl4 up4 => ?_)
    obtain ⟨oe4, vs4, he4, hz4, hd4⟩ := fl4.there
    have J4 : Inv X pins σ' H' { s' with heap := h4 } := J.landed nb fl4.1 ((up.trans up3).trans up4) os ag
    refine store_ok (X := X.suite a ((a, oe4) :: (X.pn ++ pins))) (v := .ref a) (J4.suite he4 hd4 na nL nF) hN hi (.inl hln) rfl (fun s5 S5 => ?_) (.inr hln)
    have hσ : i < σ'.length := by rw [J.len]; exact hij
    refine wpAny_mono ((pss_one (hst a (a, oe4) (X.pn ++ pins))).run [] s5 _ H' { nx := fun σ6 H6 => σ6 = (σ'.set i (some (.ref a))).set j (some (.ref a)) ∧ H6 = H', rt := fun _ _ => False } S5 ⟨.ref a, by rw [List.getElem?_set_self hσ], rfl, rfl⟩) (fun f s6 hsp => ?_) (fun _ _ z => False.elim z)
    cases f with
    | next =>
      obtain ⟨σ6, H6, S6, e1, e2⟩ := hsp
      subst e1 e2
      have J6 : Inv X ((a, oe4) :: pins) ((σ'.set i (some (.ref a))).set j (some (.ref a))) H6 s6 := { ok := ok, os := S6.os, bare := S6.bare, base := S6.base, loc := S6.loc, cell := S6.cell, free := S6.free, freeC := S6.freeC, hok := S6.hok, len := S6.len, pin := fun p hp => S6.pin p (List.mem_append_left _ (by
        rcases List.mem_append.mp hp with r | r
        · exact List.mem_cons_of_mem _ (List.mem_append_left _ r)
        · rcases List.mem_cons.mp r with r | r
          · rw [r]; exact List.mem_cons_self
          · exact List.mem_cons_of_mem _ (List.mem_append_right _ r))) }
      refine gone_ok J6 hN hi hln fun s7 J7 => ?_
      obtain ⟨e7, n7, _⟩ := J7.pin (a, oe4) (List.mem_append_right _ List.mem_cons_self)
      have J8 : Inv X pins (((σ'.set i (some (.ref a))).set j (some (.ref a))).set i none) H6 s7 := J7.pins_of fun p hp => J7.pin p (List.mem_append_right _ (List.mem_cons_of_mem _ hp))
      have eσ : ((σ'.set i (some (V.ref a))).set j (some (V.ref a))).set i none = (σ'.set j (some (V.ref a))).set i none := by
        by_cases e : i = j
        · subst e
          simp
        · rw [List.set_comm _ _ e, List.set_set]
      rw [eσ] at J8
      exact ⟨_, _, track_exc J8 n0 n7 e7 hz4 hd4 nL nP, hD a na⟩
    | brk => exact (let ⟨_, _, _, z⟩ := hsp; z).elim
    | cont => exact (let ⟨_, _, _, z⟩ := hsp; z).elim
    | ret u => exact (let ⟨_, _, _, _, _, z⟩ := hsp; z).elim
  · cases f with
    | next => exact let ⟨σ', H', K, q⟩ := hsp; wpAny_execs_nil ⟨σ', H', K.ofTry ok, q⟩
    | brk => exact let ⟨σ', H', K, q⟩ := hsp; ⟨σ', H', K.ofTry ok, q⟩
    | cont => exact let ⟨σ', H', K, q⟩ := hsp; ⟨σ', H', K.ofTry ok, q⟩
    | ret u => exact let ⟨v, σ', H', K, r, q⟩ := hsp; ⟨v, σ', H', K.ofTry ok, r, q⟩
end

/-! ### calls with what is known of the state -/
section
variable {X : Cx} {CX : CXT} {g : Addr} {x : Str} {p pos : Pos} {e : Expr} {es : List Expr} {ta : TA} {E : XK} {T : L2.St → List V → Hp → VK → Prop} {fd : FuncData} {ps : List Str}
/-- x(e, ..), x a def; what its run is, is told of the very state -/
theorem pe_callAt (hg : Gl X x) (hm : X.mg x = some (.ref g)) (hk : PySem.W.keepIn X.K (.ref g) = true) (hb : L2.Binds X.K fd ps []) (hx : Passes CX X E)
    (hF : ∀ (pins : List (Addr × Obj)) (σ : L2.St) (s : Shared) (H : Hp) (us : List Value) (vs : List V) (Q : VK), Inv X pins σ H s → BindsTo s fd ⟨us, []⟩ (ps.zip us) → Vals vs us → T σ vs H Q → codeAny (model X.prog X.w) X.A (.call (.ref g) ⟨us, []⟩) (CR CX X.stack X.prog X.w H s Q E) s)
    (hl : ∀ σ vs H Q, T σ vs H Q → vs.length = ps.length) (ha : PA X (e :: es) ta) (hdb : (x == ("__debug__" : Str)) = false := by decide) (he : starEach (e :: es) X.env = (false, eval e X.env) :: starEach es X.env := by rfl) (hpl : (backTo pos (starEach es X.env)).any (·.1) = false := by rfl) :
    PE X (.Call (.Name x p) (e :: es) [] pos) (fun σ H Q => ta σ H fun vs H1 => T σ vs H1 Q) := by
  refine ⟨fun pins s σ H Q I h => ?_⟩
  refine wpAny_Call_Name_kw (ld_glob I hg hm ?_ hdb)
  refine PySem.W.callWith_K (h₀ := X.base) I.ok.mod.kin hk (thn (ha.run pos pins s σ H _ I h) fun us s1 ⟨vs, H1, I1, r, q⟩ => ⟨I1.kIn, ?_⟩) he hpl
  have b := hb s1 us I1.kIn (by rw [List.append_nil, ← Paired.length r]; exact hl _ _ _ _ q)
  rw [List.append_nil] at b
  refine wpAny_call (codeAny_mono (hF pins σ s1 H1 us vs Q I1 b r q) fun rr s' hq => ?_)
  cases rr with
  | error er => exact hx pins σ H1 s1 er s' I1 hq
  | ok fl =>
    cases fl with
    | ret u => exact I1.after hq
    | next => exact False.elim hq
    | brk => exact False.elim hq
    | cont => exact False.elim hq
end
/-! ### a caught exception, read -/
/-- c.f, c the caught exception, its attributes in the dict at d -/
def tXfc (K : PySem.W.Frag) (f : Str) (te : TE) : TE := fun σ H Q => te σ H fun x H1 => ∃ (a C d : Addr) (fs : List (Str × V)) (v : V), x = .ref a ∧ XfC K C ∧ PySem.W.findIn K (.ref C) f = some none ∧ H1 a = some (CauO (.ref C) (some d) a) ∧ H1 d = some (.xd fs) ∧ fs.lookup f = some v ∧ Q v H1
theorem pe_xfc {X : Cx} {te : TE} {e : Expr} {pos : Pos} {f : Str} (he : PE X e te) (hb : attributeBase e f X.env (eval e X.env) = eval e X.env := by rfl) : PE X (.Attribute e f pos) (tXfc X.K f te) := by
  refine ⟨fun pins s σ H Q I h => ?_⟩
  refine attr_of hb (thn (he.run pins s σ H _ I h) fun u s1 hh => ?_)
  obtain ⟨x, H1, I1, rx, a, C, d, fs, v, ex, T, hno, ea, ed, l, q⟩ := hh
  subst ex
  obtain rfl : u = Value.ref a := rx
  obtain ⟨⟨oe, vs, ho, hz, hd⟩, _, _⟩ := I1.hok a _ ea
  obtain ⟨mA, hns, hr⟩ := (I1.hok d _ ed : ObjOk X.prog X.w H1 s1.heap d (.xd fs))
  obtain ⟨od, hod, hl⟩ := lookIn_ns hns
  obtain ⟨u, hu, ru⟩ := RelO.some_of (v := v) (o := mA f) (by rw [← l]; exact hr f)
  have J : PySem.W.InstAt s1.heap a oe C (some od) := ⟨ho, hz.1, by unfold PySem.W.notCls; rw [hd] <;> rfl, by rw [hz.2]; exact hod⟩
  exact HandSPX.exc_get I1.kIn J T.ga T.gg T.exC (PySem.W.findObj_own T.hdC hno rfl (by rw [hl, hu])) (handed_of ru) ⟨v, H1, I1.tok _, ru, q⟩
/-- isinstance(c, C), c a caught exception or None -/
def rIsC (K : PySem.W.Frag) : List V → Hp → VK → Prop := fun xs H Q => ∃ (a D : Addr) (c : V) (u : Value) (b : Bool), xs = [.ref a, c] ∧ ClsV c u ∧ (H a = some (CauO (.ref D) none a) ∨ ∃ d fs, H a = some (CauO (.ref D) (some d) a) ∧ H d = some (.xd fs)) ∧ ExcC K D ∧ PySem.W.kitOne K (.ref D) u = some b ∧ Q (.bl b) H
theorem call_isC {X : Cx} : CallR X (.builtin "isinstance") (rIsC X.K) := by
  intro pins s σ H xs us Q I r h
  obtain ⟨a, D, c, cv, b, rfl, hc, hE, C, e, q⟩ := h
  obtain ⟨u1, u2, rfl, r1, r2⟩ := vals2 r
  cases r1
  have ec := hc.eq r2
  subst ec
  have J : ∃ ox od, PySem.W.InstAt s.heap a ox D od := by
    rcases hE with ha | ⟨d, fs, ha, hd⟩
    · obtain ⟨⟨oe, vs, ho, hz, hdt⟩, _, _⟩ := I.hok a _ ha
      exact ⟨oe, none, ho, hz.1, by unfold PySem.W.notCls; rw [hdt] <;> rfl, by rw [hz.2]; trivial⟩
    · obtain ⟨⟨oe, vs, ho, hz, hdt⟩, _, _⟩ := I.hok a _ ha
      obtain ⟨mA, hns, hr⟩ := (I.hok d _ hd : ObjOk X.prog X.w H s.heap d (.xd fs))
      obtain ⟨od, hod, hl⟩ := lookIn_ns hns
      exact ⟨oe, some od, ho, hz.1, by unfold PySem.W.notCls; rw [hdt] <;> rfl, by rw [hz.2]; exact hod⟩
  obtain ⟨ox, od, J⟩ := J
  have hcl : (PySem.W.clsIn X.K D).isSome = true := by
    obtain ⟨cd, hc, _⟩ := PySem.W.any_some C.hd
    rw [hc]; rfl
  exact PySem.W.kia_one (PySem.W.kitx_exc hcl C.hg C.hk C.hs C.ha C.hn C.ht C.hm) I.kIn J e (fun z => nomatch z) fun tk => ⟨.bl b, H, I.tok tk, rfl, q⟩
end ClX
end

section
set_option maxRecDepth 100000
set_option maxHeartbeats 4000000
/-! The laws' def that tells what some work raises. -/
namespace ClX
open PySem PySem.Spec PyProof.Rows L2 LamX
/-- what it makes of a closure at f, told by tl: None, or the error -/
def spCaught (K : PySem.W.Frag) (CS f : Addr) (tl : XK → Hp → VK → Prop) (vs : List V) (H : Hp) (Q : VK) : Prop := vs = [.ref f] ∧ IsLam H f ∧ ∃ (E' : XK) (Q' : VK), tl E' H Q' ∧ (∀ v H', Q' v H' → Q .non H') ∧
  ∀ cls d H', E' cls d H' → PySem.W.exmOne K cls (.ref CS) = some true ∧ ∀ a, H' a = none → Q (.ref a) (upd H' a (CauO cls d a))
section
variable {X : Cx} {k : Nat} {L : List (Addr × V)} {f g CS : Addr} {tl : XK → Hp → VK → Prop} {name qual : Str} {params : Arguments} {scope : Scope} {dV kV doc pm cdv ct oc : Value} {an od : Option Addr} {osl : Array (Option Value)} {p1 p2 p3 p4 p5 p6 p7 p8 p9 p10 p11 p12 p13 p14 : Pos} {j : Nat}
abbrev caughtBody (j : Nat) (p1 p2 p3 p4 p5 p6 p7 p8 p9 p10 p11 p12 p13 p14 : Pos) : List Stmt :=
  [.Assign [.Name "caught" p1] (.Constant .none j p2) p3,
   .Try [.Expr (.Call (.Name "work" p4) [] [] p5) p6] [.ExceptHandler (some (.Name "SwayError" p7)) (some "error") [.Assign [.Name "caught" p8] (.Name "error" p9) p10] p11] [] [] p12,
   .Return (some (.Name "caught" p13)) p14]
theorem caught_at (r : Runs X k L f tl) (lk : X.K.lookup g = some ⟨oc, od, .func (PySem.W.fnOf name qual params (caughtBody j p1 p2 p3 p4 p5 p6 p7 p8 p9 p10 p11 p12 p13 p14) scope dV kV doc pm an cdv ct), osl⟩) (hcd : PySem.W.codeIn X.K cdv qual = true)
    (S : FnScope ["work", "caught", "error"] ["work"] scope) (h0 : scope.names.lookup ("work" : Str) = some .local) (h1 : scope.names.lookup ("caught" : Str) = some .local) (h2 : scope.names.lookup ("error" : Str) = some .local) (h3 : scope.names.lookup ("SwayError" : Str) = some .globalImplicit) (hm : X.mg "SwayError" = some (.ref CS))
    {A : Around} {outer : List Env} {s : Shared} {H : Hp} {us : List Value} {vs : List V} {Q : VK} {E : XK} (hr : Room (k + 1) A) (e0 : Env0 X.prog X.w X.K X.mg X.base A outer s H) (cv : CellsV L s.heap H)
    (hb : BindsTo s (PySem.W.fnOf name qual params (caughtBody j p1 p2 p3 p4 p5 p6 p7 p8 p9 p10 p11 p12 p13 p14) scope dV kV doc pm an cdv ct) ⟨us, []⟩ ((["work"] : List Str).zip us)) (rv : Vals vs us) (h : spCaught X.K CS f tl vs H Q) :
    codeAny (model X.prog X.w) A (.call (.ref g) ⟨us, []⟩) (CR (L2.CX X.prog X.w) outer X.prog X.w H s Q E) s := by
  obtain ⟨rfl, hl, E', Q', ht, hQ, hE⟩ := h
  refine run_ofS lk hcd S hr e0 hb rv rfl fun hr' => ?_
  have nd : (["work", "caught", "error"] : List Str).Nodup := S.nd
  let Y : Cx := cxOf (L2.CX X.prog X.w) X.prog X.w X.K X.mg X.base ["work", "caught", "error"] qual scope g cdv A outer s H E
  have rY : ∀ (pn : List (Addr × Obj)) (xe : Value → Shared → Prop), Runs (Y.tr pn xe) k L f tl := fun pn xe => r.like ⟨rfl, rfl, rfl, rfl, rfl⟩
  refine ⟨_, pss_cons (ps_set (i := 1) nd rfl (.inl h1) pe_non)
    (pss_cons (ps_caught (X := Y) (i := 2) (j := 1) (c := .ref CS) rfl rfl nd rfl h2 ⟨h3, by decide, .inl hm⟩ (show 2 < 3 by decide) rfl
      (tb := fun W D σ H => σ[0]? = some (some (.ref f)) ∧ IsLam H f ∧ ∃ (E' : XK) (Q' : VK), tl E' H Q' ∧ (∀ v H', Q' v H' → D.nx σ H') ∧ ∀ c d H', E' c d H' → W c d σ H')
      (fun W pn xe tk _ => pss_one (ps_expr (pe_work (i := 0) (E := WE W) (rY pn xe) hr' cv rfl (fun σ => passAt tk σ) rfl (.inl h0))))
      (fun a q pn => ps_set (i := 1) nd rfl (.inl h1) (pe_var (i := 2) rfl (.inl h2))))
    (pss_one (ps_ret (pe_var (i := 1) rfl (.inl h1))))), ?_⟩
  refine ⟨rfl, hl, E', Q', ht, fun v H' q => ⟨.non, rfl, hQ v H' q⟩, fun cls d H' q => ?_⟩
  obtain ⟨e1, e2⟩ := hE cls d H' q
  exact ⟨e1, fun a na => ⟨.ref a, rfl, e2 a na⟩⟩
end
end ClX
end

section
set_option maxRecDepth 100000
set_option maxHeartbeats 4000000
/-! A list comprehension whose block is told what the state is at its start. -/
namespace ClX
open PySem PySem.Spec PyProof.Rows L2
/-- what a block may lean on: the frame's own state at the block's start -/
structure At0 (X : Cx) (σ : L2.St) (s : Shared) (H : Hp) (fp : List Addr) : Prop where
  inv : ∃ pins, Inv X pins σ H s
  fps : ∀ b ∈ fp, (∀ x c, X.env.cells.lookup x = some c → c ≠ b) ∧ b ∉ X.fs ∧ b ≠ X.env.locals
section
variable {X : Cx} {σ : L2.St} {H0 : Hp} {s0 : Shared} {fp : List Addr} {ce : Env} {scope : Scope}
theorem blk_fp {σ' : L2.St} {H : Hp} {s : Shared} (I : Inv (X.blk s0 H0 scope ce fp) [] σ' H s) (hn : ∀ b ∈ fp, H b = none) : ∀ b ∈ fp, FpOk (X.blk s0 H0 scope ce fp) [] H b := fun b hb =>
  ⟨hn b hb, (I.ok.exf b hb).1, I.ok.exfs b hb, .inl hb, fun y c e => (I.ok.exf b hb).2 y c e, fun p hp => nomatch (show p ∈ ([] : List (Addr × Obj)) ++ [] from hp)⟩
/-- the state between two turns -/
def Btw (X : Cx) (s0 : Shared) (H0 : Hp) (scope : Scope) (ce : Env) (fp : List Addr) (σw : L2.St) (tn : Nat → Heap → Prop) (W : Nat → Nat → Hp → Prop) (n : Nat) (s : Shared) : Prop :=
  ∃ i H, Inv (X.blk s0 H0 scope ce fp) [] σw H s ∧ tn i s.heap ∧ (∀ b ∈ fp, H b = none) ∧ W i n H
/-- a turn is over: on to the next -/
theorem btw_next {P : Program} {w : World} {K : PySem.W.Frag} {tg : Expr} {J : It} {it : Addr} {tn : Nat → Heap → Prop} {W : Nat → Nat → Hp → Prop} {vs : List Nat} {n i : Nat} {h7 : Heap} {σ8 : L2.St} {H' : Hp} {s' : Shared} {Nx : Hp → Prop} (T : Turn P w K tg J fp it tn)
    (I : Inv (X.blk s0 H0 scope ce fp) ([] ++ pinsAt fp h7) σ8 H' s') (ew : wipe σ8 vs = wipe σ vs) (t7 : tn (i + 1) h7) (nx : Nx H') (hNx : ∀ H', Nx H' → ∃ m', m' < n ∧ W (i + 1) m' H') :
    ∃ m, m < n ∧ Btw X s0 H0 scope ce fp (wipe σ vs) tn W m s' := by
  obtain ⟨m', hm, w'⟩ := hNx H' nx
  have stay : ∀ b ∈ fp, ∀ o, h7.get? b = some o → s'.heap.get? b = some o ∧ H' b = none := fun b hb o e => by
    obtain ⟨z1, z2, _⟩ := I.pin (b, o) (List.mem_append_right _ (List.mem_append_right _ (mem_pinsAt hb e)))
    exact ⟨z1, z2⟩
  refine ⟨m', hm, i + 1, H', I.unpinned.weak (by rw [← ew, wipe_length]) fun j v e => (wipe_some (ew ▸ e)).1, T.keep _ _ _ t7 fun b hb o e => (stay b hb o e).1, fun b hb => ?_, w'⟩
  obtain ⟨o, e, _⟩ := T.obj _ _ t7 b hb
  exact (stay b hb o e).2
theorem lcAt {elt tg iter : Expr} {ifs : List Expr} {own : List (Str × Nat)} {pos : Pos} {wi : TI} {g : L2.St → TG} {tt : L2.St → L2.TT} {te : L2.St → TE} (hc : X.calm = true) (hN : X.N.Nodup) (hi : PI X tg iter wi) (ok : BlkOk X.N X.env.scope scope own)
    (hg : ∀ (σ : L2.St) (s : Shared) (H : Hp) (C : Addr) (cl : List (Str × Addr)) (fp : List Addr), At0 X σ s H fp → PG (X.blk s H scope (compEnvC scope cl C X.env) fp) tg (g σ))
    (ht : ∀ (σ : L2.St) (s : Shared) (H : Hp) (C : Addr) (cl : List (Str × Addr)) (fp : List Addr), At0 X σ s H fp → PTs (X.blk s H scope (compEnvC scope cl C X.env) fp) ifs (tt σ))
    (he : ∀ (σ : L2.St) (s : Shared) (H : Hp) (C : Addr) (cl : List (Str × Addr)) (fp : List Addr), At0 X σ s H fp → PE (X.blk s H scope (compEnvC scope cl C X.env) fp) elt (te σ)) (hs : ∀ x, foldedSetIterable iter X.env x = pure x := by intro _; rfl) :
    PE X (.ListComp elt [⟨tg, iter, ifs, 0⟩] scope pos) (fun σ H Q => tLc wi (g σ) (tt σ) (te σ) (own.map (·.2)) σ H Q) := by
  refine ⟨fun pins s σ H Q I h => ?_⟩
  rw [eval_ListComp]
  have hfree : ∀ y ∈ scope.names, y.2 = .free → ∃ c, X.env.cells.lookup y.1 = some c := fun y hy e => (ok.free y hy e).elim (fun k => I.ok.has _ (.inl k)) fun k => I.ok.has _ (.inr k)
  refine wpAny_comprehension_free rfl hs (closure_ok hfree) ok.kind (fun y hy e => by rw [ok.uniq y hy, e]) (thn (hi.run pins s σ H _ I h) fun xv s1 hx => thn hx fun itv s2 hh => ?_)
  obtain ⟨it, fp, tn, J, H2, e, I2, T, t2, f2, q⟩ := hh
  subst e
  refine wpAny_newObj_type (newEnv_comp ?_) (by show 0 ≤ sizeLine; decide)
  have nD : H2 s2.heap.objs.size = none := I2.hok.fresh (Nat.le_refl _)
  obtain ⟨W, ⟨m0, w0⟩, turn⟩ := q _ nD
  have I3 := I2.laid (t' := s2.toks) (a := s2.heap.objs.size) (o := .lst []) (h' := s2.heap.push { cls := .type "list", data := .seq ([] : List Value).toArray }) (fun b o e => Heap.get?_push_of_some _ e) (Nat.le_refl _) ⟨Nat.zero_le _, [], 0, .nil, Heap.get?_push_size _ rfl⟩
  have lt2 : ∀ b ∈ fp, b < s2.heap.objs.size := fun b hb => by
    obtain ⟨o, e, _⟩ := T.obj _ _ t2 b hb
    exact Heap.lt_size e
  have f3 : ∀ b ∈ fp, FpOk X pins (upd H2 s2.heap.objs.size (.lst [])) b ∧ b < (s2.heap.push { cls := .type "list", data := .seq ([] : List Value).toArray }).objs.size := fun b hb =>
    ⟨⟨by rw [upd_ne (Nat.ne_of_lt (lt2 b hb))]; exact (f2 b hb).1, (f2 b hb).2⟩, by rw [Heap.size_push]; exact Nat.lt_succ_of_lt (lt2 b hb)⟩
  have t3 := T.keep _ _ (s2.heap.push { cls := .type "list", data := .seq ([] : List Value).toArray }) t2 fun b _ o e => Heap.get?_push_of_some _ e
  generalize hs3 : ({ s2 with heap := s2.heap.push { cls := .type "list", data := .seq ([] : List Value).toArray } } : Shared) = s3 at I3
  have e3 : s2.heap.push { cls := .type "list", data := .seq ([] : List Value).toArray } = s3.heap := by rw [← hs3]
  rw [e3] at f3 t3
  generalize hH3 : upd H2 s2.heap.objs.size (.lst []) = H3 at I3 f3 w0
  have a0 : At0 X σ s3 H3 fp := ⟨⟨pins, I3⟩, fun b hb => ⟨(f3 b hb).1.2.2.2.2.1, (f3 b hb).1.2.2.1, (f3 b hb).1.2.1⟩⟩
  have I4 := block_start I3 ok hN f3
  have pg := hg σ s3 H3 s3.heap.objs.size (cellsFrom (s3.heap.objs.size + 1) scope.names (cloFrom X.env.cells scope.names [])) fp a0
  have pt := ht σ s3 H3 s3.heap.objs.size (cellsFrom (s3.heap.objs.size + 1) scope.names (cloFrom X.env.cells scope.names [])) fp a0
  have pe := he σ s3 H3 s3.heap.objs.size (cellsFrom (s3.heap.objs.size + 1) scope.names (cloFrom X.env.cells scope.names [])) fp a0
  show codeAny _ _ (.compStart (.ListComp elt [⟨tg, iter, ifs, 0⟩] scope pos) 0 (.ref it) (.ref s2.heap.objs.size) (compEnvC scope (cellsFrom (s3.heap.objs.size + 1) scope.names (cloFrom X.env.cells scope.names [])) s3.heap.objs.size X.env)) _ { s3 with heap := pushCells (s3.heap.push { cls := .type "dict", data := .dict #[] }) scope.names }
  have t4 : tn 0 (pushCells (s3.heap.push { cls := .type "dict", data := .dict #[] }) scope.names) := T.keep _ _ _ t3 fun b _ o e => pushCells_keeps _ _ _ _ (Heap.get?_push_of_some _ e)
  generalize hce : compEnvC scope (cellsFrom (s3.heap.objs.size + 1) scope.names (cloFrom X.env.cells scope.names [])) s3.heap.objs.size X.env = ce at I4 pg pt pe ⊢
  have eL : ce.locals = s3.heap.objs.size := by rw [← hce] <;> rfl
  have n4 : ∀ b ∈ fp, H3 b = none := fun b hb => (f3 b hb).1.1
  refine (fun {R} (loop : codeAny (model X.prog X.w) X.A (.compLoop (.ListComp elt [⟨tg, iter, ifs, 0⟩] scope pos) 0 (.ref it) (.ref s2.heap.objs.size) ce) R _) => codeAny_compStart_list loop (T.self X.A 0 _ _ _ t4 loop)) ?_
  refine compLoop_any (Btw X s3 H3 scope ce fp (wipe σ (own.map (·.2))) tn W) (fun n s5 b5 => ?_) m0 ⟨0, H3, I4, t4, n4, w0⟩
  obtain ⟨i, H5, I5, t5, n5, w5⟩ := b5
  rcases turn i n H5 w5 with ⟨stop, hQ⟩ | ⟨go, Nx, hNx, step⟩
  · refine thnF (T.done (X.blk s3 H3 scope ce fp) rfl rfl rfl hc i [] s5 _ H5 (fun _ _ => False) I5 (blk_fp I5 n5) t5 stop) fun r s6 ⟨hr, I6⟩ => ?_
    subst hr
    have I7 : Inv X pins σ H5 s6 := I3.call' (ch := fp) I6.os I6.base I6.hok I6.bare fun b hb => let f := (f3 b hb).1; ⟨f.2.2.2.1, f.2.1, f.2.2.2.2.1, f.2.2.2.2.2⟩
    have nC : H5 s3.heap.objs.size = none := eL ▸ I6.free
    obtain ⟨m, hn, _⟩ := I6.loc
    have hn : s6.heap.Ns s3.heap.objs.size m := eL ▸ hn
    refine ⟨m, hn, fun h'' sb => ?_⟩
    obtain ⟨g0, g1, g2, g3, g4, g5⟩ := I3.fpOk (H' := H5) (Nat.le_refl _) nC
    have sb : Heap.SameBut s3.heap.objs.size s6.heap h'' := sb
    exact ⟨.ref _, H5, I7.turned (t' := s6.toks) (fun b o hb e => (sb.2 b hb).trans e) g0 g1 g3 g4 g5, rfl, hQ⟩
  · refine thnF (T.item (X.blk s3 H3 scope ce fp) rfl rfl rfl hc i [] s5 _ H5 (fun _ _ => False) I5 (blk_fp I5 n5) t5 go) fun r s6 ⟨u, hr, h6⟩ => ?_
    subst hr
    refine thnF h6 fun _ s7 ⟨x, H7, I7, r7, y7, t7, n7⟩ => ?_
    refine thnF (pg.run _ s7 _ H7 x u _ (I7.pinned (blk_fp I7 n7) (T.obj _ _ t7)) r7 (step x H7 y7)) fun _ s8 ⟨σ8, H8, I8, ew, q8⟩ => ?_
    refine thnF (pt.run _ s8 σ8 H8 _ I8 q8) fun b s9 ⟨H9, I9, q9⟩ => ?_
    cases b with
    | false => exact btw_next T I9 ew t7 (show Nx H9 from q9) hNx
    | true =>
      refine thnF (pe.run _ s9 σ8 H9 _ I9 q9) fun z s10 ⟨yv, H10, I10, r10, acc, hD10, hz10, nx⟩ => ?_
      exact app_ok (X := X.blk s3 H3 scope ce fp) I10 hD10 hz10 r10 fun s11 I11 => btw_next T I11 ew t7 nx hNx
end
end ClX
end

section
set_option maxRecDepth 100000
set_option maxHeartbeats 4000000
/-! Dicts with tuples as keys: comprehensions. -/
namespace ClX
open PySem PySem.Spec PyProof.Rows L2
section
variable {X : Cx} {σ : L2.St} {H0 : Hp} {s0 : Shared} {fp : List Addr} {ce : Env} {scope : Scope}
/-- d[k] = v by a comprehension, keys of either kind -/
theorem put_dictSet {Y : Cx} {pins : List (Addr × Obj)} {σ : L2.St} {H H' : Hp} {s : Shared} {E : Value → Shared → Prop} {D : Addr} {y v : V} {u r : Value} {Q : Unit → Shared → Prop} (hu : Y.A.units < cLine) (I : Inv Y pins σ H s) (g : DPut H D y v H') (ry : RelV y u) (rv : RelV v r)
    (h : ∀ s', Inv Y pins σ H' s' → Q () s') : wpAny (model Y.prog Y.w) Y.A (dictSet D u r) Q E s := by
  rcases g with ⟨kvs, k, e, ey, l, eH⟩ | ⟨kvs, k, b, e, ey, eb, l, eH⟩
  · subst ey eH
    exact d_dictSet I e l ry rv h
  · subst ey eH
    cases (show u = Value.ref b from ry)
    obtain ⟨z, hd, xs, rel, dd⟩ := dt_of I.hok e
    refine wpAny_dictSet_heap (hsz := by rw [← Paired.length rel]; exact z) hu (key_of I.hok eb) dd fun h' dd' hs => h _ ?_
    obtain ⟨q, es, ep, hq, h2, h3, h4, _, h5⟩ := dd'
    refine d_write I (by rw [e]; exact True.intro) hs ⟨q, hq⟩ ⟨Nat.le_trans (length_putK kvs k v) l, hd, _, (rel.put k eb rv).keeps fun c ys ec => ?_, q, es, ep, hq, h2, h3, h4, h5⟩
    rw [upd_ne (ne_of ec e (fun z => nomatch z))]
    exact ec
/-- {k: v for target in iter if ..}, a new dict D with tuples as keys -/
def tDcT (wi : TI) (g : TG) (tt : L2.TT) (tk tv : TE) (vs : List Nat) : TE := fun σ H Q => wi σ H fun J H1 => ∀ D, H1 D = none → ∃ W : Nat → Nat → Hp → Prop, (∃ m, W 0 m (upd H1 D (.dT []))) ∧ ∀ i m H, W i m H →
  (J.stop i H ∧ Q (.ref D) H) ∨ (J.go i H ∧ ∃ Nx : Hp → Prop, (∀ H', Nx H' → ∃ m', m' < m ∧ W (i + 1) m' H') ∧ ∀ x H', J.yld i H x H' → g x (wipe σ vs) H' fun σ2 H2 => wipe σ2 vs = wipe σ vs ∧ tt σ2 H2 fun b H3 =>
    if b = true then tk σ2 H3 fun y H4 => tv σ2 H4 fun z H5 => ∃ H6, DPut H5 D y z H6 ∧ Nx H6 else Nx H3)
theorem pe_dcT {kx vx tg iter : Expr} {ifs : List Expr} {own : List (Str × Nat)} {pos : Pos} {wi : TI} {g : TG} {tt : L2.TT} {tk tv : TE} (hu : X.A.units < cLine) (hc : X.calm = true) (hN : X.N.Nodup) (hi : PI X tg iter wi) (ok : BlkOk X.N X.env.scope scope own)
    (hg : ∀ (s : Shared) (H : Hp) (C : Addr) (cl : List (Str × Addr)) (fp : List Addr), PG (X.blk s H scope (compEnvC scope cl C X.env) fp) tg g)
    (ht : ∀ (s : Shared) (H : Hp) (C : Addr) (cl : List (Str × Addr)) (fp : List Addr), PTs (X.blk s H scope (compEnvC scope cl C X.env) fp) ifs tt)
    (hk : ∀ (s : Shared) (H : Hp) (C : Addr) (cl : List (Str × Addr)) (fp : List Addr), PE (X.blk s H scope (compEnvC scope cl C X.env) fp) kx tk)
    (he : ∀ (s : Shared) (H : Hp) (C : Addr) (cl : List (Str × Addr)) (fp : List Addr), PE (X.blk s H scope (compEnvC scope cl C X.env) fp) vx tv) (hs : ∀ x, foldedSetIterable iter X.env x = pure x := by intro _; rfl) :
    PE X (.DictComp kx vx [⟨tg, iter, ifs, 0⟩] scope pos) (tDcT wi g tt tk tv (own.map (·.2))) := by
  refine ⟨fun pins s σ H Q I h => ?_⟩
  rw [arm_eval_DictComp]
  have hfree : ∀ y ∈ scope.names, y.2 = .free → ∃ c, X.env.cells.lookup y.1 = some c := fun y hy e => (ok.free y hy e).elim (fun k => I.ok.has _ (.inl k)) fun k => I.ok.has _ (.inr k)
  refine wpAny_comprehension_free rfl hs (closure_ok hfree) ok.kind (fun y hy e => by rw [ok.uniq y hy, e]) (thn (hi.run pins s σ H _ I h) fun xv s1 hx => thn hx fun itv s2 hh => ?_)
  obtain ⟨it, fp, tn, J, H2, e, I2, T, t2, f2, q⟩ := hh
  subst e
  refine wpAny_newObj_type (newEnv_comp ?_)
  have nD : H2 s2.heap.objs.size = none := I2.hok.fresh (Nat.le_refl _)
  obtain ⟨W, ⟨m0, w0⟩, turn⟩ := q _ nD
  have I3 := I2.laid (t' := s2.toks) (a := s2.heap.objs.size) (o := .dT []) (h' := s2.heap.push { cls := .type "dict", data := .dict #[] }) (fun b o e => Heap.get?_push_of_some _ e) (Nat.le_refl _) (dt_empty s2.heap I2.big)
  have lt2 : ∀ b ∈ fp, b < s2.heap.objs.size := fun b hb => by
    obtain ⟨o, e, _⟩ := T.obj _ _ t2 b hb
    exact Heap.lt_size e
  have f3 : ∀ b ∈ fp, FpOk X pins (upd H2 s2.heap.objs.size (.dT [])) b ∧ b < (s2.heap.push { cls := .type "dict", data := .dict #[] }).objs.size := fun b hb =>
    ⟨⟨by rw [upd_ne (Nat.ne_of_lt (lt2 b hb))]; exact (f2 b hb).1, (f2 b hb).2⟩, by rw [Heap.size_push]; exact Nat.lt_succ_of_lt (lt2 b hb)⟩
  have t3 := T.keep _ _ (s2.heap.push { cls := .type "dict", data := .dict #[] }) t2 fun b _ o e => Heap.get?_push_of_some _ e
  generalize hs3 : ({ s2 with heap := s2.heap.push { cls := .type "dict", data := .dict #[] } } : Shared) = s3 at I3
  have e3 : s2.heap.push { cls := .type "dict", data := .dict #[] } = s3.heap := by rw [← hs3]
  rw [e3] at f3 t3
  generalize hH3 : upd H2 s2.heap.objs.size (.dT []) = H3 at I3 f3 w0
  have I4 := block_start I3 ok hN f3
  have pg := hg s3 H3 s3.heap.objs.size (cellsFrom (s3.heap.objs.size + 1) scope.names (cloFrom X.env.cells scope.names [])) fp
  have pt := ht s3 H3 s3.heap.objs.size (cellsFrom (s3.heap.objs.size + 1) scope.names (cloFrom X.env.cells scope.names [])) fp
  have pk := hk s3 H3 s3.heap.objs.size (cellsFrom (s3.heap.objs.size + 1) scope.names (cloFrom X.env.cells scope.names [])) fp
  have pe := he s3 H3 s3.heap.objs.size (cellsFrom (s3.heap.objs.size + 1) scope.names (cloFrom X.env.cells scope.names [])) fp
  show codeAny _ _ (.compStart (.DictComp kx vx [⟨tg, iter, ifs, 0⟩] scope pos) 0 (.ref it) (.ref s2.heap.objs.size) (compEnvC scope (cellsFrom (s3.heap.objs.size + 1) scope.names (cloFrom X.env.cells scope.names [])) s3.heap.objs.size X.env)) _ { s3 with heap := pushCells (s3.heap.push { cls := .type "dict", data := .dict #[] }) scope.names }
  have t4 : tn 0 (pushCells (s3.heap.push { cls := .type "dict", data := .dict #[] }) scope.names) := T.keep _ _ _ t3 fun b _ o e => pushCells_keeps _ _ _ _ (Heap.get?_push_of_some _ e)
  generalize hce : compEnvC scope (cellsFrom (s3.heap.objs.size + 1) scope.names (cloFrom X.env.cells scope.names [])) s3.heap.objs.size X.env = ce at I4 pg pt pk pe ⊢
  have eL : ce.locals = s3.heap.objs.size := by rw [← hce] <;> rfl
  have n4 : ∀ b ∈ fp, H3 b = none := fun b hb => (f3 b hb).1.1
  refine (fun {R} (loop : codeAny (model X.prog X.w) X.A (.compLoop (.DictComp kx vx [⟨tg, iter, ifs, 0⟩] scope pos) 0 (.ref it) (.ref s2.heap.objs.size) ce) R _) => codeAny_compStart_dict loop (T.self X.A 0 _ _ _ t4 loop)) ?_
  refine compLoop_anyD (Btw X s3 H3 scope ce fp (wipe σ (own.map (·.2))) tn W) (fun n s5 b5 => ?_) m0 ⟨0, H3, I4, t4, n4, w0⟩
  obtain ⟨i, H5, I5, t5, n5, w5⟩ := b5
  rcases turn i n H5 w5 with ⟨stop, hQ⟩ | ⟨go, Nx, hNx, step⟩
  · refine thnF (T.done (X.blk s3 H3 scope ce fp) rfl rfl rfl hc i [] s5 _ H5 (fun _ _ => False) I5 (blk_fp I5 n5) t5 stop) fun r s6 ⟨hr, I6⟩ => ?_
    subst hr
    have I7 : Inv X pins σ H5 s6 := I3.call' (ch := fp) I6.os I6.base I6.hok I6.bare fun b hb => let f := (f3 b hb).1; ⟨f.2.2.2.1, f.2.1, f.2.2.2.2.1, f.2.2.2.2.2⟩
    have nC : H5 s3.heap.objs.size = none := eL ▸ I6.free
    obtain ⟨m, hn, _⟩ := I6.loc
    have hn : s6.heap.Ns s3.heap.objs.size m := eL ▸ hn
    refine ⟨m, hn, fun h'' sb => ?_⟩
    obtain ⟨g0, g1, g2, g3, g4, g5⟩ := I3.fpOk (H' := H5) (Nat.le_refl _) nC
    have sb : Heap.SameBut s3.heap.objs.size s6.heap h'' := sb
    exact ⟨.ref _, H5, I7.turned (t' := s6.toks) (fun b o hb e => (sb.2 b hb).trans e) g0 g1 g3 g4 g5, rfl, hQ⟩
  · refine thnF (T.item (X.blk s3 H3 scope ce fp) rfl rfl rfl hc i [] s5 _ H5 (fun _ _ => False) I5 (blk_fp I5 n5) t5 go) fun r s6 ⟨u, hr, h6⟩ => ?_
    subst hr
    refine thnF h6 fun _ s7 ⟨x, H7, I7, r7, y7, t7, n7⟩ => ?_
    refine thnF (pg.run _ s7 _ H7 x u _ (I7.pinned (blk_fp I7 n7) (T.obj _ _ t7)) r7 (step x H7 y7)) fun _ s8 ⟨σ8, H8, I8, ew, q8⟩ => ?_
    refine thnF (pt.run _ s8 σ8 H8 _ I8 q8) fun b s9 ⟨H9, I9, q9⟩ => ?_
    cases b with
    | false => exact btw_next T I9 ew t7 (show Nx H9 from q9) hNx
    | true =>
      refine thnF (pk.run _ s9 σ8 H9 _ I9 q9) fun z s10 ⟨yk, H10, I10, r10, q10⟩ => ?_
      refine thnF (pe.run _ s10 σ8 H10 _ I10 q10) fun z2 s11 ⟨yv, H11, I11, r11, H12, dp, nx⟩ => ?_
      exact put_dictSet (Y := X.blk s3 H3 scope ce fp) hu I11 dp r10 r11 fun s12 I12 => btw_next T I12 ew t7 nx hNx
end
end ClX
end

section
set_option maxRecDepth 100000
set_option maxHeartbeats 4000000
/-! The pairs of a locked dict with tuples as keys. -/
namespace ClX
open PySem PySem.Spec PyProof.Rows L2
/-- what the object of a locked dict with tuple keys bears -/
theorem frzT_at {X : Cx} {pins : List (Addr × Obj)} {σ : L2.St} {H : Hp} {s : Shared} {d : Addr} {o : Obj} {kvs : List (List Key × V)} (I : Inv X pins σ H s) (h : H d = some (.frz o (.dT kvs))) :
    (d == sysModules) = false ∧ ∃ (es : Array DictEntry) (ep : Nat), o.data = .dict es ep ∧ DT.Raw s.heap d es ep ∧ es.size = kvs.length ∧ kvs.length ≤ sizeLine ∧
      ∀ (i : Nat) (k : List Key) (v : V), kvs[i]? = some (k, v) → ∃ (en : DictEntry) (q : Addr), es[i]? = some en ∧ en.key = .ref q ∧ H q = some (.tup (k.map kV)) ∧ RelV v en.val := by
  obtain ⟨hd, z, hs, xs, pr, o', es, ep, ho, hx, hdt, he, _⟩ := I.hok d _ h
  rw [hd] at ho
  cases ho
  refine ⟨hs, es, ep, hdt, ⟨o, hd, hx, hdt⟩, ?_, z, fun i k v e => ?_⟩
  · have l2 : kvs.length = xs.length := Paired.length pr
    rw [l2, ← Array.length_toList, he, List.length_map]
  · obtain ⟨b, hb, e1, e2, e3⟩ := paired_get pr e
    refine ⟨_, b.2.1, by rw [← Array.getElem?_toList, he, List.getElem?_map, hb] <;> rfl, rfl, e2, e3⟩
/-- the pairs of the locked dict at d, each a new tuple of the key's own tuple and the value -/
def Itit (d : Addr) (o : Obj) (kvs : List (List Key × V)) : It :=
  ⟨fun i H => H d = some (.frz o (.dT kvs)) ∧ i < kvs.length, fun i H x H' => ∃ (T q : Addr) (k : List Key) (v : V), kvs[i]? = some (k, v) ∧ x = .ref T ∧ H q = some (.tup (k.map kV)) ∧ H T = none ∧ H' = upd H T (.tup [.ref q, v]), fun i H => H d = some (.frz o (.dT kvs)) ∧ kvs.length ≤ i⟩
theorem turn_itemsT {P : Program} {w : World} {K : PySem.W.Frag} {d : Addr} {o : Obj} {es : Array DictEntry} {ep : Nat} {kvs : List (List Key × V)} {elts : List Expr} {kk : Nat} {tpos : Pos} (it : Addr) (hod : o.data = .dict es ep) :
    Turn P w K (.Tuple elts kk tpos) (Itit d o kvs) [it] it (fun i h => ∃ ok ov, IsItemIter h it d i kvs.length ep ok ov) where
  mem := List.mem_cons_self
  obj := fun i h st b hb => by
    obtain ⟨ok, ov, e⟩ := st
    rw [List.mem_singleton.mp hb]
    exact ⟨_, e, fun v z => nomatch z⟩
  keep := fun i h h' st k => let ⟨ok, ov, e⟩ := st; ⟨ok, ov, k it List.mem_cons_self _ e⟩
  item := by
    intro X hP hw hK hc i pins s σ H E I hf st hg
    subst hP hw hK
    obtain ⟨hd, hi⟩ := hg
    obtain ⟨hs, es', ep', hdt, raw, hsz, _, ent⟩ := frzT_at I hd
    obtain ⟨rfl, rfl⟩ := dict_ep hod hdt
    obtain ⟨⟨k, v⟩, hkv⟩ : ∃ p, kvs[i]? = some p := ⟨kvs[i], List.getElem?_eq_getElem hi⟩
    obtain ⟨en, q, hen, hq1, hq2, rv⟩ := ent i k v hkv
    obtain ⟨ok, ov, he⟩ := st
    have hlt : it < s.heap.objs.size := Heap.lt_size he
    rw [← hsz] at he hi
    have een : es'[i] = en := by
      rw [Array.getElem?_eq_getElem hi] at hen
      exact Option.some.inj hen
    refine DT.nextI he raw hi fun h' ho hT _ hk => ?_
    rw [een, hq1] at hT ho
    refine ⟨_, rfl, wpAny_letOwnedTupleGo_items (s := { s with heap := h' }) ho fun h'' he' sb => ?_⟩
    have hT2 : h''.get? s.heap.objs.size = some { cls := .type "tuple", data := .seq #[.ref q, en.val] } := (sb.2 _ (Nat.ne_of_gt hlt)).trans hT
    have new : ObjOk X.prog X.w (upd H s.heap.objs.size (.tup [.ref q, v])) h'' s.heap.objs.size (.tup [.ref q, v]) :=
      ⟨by show 2 ≤ sizeLine; decide, [.ref q, en.val], .cons rfl (.cons rv .nil), ⟨_, hT2, rfl, _, rfl⟩⟩
    have I1 : Inv X pins σ (upd H s.heap.objs.size (.tup [.ref q, v])) { s with heap := h'' } :=
      I.turnedNew (t' := s.toks) (ch := [it]) (fun b ob hb e => (sb.2 b (by simpa using hb)).trans (hk b ob (by simpa using hb) e)) hf (Nat.le_refl _) new
    refine ⟨.ref s.heap.objs.size, _, I1, rfl, ⟨_, q, k, v, hkv, rfl, hq2, I.hok.fresh (Nat.le_refl _), rfl⟩, ⟨_, _, hsz ▸ he'⟩, fun b hb => ?_⟩
    rw [List.mem_singleton.mp hb, upd_ne (Nat.ne_of_lt hlt)]
    exact (hf it List.mem_cons_self).1
  done := by
    intro X hP hw hK hc i pins s σ H E I hf st hg
    subst hP hw hK
    obtain ⟨hd, hi⟩ := hg
    obtain ⟨f0, f1, f2, f3, f4, f5⟩ := hf it List.mem_cons_self
    obtain ⟨hs, es', ep', hdt, raw, hsz, _, ent⟩ := frzT_at I hd
    obtain ⟨rfl, rfl⟩ := dict_ep hod hdt
    obtain ⟨ok, ov, he⟩ := st
    rw [← hsz] at he hi
    exact DT.endI (I.ok.hd hc) he raw hi fun h' eb => ⟨rfl, I.turned (t' := s.toks) (fun b ob hb e => eb b ob hb e) f0 f1 f3 f4 f5⟩
  self := fun A i s Q E st h => let ⟨_, _, e⟩ := st; PySem.W.kcp_self e h
/-- .. in e.items(), the dict locked -/
def iItemsT (td : TE) : TI := fun σ H R => td σ H fun x H1 => ∃ d o kvs, x = .ref d ∧ H1 d = some (.frz o (.dT kvs)) ∧ R (Itit d o kvs) H1
theorem pi_itemsT {X : Cx} {e : Expr} {td : TE} {apos cpos : Pos} {elts : List Expr} {kk : Nat} {tpos : Pos} (he : PE X e td) (hbase : attributeBase e "items" X.env (eval e X.env) = eval e X.env := by rfl) (hline : (apos.endLine == cpos.line) = true := by rfl) :
    PI X (.Tuple elts kk tpos) (.Call (.Attribute e "items" apos) [] [] cpos) (iItemsT td) := by
  refine ⟨fun pins s σ H R I h => ?_⟩
  refine wpAny_Call_method (T := "dict") (id := "dict.items") hbase rfl hline PySem.F.plainAttrs_dict PySem.F.slot_dict_items PySem.F.type_dict_items (thn (he.run pins s σ H _ I h) fun u s1 ⟨x, H1, I1, rx, d, o, kvs, ex, hd, q⟩ => ?_)
  subst ex
  obtain rfl : u = Value.ref d := rx
  obtain ⟨hs, es, ep, hdt, raw, hsz, _, ent⟩ := frzT_at I1 hd
  refine ⟨raw.typeIs, ?_, ?_⟩
  · obtain ⟨o', ho, hx, _⟩ := raw
    rintro b ⟨⟩
    exact ⟨o', ho, hx.2.1⟩
  have I2 : Inv X pins σ H1 { s1 with heap := s1.heap.push { cls := .type "dict_items", data := .fields #[.ref d] } } := I1.kept (t' := s1.toks) fun b ob q => Heap.get?_push_of_some _ q
  have fin : wpAny (model X.prog X.w) X.A (pyIter (.ref s1.heap.objs.size)) (PIE X pins σ (.Tuple elts kk tpos) R) X.xe { s1 with heap := s1.heap.push { cls := .type "dict_items", data := .fields #[.ref d] } } := by
    refine DT.iterI (d := d) ⟨_, Heap.get?_push_size _ rfl, rfl, rfl⟩ (raw.push _) (pi_one (tk := s1.toks) I2 _ (turn_itemsT _ hdt) ⟨.none, .none, ?_⟩ q)
    rw [← hsz]
    exact Heap.get?_push_size _ rfl
  show wpAny _ _ (callWith cpos (.builtin "dict.items") [.ref d] [] []) _ X.xe s1
  exact method_meetsIn PySem.F.slot_dict_items PySem.F.entry_dict_items rfl (PySem.evalArgs_none ⟨rfl, raw.typeIs, PySem.F.args_dict_items_1 _, _, DT.meetsItems (es := es) (ep := ep) hs, ⟨raw, fin⟩⟩)
end ClX
end

section
set_option maxRecDepth 100000
set_option maxHeartbeats 4000000
/-! sorted(d), d a dict whose keys are tuples of ints. -/
namespace ClX
open PySem PySem.Spec PyProof.Rows L2
/-- rows of ints, by their items from the left -/
def ltI : List Int → List Int → Bool
  | [], [] => false
  | [], _ :: _ => true
  | _ :: _, [] => false
  | x :: r, y :: t => decide (x < y) || (!decide (y < x) && ltI r t)
theorem ltI_lex : ∀ a b : List Int, lexLt itemOrd (a.map Sum.inl) (b.map Sum.inl) = ltI a b
  | [], [] => rfl
  | [], _ :: _ => rfl
  | _ :: _, [] => rfl
  | x :: r, y :: t => by
    show (decide (x < y) || (!decide (y < x) && lexLt itemOrd (r.map Sum.inl) (t.map Sum.inl))) = _
    rw [ltI_lex r t]
    rfl
def noStr : Nat → Bool := fun _ => false
theorem tupItems_ints : ∀ {ks : List Int} {us : List Value} (i : Nat), Vals (ks.map V.int) us → tupItems noStr i us = some (ks.map Sum.inl)
  | [], us, i, r => by cases r; rfl
  | k :: ks, us, i, r => by
    cases r with
    | cons h t =>
      obtain ⟨tk, rfl⟩ := h
      have e := tupItems_ints (i + 1) t
      simp [tupItems, noStr] at e ⊢
      exact e
/-- the ints of a row's tuple -/
def rowAt (h : Heap) (v : Value) : List Int := ((G.tupKeyC h noStr v).getD []).filterMap fun x => x.getLeft?
theorem inl_back : ∀ ks : List Int, (ks.map (Sum.inl : Int → Int ⊕ List Nat)).filterMap (fun x => x.getLeft?) = ks
  | [] => rfl
  | k :: ks => by
    rw [List.map_cons, List.filterMap_cons]
    show k :: _ = _
    rw [inl_back ks]
/-- a tracked tuple of ints, as the sort looks at it -/
theorem row_key {P : Program} {w : World} {H : Hp} {h : Heap} {b : Addr} {ks : List Int} (ok : HOk P w H h) (e : H b = some (.tup (ks.map V.int))) : G.tupKeyC h noStr (.ref b) = some (ks.map Sum.inl) ∧ (ks ≠ [] → ∃ f, TupOf h noStr (.ref b) f) := by
  obtain ⟨_, its, r, o, h1, h2, n, h3⟩ := (show ObjOk P w H h b (.tup (ks.map V.int)) from ok b _ e)
  have hc : o.cls = .type "tuple" := h2
  have t := tupItems_ints 0 r
  refine ⟨?_, fun hk => ?_⟩
  · have e1 : G.isTupObj h (.ref b) = true := by simp [G.isTupObj, h1, hc]
    unfold G.tupKeyC
    rw [if_pos e1]
    simp only [tupKey, h1, h3]
    exact t
  · cases ks with
    | nil => exact absurd rfl hk
    | cons k r2 =>
      cases r with
      | cons hu ht =>
        obtain ⟨tk, rfl⟩ := hu
        exact ⟨_, b, o, _, n, rfl, h1, hc, h3, rfl, fun _ => ⟨k, tk, rfl⟩, fun z => nomatch z⟩

theorem fst_zip_self : ∀ vs : List Value, (vs.zip vs).map (·.1) = vs
  | [] => rfl
  | v :: vs => by
    show v :: (vs.zip vs).map (·.1) = _
    rw [fst_zip_self vs]
theorem refs_paired {H : Hp} {f : Value → List Int} : ∀ {ws : List Value}, (∀ w ∈ ws, ∃ b, w = .ref b ∧ H b = some (.tup ((f w).map V.int))) → ∃ bs : List Addr, ws = bs.map Value.ref ∧ Paired (fun (y : List Int) (b : Addr) => H b = some (.tup (y.map V.int))) (ws.map f) bs
  | [], _ => ⟨[], rfl, .nil⟩
  | w :: ws, h => by
    obtain ⟨b, e, hb⟩ := h w List.mem_cons_self
    obtain ⟨bs, e2, p⟩ := refs_paired (f := f) fun x hx => h x (List.mem_cons_of_mem _ hx)
    refine ⟨b :: bs, by rw [List.map_cons, ← e2, ← e], .cons hb p⟩
theorem tups_of {P : Program} {w : World} {H : Hp} {h : Heap} (ok : HOk P w H h) : ∀ {ks : List (List Int)} {bs : List Addr}, Paired (fun (y : List Int) (b : Addr) => H b = some (.tup (y.map V.int))) ks bs → (∀ k ∈ ks, k ≠ []) → ∃ fs, TupsOf h noStr (bs.map Value.ref) fs
  | [], _, .nil, _ => ⟨[], .nil⟩
  | k :: ks, _, .cons hb t, hk => by
    obtain ⟨f, hf⟩ := (row_key ok hb).2 (hk k List.mem_cons_self)
    obtain ⟨fs, hfs⟩ := tups_of ok t fun x hx => hk x (List.mem_cons_of_mem _ hx)
    exact ⟨f :: fs, .cons hf hfs⟩
theorem rows_are {P : Program} {w : World} {H : Hp} {h : Heap} (ok : HOk P w H h) : ∀ {ks : List (List Int)} {bs : List Addr}, Paired (fun (y : List Int) (b : Addr) => H b = some (.tup (y.map V.int))) ks bs →
    (bs.map Value.ref).map (rowAt h) = ks ∧ ∀ v ∈ bs.map Value.ref, (∃ l, G.tupKeyC h noStr v = some l) ∧ G.tupKeyC h noStr v = some ((rowAt h v).map Sum.inl) ∧ ∃ b, v = .ref b ∧ H b = some (.tup ((rowAt h v).map V.int))
  | [], _, .nil => ⟨rfl, fun v hv => nomatch hv⟩
  | k :: ks, b :: bs, .cons hb t => by
    obtain ⟨e1, e2⟩ := rows_are ok t
    obtain ⟨q, _⟩ := row_key ok hb
    have er : rowAt h (.ref b) = k := by
      unfold rowAt
      rw [q]
      exact inl_back k
    refine ⟨by rw [List.map_cons, List.map_cons, er, e1], fun v hv => ?_⟩
    rcases List.mem_cons.mp hv with e | hv
    · subst e
      refine ⟨⟨_, q⟩, by rw [er]; exact q, _, rfl, by rw [er]; exact hb⟩
    · exact e2 v hv
/-- rows in their order -/
def Asc (ys : List (List Int)) : Prop := ys.Pairwise fun a b => ltI b a = false
/-- sorted(d): the keys' own tuples, by their rows -/
def rSortT : List V → Hp → VK → Prop := fun xs H Q => ∃ (d : Addr) (kvs : List (List Key × V)) (ks : List (List Int)), xs = [.ref d] ∧ Rd H d (.dT kvs) ∧ kvs.map (·.1) = ks.map (fun k => k.map Sum.inl) ∧ (∀ k ∈ ks, k ≠ []) ∧
  ∀ (p : Addr) (bs : List Addr) (ys : List (List Int)), ys.Perm ks → Asc ys → Paired (fun (y : List Int) (b : Addr) => H b = some (.tup (y.map V.int))) ys bs → H p = none → Q (.ref p) (upd H p (.lst (bs.map V.ref)))
theorem keys_paired {H : Hp} : ∀ {kvs : List (List Key × V)} {xs : List (List Key × Addr × Value)} {ks : List (List Int)}, KT H kvs xs → kvs.map (·.1) = ks.map (fun k => k.map Sum.inl) → Paired (fun (y : List Int) (b : Addr) => H b = some (.tup (y.map V.int))) ks (xs.map (·.2.1))
  | _, _, [], .nil, _ => .nil
  | _, _, _ :: _, .nil, e => by cases e
  | _, _, [], .cons _ _, e => by cases e
  | p :: _, q :: _, k :: ks, .cons h t, e => by
    rw [List.map_cons, List.map_cons] at e
    injection e with e1 e2
    refine .cons ?_ (keys_paired t e2)
    have e3 := h.2.1
    rw [e1, List.map_map] at e3
    exact e3
theorem call_sortedT {X : Cx} (hcalm : X.calm = true) : CallR X (.builtin "sorted") rSortT := by
  intro pins s σ H xs us Q I r q
  obtain ⟨d, kvs, ks, ex, hd, hks, hne, q⟩ := q
  subst ex
  obtain ⟨u, eu, rx⟩ := vals1 r
  subst eu
  cases rx
  obtain ⟨z, hs, xs, pr, o, es, ep, ho, hx, hdt, he, hn⟩ := (show ObjOk X.prog X.w H s.heap d (.dT kvs) from hd.ok I.hok)
  have l1 : es.size = xs.length := by rw [← Array.length_toList, he, List.length_map]
  have l2 : kvs.length = xs.length := Paired.length pr
  have l3 : ks.length = kvs.length := by
    have e := congrArg List.length hks
    rw [List.length_map, List.length_map] at e
    exact e.symm
  refine Calls.call_function_entry PyProof.Rows.kind_sorted PyProof.Rows.plain_sorted PyProof.Rows.entry_sorted (PyProof.Rows.args_sorted1 _) ?_
  unfold Builtin.«sorted»
  refine wpAny_bind (m := checkCount "sorted" 1 1 _) (wpAny_pure ?_)
  refine wpAny_bind (PySem.W.kdu_collect (A := X.A.in1) (kdl_raw hs hx hdt) (I.ok.hd hcalm) ho (by omega) fun h' tk acc hk hacc => ?_)
  have ea : acc.toList = (xs.map (·.2.1)).map Value.ref := by
    apply List.ext_getElem?
    intro j
    rw [List.map_map, List.getElem?_map]
    cases hj : acc.toList[j]? with
    | none =>
      have h1 := List.getElem?_eq_none_iff.mp hj
      rw [Array.length_toList, hacc.1] at h1
      rw [List.getElem?_eq_none (by omega)]
      rfl
    | some v =>
      obtain ⟨en, hen, hv⟩ := hacc.2 j v (by rw [← Array.getElem?_toList]; exact hj)
      rw [← Array.getElem?_toList, he, List.getElem?_map] at hen
      cases hb : xs[j]? with
      | none => rw [hb] at hen; cases hen
      | some b =>
        rw [hb] at hen
        have e2 := Option.some.inj hen
        rw [hv, ← e2]
        rfl
  have I1 : Inv X pins σ H { s with heap := h', toks := tk } := I.kept hk
  rw [ea]
  have kp := keys_paired pr hks
  have hzl : ((xs.map (·.2.1)).map Value.ref).length ≤ sizeLine := by rw [List.length_map, List.length_map]; omega
  refine wpAny_bind (wpAny_newList ?_ hzl)
  have I2 : Inv X pins σ H { s with heap := h'.push (seqObj "list" ((xs.map (·.2.1)).map Value.ref).toArray 0), toks := tk } := I1.kept (t' := tk) fun b o e => Heap.get?_push_of_some _ e
  obtain ⟨r1, r2⟩ := rows_are I2.hok kp
  obtain ⟨fs, hfs⟩ := tups_of I2.hok kp hne
  have hoL : (h'.push (seqObj "list" ((xs.map (·.2.1)).map Value.ref).toArray 0)).get? h'.objs.size = some (seqObj "list" ((xs.map (·.2.1)).map Value.ref).toArray 0) := Heap.get?_push_size _ rfl
  show wpAny _ _ _ _ _ { s with heap := h'.push (seqObj "list" ((xs.map (·.2.1)).map Value.ref).toArray 0), toks := tk }
  refine wpAny_bind (wpAny_holding (wpAny_call_entry PyProof.Rows.slot_list_sort ⟨_, hoL, rfl⟩ PyProof.Rows.entry_list_sort
    (G.list_sort_tups (s := { s with heap := h'.push (seqObj "list" ((xs.map (·.2.1)).map Value.ref).toArray 0), toks := tk }) hoL hfs (fun v hv => (r2 v hv).1) hzl fun st' g1 g2 g3 => ⟨_, rfl, ?_⟩) (PyProof.Rows.args_list_sort _)))
  generalize hvs : (xs.map (·.2.1)).map Value.ref = vs at *
  generalize hH : ({ s with heap := h'.push (seqObj "list" vs.toArray 0), toks := tk } : Shared).heap = hh at *
  obtain ⟨e', he'⟩ := PyProof.Rows.sortedHeap_at (vs := vs) (out := (arrOf st').map (·.2)) hoL
  have p1 : (arrOf st').toList.Perm (vs.zip vs) := by
    have z := Array.perm_iff_toList_perm.mp g1
    rwa [pairsOf_toList] at z
  have same : ∀ p ∈ (arrOf st').toList, p.1 = p.2 ∧ p.1 ∈ vs := fun p hp => by
    obtain ⟨e, hm⟩ := mem_zip_self (p1.mem_iff.mp hp)
    exact ⟨e, hm⟩
  have e12 : (arrOf st').toList.map (·.2) = (arrOf st').toList.map (·.1) := List.map_congr_left fun p hp => (same p hp).1.symm
  have pw : ((arrOf st').toList.map (·.2)).Perm vs := by
    have z := p1.map (·.1)
    rw [fst_zip_self] at z
    rw [e12]
    exact z
  obtain ⟨bs, ebs, pb⟩ := refs_paired (f := rowAt hh) (ws := (arrOf st').toList.map (·.2)) fun v hv => (r2 v (pw.mem_iff.mp hv)).2.2
  have py : (((arrOf st').toList.map (·.2)).map (rowAt hh)).Perm ks := by
    have z := pw.map (rowAt hh)
    rwa [r1] at z
  have asc : Asc (((arrOf st').toList.map (·.2)).map (rowAt hh)) := by
    refine List.pairwise_iff_getElem.mpr fun i j hi hj hij => ?_
    have hj2 : j < (arrOf st').toList.length := by simpa using hj
    have hi2 : i < (arrOf st').toList.length := by simpa using hi
    have hsz : j < (pairsOf vs).size := by
      rw [pairsOf_size, ← pw.length_eq, List.length_map]
      exact hj2
    have kk := g2 i j (Nat.le_of_lt hij) hsz
    have key : ∀ {k : Nat} (hk : k < (arrOf st').toList.length), KK (G.tupKindC hh noStr) (arrOf st') k = (rowAt hh (arrOf st').toList[k].2).map Sum.inl := fun {k} hk => by
      have hm := List.getElem_mem hk
      have e1 : (arrOf st')[k]? = some (arrOf st').toList[k] := by rw [← Array.getElem?_toList]; exact List.getElem?_eq_getElem hk
      obtain ⟨q1, q2⟩ := same _ hm
      unfold KK
      rw [e1, ← q1]
      show ((G.tupKeyC hh noStr (arrOf st').toList[k].1).getD []) = _
      rw [(r2 _ q2).2.1]
      rfl
    rw [key hi2, key hj2] at kk
    have kk2 : lexLt itemOrd ((rowAt hh (arrOf st').toList[j].2).map Sum.inl) ((rowAt hh (arrOf st').toList[i].2).map Sum.inl) = false := kk
    rw [ltI_lex] at kk2
    simpa using kk2
  have hlen : (bs.map V.ref).length ≤ sizeLine := by
    have z := congrArg List.length ebs
    rw [pw.length_eq, List.length_map] at z
    rw [List.length_map, ← z]
    exact hzl
  refine wpAny_pure ⟨_, rfl, .ref h'.objs.size, upd H h'.objs.size (.lst (bs.map V.ref)), I1.laid (t' := tk) (fun b u e => ?_) (Nat.le_refl _)
    (show ObjOk X.prog X.w _ _ _ (.lst (bs.map V.ref)) from ⟨hlen, bs.map Value.ref, e', vals_refs bs, ?_⟩), rfl, q _ bs _ py asc pb (I1.hok.fresh (Nat.le_refl _))⟩
  · have hb : b < h'.objs.size := Heap.lt_size e
    have sz : b < hh.objs.size := by
      rw [← hH]
      show b < (h'.push _).objs.size
      rw [size_push']
      exact Nat.lt_succ_of_lt hb
    show (sortedHeap hh h'.objs.size vs _).get? b = _
    rw [PyProof.Rows.sortedHeap_old (Nat.ne_of_lt hb) sz, ← hH]
    exact Heap.get?_push_of_some _ e
  · show (sortedHeap hh h'.objs.size vs _).get? _ = _
    have hH2 : h'.push (seqObj "list" vs.toArray 0) = hh := hH
    rw [hH2] at he'
    rw [he', ← ebs]
    have ee : (List.map (fun x => x.2) (arrOf st').toList).toArray = Array.map (fun x => x.2) (arrOf st') := by
      apply Array.toList_inj.mp
      rw [Array.toList_map]
    rw [ee]
end ClX
end

section
set_option maxRecDepth 100000
set_option maxHeartbeats 4000000
/-! == of two dicts with rows as keys and ints as values. -/
namespace ClX
open PySem PySem.Spec PyProof.Rows PyProof.V L2
section
variable {prog : Program} {w : World} {K : Type} [DecidableEq K] {knd : HeapKind prog w K} {A : Around} {E : Value → Shared → Prop} {s : Shared}
/-- from an entry on: each is found there, with the same int -/
inductive Finds (ys : List (K × Addr × Value)) : List (K × Addr × Value) → Bool → Prop
  | nil : Finds ys [] true
  | lost {k : K} {p : Addr × Value} {r : List (K × Addr × Value)} : atKey ys k = none → Finds ys ((k, p) :: r) false
  | met {k : K} {q q' : Addr} {i j : Int} {t u : Tok} {r : List (K × Addr × Value)} {b : Bool} : atKey ys k = some (q', .int j u) → Finds ys r b → Finds ys ((k, q, .int i t) :: r) ((i == j) && b)
theorem pairs_same {nm : String} {a b : Addr} {xs ys : List (K × Addr × Value)} {r : Bool} {Q : Bool → Shared → Prop} (ha : (a == sysModules) = false) (hb : (b == sysModules) = false) (hu : knd.room A)
    (da : s.heap.DictOfH knd a xs) (db : s.heap.DictOfH knd b ys) (fd : xs.length = ys.length → Finds ys xs r) (h : Q (xs.length == ys.length && r) s) : wpAny (model prog w) A (Builtin.Dict.samePairs nm a b) Q E s := by
  obtain ⟨oa, es, ep, hoa, _, hda, hea, hia, hna⟩ := da
  obtain ⟨ob, fs, fp, hob, _, hdb, heb, hib, hnb⟩ := db
  have la : es.size = xs.length := by rw [← Array.length_toList, hea, List.length_map]
  have lb : fs.size = ys.length := by rw [← Array.length_toList, heb, List.length_map]
  have at_b : ∀ j, fs[j]? = ys[j]?.map (entryOfKey knd) := fun j => by rw [← Array.getElem?_toList, heb, List.getElem?_map]
  unfold Builtin.Dict.samePairs Builtin.Dict.showsAll
  rw [if_neg (show ¬ (a == sysModules) = true by rw [ha]; exact Bool.false_ne_true), if_neg (show ¬ (b == sysModules) = true by rw [hb]; exact Bool.false_ne_true)]
  refine wpAny_bind (wpAny_pure (wpAny_bind (wpAny_pure (wpAny_bind (wpAny_dictEntries hoa hda ?_)))))
  dsimp only
  refine wpAny_bind (wpAny_dictEntries hob hdb ?_)
  by_cases hsz : es.size = fs.size
  case neg =>
    rw [if_pos (by simpa using hsz)]
    rw [show (xs.length == ys.length) = false by rw [← la, ← lb]; simpa using hsz, Bool.false_and] at h
    exact wpAny_bind (wpAny_rule (wpAny_pure h))
  case pos =>
    have hr : Q r s := by
      rw [show (xs.length == ys.length) = true by rw [← la, ← lb]; simpa using hsz, Bool.true_and] at h
      exact h
    rw [if_neg (by rw [hsz]; simp)]
    refine wpAny_bind (wpAny_dictEpoch hoa hda (wpAny_bind ?_))
    rw [Std.Legacy.Range.forIn_eq_forIn_range']
    simp only [Std.Legacy.Range.size, Nat.sub_zero, Nat.add_sub_cancel, Nat.div_one]
    refine wpAny_forIn_list _ (fun rest q s' => s' = s ∧ q = (none, ()) ∧ ∃ i, rest = List.range' i (es.size - i) ∧ i ≤ es.size ∧ Finds ys (xs.drop i) r) _ ?_ ?_ _ _ ⟨rfl, rfl, 0, by simp, Nat.zero_le _, fd (by omega)⟩
    · rintro x rest q s' ⟨rfl, rfl, i, er, hi, hf⟩
      have hlt : i < es.size := by
        rcases Nat.lt_or_ge i es.size with z | z
        · exact z
        · rw [Nat.sub_eq_zero_of_le z] at er
          cases er
      rw [show es.size - i = (es.size - (i + 1)) + 1 by omega, List.range'_succ] at er
      injection er with e1 e2
      subst e1
      have hlx : x < xs.length := by omega
      have hex : es[x]? = some (entryOfKey knd xs[x]) := by rw [← Array.getElem?_toList, hea, List.getElem?_map, List.getElem?_eq_getElem hlx] <;> rfl
      refine wpAny_bind (wpAny_dictEntries hoa hda ?_)
      rw [hex]
      rw [List.drop_eq_getElem_cons hlx] at hf
      have hk := hia _ (List.getElem_mem hlx)
      obtain ⟨k, p, vx⟩ : ∃ k p, xs[x] = (k, p) := ⟨_, _, rfl⟩
      rw [vx] at hf hk ⊢
      show wpAny _ _ (holding [Value.ref p.1, p.2] _ >>= _) _ _ _
      refine wpAny_bind (wpAny_holding (wpAny_bind (wpAny_dictFind_heap hu hk hob hdb heb hib hnb (fun no => ?_) fun j pj hj => ?_)))
      · have e0 := atKey_none_of_get no
        cases hf with
        | lost _ =>
          refine wpAny_pure ?_
          show wpAny _ _ (if (!false) = true then _ else _) _ _ _
          rw [if_pos (by decide)]
          exact wpAny_pure (wpAny_pure hr)
        | met e _ => rw [e0] at e; cases e
      · have e0 := atKey_of_get hnb hj
        refine wpAny_bind (wpAny_dictEntries hob hdb ?_)
        rw [at_b j, hj]
        cases hf with
        | lost e => rw [e0] at e; cases e
        | @met _ q q' i' j' t u _ b' e hrest =>
          rw [e0] at e
          cases e
          show wpAny _ _ (holding [Value.int j' u] (eqBool (.int i' t) (.int j' u))) _ _ _
          refine wpAny_holding (wpAny_eqBool_int ?_)
          cases hij : i' == j' with
          | false =>
            rw [hij, Bool.false_and] at hr
            show wpAny _ _ (if (!false) = true then _ else _) _ _ _
            rw [if_pos (by decide)]
            exact wpAny_pure (wpAny_pure hr)
          | true =>
            rw [hij, Bool.true_and] at hr
            show wpAny _ _ (if (!true) = true then _ else _) _ _ _
            rw [if_neg (by decide)]
            refine wpAny_bind (wpAny_dictEpoch hoa hda ?_)
            rw [if_neg (by simp)]
            exact wpAny_pure ⟨rfl, rfl, x + 1, e2, hlt, by rw [Bool.true_and]; exact hrest⟩
    · rintro q s' ⟨rfl, rfl, i, er, hi, hf⟩
      have hin : i = es.size := by
        rcases Nat.lt_or_ge i es.size with z | z
        · rw [show es.size - i = (es.size - (i + 1)) + 1 by omega, List.range'_succ] at er
          cases er
        · exact Nat.le_antisymm hi z
      rw [hin, la, List.drop_length] at hf
      cases hf
      exact wpAny_pure hr
end

def intV : V → Bool
  | .int _ => true
  | _ => false
/-- the two read alike -/
def sameT (ks ls : List (List Key × V)) : Bool := ks.length == ls.length && ks.all fun p => decide (valV ls p.1 = some p.2)
theorem finds_of {H : Hp} {ls : List (List Key × V)} {ys : List (List Key × Addr × Value)} (rl : KT H ls ys) (hl : ∀ p ∈ ls, intV p.2 = true) : ∀ {ks : List (List Key × V)} {xs : List (List Key × Addr × Value)}, KT H ks xs → (∀ p ∈ ks, intV p.2 = true) →
    Finds ys xs (ks.all fun p => decide (valV ls p.1 = some p.2))
  | [], _, .nil, _ => .nil
  | (k, v) :: ks, (k', q, u) :: xs, .cons h t, hk => by
    obtain ⟨e1, e2, e3⟩ := h
    have e1 : k = k' := e1
    subst e1
    have ih := finds_of rl hl t fun p hp => hk p (List.mem_cons_of_mem _ hp)
    have hv : intV v = true := hk (k, v) List.mem_cons_self
    cases v with
    | int i =>
      obtain ⟨tk, e4⟩ := (show ∃ t, u = Value.int i t from e3)
      subst e4
      have rv := rl.val k
      rw [List.all_cons]
      cases hf : valV ls k with
      | none =>
        rw [hf] at rv
        have en : (atKey ys k) = none := by
          cases q1 : atKey ys k with
          | none => rfl
          | some p => rw [q1] at rv; exact False.elim rv
        rw [show decide ((none : Option V) = some (k, V.int i).2) = false from decide_eq_false (fun z => nomatch z), Bool.false_and]
        exact .lost en
      | some v2 =>
        rw [hf] at rv
        cases q1 : atKey ys k with
        | none => rw [q1] at rv; exact False.elim rv
        | some p =>
          obtain ⟨q2, u2⟩ := p
          rw [q1] at rv
          have rv : L2.RelV v2 u2 := rv
          have hm : intV v2 = true := by
            have z : ∃ p ∈ ls, p.2 = v2 := by
              unfold valV at hf
              obtain ⟨p, hp, hp2⟩ := Option.map_eq_some_iff.mp hf
              exact ⟨p, List.mem_of_find?_eq_some hp, hp2⟩
            obtain ⟨p, hp, e⟩ := z
            rw [← e]
            exact hl p hp
          cases v2 with
          | int j =>
            obtain ⟨t2, e5⟩ := (show ∃ t, u2 = Value.int j t from rv)
            subst e5
            have ed : decide (some (V.int j) = some (k, V.int i).2) = (i == j) := by
              show decide (some (V.int j) = some (V.int i)) = _
              by_cases e : i = j
              · subst e
                simp
              · rw [decide_eq_false (fun z => e (V.int.inj (Option.some.inj z)).symm)]
                exact (beq_eq_false_iff_ne.mpr e).symm
            rw [ed]
            exact .met q1 ih
          | _ => cases hm
    | _ => cases hv
def rEqT : R2 := fun x y H Q => ∃ a b ks ls, x = .ref a ∧ y = .ref b ∧ Rd H a (.dT ks) ∧ Rd H b (.dT ls) ∧ (∀ p ∈ ks, intV p.2 = true) ∧ (∀ p ∈ ls, intV p.2 = true) ∧ Q (.bl (sameT ks ls)) H
def rNeT : R2 := fun x y H Q => ∃ a b ks ls, x = .ref a ∧ y = .ref b ∧ Rd H a (.dT ks) ∧ Rd H b (.dT ls) ∧ (∀ p ∈ ks, intV p.2 = true) ∧ (∀ p ∈ ls, intV p.2 = true) ∧ Q (.bl (!sameT ks ls)) H
section
variable {X : Cx}
theorem op_eq_T (hu : X.A.units + 1 < cLine) : OpR X (compareOp .Eq) rEqT := by
  intro pins s σ H x y v u Q I rx ry h
  obtain ⟨a, b, ks, ls, rfl, rfl, ea, eb, h1, h2, q⟩ := h
  cases rx
  cases ry
  obtain ⟨z1, n1, xs, r1, d1⟩ := dt_rd I.hok ea
  obtain ⟨z2, n2, ys, r2, d2⟩ := dt_rd I.hok eb
  have t1 : s.TypeIs (.ref a) "dict" := let ⟨o, _, _, ho, hx, _⟩ := d1; ⟨o, ho, hx.1⟩
  have t2 : s.TypeIs (.ref b) "dict" := let ⟨o, _, _, ho, hx, _⟩ := d2; ⟨o, ho, hx.1⟩
  have hl : (xs.length == ys.length && ks.all fun p => decide (valV ls p.1 = some p.2)) = sameT ks ls := by
    unfold sameT
    rw [Paired.length r1, Paired.length r2]
  refine wpAny_richCompare_same_room (op := .Eq) t1 t2 PySem.F.slot_dict_eq (wpAny_call_entry PySem.F.slot_dict_eq t1 PySem.F.entry_dict_eq ?_ (PySem.F.args_dict_eq_2 _ _)) (by omega)
  show wpAny _ _ (Builtin.Dict.dictSlotArgs "__eq__" ⟨[.ref a, .ref b], []⟩ >>= _) _ _ s
  unfold Builtin.Dict.dictSlotArgs
  refine wpAny_bind (wpAny_bind (wpAny_notOrdered_dict t1 ?_))
  show wpAny _ _ (pure (Value.ref a, Value.ref b)) _ _ s
  refine wpAny_pure (wpAny_bind (wpAny_isInstance (T := "dict") t2 PySem.F.sub_dict_dict ?_))
  simp only [Bool.not_true, Bool.false_eq_true, if_false]
  refine wpAny_bind (wpAny_pure (wpAny_bind (wpAny_pure (wpAny_bind (pairs_same (knd := tupleKind (mixKind X.prog X.w)) n1 n2 (tupleKind_room_in1 hu) d1 d2 (fun _ => finds_of r2 h2 r1 h1) ?_)))))
  refine wpAny_pure ⟨_, rfl, ?_, ?_⟩
  · exact fun x => nomatch x
  · rw [hl]
    exact fin_bl I q (by simp)
theorem op_ne_T (hu : X.A.units + 1 < cLine) : OpR X (compareOp .NotEq) rNeT := by
  intro pins s σ H x y v u Q I rx ry h
  obtain ⟨a, b, ks, ls, rfl, rfl, ea, eb, h1, h2, q⟩ := h
  cases rx
  cases ry
  obtain ⟨z1, n1, xs, r1, d1⟩ := dt_rd I.hok ea
  obtain ⟨z2, n2, ys, r2, d2⟩ := dt_rd I.hok eb
  have t1 : s.TypeIs (.ref a) "dict" := let ⟨o, _, _, ho, hx, _⟩ := d1; ⟨o, ho, hx.1⟩
  have t2 : s.TypeIs (.ref b) "dict" := let ⟨o, _, _, ho, hx, _⟩ := d2; ⟨o, ho, hx.1⟩
  have hl : (xs.length == ys.length && ks.all fun p => decide (valV ls p.1 = some p.2)) = sameT ks ls := by
    unfold sameT
    rw [Paired.length r1, Paired.length r2]
  refine wpAny_richCompare_same_room (op := .NotEq) t1 t2 PySem.F.slot_dict_ne (wpAny_call_entry PySem.F.slot_dict_ne t1 PySem.F.entry_dict_ne ?_ (PySem.F.args_dict_ne_2 _ _)) (by omega)
  show wpAny _ _ (Builtin.Dict.dictSlotArgs "__ne__" ⟨[.ref a, .ref b], []⟩ >>= _) _ _ s
  unfold Builtin.Dict.dictSlotArgs
  refine wpAny_bind (wpAny_bind (wpAny_notOrdered_dict t1 ?_))
  show wpAny _ _ (pure (Value.ref a, Value.ref b)) _ _ s
  refine wpAny_pure (wpAny_bind (wpAny_isInstance (T := "dict") t2 PySem.F.sub_dict_dict ?_))
  simp only [Bool.not_true, Bool.false_eq_true, if_false]
  refine wpAny_bind (wpAny_pure (wpAny_bind (wpAny_pure (wpAny_bind (pairs_same (knd := tupleKind (mixKind X.prog X.w)) n1 n2 (tupleKind_room_in1 hu) d1 d2 (fun _ => finds_of r2 h2 r1 h1) ?_)))))
  refine wpAny_pure ⟨_, rfl, ?_, ?_⟩
  · exact fun x => nomatch x
  · rw [hl]
    exact fin_bl I q (by simp)
end
end ClX
end

section
set_option maxRecDepth 100000
set_option maxHeartbeats 4000000
/-! repr of data with dicts, keys texts, ints or rows. -/
namespace L2
open PySem PySem.Spec PyProof.Rows
def keyD : Key → PyData
  | .inl i => .int i
  | .inr x => .str x
mutual
/-- data at any depth, dicts too -/
inductive Dr (b : Prop) (K : PySem.W.Frag) (H : Hp) : V → PyData → Prop
  | non : Dr b K H .non .none
  | bl (c : Bool) : Dr b K H (.bl c) (.bool c)
  | int (i : Int) : Dr b K H (.int i) (.int i)
  | str (x : Str) : Dr b K H (.str x) (.str x)
  | lst {a : Addr} {xs : List V} {ds : List PyData} : H a = some (.lst xs) → (b → a ≠ sysModules) → DrAll b K H xs ds → Dr b K H (.ref a) (.list ds)
  | tup {a : Addr} {xs : List V} {ds : List PyData} : H a = some (.tup xs) → DrAll b K H xs ds → Dr b K H (.ref a) (.tuple ds)
  | dctT {a : Addr} {kvs : List (List Key × V)} {ds : List (PyData × PyData)} : H a = some (.dT kvs) → DrKt b K H kvs ds → Dr b K H (.ref a) (.dict ds)
  | dct {a : Addr} {kvs : List (Key × V)} {ds : List (PyData × PyData)} : H a = some (.dK kvs) → DrKv b K H kvs ds → Dr b K H (.ref a) (.dict ds)
inductive DrAll (b : Prop) (K : PySem.W.Frag) (H : Hp) : List V → List PyData → Prop
  | nil : DrAll b K H [] []
  | cons {v : V} {vs : List V} {d : PyData} {ds : List PyData} : Dr b K H v d → DrAll b K H vs ds → DrAll b K H (v :: vs) (d :: ds)
inductive DrKv (b : Prop) (K : PySem.W.Frag) (H : Hp) : List (Key × V) → List (PyData × PyData) → Prop
  | nil : DrKv b K H [] []
  | cons {k : Key} {v : V} {vs : List (Key × V)} {d : PyData} {ds : List (PyData × PyData)} : Dr b K H v d → DrKv b K H vs ds → DrKv b K H ((k, v) :: vs) ((keyD k, d) :: ds)
inductive DrKt (b : Prop) (K : PySem.W.Frag) (H : Hp) : List (List Key × V) → List (PyData × PyData) → Prop
  | nil : DrKt b K H [] []
  | cons {k : List Key} {v : V} {vs : List (List Key × V)} {d : PyData} {ds : List (PyData × PyData)} : Dr b K H v d → DrKt b K H vs ds → DrKt b K H ((k, v) :: vs) ((.tuple (k.map keyD), d) :: ds)
end
mutual
theorem Dr.same {b : Prop} {K : PySem.W.Frag} {H H' : Hp} (S : Same H H') : ∀ {v : V} {d : PyData}, Dr b K H v d → Dr b K H' v d
  | _, _, .non => .non
  | _, _, .bl c => .bl c
  | _, _, .int i => .int i
  | _, _, .str x => .str x
  | _, _, .lst h n r => .lst (S _ _ h) n (DrAll.same S r)
  | _, _, .tup h r => .tup (S _ _ h) (DrAll.same S r)
  | _, _, .dct h r => .dct (S _ _ h) (DrKv.same S r)
  | _, _, .dctT h r => .dctT (S _ _ h) (DrKt.same S r)
theorem DrAll.same {b : Prop} {K : PySem.W.Frag} {H H' : Hp} (S : Same H H') : ∀ {v : List V} {d : List PyData}, DrAll b K H v d → DrAll b K H' v d
  | _, _, .nil => .nil
  | _, _, .cons h r => .cons (Dr.same S h) (DrAll.same S r)
theorem DrKv.same {b : Prop} {K : PySem.W.Frag} {H H' : Hp} (S : Same H H') : ∀ {v : List (Key × V)} {d : List (PyData × PyData)}, DrKv b K H v d → DrKv b K H' v d
  | _, _, .nil => .nil
  | _, _, .cons h r => .cons (Dr.same S h) (DrKv.same S r)
theorem DrKt.same {b : Prop} {K : PySem.W.Frag} {H H' : Hp} (S : Same H H') : ∀ {v : List (List Key × V)} {d : List (PyData × PyData)}, DrKt b K H v d → DrKt b K H' v d
  | _, _, .nil => .nil
  | _, _, .cons h r => .cons (Dr.same S h) (DrKt.same S r)
end
section
variable {X : Cx} {pins : List (Addr × Obj)} {σ : St} {H : Hp} {s : Shared}
theorem keys_read {P : Program} {w : World} {h : Heap} : ∀ {ks : List Key} {us : List Value}, Vals (ks.map kV) us → ReadsAll h us (ks.map keyD) []
  | [], us, r => by cases r; exact ReadsAll.nil
  | .inl i :: ks, us, r => by
    cases r with
    | cons r1 r2 =>
      obtain ⟨t, rfl⟩ := r1
      exact ReadsAll.cons (as := []) (Reads.int i t) (keys_read (P := P) (w := w) r2)
  | .inr x :: ks, us, r => by
    cases r with
    | cons r1 r2 =>
      obtain ⟨t, rfl⟩ := r1
      exact ReadsAll.cons (as := []) (Reads.str x t) (keys_read (P := P) (w := w) r2)
theorem row_read {P : Program} {w : World} {H : Hp} {h : Heap} {q : Addr} {ks : List Key} (ok : HOk P w H h) (e : H q = some (.tup (ks.map kV))) : Reads h (.ref q) (.tuple (ks.map keyD)) [] := by
  obtain ⟨_, its, r, o, ho, hc, n, hd⟩ := (show ObjOk P w H h q (.tup (ks.map kV)) from ok q _ e)
  exact Reads.tuple ho hc hd (by simpa using keys_read (P := P) (w := w) r)
mutual
theorem Dr.reads {b : Prop} (I : Inv X pins σ H s) : ∀ {v : V} {d : PyData} (u : Value), Dr b X.K H v d → RelV v u → ∃ as, Reads s.heap u d as ∧ (b → sysModules ∉ as)
  | _, _, _, .non, r => by
    cases r
    exact ⟨_, Reads.none, by simp⟩
  | _, _, _, .bl c, r => by
    cases r
    exact ⟨_, Reads.bool c, by simp⟩
  | _, _, _, .int i, r => by
    obtain ⟨t, rfl⟩ := r
    exact ⟨_, Reads.int i t, by simp⟩
  | _, _, _, .str x, r => by
    obtain ⟨t, rfl⟩ := r
    exact ⟨_, Reads.str x t, by simp⟩
  | _, _, _, .lst hs hna ha, r => by
      cases r
      obtain ⟨its, rv, ⟨o, n, ho, hc, _, hd⟩, _⟩ := I.list (SqL.of hs)
      obtain ⟨as, hr, hn⟩ := DrAll.reads I its ha rv
      refine ⟨_, Reads.list ho hc hd hr, ?_⟩
      intro hb hm
      rcases List.mem_cons.mp hm with e | e
      · exact hna hb e.symm
      · exact hn hb e
  | _, _, _, .tup hs ha, r => by
      cases r
      obtain ⟨its, rv, ⟨o, ho, hc, n, hd⟩, _⟩ := I.tuple (SqT.of hs)
      obtain ⟨as, hr, hn⟩ := DrAll.reads I its ha rv
      exact ⟨_, Reads.tuple ho hc hd hr, hn⟩
  | _, _, _, .dct hs ha, r => by
      cases r
      obtain ⟨_, hm, vs, kv, o, es, ep, ho, hx, hd, hk, hp, _⟩ := dk_of I.hok hs
      obtain ⟨as, bs, h1, h2, n1, n2⟩ := DrKv.reads I vs es.toList ha kv hp
      refine ⟨_, Reads.dict ho hx.1 hd h1 h2, ?_⟩
      intro hb hmem
      rcases List.mem_append.mp hmem with e | e
      · rcases List.mem_cons.mp e with e | e
        · rw [e] at hm
          simp at hm
        · exact n1 hb e
      · exact n2 hb e
  | _, _, _, .dctT hs ha, r => by
      cases r
      obtain ⟨_, hm, xs, rk, o, es, ep, ho, hx, hd, he, _, _⟩ := dt_of I.hok hs
      obtain ⟨as, bs, h1, h2, n1, n2⟩ := DrKt.reads I xs ha rk
      rw [← he] at h1 h2
      refine ⟨_, Reads.dict ho hx.1 hd h1 h2, ?_⟩
      intro hb hmem
      rcases List.mem_append.mp hmem with e | e
      · rcases List.mem_cons.mp e with e | e
        · rw [e] at hm
          simp at hm
        · exact n1 hb e
      · exact n2 hb e
theorem DrAll.reads {b : Prop} (I : Inv X pins σ H s) : ∀ {v : List V} {d : List PyData} (us : List Value), DrAll b X.K H v d → Vals v us → ∃ as, ReadsAll s.heap us d as ∧ (b → sysModules ∉ as)
  | _, _, _, .nil, r => by
    cases r
    exact ⟨_, ReadsAll.nil, by simp⟩
  | _, _, _, .cons h1 h2, r => by
      cases r with
      | cons r1 r2 =>
        obtain ⟨as, q1, n1⟩ := Dr.reads I _ h1 r1
        obtain ⟨bs, q2, n2⟩ := DrAll.reads I _ h2 r2
        exact ⟨_, ReadsAll.cons q1 q2, fun hb hm => (List.mem_append.mp hm).elim (n1 hb) (n2 hb)⟩
theorem DrKv.reads {b : Prop} (I : Inv X pins σ H s) : ∀ {v : List (Key × V)} {d : List (PyData × PyData)} (ws : List (Key × Value)) (es : List DictEntry), DrKv b X.K H v d → KV v ws → Pairs (mixKind X.prog X.w) es ws →
    ∃ as bs, ReadsAll s.heap (es.map (·.key)) (d.map (·.1)) as ∧ ReadsAll s.heap (es.map (·.val)) (d.map (·.2)) bs ∧ (b → sysModules ∉ as) ∧ (b → sysModules ∉ bs)
  | _, _, _, _, .nil, kv, hp => by
    cases kv
    cases hp
    exact ⟨_, _, ReadsAll.nil, ReadsAll.nil, by simp, by simp⟩
  | _, _, _, _, .cons (k := k) h1 h2, kv, hp => by
      cases kv with
      | cons r1 r2 =>
        cases hp with
        | @cons e w es ws hk hv hp =>
          obtain ⟨e1, r1⟩ := r1
          obtain ⟨as, q1, n1⟩ := Dr.reads I _ h1 r1
          obtain ⟨cs, bs, q2, q3, n2, n3⟩ := DrKv.reads I _ _ h2 r2 hp
          have hk2 : keyIs k e.key = true := by
            have := hk
            rw [← e1] at this
            exact this
          have rk : Reads s.heap e.key (keyD k) [] := by
            rcases keyIs_shape hk2 with ⟨i, t, rfl, e2⟩ | ⟨x, t, rfl, e2⟩
            · rw [e2]; exact Reads.int i t
            · rw [e2]; exact Reads.str x t
          refine ⟨[] ++ cs, as ++ bs, ReadsAll.cons rk q2, ReadsAll.cons (by show Reads s.heap e.val _ _; rw [hv]; exact q1) q3, by simpa using n2, fun hb hm => (List.mem_append.mp hm).elim (n1 hb) (n3 hb)⟩
theorem DrKt.reads {b : Prop} (I : Inv X pins σ H s) : ∀ {v : List (List Key × V)} {d : List (PyData × PyData)} (xs : List (List Key × Addr × Value)), DrKt b X.K H v d → KT H v xs →
    ∃ as bs, ReadsAll s.heap ((xs.map (entryOfKey (tupleKind (mixKind X.prog X.w)))).map (·.key)) (d.map (·.1)) as ∧ ReadsAll s.heap ((xs.map (entryOfKey (tupleKind (mixKind X.prog X.w)))).map (·.val)) (d.map (·.2)) bs ∧ (b → sysModules ∉ as) ∧ (b → sysModules ∉ bs)
  | _, _, _, .nil, kt => by
    cases kt
    exact ⟨_, _, ReadsAll.nil, ReadsAll.nil, by simp, by simp⟩
  | _, _, _, .cons (k := k) h1 h2, kt => by
      cases kt with
      | cons r1 r2 =>
        obtain ⟨e1, e2, r1⟩ := r1
        obtain ⟨as, q1, n1⟩ := Dr.reads I _ h1 r1
        obtain ⟨cs, bs, q2, q3, n2, n3⟩ := DrKt.reads I _ h2 r2
        exact ⟨[] ++ cs, as ++ bs, ReadsAll.cons (row_read I.hok e2) q2, ReadsAll.cons q1 q3, by simpa using n2, fun hb hm => (List.mem_append.mp hm).elim (n1 hb) (n3 hb)⟩
end
end
section
variable {X : Cx}
/-- repr(e), e a list -/
def rRepR (K : PySem.W.Frag) : List V → Hp → VK → Prop := fun xs H Q => ∃ (a : Addr) (d : PyData) (b : Prop), xs = [.ref a] ∧ Dr b K H (.ref a) d ∧ (d.hasDict = true → b) ∧ d.showable = true ∧ d.depth ≤ 20 ∧ d.shown.length ≤ sizeLine ∧ Q (.str d.shown) H
theorem call_reprR (hg : X.A.guards = some []) (hu : X.A.units + 64 < cLine) : CallR X (.builtin "repr") (rRepR X.K) := by
  intro pins s σ H xs us Q I r h
  obtain ⟨a, d, b, rfl, hd, hS, hs, hdp, hz, q⟩ := h
  obtain ⟨u, rfl, ru⟩ := vals1 r
  cases ru
  obtain ⟨as, hr, hn⟩ := Dr.reads I _ hd rfl
  exact repr_of_reads' hr hs (fun z => hn (hS z)) hg (by omega) (fun _ _ e => e) (fun h' u tk k => ⟨.str _, H, I.kept (t' := tk) k, ⟨u, rfl⟩, q⟩) hz
end
end L2
end

section
set_option maxRecDepth 100000
set_option maxHeartbeats 1000000
namespace P2
open PySem L2
def top (i : Nat) : Stmt := PySem.Challenge.pw_unswayed_k97_texts_of_deeds.main.body.getD i (.Pass ⟨0, 0, 0, 0⟩)
/-- a def whose exceptions are told -/
theorem okX {P : Program} {w : World} {K : PySem.W.Frag} {mg : Str → Option Value} {base : Heap} {x qual : Str} {st : Stmt} {f : Addr} {fd : FuncData} {N ps : List Str} {k : Nat} {sp : Sp} (F : Fun K x qual st f fd) (S : FnScope N ps (defScope st)) (len : ∀ vs H Q E, sp vs H Q E → vs.length = ps.length)
    (hbody : ∀ (cdv : Value) (A : Around) (outer : List Env) (s : Shared) (H : Hp) (vs : List V) (Q : VK) (E : XK), Room k (A.deeper (PyProof.Rows.envOfC qual (defScope st) s.heap.objs.size f cdv)) → sp vs H Q E →
      ∃ t, PSs (cxOf (L2.CX P w) P w K mg base N qual (defScope st) f cdv A outer s H E) (defBody st) t ∧ t { nx := fun _ H' => Q .non H', rt := Q } (start N vs) H) : FnOk P w K mg base (L2.CX P w) (k + 1) f fd ps sp := by
  obtain ⟨oc, od, kV, doc, pm, an, cdv, ct, osl, rfl, lk, hcd⟩ := F.ex
  exact fn_of lk hcd S len fun A outer s H vs Q E hr hsp => hbody cdv A outer s H vs Q E hr hsp
/-- the kinds of plain values -/
def kinds7 : List String := ["NoneType", "bool", "int", "str", "list", "tuple", "dict"]
theorem kk_int : ∀ n ∈ kinds7, kitB n "int" = some (decide (n = "int") || decide (n = "bool")) := by decide +kernel
theorem kk_bool : ∀ n ∈ kinds7, kitB n "bool" = some (decide (n = "bool")) := by decide +kernel
def PV (K : PySem.W.Frag) (H : Hp) (v : V) : Prop := ∃ n, n ∈ kinds7 ∧ TyX K H v (.type n)
def isI : V → Bool
  | .int _ => true
  | _ => false
theorem ty_int {K : PySem.W.Frag} {H : Hp} {v : V} {n : String} (t : TyX K H v (.type n)) (hn : n ∈ kinds7) : isI v = decide (n = "int") := by
  cases t with
  | base b => cases b <;> first | rfl | (simp [isI] <;> decide)
  | byt b => simp [kinds7] at hn
  | set e => simp [kinds7] at hn
  | _ => rfl
def primes : List Int := [2, 3, 5, 7, 11, 13, 17, 19, 23, 29, 31, 37, 41, 43, 47, 53, 59, 61, 67, 71, 73, 79, 83, 89, 97]
/-- the names of the top -/
structure Tx (K : PySem.W.Frag) (mg : Str → Option Value) (bp : Addr) : Prop where
  isi : mg "isinstance" = none
  int : mg "int" = none
  bool : mg "bool" = none
  list : mg "list" = none
  tuple : mg "tuple" = none
  dict : mg "dict" = none
  len : mg "len" = none
  all : mg "all" = none
  any : mg "any" = none
  sum : mg "sum" = none
  max : mg "max" = none
  sorted : mg "sorted" = none
  range : mg "range" = none
  enum : mg "enumerate" = none
  repr : mg "repr" = none
  zip : mg "zip" = none
  primes : ∃ a, mg "PRIMES" = some (.ref a) ∧ ∀ H, SqT K H a (primes.map V.int)
  gbp : mg "BadPrime" = some (.ref bp)
  xbp : PySem.W.excIn K bp [.type "ValueError", .type "Exception", .type "BaseException", .type "object"] "ValueError.__new__" = true
  kbp : PySem.W.keepIn K (.ref bp) = true
  cbp : ExcC K bp
section
variable {P : Program} {w : World} {K : PySem.W.Frag} {mg : Str → Option Value} {base : Heap} {bp : Addr}
def spIsNum (K : PySem.W.Frag) : Sp := fun vs H Q _ => ∃ v, vs = [v] ∧ PV K H v ∧ Q (.bl (isI v)) H
theorem sc8 : FnScope ["thing"] ["thing"] (defScope (top 16)) := ⟨rfl, rfl, rfl, by decide +kernel, rfl, by decide +kernel, by decide +kernel⟩
theorem ok_isnum {f : Addr} {fd : FuncData} (F : Fun K "is_number" "is_number" (top 16) f fd) (T : Tx K mg bp) : FnOk P w K mg base CX0 1 f fd ["thing"] (spIsNum K) := by
  refine F.ok sc8 (fun vs H Q E h => ?_) (fun cdv A outer s H vs Q E hr h => ?_)
  · obtain ⟨v, rfl, _⟩ := h
    rfl
  · obtain ⟨v, rfl, ⟨n, hn, t⟩, k⟩ := h
    refine ⟨_, pss_one (ps_ret (pe_and (pe_callB (r := rIsi K) call_isi (by rfl) T.isi (by decide +kernel) (pa_cons (pv 0) (pa_cons (pe_bltn (v := .ty "int") (by rfl) T.int (by decide +kernel) rfl) pa_nil)))
      (pe_one (pe_not (pe_callB (r := rIsi K) call_isi (by rfl) T.isi (by decide +kernel) (pa_cons (pv 0) (pa_cons (pe_bltn (v := .ty "bool") (by rfl) T.bool (by decide +kernel) rfl) pa_nil))))))), ?_⟩
    rw [ty_int t hn] at k
    refine ⟨v, rfl, v, .ty "int", .type n, .type "int", _, rfl, .ty _, t, kit_ty (kk_int n hn), _, rfl, ite2 (fun h1 => ?_) fun h1 => ?_⟩
    · refine ⟨v, rfl, v, .ty "bool", .type n, .type "bool", _, rfl, .ty _, t, kit_ty (kk_bool n hn), _, rfl, ?_⟩
      have e : decide (n = "int") = !decide (n = "bool") := by
        by_cases h2 : n = "int"
        · subst h2
          decide +kernel
        · rw [decide_eq_false h2, Bool.false_or] at h1
          rw [decide_eq_false h2, h1]
          rfl
      rw [← e]
      exact k
    · have e : decide (n = "int") = false := by
        cases hd : decide (n = "int") with
        | false => rfl
        | true => rw [hd] at h1; exact absurd rfl h1
      rw [e] at k
      exact k
theorem inV_int (i : Int) : ∀ l : List Int, inV (.int i) (l.map V.int) = decide (i ∈ l)
  | [] => by simp [inV]
  | x :: l => by
    have ih := inV_int i l
    unfold inV at ih ⊢
    rw [List.map_cons, List.any_cons, ih]
    show ((x == i) || decide (i ∈ l)) = _
    by_cases h : x = i
    · subst h
      simp
    · rw [beq_eq_false_iff_ne.mpr h, Bool.false_or]
      have e : (i ∈ x :: l) ↔ i ∈ l := by simp [Ne.symm h]
      exact (decide_eq_decide.mpr e).symm
/-- a value is an int from a to b -/
def inB (v : V) (a b : Int) : Bool := match v with
  | .int i => decide (a ≤ i) && decide (i ≤ b)
  | _ => false
theorem isI_some {v : V} (h : isI v = true) : ∃ i, v = .int i := by
  cases v <;> first | exact ⟨_, rfl⟩ | cases h
def spWithin (K : PySem.W.Frag) : Sp := fun vs H Q _ => ∃ v a b, vs = [v, .int a, .int b] ∧ PV K H v ∧ Q (.bl (inB v a b)) H
theorem sc9 : FnScope ["thing", "least", "most"] ["thing", "least", "most"] (defScope (top 17)) := ⟨rfl, rfl, rfl, by decide +kernel, rfl, by decide +kernel, by decide +kernel⟩
theorem ok_within {f fN : Addr} {fd fdN : FuncData} (F : Fun K "is_within" "is_within" (top 17) f fd) (GN : FnOk P w K mg base CX0 1 fN fdN ["thing"] (spIsNum K)) (kN : PySem.W.keepIn K (.ref fN) = true) (bN : Binds K fdN ["thing"] []) (gN : mg "is_number" = some (.ref fN)) :
    FnOk P w K mg base CX0 2 f fd ["thing", "least", "most"] (spWithin K) := by
  refine F.ok sc9 (fun vs H Q E h => ?_) (fun cdv A outer s H vs Q E hr h => ?_)
  · obtain ⟨v, a, b, rfl, _⟩ := h
    rfl
  · obtain ⟨v, a, b, rfl, pv_, k⟩ := h
    refine ⟨_, pss_one (ps_ret (pe_and (pe_call GN hr rfl gN kN bN .nil pass0 (pa_cons (pv 0) pa_nil)) (pe_one (pe_chain op_le op_le (pv 1) (pv 0) (pv 2))))), ?_⟩
    refine ⟨v, rfl, v, rfl, pv_, _, rfl, ite2 (fun h1 => ?_) fun h1 => ?_⟩
    · obtain ⟨i, rfl⟩ := isI_some h1
      refine ⟨_, rfl, _, rfl, _, _, rfl, rfl, _, rfl, ite2 (fun h2 => ?_) fun h2 => ?_⟩
      · refine ⟨_, rfl, _, _, rfl, rfl, ?_⟩
        have e : inB (.int i) a b = decide (i ≤ b) := by
          show (decide (a ≤ i) && decide (i ≤ b)) = _
          rw [h2, Bool.true_and]
        rw [e] at k
        exact k
      · have e : inB (.int i) a b = false := by
          show (decide (a ≤ i) && decide (i ≤ b)) = _
          rw [Bool.eq_false_iff.mpr h2, Bool.false_and]
        rw [e] at k
        exact k
    · have e : inB v a b = false := by
        cases v <;> first | rfl | exact absurd rfl h1
      rw [e] at k
      exact k
/-- a value may be given where a list is wanted -/
def isL (n : String) : Bool := decide (n = "list") || decide (n = "tuple")
theorem kk_list : ∀ n ∈ kinds7, kitB n "list" = some (decide (n = "list")) := by decide +kernel
theorem kk_tuple : ∀ n ∈ kinds7, kitB n "tuple" = some (decide (n = "tuple")) := by decide +kernel
theorem kk_dict : ∀ n ∈ kinds7, kitB n "dict" = some (decide (n = "dict")) := by decide +kernel
def spIsList (K : PySem.W.Frag) : Sp := fun vs H Q _ => ∃ v n, vs = [v] ∧ n ∈ kinds7 ∧ TyX K H v (.type n) ∧ ∀ H', Same H H' → Q (.bl (isL n)) H'
theorem sc10 : FnScope ["thing"] ["thing"] (defScope (top 18)) := ⟨rfl, rfl, rfl, by decide +kernel, rfl, by decide +kernel, by decide +kernel⟩
theorem _root_.L2.Same.put {H H' : Hp} {D : Addr} {o : HO} (S : Same H H') (h : H D = none) : Same H (upd H' D o) := fun b u e => by
  rw [upd_ne (ne_of_none e h)]; exact S b u e
theorem _root_.L2.Same.new {H H' : Hp} {D : Addr} {o : HO} (S : Same H H') (h : H' D = none) : Same H (upd H' D o) := S.put (S.free h)
theorem tyx_same {K : PySem.W.Frag} {H H' : Hp} {v : V} {t : Value} (x : TyX K H v t) (S : Same H H') : TyX K H' v t := by
  cases x with
  | base b =>
    refine .base ?_
    cases b with
    | non => exact .non
    | bl y => exact .bl y
    | int i => exact .int i
    | str y => exact .str y
    | flt y => exact .flt y
    | lst e => exact .lst (S _ _ e)
    | frz e => exact .frz (S _ _ e)
    | tup e => exact .tup (S _ _ e)
    | dK e => exact .dK (S _ _ e)
    | dT e => exact .dT (S _ _ e)
    | ins e c a b d m => exact .ins (S _ _ e) c a b d m
  | byt b => exact .byt b
  | set e => exact .set (S _ _ e)
  | kList e c => exact .kList e c
  | kTuple e c => exact .kTuple e c
  | kDict e c => exact .kDict e c
  | fTuple e => exact .fTuple (S _ _ e)
  | fDict e => exact .fDict (S _ _ e)
theorem pv_same {K : PySem.W.Frag} {H H' : Hp} {v : V} (x : PV K H v) (S : Same H H') : PV K H' v := let ⟨n, h1, h2⟩ := x; ⟨n, h1, tyx_same h2 S⟩
theorem _root_.L2.Same.seqT {K : PySem.W.Frag} {H H' : Hp} {a : Addr} {xs : List V} (e : Same H H') (h : SqT K H a xs) : SqT K H' a xs := by
  rcases h with (h | ⟨o, h⟩) | h
  · exact .inl (.inl (e _ _ h))
  · exact .inl (.inr ⟨o, e _ _ h⟩)
  · exact .inr h
theorem tyx_new {K : PySem.W.Frag} {H : Hp} {v : V} {t : Value} {p : Addr} {o : HO} (x : TyX K H v t) (h : H p = none) : TyX K (upd H p o) v t := by
  have up : ∀ {a : Addr} {u : HO}, H a = some u → upd H p o a = some u := fun {a u} e => by rw [upd_ne (ne_of_none e h)]; exact e
  cases x with
  | base b =>
    refine .base ?_
    cases b with
    | non => exact .non
    | bl y => exact .bl y
    | int i => exact .int i
    | str y => exact .str y
    | flt y => exact .flt y
    | lst e => exact .lst (up e)
    | frz e => exact .frz (up e)
    | tup e => exact .tup (up e)
    | dK e => exact .dK (up e)
    | dT e => exact .dT (up e)
    | ins e c a b d m => exact .ins (up e) c a b d m
  | byt b => exact .byt b
  | set e => exact .set (up e)
  | kList e c => exact .kList e c
  | kTuple e c => exact .kTuple e c
  | kDict e c => exact .kDict e c
  | fTuple e => exact .fTuple (up e)
  | fDict e => exact .fDict (up e)
theorem ok_islist {f : Addr} {fd : FuncData} (F : Fun K "is_list" "is_list" (top 18) f fd) (T : Tx K mg bp) : FnOk P w K mg base CX0 1 f fd ["thing"] (spIsList K) := by
  refine F.ok sc10 (fun vs H Q E h => ?_) (fun cdv A outer s H vs Q E hr h => ?_)
  · obtain ⟨v, n, rfl, _⟩ := h
    rfl
  · obtain ⟨v, n, rfl, hn, t, k⟩ := h
    refine ⟨_, pss_one (ps_ret (pe_callB (r := rIsiT K) call_isiT (by rfl) T.isi (by decide +kernel) (pa_cons (pv 0) (pa_cons (pe_tup (pa_cons (pe_bltn (v := .ty "list") (by rfl) T.list (by decide +kernel) rfl) (pa_cons (pe_bltn (v := .ty "tuple") (by rfl) T.tuple (by decide +kernel) rfl) pa_nil))) pa_nil)))), ?_⟩
    refine ⟨v, rfl, by show 2 ≤ sizeLine; decide, fun p hp => ?_⟩
    refine ⟨v, p, _, .type n, [.type "list", .type "tuple"], isL n, rfl, upd_same, .cons (.ty _) (.cons (.ty _) .nil), tyx_new t hp, ?_, k _ ((Same.refl _).put hp)⟩
    refine kitAny_cons (kit_ty (kk_list n hn)) (fun h1 => kitAny_cons (kit_ty (kk_tuple n hn)) (fun h2 => ?_) fun h2 => ?_) fun h1 => ?_
    · unfold isL
      rw [h1, h2]
      exact kitAny_nil
    · unfold isL
      rw [h1, h2]
      rfl
    · unfold isL
      rw [h1]
      rfl
/-- a prime that is let -/
def isP (v : V) : Bool := match v with
  | .int i => decide (i ∈ primes)
  | _ => false
def spIsPrime (K : PySem.W.Frag) : Sp := fun vs H Q _ => ∃ v, vs = [v] ∧ PV K H v ∧ Q (.bl (isP v)) H
theorem sc12 : FnScope ["thing"] ["thing"] (defScope (top 20)) := ⟨rfl, rfl, rfl, by decide +kernel, rfl, by decide +kernel, by decide +kernel⟩
theorem ok_isprime {f fN : Addr} {fd fdN : FuncData} (F : Fun K "is_prime" "is_prime" (top 20) f fd) (T : Tx K mg bp) (GN : FnOk P w K mg base CX0 1 fN fdN ["thing"] (spIsNum K)) (kN : PySem.W.keepIn K (.ref fN) = true) (bN : Binds K fdN ["thing"] []) (gN : mg "is_number" = some (.ref fN)) :
    FnOk P w K mg base CX0 2 f fd ["thing"] (spIsPrime K) := by
  refine F.ok sc12 (fun vs H Q E h => ?_) (fun cdv A outer s H vs Q E hr h => ?_)
  · obtain ⟨v, rfl, _⟩ := h
    rfl
  · obtain ⟨v, rfl, pv_, k⟩ := h
    obtain ⟨aP, gP, hP⟩ := T.primes
    refine ⟨_, pss_one (ps_ret (pe_and (pe_call GN hr rfl gN kN bN .nil pass0 (pa_cons (pv 0) pa_nil)) (pe_one (pe_cmpR op_in_seq (pv 0) (pe_glob (v := .ref aP) (by rfl) gP rfl) (by rfl))))), ?_⟩
    refine ⟨v, rfl, v, rfl, pv_, _, rfl, ite2 (fun h1 => ?_) fun h1 => ?_⟩
    · obtain ⟨i, rfl⟩ := isI_some h1
      refine ⟨_, rfl, aP, _, rfl, .inr (hP _), rfl, by decide +kernel, ?_⟩
      exact (inV_int i primes) ▸ k
    · cases v <;> first | exact k | exact absurd rfl h1
def spCheckPrime (K : PySem.W.Frag) (bp : Addr) : Sp := fun vs H Q E => ∃ v, vs = [v] ∧ PV K H v ∧ (isP v = true → Q .non H) ∧ (isP v = false → E (.ref bp) none H)
theorem sc13 : FnScope ["prime"] ["prime"] (defScope (top 21)) := ⟨rfl, rfl, rfl, by decide +kernel, rfl, by decide +kernel, by decide +kernel⟩
theorem raises_exc {X : Cx} {C : Addr} (h : PySem.W.subIn X.K (.ref C) (.type "BaseException") = some true) (h2 : PySem.W.typeIn X.K (.ref C) = some (.type "type")) : Raises X (.ref C) := raises_own h h2
theorem ok_checkprime {f fN : Addr} {fd fdN : FuncData} (F : Fun K "check_prime" "check_prime" (top 21) f fd) (T : Tx K mg bp) (tbp : PySem.W.typeIn K (.ref bp) = some (.type "type")) (GN : FnOk P w K mg base CX0 2 fN fdN ["thing"] (spIsPrime K)) (kN : PySem.W.keepIn K (.ref fN) = true) (bN : Binds K fdN ["thing"] []) (gN : mg "is_prime" = some (.ref fN)) :
    FnOk P w K mg base (L2.CX P w) 3 f fd ["prime"] (spCheckPrime K bp) := by
  refine okX F sc13 (fun vs H Q E h => ?_) (fun cdv A outer s H vs Q E hr h => ?_)
  · obtain ⟨v, rfl, _⟩ := h
    rfl
  · obtain ⟨v, rfl, pv_, k1, k2⟩ := h
    refine ⟨_, pss_one (ps_if (pt_not (pt_val (pe_call GN hr rfl gN kN bN .nil pass0 (pa_cons (pv 0) pa_nil))))
      (pss_one (ps_raise rfl (takes_of rfl rfl rfl rfl) (pmk_own PySem.F.excBase_ValueError T.xbp T.gbp T.kbp (raises_own T.cbp.hs tbp) rfl))) pss_nil), ?_⟩
    refine ⟨v, rfl, v, rfl, pv_, isP v, rfl, ?_⟩
    cases hp : isP v with
    | true => exact iteF (k1 hp)
    | false => exact iteT (k2 hp)
end
end P2
end

section
set_option maxRecDepth 100000
set_option maxHeartbeats 1000000
namespace P2
open PySem L2
/-- two ways to walk, by what the heap says -/
theorem pi_or {X : Cx} {tg e : Expr} {w1 w2 : TI} (h1 : PI X tg e w1) (h2 : PI X tg e w2) : PI X tg e (fun σ H R => w1 σ H R ∨ w2 σ H R) := ⟨fun pins s σ H R I h => h.elim (h1.run pins s σ H R I) (h2.run pins s σ H R I)⟩
theorem take_succ {α β : Type} (f : α → β) {xs : List α} {i : Nat} {x : α} (h : xs[i]? = some x) : (xs.take (i + 1)).map f = (xs.take i).map f ++ [f x] := by
  rw [List.take_succ, h, List.map_append]
  rfl
theorem seq_or {K : PySem.W.Frag} {H H' : Hp} {a : Addr} {xs : List V} (S : Same H H') (h : SqL K H a xs ∨ SqT K H a xs) : SqL K H' a xs ∨ SqT K H' a xs := h.elim (fun h => .inl (S.seq h)) fun h => .inr (S.seqT h)
section
variable {P : Program} {w : World} {K : PySem.W.Frag} {mg : Str → Option Value} {base : Heap} {bp : Addr}
def spAreNum (K : PySem.W.Frag) : Sp := fun vs H Q _ => ∃ (v : V) (n : String) (m : Int) (a : Addr) (xs : List V), vs = [v, .int m] ∧ n ∈ kinds7 ∧ TyX K H v (.type n) ∧ (isL n = true → v = .ref a ∧ (SqL K H a xs ∨ SqT K H a xs) ∧ xs.length ≤ 1000 ∧ ∀ x ∈ xs, PV K H x) ∧
  ∀ H', Same H H' → Q (.bl (isL n && (decide ((xs.length : Int) = m) && xs.all isI))) H'
abbrev NA : List Str := ["thing", "many", "item"]
theorem sc11 : FnScope NA ["thing", "many"] (defScope (top 19)) := ⟨rfl, rfl, rfl, by decide +kernel, rfl, by decide +kernel, by decide +kernel⟩
theorem ok_arenum {f fN fL : Addr} {fd fdN fdL : FuncData} (F : Fun K "are_numbers" "are_numbers" (top 19) f fd) (T : Tx K mg bp) (GN : FnOk P w K mg base CX0 1 fN fdN ["thing"] (spIsNum K)) (kN : PySem.W.keepIn K (.ref fN) = true) (bN : Binds K fdN ["thing"] []) (gN : mg "is_number" = some (.ref fN))
    (GL : FnOk P w K mg base CX0 1 fL fdL ["thing"] (spIsList K)) (kL : PySem.W.keepIn K (.ref fL) = true) (bL : Binds K fdL ["thing"] []) (gL : mg "is_list" = some (.ref fL)) :
    FnOk P w K mg base CX0 2 f fd ["thing", "many"] (spAreNum K) := by
  refine F.ok sc11 (fun vs H Q E h => ?_) (fun cdv A outer s H vs Q E hr h => ?_)
  · obtain ⟨v, n, m, a, xs, rfl, _⟩ := h
    rfl
  · obtain ⟨v, n, m, a, xs, rfl, hn, t, hL, k⟩ := h
    refine ⟨_, pss_one (ps_ret (pe_and (pe_call GL hr rfl gL kL bL .nil pass0 (pa_cons (pv 0) pa_nil)) (pe_and (pe_cmpR op_eq (pe_callB call_len (by rfl) T.len (by decide +kernel) (pa_cons (pv 0) pa_nil)) (pv 1) (nomark _))
      (pe_one (pe_callB (cr_all rfl) (by rfl) T.all (by decide +kernel) (pa_cons (pe_lc (own := [("item", 2)]) (g := gName 2) (tt := tYes) rfl sc11.nd (pi_or (pi_list (pv 0)) (pi_tup (pv 0))) (blkOk_by (own := [("item", 2)]) (N := NA) (sc := defScope (top 19)) (by decide +kernel))
        (fun _ _ _ _ _ => pg_name (i := 2) sc11.nd rfl (Or.inl rfl)) (fun _ _ _ _ _ => pts_nil) (fun _ _ _ _ _ => pe_call GN hr rfl gN kN bN .nil pass0 (pa_cons (pv 2) pa_nil))) pa_nil)))))), ?_⟩
    refine ⟨v, rfl, v, n, rfl, hn, t, fun H1 S1 => ⟨_, rfl, ?_⟩⟩
    cases hl : isL n with
    | false =>
      rw [hl, Bool.false_and] at k
      exact iteF (k _ S1)
    | true =>
      rw [hl, Bool.true_and] at k
      obtain ⟨rfl, hq, hz, hx⟩ := hL hl
      have hq1 := seq_or S1 hq
      refine iteT ⟨_, rfl, _, xs.length, rfl, hq1.elim (fun h => .inl ⟨xs, h, rfl⟩) (fun h => .inr ⟨xs, h, rfl⟩), _, rfl, rfl, _, rfl, ?_⟩
      have e1 : decide (V.int ((xs.length : Nat) : Int) = V.int m) = decide ((xs.length : Int) = m) := decide_eq_decide.mpr ⟨fun z => V.int.inj z, fun z => by rw [z]⟩
      rw [e1]
      refine ite2 (fun h1 => ?_) fun h1 => ?_
      · rw [h1, Bool.true_and] at k
        have body : ∀ D, H1 D = none → (∀ i x H', xs[i]? = some x → (Same H1 H' ∧ H' D = some (.lst (((xs.take i).map isI).map V.bl))) → PV K H' x ∧ (Same H1 (upd H' D (.lst (((xs.take i).map isI).map V.bl ++ [V.bl (isI x)]))) ∧ upd H' D (.lst (((xs.take i).map isI).map V.bl ++ [V.bl (isI x)])) D = some (.lst (((xs.take (i + 1)).map isI).map V.bl)))) := by
          intro D hD i x H' hi ⟨S2, hL2⟩
          refine ⟨pv_same (pv_same (hx x (List.mem_of_getElem? hi)) S1) S2, S2.put hD, ?_⟩
          rw [upd_same, take_succ isI hi, List.map_append]
          rfl
        have hall : xs.all isI = ((xs.take xs.length).map isI).all id := by rw [List.take_length, List.all_map]; rfl
        have fin : ∀ D H', Same H1 H' ∧ H' D = some (.lst (((xs.take xs.length).map isI).map V.bl)) → ∃ (a : Addr) (bs : List Bool), [V.ref D] = [V.ref a] ∧ SqL K H' a (bs.map V.bl) ∧ Q (.bl (bs.all id)) H' := fun D H' ⟨S2, hD⟩ => ⟨D, _, rfl, SqL.of hD, by rw [← hall]; exact k _ (S1.trans S2)⟩
        rcases hq1 with hq1 | hq1
        · refine .inl ⟨_, rfl, a, rfl, ⟨_, hq1⟩, fun D hD => lc_list (K := K) (a := a) (xs := xs) (fun i H' => Same H1 H' ∧ H' D = some (.lst (((xs.take i).map isI).map V.bl))) ⟨(Same.refl _).put hD, upd_same⟩ (fun i H' _ h => h.1.seq hq1) ?_ (fun H' h => fin D H' h)⟩
          intro i x H' hi h
          obtain ⟨p1, p2⟩ := body D hD i x H' hi h
          refine ⟨rfl, _, rfl, x, rfl, p1, _, h.2, ?_, p2⟩
          rw [List.length_map, List.length_map, List.length_take]
          exact small1000 (by omega)
        · refine .inr ⟨_, rfl, a, rfl, ⟨_, hq1⟩, fun D hD => lc_tup (K := K) (a := a) (xs := xs) (fun i H' => Same H1 H' ∧ H' D = some (.lst (((xs.take i).map isI).map V.bl))) ⟨(Same.refl _).put hD, upd_same⟩ (fun i H' _ h => h.1.seqT hq1) ?_ (fun H' h => fin D H' h)⟩
          intro i x H' hi h
          obtain ⟨p1, p2⟩ := body D hD i x H' hi h
          refine ⟨rfl, _, rfl, x, rfl, p1, _, h.2, ?_, p2⟩
          rw [List.length_map, List.length_map, List.length_take]
          exact small1000 (by omega)
      · rw [Bool.eq_false_iff.mpr h1, Bool.false_and] at k
        exact k _ S1
def nn : V → Bool
  | .int i => decide (0 ≤ i)
  | _ => false
/-- what a term is -/
def termB (n : String) (xs : List V) (m : Int) (u : V) : Bool := decide (n = "tuple") && ((decide ((xs.length : Int) = m) && xs.all isI) && (xs.all nn && isI u))
def spIsTerm (K : PySem.W.Frag) : Sp := fun vs H Q _ => ∃ (v u : V) (n : String) (m : Int) (a : Addr) (xs : List V), vs = [v, u, .int m] ∧ n ∈ kinds7 ∧ TyX K H v (.type n) ∧ PV K H u ∧ (n = "tuple" → v = .ref a ∧ SqT K H a xs ∧ xs.length ≤ 1000 ∧ ∀ x ∈ xs, PV K H x) ∧
  ∀ H', Same H H' → Q (.bl (termB n xs m u)) H'
abbrev NT : List Str := ["row", "number", "wide", "exponent"]
end
end P2
end

section
set_option maxRecDepth 100000
set_option maxHeartbeats 1000000
namespace P2
open PySem L2 ClX
/-! ### packs, reckoned -/
def packR (r : List Int) : Int := r.foldl (fun w e => w * 2 ^ 7 + e) 0
/-- exponents as rows have them -/
def Exps (r : List Int) : Prop := ∀ e ∈ r, 0 ≤ e ∧ e < 2 ^ 7
theorem packR_snoc (r : List Int) (e : Int) : packR (r ++ [e]) = packR r * 2 ^ 7 + e := by
  unfold packR
  rw [List.foldl_append]
  rfl
theorem packR_take {r : List Int} {i : Nat} {e : Int} (h : r[i]? = some e) : packR (r.take (i + 1)) = packR (r.take i) * 2 ^ 7 + e := by
  rw [List.take_succ, h]
  exact packR_snoc _ e
theorem packR_bound : ∀ {r : List Int}, Exps r → ∀ {i : Nat}, i ≤ r.length → 0 ≤ packR (r.take i) ∧ packR (r.take i) < 2 ^ (7 * i)
  | r, hr, 0, _ => by simp [packR]
  | r, hr, i + 1, hi => by
    obtain ⟨h1, h2⟩ := packR_bound hr (i := i) (by omega)
    have he : r[i]? = some r[i] := List.getElem?_eq_getElem (by omega)
    obtain ⟨e1, e2⟩ := hr r[i] (List.getElem_mem _)
    rw [packR_take he]
    have p : (2 : Int) ^ (7 * (i + 1)) = 2 ^ (7 * i) * 2 ^ 7 := by
      rw [show 7 * (i + 1) = 7 * i + 7 by omega, Int.pow_add]
    rw [p]
    generalize packR (List.take i r) = w at h1 h2 ⊢
    generalize (2 : Int) ^ (7 * i) = B at h2 ⊢
    have e2' : r[i] < 128 := e2
    show 0 ≤ w * 128 + r[i] ∧ w * 128 + r[i] < B * 128
    omega
theorem abs_lt {x : Int} {n : Nat} (h0 : 0 ≤ x) (h : x < 2 ^ n) : x.natAbs < 2 ^ n := by
  have e : ((x.natAbs : Nat) : Int) < ((2 ^ n : Nat) : Int) := by
    rw [Int.natAbs_of_nonneg h0]
    simpa using h
  exact Int.ofNat_lt.mp e
section
variable {P : Program} {w : World} {K : PySem.W.Frag} {mg : Str → Option Value} {base : Heap} {bp : Addr}
def spPackRow (K : PySem.W.Frag) : Sp := fun vs H Q _ => ∃ (a : Addr) (r : List Int), vs = [.ref a] ∧ SqT K H a (r.map V.int) ∧ Exps r ∧ r.length ≤ 1000 ∧ Q (.int (packR r)) H
abbrev NR : List Str := ["row", "whole", "exponent"]
/-- the row of n exponents that is packed in x -/
def unpackR (x : Int) (n : Nat) : List Int := (List.range n).map fun s => x / 2 ^ (7 * (n - 1 - s)) % 2 ^ 7
def spUnpack (K : PySem.W.Frag) : Sp := fun vs H Q _ => ∃ (x : Int) (n : Nat), vs = [.int x, .int (n : Int)] ∧ n ≤ 1000 ∧ ∀ p H', Same H H' → H p = none → H' p = some (.tup ((unpackR x n).map V.int)) → Q (.ref p) H'
abbrev NU : List Str := ["whole", "wide", "spot"]
end
end P2
end

section
set_option maxRecDepth 100000
set_option maxHeartbeats 1000000
namespace P2
open PySem L2 ClX
/-! ### dicts as lists -/
section
variable {κ : Type} [DecidableEq κ]
def putA (m : List (κ × Int)) (k : κ) (v : Int) : List (κ × Int) := if (m.any fun p => decide (p.1 = k)) = true then m.map (fun p => if p.1 = k then (p.1, v) else p) else m ++ [(k, v)]
def getA (m : List (κ × Int)) (k : κ) : Option Int := (m.find? fun p => decide (p.1 = k)).map (·.2)
variable {μ : Type} [DecidableEq μ]
def asK (f : κ → μ) (m : List (κ × Int)) : List (μ × V) := m.map fun p => (f p.1, V.int p.2)
theorem any_asK {f : κ → μ} (hf : ∀ x y, f x = f y → x = y) (k : κ) : ∀ m : List (κ × Int), ((asK f m).any fun p => decide (p.1 = f k)) = m.any fun p => decide (p.1 = k)
  | [] => rfl
  | p :: m => by
    have e : decide (f p.1 = f k) = decide (p.1 = k) := decide_eq_decide.mpr ⟨hf _ _, fun h => by rw [h]⟩
    show (decide (f p.1 = f k) || (asK f m).any _) = _
    rw [any_asK hf k m, e]
    rfl
theorem putK_asK {f : κ → μ} (hf : ∀ x y, f x = f y → x = y) (m : List (κ × Int)) (k : κ) (v : Int) : putK (asK f m) (f k) (V.int v) = asK f (putA m k v) := by
  unfold putK putA
  rw [any_asK hf k m]
  by_cases h : (m.any fun p => decide (p.1 = k)) = true
  · rw [if_pos h, if_pos h]
    unfold asK
    rw [List.map_map, List.map_map]
    refine List.map_congr_left fun p _ => ?_
    show (if f p.1 = f k then (f p.1, V.int v) else (f p.1, V.int p.2)) = _
    by_cases e : p.1 = k
    · rw [if_pos (by rw [e])]
      show _ = (f (if p.1 = k then (p.1, v) else p).1, V.int (if p.1 = k then (p.1, v) else p).2)
      rw [if_pos e]
    · rw [if_neg fun z => e (hf _ _ z)]
      show _ = (f (if p.1 = k then (p.1, v) else p).1, V.int (if p.1 = k then (p.1, v) else p).2)
      rw [if_neg e]
  · rw [if_neg h, if_neg h]
    unfold asK
    rw [List.map_append]
    rfl
theorem valV_asK {f : κ → μ} (hf : ∀ x y, f x = f y → x = y) (k : κ) : ∀ m : List (κ × Int), valV (asK f m) (f k) = (getA m k).map V.int
  | [] => rfl
  | p :: m => by
    have ih := valV_asK hf k m
    by_cases e : p.1 = k
    · have e2 : (f p.1, V.int p.2).1 = f k := by show f p.1 = f k; rw [e]
      show valV ((f p.1, V.int p.2) :: asK f m) (f k) = _
      rw [valV_pos e2]
      simp [getA, List.find?_cons, e]
    · show valV ((f p.1, V.int p.2) :: asK f m) (f k) = _
      rw [valV_neg (fun z => e (hf _ _ z)), ih]
      simp [getA, List.find?_cons, e]
theorem putA_len (m : List (κ × Int)) (k : κ) (v : Int) : (putA m k v).length ≤ m.length + 1 := by
  unfold putA
  split
  · rw [List.length_map]
    exact Nat.le_succ _
  · simp
theorem getA_at {m : List (κ × Int)} (hn : (m.map (·.1)).Nodup) : ∀ {i : Nat} {k : κ} {v : Int}, m[i]? = some (k, v) → getA m k = some v := by
  induction m with
  | nil => intro i k v h; simp at h
  | cons p m ih =>
    intro i k v h
    rw [List.map_cons, List.nodup_cons] at hn
    cases i with
    | zero =>
      simp only [List.getElem?_cons_zero, Option.some.injEq] at h
      subst h
      simp [getA, List.find?_cons]
    | succ j =>
      simp only [List.getElem?_cons_succ] at h
      have hm : k ∈ m.map (·.1) := List.mem_map.mpr ⟨(k, v), List.mem_of_getElem? h, rfl⟩
      have ne : ¬ p.1 = k := fun e => hn.1 (e ▸ hm)
      have z := ih hn.2 h
      simpa [getA, List.find?_cons, ne] using z
/-- a dict written by a comprehension -/
def foldA {α : Type} (g : α → κ × Int) (xs : List α) : List (κ × Int) := xs.foldl (fun m x => putA m (g x).1 (g x).2) []
theorem foldA_take {α : Type} (g : α → κ × Int) {xs : List α} {i : Nat} {x : α} (h : xs[i]? = some x) : foldA g (xs.take (i + 1)) = putA (foldA g (xs.take i)) (g x).1 (g x).2 := by
  unfold foldA
  rw [List.take_succ, h, List.foldl_append]
  rfl
theorem foldA_len {α : Type} (g : α → κ × Int) : ∀ (xs : List α) (m : List (κ × Int)), (xs.foldl (fun m x => putA m (g x).1 (g x).2) m).length ≤ m.length + xs.length
  | [], m => Nat.le_refl _
  | x :: xs, m => by
    have h1 := foldA_len g xs (putA m (g x).1 (g x).2)
    have h2 := putA_len m (g x).1 (g x).2
    show (xs.foldl _ (putA m (g x).1 (g x).2)).length ≤ _
    rw [List.length_cons]
    omega
end
theorem foldA_le {κ α : Type} [DecidableEq κ] (g : α → κ × Int) (xs : List α) : (foldA g xs).length ≤ xs.length := by
  have h := foldA_len g xs []
  simpa [foldA] using h
theorem asK_len {κ μ : Type} (f : κ → μ) (m : List (κ × Int)) : (asK f m).length = m.length := List.length_map ..
theorem fold_small {κ α μ : Type} [DecidableEq κ] (f : κ → μ) (g : α → κ × Int) {xs : List α} (i : Nat) (h : xs.length ≤ 1000000) : (asK f (foldA g (xs.take i))).length < sizeLine := by
  rw [asK_len]
  have h1 := foldA_le g (xs.take i)
  have h2 : (xs.take i).length ≤ xs.length := by rw [List.length_take]; omega
  have h3 : (1000000 : Nat) < sizeLine := by decide
  omega
abbrev inlK : Int → Key := Sum.inl
abbrev rowK (r : List Int) : List Key := r.map Sum.inl
abbrev iK (m : List (Int × Int)) : List (Key × V) := asK inlK m
abbrev rK (m : List (List Int × Int)) : List (List Key × V) := asK rowK m
theorem inlK_inj : ∀ x y, inlK x = inlK y → x = y := fun _ _ h => Sum.inl.inj h
theorem rowK_inj : ∀ x y, rowK x = rowK y → x = y := fun _ _ h => (List.map_inj_right fun _ _ z => Sum.inl.inj z).mp h
theorem rowK_kV (r : List Int) : (rowK r).map kV = r.map V.int := by
  unfold rowK
  rw [List.map_map]
  rfl
theorem asK_get {κ μ : Type} {f : κ → μ} {m : List (κ × Int)} {i : Nat} {k : μ} {v : V} (h : (asK f m)[i]? = some (k, v)) : ∃ a n, m[i]? = some (a, n) ∧ k = f a ∧ v = .int n := by
  unfold asK at h
  rw [List.getElem?_map] at h
  cases e : m[i]? with
  | none => rw [e] at h; cases h
  | some p =>
    rw [e] at h
    have z := Option.some.inj h
    cases z
    exact ⟨p.1, p.2, rfl, rfl, rfl⟩
/-! ### dict comprehensions over a walk -/
section
variable {J : It} {n : Nat} {G : Hp → Prop} {Y : Nat → Hp → V → Hp → Prop}
theorem dc_it (w : Walk J n G Y) {g : TG} {tt : L2.TT} {tk tv : TE} {vs : List Nat} {σ : St} {H1 : Hp} {D : Addr} {Qd : Hp → Prop} (Pv : Nat → Hp → Prop) (h0 : Pv 0 (upd H1 D (.dK []))) (hG : ∀ i H, i ≤ n → Pv i H → G H)
    (hs : ∀ i x H H', i < n → Pv i H → Y i H x H' → g x (wipe σ vs) H' fun σ2 H2 => wipe σ2 vs = wipe σ vs ∧ tt σ2 H2 fun b H3 =>
      if b = true then tk σ2 H3 fun y H4 => tv σ2 H4 fun z H5 => ∃ kvs k, y = kV k ∧ H5 D = some (.dK kvs) ∧ kvs.length < sizeLine ∧ Pv (i + 1) (upd H5 D (.dK (putK kvs k z))) else Pv (i + 1) H3) (hd : ∀ H, Pv n H → Qd H) :
    ∃ W : Nat → Nat → Hp → Prop, (∃ m, W 0 m (upd H1 D (.dK []))) ∧ ∀ i m H, W i m H → (J.stop i H ∧ Qd H) ∨ (J.go i H ∧ ∃ Nx : Hp → Prop, (∀ H', Nx H' → ∃ m', m' < m ∧ W (i + 1) m' H') ∧ ∀ x H', J.yld i H x H' → g x (wipe σ vs) H' fun σ2 H2 => wipe σ2 vs = wipe σ vs ∧ tt σ2 H2 fun b H3 =>
        if b = true then tk σ2 H3 fun y H4 => tv σ2 H4 fun z H5 => ∃ kvs k, y = kV k ∧ H5 D = some (.dK kvs) ∧ kvs.length < sizeLine ∧ Nx (upd H5 D (.dK (putK kvs k z))) else Nx H3) := by
  refine ⟨fun i m H => m = n - i ∧ i ≤ n ∧ Pv i H, ⟨n, by simp, Nat.zero_le _, h0⟩, ?_⟩
  rintro i m H ⟨rfl, hi, p⟩
  by_cases hlt : i < n
  · exact .inr ⟨w.goes i H hlt (hG i H hi p), Pv (i + 1), fun H' p' => ⟨n - (i + 1), by omega, rfl, hlt, p'⟩, fun x H' y => hs i x H H' hlt p (w.yields i H x H' hlt (hG i H hi p) y)⟩
  · obtain rfl : i = n := by omega
    exact .inl ⟨w.stops H (hG _ H hi p), hd H p⟩
theorem dcT_it (w : Walk J n G Y) {g : TG} {tt : L2.TT} {tk tv : TE} {vs : List Nat} {σ : St} {H1 : Hp} {D : Addr} {Qd : Hp → Prop} (Pv : Nat → Hp → Prop) (h0 : Pv 0 (upd H1 D (.dT []))) (hG : ∀ i H, i ≤ n → Pv i H → G H)
    (hs : ∀ i x H H', i < n → Pv i H → Y i H x H' → g x (wipe σ vs) H' fun σ2 H2 => wipe σ2 vs = wipe σ vs ∧ tt σ2 H2 fun b H3 =>
      if b = true then tk σ2 H3 fun y H4 => tv σ2 H4 fun z H5 => ∃ H6, DPut H5 D y z H6 ∧ Pv (i + 1) H6 else Pv (i + 1) H3) (hd : ∀ H, Pv n H → Qd H) :
    ∃ W : Nat → Nat → Hp → Prop, (∃ m, W 0 m (upd H1 D (.dT []))) ∧ ∀ i m H, W i m H → (J.stop i H ∧ Qd H) ∨ (J.go i H ∧ ∃ Nx : Hp → Prop, (∀ H', Nx H' → ∃ m', m' < m ∧ W (i + 1) m' H') ∧ ∀ x H', J.yld i H x H' → g x (wipe σ vs) H' fun σ2 H2 => wipe σ2 vs = wipe σ vs ∧ tt σ2 H2 fun b H3 =>
        if b = true then tk σ2 H3 fun y H4 => tv σ2 H4 fun z H5 => ∃ H6, DPut H5 D y z H6 ∧ Nx H6 else Nx H3) := by
  refine ⟨fun i m H => m = n - i ∧ i ≤ n ∧ Pv i H, ⟨n, by simp, Nat.zero_le _, h0⟩, ?_⟩
  rintro i m H ⟨rfl, hi, p⟩
  by_cases hlt : i < n
  · exact .inr ⟨w.goes i H hlt (hG i H hi p), Pv (i + 1), fun H' p' => ⟨n - (i + 1), by omega, rfl, hlt, p'⟩, fun x H' y => hs i x H H' hlt p (w.yields i H x H' hlt (hG i H hi p) y)⟩
  · obtain rfl : i = n := by omega
    exact .inl ⟨w.stops H (hG _ H hi p), hd H p⟩
theorem walk_itemsT {d : Addr} {o : Obj} {kvs : List (List Key × V)} : Walk (Itit d o kvs) kvs.length (fun H => H d = some (.frz o (.dT kvs)))
    (fun i H x H' => ∃ (T q : Addr) (k : List Key) (v : V), kvs[i]? = some (k, v) ∧ x = .ref T ∧ H q = some (.tup (k.map kV)) ∧ H T = none ∧ H' = upd H T (.tup [.ref q, v])) :=
  ⟨fun _ _ hi q => ⟨q, hi⟩, fun _ q => ⟨q, Nat.le_refl _⟩, fun _ _ _ _ _ _ y => y⟩
theorem walk_itemsI {d : Addr} {o : Obj} {m : List (Int × Int)} : Walk (Iti d o (iK m)) m.length (fun H => H d = some (.frz o (.dK (iK m))))
    (fun i H x H' => ∃ (T : Addr) (q : Int × Int), m[i]? = some q ∧ x = .ref T ∧ H T = none ∧ H' = upd H T (.tup [.int q.1, .int q.2])) := by
  refine ⟨fun _ _ hi q => ⟨q, by rw [asK_len]; exact hi⟩, fun _ q => ⟨q, by rw [asK_len]; exact Nat.le_refl _⟩, fun i H x H' _ _ y => ?_⟩
  obtain ⟨T, k, v, h1, h2, h3, h4⟩ := y
  obtain ⟨a, n, hm, rfl, rfl⟩ := asK_get h1
  exact ⟨T, (a, n), hm, h2, h3, h4⟩
end
end P2
end

section
set_option maxRecDepth 100000
set_option maxHeartbeats 1000000
namespace P2
open PySem L2 ClX
def packOf (ts : List (List Int × Int)) : List (Int × Int) := foldA (fun p => (packR p.1, p.2)) ts
def termsOf (m : List (Int × Int)) (n : Nat) : List (List Int × Int) := foldA (fun p => (unpackR p.1 n, p.2)) m
/-- a locked dict is looked at -/
theorem lock_same {H H' : Hp} {d : Addr} {u : HO} {od : Obj} (hd : H d = some u) (S : Same (upd H d (.frz od u)) H') : Same H (upd H' d u) := fun b o e => by
  by_cases hb : b = d
  · subst hb
    rw [hd] at e
    cases e
    exact upd_same
  · rw [upd_ne hb]
    exact S _ _ (by rw [upd_ne hb]; exact e)
theorem lock_at {H' : Hp} {d p : Addr} {u o : HO} (ne : p ≠ d) (h : H' p = some o) : upd H' d u p = some o := by rw [upd_ne ne]; exact h
section
variable {P : Program} {w : World} {K : PySem.W.Frag} {mg : Str → Option Value} {base : Heap} {bp : Addr}
def spPackOf : Sp := fun vs H Q _ => ∃ (a : Addr) (ts : List (List Int × Int)), vs = [.ref a] ∧ H a = some (.dT (rK ts)) ∧ (ts.map (·.1)).Nodup ∧ (∀ p ∈ ts, Exps p.1 ∧ p.1.length ≤ 1000) ∧ ts.length ≤ 1000000 ∧
  ∀ p H', Same H H' → H p = none → H' p = some (.dK (iK (packOf ts))) → Q (.ref p) H'
abbrev NPO : List Str := ["terms", "row"]
def spTermsOf : Sp := fun vs H Q _ => ∃ (a : Addr) (m : List (Int × Int)) (n : Nat), vs = [.ref a, .int (n : Int)] ∧ H a = some (.dK (iK m)) ∧ (m.map (·.1)).Nodup ∧ n ≤ 1000 ∧ m.length ≤ 1000000 ∧
  ∀ p H', Same H H' → H p = none → H' p = some (.dT (rK (termsOf m n))) → Q (.ref p) H'
abbrev NTO : List Str := ["pack", "wide", "whole"]
end
end P2
end

section
set_option maxRecDepth 100000
set_option maxHeartbeats 1000000
namespace P2
open PySem L2 ClX
section
variable {κ : Type} [DecidableEq κ]
/-- a dict written by a comprehension with a test -/
def foldI {α : Type} (g : α → Option (κ × Int)) (xs : List α) : List (κ × Int) := xs.foldl (fun m x => match g x with | some p => putA m p.1 p.2 | none => m) []
theorem foldI_snoc {α : Type} (g : α → Option (κ × Int)) {xs : List α} {i : Nat} {x : α} (h : xs[i]? = some x) : foldI g (xs.take (i + 1)) = match g x with | some p => putA (foldI g (xs.take i)) p.1 p.2 | none => foldI g (xs.take i) := by
  unfold foldI
  rw [List.take_succ, h, List.foldl_append]
  rfl
theorem foldI_len {α : Type} (g : α → Option (κ × Int)) : ∀ (xs : List α) (m : List (κ × Int)), (xs.foldl (fun m x => match g x with | some p => putA m p.1 p.2 | none => m) m).length ≤ m.length + xs.length
  | [], m => Nat.le_refl _
  | x :: xs, m => by
    have h1 := foldI_len g xs (match g x with | some p => putA m p.1 p.2 | none => m)
    have h2 : (match g x with | some p => putA m p.1 p.2 | none => m).length ≤ m.length + 1 := by
      cases g x with
      | none => exact Nat.le_succ _
      | some p => exact putA_len m p.1 p.2
    show (xs.foldl _ (match g x with | some p => putA m p.1 p.2 | none => m)).length ≤ _
    rw [List.length_cons]
    omega
theorem foldI_le {α : Type} (g : α → Option (κ × Int)) (xs : List α) : (foldI g xs).length ≤ xs.length := by
  have h := foldI_len g xs []
  simpa [foldI] using h
theorem foldI_small {α μ : Type} (f : κ → μ) (g : α → Option (κ × Int)) {xs : List α} (i : Nat) (h : xs.length ≤ 1000000) : (asK f (foldI g (xs.take i))).length < sizeLine := by
  rw [asK_len]
  have h1 := foldI_le g (xs.take i)
  have h2 : (xs.take i).length ≤ xs.length := by rw [List.length_take]; omega
  have h3 : (1000000 : Nat) < sizeLine := by decide
  omega
/-- one number more at a key -/
def addA (m : List (κ × Int)) (k : κ) (v : Int) : List (κ × Int) := putA m k ((getA m k).getD 0 + v)
end
/-- a test by truth -/
def tTru (K : PySem.W.Frag) (t : TE) : L2.TT := fun σ H Q => t σ H fun x H1 => ∃ k, TruV K x H1 k ∧ Q k H1
def withoutZ (p : Int) (m : List (Int × Int)) : List (Int × Int) := foldI (fun q => if q.2 % p = 0 then none else some (q.1, q.2 % p)) m
def sumP (p : Int) (one other : List (Int × Int)) : List (Int × Int) := withoutZ p (other.foldl (fun m q => addA m q.1 q.2) (foldA (fun q => (q.1, q.2)) one))
section
variable {P : Program} {w : World} {K : PySem.W.Frag} {mg : Str → Option Value} {base : Heap} {bp : Addr}
def spWithoutZ : Sp := fun vs H Q _ => ∃ (a : Addr) (m : List (Int × Int)) (p : Int), vs = [.ref a, .int p] ∧ H a = some (.dK (iK m)) ∧ 0 < p ∧ m.length ≤ 1000000 ∧ ∀ q H', Same H H' → H q = none → H' q = some (.dK (iK (withoutZ p m))) → Q (.ref q) H'
abbrev NWZ : List Str := ["pack", "prime", "whole", "number"]
/-- y = {k: v for ..} on one line, y a local name -/
theorem ps_setDc {X : Cx} {i : Nat} {y : Str} {py : Pos} {kx vx tg iter : Expr} {ifs : List Expr} {scope : Scope} {own : List (Str × Nat)} {pos spos : Pos} {wi : TI} {g : TG} {tt : L2.TT} {tk tv : TE} (hc : X.calm = true) (hN : X.N.Nodup) (hy : X.N[i]? = some y) (hyl : X.env.scope.names.lookup y = some .local)
    (hsw : swapsWith (.DictComp kx vx [⟨tg, iter, ifs, 0⟩] scope pos) (some (.Name y py)) spos.line X.env = pure true) (hi : PI X tg iter wi) (ok : BlkOk X.N X.env.scope scope own)
    (hg : ∀ (s : Shared) (H : Hp) (C : Addr) (cl : List (Str × Addr)) (fp : List Addr), PG (X.blk s H scope (compEnvC scope cl C X.env) fp) tg g) (ht : ∀ (s : Shared) (H : Hp) (C : Addr) (cl : List (Str × Addr)) (fp : List Addr), PTs (X.blk s H scope (compEnvC scope cl C X.env) fp) ifs tt)
    (hk : ∀ (s : Shared) (H : Hp) (C : Addr) (cl : List (Str × Addr)) (fp : List Addr), PE (X.blk s H scope (compEnvC scope cl C X.env) fp) kx tk)
    (he : ∀ (s : Shared) (H : Hp) (C : Addr) (cl : List (Str × Addr)) (fp : List Addr), PE (X.blk s H scope (compEnvC scope cl C X.env) fp) vx tv) (hs : ∀ x, foldedSetIterable iter X.env x = pure x := by intro _; rfl) :
    PS X (.Assign [.Name y py] (.DictComp kx vx [⟨tg, iter, ifs, 0⟩] scope pos) spos) (tAsg (tDc wi g tt tk tv (own.map (·.2))) (gName i)) := by
  refine ⟨fun pins s σ H D I h => ?_⟩
  have h2 : tDc wi g tt tk tv (own.map (·.2)) σ H (fun x H1 => gName i x σ H1 D.nx) := h
  rw [exec_Assign_Name_used _ _ _ _ hsw]
  refine wpAny_bind (wpAny_standAt (wpAny_bind ?_))
  show wpAny _ X.A (do let _ ← comprehension (.DictComp kx vx [⟨tg, iter, ifs, 0⟩] scope pos) scope X.env (firstIterPos [⟨tg, iter, ifs, 0⟩] pos) newDict false (eval iter X.env) (some (assign (.Name y py) X.env))) _ _ s
  refine wpAny_bind (thn (dc_core (Qf := fun _ s' => SP X pins D .next s') hc hN I hi ok hg ht hk he hs h2 fun L C s' m H' J q hn fo => ?_) fun _ s' hq => wpAny_pure (wpAny_pure hq))
  obtain ⟨g0, g1, g2, g3, g4, g5⟩ := fo
  show wpAny _ _ (assign (.Name y py) X.env (.ref L)) _ _ _
  refine wpAny_assign_Name (store_ok2 (v := V.ref L) J hN hy (.inl hyl) rfl (fun s2 J2 ⟨c, sb, hc'⟩ => ?_) (.inr hyl))
  have ne : C ≠ c := hc'.elim (fun z => by rw [z]; exact g1) fun z e => g4 y c z e.symm
  exact ⟨m, hn.sameBut sb ne, fun h3 sb3 => ⟨_, H', J2.turned (t' := s2.toks) (fun b o hb e => (sb3.2 b hb).trans e) g0 g1 g3 g4 g5, q⟩⟩
theorem sw_dict {kx vx : Expr} {gs : List Comprehension} {scope : Scope} {pos py : Pos} {y : Str} {l : Nat} {env : Env} (hk : env.scope.kind = .function) (hy : env.scope.names.lookup y = some .local) (hl : (py.line == pos.line) = true)
    (ha : (scope.names.any fun (n, k) => n == y && (k == .local || k == .cell)) = false) : swapsWith (.DictComp kx vx gs scope pos) (some (.Name y py)) l env = pure true := by
  have e1 : env.kindOf y = some .local := hy
  have e2 : env.blockKind = .function := by unfold Env.blockKind; rw [hk]; rfl
  unfold swapsWith
  simp only [e2, e1, ha, Expr.pos, hl]
  rfl
/-- all but what stands at D is as it was -/
def SameX (D : Addr) (H H' : Hp) : Prop := ∀ b o, H b = some o → b ≠ D → H' b = some o
theorem getD_int {κ : Type} [DecidableEq κ] (m : List (κ × Int)) (k : κ) : ((getA m k).map V.int).getD (V.int 0) = V.int ((getA m k).getD 0) := by
  cases getA m k <;> rfl
theorem addA_len {κ : Type} [DecidableEq κ] (m : List (κ × Int)) (k : κ) (v : Int) : (addA m k v).length ≤ m.length + 1 := putA_len m k _
theorem addF_len : ∀ (l m : List (Int × Int)), (l.foldl (fun m q => addA m q.1 q.2) m).length ≤ m.length + l.length
  | [], m => Nat.le_refl _
  | q :: l, m => by
    have h2 := addF_len l (addA m q.1 q.2)
    have h3 := addA_len m q.1 q.2
    rw [List.foldl_cons, List.length_cons]
    omega
def spPackSum : Sp := fun vs H Q _ => ∃ (a b : Addr) (m1 m2 : List (Int × Int)) (p : Int), vs = [.ref a, .ref b, .int p] ∧ H a = some (.dK (iK m1)) ∧ H b = some (.dK (iK m2)) ∧ (m1.map (·.1)).Nodup ∧ (m2.map (·.1)).Nodup ∧ 0 < p ∧ m1.length + m2.length ≤ 1000000 ∧
  ∀ q H', Same H H' → H q = none → H' q = some (.dK (iK (sumP p m1 m2))) → Q (.ref q) H'
abbrev NPS : List Str := ["one", "other", "prime", "total", "whole"]
end
end P2
end

section
set_option maxRecDepth 100000
set_option maxHeartbeats 2000000
namespace P2
open PySem L2 ClX
theorem pss_weak {X : Cx} {st : List Stmt} {t t' : TS} (h : PSs X st t) (w : ∀ D σ H, t' D σ H → t D σ H) : PSs X st t' := ⟨fun pins s σ H D I q => h.run pins s σ H D I (w D σ H q)⟩
/-- one row of a product -/
def rowP (f : Int × Int) (my m : List (Int × Int)) : List (Int × Int) := my.foldl (fun m g => addA m (g.1 + f.1) (g.2 * f.2)) m
def prodL (mx my : List (Int × Int)) : List (Int × Int) := mx.foldl (fun m f => rowP f my m) []
def prodP (p : Int) (m1 m2 : List (Int × Int)) : List (Int × Int) := withoutZ p (if m1.length < m2.length then prodL m1 m2 else prodL m2 m1)
def Small (m : List (Int × Int)) : Prop := ∀ q ∈ m, -(2 ^ 64) < q.2 ∧ q.2 < 2 ^ 64
theorem rowP_len (f : Int × Int) : ∀ (my m : List (Int × Int)), (rowP f my m).length ≤ m.length + my.length
  | [], m => Nat.le_refl _
  | g :: my, m => by
    have h1 := rowP_len f my (addA m (g.1 + f.1) (g.2 * f.2))
    have h2 := addA_len m (g.1 + f.1) (g.2 * f.2)
    show (rowP f my (addA m (g.1 + f.1) (g.2 * f.2))).length ≤ _
    rw [List.length_cons]
    omega
theorem prodF_len (my : List (Int × Int)) : ∀ (mx m : List (Int × Int)), (mx.foldl (fun m f => rowP f my m) m).length ≤ m.length + mx.length * my.length
  | [], m => by simp
  | f :: mx, m => by
    have h1 := prodF_len my mx (rowP f my m)
    have h2 := rowP_len f my m
    rw [List.foldl_cons, List.length_cons, Nat.succ_mul]
    omega
theorem prodL_len (mx my : List (Int × Int)) : (prodL mx my).length ≤ mx.length * my.length := by
  have h := prodF_len my mx []
  simpa [prodL] using h
theorem prodL_snoc {mx my : List (Int × Int)} {i : Nat} {f : Int × Int} (h : mx[i]? = some f) : prodL (mx.take (i + 1)) my = rowP f my (prodL (mx.take i) my) := by
  unfold prodL
  rw [List.take_succ, h, List.foldl_append]
  rfl
theorem rowP_snoc {f : Int × Int} {my m : List (Int × Int)} {j : Nat} {g : Int × Int} (h : my[j]? = some g) : rowP f (my.take (j + 1)) m = addA (rowP f (my.take j) m) (g.1 + f.1) (g.2 * f.2) := by
  unfold rowP
  rw [List.take_succ, h, List.foldl_append]
  rfl
theorem SameX.put {D t : Addr} {H H' : Hp} {o : HO} (S : SameX D H H') (h : H' t = none) : SameX D H (upd H' t o) := fun b u e ne => by
  have e' := S b u e ne
  rw [upd_ne (ne_of_none e' h)]
  exact e'
theorem SameX.at_D {D : Addr} {H H' : Hp} {o : HO} (S : SameX D H H') : SameX D H (upd H' D o) := fun b u e ne => by
  rw [upd_ne ne]
  exact S b u e ne
section
variable {P : Program} {w : World} {K : PySem.W.Frag} {mg : Str → Option Value} {base : Heap} {bp : Addr}
def spPackProd : Sp := fun vs H Q _ => ∃ (a b : Addr) (m1 m2 : List (Int × Int)) (p : Int), vs = [.ref a, .ref b, .int p] ∧ H a = some (.dK (iK m1)) ∧ H b = some (.dK (iK m2)) ∧ a ≠ b ∧ 0 < p ∧ Small m1 ∧ Small m2 ∧ m1.length ≤ 1000000 ∧ m2.length ≤ 1000000 ∧ m1.length * m2.length ≤ 1000000 ∧
  ∀ q H', Same H H' → H q = none → H' q = some (.dK (iK (prodP p m1 m2))) → Q (.ref q) H'
abbrev NPP : List Str := ["one", "other", "prime", "few", "many", "total", "more", "factor", "whole", "number", "key"]
abbrev slP (a b : Addr) (p : Int) (x y : Addr) (D : Addr) (e6 e7 e8 e9 e10 : Option V) : St := [some (.ref a), some (.ref b), some (.int p), some (.ref x), some (.ref y), some (.ref D), e6, e7, e8, e9, e10]
/-- the rest of the product: few and many stand -/
def tTail : TS := fun D σ H => ∃ (a b : Addr) (p : Int) (x y : Addr) (mx my : List (Int × Int)), σ = [some (.ref a), some (.ref b), some (.int p), some (.ref x), some (.ref y), none, none, none, none, none, none] ∧ H x = some (.dK (iK mx)) ∧ H y = some (.dK (iK my)) ∧ x ≠ y ∧ 0 < p ∧ Small mx ∧
  mx.length * my.length ≤ 1000000 ∧ ∀ q H', Same H H' → H q = none → H' q = some (.dK (iK (withoutZ p (prodL mx my)))) → D.rt (.ref q) H'
end
end P2
end

section
set_option maxRecDepth 100000
set_option maxHeartbeats 2000000
namespace P2
open PySem L2 ClX
/-- so many factors f more -/
def mulN (p : Int) (f : List (Int × Int)) : Nat → List (Int × Int) → List (Int × Int)
  | 0, t => t
  | n + 1, t => mulN p f n (prodP p t f)
def frob (p : Int) (f : List (Int × Int)) : List (Int × Int) := foldA (fun q => (q.1 * p, q.2)) f
def powF (p : Int) : Nat → List (Int × Int) → List (Int × Int) → Int → List (Int × Int)
  | 0, t, _, _ => t
  | n + 1, t, f, l => if 0 < l then (if 0 < l / p then powF p n (mulN p f (l % p).toNat t) (frob p f) (l / p) else mulN p f (l % p).toNat t) else t
/-- what stands in memory stays small -/
def OkMul (p : Int) (f : List (Int × Int)) : Nat → List (Int × Int) → Prop
  | 0, _ => True
  | n + 1, t => t.length ≤ 1000000 ∧ t.length * f.length ≤ 1000000 ∧ OkMul p f n (prodP p t f)
def OkPow (p : Int) : Nat → List (Int × Int) → List (Int × Int) → Int → Prop
  | 0, _, _, _ => True
  | n + 1, t, f, l => 0 < l → OkMul p f (l % p).toNat t ∧ (0 < l / p → OkPow p n (mulN p f (l % p).toNat t) (frob p f) (l / p))
theorem small_put {m : List (Int × Int)} (h : Small m) {k v : Int} (hv : -(2 ^ 64) < v ∧ v < 2 ^ 64) : Small (putA m k v) := by
  intro q hq
  unfold putA at hq
  split at hq
  · obtain ⟨r, hr, e⟩ := List.mem_map.mp hq
    by_cases hk : r.1 = k
    · rw [if_pos hk] at e
      rw [← e]
      exact hv
    · rw [if_neg hk] at e
      rw [← e]
      exact h r hr
  · rcases List.mem_append.mp hq with z | z
    · exact h q z
    · rw [List.mem_singleton.mp z]
      exact hv
theorem small_foldA {g : Int × Int → Int × Int} (hg : ∀ q, (g q).2 = q.2) : ∀ {xs : List (Int × Int)} {m : List (Int × Int)}, Small xs → Small m → Small (xs.foldl (fun m x => putA m (g x).1 (g x).2) m)
  | [], _, _, h => h
  | x :: xs, m, hx, h => by
    have hv : -(2 ^ 64) < (g x).2 ∧ (g x).2 < 2 ^ 64 := by rw [hg]; exact hx x List.mem_cons_self
    exact small_foldA (g := g) hg (xs := xs) (m := putA m (g x).1 (g x).2) (fun q hq => hx q (List.mem_cons_of_mem _ hq)) (small_put h hv)
theorem small_frob {p : Int} {f : List (Int × Int)} (h : Small f) : Small (frob p f) := small_foldA (g := fun q => (q.1 * p, q.2)) (fun _ => rfl) h (fun _ z => nomatch z)
theorem small_fold {α : Type} {F : List (Int × Int) → α → List (Int × Int)} (hF : ∀ m x, Small m → Small (F m x)) : ∀ (xs : List α) (m : List (Int × Int)), Small m → Small (xs.foldl F m)
  | [], _, h => h
  | x :: xs, m, h => small_fold hF xs (F m x) (hF m x h)
theorem small_withoutZ {p : Int} (hp : 0 < p) (hp2 : p < 2 ^ 64) (m : List (Int × Int)) : Small (withoutZ p m) := by
  unfold withoutZ foldI
  refine small_fold (fun m x h => ?_) m [] fun _ z => nomatch z
  by_cases hx : x.2 % p = 0
  · simp only [hx, if_true]
    exact h
  · simp only [hx, if_false]
    have h1 := Int.emod_nonneg x.2 (Int.ne_of_gt hp)
    have h2 := Int.emod_lt_of_pos x.2 hp
    refine small_put h ?_
    generalize x.2 % p = r at h1 h2 ⊢
    omega
theorem small_prodP {p : Int} (hp : 0 < p) (hp2 : p < 2 ^ 64) (m1 m2 : List (Int × Int)) : Small (prodP p m1 m2) := small_withoutZ hp hp2 _
section
variable {P : Program} {w : World} {K : PySem.W.Frag} {mg : Str → Option Value} {base : Heap} {bp : Addr}
def spPackPow : Sp := fun vs H Q _ => ∃ (a : Addr) (m : List (Int × Int)) (n : Nat) (p : Int), vs = [.ref a, .int (n : Int), .int p] ∧ H a = some (.dK (iK m)) ∧ 2 ≤ p ∧ p < 1000 ∧ n ≤ 1000000 ∧ Small m ∧ m.length ≤ 1000000 ∧ OkPow p n [(0, 1)] m n ∧
  ∀ q H', Same H H' → H q = none → H' q = some (.dK (iK (powF p n [(0, 1)] m n))) → Q (.ref q) H'
abbrev NPW : List Str := ["one", "times", "prime", "total", "factor", "left", "_", "whole", "number"]
end
end P2
end

section
set_option maxRecDepth 100000
set_option maxHeartbeats 4000000
/-! sum of a tuple of ints; max of a list of ints, with default=. -/
namespace ClX
open PySem PySem.Spec PyProof.Rows L2
section
variable {prog : Program} {w : World} {A : Around} {E : Value → Shared → Prop} {s : Shared}
theorem sum_tup {t : Addr} {its : List Value} {ns : List Int} {Q : Value → Shared → Prop} (hh : A.handled = none) (ht : s.heap.IsTuple t its.toArray) (hi : IntsAre its ns)
    (h : ∀ h' tk t', (∀ b o, s.heap.get? b = some o → h'.get? b = some o) → Q (.int ns.sum t') { s with heap := h', toks := tk }) : wpAny (model prog w) A (call (.builtin "sum") [.ref t]) Q E s := by
  obtain ⟨xs, e⟩ := hi.allInts.items
  have hn : numsOf (intItems xs).toList = ns := by rw [← e]; exact hi.numsOf
  rw [nums_intItems] at hn
  rw [e] at ht
  have hlt : t < s.heap.objs.size := let ⟨_, e2, _⟩ := ht; Heap.lt_size e2
  refine call_sum_walkG (wpAny_pyIter_tuple ht ⟨_, _, _, _, _, _, numAt xs, rfl, Walks.tuple (A := A.in1) hh _ t (Nat.ne_of_lt hlt) (intItems xs), ⟨⟨_, Heap.get?_push_size _ rfl, rfl, rfl⟩, ht.push _⟩, fun b hb => ?_, fun _ _ => intItems_at, fun h' tk t' hk => ?_⟩)
  · show b < (s.heap.push _).objs.size
    rw [Heap.size_push]
    rcases List.mem_cons.mp hb with rfl | hb
    · exact Nat.lt_succ_self _
    · rw [List.mem_singleton.mp hb]
      exact Nat.lt_succ_of_lt hlt
  · have z := h h' tk t' fun b o e2 => hk b o (fun m => absurd (Heap.lt_size e2) ((List.mem_singleton.mp m) ▸ Nat.lt_irrefl _)) (Heap.get?_push_of_some _ e2)
    have es : preSum (numAt xs) (intItems xs).size = ns.sum := by
      rw [preSum_eq, List.take_of_length_le (by simp [intItems]), hn]
    rw [es]
    exact z
end
section
variable {X : Cx}
def rSumT (K : PySem.W.Frag) : List V → Hp → VK → Prop := fun vs H Q => ∃ (a : Addr) (ns : List Int), vs = [V.ref a] ∧ SqT K H a (ns.map V.int) ∧ Q (.int ns.sum) H
theorem cr_sumT (hc : X.calm = true) : CallR X (.builtin "sum") (rSumT X.K) := by
  intro pins s σ H vs us Q I r h
  obtain ⟨a, ns, rfl, hs, q⟩ := h
  obtain ⟨its, rv, ht, _⟩ := I.tuple hs
  rw [Vals.ref1 r]
  exact sum_tup (I.ok.hd hc) ht rv.ints fun h' tk t' hk => ⟨.int _, H, I.kept hk, ⟨_, rfl⟩, q⟩
theorem ints_read {h : Heap} : ∀ {ns : List Int} {us : List Value}, Vals (ns.map V.int) us → ReadsAll h us (ns.map PyData.int) []
  | [], us, r => by cases r; exact ReadsAll.nil
  | n :: ns, us, r => by
    cases r with
    | cons r1 r2 =>
      obtain ⟨t, rfl⟩ := r1
      exact ReadsAll.cons (as := []) (Reads.int n t) (ints_read r2)
theorem depth0 : ∀ ns : List Int, PyData.depthAll (ns.map PyData.int) = 0
  | [] => by simp [PyData.depthAll]
  | n :: ns => by simp [PyData.depthAll, PyData.depth, depth0 ns]
theorem alike_ints (ns : List Int) : PySem.W.AlikeAll (ns.map PyData.int) := by
  refine ⟨fun x hx y hy => ?_, fun x hx => ?_⟩
  · obtain ⟨i, _, rfl⟩ := List.mem_map.mp hx
    obtain ⟨j, _, rfl⟩ := List.mem_map.mp hy
    rfl
  · obtain ⟨i, _, rfl⟩ := List.mem_map.mp hx
    exact fun z => nomatch z
/-- the greatest, or the default -/
def maxOr (d : Int) : List Int → Int
  | [] => d
  | n :: ns => ns.foldl max n
def rMaxD (K : PySem.W.Frag) : List V → List V → Hp → VK → Prop := fun vs zs H Q => ∃ (a : Addr) (ns : List Int) (d : Int), vs = [V.ref a] ∧ zs = [V.int d] ∧ SqL K H a (ns.map V.int) ∧ Q (.int (maxOr d ns)) H
theorem cr_maxD (hc : X.calm = true) (hu : X.A.units + 1 < cLine) : CallRK X (.builtin "max") ["default"] (rMaxD X.K) := by
  intro pins s σ H vs zs us ws Q I r rz h
  obtain ⟨a, ns, d, rfl, rfl, hs, q⟩ := h
  obtain ⟨its, rv, hl, _⟩ := I.list hs
  rw [Vals.ref1 r]
  obtain ⟨u, rfl, rd⟩ := vals1 rz
  obtain ⟨td, rfl⟩ := rd
  show wpAny _ _ (call (.builtin "max") [.ref a] [(Str.ofString "default", .int d td)]) _ _ s
  refine PySem.W.max_list_default (I.ok.hd hc) hl.isList (xs := ns.map PyData.int) (by simpa using ints_read rv) (alike_ints ns) (by rw [depth0]; exact hu) (fun e h' tk k => ?_) fun y ys i v h' tk bs e hv hr k => ?_
  · have en : ns = [] := by simpa using e
    subst en
    exact ⟨.int d, H, I.kept k, ⟨_, rfl⟩, q⟩
  · cases ns with
    | nil => cases e
    | cons n ns =>
      rw [List.map_cons] at e
      injection e with e1 e2
      subst e1 e2
      rw [PySem.W.maxD_ints] at hr
      cases hr
      exact ⟨.int _, H, I.kept k, ⟨_, rfl⟩, q⟩
end
end ClX
end

section
set_option maxRecDepth 100000
set_option maxHeartbeats 4000000
/-! Displays of dicts with tuples as keys; a tuple times an int from 1. -/
namespace ClX
open PySem PySem.Spec PyProof.Rows L2
/-- the pairs are put in, from the left -/
def Puts (D : Addr) : List (V × V) → Hp → (Hp → Prop) → Prop
  | [], H, Q => Q H
  | p :: ps, H, Q => ∃ H', DPut H D p.1 p.2 H' ∧ Puts D ps H' Q
section
variable {X : Cx}
theorem storeAll_puts {pins : List (Addr × Obj)} {σ : L2.St} {D : Addr} {Q : Hp → Prop} (hu : X.A.units < cLine) : ∀ (ps : List (V × V)) (ws : List (Value × Value)) (s : Shared) (H : Hp), VV ps ws → Inv X pins σ H s → Puts D ps H Q →
    wpAny (model X.prog X.w) X.A (storeAll D ws) (fun _ s' => ∃ H', Inv X pins σ H' s' ∧ Q H') X.xe s
  | [], _, s, H, r, I, q => by
    cases r
    unfold storeAll
    rw [List.forIn_nil]
    exact wpAny_pure ⟨H, I, q⟩
  | p :: ps, _, s, H, r, I, q => by
    cases r with
    | @cons _ b _ bs h t =>
      obtain ⟨H', g, q⟩ := q
      unfold storeAll
      rw [List.forIn_cons]
      refine wpAny_bind (wpAny_bind (put_dictSet hu I g h.1 h.2 fun s' I' => wpAny_pure ?_))
      exact storeAll_puts hu ps bs s' H' t I' q
/-- {(..): v, ..}, the new dict standing empty while the pairs are made -/
def tDispT (trs : List (TE × TE)) : TE := fun σ H Q => ∀ p, H p = none → tPairs trs σ (upd H p (.dT [])) fun ps H2 => Puts p ps H2 fun H3 => Q (.ref p) H3
theorem pe_dispT {pos : Pos} {keys : List (Option Expr)} {values : List Expr} {trs : List (TE × TE)} (hu : X.A.units < cLine) (h : PPs X pos keys values trs) (hall : keys.all (·.isSome) = true) (hl : keys.length = values.length) (h0 : keys ≠ [])
    (h15 : keys.length ≤ 15) : PE X (.Dict keys values pos) (tDispT trs) := by
  refine ⟨fun pins s σ H Q I q => ?_⟩
  have hn := I.hok.fresh (Nat.le_refl s.heap.objs.size)
  have I1 := I.laid (a := s.heap.objs.size) (o := .dT []) (h' := s.heap.push { cls := .type "dict", data := .dict #[] }) (t' := s.toks) (fun _ _ q => Heap.get?_push_of_some _ q) (Nat.le_refl _) (dt_empty s.heap I.big)
  refine wpAny_Dict_any hall hl h0 h15 (thn (h.run pins _ σ _ _ I1 (q _ hn)) fun ws s2 ⟨ps, H2, I2, rel, pu⟩ => ?_)
  exact thn (storeAll_puts hu ps ws s2 H2 rel I2 pu) fun _ s3 ⟨H3, I3, q3⟩ => ⟨.ref s.heap.objs.size, H3, I3, rfl, q3⟩
/-! ### tuple * 1 -/
theorem tuple_mul1 (l : Addr) (items : Array Value) (n : Nat) (dd : Option Addr) (sl : Array (Option Value)) (u : Tok) :
    Meets (Builtin.«tuple.__mul__» ⟨[.ref l, .int 1 u], []⟩) (fun _ R s => s.heap.get? l = some { cls := .type "tuple", dict := dd, data := .seq items n, slots := sl } ∧
      R (.ok (.ret (Value.ref l))) s) :=
  .of_wp fun prog w A R s h => by
    obtain ⟨hp, g, d, tk, os⟩ := s
    obtain ⟨hl, h⟩ := h
    have f1 := AutoSeq1.idx_int
    have c1 : (items.isEmpty || (1 : Int) == 1) = true := by rw [Bool.or_eq_true_iff]; exact Or.inr rfl
    wp_walk using wpAny_loadPart' hl
    repeat (first
      | (refine wpAny_ite_true (decide_eq_true c1) ?_; wp_walk using wpAny_loadPart' hl)
      | (refine wpAny_ite_false (decide_eq_false (by decide)) ?_; wp_walk using wpAny_loadPart' hl))
    exact ⟨_, rfl, h⟩
/-- t * k with k from 1: t itself at 1, else a new tuple -/
def rRepN (K : PySem.W.Frag) : R2 := fun x y H Q => ∃ l k xs, x = .ref l ∧ y = .int k ∧ SqT K H l xs ∧ xs ≠ [] ∧ 1 ≤ k ∧ k ≤ 1000 ∧ xs.length ≤ 1000 ∧ (k = 1 → Q (.ref l) H) ∧ (k ≠ 1 → ∀ p, H p = none → Q (.ref p) (upd H p (.tup (List.replicate k.toNat xs).flatten)))
theorem op_repN : OpR X (binaryOp .Mult) (rRepN X.K) := by
  intro pins s σ H x y v u Q I rx ry h
  obtain ⟨l, k, xs, rfl, rfl, hT, hne, h1, h2, hz, q1, q2⟩ := h
  by_cases hk : k = 1
  · subst hk
    cases rx
    obtain ⟨t, rfl⟩ := ry
    obtain ⟨its, r, ⟨⟨cls, dd, data, sl⟩, ho, hc, n, hd⟩, hs⟩ := I.tuple hT
    simp only at hc hd
    subst hc hd
    refine wpAny_binaryOp_repeat_ref (T := "tuple") (U := "int") (by decide) ⟨_, ho, rfl⟩ (fun s' => typeIs_int s' 1 t) noFill_tuple_mul F.fills_int_mul F.slot_int_rmul repeat_tuple F.slot_int_index.lookup
      (call_meets F.slot_int_rmul (typeIs_int s 1 t) F.entry_int_rmul (F.args_int_rmul_2 _ _) (int_rmul_tuple 1 t l its.toArray n dd sl)
        ⟨ho, rfl, ⟨_, ho, rfl⟩, call_meets F.slot_tuple_mul ⟨_, ho, rfl⟩ F.entry_tuple_mul (F.args_tuple_mul_2 _ _) (tuple_mul1 l its.toArray n dd sl t) ⟨ho, ?_⟩⟩)
    exact ⟨.ref l, H, I, rfl, q1 rfl⟩
  · exact op_repT pins s σ H _ _ v u Q I rx ry ⟨l, k, xs, rfl, rfl, hT, hne, by omega, h2, hz, q2 hk⟩
end
end ClX
end

section
set_option maxRecDepth 100000
set_option maxHeartbeats 4000000
/-! dict(d), d with rows as keys, no two of which hash alike. -/
namespace ClX
open PySem PySem.Spec PyProof.Rows PyProof.V L2
section
variable {prog : Program} {w : World} {K : Type} [DecidableEq K] {knd : HeapKind prog w K} {A : Around} {E : Value → Shared → Prop} {s : Shared}
theorem new_dictH : (s.heap.push { cls := .type "dict", data := .dict #[] }).DictOfH knd s.heap.objs.size [] :=
  ⟨_, #[], 0, Heap.get?_push_size _ rfl, ⟨rfl, rfl, rfl⟩, rfl, rfl, (fun _ h => nomatch h), List.nodup_nil⟩
theorem call_dictH {o : Addr} {more : List (K × Addr × Value)} {Q : Value → Shared → Prop} (hu : knd.room A.in1.in1) (hoS : (o == sysModules) = false) (ho : s.heap.DictOfH knd o more) (hsz : more.length ≤ sizeLine)
    (ho' : (s.heap.push { cls := .type "dict", data := .dict #[] }).DictOfH knd o more)
    (hty : ∀ x ∈ more, s.TypeIs (.ref x.2.1) "tuple") (hap : (more.map fun x => knd.hash x.1).Nodup)
    (h : ∀ h', h'.DictOfH knd s.heap.objs.size more → Heap.SameBut s.heap.objs.size (s.heap.push { cls := .type "dict", data := .dict #[] }) h' → Q (.ref s.heap.objs.size) { s with heap := h' }) :
    wpAny (model prog w) A (call (.type "dict") [.ref o]) Q E s := by
  refine callType_codes (Q₁ := fun obj s₁ => obj = .ref s.heap.objs.size ∧ s₁ = { s with heap := s.heap.push { cls := .type "dict", data := .dict #[] } }) F.kt_called_dict (F.kt_typeCall_dict_1 _) F.entry_dict_init (kt_code_dict_new _ ⟨rfl, rfl⟩) ?_
  rintro obj s₁ ⟨rfl, rfl⟩
  have hnew : (s.heap.push { cls := .type "dict", data := .dict #[] }).DictOfH knd s.heap.objs.size [] := new_dictH
  have hn : (more.map (·.1)).Nodup := ho.nodup
  have hdo : s.heap.objs.size ≠ o := by
    obtain ⟨_, _, _, hg, _⟩ := ho
    exact fun e => absurd (Heap.lt_size hg) (by rw [e]; exact Nat.lt_irrefl _)
  refine ⟨hnew.typeIs, F.args_dict_init_2 _ _, ?_⟩
  unfold Builtin.«dict.__init__»
  refine wpAny_bind ?_
  unfold Builtin.Dict.selfAndRest
  refine wpAny_bind (wpAny_notOrdered_dict hnew.typeIs ?_)
  show wpAny _ _ (pure (s.heap.objs.size, [Value.ref o])) _ _ _
  refine wpAny_pure ?_
  show wpAny _ _ (Builtin.Dict.updateFrom "dict.__init__" s.heap.objs.size (.ref o) [] .none) _ _ _
  unfold Builtin.Dict.updateFrom
  refine wpAny_bind (wpAny_typeOf ho'.typeIs ?_)
  rw [if_neg (by decide)]
  refine wpAny_bind ?_
  unfold Builtin.Dict.merge
  refine wpAny_bind ?_
  unfold Builtin.Dict.readDirectly
  refine wpAny_bind (wpAny_isInstance ho'.typeIs isSubtype_dict_dict ?_)
  simp only [Bool.not_true, Bool.false_eq_true, if_false]
  refine wpAny_bind (wpAny_specialOf ho'.typeIs F.slot_dict_iter.lookup (wpAny_pure ?_))
  simp only [beq_self_eq_true, if_true]
  refine wpAny_bind (wpAny_pure ?_)
  have hty' : ∀ x ∈ more, ({ s with heap := s.heap.push { cls := .type "dict", data := .dict #[] } } : Shared).TypeIs (.ref x.2.1) "tuple" := fun x hx => by
    obtain ⟨o, h1, h2⟩ := hty x hx
    exact ⟨o, Heap.get?_push_of_some _ h1, h2⟩
  refine wpAny_mergeDict_heap (hsz := by simpa using hsz) hu hdo hoS hnew ho' (.inr ⟨hty', hap⟩) fun h' hd' _ hs' => ?_
  show wpAny _ _ (Builtin.Dict.addKeywords s.heap.objs.size [] >>= _) _ _ _
  rw [storedAllH_nil_of_nodup more hn] at hd'
  exact wpAny_bind (wpAny_pure (wpAny_pure ⟨rfl, h h' hd' hs'⟩))
end
/-- what `dict(d)` gives -/
def rDictT (P : Program) (w : World) : List V → Hp → VK → Prop := fun xs H Q => ∃ (a : Addr) (kvs : List (List L2.Key × V)), xs = [.ref a] ∧ H a = some (.dT kvs) ∧ (kvs.map fun x => (tupleKind (mixKind P w)).hash x.1).Nodup ∧ ∀ p, H p = none → Q (.ref p) (upd H p (.dT kvs))
section
variable {X : Cx}
theorem call_dictT (hu : X.A.in1.units + 1 < cLine) : CallR X (.type "dict") (rDictT X.prog X.w) := by
  intro pins s σ H xs us Q I r q
  obtain ⟨a, kvs, ex, ha, hh, q⟩ := q
  subst ex
  obtain ⟨u, eu, rx⟩ := vals1 r
  subst eu
  cases rx
  obtain ⟨z, lo, vs, rel, dd⟩ := dt_of I.hok ha
  have hk : ∀ {l : List (List L2.Key × V)} {m : List (List L2.Key × Addr × Value)}, KT H l m → (m.map (·.1)) = l.map (·.1) ∧ ∀ x ∈ m, s.TypeIs (.ref x.2.1) "tuple" ∧ (tupleKind (mixKind X.prog X.w)).is (s.heap.push { cls := .type "dict", data := .dict #[] }) x.1 x.2.1 := by
    intro l m t
    induction t with
    | nil => exact ⟨rfl, fun _ h => nomatch h⟩
    | @cons p q ps qs hq t ih =>
      refine ⟨by rw [List.map_cons, List.map_cons, ih.1, hq.1], fun x hx => ?_⟩
      rcases List.mem_cons.mp hx with e | hx
      · subst e
        have k1 := key_of (P := X.prog) (w := X.w) I.hok (show H x.2.1 = some (.tup (x.1.map kV)) by rw [← hq.1]; exact hq.2.1)
        obtain ⟨o, its, n, h1, h2, h3⟩ := k1
        refine ⟨⟨o, h1, h2⟩, o, its, n, Heap.get?_push_of_some _ h1, h2, h3⟩
      · exact ih.2 x hx
  obtain ⟨e1, e2⟩ := hk rel
  obtain ⟨o, es, ep, h1, h2, h3, h4, h5, h6⟩ := id dd
  refine call_dictH (tupleKind_room_in1 hu) lo dd (by rw [← Paired.length rel]; exact z) ⟨o, es, ep, Heap.get?_push_of_some _ h1, h2, h3, h4, fun x hx => (e2 x hx).2, h6⟩ (fun x hx => (e2 x hx).1) ?_ fun h' d' hs => ?_
  · have e3 : (vs.map fun x => (tupleKind (mixKind X.prog X.w)).hash x.1) = (vs.map (·.1)).map fun k => (tupleKind (mixKind X.prog X.w)).hash k := by rw [List.map_map]; rfl
    have e4 : (kvs.map fun x => (tupleKind (mixKind X.prog X.w)).hash x.1) = (kvs.map (·.1)).map fun k => (tupleKind (mixKind X.prog X.w)).hash k := by rw [List.map_map]; rfl
    rw [e3, e1, ← e4]
    exact hh
  have hm : (s.heap.objs.size == sysModules) = false := beq_eq_false_iff_ne.mpr (Nat.ne_of_gt I.big)
  have hn := I.hok.fresh (Nat.le_refl s.heap.objs.size)
  refine ⟨.ref s.heap.objs.size, upd H s.heap.objs.size (.dT kvs), I.laid (t' := s.toks) (fun b u e => (hs.2 b (Nat.ne_of_lt (Heap.lt_size e))).trans (Heap.get?_push_of_some _ e)) (Nat.le_refl _) ?_, rfl, q _ hn⟩
  obtain ⟨o', es', ep', g1, g2, g3, g4, g5, g6⟩ := d'
  refine ⟨z, hm, vs, ?_, o', es', ep', g1, g2, g3, g4, g6⟩
  generalize HO.dT kvs = O
  clear hh z e1 e2 hk dd h5 h4 h6 g4 g5 g6 q ha
  induction rel with
  | nil => exact .nil
  | cons h t ih => exact .cons ⟨h.1, by rw [upd_ne (ne_of_none h.2.1 hn)]; exact h.2.1, h.2.2⟩ ih
end
end ClX
end

section
set_option maxRecDepth 100000
set_option maxHeartbeats 4000000
/-! A dict of one pair whose key is a tuple of bools: made by a display, looked at by isinstance and items(). -/
namespace ClX
open PySem PySem.Spec PyProof.Rows L2
/-- the dict at a of one pair, its key the tuple at t -/
def RawO (a t : Addr) (v : V) : HO := .ext fun h => (a == sysModules) = false ∧ ∃ (o : Obj) (en : DictEntry) (ep : Nat), h.get? a = some o ∧ o.ExactDict ∧ o.data = .dict #[en] ep ∧ en.key = .ref t ∧ RelV v en.val
theorem rawO_ok {P : Program} {w : World} {H : Hp} {h : Heap} {a t : Addr} {v : V} (hs : (a == sysModules) = false) {o : Obj} {en : DictEntry} {ep : Nat} (h1 : h.get? a = some o) (h2 : o.ExactDict) (h3 : o.data = .dict #[en] ep) (h4 : en.key = .ref t) (h5 : RelV v en.val) : ObjOk P w H h a (RawO a t v) :=
  ⟨⟨hs, o, en, ep, h1, h2, h3, h4, h5⟩, ⟨o, h1⟩, fun _ _ ⟨x0, x1, x2, x3, x4, x5, x6, x7, x8⟩ k => ⟨x0, x1, x2, x3, k _ x4, x5, x6, x7, x8⟩⟩
/-! ### the display -/
theorem items_b {P : Program} {w : World} : ∀ {n : Nat} {us : List Value}, Vals (List.replicate n (V.bl true)) us → ItemsAre (leafKind P w) (List.replicate n (Leaf.num 1)) us
  | 0, _, r => by cases r; exact .nil
  | n + 1, _, r => by
    rw [List.replicate_succ] at r
    cases r with
    | cons h t =>
      obtain rfl := (show _ = Value.bool true from h)
      exact .cons rfl (items_b t)
/-- {t: v}, t a tuple of Trues -/
def tDispB (t1 t2 : TE) : TE := fun σ H Q => ∀ p, H p = none → tPairs [(t1, t2)] σ (upd H p (.dT [])) fun ps H3 => ∃ (x v : V) (t : Addr) (n : Nat), ps = [(x, v)] ∧ x = .ref t ∧ H3 p = some (.dT []) ∧ H3 t = some (.tup (List.replicate n (V.bl true))) ∧ Q (.ref p) (upd H3 p (RawO p t v))
section
variable {X : Cx}
theorem pe_dispB {pos : Pos} {e1 e2 : Expr} {t1 t2 : TE} (hu : X.A.units < cLine) (h1 : PE X e1 t1) (h2 : PE X e2 t2) : PE X (.Dict [some e1] [e2] pos) (tDispB t1 t2) := by
  refine ⟨fun pins s σ H Q I q => ?_⟩
  have hn := I.hok.fresh (Nat.le_refl s.heap.objs.size)
  have I1 := I.laid (a := s.heap.objs.size) (o := .dT []) (h' := s.heap.push { cls := .type "dict", data := .dict #[] }) (t' := s.toks) (fun _ _ q => Heap.get?_push_of_some _ q) (Nat.le_refl _) (dt_empty s.heap I.big)
  have hp : PPs X pos [some e1] [e2] [(t1, t2)] := pps_cons h1 h2 pps_nil
  refine wpAny_Dict_any (by rfl) (by rfl) (fun z => by cases z) (show 1 ≤ 15 by decide) (thn (hp.run pins _ σ _ _ I1 (q _ hn)) fun ws s2 ⟨ps, H2, I2, rel, x, v, t, n, eps, ex, hP, ht, pu⟩ => ?_)
  subst eps ex
  cases rel with
  | @cons _ b _ bs h tl =>
    cases tl
    obtain ⟨u, r⟩ := b
    obtain ⟨r1, r2⟩ := h
    cases (show u = Value.ref t from r1)
    unfold storeAll
    rw [List.forIn_cons]
    obtain ⟨z, hd, xs, rel, o, es, ep, ho, hx, hdt, he, hnn⟩ := (show ObjOk X.prog X.w H2 s2.heap s.heap.objs.size (.dT []) from I2.hok _ _ hP)
    cases rel
    obtain ⟨_, its, rv, ot, ht1, ht2, nt, ht3⟩ := (show ObjOk X.prog X.w H2 s2.heap t (.tup (List.replicate n (V.bl true))) from I2.hok t _ ht)
    have dd : s2.heap.DictOfH (tupleKind (leafKind X.prog X.w)) s.heap.objs.size [] := ⟨o, es, ep, ho, hx, hdt, he, (fun _ h => nomatch h), List.nodup_nil⟩
    have key : (tupleKind (leafKind X.prog X.w)).is s2.heap (List.replicate n (Leaf.num 1)) t := ⟨ot, its.toArray, nt, ht1, ht2, ht3, by simpa using items_b rv⟩
    refine wpAny_bind (wpAny_bind (wpAny_dictSet_heap (knd := tupleKind (leafKind X.prog X.w)) (hsz := by show 0 ≤ sizeLine; decide) hu key dd fun h' dd' hs => wpAny_pure ?_))
    dsimp only
    rw [List.forIn_nil]
    refine wpAny_pure ?_
    obtain ⟨q, es', ep', hq, h2, h3, h4, _, _⟩ := dd'
    obtain ⟨en, e1, e2, e3⟩ : ∃ en, es' = #[en] ∧ en.key = .ref t ∧ en.val = r := by
      have e : es'.toList = [entryOfKey (tupleKind (leafKind X.prog X.w)) (List.replicate n (Leaf.num 1), t, r)] := h4
      refine ⟨_, by apply Array.ext'; exact e, rfl, rfl⟩
    subst e1
    have ok : ObjOk X.prog X.w (upd H2 s.heap.objs.size (RawO s.heap.objs.size t v)) h' s.heap.objs.size (RawO s.heap.objs.size t v) := rawO_ok hd hq h2 h3 e2 (by rw [e3]; exact r2)
    exact ⟨.ref s.heap.objs.size, _, d_write I2 (by rw [hP]; exact True.intro) hs ⟨q, hq⟩ ok, rfl, pu⟩
/-! ### isinstance, items -/
def rIsiB (K : PySem.W.Frag) : List V → Hp → VK → Prop := fun xs H Q => ∃ (a t : Addr) (v c : V) (u : Value) (b : Bool), xs = [.ref a, c] ∧ ClsV c u ∧ H a = some (RawO a t v) ∧ PySem.W.kitOne K (.type "dict") u = some b ∧ Q (.bl b) H
theorem call_isiB : CallR X (.builtin "isinstance") (rIsiB X.K) := by
  intro pins s σ H xs us Q I r h
  obtain ⟨a, t, v, c, u, b, rfl, k, ea, e, q⟩ := h
  obtain ⟨u1, u2, rfl, r1, r2⟩ := vals2 r
  have e2 := k.eq r2
  subst e2
  cases (show u1 = Value.ref a from r1)
  obtain ⟨⟨_, o, en, ep, h1, h2, _⟩, _, _⟩ := I.hok a _ ea
  exact PySem.W.kia_one PySem.W.kitx_dict I.kIn ⟨o, h1, h2.1⟩ e (fun z => nomatch z) fun tk => ⟨.bl b, H, I.tok tk, rfl, q⟩
end
theorem call_or {X : Cx} {f : Value} {r1 r2 : List V → Hp → VK → Prop} (h1 : CallR X f r1) (h2 : CallR X f r2) : CallR X f (fun xs H Q => r1 xs H Q ∨ r2 xs H Q) := fun pins s σ H xs us Q I r q => q.elim (h1 pins s σ H xs us Q I r) (h2 pins s σ H xs us Q I r)
theorem frzB_at {X : Cx} {pins : List (Addr × Obj)} {σ : L2.St} {H : Hp} {s : Shared} {d t : Addr} {o : Obj} {v : V} (I : Inv X pins σ H s) (h : H d = some (.frz o (RawO d t v))) :
    (d == sysModules) = false ∧ ∃ (en : DictEntry) (ep : Nat), o.data = .dict #[en] ep ∧ DT.Raw s.heap d #[en] ep ∧ en.key = .ref t ∧ RelV v en.val := by
  obtain ⟨hd, ⟨hs, o', en, ep, ho, hx, hdt, hk, hv⟩, _, _⟩ := I.hok d _ h
  rw [hd] at ho
  cases ho
  exact ⟨hs, en, ep, hdt, ⟨o, hd, hx, hdt⟩, hk, hv⟩
def Itib (d : Addr) (o : Obj) (t : Addr) (v : V) : It :=
  ⟨fun i H => H d = some (.frz o (RawO d t v)) ∧ i < 1, fun _ H x H' => ∃ T : Addr, x = .ref T ∧ H T = none ∧ H' = upd H T (.tup [.ref t, v]), fun i H => H d = some (.frz o (RawO d t v)) ∧ 1 ≤ i⟩
theorem turn_itemsB {P : Program} {w : World} {K : PySem.W.Frag} {d t : Addr} {o : Obj} {en : DictEntry} {ep : Nat} {v : V} {elts : List Expr} {kk : Nat} {tpos : Pos} (it : Addr) (hod : o.data = .dict #[en] ep) :
    Turn P w K (.Tuple elts kk tpos) (Itib d o t v) [it] it (fun i h => ∃ ok ov, IsItemIter h it d i 1 ep ok ov) where
  mem := List.mem_cons_self
  obj := fun i h st b hb => by
    obtain ⟨ok, ov, e⟩ := st
    rw [List.mem_singleton.mp hb]
    exact ⟨_, e, fun v z => nomatch z⟩
  keep := fun i h h' st k => let ⟨ok, ov, e⟩ := st; ⟨ok, ov, k it List.mem_cons_self _ e⟩
  item := by
    intro X hP hw hK hc i pins s σ H E I hf st hg
    subst hP hw hK
    obtain ⟨hd, hi⟩ := hg
    obtain ⟨hs, en', ep', hdt, raw, hk, rv⟩ := frzB_at I hd
    obtain ⟨e1, rfl⟩ := dict_ep hod hdt
    obtain rfl : en = en' := by simpa using e1.symm
    obtain ⟨ok, ov, he⟩ := st
    have hlt : it < s.heap.objs.size := Heap.lt_size he
    obtain rfl : i = 0 := by omega
    refine DT.nextI he raw (show (0 : Nat) < 1 by decide) fun h' ho hT _ hk2 => ?_
    have een : (#[en] : Array DictEntry)[0] = en := rfl
    rw [een, hk] at hT ho
    refine ⟨_, rfl, wpAny_letOwnedTupleGo_items (s := { s with heap := h' }) ho fun h'' he' sb => ?_⟩
    have hT2 : h''.get? s.heap.objs.size = some { cls := .type "tuple", data := .seq #[.ref t, en.val] } := (sb.2 _ (Nat.ne_of_gt hlt)).trans hT
    have new : ObjOk X.prog X.w (upd H s.heap.objs.size (.tup [.ref t, v])) h'' s.heap.objs.size (.tup [.ref t, v]) :=
      ⟨by show 2 ≤ sizeLine; decide, [.ref t, en.val], .cons rfl (.cons rv .nil), ⟨_, hT2, rfl, _, rfl⟩⟩
    have I1 : Inv X pins σ (upd H s.heap.objs.size (.tup [.ref t, v])) { s with heap := h'' } :=
      I.turnedNew (t' := s.toks) (ch := [it]) (fun b ob hb e => (sb.2 b (by simpa using hb)).trans (hk2 b ob (by simpa using hb) e)) hf (Nat.le_refl _) new
    refine ⟨.ref s.heap.objs.size, _, I1, rfl, ⟨_, rfl, I.hok.fresh (Nat.le_refl _), rfl⟩, ⟨_, _, he'⟩, fun b hb => ?_⟩
    rw [List.mem_singleton.mp hb, upd_ne (Nat.ne_of_lt hlt)]
    exact (hf it List.mem_cons_self).1
  done := by
    intro X hP hw hK hc i pins s σ H E I hf st hg
    subst hP hw hK
    obtain ⟨hd, hi⟩ := hg
    obtain ⟨f0, f1, f2, f3, f4, f5⟩ := hf it List.mem_cons_self
    obtain ⟨hs, en', ep', hdt, raw, hk, rv⟩ := frzB_at I hd
    obtain ⟨e1, rfl⟩ := dict_ep hod hdt
    obtain ⟨ok, ov, he⟩ := st
    exact DT.endI (I.ok.hd hc) he raw hi fun h' eb => ⟨rfl, I.turned (t' := s.toks) (fun b ob hb e => eb b ob hb e) f0 f1 f3 f4 f5⟩
  self := fun A i s Q E st h => let ⟨_, _, e⟩ := st; PySem.W.kcp_self e h
/-- .. in e.items(), the dict locked -/
def iItemsB (td : TE) : TI := fun σ H R => td σ H fun x H1 => ∃ d o t v, x = .ref d ∧ H1 d = some (.frz o (RawO d t v)) ∧ R (Itib d o t v) H1
theorem pi_itemsB {X : Cx} {e : Expr} {td : TE} {apos cpos : Pos} {elts : List Expr} {kk : Nat} {tpos : Pos} (he : PE X e td) (hbase : attributeBase e "items" X.env (eval e X.env) = eval e X.env := by rfl) (hline : (apos.endLine == cpos.line) = true := by rfl) :
    PI X (.Tuple elts kk tpos) (.Call (.Attribute e "items" apos) [] [] cpos) (iItemsB td) := by
  refine ⟨fun pins s σ H R I h => ?_⟩
  refine wpAny_Call_method (T := "dict") (id := "dict.items") hbase rfl hline PySem.F.plainAttrs_dict PySem.F.slot_dict_items PySem.F.type_dict_items (thn (he.run pins s σ H _ I h) fun u s1 ⟨x, H1, I1, rx, d, o, t, v, ex, hd, q⟩ => ?_)
  subst ex
  obtain rfl : u = Value.ref d := rx
  obtain ⟨hs, en, ep, hdt, raw, hk, rv⟩ := frzB_at I1 hd
  refine ⟨raw.typeIs, ?_, ?_⟩
  · obtain ⟨o', ho, hx, _⟩ := raw
    rintro b ⟨⟩
    exact ⟨o', ho, hx.2.1⟩
  have I2 : Inv X pins σ H1 { s1 with heap := s1.heap.push { cls := .type "dict_items", data := .fields #[.ref d] } } := I1.kept (t' := s1.toks) fun b ob q => Heap.get?_push_of_some _ q
  have fin : wpAny (model X.prog X.w) X.A (pyIter (.ref s1.heap.objs.size)) (PIE X pins σ (.Tuple elts kk tpos) R) X.xe { s1 with heap := s1.heap.push { cls := .type "dict_items", data := .fields #[.ref d] } } := by
    refine DT.iterI (d := d) ⟨_, Heap.get?_push_size _ rfl, rfl, rfl⟩ (raw.push _) (pi_one (tk := s1.toks) I2 _ (turn_itemsB _ hdt) ⟨.none, .none, ?_⟩ q)
    exact Heap.get?_push_size _ rfl
  show wpAny _ _ (callWith cpos (.builtin "dict.items") [.ref d] [] []) _ X.xe s1
  exact method_meetsIn PySem.F.slot_dict_items PySem.F.entry_dict_items rfl (PySem.evalArgs_none ⟨rfl, raw.typeIs, PySem.F.args_dict_items_1 _, _, DT.meetsItems (es := #[en]) (ep := ep) hs, ⟨raw, fin⟩⟩)
theorem walk_itemsB {d t : Addr} {o : Obj} {v : V} : Walk (Itib d o t v) 1 (fun H => H d = some (.frz o (RawO d t v))) (fun _ H x H' => ∃ T : Addr, x = .ref T ∧ H T = none ∧ H' = upd H T (.tup [.ref t, v])) :=
  ⟨fun _ _ hi q => ⟨q, hi⟩, fun _ q => ⟨q, Nat.le_refl _⟩, fun _ _ _ _ _ _ y => y⟩
end ClX
end

section
set_option maxRecDepth 100000
set_option maxHeartbeats 2000000
namespace P2
open PySem L2 ClX
/-- what the top has written of Poly and its errors -/
structure Py (K : PySem.W.Frag) (mg : Str → Option Value) (C B M : Addr) : Prop where
  cl : Cls K C
  n1 : NoAttr K C "prime"
  n2 : NoAttr K C "wide"
  n3 : NoAttr K C "_terms"
  n4 : NoAttr K C "degree"
  gC : mg "Poly" = some (.ref C)
  mu : ∃ t, mg "MOST_UNKNOWNS" = some (.int 12 t)
  md : ∃ t, mg "MOST_DEGREE" = some (.int 120 t)
  gB : mg "BadPoly" = some (.ref B)
  xB : PySem.W.excIn K B [.type "ValueError", .type "Exception", .type "BaseException", .type "object"] "ValueError.__new__" = true
  kB : PySem.W.keepIn K (.ref B) = true
  sB : PySem.W.subIn K (.ref B) (.type "BaseException") = some true
  tB : PySem.W.typeIn K (.ref B) = some (.type "type")
  gM : mg "TooMany" = some (.ref M)
  oM : OexC K M
  c1 : PySem.W.findIn K (.ref C) "__class__" = some (some (.builtin "object.__class__"))
  c2 : PySem.W.specialIn K (.builtin "object.__class__") "__get__" = some (some (.builtin "getset_descriptor.__get__"))
  c3 : PySem.W.takesIn K (.builtin "object.__class__") = some true
  c4 : PySem.W.mroIn K C (.type "object") = some true
  kC : PySem.W.kitOne K (.ref C) (.ref C) = some true
  kN : ∀ n ∈ kinds7, PySem.W.kitOne K (.type n) (.ref C) = some false
abbrev NI : List Str := ["self", "prime", "wide", "terms", "row", "number"]
section
variable {P : Program} {w : World} {K : PySem.W.Frag} {mg : Str → Option Value} {base : Heap} {bp C B M : Addr}
theorem ps_weak' {X : Cx} {st : Stmt} {t t' : TS} (h : PS X st t) (w : ∀ D σ H, t' D σ H → t D σ H) : PS X st t' := ⟨fun pins s σ H D I q => h.run pins s σ H D I (w D σ H q)⟩
theorem pv_flat {K : PySem.W.Frag} {H : Hp} {v : V} (h : flatV v = true) : PV K H v := by
  cases v with
  | non => exact ⟨"NoneType", by decide, .base .non⟩
  | bl b => exact ⟨"bool", by decide, .base (.bl b)⟩
  | int i => exact ⟨"int", by decide, .base (.int i)⟩
  | str x => exact ⟨"str", by decide, .base (.str x)⟩
  | _ => cases h
theorem pv_key {K : PySem.W.Frag} {H : Hp} (k : Key) : PV K H (kV k) := by
  cases k with
  | inl i => exact pv_flat (v := .int i) rfl
  | inr x => exact pv_flat (v := .str x) rfl
/-- what is looked at of the terms: whether they are some -/
inductive TermsAre (K : PySem.W.Frag) (H : Hp) (m : Int) : V → Bool → Prop
  | other {v : V} {n : String} (hn : n ∈ kinds7) (t : TyX K H v (.type n)) (nd : n ≠ "dict") : TermsAre K H m v false
  | rows {a : Addr} {kvs : List (List Key × V)} (h : H a = some (.dT kvs)) (hz : kvs.length ≤ 1000000) (hk : ∀ p ∈ kvs, p.1.length ≤ 1000 ∧ flatV p.2 = true) : TermsAre K H m (.ref a) (kvs.all fun p => termB "tuple" (p.1.map kV) m p.2)
  | raw {a t : Addr} {ks : List V} {v : V} (h : H a = some (RawO a t v)) (ht : H t = some (.tup ks)) (hz : ks.length ≤ 1000) (hk : ∀ x ∈ ks, flatV x = true) (hv : flatV v = true) : TermsAre K H m (.ref a) (termB "tuple" ks m v)
  | keys {a : Addr} {kvs : List (Key × V)} (h : H a = some (.dK kvs)) (hz : kvs.length ≤ 1000000) (hk : ∀ p ∈ kvs, flatV p.2 = true) : TermsAre K H m (.ref a) kvs.isEmpty
theorem take_all {α : Type} (f : α → Bool) (xs : List α) : ((xs.take xs.length).map f).all id = xs.all f := by
  rw [List.take_length, List.all_map]
  rfl
/-- an error's __init__: self.f = v -/
def spErr (f : Str) (C : Addr) : Sp := fun vs H Q _ => ∃ (a : Addr) (v : V), vs = [.ref a, v] ∧ H a = some (exo a C none) ∧ ∀ dx, H dx = none → dx ≠ a → Q .non (upd (upd H dx (exd dx [(f, v)])) a (exo a C (some dx)))
abbrev sBN : Stmt := inClass (top 3) 0
/-- what is left of memory behind an error with an attribute -/
theorem err_left {H : Hp} {f : Str} {C a : Addr} {v : V} {Q : XK} (ha : H a = none) (k : ∀ d H', Same H H' → H d = none → H' d = some (.xd [(f, v)]) → Q (.ref C) (some d) H') :
    spErr f C [.ref a, v] (upd H a (exo a C none)) (fun u H2 => u = .non ∧ ∃ (d : Addr) (fs : List (Str × V)), H2 a = some (exo a C (some d)) ∧ H2 d = some (exd d fs) ∧ H d = none ∧ Q (.ref C) (some d) (upd (del H2 a) d (.xd fs))) (fun _ _ _ => False) := by
  refine ⟨a, v, rfl, upd_same, fun dx h1 h2 => ⟨rfl, dx, _, upd_same, by rw [upd_ne h2, upd_same], ?_, ?_⟩⟩
  · rw [upd_ne h2] at h1
    exact h1
  · have hd : H dx = none := by rw [upd_ne h2] at h1; exact h1
    refine k dx _ (fun b o e => ?_) hd upd_same
    have n1 : b ≠ dx := ne_of_none e hd
    have n2 : b ≠ a := ne_of_none e ha
    rw [upd_ne n1, del_ne n2, upd_ne n2, upd_ne n1, upd_ne n2]
    exact e
end
end P2
end

section
set_option maxRecDepth 100000
set_option maxHeartbeats 2000000
namespace P2
open PySem L2 ClX
/-- the terms that stand, rows as they come -/
def tidyOf (p : Int) (ts : List (List Int × Int)) (ys : List (List Int)) : List (List Int × Int) := foldI (fun r => if (getA ts r).getD 0 % p = 0 then none else some (r, (getA ts r).getD 0 % p)) ys
def degOf (ts : List (List Int × Int)) : Int := maxOr (-1) (ts.map fun p => p.1.sum)
def fsP (p : Int) (n : Int) (d : Addr) (dg : Int) : List (Str × V) := putF "degree" (.int dg) (putF "_terms" (.ref d) (putF "wide" (.int n) (putF "prime" (.int p) [])))
theorem fs_len1 (v : V) : (putF "prime" v []).length ≤ 1 := length_putF "prime" v []
theorem fs_len2 (u v : V) : (putF "wide" u (putF "prime" v [])).length ≤ 2 := by
  have h1 := length_putF "wide" u (putF "prime" v [])
  have h2 := fs_len1 v
  omega
theorem fs_len3 (t u v : V) : (putF "_terms" t (putF "wide" u (putF "prime" v []))).length ≤ 3 := by
  have h1 := length_putF "_terms" t (putF "wide" u (putF "prime" v []))
  have h2 := fs_len2 u v
  omega
section
variable {P : Program} {w : World} {K : PySem.W.Frag} {mg : Str → Option Value} {base : Heap} {bp C B M : Addr}
end
end P2
end

section
set_option maxRecDepth 100000
set_option maxHeartbeats 4000000
/-! The end of a law over a head that is one run: the tables of code objects start empty; the call is run at its own around. -/
namespace HE
open PySem PySem.Spec PyProof.Rows L2 LamX
/-- what stands there neither is a row of items nor an empty table -/
def Odd (o : Obj) : Prop := (∀ vs n, o.data ≠ .seq vs n) ∧ o.data ≠ .fields #[]
section
variable {P : Program} {w : World} {K : PySem.W.Frag} {mg mb : Str → Option Value} {s : Shared} {a : Addr} {vs : List Value} {H : Hp} {ts : List Addr}
/-- what is tracked at the entry: the script, the tables -/
structure Entry (K : PySem.W.Frag) (s : Shared) (a : Addr) (vs : List Value) (ts : List Addr) (H : Hp) : Prop where
  ha : s.heap.get? a = some { cls := .type "list", data := .seq vs.toArray }
  hT : ∀ t ∈ ts, s.heap.get? t = some { cls := .none, data := .fields #[] }
  nT : ∀ t ∈ ts, K.lookup t = none
  hA : ∀ b o, H b = some o → (b = a ∧ K.lookup a = none) ∨ b ∈ ts
theorem Entry.free (N : Entry K s a vs ts H) {b : Addr} {o : Obj} (e : s.heap.get? b = some o) (h : Odd o) : H b = none := by
  cases q : H b with
  | none => rfl
  | some u =>
    rcases N.hA b u q with ⟨z, _⟩ | z
    · rw [z, N.ha] at e
      cases e
      exact absurd rfl (h.1 _ _)
    · rw [N.hT b z] at e
      cases e
      exact absurd rfl h.2
theorem odd_dict {o : Obj} {es : Array DictEntry} {ep : Nat} (d : o.data = .dict es ep) : Odd o := ⟨(fun vs n z => by rw [d] at z; cases z), (fun z => by rw [d] at z; cases z)⟩
theorem odd_plain {o : Obj} (d : o.data = .plain) : Odd o := ⟨(fun vs n z => by rw [d] at z; cases z), (fun z => by rw [d] at z; cases z)⟩
theorem Entry.ns (N : Entry K s a vs ts H) {b : Addr} {m : Str → Option Value} (h : s.heap.Ns b m) : (hidT s.heap H).Ns b m := by
  obtain ⟨o, es, ep, e, d, r⟩ := h
  exact ⟨o, es, ep, hidT_get e (N.free e (odd_dict d)), d, r⟩
theorem Entry.kin (N : Entry K s a vs ts H) (KX : K.In s.heap) : K.In (hidT s.heap H) := fun b o e => hidT_get (KX b o e) (by
  cases q : H b with
  | none => rfl
  | some u =>
    rcases N.hA b u q with ⟨z, z2⟩ | z
    · rw [z, z2] at e; cases e
    · rw [N.nT b z] at e; cases e)
theorem Entry.env (N : Entry K s a vs ts H) (KX : K.In s.heap) (hns : s.heap.Ns mainGlobals mg) (hb : s.heap.Ns builtinsNs mb) (hbb : ∀ x : Str, x ≠ "__name__" → mb x = bootBuiltins x) (hlim : s.heap.NoLimit) (hg : s.gens = #[]) (hok : HOk P w H s.heap) :
    Env0 P w K mg (hidT s.heap H) callerA [] s H :=
  ⟨rfl, ⟨N.kin KX, N.ns hns, ⟨mb, N.ns hb, hbb⟩, let ⟨mc, h1, h2⟩ := hlim; ⟨mc, N.ns h1, h2⟩⟩, fun b o e => of_hidT e, Nat.le_of_eq (hidT_size _ _), trivial, fun b hb => absurd hb (by simp [frs]), hok, .of_eq hg⟩
theorem Entry.tab (N : Entry K s a vs ts H) (KX : K.In s.heap) (hns : s.heap.Ns mainGlobals mg) (hbm : ∃ (bm : Addr) (ob : Obj), mg "__builtins__" = some (.ref bm) ∧ bm ≠ builtinsNs ∧ s.heap.get? bm = some ob ∧ ob.cls = .type "module" ∧ ob.dict = some builtinsNs ∧ ob.data = .plain)
    {c t : Addr} (ht : t ∈ ts) (hh : PySem.W.codeHdIn K c t = true) : TabB (hidT s.heap H) mg c t := by
  have et := N.hT t ht
  obtain ⟨o, es, ep, eG, dG, _⟩ := hns
  have h := NdefX.tabB_of_K (mg := mg) (N.kin KX) hh ?_ fun z => ?_
  · exact h
  · obtain ⟨bm, ob, b1, b2, b3, b4, b5, b6⟩ := hbm
    refine ⟨bm, ob, b1, b2, fun z => ?_, fun z => ?_, hidT_get b3 (N.free b3 (odd_plain b6)), b4, b5, b6⟩
    · rw [z, eG] at b3
      cases b3
      rw [dG] at b6
      cases b6
    · rw [z, et] at b3
      cases b3
      cases b6
  · rw [z, et] at eG
    cases eG
    cases dG
/-- what the call leaves: all as it was, but that the tables have grown -/
theorem left_old {cs : List (Addr × Addr)} {s' : Shared} {H' : Hp} (N : Entry K s a vs (cs.map (·.2)) H) (KX : K.In s.heap) (C : ∀ p ∈ cs, PySem.W.codeHdIn K p.1 p.2 = true) (only : ∀ b o, H b = some o → b ∉ cs.map (·.2) → ∃ ob xs, o = .frz ob (.lst xs)) (hH : ∀ t ∈ cs.map (·.2), H t = some (.tbl #[]))
    (hok : HOk P w H s.heap) (hok' : HOk P w H' s'.heap) (un : Un (frs []) [] H H' s.heap s'.heap) : OldK s.heap s'.heap := by
  have grown : ∀ t ∈ cs.map (·.2), ∃ more : Array Value, s'.heap.get? t = some { cls := .none, data := .fields more } := fun t ht => by
    obtain ⟨more, z⟩ := un.tbls t #[] (hH t ht)
    exact ⟨_, hok' t _ z⟩
  have kept : ∀ b o, b ∉ cs.map (·.2) → s.heap.get? b = some o → s'.heap.get? b = some o := fun b o nb e => by
    cases q : H b with
    | none => exact un.keep b o e q (by simp [frs]) (by simp)
    | some u =>
      obtain ⟨ob', xs, rfl⟩ := only b u q nb
      have z1 : s.heap.get? b = some ob' := (hok b _ q).1
      have z2 : s'.heap.get? b = some ob' := (hok' b _ (un.frzs b ob' _ q)).1
      rw [e] at z1
      cases z1
      exact z2
  constructor
  · intro b o e
    by_cases hb : b ∈ cs.map (·.2)
    · obtain ⟨p, hp, ep⟩ := List.mem_map.mp hb
      obtain ⟨more, hm⟩ := grown b hb
      have eb := N.hT b hb
      rw [eb] at e
      cases e
      have tt := (PySem.W.codeHd_of_K KX (C p hp)).tab (by rw [ep]; exact eb)
      rw [ep] at tt
      exact .inr (.inl ⟨tt.isCodeTable, rfl, #[], more, rfl, by rw [Array.empty_append]; exact hm⟩)
    · exact .inl (kept b o hb e)
  · intro b o e
    by_cases hb : b ∈ cs.map (·.2)
    · obtain ⟨more, hm⟩ := grown b hb
      exact ⟨_, hm⟩
    · exact ⟨o, kept b o hb e⟩
end
/-- the end of a law: the head's fragment, the tables of code objects, the call run at its own around -/
theorem walk_end {l : PySem.W.OpenLaw} {n : Nat} {q : Program} {loose : List Str} {XP : (Str → Option Value) → Heap → Prop} {YP : World → Heap → Prop} {d : DefRec} (hn : l.most = some n) (hn2 : n ≤ sizeLine) (hdf : d.params.defaults = [])
    (F : ∀ (w : World) (mg : Str → Option Value) (fa : Addr) (h : Heap), YP w h → h.Ns mainGlobals mg → mg d.name = some (.ref fa) → ∃ (K : PySem.W.Frag) (cs : List (Addr × Addr)), K.In h ∧ (∀ p ∈ cs, PySem.W.codeHdIn K p.1 p.2 = true) ∧ (∀ p ∈ cs, K.lookup p.2 = none) ∧ (∀ p ∈ cs, h.get? p.2 = some { cls := .none, data := .fields #[] }) ∧
      ∀ (base : Heap) (s : Shared) (H : Hp) (a : Addr) (ns : List Int), K.In base → base.Ns mainGlobals mg → (∀ p ∈ cs, TabB base mg p.1 p.2) → (∀ p ∈ cs, H p.2 = some (.tbl #[])) → Env0 l.prog w K mg base callerA [] s H → SqL K H a (ns.map V.int) → ns.length ≤ n → (∀ z ∈ ns, Builtin.Int.intBits z ≤ 1048576) →
        codeAny (model l.prog w) callerA (.call (.ref fa) ⟨[.ref a], []⟩) (CR CX0 [] l.prog w H s (fun v _ => v = .bl true) E0) s) :
    PySem.W.WalkO q loose XP YP l.row.toRowW d [] (fun f vs => PySem.call f vs) := by
  refine Att.attach_callB hn hdf fun w s₀ s mg mb fa o pm cd doc a vs ns G Y ho hd hcd hmg hobj hints hlen hbits hg => ?_
  obtain ⟨K, cs, KX, C, nT, hT, run⟩ := F w mg fa _ Y G.T.g hmg
  have rv := vals_ints hints
  have lv := hints.length
  have hT' : ∀ t ∈ cs.map (·.2), s.heap.get? t = some { cls := .none, data := .fields #[] } := fun t ht => by
    obtain ⟨p, hp, e⟩ := List.mem_map.mp ht
    rw [← e]; exact hT p hp
  have nT' : ∀ t ∈ cs.map (·.2), K.lookup t = none := fun t ht => by
    obtain ⟨p, hp, e⟩ := List.mem_map.mp ht
    rw [← e]; exact nT p hp
  have aT : a ∉ cs.map (·.2) := fun z => by
    have q := hT' a z
    rw [hobj] at q
    cases q
  have go : ∀ H : Hp, (∀ b o, H b = some o → b ∉ cs.map (·.2) → ∃ ob xs, o = .frz ob (.lst xs)) → (∀ t ∈ cs.map (·.2), H t = some (.tbl #[])) → (∀ b o, H b = some o → (b = a ∧ K.lookup a = none) ∨ b ∈ cs.map (·.2)) → HOk l.prog w H s.heap → SqL K H a (ns.map V.int) →
      codeAny (model l.prog w) callerA (.call (.ref fa) ⟨[.ref a], []⟩) (fun r s' => r = .ok (.ret (.bool true)) ∧ OldK s.heap s'.heap ∧ s'.os = s.os ∧ AllBare s'.gens) s := by
    intro H only hH hA hok hS
    have N : Entry K s a vs (cs.map (·.2)) H := ⟨hobj, hT', nT', hA⟩
    have e0 := N.env (P := l.prog) KX G.T.g G.T.b G.T.builtins G.T.nolimit hg hok
    refine codeAny_mono (run _ s H a ns e0.mod.kin e0.mod.glob (fun p hp => N.tab KX G.T.g G.T.bmain (List.mem_map.mpr ⟨p, hp, rfl⟩) (C p hp)) (fun p hp => hH _ (List.mem_map.mpr ⟨p, hp, rfl⟩)) e0 hS hlen hbits) fun r s' h => ?_
    match r, h with
    | .ok (.ret u), ⟨v, H', os, bare, un, hok', rv, e⟩ =>
      subst e
      have eu : u = Value.bool true := rv
      subst eu
      exact ⟨rfl, left_old N KX C only hH hok hok' un, os, bare⟩
    | .error _, h => exact (show False from h).elim
    | .ok .next, h => exact (show False from h).elim
    | .ok .brk, h => exact (show False from h).elim
    | .ok .cont, h => exact (show False from h).elim
  cases hk : K.lookup a with
  | some ob =>
    have e := KX a ob hk
    rw [hobj] at e
    cases e
    have at_b : ∀ b o, (fun b => if b ∈ cs.map (·.2) then some (HO.tbl #[]) else none) b = some o → b ∈ cs.map (·.2) ∧ o = .tbl #[] := fun b o z => by
      by_cases hb : b ∈ cs.map (·.2)
      · have z' := (if_pos hb).symm.trans z
        cases z'
        exact ⟨hb, rfl⟩
      · have z' := (if_neg hb).symm.trans z
        cases z'
    refine go (fun b => if b ∈ cs.map (·.2) then some (.tbl #[]) else none) (fun b o z nb => absurd (at_b b o z).1 nb) (fun t ht => if_pos ht) (fun b o z => .inr (at_b b o z).1) (fun b o z => ?_) (.inr ⟨_, vs.toArray, _, hk, rfl, rfl, rfl, by rw [List.size_toArray, lv]; exact Nat.le_trans hlen hn2, by simpa using rv⟩)
    obtain ⟨hb, rfl⟩ := at_b b o z
    exact hT' b hb
  | none =>
    have at_b : ∀ b o, (fun b => if b = a then some (.frz { cls := .type "list", data := .seq vs.toArray } (.lst (ns.map V.int))) else if b ∈ cs.map (·.2) then some (HO.tbl #[]) else none) b = some o →
        (b = a ∧ o = .frz { cls := .type "list", data := .seq vs.toArray } (.lst (ns.map V.int))) ∨ (b ∈ cs.map (·.2) ∧ o = .tbl #[]) := fun b o z => by
      by_cases ha : b = a
      · have z' := (if_pos ha).symm.trans z
        cases z'
        exact .inl ⟨ha, rfl⟩
      · have z1 := (if_neg ha).symm.trans z
        by_cases hb : b ∈ cs.map (·.2)
        · have z' := (if_pos hb).symm.trans z1
          cases z'
          exact .inr ⟨hb, rfl⟩
        · have z' := (if_neg hb).symm.trans z1
          cases z'
    refine go (fun b => if b = a then some (.frz { cls := .type "list", data := .seq vs.toArray } (.lst (ns.map V.int))) else if b ∈ cs.map (·.2) then some (.tbl #[]) else none) (fun b o z nb => ?_) (fun t ht => (if_neg (fun z => aT (by rw [← z]; exact ht))).trans (if_pos ht)) (fun b o z => ?_) (fun b o z => ?_)
      (.inl (.inr ⟨{ cls := .type "list", data := .seq vs.toArray }, if_pos rfl⟩))
    · rcases at_b b o z with ⟨_, rfl⟩ | ⟨hb, _⟩
      · exact ⟨_, _, rfl⟩
      · exact absurd hb nb
    · rcases at_b b o z with ⟨h, _⟩ | ⟨hb, _⟩
      · exact .inl ⟨h, hk⟩
      · exact .inr hb
    · rcases at_b b o z with ⟨h, rfl⟩ | ⟨hb, rfl⟩
      · rw [h]
        exact ⟨hobj, by rw [List.length_map]; exact Nat.le_trans hlen hn2, vs, _, rv, hobj⟩
      · exact hT' b hb
section
variable {X : Cx}
/-- a list display, with the place told to be no place of the start -/
def tLstN (t : TA) : TE := fun σ H Q => t σ H fun xs H1 => xs.length ≤ sizeLine ∧ ∀ p, H1 p = none → p ≠ sysModules → Q (.ref p) (upd H1 p (.lst xs))
theorem pe_lstN {es : List Expr} {t : TA} {pos : Pos} (h : PA X es t) : PE X (.List es pos) (tLstN t) := ⟨fun pins s σ H Q I hq =>
  wpAny_List_spliced (thn (h.run pos pins s σ H _ I hq) fun us s1 ⟨xs, H1, I1, r, z, q⟩ => ⟨r.length ▸ z,
    .ref s1.heap.objs.size, _, I1.laid (o := .lst xs) (t' := s1.toks) (fun _ _ e => Heap.get?_push_of_some _ e) (Nat.le_refl _) ⟨z, us, 0, r, Heap.get?_push_size _ rfl⟩, rfl, q _ (I1.hok.fresh (Nat.le_refl _)) (Nat.ne_of_gt I1.big)⟩)⟩
end
end HE
end

section
set_option maxRecDepth 100000
set_option maxHeartbeats 4000000
/-! What the top leaves, read off by one run: defs by where they stand, and one Bool of facts. -/
namespace HX
open PySem PySem.Spec PyProof.Rows L2
/-- a def: where it stands, its name, its qualified name, its statement -/
structure Df where
  at_ : PySem.W.Frag → Addr
  name : Str
  qual : Str
  st : Stmt
def seen (K : PySem.W.Frag) (a : Addr) : He.FnW := match K.lookup a with
  | some ⟨_, _, .func fd, _⟩ => some (fd.name, fd.qualname, fd.params, fd.body, fd.scope, fd.globals, fd.closure, fd.builtins)
  | _ => none
def Df.val (d : Df) : He.FnW := some (d.name, d.qual, defArgs d.st, .stmts (defBody d.st), defScope d.st, mainGlobals, [], builtinsNs)
def isNone : Value → Bool
  | .none => true
  | _ => false
def Df.ok (K : PySem.W.Frag) (d : Df) : Bool := PySem.W.keepIn K (.ref (d.at_ K)) && (match K.lookup (d.at_ K) with
  | some ⟨_, _, .func fd, _⟩ => PySem.W.codeIn K fd.code d.qual && isNone fd.defaults
  | _ => false)
/-- the function data at a place -/
def fdAt (K : PySem.W.Frag) (a : Addr) : FuncData := match K.lookup a with
  | some ⟨_, _, .func fd, _⟩ => fd
  | _ => PySem.W.fnOf "" "" ⟨[], [], none, [], [], none, []⟩ [] ⟨.function, [], false, false, []⟩ .none .none .none .none none .none .none
def refOf : Value → Addr
  | .ref c => c
  | _ => 0
def codeAt (K : PySem.W.Frag) (a : Addr) : Addr := refOf (fdAt K a).code
theorem Df.fn {K : PySem.W.Frag} {d : Df} (e : seen K (d.at_ K) = d.val) (c : d.ok K = true) : Fun K d.name d.qual d.st (d.at_ K) (fdAt K (d.at_ K)) ∧ (fdAt K (d.at_ K)).code = .ref (codeAt K (d.at_ K)) := by
  obtain ⟨kp, c2⟩ := He.ba c
  unfold seen at e
  unfold codeAt fdAt
  cases q : K.lookup (d.at_ K) with
  | none =>
    rw [q] at c2
    cases c2
  | some o =>
    obtain ⟨oc, od, dt, osl⟩ := o
    rw [q] at c2 e
    cases dt with
    | func fd =>
      obtain ⟨n1, n2, n3, n4, n5, n6, n7, n8, n9, n10, n11, n12, n13, n14, n15⟩ := fd
      have e2 : (some (n1, n2, n3, n4, n5, n6, n7, n15) : He.FnW) = some (d.name, d.qual, defArgs d.st, .stmts (defBody d.st), defScope d.st, mainGlobals, [], builtinsNs) := e
      simp only [Option.some.injEq, Prod.mk.injEq] at e2
      obtain ⟨h1, h2, h3, h4, h5, h6, h7, h8⟩ := e2
      subst h1 h2 h3 h4 h5 h6 h7 h8
      have c3 : (PySem.W.codeIn K n13 d.qual && isNone n8) = true := c2
      obtain ⟨k1, k2⟩ := He.ba c3
      have e8 : n8 = .none := by
        cases n8 with
        | none => rfl
        | _ => cases k2
      subst e8
      refine ⟨⟨⟨oc, od, n9, n10, n11, n12, n13, n14, osl, rfl, q, k1⟩, kp⟩, ?_⟩
      obtain ⟨c, hc⟩ := He.codeIn_ref k1
      show n13 = .ref (refOf n13)
      rw [hc]
      rfl
    | _ => cases c2
/-! ### exceptions, classes -/
def mroOk (C : Addr) : List Value → Bool
  | .ref c :: bm => decide (c = C) && PySem.HandSPX.refsVE bm
  | _ => false
theorem mroOk_ok {C : Addr} : ∀ {l : List Value}, mroOk C l = true → ∃ bm, l = .ref C :: bm ∧ PySem.HandSPX.refsVE bm = true
  | .ref c :: bm, h => by
    obtain ⟨g1, g2⟩ := He.ba (show (decide (c = C) && PySem.HandSPX.refsVE bm) = true from h)
    exact ⟨bm, by rw [of_decide_eq_true g1], g2⟩
def slotOk : List (Option Value) → Bool
  | [_, _, _, _, some (.builtin i), _] => decide (i = "ValueError.__new__")
  | _ => false
theorem slotOk_ok {l : List (Option Value)} (h : slotOk l = true) : ∃ k0 k1 k2 k3 k5, l = [k0, k1, k2, k3, some (.builtin "ValueError.__new__"), k5] := by
  unfold slotOk at h
  split at h
  · rw [of_decide_eq_true h]
    exact ⟨_, _, _, _, _, rfl⟩
  · cases h
def isRow (o : Option Obj) (C : Addr) : Bool := match o with
  | some ⟨.type t, _, .cls cd, sl⟩ => decide (t = "type") && (mroOk C cd.mro && (cd.hasDict && (!cd.hasDel && slotOk sl.toList)))
  | _ => false
theorem isRow_ok {K : PySem.W.Frag} {C : Addr} (h : isRow (K.lookup C) C = true) : ∃ nm q N bs bm sn sub ab col dd k0 k1 k2 k3 k5, K.lookup C = some (excClassObj nm q C N bs bm true sn sub ab col dd k0 k1 k2 k3 k5 "ValueError.__new__") ∧ PySem.HandSPX.refsVE bm = true := by
  cases e : K.lookup C with
  | none => rw [e] at h; cases h
  | some o =>
    rw [e] at h
    obtain ⟨oc, od, dt, ⟨sl⟩⟩ := o
    cases oc with
    | type t =>
      cases dt with
      | cls cd =>
        obtain ⟨n1, n2, n3, n4, n5, n6, n7, n8, n9, n10, n11⟩ := cd
        obtain ⟨h1, h2⟩ := He.ba (show (decide (t = "type") && (mroOk C n3 && (n6 && (!n11 && slotOk sl)))) = true from h)
        obtain ⟨h3, h4⟩ := He.ba h2
        obtain ⟨h5, h6⟩ := He.ba h4
        obtain ⟨h7, h8⟩ := He.ba h6
        have e1 : t = "type" := of_decide_eq_true h1
        have e7 : n11 = false := by
          cases n11 with
          | false => rfl
          | true => cases h7
        obtain ⟨bm, e3, g2⟩ := mroOk_ok h3
        obtain ⟨k0, k1, k2, k3, k5, e8⟩ := slotOk_ok h8
        rw [e1, e7, e3, h5, e8]
        exact ⟨_, _, _, _, _, _, _, _, _, _, _, _, _, _, _, rfl, g2⟩
      | _ => cases h
    | _ => cases dt <;> cases h
/-- once for all: __class__ of objects -/
def onceB (K : PySem.W.Frag) : Bool := decide (PySem.W.specialIn K (.builtin "object.__class__") "__get__" = some (some (.builtin "getset_descriptor.__get__"))) && decide (PySem.W.takesIn K (.builtin "object.__class__") = some true)
theorem onceB_ok {K : PySem.W.Frag} (h : onceB K = true) : PySem.W.specialIn K (.builtin "object.__class__") "__get__" = some (some (.builtin "getset_descriptor.__get__")) ∧ PySem.W.takesIn K (.builtin "object.__class__") = some true := by
  obtain ⟨h1, h2⟩ := He.ba h
  exact ⟨of_decide_eq_true h1, of_decide_eq_true h2⟩
/-- an own error, all that is asked of it -/
def errB (K : PySem.W.Frag) (C : Addr) : Bool := isRow (K.lookup C) C && (decide (PySem.W.findIn K (.ref C) "__setattr__" = some (some (.builtin "object.__setattr__"))) && (xfB K C && (decide (PySem.W.typeIn K (.ref C) = some (.type "type")) && (PySem.W.keepIn K (.ref C) &&
  (decide (PySem.W.findIn K (.ref C) "__class__" = some (some (.builtin "object.__class__"))) && (decide (PySem.W.mroIn K C (.type "object") = some true) && decide (PySem.W.subIn K (.ref C) (.type "BaseException") = some true)))))))
structure Err (K : PySem.W.Frag) (C : Addr) : Prop where
  o : OexC K C
  x : XfC K C
  e : ExcC K C
theorem errB_ok {K : PySem.W.Frag} {C : Addr} (o : onceB K = true) (h : errB K C = true) : Err K C := by
  obtain ⟨h1, h⟩ := He.ba h
  obtain ⟨h2, h⟩ := He.ba h
  obtain ⟨h3, h⟩ := He.ba h
  obtain ⟨h4, h⟩ := He.ba h
  obtain ⟨h5, h⟩ := He.ba h
  obtain ⟨h6, h⟩ := He.ba h
  obtain ⟨h7, h8⟩ := He.ba h
  obtain ⟨o1, o2⟩ := onceB_ok o
  have X := xfB_ok h3
  exact ⟨⟨isRow_ok h1, of_decide_eq_true h2, of_decide_eq_true h8, of_decide_eq_true h4, h5⟩, X, ⟨X.ga, X.gg, X.exC, X.hdC, of_decide_eq_true h6, o1, o2, of_decide_eq_true h7⟩⟩
/-- an own error without __init__, raised by its message -/
def plnB (K : PySem.W.Frag) (C : Addr) : Bool := PySem.W.excIn K C [.type "ValueError", .type "Exception", .type "BaseException", .type "object"] "ValueError.__new__"
def clsB (K : PySem.W.Frag) (C : Addr) : Bool := PySem.W.plainGet K C Str.empty && (PySem.W.hasDictIn K C && (PySem.W.plainOver K C && decide (PySem.W.findIn K (.ref C) "__setattr__" = some (some (.builtin "object.__setattr__")))))
theorem clsB_ok {K : PySem.W.Frag} {C : Addr} (h : clsB K C = true) : Cls K C := by
  obtain ⟨h1, h⟩ := He.ba h
  obtain ⟨h2, h⟩ := He.ba h
  obtain ⟨h3, h4⟩ := He.ba h
  exact ⟨h1, h2, h3, of_decide_eq_true h4⟩
def atB (K : PySem.W.Frag) (C : Addr) (f : Str) (r : Option Value) : Bool := decide (PySem.W.findIn K (.ref C) f = some r)
theorem atB_ok {K : PySem.W.Frag} {C : Addr} {f : Str} {r : Option Value} (h : atB K C f r = true) : PySem.W.findIn K (.ref C) f = some r := of_decide_eq_true h
def kitB2 (K : PySem.W.Frag) (t c : Value) (b : Bool) : Bool := decide (PySem.W.kitOne K t c = some b)
def mkB (K : PySem.W.Frag) (C f : Addr) : Bool := PySem.W.makesIn K C && (decide (PySem.W.findIn K (.ref C) "__init__" = some (some (.ref f))) && (PySem.W.isFn K (.ref f) && PySem.W.keepIn K (.ref C)))
theorem mkB_ok {K : PySem.W.Frag} {C f : Addr} (h : mkB K C f = true) : Mk K C f := by
  obtain ⟨h1, h⟩ := He.ba h
  obtain ⟨h2, h⟩ := He.ba h
  obtain ⟨h3, h4⟩ := He.ba h
  exact ⟨h1, of_decide_eq_true h2, h3, h4⟩
/-- the getter of a property -/
def getAt (C : Str) (f : Str) (K : PySem.W.Frag) : Addr := match PySem.W.recIn K (He.ma K (He.ga K C) f) "property" with
  | some (.ref g :: _) => g
  | _ => 0
def propB (K : PySem.W.Frag) (C f : Str) : Bool := decide (PySem.W.findIn K (.ref (He.ga K C)) f = some (some (.ref (He.ma K (He.ga K C) f)))) && (decide (PySem.W.specialIn K (.ref (He.ma K (He.ga K C) f)) "__get__" = some (some (.builtin "property.__get__"))) && (decide (PySem.W.takesIn K (.ref (He.ma K (He.ga K C) f)) = some true) &&
  (match PySem.W.recIn K (He.ma K (He.ga K C) f) "property" with
  | some (.ref _ :: _) => true
  | _ => false)))
theorem propB_ok {K : PySem.W.Frag} {C f : Str} (h : propB K C f = true) : PropOf K (He.ga K C) f (He.ma K (He.ga K C) f) (getAt C f K) := by
  obtain ⟨h1, h⟩ := He.ba h
  obtain ⟨h2, h⟩ := He.ba h
  obtain ⟨h3, h4⟩ := He.ba h
  refine ⟨of_decide_eq_true h1, of_decide_eq_true h2, of_decide_eq_true h3, ?_⟩
  unfold getAt
  split at h4
  · rename_i g r e
    rw [e]
    exact ⟨r, rfl⟩
  · cases h4
/-! ### the Hook -/
def tabsOk (g : Addr → Option Obj) (tf : List (PySem.W.Frag → Addr)) (K : PySem.W.Frag) : Bool := tf.all fun p => PySem.W.codeHdIn K (codeAt K (p K)) (He.tabOf K (codeAt K (p K))) && (match g (He.tabOf K (codeAt K (p K))) with
  | some o => He.emptyTab o
  | none => false)
abbrev Al : Type := Bool × List He.FnW
def obs (n : Nat) (fn : List Df) (tf : List (PySem.W.Frag → Addr)) (ex : PySem.W.Frag → Bool) (g : Addr → Option Obj) : Al :=
  ((fn.all fun d => d.ok (He.frT g (He.asD g n))) && (ex (He.frT g (He.asD g n)) && tabsOk g tf (He.frT g (He.asD g n))), fn.map fun d => seen (He.frT g (He.asD g n)) (d.at_ (He.frT g (He.asD g n))))
structure Says (fn : List Df) (tf : List (PySem.W.Frag → Addr)) (ex : PySem.W.Frag → Bool) (h : Heap) (K : PySem.W.Frag) : Prop where
  fn : ∀ d ∈ fn, Fun K d.name d.qual d.st (d.at_ K) (fdAt K (d.at_ K)) ∧ (fdAt K (d.at_ K)).code = .ref (codeAt K (d.at_ K))
  ex : ex K = true
  hd : ∀ p ∈ tf, PySem.W.codeHdIn K (codeAt K (p K)) (He.tabOf K (codeAt K (p K))) = true
  out : ∀ p ∈ tf, K.lookup (He.tabOf K (codeAt K (p K))) = none
  emp : ∀ p ∈ tf, h.get? (He.tabOf K (codeAt K (p K))) = some { cls := .none, data := .fields #[] }
theorem says_of {n : Nat} {fn : List Df} {tf : List (PySem.W.Frag → Addr)} {ex : PySem.W.Frag → Bool} {h : Heap} (e : obs n fn tf ex h.get? = (true, fn.map Df.val)) : Says fn tf ex h (He.frT h.get? (He.asD h.get? n)) := by
  have e1 : ((fn.all fun d => d.ok (He.frT h.get? (He.asD h.get? n))) && (ex (He.frT h.get? (He.asD h.get? n)) && tabsOk h.get? tf (He.frT h.get? (He.asD h.get? n)))) = true := congrArg (fun z : Al => z.1) e
  have e2 : (fn.map fun d => seen (He.frT h.get? (He.asD h.get? n)) (d.at_ (He.frT h.get? (He.asD h.get? n)))) = fn.map Df.val := congrArg (fun z : Al => z.2) e
  obtain ⟨a1, a2⟩ := He.ba e1
  obtain ⟨a3, a4⟩ := He.ba a2
  generalize hK : He.frT h.get? (He.asD h.get? n) = K at *
  have key : ∀ p ∈ tf, PySem.W.codeHdIn K (codeAt K (p K)) (He.tabOf K (codeAt K (p K))) = true ∧ ∃ o, h.get? (He.tabOf K (codeAt K (p K))) = some o ∧ He.emptyTab o = true := fun p hp => by
    obtain ⟨h3, h4⟩ := He.ba (List.all_eq_true.mp a4 p hp)
    refine ⟨h3, ?_⟩
    split at h4
    · rename_i o q
      exact ⟨o, q, h4⟩
    · cases h4
  refine ⟨fun d hd => Df.fn ?_ (List.all_eq_true.mp a1 d hd), a3, fun p hp => (key p hp).1, fun p hp => ?_, fun p hp => ?_⟩
  · exact List.map_inj_left.mp e2 d hd
  · obtain ⟨_, o, q, z⟩ := key p hp
    rw [← hK]
    rw [← hK] at q
    exact He.frT_none q z
  · obtain ⟨_, o, q, z⟩ := key p hp
    rw [q, He.emptyTab_eq z]
def hook (n : Nat) (fn : List Df) (tf : List (PySem.W.Frag → Addr)) (ex : PySem.W.Frag → Bool) : PySem.W.Hook where
  α := Al
  obs := fun s => obs n fn tf ex s.heap.get?
  val := fun _ => (true, fn.map Df.val)
  says := fun _ h => ∃ K : PySem.W.Frag, K.In h ∧ Says fn tf ex h K
  of := fun _ _ e => ⟨_, He.frT_in, says_of e⟩
  keeps := fun _ _ _ ⟨K, hK, c⟩ k => ⟨K, PySem.W.Frag.In.keeps hK k, ⟨c.fn, c.ex, c.hd, c.out, fun p hp => k _ _ (c.emp p hp)⟩⟩
theorem obs_eq {n : Nat} {fn : List Df} {tf : List (PySem.W.Frag → Addr)} {ex : PySem.W.Frag → Bool} {g : Addr → Option Obj} {s : Shared} (h : ∀ a, g a = s.heap.get? a) : obs n fn tf ex g = (hook n fn tf ex).obs s := by
  have e : g = s.heap.get? := funext h
  rw [e] <;> rfl
theorem Says.at_ {fn : List Df} {tf : List (PySem.W.Frag → Addr)} {ex : PySem.W.Frag → Bool} {h : Heap} {K : PySem.W.Frag} (c : Says fn tf ex h K) (i : Nat) {d : Df} (e : fn[i]? = some d := by rfl) : Fun K d.name d.qual d.st (d.at_ K) (fdAt K (d.at_ K)) := (c.fn d (List.mem_of_getElem? e)).1
theorem Says.code {fn : List Df} {tf : List (PySem.W.Frag → Addr)} {ex : PySem.W.Frag → Bool} {h : Heap} {K : PySem.W.Frag} (c : Says fn tf ex h K) (i : Nat) {d : Df} (e : fn[i]? = some d := by rfl) : (fdAt K (d.at_ K)).code = .ref (codeAt K (d.at_ K)) := (c.fn d (List.mem_of_getElem? e)).2
end HX
end

section
set_option maxRecDepth 100000
set_option maxHeartbeats 8000000
namespace P2
open PySem PySem.Spec PyProof.Rows L2 LamX ClX
def d3_0 : HX.Df := ⟨fun K => He.ma K (He.ga K "BadNumber") "__init__", "__init__", "BadNumber.__init__", inClass (top 3) 0⟩
def d6_0 : HX.Df := ⟨fun K => He.ma K (He.ga K "BadText") "__init__", "__init__", "BadText.__init__", inClass (top 6) 0⟩
def d9 : HX.Df := ⟨fun K => He.ga K "number_of", "number_of", "number_of", top 9⟩
def d10 : HX.Df := ⟨fun K => He.ga K "numbers_of", "numbers_of", "numbers_of", top 10⟩
def d11 : HX.Df := ⟨fun K => He.ga K "numbers_text", "numbers_text", "numbers_text", top 11⟩
def d12 : HX.Df := ⟨fun K => He.ga K "lines_text", "lines_text", "lines_text", top 12⟩
def d13 : HX.Df := ⟨fun K => He.ga K "lines_of_text", "lines_of_text", "lines_of_text", top 13⟩
def d16 : HX.Df := ⟨fun K => He.ga K "is_number", "is_number", "is_number", top 16⟩
def d17 : HX.Df := ⟨fun K => He.ga K "is_within", "is_within", "is_within", top 17⟩
def d18 : HX.Df := ⟨fun K => He.ga K "is_list", "is_list", "is_list", top 18⟩
def d19 : HX.Df := ⟨fun K => He.ga K "are_numbers", "are_numbers", "are_numbers", top 19⟩
def d20 : HX.Df := ⟨fun K => He.ga K "is_prime", "is_prime", "is_prime", top 20⟩
def d21 : HX.Df := ⟨fun K => He.ga K "check_prime", "check_prime", "check_prime", top 21⟩
def d24_0 : HX.Df := ⟨fun K => He.ma K (He.ga K "Table") "__init__", "__init__", "Table.__init__", inClass (top 24) 0⟩
def d24_1 : HX.Df := ⟨fun K => He.ma K (He.ga K "Table") "__eq__", "__eq__", "Table.__eq__", inClass (top 24) 1⟩
def d25 : HX.Df := ⟨fun K => He.ga K "are_lines", "are_lines", "are_lines", top 25⟩
def d26 : HX.Df := ⟨fun K => He.ga K "plain_lines", "plain_lines", "plain_lines", top 26⟩
def d27 : HX.Df := ⟨fun K => He.ga K "plain", "plain", "plain", top 27⟩
def d30 : HX.Df := ⟨fun K => He.ga K "is_deed", "is_deed", "is_deed", top 30⟩
def d33 : HX.Df := ⟨fun K => He.ga K "deed_text", "deed_text", "deed_text", top 33⟩
def d34 : HX.Df := ⟨fun K => He.ga K "deed_of_text", "deed_of_text", "deed_of_text", top 34⟩
def d35 : HX.Df := ⟨fun K => He.ga K "deed_read", "deed_read", "deed_read", top 35⟩
def d37 : HX.Df := ⟨fun K => He.ga K "_law_begun", "_law_begun", "_law_begun", top 37⟩
def d38 : HX.Df := ⟨fun K => He.ga K "_law_mixed", "_law_mixed", "_law_mixed", top 38⟩
def d39 : HX.Df := ⟨fun K => He.ga K "_law_take", "_law_take", "_law_take", top 39⟩
def d40 : HX.Df := ⟨fun K => He.ga K "_law_pick", "_law_pick", "_law_pick", top 40⟩
def d41 : HX.Df := ⟨fun K => He.ga K "_law_unit", "_law_unit", "_law_unit", top 41⟩
def d42 : HX.Df := ⟨fun K => He.ga K "_law_field", "_law_field", "_law_field", top 42⟩
def d43 : HX.Df := ⟨fun K => He.ga K "_law_made_table", "_law_made_table", "_law_made_table", top 43⟩
def d44 : HX.Df := ⟨fun K => He.ga K "_law_caught", "_law_caught", "_law_caught", top 44⟩
def d45 : HX.Df := ⟨fun K => He.ga K "_law_line_of", "_law_line_of", "_law_line_of", top 45⟩
def d46 : HX.Df := ⟨fun K => He.ga K "_law_made_deed", "_law_made_deed", "_law_made_deed", top 46⟩
def d47 : HX.Df := ⟨fun K => He.ga K "_law_move_line", "_law_move_line", "_law_move_line", top 47⟩
def d48 : HX.Df := ⟨fun K => He.ga K "_law_any_deed", "_law_any_deed", "_law_any_deed", top 48⟩
def d49 : HX.Df := ⟨fun K => He.ga K "_law_deed_holds", "_law_deed_holds", "_law_deed_holds", top 49⟩
def d50 : HX.Df := ⟨fun K => He.ga K "_law_wrong_lines", "_law_wrong_lines", "_law_wrong_lines", top 50⟩
def d51 : HX.Df := ⟨fun K => He.ga K "_law_refused", "_law_refused", "_law_refused", top 51⟩
def d52 : HX.Df := ⟨fun K => He.ga K "law", "law", "law", top 52⟩
def fnL : List HX.Df := [d3_0, d6_0, d9, d10, d11, d12, d13, d16, d17, d18, d19, d20, d21, d24_0, d24_1, d25, d26, d27, d30, d33, d34, d35, d37, d38, d39, d40, d41, d42, d43, d44, d45, d46, d47, d48, d49, d50, d51, d52]
def tfL : List (PySem.W.Frag → Addr) := [fun K => He.ga K "_law_deed_holds", fun K => He.ga K "_law_refused"]
def faL : List He.Fa := [.glo "number_of", .glo "numbers_of", .glo "numbers_text", .glo "lines_text", .glo "lines_of_text", .glo "is_number", .glo "is_within", .glo "is_list", .glo "are_numbers", .glo "is_prime", .glo "check_prime", .glo "are_lines", .glo "plain_lines", .glo "plain", .glo "is_deed", .glo "deed_text", .glo "deed_of_text", .glo "deed_read", .glo "_law_begun", .glo "_law_mixed", .glo "_law_take", .glo "_law_pick", .glo "_law_unit", .glo "_law_field", .glo "_law_made_table", .glo "_law_caught", .glo "_law_line_of", .glo "_law_made_deed", .glo "_law_move_line", .glo "_law_any_deed", .glo "_law_deed_holds", .glo "_law_wrong_lines", .glo "_law_refused", .glo "law", .glo "BadPrime", .glo "BadDeed", .glo "BadTable", .glo "BadNumber", .glo "BadText", .glo "SwayError", .glo "Table", .glo "PRIMES", .free "isinstance", .free "int", .free "bool", .free "list", .free "tuple", .free "dict", .free "len", .free "all", .free "any", .free "sum", .free "max", .free "sorted", .free "range", .free "enumerate", .free "repr", .free "zip", .free "abs", .free "str", .free "min", .int "MOST_LINES" 60, .int "MOST_SPOT" 1000000000, .int "MOST_WIDE" 3, .str "FIGURES" "0123456789"]
/-- the facts of the top, for the kernel to reckon -/
def exL (K : PySem.W.Frag) : Bool :=
  faL.all (fun f => f.ok K) && (He.tupB K "PRIMES" (primes.map He.Dv.int) && (HX.onceB K && (["BadPrime", "BadDeed", "BadTable", "BadNumber", "BadText"].all (fun x => HX.errB K (He.ga K x)) && (HX.plnB K (He.ga K "BadPrime") && (HX.plnB K (He.ga K "BadDeed") && (HX.plnB K (He.ga K "BadTable") && (HX.clsB K (He.ga K "Table") && (["prime", "tall", "wide", "lines"].all (fun f => HX.atB K (He.ga K "Table") f none) && (["Table"].all (fun x => HX.atB K (He.ga K x) "__class__" (some (.builtin "object.__class__")) && (decide (PySem.W.mroIn K (He.ga K x) (.type "object") = some true) && HX.kitB2 K (.ref (He.ga K x)) (.ref (He.ga K x)) true)) && (kinds7.all (fun n => HX.kitB2 K (.type n) (.ref (He.ga K "Table")) false) && (HX.atB K (He.ga K "BadNumber") "part" none && (HX.atB K (He.ga K "BadText") "at" none && (HX.mkB K (He.ga K "Table") (He.ma K (He.ga K "Table") "__init__") && (HX.atB K (He.ga K "Table") "__eq__" (some (.ref (He.ma K (He.ga K "Table") "__eq__"))) && (PySem.W.isFn K (.ref (He.ma K (He.ga K "Table") "__eq__")) && (["BadNumber", "BadText"].all (fun x => HX.atB K (He.ga K x) "__init__" (some (.ref (He.ma K (He.ga K x) "__init__"))) && decide (PySem.W.typeIn K (.ref (He.ma K (He.ga K x) "__init__")) = some (.type "function"))) && (["BadPrime", "BadDeed", "BadNumber", "BadText"].all (fun x => decide (PySem.W.exmOne K (.ref (He.ga K x)) (.ref (He.ga K "SwayError")) = some true) && HX.kitB2 K (.ref (He.ga K x)) (.ref (He.ga K x)) true) && (!(decide (He.tabOf K (HX.codeAt K (He.ga K "_law_deed_holds")) = He.tabOf K (HX.codeAt K (He.ga K "_law_refused"))))))))))))))))))))))
abbrev RL : PySem.W.OpenRow := PySem.W.OpenLaw.row PySem.Challenge.rw_unswayed_k97_texts_of_deeds
abbrev hkL : PySem.W.Hook := HX.hook 7 fnL tfL exL
def obL (s : PySem.W.SharedT) : HX.Al := HX.obs 7 fnL tfL exL (HandSHeadRun.getT s)
theorem obL_eq (s : PySem.W.SharedT) : obL s = hkL.obs s.abs := HX.obs_eq (HandSHeadRun.getT_eq s)
def namesL : List PySem.Str := (PySem.Challenge.pw_unswayed_k97_texts_of_deeds.main.scope.names.map (·.1)).filter fun x => !(x == "law")
theorem runL (w : World) : HandSHeadRun.RunEq RL (PySem.W.view RL.prog [52]) hkL obL 8000 namesL w := by
  intro os
  kernel_rfl
end P2
end

section
set_option maxRecDepth 100000
set_option maxHeartbeats 4000000
/-! Texts of deeds, as lists of code points. -/
namespace K7
open PySem PySem.Spec PyProof.Rows SX
def isFig (c : Nat) : Bool := decide (48 ≤ c) && decide (c ≤ 57)
/-- number_of(word, 0, most) -/
def numB (most : Nat) (a : List Nat) : Option Nat :=
  if (decide (1 ≤ a.length) && decide (a.length ≤ (TL.numL most).length) && a.all isFig) = true then
    if (decide (1 < a.length) && decide (a.head? = some 48)) = true then none
    else if NumText.digitsVal a ≤ most then some (NumText.digitsVal a) else none
  else none
theorem all_digits {a : List Nat} (h : a.all isFig = true) : NumText.AllDigits a := fun c hc => by
  have z : (decide (48 ≤ c) && decide (c ≤ 57)) = true := List.all_eq_true.mp h c hc
  rw [Bool.and_eq_true, decide_eq_true_eq, decide_eq_true_eq] at z
  exact z
theorem digitsVal_snoc (a : List Nat) (c : Nat) : NumText.digitsVal (a ++ [c]) = NumText.digitsVal a * 10 + (c - 48) := by
  unfold NumText.digitsVal
  rw [List.foldl_append]
  rfl
theorem foldl_ge (l : List Nat) : ∀ a : Nat, a ≤ l.foldl (fun acc c => acc * 10 + (c - 48)) a := by
  induction l with
  | nil => exact fun a => Nat.le_refl _
  | cons c l ih => exact fun a => Nat.le_trans (by omega) (ih (a * 10 + (c - 48)))
theorem val_pos {c : Nat} {a : List Nat} (h : 49 ≤ c) : 1 ≤ NumText.digitsVal (c :: a) := by
  show 1 ≤ a.foldl (fun acc c => acc * 10 + (c - 48)) (0 * 10 + (c - 48))
  exact Nat.le_trans (by omega) (foldl_ge a _)
/-- a canonical word is the text of its number -/
theorem num_back : ∀ (n : Nat) (a : List Nat), a.length = n → a ≠ [] → NumText.AllDigits a → (1 < a.length → a.head? ≠ some 48) → TL.numL (NumText.digitsVal a) = a
  | 0, a, h, ne, _, _ => absurd (List.length_eq_zero_iff.mp h) ne
  | 1, [c], _, _, d, _ => by
    have hc := d c List.mem_cons_self
    have e : NumText.digitsVal [c] = c - 48 := by
      show 0 * 10 + (c - 48) = c - 48
      omega
    rw [e, TL.numL_lt (by omega)]
    rw [show 48 + (c - 48) = c by omega]
  | n + 2, a, h, ne, d, z => by
    obtain ⟨b, c, rfl⟩ : ∃ b c, a = b ++ [c] := ⟨a.dropLast, a.getLast ne, (List.dropLast_concat_getLast ne).symm⟩
    have lb : b.length = n + 1 := by rw [List.length_append] at h; simpa using h
    have nb : b ≠ [] := fun e => by rw [e] at lb; cases lb
    have hz := z (by rw [List.length_append, lb]; show 1 < n + 1 + 1; omega)
    obtain ⟨x, r, rfl⟩ := List.exists_cons_of_ne_nil nb
    have hx : x ≠ 48 := fun e => hz (by rw [e]; rfl)
    have dx := d x (by simp)
    have dc := d c (by simp)
    have ih := num_back (n + 1) (x :: r) lb nb (fun y hy => d y (List.mem_append_left _ hy)) (fun _ e => hx (Option.some.inj e))
    have p := val_pos (a := r) (show 49 ≤ x by omega)
    rw [digitsVal_snoc]
    generalize NumText.digitsVal (x :: r) = v at p ih ⊢
    rw [TL.numL_step (by omega), show (v * 10 + (c - 48)) / 10 = v by omega, show (v * 10 + (c - 48)) % 10 = c - 48 by omega, ih, show 48 + (c - 48) = c by omega]
theorem numB_back {most n : Nat} {a : List Nat} (h : numB most a = some n) : TL.numL n = a ∧ n ≤ most := by
  unfold numB at h
  split at h
  case isFalse => cases h
  rename_i h1
  split at h
  · cases h
  rename_i h2
  split at h
  case isFalse => cases h
  rename_i h3
  obtain rfl := Option.some.inj h
  simp only [Bool.and_eq_true, decide_eq_true_eq] at h1 h2
  refine ⟨num_back _ a rfl (fun e => by rw [e] at h1; exact absurd h1.1.1 (by decide)) (all_digits h1.2) fun l e => h2 ⟨l, e⟩, h3⟩
theorem numL_head {n : Nat} : 1 < (TL.numL n).length → (TL.numL n).head? ≠ some 48 := by
  induction n using Nat.strongRecOn with
  | _ n ih =>
    intro h
    by_cases h9 : n < 10
    · rw [TL.numL_lt h9] at h
      exact absurd h (Nat.lt_irrefl 1)
    · rw [TL.numL_step (by omega)]
      by_cases h99 : n / 10 < 10
      · rw [TL.numL_lt h99]
        intro e
        have e2 : 48 + n / 10 = 48 := Option.some.inj e
        omega
      · have l1 : 1 < (TL.numL (n / 10)).length := by
          rw [TL.numL_step (by omega), List.length_append]
          have := List.length_pos_iff.mpr (TL.numL_ne (n / 10 / 10))
          show 1 < _ + 1
          omega
        have z := ih (n / 10) (by omega) l1
        obtain ⟨x, r, e⟩ := List.exists_cons_of_ne_nil (TL.numL_ne (n / 10))
        rw [e] at z ⊢
        exact z
theorem numL_mono {m n : Nat} (h : m ≤ n) : (TL.numL m).length ≤ (TL.numL n).length := by
  induction n using Nat.strongRecOn generalizing m with
  | _ n ih =>
    by_cases h9 : m < 10
    · rw [TL.numL_lt h9]
      exact List.length_pos_iff.mpr (TL.numL_ne n)
    · rw [TL.numL_step (show 10 ≤ m by omega), TL.numL_step (show 10 ≤ n by omega), List.length_append, List.length_append]
      exact Nat.add_le_add_right (ih (n / 10) (by omega) (by omega)) 1
theorem numB_num {most n : Nat} (h : n ≤ most) : numB most (TL.numL n) = some n := by
  have d := TL.numL_digits n
  have p := List.length_pos_iff.mpr (TL.numL_ne n)
  unfold numB
  rw [if_pos, if_neg, TL.numL_val, if_pos h]
  · simp only [Bool.and_eq_true, decide_eq_true_eq]
    exact fun z => numL_head z.1 z.2
  · simp only [Bool.and_eq_true, decide_eq_true_eq]
    refine ⟨⟨p, numL_mono h⟩, List.all_eq_true.mpr fun c hc => ?_⟩
    have := d c hc
    unfold isFig
    rw [decide_eq_true this.1, decide_eq_true this.2]
    rfl
/-- all of them, or none -/
def allSome {α : Type} (xs : List (Option α)) : Option (List α) := if xs.any (·.isNone) = true then none else some (xs.filterMap id)
theorem allSome_of {α : Type} : ∀ {xs : List (Option α)} {ys : List α}, allSome xs = some ys → xs = ys.map some := fun {xs ys} h => by
  unfold allSome at h
  split at h
  · cases h
  · rename_i hn
    obtain rfl := Option.some.inj h
    clear h
    induction xs with
    | nil => rfl
    | cons x xs ih =>
      cases x with
      | none => exact absurd (by rfl) hn
      | some x =>
        have hn' : ¬ (xs.any fun z => z.isNone) = true := fun z => hn (by rw [List.any_cons, z, Bool.or_true])
        rw [List.filterMap_cons]
        show some x :: xs = some x :: (xs.filterMap id).map some
        rw [← ih hn']
theorem allSome_map {α : Type} (ys : List α) : allSome (ys.map some) = some ys := by
  unfold allSome
  rw [if_neg]
  · congr 1
    induction ys with
    | nil => rfl
    | cons y ys ih => rw [List.map_cons, List.filterMap_cons]; exact congrArg (y :: ·) ih
  · simp
def numsOf (many most : Nat) (t : List Nat) : Option (List Nat) :=
  let xs := (TL.spl [32] 0 [] t).map (numB most)
  if xs.length = many then allSome xs else none
def linesOf (p w : Nat) (t : List Nat) : Option (List (List Nat)) :=
  let xs := (TL.spl [32, 47, 32] 0 [] t).map (numsOf w (p - 1))
  if xs.length = w then allSome xs else none
def numsL (ns : List Nat) : List Nat := TL.joinL [32] (ns.map TL.numL)
def linesL (ls : List (List Nat)) : List Nat := TL.joinL [32, 47, 32] (ls.map numsL)
/-- a deed: take a number; put or turn a table -/
inductive Deed
  | take (n : Nat)
  | put (ls : List (List Nat))
  | turn (ls : List (List Nat))
deriving DecidableEq
abbrev wTake : List Nat := [116, 97, 107, 101]
abbrev wPut : List Nat := [112, 117, 116]
abbrev wTurn : List Nat := [116, 117, 114, 110]
def parted (t : List Nat) : List Nat × List Nat := match TL.par [32] [] t with
  | some x => x
  | none => (t, [])
def readL (p w : Nat) (t : List Nat) : Option Deed :=
  if (parted t).1 = wTake then (numB 1000000000 (parted t).2).map .take
  else if (parted t).1 = wPut then (linesOf p w (parted t).2).map .put
  else if (parted t).1 = wTurn then (linesOf p w (parted t).2).map .turn
  else none
def deedL : Deed → List Nat
  | .take n => wTake ++ ([32] ++ TL.numL n)
  | .put ls => wPut ++ ([32] ++ linesL ls)
  | .turn ls => wTurn ++ ([32] ++ linesL ls)
theorem joinL_spl {sep : List Nat} (hs : sep ≠ []) (hk : sep.all (· < 256) = true) (t : List Nat) : TL.joinL sep (TL.spl sep 0 [] t) = t := by
  have h1 := split_S (a := t) hs hk
  have h2 := join_S sep (TL.spl sep 0 [] t)
  rw [← h1] at h2
  have h3 : Txt.join (S sep) (Txt.split (S t) (S sep)) = S t := (StrLaws.glued_eq_join _ _).trans (StrLaws.join_split (S t) (S sep))
  rw [h3] at h2
  exact (S_inj h2).symm
theorem numsOf_back {many most : Nat} {t ns : List Nat} (h : numsOf many most t = some ns) : numsL ns = t ∧ ns.length = many ∧ ∀ n ∈ ns, n ≤ most := by
  have h : (if ((TL.spl [32] 0 [] t).map (numB most)).length = many then allSome ((TL.spl [32] 0 [] t).map (numB most)) else none) = some ns := h
  split at h
  case isFalse => cases h
  rename_i hl
  have e := allSome_of h
  have el : ns.length = many := by rw [← hl, e, List.length_map]
  have key : ∀ (ws : List (List Nat)) (ns : List Nat), ws.map (numB most) = ns.map some → ns.map TL.numL = ws ∧ ∀ n ∈ ns, n ≤ most := by
    intro ws
    induction ws with
    | nil =>
      intro ns e
      cases ns with
      | nil => exact ⟨rfl, fun _ h => nomatch h⟩
      | cons _ _ => cases e
    | cons x ws ih =>
      intro ns e
      cases ns with
      | nil => cases e
      | cons n ns =>
        rw [List.map_cons, List.map_cons] at e
        obtain ⟨e1, e2⟩ := List.cons.inj e
        obtain ⟨b1, b2⟩ := numB_back e1
        obtain ⟨i1, i2⟩ := ih ns e2
        exact ⟨by rw [List.map_cons, b1, i1], fun m hm => (List.mem_cons.mp hm).elim (fun z => z ▸ b2) (i2 m)⟩
  obtain ⟨k1, k2⟩ := key _ _ e
  exact ⟨by unfold numsL; rw [k1]; exact joinL_spl (by simp) rfl t, el, k2⟩
theorem linesOf_back {p w : Nat} {t : List Nat} {ls : List (List Nat)} (h : linesOf p w t = some ls) : linesL ls = t ∧ ls.length = w ∧ ∀ l ∈ ls, l.length = w ∧ ∀ n ∈ l, n ≤ p - 1 := by
  have h : (if ((TL.spl [32, 47, 32] 0 [] t).map (numsOf w (p - 1))).length = w then allSome ((TL.spl [32, 47, 32] 0 [] t).map (numsOf w (p - 1))) else none) = some ls := h
  split at h
  case isFalse => cases h
  rename_i hl
  have e := allSome_of h
  have el : ls.length = w := by rw [← hl, e, List.length_map]
  have key : ∀ (ws : List (List Nat)) (ls : List (List Nat)), ws.map (numsOf w (p - 1)) = ls.map some → ls.map numsL = ws ∧ ∀ l ∈ ls, l.length = w ∧ ∀ n ∈ l, n ≤ p - 1 := by
    intro ws
    induction ws with
    | nil =>
      intro ls e
      cases ls with
      | nil => exact ⟨rfl, fun _ h => nomatch h⟩
      | cons _ _ => cases e
    | cons x ws ih =>
      intro ls e
      cases ls with
      | nil => cases e
      | cons l ls =>
        rw [List.map_cons, List.map_cons] at e
        obtain ⟨e1, e2⟩ := List.cons.inj e
        obtain ⟨b1, b2⟩ := numsOf_back e1
        obtain ⟨i1, i2⟩ := ih ls e2
        exact ⟨by rw [List.map_cons, b1, i1], fun m hm => (List.mem_cons.mp hm).elim (fun z => z ▸ b2) (i2 m)⟩
  obtain ⟨k1, k2⟩ := key _ _ e
  exact ⟨by unfold linesL; rw [k1]; exact joinL_spl (by simp) rfl t, el, k2⟩
theorem numB_nil (m : Nat) : numB m [] = none := rfl
theorem numsOf_nil {w m : Nat} : numsOf w m [] = none := by
  show (if _ then allSome [numB m []] else none) = none
  split <;> rfl
theorem linesOf_nil {p w : Nat} : linesOf p w [] = none := by
  show (if _ then allSome [numsOf w (p - 1) []] else none) = none
  rw [numsOf_nil]
  split <;> rfl
/-- what stands before the first blank, the blank, the rest -/
theorem parted_app (t : List Nat) : t = (parted t).1 ++ ([32] ++ (parted t).2) ∨ (parted t).2 = [] := by
  have z := StrLaws.partition_sum (S t) (S [32])
  unfold parted
  cases h : TL.par [32] [] t with
  | none => exact .inr rfl
  | some x =>
    obtain ⟨a, b⟩ := x
    rw [partition_some (by simp) h] at z
    have z2 : S a ++ S [32] ++ S b = S t := z
    rw [S_cat, S_cat] at z2
    left
    rw [← S_inj z2, List.append_assoc]
/-- a line that is read tells just the deed with this line -/
theorem read_back {p w : Nat} {t : List Nat} {d : Deed} (h : readL p w t = some d) : deedL d = t := by
  unfold readL at h
  rcases parted_app t with e | e
  · split at h
    · rename_i h1
      obtain ⟨n, hn, rfl⟩ := Option.map_eq_some_iff.mp h
      rw [h1, ← (numB_back hn).1] at e
      exact e.symm
    split at h
    · rename_i h1
      obtain ⟨ls, hn, rfl⟩ := Option.map_eq_some_iff.mp h
      rw [h1, ← (linesOf_back hn).1] at e
      exact e.symm
    split at h
    · rename_i h1
      obtain ⟨ls, hn, rfl⟩ := Option.map_eq_some_iff.mp h
      rw [h1, ← (linesOf_back hn).1] at e
      exact e.symm
    · cases h
  · rw [e, numB_nil, linesOf_nil] at h
    simp at h
/-! ### there and back -/
theorem numsL_free {ns : List Nat} : 47 ∉ numsL ns := by
  unfold numsL
  induction ns with
  | nil => exact fun h => nomatch h
  | cons n ns ih =>
    cases ns with
    | nil => exact TL.numL_free (.inl (by decide))
    | cons m ns =>
      intro h
      have h : 47 ∈ TL.numL n ++ ([32] ++ TL.joinL [32] ((m :: ns).map TL.numL)) := by simpa [TL.joinL] using h
      rcases List.mem_append.mp h with h | h
      · exact TL.numL_free (.inl (by decide)) h
      · rcases List.mem_append.mp h with h | h
        · exact absurd (List.mem_singleton.mp h) (by decide)
        · exact ih h
theorem numsOf_nums {most : Nat} {ns : List Nat} (ne : ns ≠ []) (h : ∀ n ∈ ns, n ≤ most) : numsOf ns.length most (numsL ns) = some ns := by
  have e : TL.spl [32] 0 [] (numsL ns) = ns.map TL.numL := spl_join (by simpa using ne) fun p hp => by
    obtain ⟨n, _, rfl⟩ := List.mem_map.mp hp
    exact TL.numL_free (.inl (by decide))
  have e2 : (ns.map TL.numL).map (numB most) = ns.map some := by
    rw [List.map_map]
    exact List.map_congr_left fun n hn => numB_num (h n hn)
  show (if ((TL.spl [32] 0 [] (numsL ns)).map (numB most)).length = ns.length then allSome ((TL.spl [32] 0 [] (numsL ns)).map (numB most)) else none) = _
  rw [e, e2, if_pos (by rw [List.length_map]), allSome_map]
theorem pre3 {c : Nat} {l : List Nat} (h : l.head? ≠ some 47) : TL.pre [32, 47, 32] (c :: l) = false := by
  unfold TL.pre
  cases l with
  | nil => cases hh : decide (c = 32) <;> simp
  | cons d l =>
    have hd : d ≠ 47 := fun e => h (by rw [e]; rfl)
    show ((c :: (d :: l).take 2) == [32, 47, 32]) = false
    cases l with
    | nil => simp
    | cons e l => simp [hd]
theorem slash_free : ∀ {p : List Nat}, 47 ∉ p → free [32, 47, 32] p = true
  | [], _ => rfl
  | c :: r, h => by
    show (!(TL.pre [32, 47, 32] (c :: (r ++ [32, 47, 32]))) && free [32, 47, 32] r) = true
    rw [pre3, slash_free fun z => h (List.mem_cons_of_mem _ z)]
    · rfl
    · cases r with
      | nil => simp
      | cons d r => exact fun e => h (by rw [← Option.some.inj (show some d = some 47 from e)]; simp)
theorem slash_none {p : List Nat} (h : 47 ∉ p) (i : Nat) (hi : i < p.length) : TL.pre [32, 47, 32] (p.drop i) = false := by
  rw [List.drop_eq_getElem_cons hi]
  refine pre3 fun e => h ?_
  have z : 47 ∈ p.drop (i + 1) := List.mem_of_mem_head? (by rw [e]; rfl)
  exact List.mem_of_mem_drop z
theorem spl_slash : ∀ {parts : List (List Nat)}, parts ≠ [] → (∀ p ∈ parts, 47 ∉ p) → TL.spl [32, 47, 32] 0 [] (TL.joinL [32, 47, 32] parts) = parts
  | [], h, _ => absurd rfl h
  | [p], _, h => by
    have z := TL.spl_last (S := [32, 47, 32]) (p := p) (acc := []) (slash_none (h p List.mem_cons_self))
    exact z
  | p :: q :: parts, _, h => by
    have e : TL.joinL [32, 47, 32] (p :: q :: parts) = p ++ ([32, 47, 32] ++ TL.joinL [32, 47, 32] (q :: parts)) := by simp [TL.joinL]
    rw [e, spl_free _ (by simp) (slash_free (h p List.mem_cons_self)), spl_slash (by simp) fun r hr => h r (List.mem_cons_of_mem _ hr)]
theorem linesOf_lines {p w : Nat} {ls : List (List Nat)} (w1 : 1 ≤ w) (hl : ls.length = w) (h : ∀ l ∈ ls, l.length = w ∧ ∀ n ∈ l, n ≤ p - 1) : linesOf p w (linesL ls) = some ls := by
  have ne : ls ≠ [] := fun e => by rw [e] at hl; simp at hl; omega
  have e : TL.spl [32, 47, 32] 0 [] (linesL ls) = ls.map numsL := spl_slash (by simpa using ne) fun p hp => by
    obtain ⟨n, _, rfl⟩ := List.mem_map.mp hp
    exact numsL_free
  have e2 : (ls.map numsL).map (numsOf w (p - 1)) = ls.map some := by
    rw [List.map_map]
    refine List.map_congr_left fun l hl2 => ?_
    obtain ⟨h1, h2⟩ := h l hl2
    have z := numsOf_nums (most := p - 1) (ns := l) (fun e => by rw [e] at h1; simp at h1; omega) h2
    rw [h1] at z
    exact z
  show (if ((TL.spl [32, 47, 32] 0 [] (linesL ls)).map (numsOf w (p - 1))).length = w then allSome ((TL.spl [32, 47, 32] 0 [] (linesL ls)).map (numsOf w (p - 1))) else none) = _
  rw [e, e2, if_pos (by rw [List.length_map, hl]), allSome_map]
/-- what a deed is drawn from -/
def DeedOk (p w : Nat) : Deed → Prop
  | .take n => n ≤ 1000000000
  | .put ls => ls.length = w ∧ ∀ l ∈ ls, l.length = w ∧ ∀ n ∈ l, n ≤ p - 1
  | .turn ls => ls.length = w ∧ ∀ l ∈ ls, l.length = w ∧ ∀ n ∈ l, n ≤ p - 1
theorem parted_at {a b : List Nat} (h : 32 ∉ a) : parted (a ++ ([32] ++ b)) = (a, b) := by
  unfold parted
  rw [par_free b (by simp) (free_head h)]
theorem read_there {p w : Nat} {d : Deed} (w1 : 1 ≤ w) (h : DeedOk p w d) : readL p w (deedL d) = some d := by
  cases d with
  | take n =>
    unfold readL deedL
    rw [parted_at (by decide), if_pos rfl, numB_num h]
    rfl
  | put ls =>
    unfold readL deedL
    rw [parted_at (by decide), if_neg (show ¬ wPut = wTake by decide), if_pos rfl, linesOf_lines w1 h.1 h.2]
    rfl
  | turn ls =>
    unfold readL deedL
    rw [parted_at (by decide), if_neg (show ¬ wTurn = wTake by decide), if_neg (show ¬ wTurn = wPut by decide), if_pos rfl, linesOf_lines w1 h.1 h.2]
    rfl
theorem read_ok {p w : Nat} {t : List Nat} {d : Deed} (h : readL p w t = some d) : DeedOk p w d := by
  unfold readL at h
  split at h
  · obtain ⟨n, hn, rfl⟩ := Option.map_eq_some_iff.mp h
    exact (numB_back hn).2
  split at h
  · obtain ⟨ls, hn, rfl⟩ := Option.map_eq_some_iff.mp h
    exact (linesOf_back hn).2
  split at h
  · obtain ⟨ls, hn, rfl⟩ := Option.map_eq_some_iff.mp h
    exact (linesOf_back hn).2
  · cases h
end K7
end

section
set_option maxRecDepth 100000
set_option maxHeartbeats 4000000
/-! Rules: != of tuples by an own __eq__; str.replace; a text so many times. -/
namespace GQ
open PySem PySem.SeqAt
open AutoSeq1 (wpAny_loadPart')
open MeetsSeq MeetsSeq2 MeetsSeq3 SeqRoads2
section
variable {prog : Program} {w : World} {A : Around} {R : Result → Shared → Prop}
theorem tuple_neG (l b : Addr) (items items2 : Array Value) (n n2 : Nat) (dd dd2 : Option Addr) (sl sl2 : Array (Option Value)) (hsz : items.size = items2.size) (I : Nat → Shared → Prop)
    (turn : ∀ i (h1 : i < items.size) (h2 : i < items2.size) s, I i s → wpAny (model prog w) A.in1 (eqBool items[i] items2[i]) (fun r s' => r = true ∧ I (i + 1) s') (fun e s' => R (.error e) s') s)
    (fin : ∀ s, I items.size s → R (.ok (.ret (.bool false))) s) {s : Shared} (hl1 : s.heap.get? l = some { cls := .type "tuple", dict := dd, data := .seq items n, slots := sl }) (hb1 : s.heap.get? b = some { cls := .type "tuple", dict := dd2, data := .seq items2 n2, slots := sl2 }) (h : I 0 s) :
    wpAny (model prog w) A.in1 (Builtin.«tuple.__ne__» ⟨[.ref l, .ref b], []⟩) (FinOf prog w A R) (fun e s' => R (.error e) s') s := by
  have f2 := AutoSeq1.sub_tuple_tuple
  have hZ : (items.toList.zip items2.toList).length = items.size := by simp [hsz]
  have h0 := h
  obtain ⟨hp, g, d, tk, os⟩ := s
  wp_walk using wpAny_loadPart' hl1, wpAny_loadPart' hb1, wpAny_forIn_list _ (fun rest b s' => b.1 = none ∧ ∃ i, rest = (items.toList.zip items2.toList).drop i ∧ i ≤ items.size ∧ I i s') _
  case turn =>
    rintro ⟨y, x⟩ rest b s' ⟨hb', i, hz, hi, hI⟩
    have hlt : i < (items.toList.zip items2.toList).length := by
      rcases Nat.lt_or_ge i (items.toList.zip items2.toList).length with h' | h'
      · exact h'
      · rw [List.drop_of_length_le h'] at hz; cases hz
    have h1 : i < items.size := hZ ▸ hlt
    have h2 : i < items2.size := hsz ▸ h1
    rw [List.drop_eq_getElem_cons hlt] at hz
    injection hz with hyx hrest
    have hy : y = items[i] := by have := congrArg Prod.fst hyx; simpa using this
    have hx : x = items2[i] := by have := congrArg Prod.snd hyx; simpa using this
    subst hy hx
    refine wpAny_bind (wpAny_mono (turn i h1 h2 s' hI) (fun r s2 q2 => ?_) fun _ _ x => x)
    obtain ⟨hr, q2⟩ := q2
    subst hr
    wp_walk
    exact ⟨rfl, i + 1, hrest, h1, q2⟩
  case fin =>
    rintro ⟨b1, b2⟩ s' ⟨hb', i, hz, hi, hI⟩
    simp only at hb'
    subst hb'
    have hge : items.size ≤ i := by
      rcases Nat.lt_or_ge i (items.toList.zip items2.toList).length with h' | h'
      · rw [List.drop_eq_getElem_cons h'] at hz; cases hz
      · exact hZ ▸ h'
    have hi' : i = items.size := by omega
    have hR : R (.ok (.ret (.bool false))) s' := fin s' (hi' ▸ hI)
    wp_walk
    simpa [Builtin.Tuple.tupleCompareSizes, hsz] using hR
  case h =>
    exact ⟨rfl, 0, rfl, Nat.zero_le _, h0⟩
end
section
variable {prog : Program} {w : World} {A : Around} {E : Value → Shared → Prop} {s : Shared}
theorem rc_tupNeG {l b : Addr} {items items2 : Array Value} {Q : Value → Shared → Prop} (hsz : items.size = items2.size) (hu : A.units < cLine) (I : Nat → Shared → Prop)
    (hl : s.heap.IsTuple l items) (hb : s.heap.IsTuple b items2)
    (turn : ∀ i (h1 : i < items.size) (h2 : i < items2.size) s, I i s → wpAny (model prog w) A.in1 (eqBool items[i] items2[i]) (fun r s' => r = true ∧ I (i + 1) s') E s)
    (fin : ∀ s, I items.size s → Q (.bool false) s) (h : I 0 s) : wpAny (model prog w) A (richCompare .NotEq (.ref l) (.ref b)) Q E s := by
  obtain ⟨⟨cls, dd, data, sl⟩, ho, hc, n, hd⟩ := id hl
  obtain ⟨⟨cls2, dd2, data2, sl2⟩, ho2, hc2, n2, hd2⟩ := id hb
  simp only at hc hd hc2 hd2
  subst hc hd hc2 hd2
  refine wpAny_richCompare_same_room (op := .NotEq) ⟨_, ho, rfl⟩ ⟨_, ho2, rfl⟩ F.slot_tuple_ne (call_here F.slot_tuple_ne ⟨_, ho, rfl⟩ F.entry_tuple_ne (F.args_tuple_ne_2 _ _) ?_) hu
  exact tuple_neG (R := wants (fun v s' => v ≠ .notImplemented ∧ Q v s') E) l b items items2 n n2 dd dd2 sl sl2 hsz I turn (fun s' q => ⟨(fun x => nomatch x), fin s' q⟩) ho ho2 h
end
end GQ
namespace L2
open PySem PySem.Spec PyProof.Rows
section
variable {X : Cx} {n : Nat} {D : Eqv}
/-- x != y of tuples whose items are equal -/
def rNeTupG (K : PySem.W.Frag) (D : Eqv) : R2 := fun x y H Q => DTup K D x y H ∧ ∀ H', Ext H H' → Q (.bl false) H'
theorem op_neTupG (hD : Mon D) (h : EqG X n D) (hr : Room (n + 1) X.A) : OpR X (compareOp .NotEq) (rNeTupG X.K D) := by
  intro pins s σ H x y v u Q I rx ry hq
  obtain ⟨⟨a, b, xs, ys, rfl, rfl, ha, hb, p⟩, q⟩ := hq
  cases rx
  cases ry
  obtain ⟨its, r, e, z⟩ := I.tuple ha
  obtain ⟨its2, r2, e2, z2⟩ := I.tuple hb
  have hsz : its.toArray.size = its2.toArray.size := by rw [List.size_toArray, List.size_toArray, ← r.length, ← r2.length]; exact p.1
  have sb : Sub X (n + 1) X.A := ⟨hr, rfl⟩
  show wpAny (model X.prog X.w) X.A (richCompare .NotEq (.ref a) (.ref b)) (EP X pins σ Q) X.xe s
  refine GQ.rc_tupNeG hsz sb.room.units0 (fun _ s' => LoopI X pins σ H s') e e2 (fun i h1 h2 s' q => turnG hD h sb p r r2 i h1 h2 s' q) (fun s' z => ?_) ⟨H, I, Ext.rfl'⟩
  obtain ⟨H', I', e'⟩ := z
  exact ⟨.bl false, H', I', rfl, q H' e'⟩
end
end L2
namespace CwR
open PySem PySem.Spec PyProof.Rows L2
/-- e is a text with a token of its own -/
def FreshE (X : Cx) (e : Expr) (t : L2.St → Hp → (Str → Hp → Prop) → Prop) : Prop :=
  ∀ (pins : List (Addr × Obj)) (s : Shared) (σ : L2.St) (H : Hp) (Q : Str → Hp → Prop), Inv X pins σ H s → t σ H Q →
    wpAny (model X.prog X.w) X.A (eval e X.env) (fun v s' => ∃ z k H', v = .str z k ∧ s.toks ≤ k ∧ Inv X pins σ H' s' ∧ Q z H') X.xe s
section
variable {X : Cx}
theorem fresh_const {z : Str} {k : Nat} {c1 : Pos} : FreshE X (.Constant (.str z) k c1) (fun _ H Q => Q z H) := fun pins s σ H Q I h =>
  Calls.Constant_str ⟨z, s.toks, H, rfl, Nat.le_refl _, I.tok _, h⟩
theorem boot_strT : bootBuiltins "str" = some (.type "str") := by decide +kernel
theorem fresh_str {e : Expr} {te : TE} {p pos : Pos} (hg : Gl X "str") (hm : X.mg "str" = none) (he : PE X e te) (na : starEach [e] X.env = (false, eval e X.env) :: starEach [] X.env := by rfl) :
    FreshE X (.Call (.Name "str" p) [e] [] pos) (fun σ H Q => te σ H fun v H1 => ∃ i, v = .int i ∧ i.natAbs.log2 < 1920 ∧ Q (toString i) H1) := fun pins s σ H Q I h => by
  refine Call_ (ld_blt I hg hm boot_strT ?_)
  refine PyProof.Rows.callWith_type1 (PyProof.Rows.args_cons (wpAny_mono (PySem.wpAny_toks (he.run pins s σ H _ I h)) (fun v s1 q => ?_) fun _ _ x => x.2) na) na rfl
  obtain ⟨hk, x, H1, I1, r1, i, e1, hz, q⟩ := q
  subst e1
  obtain ⟨t, rfl⟩ := r1
  exact PyProof.Rows.args_nil (PySem.P.str_of_int hz ⟨_, s1.toks, H1, rfl, hk, I1.tok _, q⟩)
/-- 'x' * n, written -/
theorem fresh_mul {x : Str} {n : Int} {j k : Nat} {p1 p2 pos : Pos} (h1 : 1 < n) (h2 : x.length * n.toNat ≤ 100000) (h3 : 0 < x.length) (h4 : n < 100000) :
    FreshE X (.BinOp (.Constant (.str x) j p1) .Mult (.Constant (.int n) k p2) pos) (fun _ H Q => Q ⟨(List.replicate n.toNat x.cps).foldl (· ++ ·) #[]⟩ H) := fun pins s σ H Q I h => by
  refine wpAny_BinOp (Calls.Constant_str (wpAny_mono (PySem.wpAny_toks ((pe_int (X := X)).run pins { s with toks := s.toks + 1 } σ H (fun v H1 => v = .int n ∧ H1 = H) (I.tok _) ⟨rfl, rfl⟩)) (fun u s1 q => ?_) fun _ _ x => x.2))
  obtain ⟨hk, y, H1, I1, r1, rfl, rfl⟩ := q
  obtain ⟨tn, rfl⟩ := r1
  have hk : s.toks + 1 ≤ s1.toks := hk
  have e63 : (2 : Int) ^ 63 = 9223372036854775808 := by decide
  have en : (n == 1) = false := beq_eq_false_iff_ne.mpr (by omega)
  have ex : (x.length == 0) = false := beq_eq_false_iff_ne.mpr (by omega)
  have tl : Builtin.Str.tooLong (x.length * n.toNat) = false := by
    unfold Builtin.Str.tooLong sizeLine
    exact decide_eq_false (by have : (2 : Nat) ^ 24 = 16777216 := by decide
                              omega)
  refine PySem.P.mul_str (by rw [decide_eq_false (by omega), decide_eq_false (by omega)]; rfl) (fun _ _ => ?_) (fun _ _ => tl) ?_
  · have hx : x.length ≤ 100000 := Nat.le_trans (Nat.le_mul_of_pos_right _ (by omega)) h2
    have hd : (100000 : Int) ≤ (2 ^ 63 - 1) / n := by
      rw [Int.le_ediv_iff_mul_le (by omega)]
      omega
    omega
  · rw [if_neg (by omega), en, ex]
    exact ⟨fits_reps tl, _, _, H1, rfl, by omega, I1.tok _, h⟩
/-- o.replace('y', e) -/
theorem pet_repl {o f : Expr} {to : TE} {tf : L2.St → Hp → (Str → Hp → Prop) → Prop} {y : Str} {j : Nat} {c0 apos pos : Pos} (ho : PE X o to) (hf : FreshE X f tf)
    (hst : starEach [.Constant (.str y) j c0, f] X.env = [(false, eval (.Constant (.str y) j c0) X.env), (false, eval f X.env)] := by rfl)
    (hbase : attributeBase o "replace" X.env (eval o X.env) = eval o X.env := by rfl) (hline : (apos.endLine == pos.line) = true := by rfl) :
    PET X (.Call (.Attribute o "replace" apos) [.Constant (.str y) j c0, f] [] pos) (fun σ H Q => to σ H fun v H1 => ∃ x, v = .str x ∧ tf σ H1 fun z H2 => (y == z) = false ∧ x.length + (x.length + 1) * z.length ≤ 16777216 ∧ Q (.str (Txt.replace x y z)) H2) := by
  intro pins s σ H Q h0 I h
  refine PySem.Call_method2 hbase hst hline (wpAny_mono (PySem.wpAny_toks (ho.run pins s σ H _ I h)) (fun v s1 q => ?_) fun _ _ z => z.2)
  obtain ⟨hk, v', H1, I1, r1, x, e1, q⟩ := q
  subst e1
  obtain ⟨tx, e2⟩ := r1
  subst e2
  refine ⟨"str", _, PySem.F.plainAttrs_str, PySem.F.slot_str_replace, PySem.F.type_str_replace, typeIs_str _ _ _, (fun _ e => nomatch e), Calls.callWith_builtin rfl (Calls.evalArgs_plain (Calls.spliced_cons ?_))⟩
  refine Calls.Constant_str (Calls.spliced_cons (wpAny_mono (hf pins { s1 with toks := s1.toks + 1 } σ H1 _ (I1.tok _) q) (fun v s2 q => ?_) fun _ _ x => x))
  obtain ⟨z, k, H2, rfl, hk3, I2, hyz, hb, q⟩ := q
  have hk2 : s1.toks + 1 ≤ k := hk3
  clear hk3
  have hk : s.toks ≤ s1.toks := hk
  exact Calls.spliced_nil (PySem.SC.replace (by show s1.toks ≠ 0; omega) (Nat.ne_of_gt (Nat.lt_of_lt_of_le (Nat.succ_pos _) hk2)) (by show s1.toks ≠ k; omega) hyz hb fun t' k => ⟨.str (Txt.replace x y z), H2, I2.tok k, ⟨t', rfl⟩, q⟩)
/-- 'x' op f: the written text gives a token out -/
theorem pe_opC {op : Operator} {r : R2} {f : Expr} {tf : TE} {x : Str} {j : Nat} {p pos : Pos} (ho : OpR X (binaryOp op) r) (hb : PET X f tf) : PE X (.BinOp (.Constant (.str x) j p) op f pos) (tOp r (tC (.str x)) tf) := by
  refine ⟨fun pins s σ H Q I h => wpAny_BinOp (Calls.Constant_str ?_)⟩
  exact thn (hb pins { s with toks := s.toks + 1 } σ H _ (by show 1 ≤ s.toks + 1; omega) (I.tok _) h) fun u s2 ⟨y, H2, I2, r2, q2⟩ => ho pins s2 σ H2 (.str x) y _ u Q I2 ⟨_, rfl⟩ r2 q2
end
end CwR
end

section
set_option maxRecDepth 100000
set_option maxHeartbeats 4000000
/-! Defs that are called where no repr is under way: their bodies may call repr of nested data. -/
namespace ClX
open PySem PySem.Spec PyProof.Rows L2
theorem guards_deeper {A : Around} {env : Env} (h : A.guards = some []) : (A.deeper env).guards = some [] := by
  obtain ⟨hd, d, fr, gs, u⟩ := A
  cases (show gs = some [] from h)
  rfl
/-- FnOk, where no repr is under way -/
structure FnG (P : Program) (w : World) (K : PySem.W.Frag) (mg : Str → Option Value) (base : Heap) (k : Nat) (f : Addr) (fd : FuncData) (ps : List Str) (sp : Sp) : Prop where
  len : ∀ vs H Q E, sp vs H Q E → vs.length = ps.length
  run : ∀ (A : Around) (outer : List Env) (s : Shared) (H : Hp) (args : Args) (us : List Value) (vs : List V) (Q : VK), A.guards = some [] → Room k A → Env0 P w K mg base A outer s H → BindsTo s fd args (ps.zip us) → Vals vs us → sp vs H Q E0 →
    codeAny (model P w) A (.call (.ref f) args) (CR CX0 outer P w H s Q E0) s
theorem _root_.L2.FnOk.g {P : Program} {w : World} {K : PySem.W.Frag} {mg : Str → Option Value} {base : Heap} {k : Nat} {f : Addr} {fd : FuncData} {ps : List Str} {sp : Sp} (F : FnOk P w K mg base CX0 k f fd ps sp) : FnG P w K mg base k f fd ps sp :=
  ⟨F.len, fun A outer s H args us vs Q _ => F.run A outer s H args us vs Q E0⟩
theorem okG {P : Program} {w : World} {K : PySem.W.Frag} {mg : Str → Option Value} {base : Heap} {k : Nat} {f : Addr} {fd : FuncData} {x : Str} {st : Stmt} {N ps : List Str} {sp : Sp} (F : Fun K x x st f fd) (S : FnScope N ps (defScope st)) (len : ∀ vs H Q E, sp vs H Q E → vs.length = ps.length)
    (hbody : ∀ (cdv : Value) (A : Around) (outer : List Env) (s : Shared) (H : Hp) (vs : List V) (Q : VK), Room k (A.deeper (envOfC x (defScope st) s.heap.objs.size f cdv)) → (A.deeper (envOfC x (defScope st) s.heap.objs.size f cdv)).guards = some [] → sp vs H Q E0 →
      ∃ t, PSs (cxOf CX0 P w K mg base N x (defScope st) f cdv A outer s H E0).nox (defBody st) t ∧ t { nx := fun _ H' => Q .non H', rt := Q } (start N vs) H) : FnG P w K mg base (k + 1) f fd ps sp := by
  refine ⟨len, fun A outer s H args us vs Q hgd hr e0 hb r hsp => ?_⟩
  have hl := len _ _ _ _ hsp
  obtain ⟨oc, od, kV, doc, pm, an, cdv, ct, osl, rfl, lk, hcd⟩ := F.ex
  have old : ∀ b o, base.get? b = some o → s.heap.get? b = some o := fun b o e => (e0.bs b o e).1
  have KX : K.In s.heap := e0.mod.kin.keeps old
  refine codeAny_call_function hr.depth (KX _ _ lk) rfl S.co S.gen rfl (PySem.W.codeRec_of KX hcd) (hb _ _ _ _ ?_)
  refine wpAny_newFunctionEnv_cells S.kind (fun y hy => ?_) fun env he s1 x => ?_
  · exact (S.par y.1 (List.of_mem_zip (a := y.1) (b := y.2) hy).1).imp id fun q => ⟨q, PySem.W.cellsFrom_some _ _ _ (.inl q)⟩
  · subst he
    refine ⟨(e0.mod.nolimit.keeps old).keeps x.toInCall.keep, codeAny_func ?_⟩
    obtain ⟨t, ht, hq⟩ := hbody cdv A outer s H vs Q (hr.deeper _) (guards_deeper hgd) hsp
    refine wpAny_mono (ht.nox.run [] s1 (start N vs) H _ (inv_start S hr.hd e0 hl r x) hq) (fun fl s' hs => ?_) fun e s' hs => hs
    cases fl with
    | ret u => exact let ⟨v, σ', H', J, rv, q⟩ := hs; ⟨v, H', J.os, J.bare, J.base, J.hok, rv, q⟩
    | next => exact let ⟨σ', H', J, q⟩ := hs; ⟨.non, H', J.os, J.bare, J.base, J.hok, rfl, q⟩
    | brk => exact let ⟨_, _, _, q⟩ := hs; q.elim
    | cont => exact let ⟨_, _, _, q⟩ := hs; q.elim
section
variable {X : Cx} {f : Addr} {fd : FuncData} {ps : List Str} {x : Str} {e : Expr} {es : List Expr} {p pos : Pos} {k : Nat} {sp : Sp} {ta : TA}
theorem pe_callG (G : FnG X.prog X.w X.K X.mg X.base k f fd ps sp) (hgd : X.A.guards = some []) (hr : Room k X.A) (hg : Gl X x) (hm : X.mg x = some (.ref f)) (hk : PySem.W.keepIn X.K (.ref f) = true) (hb : L2.Binds X.K fd ps []) (hx : Passes CX0 X E0)
    (ha : PA X (e :: es) ta) (hdb : (x == ("__debug__" : Str)) = false := by decide) (he : starEach (e :: es) X.env = (false, eval e X.env) :: starEach es X.env := by rfl) (hpl : (backTo pos (starEach es X.env)).any (·.1) = false := by rfl) :
    PE X (.Call (.Name x p) (e :: es) [] pos) (fun σ H Q => ta σ H fun vs H1 => sp vs H1 Q E0) :=
  pe_callAt (T := fun _ vs H Q => sp vs H Q E0) hg hm hk hb hx (fun pins σ s H us vs Q I b r q => G.run X.A X.stack s H _ us vs Q hgd hr I.env0 b r q) (fun _ vs H Q q => G.len vs H Q E0 q) ha hdb he hpl
end
end ClX
end

section
set_option maxRecDepth 100000
set_option maxHeartbeats 4000000
/-! Closures made in a frame, with the promise that each call of them keeps; calls of defs that take them. -/
namespace ClX
open PySem PySem.Spec PyProof.Rows L2 LamX
/-- okG, the def's code object told -/
theorem okGc {P : Program} {w : World} {K : PySem.W.Frag} {mg : Str → Option Value} {base : Heap} {k : Nat} {f : Addr} {fd : FuncData} {x : Str} {st : Stmt} {N ps : List Str} {sp : Sp} {cd : Value} (F : Fun K x x st f fd) (hcd0 : fd.code = cd) (S : FnScope N ps (defScope st)) (len : ∀ vs H Q E, sp vs H Q E → vs.length = ps.length)
    (hbody : ∀ (A : Around) (outer : List Env) (s : Shared) (H : Hp) (vs : List V) (Q : VK), Room k (A.deeper (envOfC x (defScope st) s.heap.objs.size f cd)) → (A.deeper (envOfC x (defScope st) s.heap.objs.size f cd)).guards = some [] → sp vs H Q E0 →
      ∃ t, PSs (cxOf CX0 P w K mg base N x (defScope st) f cd A outer s H E0).nox (defBody st) t ∧ t { nx := fun _ H' => Q .non H', rt := Q } (start N vs) H) : FnG P w K mg base (k + 1) f fd ps sp := by
  refine ⟨len, fun A outer s H args us vs Q hgd hr e0 hb r hsp => ?_⟩
  have hl := len _ _ _ _ hsp
  obtain ⟨oc, od, kV, doc, pm, an, cdv, ct, osl, rfl, lk, hcd⟩ := F.ex
  obtain rfl : cdv = cd := hcd0
  have old : ∀ b o, base.get? b = some o → s.heap.get? b = some o := fun b o e => (e0.bs b o e).1
  have KX : K.In s.heap := e0.mod.kin.keeps old
  refine codeAny_call_function hr.depth (KX _ _ lk) rfl S.co S.gen rfl (PySem.W.codeRec_of KX hcd) (hb _ _ _ _ ?_)
  refine wpAny_newFunctionEnv_cells S.kind (fun y hy => ?_) fun env he s1 x => ?_
  · exact (S.par y.1 (List.of_mem_zip (a := y.1) (b := y.2) hy).1).imp id fun q => ⟨q, PySem.W.cellsFrom_some _ _ _ (.inl q)⟩
  · subst he
    refine ⟨(e0.mod.nolimit.keeps old).keeps x.toInCall.keep, codeAny_func ?_⟩
    obtain ⟨t, ht, hq⟩ := hbody A outer s H vs Q (hr.deeper _) (guards_deeper hgd) hsp
    refine wpAny_mono (ht.nox.run [] s1 (start N vs) H _ (inv_start S hr.hd e0 hl r x) hq) (fun fl s' hs => ?_) fun e s' hs => hs
    cases fl with
    | ret u => exact let ⟨v, σ', H', J, rv, q⟩ := hs; ⟨v, H', J.os, J.bare, J.base, J.hok, rv, q⟩
    | next => exact let ⟨σ', H', J, q⟩ := hs; ⟨.non, H', J.os, J.bare, J.base, J.hok, rfl, q⟩
    | brk => exact let ⟨_, _, _, q⟩ := hs; q.elim
    | cont => exact let ⟨_, _, _, q⟩ := hs; q.elim
/-- the cells of X's frame that a lambda of this scope captures, with what the slots hold -/
def capL (X : Cx) (sc : Scope) (σ : L2.St) : List (Addr × V) := (X.N.zip σ).filterMap fun q => match q.2, sc.names.lookup q.1, X.env.cells.lookup q.1 with
  | some v, some .free, some c => some (c, v)
  | _, _, _ => none
theorem capL_in {X : Cx} {sc : Scope} {σ : L2.St} {i : Nat} {y : Str} {v : V} {c : Addr} (h1 : X.N[i]? = some y) (h2 : σ[i]? = some (some v)) (h3 : sc.names.lookup y = some .free) (h4 : X.env.cells.lookup y = some c) : (c, v) ∈ capL X sc σ := by
  refine List.mem_filterMap.mpr ⟨(y, some v), ?_, ?_⟩
  · refine List.mem_of_getElem? (i := i) ?_
    rw [List.getElem?_zip_eq_some]
    exact ⟨h1, h2⟩
  · dsimp only
    rw [h3, h4]
theorem capL_out {X : Cx} {sc : Scope} {σ : L2.St} {p : Addr × V} (h : p ∈ capL X sc σ) : ∃ (i : Nat) (y : Str), X.N[i]? = some y ∧ σ[i]? = some (some p.2) ∧ sc.names.lookup y = some .free ∧ X.env.cells.lookup y = some p.1 := by
  obtain ⟨q, hq, e⟩ := List.mem_filterMap.mp h
  obtain ⟨i, hi⟩ := List.mem_iff_getElem?.mp hq
  obtain ⟨a, b⟩ := List.getElem?_zip_eq_some.mp hi
  refine ⟨i, q.1, a, ?_⟩
  cases e1 : q.2 with
  | none => rw [e1] at e; cases e
  | some v =>
    rw [e1] at e b
    cases e2 : sc.names.lookup q.1 with
    | none => rw [e2] at e; cases e
    | some k =>
      cases e3 : X.env.cells.lookup q.1 with
      | none => rw [e2, e3] at e; cases k <;> cases e
      | some c =>
        rw [e2, e3] at e
        cases k <;> cases e
        exact ⟨b, rfl, rfl⟩
/-- slots that hold something -/
def HasAll (σ : L2.St) : List Nat → Prop
  | [] => True
  | i :: is => (∃ v, σ[i]? = some (some v)) ∧ HasAll σ is
theorem HasAll.get {σ : L2.St} : ∀ {is : List Nat}, HasAll σ is → ∀ i ∈ is, ∃ v, σ[i]? = some (some v)
  | [], _, _, h => nomatch h
  | j :: is, h, i, hi => by
    rcases List.mem_cons.mp hi with rfl | hi
    · exact h.1
    · exact h.2.get i hi
/-- the captured names stand in these slots -/
structure LamI (N : List Str) (sc : Scope) (is : List Nat) : Prop where
  to : ∀ p ∈ sc.names, p.2 = .free → sc.names.lookup p.1 = some .free ∧ ∃ i ∈ is, N[i]? = some p.1
  only : ∀ i < N.length, (sc.names.lookup (N.getD i "") = some .free → i ∈ is)
instance {N : List Str} {sc : Scope} {is : List Nat} : Decidable (LamI N sc is) :=
  if h : (∀ p ∈ sc.names, p.2 = .free → sc.names.lookup p.1 = some .free ∧ ∃ i ∈ is, N[i]? = some p.1) ∧ ∀ i < N.length, (sc.names.lookup (N.getD i "") = some .free → i ∈ is) then .isTrue ⟨h.1, h.2⟩ else .isFalse fun x => h ⟨x.1, x.2⟩
theorem caught_of {X : Cx} {sc : Scope} {σ : L2.St} {is : List Nat} (hl : σ.length = X.N.length) (I : LamI X.N sc is) (h : HasAll σ is) : Caught X sc σ (capL X sc σ) :=
  ⟨hl, fun y c hy hc => by
    obtain ⟨h1, i, hi, hN⟩ := I.to _ hy rfl
    obtain ⟨v, hv⟩ := h.get i hi
    exact ⟨v, capL_in hN hv h1 hc⟩, fun i y v c h1 h2 h3 h4 => capL_in h1 h2 h3 h4⟩
/-- the slots is hold the same -/
def SameAt (σ σ' : L2.St) : List Nat → Prop
  | [] => True
  | i :: is => σ[i]? = σ'[i]? ∧ SameAt σ σ' is
theorem SameAt.get {σ σ' : L2.St} : ∀ {is : List Nat}, SameAt σ σ' is → ∀ i ∈ is, σ[i]? = σ'[i]?
  | [], _, _, h => nomatch h
  | j :: is, h, i, hi => by
    rcases List.mem_cons.mp hi with rfl | hi
    · exact h.1
    · exact h.2.get i hi
theorem caps_of {X : Cx} {sc : Scope} {σ σ' : L2.St} {is : List Nat} (L : LamS X.env.scope sc) (I : LamI X.N sc is) (h : SameAt σ σ' is) : Caps X σ' (capL X sc σ) := fun p hp => by
  obtain ⟨i, y, h1, h2, h3, h4⟩ := capL_out hp
  have hi : i < X.N.length := (List.getElem?_eq_some_iff.mp h1).1
  have hm := I.only i hi (by rw [List.getD_eq_getElem?_getD, h1]; exact h3)
  exact ⟨i, y, h1, by rw [← h.get i hm]; exact h2, L.free _ (PySem.mem_of_lookup h3) rfl, h4⟩
theorem same_put {H : Hp} {a : Addr} {o : HO} (h : H a = none) : ∀ b u, H b = some u → upd H a o b = some u := fun b u e => by rw [upd_ne (ne_of_none e h)]; exact e
/-- O is the object of a lambda at f -/
def LamHO (O : HO) (c' f : Addr) : Prop := ∃ q params body scope cl, O = LamO q params body scope cl c' f
theorem LamHO.is {O : HO} {c' f : Addr} {H : Hp} (h : LamHO O c' f) (e : H f = some O) : IsLam H f := by
  obtain ⟨q, params, body, scope, cl, rfl⟩ := h
  exact ⟨q, params, body, scope, cl, c', e⟩
theorem LamHO.other {O : HO} {c' f : Addr} (h : LamHO O c' f) : (∀ kvs, O ≠ .dK kvs) ∧ (∀ xs, O ≠ .lst xs) ∧ ∀ ps, O ≠ .tbl ps := by
  obtain ⟨q, params, body, scope, cl, rfl⟩ := h
  unfold LamO
  exact ⟨(fun _ z => nomatch z), (fun _ z => nomatch z), (fun _ z => nomatch z)⟩
/-- what the making of a lambda tells, with what its calls keep -/
def tLamR (X : Cx) (k : Nat) (T : List (Addr × Str)) (q : Str) (sc : Scope) (is : List Nat) (t : XK → TE) : TE := fun σ H Q => Tabs T H ∧ HasAll σ is ∧ ∀ (f c' : Addr) (O : HO) (H2 : Hp), ExtN H H2 → Tabs T H2 → H2 c' = some (CodeO c' q) → LamHO O c' f → H2 f = some O →
  Runs X k (capL X sc σ) f (fun E H Q => H f = some O ∧ H c' = some (CodeO c' q) ∧ t E σ H Q) → Q (.ref f) H2
section
variable {X : Cx}
theorem pe_lamR {T : List (Addr × Str)} {c P : Addr} {params : Arguments} {body : Expr} {scope : Scope} {pos : Pos} {k : Nat} {is : List Nat} {t : XK → TE} (TB : TabB X.base X.mg c P) (hcode : X.env.code = .ref c) (hm : (P, X.env.qual ++ "<lambda>") ∈ T) (hu : ∀ p ∈ T, p.1 = P → p.2 = X.env.qual ++ "<lambda>")
    (hdef : defaultsOf params X.env = ([], [])) (L : LamS X.env.scope scope) (I0 : LamI X.N scope is)
    (hbind : ∀ (cl : List (Str × Addr)) (pm cv ctv : Value), bindArgs (PySem.W.kla_fn "<lambda>" (X.env.qual ++ "<lambda>") params body scope cl pm cv ctv) ⟨[], []⟩ = pure [])
    (hbody : ∀ (f c' : Addr) (A : Around) (outer : List Env) (s : Shared) (H : Hp) (E : XK), Room k (A.deeper (lamEnv X scope s.heap.objs.size f c')) → PE (lamCx X A outer s H E scope f c') body (t E)) :
    PE X (.Lambda params body scope pos) (tLamR X (k + 1) T (X.env.qual ++ "<lambda>") scope is t) := by
  refine ⟨fun pins s σ H Q I h => ?_⟩
  obtain ⟨h1, h2, h3⟩ := h
  refine (pe_lam TB hcode hm hu hdef L).run pins s σ H Q I ⟨h1, fun f c' H1 e1 e2 e3 e4 => ?_⟩
  have S := same_put (H := H1) (o := LamO (X.env.qual ++ "<lambda>") params body scope (cloFrom X.env.cells scope.names []) c' f) e4
  refine h3 f c' _ _ (e1.trans (ExtN.of S)) (e2.ext S) (S _ _ e3) ⟨_, _, _, _, _, rfl⟩ upd_same (runs_lam (q := X.env.qual ++ "<lambda>") I.ok L (caught_of I.len I0 h2) rfl (hbind _) (hbody f c'))
/-- the def that takes a closure, called from a frame: its promise -/
def tCgt (X : Cx) (k : Nat) (K : PySem.W.Frag) (CS : Addr) : L2.St → List V → Hp → VK → Prop := fun σ vs H Q => ∃ (f : Addr) (L : List (Addr × V)) (tl : XK → Hp → VK → Prop), Caps X σ L ∧ Runs X k L f tl ∧ spCaught K CS f tl vs H Q
end
end ClX
end

section
set_option maxRecDepth 100000
set_option maxHeartbeats 2000000
/-! zip of a list or a tuple and a list or a tuple, in any mix -/
namespace ZM
open PySem PySem.Spec PyProof.Rows L2
def SqB (K : PySem.W.Frag) (b : Bool) (H : Hp) (a : Addr) (xs : List V) : Prop := match b with
  | true => SqT K H a xs
  | false => SqL K H a xs
def ItB (b : Bool) (h : Heap) (i a : Addr) (k : Nat) : Prop := match b with
  | true => h.IsTupleIter i a k
  | false => h.IsListIter i a k
def SeB (b : Bool) (h : Heap) (a : Addr) (its : Array Value) : Prop := match b with
  | true => h.IsTuple a its
  | false => h.IsList a its
def beg (b : Bool) (a : Addr) : Obj := match b with
  | true => { cls := .type "tuple_iterator", data := .fields #[.ref a, .int 0 0] }
  | false => { cls := .type "list_iterator", data := .fields #[.ref a, .int 0 0] }
theorem begB (b : Bool) (a : Addr) (its : Array Value) : Begins (.ref a) (beg b a) fun h => SeB b h a its := by
  cases b
  · exact begins_list a its
  · exact begins_tuple a its
theorem itB_beg {b : Bool} {h : Heap} {i a : Addr} (e : h.get? i = some (beg b a)) : ItB b h i a 0 := by
  cases b <;> exact ⟨_, e, rfl, rfl⟩
theorem itB_obj {b : Bool} {h : Heap} {i a : Addr} {k : Nat} (e : ItB b h i a k) : ∃ o, h.get? i = some o ∧ ∀ v, o.data ≠ .cell v := by
  cases b
  all_goals
    obtain ⟨o, e, _, d⟩ := e
    exact ⟨o, e, fun v q => by rw [d] at q; cases q⟩
theorem itB_at {b : Bool} {h h' : Heap} {i a : Addr} {k : Nat} (e : ItB b h i a k) (q : ∀ o, h.get? i = some o → h'.get? i = some o) : ItB b h' i a k := by
  cases b
  · exact Heap.IsListIter.at e q
  · exact Heap.IsTupleIter.at e q
theorem itB_lt {b : Bool} {h : Heap} {i a : Addr} {k : Nat} (e : ItB b h i a k) : i < h.objs.size := by
  cases b <;> obtain ⟨_, e, _⟩ := e <;> exact Heap.lt_size e
theorem seB_lt {b : Bool} {h : Heap} {a : Addr} {its : Array Value} (e : SeB b h a its) : a < h.objs.size := by
  cases b <;> obtain ⟨_, e, _⟩ := e <;> exact Heap.lt_size e
theorem drB {prog : Program} {w : World} {A : Around} (hh : A.handled = none) (b : Bool) (it l : Addr) (hne : l ≠ it) (items : Array Value) :
    Draws prog w A it [it, l] items.size (fun i v => items[i]? = some v) (fun i h => ItB b h it l i ∧ SeB b h l items) := by
  cases b
  · exact Draws.list hh it l hne items
  · exact Draws.tuple hh it l hne items
theorem seq_inv {X : Cx} {pins : List (Addr × Obj)} {σ : L2.St} {H : Hp} {s : Shared} {b : Bool} {a : Addr} {xs : List V} (I : Inv X pins σ H s) (h : SqB X.K b H a xs) : ∃ its, Vals xs its ∧ SeB b s.heap a its.toArray := by
  cases b
  · obtain ⟨its, rv, p, _⟩ := I.list h
    exact ⟨its, rv, p.isList⟩
  · obtain ⟨its, rv, p, _⟩ := I.tuple h
    exact ⟨its, rv, p⟩
theorem seq_inj {X : Cx} {pins : List (Addr × Obj)} {σ : L2.St} {H : Hp} {s : Shared} {b : Bool} {a : Addr} {xs ys : List V} (I : Inv X pins σ H s) (h : SqB X.K b H a xs) (h2 : SqB X.K b H a ys) : xs = ys := by
  cases b
  · exact I.list_inj h h2
  · exact I.tuple_inj h h2
/-- the sequences at a and b as they stand at each turn, the items in new pairs -/
def ItzB (K : PySem.W.Frag) (b1 b2 : Bool) (a b : Addr) : It :=
  ⟨fun i H => ∃ (xs ys : List V) (x y : V), SqB K b1 H a xs ∧ SqB K b2 H b ys ∧ xs[i]? = some x ∧ ys[i]? = some y,
    fun i H v H' => ∃ T x y, v = .ref T ∧ H T = none ∧ H' = upd H T (.tup [x, y]) ∧ (∀ xs, SqB K b1 H a xs → xs[i]? = some x) ∧ ∀ ys, SqB K b2 H b ys → ys[i]? = some y,
    fun i H => ∃ xs ys : List V, SqB K b1 H a xs ∧ SqB K b2 H b ys ∧ i ≤ xs.length ∧ i ≤ ys.length ∧ (i = xs.length ∨ i = ys.length)⟩
theorem sep {a b z TI TO i1 i2 : Addr} (D : ZipApart z TI TO i1 i2 a b) : ZipSep2 z TI TO i1 i2 [i1, a] [i2, b] where
  TIz := D.TIz
  TOz := D.TOz
  TITO := D.TITO
  TIi1 := D.TIi1
  mem1 := by simp
  zf1 := by simp [D.i1z.symm, D.l1z.symm]
  Tf1 := by simp [D.TOi1, D.l1TO.symm]
  TIi2 := D.TIi2
  mem2 := by simp
  zf2 := by simp [D.i2z.symm, D.l2z.symm]
  Tf2 := by simp [D.TOi2, D.l2TO.symm]
  sep1_2 := by simp [D.i12, D.l2i1.symm]
  sep2_1 := by simp [D.i12.symm, D.l1i2.symm]
theorem turn_zipB {P : Program} {w : World} {K : PySem.W.Frag} {elts : List Expr} {kk : Nat} {tpos : Pos} {b1 b2 : Bool} {a b z TI TO i1 i2 : Addr} (D : ZipApart z TI TO i1 i2 a b) :
    Turn P w K (.Tuple elts kk tpos) (ItzB K b1 b2 a b) [z, TI, TO, i1, i2] z (fun i h => IsZip h z TI TO .none ∧ IsPair h TI (.ref i1) (.ref i2) ∧ (∃ x y, IsPair h TO x y) ∧ ItB b1 h i1 a i ∧ ItB b2 h i2 b i) where
  mem := by simp
  obj := fun i h st c hc => by
    obtain ⟨hz, hTI, ⟨x, y, hTO⟩, h1, h2⟩ := st
    have e' : c = z ∨ c = TI ∨ c = TO ∨ c = i1 ∨ c = i2 := by simpa using hc
    rcases e' with q | q | q | q | q
    · rw [q]; exact ⟨_, hz, fun v q => nomatch q⟩
    · rw [q]; exact ⟨_, hTI, fun v q => nomatch q⟩
    · rw [q]; exact ⟨_, hTO, fun v q => nomatch q⟩
    · rw [q]; exact itB_obj h1
    · rw [q]; exact itB_obj h2
  keep := fun i h h' st k => by
    obtain ⟨hz, hTI, ⟨x, y, hTO⟩, h1, h2⟩ := st
    exact ⟨k z (by simp) _ hz, k TI (by simp) _ hTI, ⟨x, y, k TO (by simp) _ hTO⟩, itB_at h1 fun o q => k i1 (by simp) o q, itB_at h2 fun o q => k i2 (by simp) o q⟩
  item := by
    intro X hP hw hK hc i pins s σ H E I hf st hg
    subst hP hw hK
    obtain ⟨hz, hTI, ⟨x0, y0, hTO⟩, h1, h2⟩ := st
    obtain ⟨xs, ys, x, y, hqx, hqy, hx, hy⟩ := hg
    obtain ⟨its, rv, p⟩ := seq_inv I hqx
    obtain ⟨its2, rv2, p2⟩ := seq_inv I hqy
    obtain ⟨u, hu, ru⟩ := rv.get hx
    obtain ⟨u2, hu2, ru2⟩ := rv2.get hy
    have hzl : z < s.heap.objs.size := Heap.lt_size hz
    refine wpAny_pyNext_zipD2_item (sep D) (drB (A := X.A.in1) (show X.A.in1.handled = none from I.ok.hd hc) b1 i1 a D.l1i1 its.toArray) (drB (A := X.A.in1) (show X.A.in1.handled = none from I.ok.hd hc) b2 i2 b D.l2i2 its2.toArray) hz hTI hTO ⟨h1, p⟩ ⟨h2, p2⟩ (by have z := (List.getElem?_eq_some_iff.mp hu).1; simpa using z) (by have z := (List.getElem?_eq_some_iff.mp hu2).1; simpa using z)
      fun x1 x2 h' tk y1 y2 z' TO' h1' h2' hT hsz hk => ?_
    obtain rfl : u = x1 := by have z : its[i]? = some x1 := by simpa using y1
                              rw [hu] at z; exact Option.some.inj z
    obtain rfl : u2 = x2 := by have z : its2[i]? = some x2 := by simpa using y2
                               rw [hu2] at z; exact Option.some.inj z
    refine ⟨_, rfl, wpAny_letOwnedTupleGo_zip (s := { s with heap := h', toks := tk }) z' fun h'' z'' sb => ?_⟩
    have hT2 : h''.get? s.heap.objs.size = some { cls := .type "tuple", data := .seq #[u, u2] } := (sb.2 _ (Nat.ne_of_gt hzl)).trans hT
    have new : ObjOk X.prog X.w (upd H s.heap.objs.size (.tup [x, y])) h'' s.heap.objs.size (.tup [x, y]) :=
      ⟨by show 2 ≤ sizeLine; decide, [u, u2], .cons ru (.cons ru2 .nil), ⟨_, hT2, rfl, _, rfl⟩⟩
    have I1 : Inv X pins σ (upd H s.heap.objs.size (.tup [x, y])) { s with heap := h'', toks := tk } :=
      I.turnedNew (t' := tk) (ch := [z, TI, TO, i1, i2]) (fun c o hb q => (sb.2 c (fun q' => hb (by simp [q']))).trans (hk c o (fun q' => hb (by simp [q'])) (fun q' => hb (by simp [q'])) (fun q' => hb (by simp [q'])) (fun q' => hb (by simp [q'])) q)) hf (Nat.le_refl _) new
    refine ⟨.ref s.heap.objs.size, _, I1, rfl, ⟨_, x, y, rfl, I.hok.fresh (Nat.le_refl _), rfl, fun l hl => by rw [seq_inj I hl hqx]; exact hx, fun l hl => by rw [seq_inj I hl hqy]; exact hy⟩, ⟨z'', ?_, ⟨u, u2, ?_⟩, ?_, ?_⟩, fun c hcm => ?_⟩
    · exact (sb.2 _ D.TIz).trans (hk _ _ D.TIz D.TITO D.TIi1 D.TIi2 hTI)
    · exact (sb.2 _ D.TOz).trans TO'
    · exact itB_at h1'.1 fun o q => (sb.2 _ D.i1z).trans q
    · exact itB_at h2'.1 fun o q => (sb.2 _ D.i2z).trans q
    · have hlt : c < s.heap.objs.size := by
        have e' : c = z ∨ c = TI ∨ c = TO ∨ c = i1 ∨ c = i2 := by simpa using hcm
        rcases e' with q | q | q | q | q
        · rw [q]; exact hzl
        · rw [q]; exact Heap.lt_size hTI
        · rw [q]; exact Heap.lt_size hTO
        · rw [q]; exact itB_lt h1
        · rw [q]; exact itB_lt h2
      rw [upd_ne (Nat.ne_of_lt hlt)]
      exact (hf c hcm).1
  done := by
    intro X hP hw hK hc i pins s σ H E I hf st hg
    subst hP hw hK
    obtain ⟨hz, hTI, ⟨x0, y0, hTO⟩, h1, h2⟩ := st
    obtain ⟨xs, ys, hqx, hqy, le1, le2, hend⟩ := hg
    obtain ⟨its, rv, p⟩ := seq_inv I hqx
    obtain ⟨its2, rv2, p2⟩ := seq_inv I hqy
    have l1 := rv.length
    have l2 := rv2.length
    exact wpAny_pyNext_zipD2_end (sep D) (drB (A := X.A.in1) (show X.A.in1.handled = none from I.ok.hd hc) b1 i1 a D.l1i1 its.toArray) (drB (A := X.A.in1) (show X.A.in1.handled = none from I.ok.hd hc) b2 i2 b D.l2i2 its2.toArray) hz hTI hTO ⟨h1, p⟩ ⟨h2, p2⟩ (by simp; omega) (by simp; omega) (by simp; omega) fun h' tk hk => ⟨rfl, I.turnedL (t' := tk) (ch := [z, TI, TO, i1, i2]) (fun c o hb q =>
      hk c o (fun q' => hb (by simp [q'])) (fun q' => hb (by simp [q'])) (fun q' => hb (by simp [q'])) (fun q' => hb (by simp [q'])) q) hf⟩
  self := fun A i s Q E st h => wpAny_pyIter_zip st.1 h
/-- zip of two sequences, each a list or a tuple -/
def iZipB (K : PySem.W.Frag) (ta : TA) : TI := fun σ H R => ta σ H fun vs H1 => ∃ b1 b2 a b xs ys, vs = [.ref a, .ref b] ∧ SqB K b1 H1 a xs ∧ SqB K b2 H1 b ys ∧ R (ItzB K b1 b2 a b) H1
theorem pi_zipB {X : Cx} {e e2 : Expr} {ta : TA} {p pos tpos : Pos} {elts : List Expr} {kk : Nat} (hg : Gl X "zip") (hm : X.mg "zip" = none) (ha : PA X [e, e2] ta)
    (hs : starEach [e, e2] X.env = (false, eval e X.env) :: starEach [e2] X.env := by rfl) (hpl : (backTo pos (starEach [e2] X.env)).any (·.1) = false := by rfl) :
    PI X (.Tuple elts kk tpos) (.Call (.Name "zip" p) [e, e2] [] pos) (iZipB X.K ta) := by
  refine ⟨fun pins s σ H R I h => ?_⟩
  refine Call_ (ld_blt I hg hm PyProof.Rows.boot_zip (PyProof.Rows.callWith_type1 (thn (ha.run pos pins s σ H _ I h) fun us s1 ⟨vs, H1, I1, r1, q1⟩ => ?_) hs hpl))
  obtain ⟨b1, b2, a, b, xs, ys, ex, hqx, hqy, q⟩ := q1
  subst ex
  cases r1 with
  | cons r rr =>
    cases rr with
    | cons r' rr =>
      cases rr
      cases r
      cases r'
      obtain ⟨its, rv, p1⟩ := seq_inv I1 hqx
      obtain ⟨its2, rv2, p2⟩ := seq_inv I1 hqy
      refine zip_begins2 (begB b1 a its.toArray) (begB b2 b its2.toArray) p1 p2 fun h' hz hTI hTO h1 h2 hsz hk => wpAny_pyIter_zip hz ?_
      have I2 : Inv X pins σ H1 { s1 with heap := h' } := I1.kept (t' := s1.toks) hk
      refine ⟨s1.heap.objs.size + 4, [s1.heap.objs.size + 4, s1.heap.objs.size + 2, s1.heap.objs.size + 3, s1.heap.objs.size, s1.heap.objs.size + 1], _, _, H1, rfl, I2, turn_zipB (PySem.W.ktu_apart s1.heap.objs.size a b (seB_lt p1) (seB_lt p2)), ⟨hz, hTI, ⟨_, _, hTO⟩, itB_beg h1, itB_beg h2⟩, fun c hcm => ?_, q⟩
      have e' : c = s1.heap.objs.size + 4 ∨ c = s1.heap.objs.size + 2 ∨ c = s1.heap.objs.size + 3 ∨ c = s1.heap.objs.size ∨ c = s1.heap.objs.size + 1 := by simpa using hcm
      have hle : s1.heap.objs.size ≤ c := by
        rcases e' with z | z | z | z | z
        · rw [z]; exact Nat.le_add_right _ _
        · rw [z]; exact Nat.le_add_right _ _
        · rw [z]; exact Nat.le_add_right _ _
        · rw [z]; exact Nat.le_refl _
        · rw [z]; exact Nat.le_add_right _ _
      exact I1.fpOk hle (I1.hok.fresh hle)
theorem SqB.same {K : PySem.W.Frag} {b : Bool} {H H' : Hp} {a : Addr} {xs : List V} (S : Same H H') (h : SqB K b H a xs) : SqB K b H' a xs := by
  cases b
  · exact S.seq h
  · rcases h with (h | ⟨o, h⟩) | h
    · exact .inl (.inl (S _ _ h))
    · exact .inl (.inr ⟨o, S _ _ h⟩)
    · exact .inr h
theorem walk_zipB {K : PySem.W.Frag} {b1 b2 : Bool} {a b : Addr} {xs ys : List V} {n : Nat} (hn : n = min xs.length ys.length) : Walk (ItzB K b1 b2 a b) n (fun H => SqB K b1 H a xs ∧ SqB K b2 H b ys) (YPair (fun i => xs[i]?) (fun i => ys[i]?)) := by
  subst hn
  refine ⟨fun i _ hi q => ?_, fun _ q => ⟨xs, ys, q.1, q.2, by omega⟩, fun i H v H' _ q y => ?_⟩
  · have h1 : i < xs.length := by omega
    have h2 : i < ys.length := by omega
    exact ⟨xs, ys, xs[i], ys[i], q.1, q.2, by simp [h1], by simp [h2]⟩
  · obtain ⟨T, x, z, h1, h2, h3, h4, h5⟩ := y
    exact ⟨T, x, z, h1, h2, h3, h4 xs q.1, h5 ys q.2⟩
/-- over a list or a tuple -/
def ItlB (K : PySem.W.Frag) : Bool → Addr → It
  | true, a => Itt K a
  | false, a => Itl K a
def iSeqB (K : PySem.W.Frag) (tl : TE) : TI := fun σ H R => tl σ H fun x H1 => ∃ b a xs, x = .ref a ∧ SqB K b H1 a xs ∧ R (ItlB K b a) H1
theorem pi_seqB {X : Cx} {tg l : Expr} {tl : TE} (hl : PE X l tl) : PI X tg l (iSeqB X.K tl) := by
  refine ⟨fun pins s σ H R I h => ?_⟩
  refine thn (hl.run pins s σ H _ I h) fun v s1 ⟨x, H1, I1, r1, q1⟩ => ?_
  obtain ⟨b, a, xs, e, hq, q⟩ := q1
  subst e
  cases r1
  obtain ⟨its, rv, p⟩ := seq_inv I1 hq
  have fp : ∀ c, c ∈ [s1.heap.objs.size] → FpOk X pins H1 c := fun c hc => by
    have e : c = s1.heap.objs.size := by simpa using hc
    rw [e]
    exact I1.fpOk (Nat.le_refl _) (I1.hok.fresh (Nat.le_refl _))
  cases b
  · exact wpAny_pyIter_list p ⟨s1.heap.objs.size, [s1.heap.objs.size], _, _, H1, rfl, I1.kept (t' := s1.toks) fun b o e => Heap.get?_push_of_some _ e, turn_list a _, ⟨_, Heap.get?_push_size _ rfl, rfl, rfl⟩, fp, q⟩
  · exact wpAny_pyIter_tuple (show s1.heap.IsTuple a its.toArray from p) ⟨s1.heap.objs.size, [s1.heap.objs.size], _, _, H1, rfl, I1.kept (t' := s1.toks) fun b o e => Heap.get?_push_of_some _ e, turn_tuple a _, ⟨_, Heap.get?_push_size _ rfl, rfl, rfl⟩, fp, q⟩
theorem walk_seqB {K : PySem.W.Frag} {b : Bool} {a : Addr} {xs : List V} : Walk (ItlB K b a) xs.length (fun H => SqB K b H a xs) (YAt xs) := by
  cases b
  · exact walk_list
  · exact walk_tup
/-- an item of a list or a tuple -/
def rIxB (K : PySem.W.Frag) : R2 := fun x y H Q => ∃ b p xs i v, x = .ref p ∧ y = .int i ∧ SqB K b H p xs ∧ atI xs i = some v ∧ Q v H
theorem ix_B {X : Cx} : IxR X (rIxB X.K) := by
  intro value slice pins s σ H x y v u Q I rx ry q hs
  obtain ⟨b, p, xs, i, z, e1, e2, h, h2, q⟩ := q
  cases b
  · exact ix_list value slice pins s σ H x y v u Q I rx ry ⟨p, xs, i, z, e1, e2, h, h2, q⟩ hs
  · exact ix_tup value slice pins s σ H x y v u Q I rx ry ⟨p, xs, i, z, e1, e2, h, h2, q⟩ hs
theorem SqB.lenOf {K : PySem.W.Frag} {b : Bool} {H : Hp} {a : Addr} {xs : List V} (h : SqB K b H a xs) : SqL K H a xs ∨ SqT K H a xs := by
  cases b
  · exact .inl h
  · exact .inr h
end ZM
end

section
set_option maxRecDepth 100000
set_option maxHeartbeats 4000000
namespace P2
open PySem PySem.Spec PyProof.Rows L2 ClX ZM SX K7
def figL : List Nat := [48, 49, 50, 51, 52, 53, 54, 55, 56, 57]
theorem fig_mem {c : Nat} : decide (c ∈ figL) = isFig c := by
  unfold isFig figL
  rw [← Bool.decide_and]
  refine decide_eq_decide.mpr ?_
  simp only [List.mem_cons, List.not_mem_nil, or_false]
  omega
theorem tos_nat (n : Nat) : Str.ofString (toString ((n : Nat) : Int)) = S (TL.numL n) := num_S n
theorem log_small {n : Nat} (h : n ≤ 1000000000) : ((n : Int)).natAbs.log2 < 1920 := by
  rw [Int.natAbs_natCast]
  by_cases z : n = 0
  · rw [z]; decide
  · exact Nat.lt_of_lt_of_le ((Nat.log2_lt z).mpr (Nat.lt_of_le_of_lt h (by decide : 1000000000 < 2 ^ 30))) (by decide)
def optV : Option Nat → V
  | none => .non
  | some n => .int (n : Nat)
section
variable {P : Program} {w : World} {K : PySem.W.Frag} {mg : Str → Option Value} {base : Heap} {bp C B M N : Addr}
/-- the texts of the top -/
structure Sx (mg : Str → Option Value) : Prop where
  fig : ∃ t, mg "FIGURES" = some (.str (S figL) t)
  str : mg "str" = none
  min : mg "min" = none
def spNumberOf : Sp := fun vs H Q _ => ∃ (a : List Nat) (m : Nat), vs = [.str (S a), .int 0, .int (m : Nat)] ∧ a.length ≤ 100000 ∧ m ≤ 1000000000 ∧ ∀ H', Same H H' → Q (optV (numB m a)) H'
abbrev NNO : List Str := ["word", "least", "most", "number", "sign"]
theorem scNO : FnScope NNO ["word", "least", "most"] (defScope (top 9)) := ⟨rfl, rfl, rfl, by decide +kernel, rfl, by decide +kernel, by decide +kernel⟩
theorem numL_small {m : Nat} (h : m ≤ 1000000000) : (TL.numL m).length ≤ 10 := TL.numL_len (by decide) (Nat.lt_of_le_of_lt h (by decide))
theorem ok_numberof {f : Addr} {fd : FuncData} (F : Fun K "number_of" "number_of" (top 9) f fd) (T : Tx K mg bp) (X : Sx mg) : FnOk P w K mg base CX0 1 f fd ["word", "least", "most"] spNumberOf := by
  obtain ⟨tf, hfig⟩ := X.fig
  refine F.ok scNO (fun vs H Q E h => ?_) (fun cdv A outer s H vs Q E hr h => ?_)
  · obtain ⟨a, m, rfl, _⟩ := h
    rfl
  · refine ⟨_, pss_cons (ps_if (PW.pt (pw_or (pt_not (pt_chain op_le op_le pe_int (pe_callB call_len_str (by rfl) T.len PySem.boot_len (pa_cons (pv 0) pa_nil)) (pe_callB call_len_str (by rfl) T.len PySem.boot_len (pa_cons (pe_callTy call_str_int (by rfl) X.str (by decide +kernel) (pa_cons (pv 2) pa_nil)) pa_nil))))
          (pw_or1 (pt_not (pt_val (pe_callB (cr_all rfl) (by rfl) T.all (by decide +kernel) (pa_cons (pe_lc (own := [("sign", 4)]) (g := gName 4) (tt := tYes) (te := tOp rInS (tVar 4) (tC (.str (S figL)))) rfl scNO.nd (pi_str (pv 0)) (blkOk_by (own := [("sign", 4)]) (N := NNO) (sc := defScope (top 9)) (by decide +kernel))
            (fun _ _ _ _ _ => pg_name (i := 4) scNO.nd rfl (Or.inl rfl)) (fun _ _ _ _ _ => pts_nil) (fun _ _ _ _ _ => pe_cmpR op_inS (pv 4) (pe_glob (v := .str (S figL)) (by rfl) hfig ⟨tf, rfl⟩) (by rfl))) pa_nil))))))) (pss_one (ps_ret pe_non)) pss_nil)
      (pss_cons (ps_if (PW.pt (pw_and (pt_cmpR op_gt (pe_callB call_len_str (by rfl) T.len PySem.boot_len (pa_cons (pv 0) pa_nil)) pe_int (nomark _)) (pw_and1 (pt_cmpR op_eq (pe_ix (r := rIxS) ix_str (pv 0) pe_int (fun _ _ => rfl)) pe_str (nomark _))))) (pss_one (ps_ret pe_non)) pss_nil)
      (pss_cons (ps_set (i := 3) scNO.nd rfl (Or.inl rfl) (pe_callTy call_int_str (by rfl) T.int (by decide +kernel) (pa_cons (pv 0) pa_nil)))
      (pss_one (ps_ret (pe_ifExp (pt_chain op_le op_le (pv 1) (pv 3) (pv 2)) (pv 3) pe_non))))), ?_⟩
    obtain ⟨a, m, rfl, ha, hm, k⟩ := h
    have h8 : (200000 : Nat) ≤ sizeLine := by decide
    have lm := numL_small hm
    have la : (S a).length = a.length := S_len a
    have lnum : (Str.ofString (toString ((m : Nat) : Int))).length = (TL.numL m).length := by rw [tos_nat, S_len]
    refine ⟨_, rfl, _, rfl, by rw [la]; omega, _, _, rfl, rfl, _, rfl, ?_⟩
    rw [la]
    by_cases h1 : 1 ≤ a.length
    case neg =>
      refine ite2 (fun z => absurd z (by simp; omega)) fun _ => ⟨_, rfl, iteT ?_⟩
      have e : numB m a = none := by
        unfold numB
        rw [decide_eq_false h1]
        rfl
      rw [e] at k
      exact k H (Same.refl _)
    refine ite2 (fun _ => ?_) fun z => absurd (by simp; omega) z
    refine ⟨_, rfl, m, rfl, log_small hm, _, rfl, by rw [lnum]; omega, _, _, rfl, rfl, _, rfl, ?_⟩
    rw [lnum]
    by_cases h2 : a.length ≤ (TL.numL m).length
    case neg =>
      rw [decide_eq_false (by omega)]
      refine iteT ?_
      have e : numB m a = none := by
        unfold numB
        rw [decide_eq_false h2]
        simp
      rw [e] at k
      exact k H (Same.refl _)
    rw [decide_eq_true (by omega)]
    refine iteF ?_
    have ha10 : a.length ≤ 10 := by omega
    have sz : (S a).cps.size = a.length := by simp
    refine ⟨_, rfl, _, rfl, fun D1 hD1 => lc_it walk_str (fun i H' => Same H H' ∧ H' D1 = some (.lst (((a.take i).map isFig).map V.bl))) ⟨(Same.refl _).put hD1, upd_same⟩ (fun _ _ _ _ => trivial) ?_ ?_⟩
    · rintro i v H2 H3 hi ⟨S2, hL⟩ ⟨rfl, c, hc, rfl⟩
      have hc2 : a[i]? = some c := by simpa using hc
      refine ⟨rfl, _, rfl, c, S figL, rfl, rfl, _, hL, ?_, S2.put hD1, ?_⟩
      · rw [List.length_map, List.length_map, List.length_take]
        exact small1000 (by omega)
      · rw [upd_same, List.take_succ, hc2, List.map_append, List.map_append]
        rw [show decide (c ∈ (S figL).cps.toList) = isFig c from fig_mem]
        rfl
    · rintro H2 ⟨S2, hL⟩
      rw [sz, List.take_length] at hL
      refine ⟨D1, a.map isFig, rfl, SqL.of hL, _, rfl, ?_⟩
      have ea : (a.map isFig).all id = a.all isFig := by rw [List.all_map]; rfl
      rw [ea]
      by_cases h3 : a.all isFig = true
      case neg =>
        rw [Bool.eq_false_iff.mpr h3]
        refine iteT ?_
        have e : numB m a = none := by
          unfold numB
          rw [Bool.eq_false_iff.mpr h3]
          simp
        rw [e] at k
        exact k H2 S2
      rw [h3]
      refine iteF ?_
      obtain ⟨c, r, rfl⟩ : ∃ c r, a = c :: r := by
        cases a with
        | nil => exact absurd h1 (by decide)
        | cons c r => exact ⟨c, r, rfl⟩
      have hall : (decide (1 ≤ (c :: r).length) && decide ((c :: r).length ≤ (TL.numL m).length) && (c :: r).all isFig) = true := by rw [decide_eq_true h1, decide_eq_true h2, h3]; rfl
      have key : ∀ (b : Bool), (decide (1 < (c :: r).length) && decide (c = 48)) = b → (b = true → numB m (c :: r) = none) ∧ (b = false → numB m (c :: r) = if NumText.digitsVal (c :: r) ≤ m then some (NumText.digitsVal (c :: r)) else none) := fun b hb => by
        have e0 : (decide (1 < (c :: r).length) && decide ((c :: r).head? = some 48)) = b := by
          rw [← hb]
          congr 1
          exact decide_eq_decide.mpr ⟨fun z => Option.some.inj z, fun z => by rw [z]; rfl⟩
        unfold numB
        rw [if_pos hall, e0]
        exact ⟨fun z => by rw [z]; rfl, fun z => by rw [z]; rfl⟩
      refine ⟨_, rfl, _, rfl, by rw [la]; omega, _, _, rfl, rfl, _, rfl, ?_⟩
      rw [la]
      have h5e : decide (V.str ⟨#[c]⟩ = V.str "0") = decide (c = 48) := decide_eq_decide.mpr ⟨fun z => by
        have z2 : (S [c] : Str) = S [48] := V.str.inj z
        exact List.singleton_inj.mp (S_inj z2), fun z => by rw [z]; rfl⟩
      have n2 : ¬ 1 < (c :: r).length → (decide (1 < (c :: r).length) && decide (c = 48)) = false := fun z => by rw [decide_eq_false z]; rfl
      have n1 : ¬ c = 48 → (decide (1 < (c :: r).length) && decide (c = 48)) = false := fun z => by rw [decide_eq_false z, Bool.and_false]
      refine ite2 (fun h4 => ⟨_, rfl, S (c :: r), 0, c, rfl, rfl, by rw [la]; omega, atI_nat (j := 0) rfl, rfl, _, rfl, ?_⟩) fun h4 => ?_
      rw [h5e]
      refine ite2 (fun h5 => ?_) fun h5 => ?_
      · have e := (key true (by rw [of_decide_eq_true h5]; simp at h4 ⊢; omega)).1 rfl
        rw [e] at k
        exact k H2 S2
      all_goals
        have hb : (decide (1 < (c :: r).length) && decide (c = 48)) = false := by
          first
            | exact n1 fun z => h5 (decide_eq_true z)
            | exact n2 fun z => h4 (decide_eq_true (by omega))
        have e := (key false hb).2 rfl
        refine ⟨_, rfl, S (c :: r), _, rfl, int_S (a := c :: r) h3 (by simp) (by omega), by rw [la]; omega, ?_⟩
        refine ⟨_, rfl, _, rfl, _, _, rfl, rfl, _, rfl, ite2 (fun _ => ?_) fun z => absurd (decide_eq_true (by omega)) z⟩
        refine ⟨_, rfl, _, _, rfl, rfl, ?_⟩
        by_cases h6 : NumText.digitsVal (c :: r) ≤ m
        · rw [if_pos h6] at e
          rw [e] at k
          refine ⟨_, rfl, ite2 (fun _ => ⟨_, rfl, k H2 S2⟩) fun z => absurd (decide_eq_true (by omega)) z⟩
        · rw [if_neg h6] at e
          rw [e] at k
          refine ⟨_, rfl, ite2 (fun z => absurd (of_decide_eq_true z) (by omega)) fun _ => k H2 S2⟩
end
end P2
end

section
set_option maxRecDepth 100000
set_option maxHeartbeats 4000000
namespace P2
open PySem PySem.Spec PyProof.Rows L2 ClX ZM SX K7
section
variable {P : Program} {w : World} {K : PySem.W.Frag} {mg : Str → Option Value} {base : Heap} {bp C B M N : Addr}
/-- None, or a new list of numbers -/
def NumsV (H H' : Hp) : Option (List Nat) → V → Prop
  | none, v => v = .non
  | some ns, v => ∃ p, v = .ref p ∧ H p = none ∧ H' p = some (.lst (ns.map fun n => V.int (n : Nat)))
def spNumbersOf : Sp := fun vs H Q _ => ∃ (t : List Nat) (many m : Nat), vs = [.str (S t), .int (many : Nat), .int (m : Nat)] ∧ t.length ≤ 100000 ∧ m ≤ 1000000000 ∧ ∀ v H', Same H H' → NumsV H H' (numsOf many m t) v → Q v H'
abbrev NNS : List Str := ["text", "many", "most", "numbers", "word"]
theorem scNS : FnScope NNS ["text", "many", "most"] (defScope (top 10)) := ⟨rfl, rfl, rfl, by decide +kernel, rfl, by decide +kernel, by decide +kernel⟩
theorem spl_S {sep : List Nat} (hs : sep ≠ []) (hk : sep.all (· < 256) = true) {t p : List Nat} (h : p ∈ TL.spl sep 0 [] t) : p.length ≤ t.length := by
  have e := split_S (a := t) hs hk
  have m : S p ∈ Txt.split (S t) (S sep) := by rw [e]; exact List.mem_map_of_mem h
  have z := part_short m
  rwa [S_len, S_len] at z
theorem spl_count {sep : List Nat} (hs : sep ≠ []) (hk : sep.all (· < 256) = true) {t : List Nat} : (TL.spl sep 0 [] t).length ≤ t.length + 2 := by
  have e := split_S (a := t) hs hk
  have z := (fact_split (S t) (S sep)).2
  rwa [e, List.length_map, S_len] at z
theorem ok_numbersof_ {f fN : Addr} {fd dN : FuncData} (F : Fun K "numbers_of" "numbers_of" (top 10) f fd) (T : Tx K mg bp)
    (GN : FnOk P w K mg base CX0 1 fN dN ["word", "least", "most"] spNumberOf) (kN : PySem.W.keepIn K (.ref fN) = true) (bN : L2.Binds K dN ["word", "least", "most"] []) (gN : mg "number_of" = some (.ref fN)) :
    FnOk P w K mg base CX0 2 f fd ["text", "many", "most"] spNumbersOf := by
  refine F.ok scNS (fun vs H Q E h => ?_) (fun cdv A outer s H vs Q E hr h => ?_)
  · obtain ⟨t, many, m, rfl, _⟩ := h
    rfl
  · refine ⟨_, pss_cons (ps_setLc (i := 3) (own := [("word", 4)]) (g := gName 4) (tt := tYes) (te := tCall spNumberOf [] E0 (tCons (tVar 4) (tCons (tC (.int 0)) (tCons (tVar 2) tNil)))) rfl scNS.nd rfl rfl (sw_true rfl rfl rfl (by decide +kernel)) (pi_seqB (pe_split (pv 0) pe_str)) (blkOk_by (own := [("word", 4)]) (N := NNS) (sc := defScope (top 10)) (by decide +kernel))
            (fun _ _ _ _ _ => pg_name (i := 4) scNS.nd rfl (Or.inl rfl)) (fun _ _ _ _ _ => pts_nil) (fun _ _ _ _ _ => pe_call GN hr rfl gN kN bN .nil pass0 (pa_cons (pv 4) (pa_cons pe_int (pa_cons (pv 2) pa_nil)))))
      (pss_one (ps_ret (pe_ifExp (PW.pt (pw_and (pt_cmpR op_eq (pe_callB call_len_seq (by rfl) T.len PySem.boot_len (pa_cons (pv 3) pa_nil)) (pv 1) (nomark _)) (pw_and1 (pt_cmpR op_notIn_seq pe_non (pv 3) (by rfl))))) (pv 3) pe_non))), ?_⟩
    obtain ⟨t, many, m, rfl, ht, hm, k⟩ := h
    have h8 : (200000 : Nat) ≤ sizeLine := by decide
    have es : Txt.split (S t) (S [32]) = (TL.spl [32] 0 [] t).map S := split_S (by simp) rfl
    have lc := spl_count (sep := [32]) (by simp) rfl (t := t)
    have ll : ∀ p ∈ TL.spl [32] 0 [] t, p.length ≤ 100000 := fun p hp => Nat.le_trans (spl_S (by simp) rfl hp) ht
    obtain ⟨ws, hws⟩ : ∃ ws, TL.spl [32] 0 [] t = ws := ⟨_, rfl⟩
    have en : numsOf many m t = if (ws.map (numB m)).length = many then allSome (ws.map (numB m)) else none := by
      rw [← hws]
      rfl
    rw [hws] at es lc ll
    refine ⟨_, rfl, ⟨_, rfl⟩, S t, S [32], rfl, rfl, rfl, by rw [S_len]; omega, fun p hp => ?_⟩
    rw [es]
    obtain ⟨H1, e1, a1, S1⟩ : ∃ H1, upd H p (.lst ((ws.map S).map V.str)) = H1 ∧ H1 p = some (.lst ((ws.map S).map V.str)) ∧ Same H H1 := ⟨_, rfl, upd_same, (Same.refl _).put hp⟩
    rw [e1]
    have q1 : SqB K false H1 p ((ws.map S).map V.str) := SqL.of a1
    refine ⟨false, p, _, rfl, q1, fun D1 hD1 => lc_it walk_seqB (fun i H' => Same H1 H' ∧ H' D1 = some (.lst (((ws.take i).map (numB m)).map optV))) ⟨(Same.refl _).put hD1, upd_same⟩ (fun i H' _ h => q1.same h.1) ?_ ?_⟩
    · rintro i v H2 H3 hi ⟨S2, hL⟩ ⟨rfl, hv⟩
      obtain ⟨wd, hwd, rfl⟩ : ∃ wd, ws[i]? = some wd ∧ v = .str (S wd) := by
        rw [List.getElem?_map, List.getElem?_map, Option.map_map] at hv
        obtain ⟨wd, h1, h2⟩ := Option.map_eq_some_iff.mp hv
        exact ⟨wd, h1, h2.symm⟩
      refine ⟨rfl, _, rfl, _, rfl, wd, m, rfl, ll wd (List.mem_of_getElem? hwd), hm, fun H4 S4 => ⟨_, S4 _ _ hL, ?_, (S2.trans S4).put hD1, ?_⟩⟩
      · rw [List.length_map, List.length_map, List.length_take]
        exact Nat.lt_of_le_of_lt (Nat.min_le_right _ _) (by omega)
      · rw [upd_same, List.take_succ, hwd, List.map_append, List.map_append]
        rfl
    · rintro H2 ⟨S2, hL⟩
      rw [List.length_map, List.length_map, List.take_length] at hL
      have nD : H D1 = none := S1.free hD1
      have S02 := S1.trans S2
      refine ⟨_, rfl, D1, _, rfl, .inl (SqL.of hL), _, rfl, rfl, _, rfl, ?_⟩
      rw [List.length_map]
      have eq1 : decide (V.int ((ws.map (numB m)).length : Nat) = V.int (many : Nat)) = decide ((ws.map (numB m)).length = many) := decide_eq_decide.mpr ⟨fun z => by have := V.int.inj z; omega, fun z => by rw [z]⟩
      rw [eq1]
      by_cases h1 : (ws.map (numB m)).length = many
      case neg =>
        rw [if_neg h1] at en
        rw [en] at k
        exact ite2 (fun z => absurd (of_decide_eq_true z) h1) fun _ => k _ H2 S02 rfl
      rw [if_pos h1] at en
      refine ite2 (fun _ => ?_) fun z => absurd (decide_eq_true h1) z
      have fl : ((ws.map (numB m)).map optV).all flatV = true := List.all_eq_true.mpr fun v hv => by
        obtain ⟨o, _, rfl⟩ := List.mem_map.mp hv
        cases o <;> rfl
      have ei : inV .non ((ws.map (numB m)).map optV) = (ws.map (numB m)).any (·.isNone) := by
        unfold inV
        rw [List.any_map]
        congr 1
        funext o
        cases o <;> rfl
      refine ⟨_, rfl, D1, _, rfl, .inl (SqL.of hL), rfl, fl, _, rfl, ?_⟩
      show if (!inV .non ((ws.map (numB m)).map optV)) = true then _ else _
      rw [ei]
      unfold allSome at en
      by_cases h2 : ((ws.map (numB m)).any (·.isNone)) = true
      · rw [if_pos h2] at en
        rw [en] at k
        rw [h2]
        exact ite2 (fun z => absurd z (by decide)) fun _ => k _ H2 S02 rfl
      · rw [if_neg h2] at en
        rw [en] at k
        rw [Bool.eq_false_iff.mpr h2]
        refine ite2 (fun _ => ?_) fun z => absurd rfl z
        have ea : ws.map (numB m) = ((ws.map (numB m)).filterMap id).map some := allSome_of (by unfold allSome; rw [if_neg h2])
        have eo : (ws.map (numB m)).map optV = ((ws.map (numB m)).filterMap id).map fun n => V.int (n : Nat) := by
          conv => lhs; rw [ea, List.map_map]
          rfl
        rw [eo] at hL
        exact ⟨_, rfl, k _ H2 S02 ⟨D1, rfl, nD, hL⟩⟩
end
end P2
end

section
set_option maxRecDepth 100000
set_option maxHeartbeats 2000000
namespace P2
open PySem L2 ClX
section
variable {P : Program} {w : World} {K : PySem.W.Frag} {mg : Str → Option Value} {base : Heap} {bp C B M : Addr}
/-- Poly(prime, wide, terms): what it makes, what it refuses -/
def spInit (K : PySem.W.Frag) (bp C B M : Addr) : Sp := fun vs H Q E => ∃ (x dx : Addr) (vp vw vt : V), vs = [.ref x, vp, vw, vt] ∧ H x = some (.ins C dx []) ∧ PV K H vp ∧ (isP vp = false → E (.ref bp) none H) ∧ (isP vp = true → PV K H vw ∧ (inB vw 1 12 = false → E (.ref B) none H) ∧
  (inB vw 1 12 = true → ∃ (m : Int) (b : Bool), vw = .int m ∧ TermsAre K H m vt b ∧ (b = false → ∀ H', Same H H' → E (.ref B) none H') ∧ (b = true → ∃ (a : Addr) (ts : List (List Int × Int)), vt = .ref a ∧ H a = some (.dT (rK ts)) ∧ (ts.map (·.1)).Nodup ∧ (∀ q ∈ ts, q.1 ≠ []) ∧ ts.length ≤ 1000000 ∧
    ((ts.any fun p => decide (120 < p.1.sum)) = true → ∀ d H', Same H H' → H d = none → H' d = some (.xd [("most", .int 120)]) → E (.ref M) (some d) H') ∧
    ((ts.any fun p => decide (120 < p.1.sum)) = false → ∀ p, vp = .int p → ∀ (d : Addr) (H' : Hp) (ys : List (List Int)), ys.Perm (ts.map (·.1)) → Asc ys → SameX x H H' → H d = none → H' d = some (.dT (rK (tidyOf p ts ys))) → H' x = some (.ins C dx (fsP p m d (degOf (tidyOf p ts ys)))) → Q .non H'))))
end
end P2
end

section
set_option maxRecDepth 100000
set_option maxHeartbeats 2000000
namespace P2
open PySem L2 ClX
theorem putA_end {κ : Type} [DecidableEq κ] {m : List (κ × Int)} {k : κ} {v : Int} (h : k ∉ m.map (·.1)) : putA m k v = m ++ [(k, v)] := by
  unfold putA
  rw [if_neg]
  intro z
  obtain ⟨p, hp, e⟩ := List.any_eq_true.mp z
  exact h (List.mem_map.mpr ⟨p, hp, of_decide_eq_true e⟩)
/-- a copy is the same -/
theorem foldA_id {κ : Type} [DecidableEq κ] {m : List (κ × Int)} (hn : (m.map (·.1)).Nodup) : foldA (fun q => (q.1, q.2)) m = m := by
  have key : ∀ i, i ≤ m.length → foldA (fun q : κ × Int => (q.1, q.2)) (m.take i) = m.take i := by
    intro i
    induction i with
    | zero => intro _; rfl
    | succ i ih =>
      intro hi
      have hm : m[i]? = some m[i] := List.getElem?_eq_getElem (by omega)
      rw [foldA_take _ hm, ih (by omega), putA_end, List.take_succ, hm]
      · rfl
      · intro z
        obtain ⟨p, hp, e⟩ := List.mem_map.mp z
        obtain ⟨j, hj, ej⟩ := List.mem_iff_getElem.mp hp
        have hj2 : j < i := by
          rw [List.length_take] at hj
          omega
        rw [List.getElem_take] at ej
        have e1 : (m.map (·.1))[j]'(by rw [List.length_map]; omega) = (m.map (·.1))[i]'(by rw [List.length_map]; omega) := by
          rw [List.getElem_map, List.getElem_map, ej, e]
        have := (List.getElem_inj hn).mp e1
        omega
  have := key m.length (Nat.le_refl _)
  rwa [List.take_length] at this
/-- at a stands a polynomial with these terms -/
def PolyAt (H : Hp) (C a : Addr) (p n : Int) (ts : List (List Int × Int)) : Prop := ∃ dx d, H a = some (.ins C dx (fsP p n d (degOf ts))) ∧ H d = some (.dT (rK ts))
theorem fs_prime (p n : Int) (d : Addr) (g : Int) : (fsP p n d g).lookup ("prime" : Str) = some (V.int p) := by
  have h1 : ¬ ("prime" : Str) = "degree" := by decide +kernel
  have h2 : ¬ ("prime" : Str) = "_terms" := by decide +kernel
  have h3 : ¬ ("prime" : Str) = "wide" := by decide +kernel
  unfold fsP
  rw [lookup_putF, if_neg h1, lookup_putF, if_neg h2, lookup_putF, if_neg h3, lookup_putF, if_pos rfl]
theorem fs_wide (p n : Int) (d : Addr) (g : Int) : (fsP p n d g).lookup ("wide" : Str) = some (V.int n) := by
  have h1 : ¬ ("wide" : Str) = "degree" := by decide +kernel
  have h2 : ¬ ("wide" : Str) = "_terms" := by decide +kernel
  unfold fsP
  rw [lookup_putF, if_neg h1, lookup_putF, if_neg h2, lookup_putF, if_pos rfl]
theorem fs_terms (p n : Int) (d : Addr) (g : Int) : (fsP p n d g).lookup ("_terms" : Str) = some (V.ref d) := by
  have h1 : ¬ ("_terms" : Str) = "degree" := by decide +kernel
  unfold fsP
  rw [lookup_putF, if_neg h1, lookup_putF, if_pos rfl]
theorem fs_degree (p n : Int) (d : Addr) (g : Int) : (fsP p n d g).lookup ("degree" : Str) = some (V.int g) := by
  unfold fsP
  rw [lookup_putF, if_pos rfl]
theorem PolyAt.same {H H' : Hp} {C a : Addr} {p n : Int} {ts : List (List Int × Int)} (h : PolyAt H C a p n ts) (S : Same H H') : PolyAt H' C a p n ts := let ⟨dx, d, h1, h2⟩ := h; ⟨dx, d, S _ _ h1, S _ _ h2⟩
section
variable {P : Program} {w : World} {K : PySem.W.Frag} {mg : Str → Option Value} {base : Heap} {bp C B M : Addr}
/-- p.terms: a new dict -/
def spTerms (C : Addr) : Sp := fun vs H Q _ => ∃ (a : Addr) (p n : Int) (ts : List (List Int × Int)), vs = [.ref a] ∧ PolyAt H C a p n ts ∧ (ts.map (·.1)).Nodup ∧ ts.length ≤ 1000000 ∧ ∀ q H', Same H H' → H q = none → H' q = some (.dT (rK ts)) → Q (.ref q) H'
abbrev NS : List Str := ["self", "row"]
end
end P2
end

section
set_option maxRecDepth 100000
set_option maxHeartbeats 2000000
namespace P2
open PySem L2 ClX
section
variable {P : Program} {w : World} {K : PySem.W.Frag} {mg : Str → Option Value} {base : Heap} {bp C B M : Addr}
theorem ty_poly {H : Hp} {a : Addr} {p n : Int} {ts : List (List Int × Int)} (Y : Py K mg C B M) (h : PolyAt H C a p n ts) : TyX K H (.ref a) (.ref C) := let ⟨_, _, h1, _⟩ := h; .base (.ins h1 Y.cl Y.c1 Y.c2 Y.c3 Y.c4)
/-- no polynomial, but one of the plain kinds -/
abbrev Odd (K : PySem.W.Frag) (H : Hp) (v : V) : Prop := PV K H v
def spCheckPoly (K : PySem.W.Frag) (C B : Addr) : Sp := fun vs H Q E => ∃ v, vs = [v] ∧ ((∃ a p n ts, v = .ref a ∧ PolyAt H C a p n ts ∧ Q .non H) ∨ (Odd K H v ∧ E (.ref B) none H))
def spCheckPair (K : PySem.W.Frag) (C B : Addr) : Sp := fun vs H Q E => ∃ u v, vs = [u, v] ∧ ((Odd K H u ∧ E (.ref B) none H) ∨ ∃ a p n ts, u = .ref a ∧ PolyAt H C a p n ts ∧ ((Odd K H v ∧ E (.ref B) none H) ∨ ∃ b p2 n2 ts2, v = .ref b ∧ PolyAt H C b p2 n2 ts2 ∧ ((p = p2 ∧ n = n2) → Q .non H) ∧ (¬ (p = p2 ∧ n = n2) → E (.ref B) none H)))
end
end P2
end

section
set_option maxRecDepth 100000
set_option maxHeartbeats 2000000
namespace P2
open PySem L2 ClX
theorem nodup_put {κ : Type} [DecidableEq κ] {m : List (κ × Int)} (h : (m.map (·.1)).Nodup) (k : κ) (v : Int) : ((putA m k v).map (·.1)).Nodup := by
  by_cases hk : k ∈ m.map (·.1)
  · unfold putA
    have e : (m.any fun p => decide (p.1 = k)) = true := by
      obtain ⟨p, hp, e⟩ := List.mem_map.mp hk
      exact List.any_eq_true.mpr ⟨p, hp, decide_eq_true e⟩
    rw [if_pos e, List.map_map]
    have e2 : m.map ((fun p => p.1) ∘ fun p => if p.1 = k then (p.1, v) else p) = m.map (·.1) := List.map_congr_left fun p _ => by
      show (if p.1 = k then (p.1, v) else p).1 = p.1
      by_cases z : p.1 = k
      · rw [if_pos z]
      · rw [if_neg z]
    rw [e2]
    exact h
  · rw [putA_end hk, List.map_append]
    exact List.nodup_append.mpr ⟨h, by simp, fun a ha b hb e => by
      have z : b = k := List.mem_singleton.mp hb
      rw [e, z] at ha
      exact hk ha⟩
theorem nodup_fold {κ α : Type} [DecidableEq κ] {F : List (κ × Int) → α → List (κ × Int)} (hF : ∀ m x, (m.map (·.1)).Nodup → ((F m x).map (·.1)).Nodup) : ∀ (xs : List α) (m : List (κ × Int)), (m.map (·.1)).Nodup → ((xs.foldl F m).map (·.1)).Nodup
  | [], _, h => h
  | x :: xs, m, h => nodup_fold hF xs (F m x) (hF m x h)
theorem nodup_foldA {κ α : Type} [DecidableEq κ] (g : α → κ × Int) (xs : List α) : ((foldA g xs).map (·.1)).Nodup := nodup_fold (fun _ _ h => nodup_put h _ _) xs [] List.nodup_nil
/-- rows that a polynomial in n unknowns may have -/
def RowsOk (n : Nat) (ts : List (List Int × Int)) : Prop := ∀ q ∈ ts, q.1.length = n ∧ (∀ e ∈ q.1, 0 ≤ e) ∧ q.1.sum ≤ 120
section
variable {P : Program} {w : World} {K : PySem.W.Frag} {mg : Str → Option Value} {base : Heap} {bp C B M : Addr}
theorem terms_good {H : Hp} {a : Addr} {n : Nat} {ts : List (List Int × Int)} (h : H a = some (.dT (rK ts))) (hr : RowsOk n ts) (hn : n ≤ 12) (hz : ts.length ≤ 1000000) : TermsAre K H n (.ref a) true := by
  have e : ((rK ts).all fun p => termB "tuple" (p.1.map kV) n p.2) = true := by
    refine List.all_eq_true.mpr fun q hq => ?_
    obtain ⟨r, hr2, rfl⟩ := List.mem_map.mp hq
    obtain ⟨e1, e2, _⟩ := hr r hr2
    show termB "tuple" ((rowK r.1).map kV) n (.int r.2) = true
    rw [rowK_kV]
    have a1 : (r.1.map V.int).all isI = true := List.all_eq_true.mpr fun x hx => by
      obtain ⟨i, _, rfl⟩ := List.mem_map.mp hx
      rfl
    have a2 : (r.1.map V.int).all nn = true := List.all_eq_true.mpr fun x hx => by
      obtain ⟨i, hi, rfl⟩ := List.mem_map.mp hx
      exact decide_eq_true (e2 i hi)
    unfold termB
    rw [a1, a2, List.length_map, e1]
    simp [isI]
  have z := TermsAre.rows (K := K) (m := (n : Int)) h (by rw [asK_len]; exact hz) (fun q hq => by
    obtain ⟨r, hr2, rfl⟩ := List.mem_map.mp hq
    refine ⟨?_, rfl⟩
    show (rowK r.1).length ≤ 1000
    unfold rowK
    rw [List.length_map, (hr r hr2).1]
    omega)
  rw [e] at z
  exact z
/-- a polynomial is made of good terms -/
theorem make_good {H : Hp} {x dx a : Addr} {p : Int} {n : Nat} {ts : List (List Int × Int)} {Q : VK} {E : XK} (hp : p ∈ primes) (h1 : 1 ≤ n) (h12 : n ≤ 12) (ha : H a = some (.dT (rK ts))) (hr : RowsOk n ts) (hn : (ts.map (·.1)).Nodup) (hz : ts.length ≤ 1000000)
    (nx : H x = none) (ndx : H dx = none) (ne : dx ≠ x) (k : ∀ y H' ys, ys.Perm (ts.map (·.1)) → Asc ys → Same H H' → H y = none → PolyAt H' C y p n (tidyOf p ts ys) → Q (.ref y) H') :
    spInit K bp C B M [.ref x, .int p, .int n, .ref a] (upd (upd H dx (.own x)) x (.ins C dx [])) (fun v H2 => v = .non ∧ Q (.ref x) H2) E := by
  have S0 : Same H (upd (upd H dx (.own x)) x (.ins C dx [])) := fun b o e => by rw [upd_ne (ne_of_none e nx), upd_ne (ne_of_none e ndx)]; exact e
  have hw : inB (.int n) 1 12 = true := by
    show (decide ((1 : Int) ≤ n) && decide ((n : Int) ≤ 12)) = true
    rw [decide_eq_true (by omega), decide_eq_true (by omega)]
    rfl
  have hpp : isP (.int p) = true := decide_eq_true hp
  refine ⟨x, dx, _, _, _, rfl, upd_same, pv_flat rfl, (fun z => by rw [hpp] at z; cases z), fun _ => ⟨pv_flat rfl, (fun z => by rw [hw] at z; cases z), fun _ => ⟨n, true, rfl, terms_good (S0 _ _ ha) hr h12 hz, (fun z => by cases z), fun _ => ⟨a, ts, rfl, S0 _ _ ha, hn, fun q hq => ?_, hz, fun z => ?_, fun _ p2 ep d H' ys perm asc S nd hd hx => ?_⟩⟩⟩⟩
  · intro e
    have z := (hr q hq).1
    rw [e] at z
    exact absurd z (by show (0 : Nat) ≠ n; omega)
  · obtain ⟨q, hq, e⟩ := List.any_eq_true.mp z
    have h3 := (hr q hq).2.2
    have h4 : 120 < q.1.sum := of_decide_eq_true e
    omega
  · cases ep
    refine ⟨rfl, k x H' ys perm asc (fun b o e => ?_) nx ⟨dx, d, hx, hd⟩⟩
    exact S b o (S0 _ _ e) (ne_of_none e nx)
end
end P2
end

section
set_option maxRecDepth 100000
set_option maxHeartbeats 2000000
namespace P2
open PySem L2 ClX
theorem passF {X : Cx} {P : Program} {w : World} : Passes (L2.CX P w) X (fun _ _ _ => False) := fun _ _ _ _ _ _ _ x => by
  obtain ⟨_, _, _, _, _, _, _, _, _, _, _, _, z⟩ := x
  exact z.elim
theorem termsOf_len (m : List (Int × Int)) (n : Nat) : (termsOf m n).length ≤ m.length := foldA_le _ _
section
variable {P : Program} {w : World} {K : PySem.W.Frag} {mg : Str → Option Value} {base : Heap} {bp C B M : Addr}
/-- what comes out is a new polynomial of these terms -/
def Gives (C : Addr) (H : Hp) (p : Int) (n : Nat) (ts : List (List Int × Int)) (Q : VK) : Prop := ∀ y H' ys, List.Perm ys (ts.map (·.1)) → Asc ys → Same H H' → H y = none → PolyAt H' C y p n (tidyOf p ts ys) → Q (.ref y) H'
theorem Gives.same {H H' : Hp} {p : Int} {n : Nat} {ts : List (List Int × Int)} {Q : VK} (g : Gives C H p n ts Q) (S : Same H H') : Gives C H' p n ts Q := fun y H2 ys h1 h2 S2 hy hp => g y H2 ys h1 h2 (S.trans S2) (S.free hy) hp
def spOfPack (C : Addr) : Sp := fun vs H Q _ => ∃ (p : Int) (n : Nat) (a : Addr) (m : List (Int × Int)), vs = [.int p, .int n, .ref a] ∧ p ∈ primes ∧ 1 ≤ n ∧ n ≤ 12 ∧ H a = some (.dK (iK m)) ∧ (m.map (·.1)).Nodup ∧ m.length ≤ 1000000 ∧ RowsOk n (termsOf m n) ∧ Gives C H p n (termsOf m n) Q
/-- terms as a polynomial has them -/
structure TsOk (p : Int) (n : Nat) (ts : List (List Int × Int)) : Prop where
  nd : (ts.map (·.1)).Nodup
  rows : RowsOk n ts
  vals : ∀ q ∈ ts, 0 < q.2 ∧ q.2 < p
  len : ts.length ≤ 1000000
theorem le_sum : ∀ {r : List Int}, (∀ e ∈ r, 0 ≤ e) → (∀ e ∈ r, e ≤ r.sum) ∧ 0 ≤ r.sum
  | [], _ => ⟨(fun _ h => nomatch h), by simp⟩
  | x :: r, h => by
    obtain ⟨h1, h2⟩ := le_sum (r := r) fun e he => h e (List.mem_cons_of_mem _ he)
    have hx := h x List.mem_cons_self
    rw [List.sum_cons]
    refine ⟨fun e he => ?_, by omega⟩
    rcases List.mem_cons.mp he with rfl | he
    · omega
    · have := h1 e he
      omega
theorem TsOk.exps {p : Int} {n : Nat} {ts : List (List Int × Int)} (h : TsOk p n ts) (hn : n ≤ 12) : ∀ q ∈ ts, Exps q.1 ∧ q.1.length ≤ 1000 := fun q hq => by
  obtain ⟨e1, e2, e3⟩ := h.rows q hq
  refine ⟨fun e he => ⟨e2 e he, ?_⟩, by omega⟩
  have z := (le_sum e2).1 e he
  show e < 128
  omega
def spPolySum (K : PySem.W.Frag) (C B : Addr) : Sp := fun vs H Q E => ∃ u v, vs = [u, v] ∧ ((Odd K H u ∧ E (.ref B) none H) ∨ ∃ a p n ts, u = .ref a ∧ PolyAt H C a p n ts ∧ ((Odd K H v ∧ E (.ref B) none H) ∨ ∃ b p2 n2 ts2, v = .ref b ∧ PolyAt H C b p2 n2 ts2 ∧ (¬ (p = p2 ∧ n = n2) → E (.ref B) none H) ∧
  ((p = p2 ∧ n = n2) → ∃ k : Nat, n = k ∧ p ∈ primes ∧ 1 ≤ k ∧ k ≤ 12 ∧ TsOk p k ts ∧ TsOk p k ts2 ∧ ts.length + ts2.length ≤ 1000000 ∧ RowsOk k (termsOf (sumP p (packOf ts) (packOf ts2)) k) ∧ Gives C H p k (termsOf (sumP p (packOf ts) (packOf ts2)) k) Q)))
abbrev NSum : List Str := ["one", "other", "pack"]
theorem p_pos {p : Int} (h : p ∈ primes) : 2 ≤ p ∧ p < 100 := by
  revert h
  simp only [primes, List.mem_cons, List.mem_nil_iff, or_false]
  omega
theorem nodup_foldI {κ α : Type} [DecidableEq κ] (g : α → Option (κ × Int)) (xs : List α) : ((foldI g xs).map (·.1)).Nodup := by
  unfold foldI
  refine nodup_fold (fun m x h => ?_) xs [] List.nodup_nil
  cases g x with
  | none => exact h
  | some r => exact nodup_put h _ _
theorem sumP_len (p : Int) (m1 m2 : List (Int × Int)) : (sumP p m1 m2).length ≤ m1.length + m2.length := by
  have h1 := foldI_le (fun q : Int × Int => if q.2 % p = 0 then none else some (q.1, q.2 % p)) (m2.foldl (fun m q => addA m q.1 q.2) (foldA (fun q => (q.1, q.2)) m1))
  have h2 := addF_len m2 (foldA (fun q => (q.1, q.2)) m1)
  have h3 := foldA_le (fun q : Int × Int => (q.1, q.2)) m1
  unfold sumP withoutZ
  omega
end
end P2
end

section
set_option maxRecDepth 100000
set_option maxHeartbeats 2000000
namespace P2
open PySem L2 ClX
theorem small_foldG {α : Type} (g : α → Int × Int) : ∀ (xs : List α) (m : List (Int × Int)), (∀ x ∈ xs, -(2 ^ 64) < (g x).2 ∧ (g x).2 < 2 ^ 64) → Small m → Small (xs.foldl (fun m x => putA m (g x).1 (g x).2) m)
  | [], _, _, h => h
  | x :: xs, m, hx, h => small_foldG g xs (putA m (g x).1 (g x).2) (fun y hy => hx y (List.mem_cons_of_mem _ hy)) (small_put h (hx x List.mem_cons_self))
theorem small_packOf {p : Int} {n : Nat} {ts : List (List Int × Int)} (h : TsOk p n ts) (hp : p < 100) : Small (packOf ts) := small_foldG (fun q : List Int × Int => (packR q.1, q.2)) ts [] (fun q hq => by
  have z := h.vals q hq
  show -(2 ^ 64) < q.2 ∧ q.2 < 2 ^ 64
  omega) fun _ z => nomatch z
theorem prodP_len (p : Int) (m1 m2 : List (Int × Int)) : (prodP p m1 m2).length ≤ m1.length * m2.length := by
  have h1 := foldI_le (fun q : Int × Int => if q.2 % p = 0 then none else some (q.1, q.2 % p)) (if m1.length < m2.length then prodL m1 m2 else prodL m2 m1)
  have h2 : (if m1.length < m2.length then prodL m1 m2 else prodL m2 m1).length ≤ m1.length * m2.length := by
    split
    · exact prodL_len m1 m2
    · rw [Nat.mul_comm]
      exact prodL_len m2 m1
  unfold prodP withoutZ
  omega
section
variable {P : Program} {w : World} {K : PySem.W.Frag} {mg : Str → Option Value} {base : Heap} {bp C B M : Addr}
/-- too great a degree is refused -/
def TooBig (M : Addr) (H : Hp) (E : XK) : Prop := ∀ d H', Same H H' → H d = none → H' d = some (.xd [("most", .int 120)]) → E (.ref M) (some d) H'
def spPolyProd (K : PySem.W.Frag) (C B M : Addr) : Sp := fun vs H Q E => ∃ u v, vs = [u, v] ∧ ((Odd K H u ∧ E (.ref B) none H) ∨ ∃ a p n ts, u = .ref a ∧ PolyAt H C a p n ts ∧ ((Odd K H v ∧ E (.ref B) none H) ∨ ∃ b p2 n2 ts2, v = .ref b ∧ PolyAt H C b p2 n2 ts2 ∧ (¬ (p = p2 ∧ n = n2) → E (.ref B) none H) ∧
  ((p = p2 ∧ n = n2) → (120 < degOf ts + degOf ts2 → TooBig M H E) ∧ (¬ 120 < degOf ts + degOf ts2 → ∃ k : Nat, n = k ∧ p ∈ primes ∧ 1 ≤ k ∧ k ≤ 12 ∧ TsOk p k ts ∧ TsOk p k ts2 ∧ ts.length * ts2.length ≤ 1000000 ∧ RowsOk k (termsOf (prodP p (packOf ts) (packOf ts2)) k) ∧ Gives C H p k (termsOf (prodP p (packOf ts) (packOf ts2)) k) Q))))
end
end P2
end

section
set_option maxRecDepth 100000
set_option maxHeartbeats 2000000
namespace P2
open PySem L2 ClX
/-- what BadNumber is -/
structure Nx (K : PySem.W.Frag) (mg : Str → Option Value) (N : Addr) : Prop where
  gN : mg "BadNumber" = some (.ref N)
  oN : OexC K N
  pN : PySem.W.findIn K (.ref N) "part" = some none
section
variable {P : Program} {w : World} {K : PySem.W.Frag} {mg : Str → Option Value} {base : Heap} {bp C B M N : Addr}
theorem scBN : FnScope ["self", "part"] ["self", "part"] (defScope sBN) := ⟨rfl, rfl, rfl, by decide +kernel, rfl, by decide +kernel, by decide +kernel⟩
theorem ok_bn {f : Addr} {fd : FuncData} (F : Fun K "__init__" "BadNumber.__init__" sBN f fd) (X : Nx K mg N) : FnOk P w K mg base CX0 1 f fd ["self", "part"] (spErr "part" N) := by
  refine F.ok scBN (fun vs H Q E h => ?_) (fun cdv A outer s H vs Q E hr h => ?_)
  · obtain ⟨a, v, rfl, _⟩ := h
    rfl
  · obtain ⟨a, v, rfl, ha, k⟩ := h
    exact ⟨_, pss_one (ps_ost (pv 0) (pv 1)), _, rfl, _, rfl, a, _, rfl, X.oN, X.pN, .inl ⟨ha, fun dx h1 h2 => k dx h1 h2⟩⟩
/-- a number is refused, by the name of its part -/
def BadN (N : Addr) (part : Str) (H : Hp) (E : XK) : Prop := ∀ d H', Same H H' → H d = none → H' d = some (.xd [("part", .str part)]) → E (.ref N) (some d) H'
def spPolyPow (K : PySem.W.Frag) (C B M N : Addr) : Sp := fun vs H Q E => ∃ u v, vs = [u, v] ∧ ((Odd K H u ∧ E (.ref B) none H) ∨ ∃ a p n ts, u = .ref a ∧ PolyAt H C a p n ts ∧ PV K H v ∧ (inB v 0 120 = false → BadN N "times" H E) ∧
  (inB v 0 120 = true → ∃ t : Nat, v = .int t ∧ (120 < degOf ts * t → TooBig M H E) ∧ (¬ 120 < degOf ts * t → ∃ k : Nat, n = k ∧ p ∈ primes ∧ 1 ≤ k ∧ k ≤ 12 ∧ TsOk p k ts ∧ t ≤ 120 ∧ OkPow p t [(0, 1)] (packOf ts) t ∧ ((powF p t [(0, 1)] (packOf ts) t).map (·.1)).Nodup ∧ (powF p t [(0, 1)] (packOf ts) t).length ≤ 1000000 ∧
    RowsOk k (termsOf (powF p t [(0, 1)] (packOf ts) t) k) ∧ Gives C H p k (termsOf (powF p t [(0, 1)] (packOf ts) t) k) Q)))
end
end P2
end

section
set_option maxRecDepth 100000
set_option maxHeartbeats 2000000
namespace ClX
open PySem PySem.Spec PyProof.Rows L2
/-- the value, and from here on it is not written -/
def tFrz (te : TE) : TE := fun σ H Q => te σ H fun x H1 => ∃ d u, x = .ref d ∧ H1 d = some u ∧ Mut (some u) ∧ ∀ od, Q (.ref d) (upd H1 d (.frz od u))
theorem pe_frz {X : Cx} {e : Expr} {t : TE} (h : PE X e t) : PE X e (tFrz t) := by
  refine ⟨fun pins s σ H Q I hw => ?_⟩
  refine thn (h.run pins s σ H _ I hw) fun v s1 ⟨x, H1, I1, r, d, u, ex, hd, mu, q⟩ => ?_
  subst ex
  obtain ⟨od, I2⟩ := I1.lock hd mu
  exact ⟨_, _, I2, r, q od⟩
end ClX
namespace P2
open PySem L2 ClX
theorem foldA_map {κ : Type} [DecidableEq κ] {m : List (κ × Int)} (g : κ × Int → Int) (hn : (m.map (·.1)).Nodup) : foldA (fun q => (q.1, g q)) m = m.map fun q => (q.1, g q) := by
  have key : ∀ i, i ≤ m.length → foldA (fun q : κ × Int => (q.1, g q)) (m.take i) = (m.take i).map fun q => (q.1, g q) := by
    intro i
    induction i with
    | zero => intro _; rfl
    | succ i ih =>
      intro hi
      have hm : m[i]? = some m[i] := List.getElem?_eq_getElem (by omega)
      rw [foldA_take _ hm, ih (by omega), putA_end, List.take_succ, hm, List.map_append]
      · rfl
      · intro z
        rw [List.map_map] at z
        obtain ⟨p, hp, e⟩ := List.mem_map.mp z
        have e : p.1 = m[i].1 := e
        obtain ⟨j, hj, ej⟩ := List.mem_iff_getElem.mp hp
        have hj2 : j < i := by
          rw [List.length_take] at hj
          omega
        rw [List.getElem_take] at ej
        have e1 : (m.map (·.1))[j]'(by rw [List.length_map]; omega) = (m.map (·.1))[i]'(by rw [List.length_map]; omega) := by
          rw [List.getElem_map, List.getElem_map, ej, e]
        have := (List.getElem_inj hn).mp e1
        omega
  have := key m.length (Nat.le_refl _)
  rwa [List.take_length] at this
/-- each number times c -/
def scaleT (c : Int) (ts : List (List Int × Int)) : List (List Int × Int) := foldA (fun q => (q.1, q.2 * c)) ts
theorem scale_map {c : Int} {ts : List (List Int × Int)} (h : (ts.map (·.1)).Nodup) : scaleT c ts = ts.map fun q => (q.1, q.2 * c) := foldA_map _ h
theorem scale_rows {c : Int} {k : Nat} {ts : List (List Int × Int)} (h : (ts.map (·.1)).Nodup) (r : RowsOk k ts) : RowsOk k (scaleT c ts) := by
  rw [scale_map h]
  intro q hq
  obtain ⟨q2, h2, rfl⟩ := List.mem_map.mp hq
  exact r q2 h2
section
variable {P : Program} {w : World} {K : PySem.W.Frag} {mg : Str → Option Value} {base : Heap} {bp C B M N : Addr}
def spPolyScaled (K : PySem.W.Frag) (C B N : Addr) : Sp := fun vs H Q E => ∃ u v, vs = [u, v] ∧ ((Odd K H u ∧ E (.ref B) none H) ∨ ∃ a p n ts, u = .ref a ∧ PolyAt H C a p n ts ∧ PV K H v ∧ (isI v = false → BadN N "number" H E) ∧
  (isI v = true → ∃ (c : Int) (k : Nat), v = .int c ∧ n = k ∧ p ∈ primes ∧ 1 ≤ k ∧ k ≤ 12 ∧ TsOk p k ts ∧ Gives C H p k (scaleT c ts) Q))
abbrev NSC : List Str := ["one", "number", "row", "value"]
end
end P2
end

section
set_option maxRecDepth 100000
set_option maxHeartbeats 2000000
namespace P2
open PySem L2 ClX
section
variable {P : Program} {w : World} {K : PySem.W.Frag} {mg : Str → Option Value} {base : Heap} {bp C B M N : Addr}
theorem inB_int {v : V} {a b : Int} (h : inB v a b = true) : ∃ i, v = .int i ∧ a ≤ i ∧ i ≤ b := by
  cases v with
  | int i =>
    have z : (decide (a ≤ i) && decide (i ≤ b)) = true := h
    obtain ⟨z1, z2⟩ := Bool.and_eq_true_iff.mp z
    exact ⟨i, rfl, of_decide_eq_true z1, of_decide_eq_true z2⟩
  | _ => cases h
theorem isP_int {v : V} (h : isP v = true) : ∃ p, v = .int p ∧ p ∈ primes := by
  cases v with
  | int p => exact ⟨p, rfl, of_decide_eq_true h⟩
  | _ => cases h
/-- a dict with one pair is put together -/
theorem puts_one {H2 H3 : Hp} {D b : Addr} {r : List Int} {c : Int} {Q : Hp → Prop} (hD : H3 D = some (.dT [])) (hb : H3 b = some (.tup (r.map V.int))) (k : Q (upd H3 D (.dT (rK [(r, c)])))) : Puts D [(V.ref b, V.int c)] H3 Q := by
  refine ⟨_, DPut.t (k := rowK r) hD (by rw [rowK_kV]; exact hb) (by decide), ?_⟩
  exact k
theorem one_rows {k : Nat} {r : List Int} {c : Int} (h1 : r.length = k) (h2 : ∀ e ∈ r, 0 ≤ e) (h3 : r.sum ≤ 120) : RowsOk k [(r, c)] := fun q hq => by
  obtain rfl := List.mem_singleton.mp hq
  exact ⟨h1, h2, h3⟩
theorem sum_zeros : ∀ k : Nat, (List.replicate k (0 : Int)).sum = 0
  | 0 => rfl
  | k + 1 => by
    rw [List.replicate_succ, List.sum_cons, sum_zeros k]
    rfl
theorem rep_flat (k : Nat) : (List.replicate k [V.int 0]).flatten = (List.replicate k (0 : Int)).map V.int := by
  induction k with
  | zero => rfl
  | succ k ih =>
    rw [List.replicate_succ, List.replicate_succ, List.flatten_cons, ih]
    rfl
def spConst (K : PySem.W.Frag) (bp C N : Addr) : Sp := fun vs H Q E => ∃ vp vw vn, vs = [vp, vw, vn] ∧ PV K H vp ∧ (isP vp = false → E (.ref bp) none H) ∧ (isP vp = true → PV K H vw ∧ (inB vw 1 12 = false → BadN N "wide" H E) ∧
  (inB vw 1 12 = true → PV K H vn ∧ (isI vn = false → BadN N "number" H E) ∧ (isI vn = true → ∀ (p : Int) (k : Nat) (c : Int), vp = .int p → vw = .int k → vn = .int c → Gives C H p k [(List.replicate k 0, c)] Q)))
end
end P2
end

section
set_option maxRecDepth 100000
set_option maxHeartbeats 2000000
namespace P2
open PySem L2 ClX
/-- the row of one unknown -/
def letR (k : Nat) (s : Int) : List Int := (List.range k).map fun i : Nat => if (i : Int) = s then (1 : Int) else 0
theorem letR_nn {k : Nat} {s : Int} : ∀ e ∈ letR k s, 0 ≤ e := fun e he => by
  obtain ⟨i, _, rfl⟩ := List.mem_map.mp he
  show (0 : Int) ≤ if (i : Int) = s then 1 else 0
  split <;> omega
theorem letR_sum (s : Int) : ∀ k : Nat, (letR k s).sum = if 0 ≤ s ∧ s < k then 1 else 0
  | 0 => by
    rw [if_neg (by omega)]
    rfl
  | k + 1 => by
    have ih := letR_sum s k
    have e : letR (k + 1) s = letR k s ++ [if (k : Int) = s then 1 else 0] := by
      unfold letR
      rw [List.range_succ, List.map_append]
      rfl
    rw [e, List.sum_append, ih]
    show _ + (([if (k : Int) = s then (1 : Int) else 0]).sum) = _
    rw [List.sum_cons, List.sum_nil]
    by_cases h1 : (k : Int) = s
    · rw [if_pos h1, if_neg (by omega), if_pos (by omega)]
      rfl
    · rw [if_neg h1]
      by_cases h2 : 0 ≤ s ∧ s < (k : Int)
      · rw [if_pos h2, if_pos (by omega)]
        rfl
      · rw [if_neg h2, if_neg (by omega)]
        rfl
section
variable {P : Program} {w : World} {K : PySem.W.Frag} {mg : Str → Option Value} {base : Heap} {bp C B M N : Addr}
def spLetter (K : PySem.W.Frag) (bp C N : Addr) : Sp := fun vs H Q E => ∃ vp vw vn, vs = [vp, vw, vn] ∧ PV K H vp ∧ (isP vp = false → E (.ref bp) none H) ∧ (isP vp = true → PV K H vw ∧ (inB vw 1 12 = false → BadN N "wide" H E) ∧
  (inB vw 1 12 = true → PV K H vn ∧ ∀ k : Nat, vw = .int k → (inB vn 0 (k - 1) = false → BadN N "spot" H E) ∧ (inB vn 0 (k - 1) = true → ∀ (p : Int) (s : Int), vp = .int p → vn = .int s → Gives C H p k [(letR k s, 1)] Q)))
abbrev NLE : List Str := ["prime", "wide", "spot", "place"]
end
end P2
end

section
set_option maxRecDepth 100000
set_option maxHeartbeats 4000000
/-! == and != by a class's own __eq__. -/
namespace ClX
open PySem PySem.Spec PyProof.Rows L2
section
variable {prog : Program} {w : World} {A : Around} {E : Value → Shared → Prop} {s : Shared} {K : PySem.W.Frag} {x C L f : Addr} {h₀ : Heap} {m : Str → Option Value} {ox : Obj} {od : Option Obj} {name : Str} {b tb : Value}
theorem ifBound_B {M : Model} {args : List Value} {id : String} {Q : Option Value → Shared → Prop} (X : K.In s.heap) (I : PySem.W.InstAt s.heap x ox C od) (hs : PySem.W.findIn K (.ref C) name = some (some (.builtin id)))
    (hb : ∀ self, bindSpecial (.builtin id) self = pure (.builtin id, [self])) (h : wpAny M A (call (.builtin id) (.ref x :: args)) (fun v => Q (some v)) E s) : wpAny M A (callSpecialIfBound? (.ref x) name args) Q E s := by
  simp only [callSpecialIfBound?, bindSpecialIfBound?]
  refine wpAny_holding (wpAny_bind (wpAny_bind (wpAny_bind (I.type.here ((PySem.W.looks_findIn X hs).here ?_)))))
  refine wpAny_bind (wpAny_askSetting (wpAny_ite ?_))
  have fin : wpAny M A (call (.builtin id) ([.ref x] ++ args) >>= fun v => pure (some v)) Q E s := wpAny_bind (wpAny_mono h (fun v s' h' => wpAny_pure h') fun _ _ h' => h')
  have bd : PySem.W.Looks M s.heap (bindSpecial (.builtin id) (.ref x)) (.builtin id, [.ref x]) := PySem.W.Looks.of_pure (hb _)
  split
  · exact wpAny_bind (bd.here (wpAny_pure (by exact fin)))
  · exact wpAny_tryCatch (wpAny_bind (bd.here (wpAny_pure (by exact fin))))
theorem one_bind (self : Value) : bindSpecial (.builtin "object.__ne__") self = pure (.builtin "object.__ne__", [self]) := F.cmp_object.ne.bind self
/-- the body of object's own !=: the == of the class, turned -/
theorem objNe_K {Q : Fin → Shared → Prop} (hu : A.units < cLine) (X : K.In s.heap) (I : PySem.W.InstAt s.heap x ox C od) (hs : PySem.W.findIn K (.ref C) "__eq__" = some (some (.ref f))) (hf : PySem.W.isFn K (.ref f) = true)
    (hcall : wpAny (model prog w) A (call (.ref f) [.ref x, b]) (fun v s' => ∃ c, v = .bool c ∧ Q (.done (.ret (.bool (!c)))) s') E s) : wpAny (model prog w) A (Builtin.«object.__ne__» ⟨[.ref x, b], []⟩) Q E s := by
  obtain ⟨hh, g, d, t, os⟩ := s
  unfold Builtin.«object.__ne__»
  repeat (first
    | with_reducible refine wpAny_cRoomFor hu ?_
    | (refine wpAny_bind (m := callSpecialIfBound? (.ref x) (Str.ofString "__eq__") [b])
        (PySem.W.ifBound_K X I hs hf (wpAny_mono hcall (fun r s' hr => by
          obtain ⟨b, rfl, hq⟩ := hr
          repeat (first | exact hq | exact wpAny_pure hq | exact wpAny_truthy_bool hq | (refine wpAny_bind (m := truthy (.bool _)) (wpAny_truthy_bool ?_)) | wp_step)) fun _ _ e => e)))
    | wp_step)
theorem ne_K {Q : Value → Shared → Prop} (hu : A.units + 1 < cLine) (F' : Fr h₀ L s.heap m) (X₀ : K.In h₀) (I : PySem.W.InstAt s.heap x ox C od) (hb : PySem.W.Looks (model prog w) s.heap (typeOf b) tb) (hn : PySem.W.notFirst K C tb = true)
    (hne : PySem.W.findIn K (.ref C) "__ne__" = some (some (.builtin "object.__ne__"))) (hm : PySem.W.mroIn K C (.type "object") = some true)
    (hs : PySem.W.findIn K (.ref C) "__eq__" = some (some (.ref f))) (hf : PySem.W.isFn K (.ref f) = true)
    (h : wpAny (model prog w) A.in1 (call (.ref f) [.ref x, b]) (fun v s' => ∃ c, v = .bool c ∧ Q (.bool (!c)) s') E s) : wpAny (model prog w) A (richCompare .NotEq (.ref x) b) Q E s := by
  have X := X₀.keeps F'.keep
  have ii : PySem.W.Looks (model prog w) s.heap (isInstance (.ref x) (.type "object")) true := I.type.andThen (PySem.W.looks_mroIn X hm)
  have one : wpAny (model prog w) A (tryCompare (.ref x) (cmpInfo .NotEq).2.1 b) (fun r s' => ∃ v, r = some v ∧ Q v s') E s := by
    unfold tryCompare
    refine wpAny_bind (ifBound_B X I hne one_bind (wpAny_call (codeAny_call_builtin F.cmp_object.ne.plain F.cmpEntry_ne
      (@PySem.W.check_slot (model prog w) _ _ s "object.__ne__" "object" "__ne__" (.ref x) [b] [] _ F.cmpKind_ne F.cmpSplit_ne ii (F.cmpArgs_ne _ _)
        (objNe_K (A := A.in1) (by exact Nat.lt_of_le_of_lt (Nat.le_refl _) hu) X I hs hf (wpAny_mono h (fun v s' hv => ?_) fun _ _ e => e))))))
    obtain ⟨c, rfl, hq⟩ := hv
    first | exact ⟨c, rfl, wpAny_pure ⟨_, rfl, hq⟩⟩ | exact ⟨c, rfl, _, rfl, wpAny_pure ⟨_, rfl, hq⟩⟩
  unfold richCompare
  simp only [oneThing_ref]
  refine wpAny_holding (wpAny_bind (wpAny_cRoomFor (Nat.lt_of_succ_lt hu) ?_))
  refine wpAny_bind (I.type.here (wpAny_bind (hb.here ?_)))
  split
  · rename_i q
    have e : PySem.W.subIn K tb (.ref C) = some false := by
      rcases Bool.or_eq_true_iff.mp hn with e | e
      · rw [beq_iff_eq.mp e] at q; simp at q
      · exact beq_iff_eq.mp e
    refine wpAny_bind ((PySem.W.looks_subIn X e).here ?_)
    simp only [Bool.false_eq_true, if_false]
    refine wpAny_bind (wpAny_mono one (fun r s' z => ?_) fun _ _ e => e)
    obtain ⟨v, rfl, hq⟩ := z
    exact wpAny_pure hq
  · refine wpAny_bind (wpAny_pure ?_)
    simp only [Bool.false_eq_true, if_false]
    refine wpAny_bind (wpAny_mono one (fun r s' z => ?_) fun _ _ e => e)
    obtain ⟨v, rfl, hq⟩ := z
    exact wpAny_pure hq
end
/-- what may stand at the right -/
inductive RhsT (H : Hp) : V → Value → Prop
  | ins {b C' dy : Addr} {gs : List (Str × V)} (h : H b = some (.ins C' dy gs)) : RhsT H (.ref b) (.ref C')
  | dT {b : Addr} {kvs : List (List Key × V)} (h : Rd H b (.dT kvs)) : RhsT H (.ref b) (.type "dict")
  | dK {b : Addr} {kvs : List (Key × V)} (h : Rd H b (.dK kvs)) : RhsT H (.ref b) (.type "dict")
section
variable {X : Cx} {CX : CXT} {pins : List (Addr × Obj)} {σ : L2.St} {H : Hp} {s : Shared} {C f : Addr} {fd : FuncData} {ps : List Str} {n : Nat} {sp : Sp} {E : XK}
theorem rhs_looks {y : V} {t u : Value} (I : Inv X pins σ H s) (r : RhsT H y t) (ry : RelV y u) : PySem.W.Looks (model X.prog X.w) s.heap (typeOf u) t := by
  have tp : ∀ {b : Addr}, s.TypeIs (.ref b) "dict" → PySem.W.Looks (model X.prog X.w) s.heap (typeOf (.ref b)) (.type "dict") := fun h => by
    obtain ⟨o, e, c⟩ := h
    exact c ▸ (PySem.W.Looks.ld e).andThen .now
  cases r with
  | @ins b C' dy gs h =>
    cases (show u = Value.ref b from ry)
    obtain ⟨mB, J', _⟩ := ins_get I.hok h
    obtain ⟨od', J', _⟩ := J'.look
    exact J'.type
  | @dT b kvs h =>
    cases (show u = Value.ref b from ry)
    obtain ⟨_, _, xs, _, dd⟩ := dt_rd I.hok h
    exact tp dd.typeIs
  | @dK b kvs h =>
    cases (show u = Value.ref b from ry)
    obtain ⟨_, _, vs, _, dd⟩ := dk_rd I.hok h
    exact tp dd.typeIs
/-- x == y and x != y by x's own == -/
def rEqI (K : PySem.W.Frag) (C : Addr) (sp : Sp) (E : XK) : R2 := fun x y H Q => ∃ a dx fs t, x = .ref a ∧ H a = some (.ins C dx fs) ∧ RhsT H y t ∧ PySem.W.notFirst K C t = true ∧ sp [x, y] H (fun v H' => ∃ c, v = .bl c ∧ Q (.bl c) H') E
def rNeI (K : PySem.W.Frag) (C : Addr) (sp : Sp) (E : XK) : R2 := fun x y H Q => ∃ a dx fs t, x = .ref a ∧ H a = some (.ins C dx fs) ∧ RhsT H y t ∧ PySem.W.notFirst K C t = true ∧ sp [x, y] H (fun v H' => ∃ c, v = .bl c ∧ Q (.bl (!c)) H') E
theorem run_own {A : Around} {u1 u2 : Value} {v1 v2 : V} {Q : VK} (F : FnOk X.prog X.w X.K X.mg X.base CX n f fd ps sp) (hb : Binds X.K fd ps []) (hx : Passes CX X E) (hr : Room n A) (e0 : Env0 X.prog X.w X.K X.mg X.base A X.stack s H) (I : Inv X pins σ H s) (r1 : RelV v1 u1) (r2 : RelV v2 u2) (h : sp [v1, v2] H Q E) :
    wpAny (model X.prog X.w) A (call (.ref f) [u1, u2]) (EP X pins σ Q) X.xe s := by
  have hl := F.len _ _ _ _ h
  have rs : Vals [v1, v2] [u1, u2] := .cons r1 (.cons r2 .nil)
  refine wpAny_call (codeAny_mono (F.run A X.stack s H ⟨[u1, u2], []⟩ [u1, u2] [v1, v2] Q E hr e0 (by
    have := hb s [u1, u2] I.kIn (by simpa using hl)
    simpa using this) rs h) fun r s' hq => ?_)
  cases r with
  | error e => exact hx pins σ H s e s' I hq
  | ok fl =>
    cases fl with
    | ret w => exact I.after hq
    | next => exact False.elim hq
    | brk => exact False.elim hq
    | cont => exact False.elim hq
theorem op_eqI (F : FnOk X.prog X.w X.K X.mg X.base CX n f fd ps sp) (hb : Binds X.K fd ps []) (hx : Passes CX X E) (hs : PySem.W.findIn X.K (.ref C) "__eq__" = some (some (.ref f))) (hf : PySem.W.isFn X.K (.ref f) = true) (hr : Room n X.A) : OpR X (compareOp .Eq) (rEqI X.K C sp E) := by
  intro pins s σ H x y v u Q I rx ry h
  obtain ⟨a, dx, fs, t, rfl, ha, rt, hn, q⟩ := h
  cases (show v = Value.ref a from rx)
  obtain ⟨mA, J, _⟩ := ins_get I.hok ha
  obtain ⟨od, J, _⟩ := J.look
  obtain ⟨m, hF⟩ := I.fr
  show wpAny _ _ (richCompare .Eq (.ref a) u) _ _ s
  refine PySem.W.cmp_K (op := .Eq) hr.units0 hF I.ok.mod.kin J (rhs_looks I rt ry) hn hs hf ?_
  refine wpAny_mono (run_own (v1 := .ref a) F hb hx hr I.env0 I rfl ry q) (fun w s' z => ?_) fun _ _ x => x
  obtain ⟨z', H', I', rz, c, ec, qz⟩ := z
  subst ec
  cases (show w = Value.bool c from rz)
  exact ⟨.bl c, H', I', rfl, qz⟩
theorem op_neI (F : FnOk X.prog X.w X.K X.mg X.base CX n f fd ps sp) (hb : Binds X.K fd ps []) (hx : Passes CX X E) (hs : PySem.W.findIn X.K (.ref C) "__eq__" = some (some (.ref f))) (hf : PySem.W.isFn X.K (.ref f) = true)
    (hne : PySem.W.findIn X.K (.ref C) "__ne__" = some (some (.builtin "object.__ne__"))) (hm : PySem.W.mroIn X.K C (.type "object") = some true) (hr : Room (n + 1) X.A) : OpR X (compareOp .NotEq) (rNeI X.K C sp E) := by
  intro pins s σ H x y v u Q I rx ry h
  obtain ⟨a, dx, fs, t, rfl, ha, rt, hn, q⟩ := h
  cases (show v = Value.ref a from rx)
  obtain ⟨mA, J, _⟩ := ins_get I.hok ha
  obtain ⟨od, J, _⟩ := J.look
  obtain ⟨m, hF⟩ := I.fr
  show wpAny _ _ (richCompare .NotEq (.ref a) u) _ _ s
  refine ne_K hr.in1.units0 hF I.ok.mod.kin J (rhs_looks I rt ry) hn hne hm hs hf ?_
  refine wpAny_mono (run_own (v1 := .ref a) F hb hx hr.in1 I.env0.in1 I rfl ry q) (fun w s' z => ?_) fun _ _ x => x
  obtain ⟨z', H', I', rz, c, ec, qz⟩ := z
  subst ec
  cases (show w = Value.bool c from rz)
  exact ⟨c, rfl, .bl (!c), H', I', rfl, qz⟩
end
end ClX
end

section
set_option maxRecDepth 100000
set_option maxHeartbeats 2000000
namespace P2
open PySem L2 ClX
section
variable {P : Program} {w : World} {K : PySem.W.Frag} {mg : Str → Option Value} {base : Heap} {bp C B M N : Addr}
/-- whether two polynomials are equal, as their == tells -/
def sameP (p n : Int) (ts : List (List Int × Int)) (p2 n2 : Int) (ts2 : List (List Int × Int)) : Bool := if p = p2 ∧ n = n2 then sameT (rK ts) (rK ts2) else false
def spPolyEq (C : Addr) : Sp := fun vs H Q _ => ∃ a y p n ts, vs = [.ref a, y] ∧ PolyAt H C a p n ts ∧ ((∃ b kvs, y = .ref b ∧ H b = some (.dT kvs) ∧ Q (.bl false) H) ∨ ∃ b p2 n2 ts2, y = .ref b ∧ PolyAt H C b p2 n2 ts2 ∧ Q (.bl (sameP p n ts p2 n2 ts2)) H)
theorem rK_int (ts : List (List Int × Int)) : ∀ q ∈ rK ts, intV q.2 = true := fun q hq => by
  obtain ⟨r, _, rfl⟩ := List.mem_map.mp hq
  rfl
end
end P2
end

section
namespace P2
section
variable {κ μ : Type} [DecidableEq κ] [DecidableEq μ]
/-- the sum of numbers times what φ says of their keys -/
def pr (m : List (κ × Int)) (φ : κ → Int) : Int := (m.map fun q => q.2 * φ q.1).sum
def cf (m : List (κ × Int)) (k : κ) : Int := (getA m k).getD 0
omit [DecidableEq κ] in
theorem pr_nil (φ : κ → Int) : pr [] φ = 0 := rfl
omit [DecidableEq κ] in
theorem pr_cons (q : κ × Int) (m : List (κ × Int)) (φ : κ → Int) : pr (q :: m) φ = q.2 * φ q.1 + pr m φ := by simp [pr]
omit [DecidableEq κ] in
theorem pr_app (m n : List (κ × Int)) (φ : κ → Int) : pr (m ++ n) φ = pr m φ + pr n φ := by simp [pr]
omit [DecidableEq κ] in
theorem pr_congr {φ ψ : κ → Int} : ∀ {m : List (κ × Int)}, (∀ q ∈ m, φ q.1 = ψ q.1) → pr m φ = pr m ψ
  | [], _ => rfl
  | q :: m, h => by rw [pr_cons, pr_cons, h q List.mem_cons_self, pr_congr fun q hq => h q (List.mem_cons_of_mem _ hq)]
omit [DecidableEq κ] [DecidableEq μ] in
theorem pr_map (f : κ → μ) (φ : μ → Int) : ∀ m : List (κ × Int), pr (m.map fun q => (f q.1, q.2)) φ = pr m fun x => φ (f x)
  | [] => rfl
  | q :: m => by rw [List.map_cons, pr_cons, pr_cons, pr_map f φ m]
omit [DecidableEq κ] in
theorem pr_mul (c : Int) (φ : κ → Int) : ∀ m : List (κ × Int), pr m (fun x => c * φ x) = c * pr m φ
  | [] => by rw [pr_nil, pr_nil]; omega
  | q :: m => by rw [pr_cons, pr_cons, pr_mul c φ m, Int.mul_add, Int.mul_left_comm]
omit [DecidableEq κ] in
theorem pr_add (φ ψ : κ → Int) : ∀ m : List (κ × Int), pr m (fun x => φ x + ψ x) = pr m φ + pr m ψ
  | [] => rfl
  | q :: m => by
    rw [pr_cons, pr_cons, pr_cons, pr_add φ ψ m, Int.mul_add]
    omega
omit [DecidableEq κ] in
theorem pr_zero : ∀ m : List (κ × Int), pr m (fun _ => 0) = 0
  | [] => rfl
  | q :: m => by rw [pr_cons, pr_zero m]; omega
omit [DecidableEq κ] [DecidableEq μ] in
theorem pr_swap (F : κ → μ → Int) (n : List (μ × Int)) : ∀ m : List (κ × Int), pr m (fun x => pr n (F x)) = pr n fun y => pr m fun x => F x y
  | [] => by
    show 0 = pr n fun y => 0
    rw [pr_zero]
  | q :: m => by
    rw [pr_cons, pr_swap F n m, ← pr_mul, ← pr_add]
    exact pr_congr fun y _ => by rw [pr_cons]
omit [DecidableEq κ] in
theorem pr_scale (c : Int) (φ : κ → Int) : ∀ m : List (κ × Int), pr (m.map fun q => (q.1, q.2 * c)) φ = c * pr m φ
  | [] => by
    show (0 : Int) = c * 0
    omega
  | q :: m => by
    rw [List.map_cons, pr_cons, pr_cons, pr_scale c φ m, Int.mul_add, Int.mul_comm q.2 c, Int.mul_assoc]
theorem putA_ne {q : κ × Int} {m : List (κ × Int)} {k : κ} {v : Int} (h : q.1 ≠ k) : putA (q :: m) k v = q :: putA m k v := by
  unfold putA
  rw [List.any_cons, decide_eq_false h, Bool.false_or]
  by_cases z : (m.any fun p => decide (p.1 = k)) = true
  · rw [if_pos z, if_pos z, List.map_cons, if_neg h]
  · rw [if_neg z, if_neg z, List.cons_append]
theorem putA_eq {q : κ × Int} {m : List (κ × Int)} {k : κ} {v : Int} (h : q.1 = k) (hk : k ∉ m.map (·.1)) : putA (q :: m) k v = (k, v) :: m := by
  unfold putA
  rw [List.any_cons, decide_eq_true h, Bool.true_or, if_pos rfl, List.map_cons, if_pos h, h]
  congr 1
  have e : m.map (fun p => if p.1 = k then (p.1, v) else p) = m.map id := List.map_congr_left fun p hp => by
    rw [if_neg]
    · rfl
    · intro z
      exact hk (List.mem_map.mpr ⟨p, hp, z⟩)
  rw [e, List.map_id]
theorem cf_cons (q : κ × Int) (m : List (κ × Int)) (k : κ) : cf (q :: m) k = if q.1 = k then q.2 else cf m k := by
  unfold cf getA
  rw [List.find?_cons]
  by_cases h : q.1 = k
  · rw [decide_eq_true h, if_pos h]
    rfl
  · rw [decide_eq_false h, if_neg h]
theorem cf_out : ∀ {m : List (κ × Int)} {k : κ}, k ∉ m.map (·.1) → cf m k = 0
  | [], _, _ => rfl
  | q :: m, k, h => by
    rw [cf_cons, if_neg, cf_out]
    · exact fun z => h (List.mem_cons_of_mem _ z)
    · intro z
      exact h (List.mem_map.mpr ⟨q, List.mem_cons_self, z⟩)
theorem pr_put (φ : κ → Int) (k : κ) (v : Int) : ∀ {m : List (κ × Int)}, (m.map (·.1)).Nodup → pr (putA m k v) φ = pr m φ + (v - cf m k) * φ k
  | [], _ => by
    show v * φ k + 0 = 0 + (v - 0) * φ k
    rw [Int.sub_zero]
    omega
  | q :: m, h => by
    rw [List.map_cons, List.nodup_cons] at h
    rw [cf_cons]
    by_cases z : q.1 = k
    · rw [putA_eq z (by rw [← z]; exact h.1), if_pos z, pr_cons, pr_cons, z]
      show v * φ k + _ = _
      rw [Int.sub_mul]
      omega
    · rw [putA_ne z, if_neg z, pr_cons, pr_cons, pr_put φ k v h.2]
      omega
theorem nodup_add {m : List (κ × Int)} (h : (m.map (·.1)).Nodup) (k : κ) (v : Int) : ((addA m k v).map (·.1)).Nodup := nodup_put h _ _
theorem pr_addA (φ : κ → Int) (k : κ) (v : Int) {m : List (κ × Int)} (h : (m.map (·.1)).Nodup) : pr (addA m k v) φ = pr m φ + v * φ k := by
  unfold addA
  rw [pr_put φ k _ h]
  unfold cf
  rw [show (getA m k).getD 0 + v - (getA m k).getD 0 = v by omega]
theorem pr_fold {α : Type} (g : α → κ × Int) (φ : κ → Int) : ∀ (xs : List α) {m : List (κ × Int)}, (m.map (·.1)).Nodup → pr (xs.foldl (fun m x => addA m (g x).1 (g x).2) m) φ = pr m φ + pr (xs.map g) φ
  | [], m, _ => by
    show pr m φ = pr m φ + 0
    omega
  | x :: xs, m, h => by
    rw [List.foldl_cons, pr_fold g φ xs (nodup_add h _ _), pr_addA φ _ _ h, List.map_cons, pr_cons]
    omega
theorem nodup_addF {α : Type} (g : α → κ × Int) (xs : List α) {m : List (κ × Int)} (h : (m.map (·.1)).Nodup) : ((xs.foldl (fun m x => addA m (g x).1 (g x).2) m).map (·.1)).Nodup := nodup_fold (fun _ _ h => nodup_add h _ _) xs m h
theorem cf_pr (k : κ) : ∀ {m : List (κ × Int)}, (m.map (·.1)).Nodup → cf m k = pr m fun x => if x = k then 1 else 0
  | [], _ => rfl
  | q :: m, h => by
    rw [List.map_cons, List.nodup_cons] at h
    rw [cf_cons, pr_cons, ← cf_pr k h.2]
    by_cases z : q.1 = k
    · rw [if_pos z, if_pos z, cf_out (by rw [← z]; exact h.1)]
      omega
    · rw [if_neg z, if_neg z]
      omega
/-- nodup folds are maps -/
theorem foldA_snoc {α : Type} (g : α → κ × Int) : ∀ (xs : List α) (m : List (κ × Int)), ((m.map (·.1)) ++ xs.map fun x => (g x).1).Nodup → xs.foldl (fun m x => putA m (g x).1 (g x).2) m = m ++ xs.map g
  | [], m, _ => by simp
  | x :: xs, m, h => by
    have h1 : (g x).1 ∉ m.map (·.1) := fun z => by
      have := (List.nodup_append.mp h).2.2 _ z (g x).1 (by simp)
      exact this rfl
    rw [List.foldl_cons, putA_end h1, foldA_snoc g xs _ (by simpa [List.append_assoc] using h), List.map_cons, List.append_assoc]
    rfl
theorem foldA_is {α : Type} (g : α → κ × Int) {xs : List α} (h : (xs.map fun x => (g x).1).Nodup) : foldA g xs = xs.map g := by
  unfold foldA
  rw [foldA_snoc g xs [] (by simpa using h)]
  rfl
theorem foldI_snoc2 {α : Type} (g : α → Option (κ × Int)) : ∀ (xs : List α) (m : List (κ × Int)), ((m.map (·.1)) ++ (xs.filterMap g).map (·.1)).Nodup → xs.foldl (fun m x => match g x with | some p => putA m p.1 p.2 | none => m) m = m ++ xs.filterMap g
  | [], m, _ => by simp
  | x :: xs, m, h => by
    rw [List.foldl_cons]
    cases e : g x with
    | none =>
      rw [List.filterMap_cons_none e] at h ⊢
      exact foldI_snoc2 g xs m h
    | some p =>
      rw [List.filterMap_cons_some e] at h ⊢
      have h1 : p.1 ∉ m.map (·.1) := fun z => by
        have := (List.nodup_append.mp h).2.2 _ z p.1 (by simp)
        exact this rfl
      show xs.foldl _ (putA m p.1 p.2) = _
      rw [putA_end h1, foldI_snoc2 g xs _ (by simpa [List.append_assoc] using h), List.append_assoc]
      rfl
theorem foldI_is {α : Type} (g : α → Option (κ × Int)) {xs : List α} (h : ((xs.filterMap g).map (·.1)).Nodup) : foldI g xs = xs.filterMap g := by
  have z := foldI_snoc2 g xs [] (by simpa using h)
  rw [List.nil_append] at z
  exact z
end
/-- alike modulo p -/
def Eqm (p : Int) (a b : Int) : Prop := ∃ z, a - b = p * z
theorem Eqm.rfl {p a : Int} : Eqm p a a := ⟨0, by omega⟩
theorem Eqm.of {p a b : Int} (h : a = b) : Eqm p a b := h ▸ .rfl
theorem Eqm.symm {p a b : Int} (h : Eqm p a b) : Eqm p b a := let ⟨z, e⟩ := h; ⟨-z, by rw [Int.mul_neg, ← e]; omega⟩
theorem Eqm.trans {p a b c : Int} (h : Eqm p a b) (g : Eqm p b c) : Eqm p a c := let ⟨z, e⟩ := h; let ⟨y, d⟩ := g; ⟨z + y, by rw [Int.mul_add, ← e, ← d]; omega⟩
theorem Eqm.add {p a b c d : Int} (h : Eqm p a b) (g : Eqm p c d) : Eqm p (a + c) (b + d) := let ⟨z, e⟩ := h; let ⟨y, f⟩ := g; ⟨z + y, by rw [Int.mul_add, ← e, ← f]; omega⟩
theorem Eqm.mul {p a b : Int} (c : Int) (h : Eqm p a b) : Eqm p (c * a) (c * b) := let ⟨z, e⟩ := h; ⟨c * z, by rw [← Int.mul_sub, e, Int.mul_left_comm]⟩
theorem Eqm.mod {p a : Int} : Eqm p (a % p) a := ⟨-(a / p), by
  have := Int.mul_ediv_add_emod a p
  rw [Int.mul_neg]
  omega⟩
theorem Eqm.emod {p a b : Int} (h : Eqm p a b) : a % p = b % p := let ⟨z, e⟩ := h; by
  have : a = b + p * z := by omega
  rw [this, Int.add_mul_emod_self_left]
section
variable {κ μ : Type} [DecidableEq κ] [DecidableEq μ]
/-- two lists of terms that are alike modulo p -/
def Eqp (p : Int) (m n : List (κ × Int)) : Prop := ∀ φ : κ → Int, Eqm p (pr m φ) (pr n φ)
omit [DecidableEq κ] in
theorem Eqp.rfl {p : Int} {m : List (κ × Int)} : Eqp p m m := fun _ => .rfl
omit [DecidableEq κ] in
theorem Eqp.symm {p : Int} {m n : List (κ × Int)} (h : Eqp p m n) : Eqp p n m := fun φ => (h φ).symm
omit [DecidableEq κ] in
theorem Eqp.trans {p : Int} {m n l : List (κ × Int)} (h : Eqp p m n) (g : Eqp p n l) : Eqp p m l := fun φ => (h φ).trans (g φ)
omit [DecidableEq κ] in
theorem pr_eqm {p : Int} {φ ψ : κ → Int} : ∀ {m : List (κ × Int)}, (∀ q ∈ m, Eqm p (φ q.1) (ψ q.1)) → Eqm p (pr m φ) (pr m ψ)
  | [], _ => .rfl
  | q :: m, h => by
    rw [pr_cons, pr_cons]
    exact (Eqm.mul q.2 (h q List.mem_cons_self)).add (pr_eqm fun q hq => h q (List.mem_cons_of_mem _ hq))
omit [DecidableEq κ] in
theorem eqp_filter (p : Int) : ∀ m : List (κ × Int), Eqp p (m.filterMap fun q => if q.2 % p = 0 then none else some (q.1, q.2 % p)) m
  | [] => .rfl
  | q :: m => fun φ => by
    by_cases h : q.2 % p = 0
    · rw [List.filterMap_cons_none (by rw [if_pos h]), pr_cons]
      have e : Eqm p 0 (q.2 * φ q.1) := by
        have z := (Eqm.mod (p := p) (a := q.2)).mul (φ q.1)
        rw [h, Int.mul_zero, Int.mul_comm] at z
        exact z
      have y := e.add (eqp_filter p m φ)
      rw [Int.zero_add] at y
      exact y
    · rw [List.filterMap_cons_some (b := (q.1, q.2 % p)) (by rw [if_neg h]), pr_cons, pr_cons]
      refine Eqm.add ?_ (eqp_filter p m φ)
      have z := (Eqm.mod (p := p) (a := q.2)).mul (φ q.1)
      rw [Int.mul_comm, Int.mul_comm (φ q.1)] at z
      exact z
theorem nodup_filter (p : Int) {m : List (κ × Int)} (h : (m.map (·.1)).Nodup) : ((m.filterMap fun q => if q.2 % p = 0 then none else some (q.1, q.2 % p)).map (·.1)).Nodup := by
  induction m with
  | nil => exact h
  | cons q m ih =>
    rw [List.map_cons, List.nodup_cons] at h
    by_cases z : q.2 % p = 0
    · rw [List.filterMap_cons_none (by rw [if_pos z])]
      exact ih h.2
    · rw [List.filterMap_cons_some (b := (q.1, q.2 % p)) (by rw [if_neg z]), List.map_cons, List.nodup_cons]
      refine ⟨fun y => ?_, ih h.2⟩
      obtain ⟨u, hu, eu⟩ := List.mem_map.mp y
      obtain ⟨v, hv, ev⟩ := List.mem_filterMap.mp hu
      by_cases t : v.2 % p = 0
      · rw [if_pos t] at ev
        cases ev
      · rw [if_neg t] at ev
        cases ev
        exact h.1 (List.mem_map.mpr ⟨v, hv, eu⟩)
end
end P2
namespace P2
section
variable {κ μ : Type} [DecidableEq κ] [DecidableEq μ]
/-- all keys are so -/
def Keys (Φ : κ → Prop) (m : List (κ × Int)) : Prop := ∀ q ∈ m, Φ q.1
theorem keys_put {Φ : κ → Prop} {m : List (κ × Int)} (h : Keys Φ m) {k : κ} (hk : Φ k) (v : Int) : Keys Φ (putA m k v) := by
  intro q hq
  unfold putA at hq
  by_cases z : (m.any fun p => decide (p.1 = k)) = true
  · rw [if_pos z] at hq
    obtain ⟨p, hp, e⟩ := List.mem_map.mp hq
    by_cases y : p.1 = k
    · rw [if_pos y] at e
      rw [← e]
      exact h p hp
    · rw [if_neg y] at e
      rw [← e]
      exact h p hp
  · rw [if_neg z] at hq
    rcases List.mem_append.mp hq with hq | hq
    · exact h q hq
    · rw [List.mem_singleton.mp hq]
      exact hk
theorem keys_addF {α : Type} {Φ : κ → Prop} (g : α → κ × Int) : ∀ (xs : List α) {m : List (κ × Int)}, Keys Φ m → (∀ x ∈ xs, Φ (g x).1) → Keys Φ (xs.foldl (fun m x => addA m (g x).1 (g x).2) m)
  | [], _, h, _ => h
  | x :: xs, m, h, hg => keys_addF g xs (keys_put h (hg x List.mem_cons_self) _) fun y hy => hg y (List.mem_cons_of_mem _ hy)
end
theorem wz_is (p : Int) {m : List (Int × Int)} (h : (m.map (·.1)).Nodup) : withoutZ p m = m.filterMap fun q => if q.2 % p = 0 then none else some (q.1, q.2 % p) := foldI_is _ (nodup_filter p h)
theorem wz_eqp (p : Int) {m : List (Int × Int)} (h : (m.map (·.1)).Nodup) : Eqp p (withoutZ p m) m := by
  rw [wz_is p h]
  exact eqp_filter p m
theorem wz_nd (p : Int) (m : List (Int × Int)) : ((withoutZ p m).map (·.1)).Nodup := nodup_foldI _ _
theorem wz_keys {p : Int} {Φ : Int → Prop} {m : List (Int × Int)} (h : (m.map (·.1)).Nodup) (k : Keys Φ m) : Keys Φ (withoutZ p m) := by
  rw [wz_is p h]
  intro q hq
  obtain ⟨v, hv, ev⟩ := List.mem_filterMap.mp hq
  by_cases t : v.2 % p = 0
  · rw [if_pos t] at ev
    cases ev
  · rw [if_neg t] at ev
    cases ev
    exact k v hv
theorem self_foldA {m : List (Int × Int)} (h : (m.map (·.1)).Nodup) : foldA (fun q : Int × Int => (q.1, q.2)) m = m := by
  rw [foldA_is _ h, show (fun q : Int × Int => (q.1, q.2)) = id from rfl, List.map_id]
theorem sumP_eqp (p : Int) {m n : List (Int × Int)} (h : (m.map (·.1)).Nodup) : Eqp p (sumP p m n) (m ++ n) := by
  unfold sumP
  rw [self_foldA h]
  refine (wz_eqp p (nodup_addF (fun q => q) n h)).trans fun φ => .of ?_
  rw [pr_fold (fun q => q) φ n h, pr_app, List.map_id']
theorem sumP_nd (p : Int) (m n : List (Int × Int)) : ((sumP p m n).map (·.1)).Nodup := wz_nd p _
theorem sumP_keys {p : Int} {Φ : Int → Prop} {m n : List (Int × Int)} (h : (m.map (·.1)).Nodup) (k1 : Keys Φ m) (k2 : Keys Φ n) : Keys Φ (sumP p m n) := by
  unfold sumP
  rw [self_foldA h]
  exact wz_keys (nodup_addF (fun q => q) n h) (keys_addF (fun q => q) n k1 k2)
theorem rowP_nd (f : Int × Int) (my : List (Int × Int)) {m : List (Int × Int)} (h : (m.map (·.1)).Nodup) : ((rowP f my m).map (·.1)).Nodup := nodup_addF (fun g : Int × Int => (g.1 + f.1, g.2 * f.2)) my h
theorem rowP_pr (f : Int × Int) (my : List (Int × Int)) {m : List (Int × Int)} (h : (m.map (·.1)).Nodup) (φ : Int → Int) : pr (rowP f my m) φ = pr m φ + f.2 * pr my fun y => φ (y + f.1) := by
  unfold rowP
  rw [pr_fold (fun g : Int × Int => (g.1 + f.1, g.2 * f.2)) φ my h]
  congr 1
  clear h
  induction my with
  | nil =>
    show (0 : Int) = f.2 * 0
    omega
  | cons g my ih => rw [List.map_cons, pr_cons, pr_cons, ih, Int.mul_add, Int.mul_comm g.2, Int.mul_assoc]
theorem prodF_pr (my : List (Int × Int)) (φ : Int → Int) : ∀ (mx : List (Int × Int)) {m : List (Int × Int)}, (m.map (·.1)).Nodup → pr (mx.foldl (fun m f => rowP f my m) m) φ = pr m φ + pr mx fun x => pr my fun y => φ (y + x)
  | [], m, _ => by
    show pr m φ = pr m φ + 0
    omega
  | f :: mx, m, h => by
    rw [List.foldl_cons, prodF_pr my φ mx (rowP_nd f my h), rowP_pr f my h, pr_cons]
    omega
theorem prodF_nd (my : List (Int × Int)) : ∀ (mx : List (Int × Int)) {m : List (Int × Int)}, (m.map (·.1)).Nodup → ((mx.foldl (fun m f => rowP f my m) m).map (·.1)).Nodup
  | [], _, h => h
  | f :: mx, _, h => prodF_nd my mx (rowP_nd f my h)
theorem prodF_keys {Φ : Int → Prop} (my : List (Int × Int)) : ∀ (mx : List (Int × Int)) {m : List (Int × Int)}, Keys Φ m → (∀ x ∈ mx, ∀ y ∈ my, Φ (y.1 + x.1)) → Keys Φ (mx.foldl (fun m f => rowP f my m) m)
  | [], _, h, _ => h
  | f :: mx, _, h, g => prodF_keys my mx (keys_addF (fun g : Int × Int => (g.1 + f.1, g.2 * f.2)) my h (g f List.mem_cons_self)) fun x hx => g x (List.mem_cons_of_mem _ hx)
theorem prodL_pr (mx my : List (Int × Int)) (φ : Int → Int) : pr (prodL mx my) φ = pr mx fun x => pr my fun y => φ (y + x) := by
  have z := prodF_pr my φ mx (m := []) List.nodup_nil
  rw [pr_nil, Int.zero_add] at z
  exact z
theorem prodL_nd (mx my : List (Int × Int)) : ((prodL mx my).map (·.1)).Nodup := prodF_nd my mx (m := []) List.nodup_nil
theorem prodP_pr (p : Int) (m n : List (Int × Int)) (φ : Int → Int) : Eqm p (pr (prodP p m n) φ) (pr m fun x => pr n fun y => φ (x + y)) := by
  unfold prodP
  by_cases z : m.length < n.length
  · rw [if_pos z]
    refine (wz_eqp p (prodL_nd m n) φ).trans (.of ?_)
    rw [prodL_pr]
    exact pr_congr fun x _ => pr_congr fun y _ => by rw [Int.add_comm]
  · rw [if_neg z]
    refine (wz_eqp p (prodL_nd n m) φ).trans (.of ?_)
    rw [prodL_pr, pr_swap (fun x y => φ (y + x)) m n]
theorem prodP_nd (p : Int) (m n : List (Int × Int)) : ((prodP p m n).map (·.1)).Nodup := wz_nd p _
theorem prodP_keys {p : Int} {Φ : Int → Prop} {m n : List (Int × Int)} (h : ∀ x ∈ m, ∀ y ∈ n, Φ (x.1 + y.1)) : Keys Φ (prodP p m n) := by
  unfold prodP
  by_cases z : m.length < n.length
  · rw [if_pos z]
    exact wz_keys (prodL_nd m n) (prodF_keys n m (fun _ z => nomatch z) fun x hx y hy => by rw [Int.add_comm]; exact h x hx y hy)
  · rw [if_neg z]
    exact wz_keys (prodL_nd n m) (prodF_keys m n (fun _ z => nomatch z) fun x hx y hy => h y hy x hx)
/-- a power, as it acts -/
def pw (f : List (Int × Int)) : Nat → (Int → Int) → Int
  | 0, ψ => ψ 0
  | n + 1, ψ => pr f fun x => pw f n fun y => ψ (x + y)
theorem pw_congr {f : List (Int × Int)} : ∀ {n : Nat} {φ ψ : Int → Int}, (∀ x, φ x = ψ x) → pw f n φ = pw f n ψ
  | 0, _, _, h => h 0
  | n + 1, _, _, h => pr_congr fun x _ => pw_congr fun y => h (x.1 + y)
theorem pw_pr (f : List (Int × Int)) {μ : Type} [DecidableEq μ] (m : List (μ × Int)) : ∀ (n : Nat) (F : Int → μ → Int), pw f n (fun y => pr m (F y)) = pr m fun z => pw f n fun y => F y z
  | 0, _ => rfl
  | n + 1, F => by
    show pr f (fun x => pw f n fun y => pr m (F (x + y))) = pr m fun z => pr f fun x => pw f n fun y => F (x + y) z
    rw [pr_swap (fun z x => pw f n fun y => F (x + y) z) f m]
    exact pr_congr fun x _ => pw_pr f m n fun y => F (x.1 + y)
theorem mulN_pr (p : Int) (f : List (Int × Int)) : ∀ (n : Nat) (t : List (Int × Int)) (φ : Int → Int), Eqm p (pr (mulN p f n t) φ) (pr t fun x => pw f n fun y => φ (x + y))
  | 0, t, φ => .of (pr_congr fun x _ => by
    show φ x.1 = φ (x.1 + 0)
    rw [Int.add_zero])
  | n + 1, t, φ => by
    refine (mulN_pr p f n (prodP p t f) φ).trans ((prodP_pr p t f _).trans (.of (pr_congr fun x _ => pr_congr fun y _ => pw_congr fun z => by rw [Int.add_assoc])))
theorem mulN_nd (p : Int) (f : List (Int × Int)) : ∀ (n : Nat) {t : List (Int × Int)}, (t.map (·.1)).Nodup → ((mulN p f n t).map (·.1)).Nodup
  | 0, _, h => h
  | n + 1, t, _ => mulN_nd p f n (prodP_nd p t f)
/-- sums of so many keys -/
def Sums (f : List (Int × Int)) : Nat → Int → Prop
  | 0, x => x = 0
  | n + 1, x => ∃ q ∈ f, ∃ y, Sums f n y ∧ x = y + q.1
theorem mulN_keys {p : Int} {f : List (Int × Int)} : ∀ {n i : Nat} {t : List (Int × Int)}, Keys (Sums f i) t → Keys (Sums f (i + n)) (mulN p f n t)
  | 0, _, _, h => h
  | n + 1, i, t, h => by
    have z := mulN_keys (p := p) (f := f) (n := n) (i := i + 1) (t := prodP p t f) (prodP_keys fun x hx y hy => ⟨y, hy, x.1, h x hx, rfl⟩)
    rw [show i + 1 + n = i + (n + 1) by omega] at z
    exact z
theorem frob_is {p : Int} (hp : 0 < p) {f : List (Int × Int)} (h : (f.map (·.1)).Nodup) : frob p f = f.map fun q => (q.1 * p, q.2) := by
  refine foldA_is _ ?_
  have e : f.map (fun q : Int × Int => (q.1 * p, q.2).1) = (f.map (·.1)).map (· * p) := by rw [List.map_map]; rfl
  show (f.map fun q : Int × Int => (q.1 * p, q.2).1).Nodup
  rw [e]
  refine List.Pairwise.map _ (fun a b ne e => ne ?_) h
  exact Int.eq_of_mul_eq_mul_right (by omega) e
theorem frob_nd (p : Int) (f : List (Int × Int)) : ((frob p f).map (·.1)).Nodup := nodup_foldA _ _
end P2
end

section
namespace P2
/-- twice modulo 2, three times modulo 3 -/
theorem sq_mod2 (c : Int) : Eqm 2 (c * c) c := by
  obtain h | h : c % 2 = 0 ∨ c % 2 = 1 := by omega
  · obtain ⟨d, rfl⟩ : ∃ d, c = 2 * d := ⟨c / 2, by omega⟩
    exact ⟨d * (2 * d) - d, by rw [Int.mul_sub, Int.mul_assoc]⟩
  · obtain ⟨d, rfl⟩ : ∃ d, c = 2 * d + 1 := ⟨c / 2, by omega⟩
    refine ⟨d * (2 * d) + d, ?_⟩
    rw [Int.mul_add, Int.mul_add, Int.add_mul, Int.mul_assoc]
    omega
theorem cu_mod3 (c : Int) : Eqm 3 (c * (c * c)) c := by
  have e : ∀ d r : Int, Eqm 3 ((3 * d + r) * ((3 * d + r) * (3 * d + r))) (r * (r * r)) := fun d r => by
    have h1 : Eqm 3 (3 * d + r) r := ⟨d, by omega⟩
    have h2 : Eqm 3 ((3 * d + r) * (3 * d + r)) (r * r) := ((h1.mul _).trans (by rw [Int.mul_comm]; exact h1.mul r))
    refine (h2.mul _).trans ?_
    rw [Int.mul_comm]
    have := h1.mul (r * r)
    rw [Int.mul_comm r (r * r)]
    exact this
  obtain h | h | h : c % 3 = 0 ∨ c % 3 = 1 ∨ c % 3 = 2 := by omega
  · have := e (c / 3) 0
    rw [show 3 * (c / 3) + 0 = c by omega] at this
    exact this.trans ⟨-(c / 3), by omega⟩
  · have := e (c / 3) 1
    rw [show 3 * (c / 3) + 1 = c by omega] at this
    exact this.trans ⟨-(c / 3), by omega⟩
  · have := e (c / 3) 2
    rw [show 3 * (c / 3) + 2 = c by omega] at this
    exact this.trans ⟨-(c / 3) + 2, by omega⟩
theorem frob2 (ψ : Int → Int) : ∀ f : List (Int × Int), Eqm 2 (pr f fun x => ψ (x * 2)) (pr f fun x => pr f fun y => ψ (x + y))
  | [] => .rfl
  | q :: f => by
    have e : (pr (q :: f) fun x => pr (q :: f) fun y => ψ (x + y)) = q.2 * q.2 * ψ (q.1 * 2) + 2 * (q.2 * pr f fun y => ψ (q.1 + y)) + pr f fun x => pr f fun y => ψ (x + y) := by
      have e1 : (fun x => pr (q :: f) fun y => ψ (x + y)) = fun x => q.2 * ψ (x + q.1) + pr f fun y => ψ (x + y) := funext fun x => pr_cons _ _ _
      rw [e1, pr_cons, pr_add, pr_mul]
      have e2 : (pr f fun x => ψ (x + q.1)) = pr f fun y => ψ (q.1 + y) := pr_congr fun x _ => by rw [Int.add_comm]
      rw [e2, Int.mul_add, ← Int.mul_assoc, show q.1 + q.1 = q.1 * 2 by omega]
      omega
    rw [e, pr_cons]
    refine Eqm.add ?_ (frob2 ψ f)
    have h := ((sq_mod2 q.2).symm).mul (ψ (q.1 * 2))
    rw [Int.mul_comm, Int.mul_comm _ (q.2 * q.2)] at h
    refine h.trans ⟨-(q.2 * pr f fun y => ψ (q.1 + y)), by omega⟩
theorem frob3 (ψ : Int → Int) : ∀ f : List (Int × Int), Eqm 3 (pr f fun x => ψ (x * 3)) (pr f fun x => pr f fun y => pr f fun z => ψ (x + (y + z)))
  | [] => .rfl
  | q :: f => by
    have e : (pr (q :: f) fun x => pr (q :: f) fun y => pr (q :: f) fun z => ψ (x + (y + z))) = q.2 * (q.2 * q.2) * ψ (q.1 * 3) + 3 * (q.2 * (q.2 * pr f fun y => ψ (q.1 + (q.1 + y))) + q.2 * pr f fun y => pr f fun z => ψ (q.1 + (y + z))) + pr f fun x => pr f fun y => pr f fun z => ψ (x + (y + z)) := by
      have e0 : ∀ x y, (pr (q :: f) fun z => ψ (x + (y + z))) = q.2 * ψ (x + (y + q.1)) + pr f fun z => ψ (x + (y + z)) := fun x y => pr_cons _ _ _
      have e1 : ∀ x, (pr (q :: f) fun y => pr (q :: f) fun z => ψ (x + (y + z))) = q.2 * (q.2 * ψ (x + (q.1 + q.1)) + pr f fun z => ψ (x + (q.1 + z))) + (q.2 * (pr f fun y => ψ (x + (y + q.1))) + pr f fun y => pr f fun z => ψ (x + (y + z))) := fun x => by
        rw [show (fun y => pr (q :: f) fun z => ψ (x + (y + z))) = fun y => q.2 * ψ (x + (y + q.1)) + pr f fun z => ψ (x + (y + z)) from funext fun y => e0 x y, pr_cons, pr_add, pr_mul]
      have e2 : (fun x => pr (q :: f) fun y => pr (q :: f) fun z => ψ (x + (y + z))) = fun x => q.2 * (q.2 * ψ (x + (q.1 + q.1)) + pr f fun z => ψ (x + (q.1 + z))) + (q.2 * (pr f fun y => ψ (x + (y + q.1))) + pr f fun y => pr f fun z => ψ (x + (y + z))) := funext e1
      rw [e2, pr_cons, pr_add, pr_mul, pr_add, pr_mul, pr_add, pr_mul]
      have a1 : (pr f fun x => ψ (x + (q.1 + q.1))) = pr f fun y => ψ (q.1 + (q.1 + y)) := pr_congr fun x _ => by congr 1; omega
      have a2 : (pr f fun x => ψ (q.1 + (x + q.1))) = pr f fun y => ψ (q.1 + (q.1 + y)) := pr_congr fun x _ => by congr 1; omega
      have a3 : (pr f fun x => pr f fun z => ψ (x + (q.1 + z))) = pr f fun y => pr f fun z => ψ (q.1 + (y + z)) := pr_congr fun x _ => pr_congr fun y _ => by congr 1; omega
      have a4 : (pr f fun x => pr f fun z => ψ (x + (z + q.1))) = pr f fun y => pr f fun z => ψ (q.1 + (y + z)) := pr_congr fun x _ => pr_congr fun y _ => by congr 1; omega
      rw [a1, a2, a3, a4, show q.1 + (q.1 + q.1) = q.1 * 3 by omega]
      simp only [Int.mul_add, Int.mul_assoc]
      omega
    rw [e, pr_cons]
    refine Eqm.add ?_ (frob3 ψ f)
    have h := ((cu_mod3 q.2).symm).mul (ψ (q.1 * 3))
    rw [Int.mul_comm, Int.mul_comm _ (q.2 * (q.2 * q.2))] at h
    refine h.trans ⟨-(q.2 * (q.2 * pr f fun y => ψ (q.1 + (q.1 + y))) + q.2 * pr f fun y => pr f fun z => ψ (q.1 + (y + z))), by omega⟩
end P2
namespace P2
theorem pr_one (ψ : Int → Int) : pr [((0 : Int), (1 : Int))] ψ = ψ 0 := by
  rw [pr_cons, pr_nil]
  show 1 * ψ 0 + 0 = ψ 0
  omega
theorem pw_one (f : List (Int × Int)) (ψ : Int → Int) : pw f 1 ψ = pr f ψ := pr_congr fun x _ => by
  show ψ (x.1 + 0) = ψ x.1
  rw [Int.add_zero]
theorem mulN_one (p : Int) (f : List (Int × Int)) (n : Nat) (φ : Int → Int) : Eqm p (pr (mulN p f n [(0, 1)]) φ) (pw f n φ) := by
  refine (mulN_pr p f n _ φ).trans (.of ?_)
  rw [pr_one]
  exact pw_congr fun x => by rw [Int.zero_add]
theorem frob_pr {p : Int} (hp : 0 < p) {f : List (Int × Int)} (h : (f.map (·.1)).Nodup) (ψ : Int → Int) : pr (frob p f) ψ = pr f fun x => ψ (x * p) := by
  rw [frob_is hp h]
  exact pr_map (fun x => x * p) ψ f
/-- p times one after the other -/
theorem pow_step (p : Int) (n : Nat) (t f : List (Int × Int)) (l : Int) : powF p (n + 1) t f l = if 0 < l then (if 0 < l / p then powF p n (mulN p f (l % p).toNat t) (frob p f) (l / p) else mulN p f (l % p).toNat t) else t := rfl
theorem okp_step (p : Int) (n : Nat) (t f : List (Int × Int)) (l : Int) : OkPow p (n + 1) t f l = (0 < l → OkMul p f (l % p).toNat t ∧ (0 < l / p → OkPow p n (mulN p f (l % p).toNat t) (frob p f) (l / p))) := rfl
theorem powF_low {p : Int} {n : Nat} {f t : List (Int × Int)} (h : (n : Int) < p) (h0 : 0 < n) : powF p n t f n = mulN p f n t := by
  obtain ⟨m, rfl⟩ : ∃ m, n = m + 1 := ⟨n - 1, by omega⟩
  rw [pow_step, if_pos (by omega), Int.ediv_eq_zero_of_lt (by omega) h, if_neg (by omega), Int.emod_eq_of_lt (by omega) h, Int.toNat_natCast]
theorem okPow_low {p : Int} {n : Nat} {f t : List (Int × Int)} (h : (n : Int) < p) (h0 : 0 < n) (k : OkMul p f n t) : OkPow p n t f n := by
  obtain ⟨m, rfl⟩ : ∃ m, n = m + 1 := ⟨n - 1, by omega⟩
  rw [okp_step, Int.ediv_eq_zero_of_lt (by omega) h, Int.emod_eq_of_lt (by omega) h, Int.toNat_natCast]
  exact fun _ => ⟨k, fun z => absurd z (by decide)⟩
theorem p22 (f : List (Int × Int)) : powF 2 2 [(0, 1)] f 2 = prodP 2 [(0, 1)] (frob 2 f) := rfl
theorem p33 (f : List (Int × Int)) : powF 3 3 [(0, 1)] f 3 = prodP 3 [(0, 1)] (frob 3 f) := rfl
theorem p23 (f : List (Int × Int)) : powF 2 3 [(0, 1)] f 3 = prodP 2 (prodP 2 [(0, 1)] f) (frob 2 f) := rfl
/-- powers up to the third, as they act -/
theorem pow_pr {p : Int} (hp : 2 ≤ p) {n : Nat} (hn : n ≤ 3) {f : List (Int × Int)} (h : (f.map (·.1)).Nodup) (φ : Int → Int) : Eqm p (pr (powF p n [(0, 1)] f n) φ) (pw f n φ) := by
  by_cases h0 : n = 0
  · subst h0
    exact .of (pr_one φ)
  by_cases hl : (n : Int) < p
  · rw [powF_low hl (by omega)]
    exact mulN_one p f n φ
  obtain ⟨rfl, rfl⟩ | ⟨rfl, rfl⟩ | ⟨rfl, rfl⟩ : (p = 2 ∧ n = 2) ∨ (p = 3 ∧ n = 3) ∨ (p = 2 ∧ n = 3) := by omega
  · rw [show ((2 : Nat) : Int) = 2 from rfl, p22]
    refine (prodP_pr 2 _ _ φ).trans ?_
    rw [pr_one, frob_pr (by omega) h]
    refine (Eqm.of (pr_congr fun x _ => by rw [Int.zero_add])).trans ((frob2 φ f).trans (.of (pr_congr fun x _ => ?_)))
    rw [pw_one]
  · rw [show ((3 : Nat) : Int) = 3 from rfl, p33]
    refine (prodP_pr 3 _ _ φ).trans ?_
    rw [pr_one, frob_pr (by omega) h]
    refine (Eqm.of (pr_congr fun x _ => by rw [Int.zero_add])).trans ((frob3 φ f).trans (.of (pr_congr fun x _ => pr_congr fun y _ => ?_)))
    rw [pw_one]
  · rw [show ((3 : Nat) : Int) = 3 from rfl, p23]
    refine (prodP_pr 2 _ _ φ).trans ((prodP_pr 2 _ _ _).trans ?_)
    rw [pr_one]
    refine pr_eqm fun x _ => ?_
    rw [frob_pr (by omega) h]
    refine Eqm.trans (.of ?_) ((frob2 (fun z => φ (x.1 + z)) f).trans (.of (pr_congr fun y _ => ?_)))
    · exact pr_congr fun y _ => by rw [Int.zero_add]
    · rw [pw_one]
theorem pow_nd {p : Int} {n : Nat} (hn : n ≤ 3) (hp : 2 ≤ p) (f : List (Int × Int)) : ((powF p n [(0, 1)] f n).map (·.1)).Nodup := by
  by_cases h0 : n = 0
  · subst h0
    exact List.nodup_cons.mpr ⟨by simp, List.nodup_nil⟩
  by_cases hl : (n : Int) < p
  · rw [powF_low hl (by omega)]
    exact mulN_nd p f n (List.nodup_cons.mpr ⟨by simp, List.nodup_nil⟩)
  obtain ⟨rfl, rfl⟩ | ⟨rfl, rfl⟩ | ⟨rfl, rfl⟩ : (p = 2 ∧ n = 2) ∨ (p = 3 ∧ n = 3) ∨ (p = 2 ∧ n = 3) := by omega
  · exact prodP_nd _ _ _
  · exact prodP_nd _ _ _
  · exact prodP_nd _ _ _
theorem sums_frob2 {f : List (Int × Int)} {q : Int × Int} (h : q ∈ f) {i : Nat} {x : Int} (hx : Sums f i x) : Sums f (i + 2) (x + q.1 * 2) := ⟨q, h, x + q.1, ⟨q, h, x, hx, rfl⟩, by omega⟩
theorem pow_keys {p : Int} {n : Nat} (hn : n ≤ 3) (hp : 2 ≤ p) {f : List (Int × Int)} (h : (f.map (·.1)).Nodup) : Keys (Sums f n) (powF p n [(0, 1)] f n) := by
  have k0 : Keys (Sums f 0) [((0 : Int), (1 : Int))] := fun q hq => by
    rw [List.mem_singleton.mp hq]
    rfl
  by_cases h0 : n = 0
  · subst h0
    exact k0
  by_cases hl : (n : Int) < p
  · rw [powF_low hl (by omega)]
    have := mulN_keys (p := p) (f := f) (n := n) k0
    rw [Nat.zero_add] at this
    exact this
  have fr : ∀ {p : Int}, 0 < p → ∀ y ∈ frob p f, ∃ q ∈ f, y.1 = q.1 * p := fun hp y hy => by
    rw [frob_is hp h] at hy
    obtain ⟨q, hq, rfl⟩ := List.mem_map.mp hy
    exact ⟨q, hq, rfl⟩
  obtain ⟨rfl, rfl⟩ | ⟨rfl, rfl⟩ | ⟨rfl, rfl⟩ : (p = 2 ∧ n = 2) ∨ (p = 3 ∧ n = 3) ∨ (p = 2 ∧ n = 3) := by omega
  · rw [show ((2 : Nat) : Int) = 2 from rfl, p22]
    refine prodP_keys fun x hx y hy => ?_
    obtain ⟨q, hq, e⟩ := fr (by omega) y hy
    rw [e]
    exact sums_frob2 hq (k0 x hx)
  · rw [show ((3 : Nat) : Int) = 3 from rfl, p33]
    refine prodP_keys fun x hx y hy => ?_
    obtain ⟨q, hq, e⟩ := fr (by omega) y hy
    rw [e]
    have z := sums_frob2 hq (k0 x hx)
    exact ⟨q, hq, _, z, by omega⟩
  · rw [show ((3 : Nat) : Int) = 3 from rfl, p23]
    refine prodP_keys fun x hx y hy => ?_
    obtain ⟨q, hq, e⟩ := fr (by omega) y hy
    rw [e]
    have z : Keys (Sums f 1) (prodP 2 [(0, 1)] f) := prodP_keys fun x hx y hy => ⟨y, hy, x.1, k0 x hx, rfl⟩
    exact sums_frob2 hq (z x hx)
theorem okMul_3 {p : Int} {f : List (Int × Int)} (hf : f.length ≤ 90) : ∀ {n : Nat} {t : List (Int × Int)}, t.length * 90 ^ n ≤ 1000000 → OkMul p f n t ∧ (mulN p f n t).length ≤ 1000000
  | 0, t, h => ⟨trivial, by
    have : t.length * 1 ≤ 1000000 := h
    show t.length ≤ 1000000
    omega⟩
  | n + 1, t, h => by
    have e1 : t.length * f.length ≤ t.length * 90 := Nat.mul_le_mul_left _ hf
    have e2 : t.length * 90 * 90 ^ n ≤ 1000000 := by rw [Nat.mul_assoc, ← Nat.pow_succ']; exact h
    have e3 : 0 < 90 ^ n := Nat.pow_pos (by omega)
    have e4 : t.length * 90 ≤ t.length * 90 * 90 ^ n := Nat.le_mul_of_pos_right _ e3
    have z := okMul_3 (p := p) (f := f) hf (n := n) (t := prodP p t f) (Nat.le_trans (Nat.mul_le_mul_right _ (Nat.le_trans (prodP_len p t f) e1)) e2)
    exact ⟨⟨by omega, by omega, z.1⟩, z.2⟩
theorem frob_len (p : Int) (f : List (Int × Int)) : (frob p f).length ≤ f.length := foldA_le _ _
theorem pow_ok {p : Int} {n : Nat} (hn : n ≤ 3) (hp : 2 ≤ p) {f : List (Int × Int)} (hf : f.length ≤ 90) : OkPow p n [(0, 1)] f n ∧ (powF p n [(0, 1)] f n).length ≤ 1000000 := by
  by_cases h0 : n = 0
  · subst h0
    exact ⟨trivial, by show 1 ≤ 1000000; decide⟩
  have fl := Nat.le_trans (frob_len p f) hf
  by_cases hl : (n : Int) < p
  · have z := okMul_3 (p := p) (f := f) hf (n := n) (t := [(0, 1)]) (by
      show 1 * 90 ^ n ≤ 1000000
      rw [Nat.one_mul]
      exact Nat.le_trans (Nat.pow_le_pow_right (by omega) hn) (by decide))
    rw [powF_low hl (by omega)]
    exact ⟨okPow_low hl (by omega) z.1, z.2⟩
  obtain ⟨rfl, rfl⟩ | ⟨rfl, rfl⟩ | ⟨rfl, rfl⟩ : (p = 2 ∧ n = 2) ∨ (p = 3 ∧ n = 3) ∨ (p = 2 ∧ n = 3) := by omega
  · have z := okMul_3 (p := 2) (f := frob 2 f) fl (n := 1) (t := [(0, 1)]) (by decide)
    refine ⟨?_, z.2⟩
    rw [show ((2 : Nat) : Int) = 2 from rfl]
    exact fun _ => ⟨trivial, fun _ _ => ⟨z.1, fun h => absurd h (by decide)⟩⟩
  · have z := okMul_3 (p := 3) (f := frob 3 f) fl (n := 1) (t := [(0, 1)]) (by decide)
    refine ⟨?_, z.2⟩
    rw [show ((3 : Nat) : Int) = 3 from rfl]
    exact fun _ => ⟨trivial, fun _ _ => ⟨z.1, fun h => absurd h (by decide)⟩⟩
  · have y := okMul_3 (p := 2) (f := f) hf (n := 1) (t := [(0, 1)]) (by decide)
    have z := okMul_3 (p := 2) (f := frob 2 f) fl (n := 1) (t := prodP 2 [(0, 1)] f) (by
      have := prodP_len 2 [(0, 1)] f
      rw [show [((0 : Int), (1 : Int))].length = 1 from rfl] at this
      omega)
    refine ⟨?_, z.2⟩
    rw [show ((3 : Nat) : Int) = 3 from rfl]
    exact fun _ => ⟨y.1, fun _ _ => ⟨z.1, fun h => absurd h (by decide)⟩⟩
end P2
end

section
namespace P2
open ClX
/-! rows in order -/
theorem ltI_irr : ∀ a : List Int, ltI a a = false
  | [] => rfl
  | x :: r => by
    show (decide (x < x) || (!decide (x < x) && ltI r r)) = false
    rw [ltI_irr r]
    simp
theorem ltI_total : ∀ a b : List Int, ltI a b = false → ltI b a = false → a = b
  | [], [], _, _ => rfl
  | [], _ :: _, h, _ => by cases h
  | _ :: _, [], _, h => by cases h
  | x :: r, y :: t, h, g => by
    simp only [ltI, Bool.or_eq_false_iff, Bool.and_eq_false_iff, decide_eq_false_iff_not, Bool.not_eq_false', decide_eq_true_eq] at h g
    have e : x = y := by omega
    subst e
    rw [ltI_total r t (by rcases h.2 with z | z; · omega
                          · exact z) (by rcases g.2 with z | z; · omega
                                         · exact z)]
theorem ltI_trans : ∀ a b c : List Int, ltI a b = true → ltI b c = true → ltI a c = true
  | [], [], _, h, _ => by cases h
  | _ :: _, [], _, h, _ => by cases h
  | [], _ :: _, [], _, h => by cases h
  | [], _ :: _, _ :: _, _, _ => rfl
  | _ :: _, _ :: _, [], _, h => by cases h
  | x :: r, y :: t, z :: u, h, g => by
    simp only [ltI, Bool.or_eq_true, Bool.and_eq_true, Bool.not_eq_true', decide_eq_false_iff_not, decide_eq_true_eq] at h g ⊢
    rcases h with h | ⟨h1, h2⟩
    · rcases g with g | ⟨g1, g2⟩
      · exact .inl (by omega)
      · exact .inl (by omega)
    · rcases g with g | ⟨g1, g2⟩
      · exact .inl (by omega)
      · exact .inr ⟨by omega, ltI_trans r t u h2 g2⟩
def Inc (ys : List (List Int)) : Prop := ys.Pairwise fun a b => ltI a b = true
theorem asc_inc {ys : List (List Int)} (h : Asc ys) (n : ys.Nodup) : Inc ys := by
  have z := List.Pairwise.and h n
  refine z.imp fun {a b} q => ?_
  cases e : ltI a b with
  | true => rfl
  | false => exact absurd (ltI_total a b e q.1) q.2
theorem inc_ext : ∀ {xs ys : List (List Int)}, Inc xs → Inc ys → (∀ a, a ∈ xs ↔ a ∈ ys) → xs = ys
  | [], [], _, _, _ => rfl
  | [], y :: ys, _, _, h => absurd ((h y).mpr List.mem_cons_self) (by simp)
  | x :: xs, [], _, _, h => absurd ((h x).mp List.mem_cons_self) (by simp)
  | x :: xs, y :: ys, h, g, k => by
    have h1 := List.pairwise_cons.mp h
    have g1 := List.pairwise_cons.mp g
    have e : x = y := by
      rcases List.mem_cons.mp ((k x).mp List.mem_cons_self) with e | e
      · exact e
      rcases List.mem_cons.mp ((k y).mpr List.mem_cons_self) with e2 | e2
      · exact e2.symm
      have := ltI_trans _ _ _ (h1.1 y e2) (g1.1 x e)
      rw [ltI_irr] at this
      cases this
    subst e
    rw [inc_ext h1.2 g1.2 fun a => ⟨fun m => ?_, fun m => ?_⟩]
    · rcases List.mem_cons.mp ((k a).mp (List.mem_cons_of_mem _ m)) with e | e
      · have := h1.1 a m
        rw [e, ltI_irr] at this
        cases this
      · exact e
    · rcases List.mem_cons.mp ((k a).mpr (List.mem_cons_of_mem _ m)) with e | e
      · have := g1.1 a m
        rw [e, ltI_irr] at this
        cases this
      · exact e
/-- the rows in order -/
def srt (ys : List (List Int)) : List (List Int) := ys.mergeSort fun a b => !ltI b a
theorem srt_perm (ys : List (List Int)) : (srt ys).Perm ys := List.mergeSort_perm _ _
theorem srt_asc (ys : List (List Int)) : Asc (srt ys) := by
  have z := List.pairwise_mergeSort (le := fun a b => !ltI b a) (fun a b c h g => by
    simp only [Bool.not_eq_true'] at h g ⊢
    cases e : ltI c a with
    | false => rfl
    | true =>
      cases e2 : ltI a b with
      | true =>
        have := ltI_trans _ _ _ e e2
        rw [g] at this
        cases this
      | false =>
        have := ltI_total a b e2 h
        rw [this, g] at e
        cases e) (fun a b => by
    cases e : ltI b a with
    | false => rfl
    | true =>
      cases e2 : ltI a b with
      | false => rfl
      | true =>
        have := ltI_trans _ _ _ e e2
        rw [ltI_irr] at this
        cases this) ys
  exact z.imp fun {a b} h => by simpa using h
/-- the terms that stand modulo p, rows ascending -/
def tid (p : Int) (ts : List (List Int × Int)) : List (List Int × Int) := tidyOf p ts (srt (ts.map (·.1)))
theorem tidy_is (p : Int) (ts : List (List Int × Int)) {ys : List (List Int)} (h : ys.Nodup) : tidyOf p ts ys = (ys.filter fun r => decide (cf ts r % p ≠ 0)).map fun r => (r, cf ts r % p) := by
  have e : ∀ ys : List (List Int), (ys.filterMap fun r => if cf ts r % p = 0 then none else some (r, cf ts r % p)) = (ys.filter fun r => decide (cf ts r % p ≠ 0)).map fun r => (r, cf ts r % p) := fun ys => by
    induction ys with
    | nil => rfl
    | cons r ys ih =>
      by_cases z : cf ts r % p = 0
      · rw [List.filterMap_cons_none (by rw [if_pos z]), List.filter_cons_of_neg (by simp [z]), ih]
      · rw [List.filterMap_cons_some (b := (r, cf ts r % p)) (by rw [if_neg z]), List.filter_cons_of_pos (by simp [z]), List.map_cons, ih]
  show foldI (fun r => if cf ts r % p = 0 then none else some (r, cf ts r % p)) ys = _
  rw [foldI_is, e]
  rw [e, List.map_map]
  show ((ys.filter _).map id).Nodup
  rw [List.map_id]
  exact h.filter _
/-- alike terms have one tidy form -/
theorem tidy_ext {p : Int} {A B : List (List Int × Int)} (hA : (A.map (·.1)).Nodup) (hB : (B.map (·.1)).Nodup) (h : ∀ r, cf A r % p = cf B r % p) {ya yb : List (List Int)} (pa : ya.Perm (A.map (·.1))) (aa : Asc ya) (pb : yb.Perm (B.map (·.1))) (ab : Asc yb) : tidyOf p A ya = tidyOf p B yb := by
  have na := pa.nodup_iff.mpr hA
  have nb := pb.nodup_iff.mpr hB
  rw [tidy_is p A na, tidy_is p B nb]
  have e : (ya.filter fun r => decide (cf A r % p ≠ 0)) = yb.filter fun r => decide (cf B r % p ≠ 0) := by
    refine inc_ext ((asc_inc aa na).filter _) ((asc_inc ab nb).filter _) fun a => ?_
    have out : ∀ {m : List (List Int × Int)}, cf m a % p ≠ 0 → a ∈ m.map (·.1) := fun {m} z => by
      refine Classical.byContradiction fun y => z ?_
      rw [cf_out y, Int.zero_emod]
    rw [List.mem_filter, List.mem_filter, decide_eq_true_iff, decide_eq_true_iff, h a]
    refine ⟨fun z => ⟨pb.mem_iff.mpr (out z.2), z.2⟩, fun z => ⟨pa.mem_iff.mpr (out (by rw [h a]; exact z.2)), z.2⟩⟩
  rw [e]
  exact List.map_congr_left fun r _ => by rw [h r]
theorem tidy_tid {p : Int} {A : List (List Int × Int)} (hA : (A.map (·.1)).Nodup) {ys : List (List Int)} (pa : ys.Perm (A.map (·.1))) (aa : Asc ys) : tidyOf p A ys = tid p A := tidy_ext hA hA (fun _ => rfl) pa aa (srt_perm _) (srt_asc _)
theorem tid_ext {p : Int} {A B : List (List Int × Int)} (hA : (A.map (·.1)).Nodup) (hB : (B.map (·.1)).Nodup) (h : Eqp p A B) : tid p A = tid p B := tidy_ext hA hB (fun r => by
  rw [cf_pr r hA, cf_pr r hB]
  exact (h _).emod) (srt_perm _) (srt_asc _) (srt_perm _) (srt_asc _)
theorem tid_nd {p : Int} {A : List (List Int × Int)} : ((tid p A).map (·.1)).Nodup := nodup_foldI _ _
theorem tid_in {p : Int} {A : List (List Int × Int)} (hA : (A.map (·.1)).Nodup) {q : List Int × Int} : q ∈ tid p A ↔ (q.1 ∈ A.map (·.1) ∧ cf A q.1 % p ≠ 0 ∧ q.2 = cf A q.1 % p) := by
  unfold tid
  rw [tidy_is p A ((srt_perm _).nodup_iff.mpr hA), List.mem_map]
  constructor
  · rintro ⟨r, h, rfl⟩
    have h := List.mem_filter.mp h
    exact ⟨(srt_perm _).mem_iff.mp h.1, of_decide_eq_true h.2, rfl⟩
  · rintro ⟨h1, h2, h3⟩
    refine ⟨q.1, List.mem_filter.mpr ⟨(srt_perm _).mem_iff.mpr h1, decide_eq_true h2⟩, ?_⟩
    rw [← h3]
theorem pr_perm {κ : Type} (φ : κ → Int) {m n : List (κ × Int)} (h : m.Perm n) : pr m φ = pr n φ := by
  induction h with
  | nil => rfl
  | cons q _ ih => rw [pr_cons, pr_cons, ih]
  | swap a b l =>
    rw [pr_cons, pr_cons, pr_cons, pr_cons]
    omega
  | trans _ _ i1 i2 => rw [i1, i2]
theorem tid_eqp {p : Int} {A : List (List Int × Int)} (hA : (A.map (·.1)).Nodup) : Eqp p (tid p A) A := by
  unfold tid
  rw [tidy_is p A ((srt_perm _).nodup_iff.mpr hA)]
  have h1 : ∀ (ys : List (List Int)) (φ : List Int → Int), Eqm p (pr ((ys.filter fun r => decide (cf A r % p ≠ 0)).map fun r => (r, cf A r % p)) φ) (pr (ys.map fun r => (r, cf A r)) φ) := fun ys φ => by
    induction ys with
    | nil => exact .rfl
    | cons r ys ih =>
      have m : Eqm p (cf A r % p * φ r) (cf A r * φ r) := by
        rw [Int.mul_comm, Int.mul_comm (cf A r)]
        exact Eqm.mod.mul _
      by_cases z : cf A r % p = 0
      · rw [List.filter_cons_of_neg (by simp [z]), List.map_cons, pr_cons]
        rw [z] at m
        have := m.add ih
        rw [Int.zero_mul, Int.zero_add] at this
        exact this
      · rw [List.filter_cons_of_pos (by simp [z]), List.map_cons, List.map_cons, pr_cons, pr_cons]
        exact m.add ih
  have h2 : ∀ (m : List (List Int × Int)), (m.map (·.1)).Nodup → (m.map fun q => (q.1, cf m q.1)) = m := fun m hm => by
    induction m with
    | nil => rfl
    | cons q m ih =>
      rw [List.map_cons, List.nodup_cons] at hm
      rw [List.map_cons, cf_cons, if_pos rfl]
      congr 1
      refine (List.map_congr_left fun u hu => ?_).trans (ih hm.2)
      rw [cf_cons, if_neg]
      intro e
      exact hm.1 (List.mem_map.mpr ⟨u, hu, e.symm⟩)
  intro φ
  refine (h1 _ φ).trans (.of ?_)
  have pp : (((srt (A.map (·.1))).map fun r => (r, cf A r))).Perm A := by
    refine ((srt_perm _).map _).trans ?_
    rw [List.map_map]
    exact .of_eq (h2 A hA)
  exact pr_perm φ pp
end P2
end

section
namespace P2
open ClX
def addR (a b : List Int) : List Int := List.zipWith (fun x y => x + y) a b
theorem addR_len {a b : List Int} {k : Nat} (h : a.length = k) (g : b.length = k) : (addR a b).length = k := by
  unfold addR
  rw [List.length_zipWith, h, g, Nat.min_self]
theorem addR_nn : ∀ {a b : List Int}, (∀ e ∈ a, 0 ≤ e) → (∀ e ∈ b, 0 ≤ e) → ∀ e ∈ addR a b, 0 ≤ e
  | [], _, _, _, _, h => by cases h
  | _ :: _, [], _, _, _, h => by cases h
  | x :: a, y :: b, h, g, e, he => by
    rcases List.mem_cons.mp (show e ∈ (x + y) :: addR a b from he) with rfl | he
    · have := h x List.mem_cons_self
      have := g y List.mem_cons_self
      omega
    · exact addR_nn (fun e h2 => h e (List.mem_cons_of_mem _ h2)) (fun e h2 => g e (List.mem_cons_of_mem _ h2)) e he
theorem addR_sum : ∀ {a b : List Int}, a.length = b.length → (addR a b).sum = a.sum + b.sum
  | [], [], _ => rfl
  | [], _ :: _, h => by cases h
  | _ :: _, [], h => by cases h
  | x :: a, y :: b, h => by
    show ((x + y) :: addR a b).sum = _
    rw [List.sum_cons, List.sum_cons, List.sum_cons, addR_sum (Nat.succ.inj h)]
    omega
theorem packF_add : ∀ {a b : List Int} (u v : Int), a.length = b.length → (addR a b).foldl (fun w e => w * 2 ^ 7 + e) (u + v) = a.foldl (fun w e => w * 2 ^ 7 + e) u + b.foldl (fun w e => w * 2 ^ 7 + e) v
  | [], [], _, _, _ => rfl
  | [], _ :: _, _, _, h => by cases h
  | _ :: _, [], _, _, h => by cases h
  | x :: a, y :: b, u, v, h => by
    show (addR a b).foldl _ ((u + v) * 2 ^ 7 + (x + y)) = a.foldl _ (u * 2 ^ 7 + x) + b.foldl _ (v * 2 ^ 7 + y)
    rw [show (u + v) * 2 ^ 7 + (x + y) = (u * 2 ^ 7 + x) + (v * 2 ^ 7 + y) by omega]
    exact packF_add _ _ (Nat.succ.inj h)
theorem packR_add {a b : List Int} (h : a.length = b.length) : packR (addR a b) = packR a + packR b := packF_add 0 0 h
theorem unpack_succ (x : Int) (n : Nat) : unpackR x (n + 1) = unpackR (x / 2 ^ 7) n ++ [x % 2 ^ 7] := by
  unfold unpackR
  rw [List.range_succ, List.map_append]
  congr 1
  · refine List.map_congr_left fun s hs => ?_
    have h := List.mem_range.mp hs
    rw [Int.ediv_ediv_of_nonneg (by decide), show 7 * (n + 1 - 1 - s) = 7 + 7 * (n - 1 - s) by omega, Int.pow_add]
  · show [x / 2 ^ (7 * (n + 1 - 1 - n)) % 2 ^ 7] = _
    rw [show 7 * (n + 1 - 1 - n) = 0 by omega, Int.pow_zero, Int.ediv_one]
theorem unpack_pack : ∀ (n : Nat) {r : List Int}, r.length = n → Exps r → unpackR (packR r) n = r
  | 0, r, h, _ => by
    rw [List.length_eq_zero_iff.mp h]
    rfl
  | n + 1, r, h, e => by
    have hne : r ≠ [] := fun z => by
      rw [z] at h
      cases h
    have d := List.dropLast_concat_getLast hne
    have e1 := e (r.getLast hne) (List.getLast_mem hne)
    rw [unpack_succ]
    conv => lhs; rw [← d]
    rw [packR_snoc, show (packR r.dropLast * 2 ^ 7 + r.getLast hne) / 2 ^ 7 = packR r.dropLast by omega, show (packR r.dropLast * 2 ^ 7 + r.getLast hne) % 2 ^ 7 = r.getLast hne by omega, unpack_pack n (by rw [List.length_dropLast, h]; rfl) fun x hx => e x (List.dropLast_subset _ hx), d]
/-- a row's number -/
def RowN (k : Nat) (d : Int) (x : Int) : Prop := ∃ r, x = packR r ∧ r.length = k ∧ (∀ e ∈ r, 0 ≤ e) ∧ r.sum ≤ d
theorem exps_of {r : List Int} (h : ∀ e ∈ r, 0 ≤ e) (s : r.sum ≤ 120) : Exps r := fun e he => by
  have z := (le_sum h).1 e he
  exact ⟨h e he, by show e < 128; omega⟩
theorem RowN.add {k : Nat} {d d' x y : Int} (h : RowN k d x) (g : RowN k d' y) : RowN k (d + d') (x + y) := by
  obtain ⟨r, rfl, a1, a2, a3⟩ := h
  obtain ⟨s, rfl, b1, b2, b3⟩ := g
  refine ⟨addR r s, (packR_add (by rw [a1, b1])).symm, addR_len a1 b1, addR_nn a2 b2, ?_⟩
  rw [addR_sum (by rw [a1, b1])]
  omega
theorem RowN.le {k : Nat} {d d' x : Int} (h : RowN k d x) (l : d ≤ d') : RowN k d' x := let ⟨r, a, b, c, e⟩ := h; ⟨r, a, b, c, by omega⟩
theorem nodup_inj {α β : Type} {f : α → β} : ∀ {l : List α}, (∀ x ∈ l, ∀ y ∈ l, f x = f y → x = y) → l.Nodup → (l.map f).Nodup
  | [], _, _ => List.nodup_nil
  | x :: l, h, n => by
    rw [List.nodup_cons] at n
    rw [List.map_cons, List.nodup_cons]
    refine ⟨fun z => ?_, nodup_inj (fun a ha b hb => h a (List.mem_cons_of_mem _ ha) b (List.mem_cons_of_mem _ hb)) n.2⟩
    obtain ⟨y, hy, e⟩ := List.mem_map.mp z
    rw [h y (List.mem_cons_of_mem _ hy) x List.mem_cons_self e] at hy
    exact n.1 hy
theorem pack_is {k : Nat} {A : List (List Int × Int)} (n : (A.map (·.1)).Nodup) (h : RowsOk k A) : packOf A = A.map fun q => (packR q.1, q.2) := by
  refine foldA_is _ ?_
  show (A.map fun q => packR q.1).Nodup
  have e : (A.map fun q => packR q.1) = (A.map (·.1)).map packR := by rw [List.map_map]; rfl
  rw [e]
  refine nodup_inj (fun x hx y hy e => ?_) n
  obtain ⟨a, ha, rfl⟩ := List.mem_map.mp hx
  obtain ⟨b, hb, rfl⟩ := List.mem_map.mp hy
  have ea := unpack_pack k (h a ha).1 (exps_of (h a ha).2.1 (h a ha).2.2)
  have eb := unpack_pack k (h b hb).1 (exps_of (h b hb).2.1 (h b hb).2.2)
  rw [← ea, ← eb, e]
theorem pack_pr {k : Nat} {A : List (List Int × Int)} (n : (A.map (·.1)).Nodup) (h : RowsOk k A) (ψ : Int → Int) : pr (packOf A) ψ = pr A fun r => ψ (packR r) := by
  rw [pack_is n h]
  exact pr_map packR ψ A
theorem pack_nd (A : List (List Int × Int)) : ((packOf A).map (·.1)).Nodup := nodup_foldA _ _
theorem pack_keys {k : Nat} {d : Int} {A : List (List Int × Int)} (n : (A.map (·.1)).Nodup) (h : RowsOk k A) (hd : ∀ q ∈ A, q.1.sum ≤ d) : Keys (RowN k d) (packOf A) := by
  rw [pack_is n h]
  intro q hq
  obtain ⟨r, hr, rfl⟩ := List.mem_map.mp hq
  exact ⟨r.1, rfl, (h r hr).1, (h r hr).2.1, hd r hr⟩
theorem pack_len (A : List (List Int × Int)) : (packOf A).length ≤ A.length := foldA_le _ _
theorem terms_is {k : Nat} {m : List (Int × Int)} (n : (m.map (·.1)).Nodup) (h : Keys (RowN k 120) m) : termsOf m k = m.map fun q => (unpackR q.1 k, q.2) := by
  refine foldA_is _ ?_
  show (m.map fun q => unpackR q.1 k).Nodup
  have e : (m.map fun q => unpackR q.1 k) = (m.map (·.1)).map fun x => unpackR x k := by rw [List.map_map]; rfl
  rw [e]
  refine nodup_inj (fun x hx y hy e => ?_) n
  obtain ⟨a, ha, rfl⟩ := List.mem_map.mp hx
  obtain ⟨b, hb, rfl⟩ := List.mem_map.mp hy
  obtain ⟨r, ea, l1, n1, s1⟩ := h a ha
  obtain ⟨s, eb, l2, n2, s2⟩ := h b hb
  simp only [ea, eb, unpack_pack k l1 (exps_of n1 s1), unpack_pack k l2 (exps_of n2 s2)] at e ⊢
  rw [e]
theorem terms_nd (m : List (Int × Int)) (k : Nat) : ((termsOf m k).map (·.1)).Nodup := nodup_foldA _ _
theorem terms_rows {k : Nat} {m : List (Int × Int)} (n : (m.map (·.1)).Nodup) (h : Keys (RowN k 120) m) : RowsOk k (termsOf m k) := by
  rw [terms_is n h]
  intro q hq
  obtain ⟨a, ha, rfl⟩ := List.mem_map.mp hq
  obtain ⟨r, ea, l1, n1, s1⟩ := h a ha
  show (unpackR a.1 k).length = k ∧ (∀ e ∈ unpackR a.1 k, 0 ≤ e) ∧ (unpackR a.1 k).sum ≤ 120
  rw [ea, unpack_pack k l1 (exps_of n1 s1)]
  exact ⟨l1, n1, s1⟩
theorem terms_pr {k : Nat} {m : List (Int × Int)} (n : (m.map (·.1)).Nodup) (h : Keys (RowN k 120) m) (φ : List Int → Int) : pr (termsOf m k) φ = pr m fun x => φ (unpackR x k) := by
  rw [terms_is n h]
  exact pr_map (fun x => unpackR x k) φ m
/-! sums, products, powers against the law's own -/
theorem sum_tid {p : Int} {k : Nat} {A B C : List (List Int × Int)} (nA : (A.map (·.1)).Nodup) (nB : (B.map (·.1)).Nodup) (nC : (C.map (·.1)).Nodup) (rA : RowsOk k A) (rB : RowsOk k B) (h : ∀ φ, Eqm p (pr C φ) (pr A φ + pr B φ)) : RowsOk k (termsOf (sumP p (packOf A) (packOf B)) k) ∧ tid p (termsOf (sumP p (packOf A) (packOf B)) k) = tid p C := by
  have kk : Keys (RowN k 120) (sumP p (packOf A) (packOf B)) := sumP_keys (pack_nd A) (pack_keys nA rA fun q hq => (rA q hq).2.2) (pack_keys nB rB fun q hq => (rB q hq).2.2)
  refine ⟨terms_rows (sumP_nd ..) kk, tid_ext (terms_nd ..) nC fun φ => ?_⟩
  rw [terms_pr (sumP_nd ..) kk]
  refine (sumP_eqp p (pack_nd A) _).trans (.trans (.of ?_) (h φ).symm)
  rw [pr_app, pack_pr nA rA, pack_pr nB rB]
  congr 1
  · exact pr_congr fun q hq => by rw [unpack_pack k (rA q hq).1 (exps_of (rA q hq).2.1 (rA q hq).2.2)]
  · exact pr_congr fun q hq => by rw [unpack_pack k (rB q hq).1 (exps_of (rB q hq).2.1 (rB q hq).2.2)]
theorem prod_tid {p d e : Int} {k : Nat} {A B C : List (List Int × Int)} (nA : (A.map (·.1)).Nodup) (nB : (B.map (·.1)).Nodup) (nC : (C.map (·.1)).Nodup) (rA : RowsOk k A) (rB : RowsOk k B) (dA : ∀ q ∈ A, q.1.sum ≤ d) (dB : ∀ q ∈ B, q.1.sum ≤ e) (de : d + e ≤ 120) (h : ∀ φ, Eqm p (pr C φ) (pr A fun a => pr B fun b => φ (addR a b))) : RowsOk k (termsOf (prodP p (packOf A) (packOf B)) k) ∧ tid p (termsOf (prodP p (packOf A) (packOf B)) k) = tid p C := by
  have kk : Keys (RowN k 120) (prodP p (packOf A) (packOf B)) := prodP_keys fun x hx y hy => ((pack_keys nA rA dA x hx).add (pack_keys nB rB dB y hy)).le de
  refine ⟨terms_rows (prodP_nd ..) kk, tid_ext (terms_nd ..) nC fun φ => ?_⟩
  rw [terms_pr (prodP_nd ..) kk]
  refine (prodP_pr p _ _ _).trans (.trans (.of ?_) (h φ).symm)
  rw [pack_pr nA rA]
  refine pr_congr fun a ha => ?_
  rw [pack_pr nB rB]
  refine pr_congr fun b hb => ?_
  have l : a.1.length = b.1.length := by rw [(rA a ha).1, (rB b hb).1]
  rw [← packR_add l, unpack_pack k (addR_len (rA a ha).1 (rB b hb).1) (exps_of (addR_nn (rA a ha).2.1 (rB b hb).2.1) ?_)]
  rw [addR_sum l]
  have := dA a ha
  have := dB b hb
  omega
/-- the law's own power, as it acts -/
def pwR (A : List (List Int × Int)) (k : Nat) : Nat → (List Int → Int) → Int
  | 0, φ => φ (List.replicate k 0)
  | n + 1, φ => pwR A k n fun a => pr A fun b => φ (addR a b)
theorem pack_zeros (k : Nat) : packR (List.replicate k 0) = 0 := by
  induction k with
  | zero => rfl
  | succ k ih => rw [List.replicate_succ', packR_snoc, ih]; rfl
theorem zeros_sum (k : Nat) : (List.replicate k (0 : Int)).sum = 0 := by
  induction k with
  | zero => rfl
  | succ k ih => rw [List.replicate_succ, List.sum_cons, ih]; rfl
theorem pwR_congr {A : List (List Int × Int)} {k : Nat} {d : Int} (rA : RowsOk k A) (dA : ∀ q ∈ A, q.1.sum ≤ d) : ∀ {n : Nat} {φ φ' : List Int → Int}, (∀ r, r.length = k → (∀ e ∈ r, 0 ≤ e) → r.sum ≤ n * d → φ r = φ' r) → pwR A k n φ = pwR A k n φ'
  | 0, _, _, h => h _ List.length_replicate (fun e he => by rw [(List.mem_replicate.mp he).2]; decide) (by rw [zeros_sum]; omega)
  | n + 1, _, _, h => pwR_congr rA dA (n := n) fun r h1 h2 h3 => pr_congr fun b hb => h _ (addR_len h1 (rA b hb).1) (addR_nn h2 (rA b hb).2.1) (by
    rw [addR_sum (by rw [h1, (rA b hb).1]), Int.natCast_add, Int.add_mul]
    have := dA b hb
    omega)
theorem pwR_pw {A : List (List Int × Int)} {k : Nat} (nA : (A.map (·.1)).Nodup) (rA : RowsOk k A) : ∀ (n : Nat) (ψ : Int → Int), pwR A k n (fun r => ψ (packR r)) = pw (packOf A) n ψ
  | 0, ψ => by
    show ψ (packR (List.replicate k 0)) = ψ 0
    rw [pack_zeros]
  | n + 1, ψ => by
    show pwR A k n (fun a => pr A fun b => ψ (packR (addR a b))) = pr (packOf A) fun x => pw (packOf A) n fun y => ψ (x + y)
    rw [← pw_pr (packOf A) (packOf A) n (fun y x => ψ (x + y)), ← pwR_pw nA rA n]
    refine pwR_congr rA (d := 120) (fun q hq => (rA q hq).2.2) fun r h1 _ _ => ?_
    rw [pack_pr nA rA]
    exact pr_congr fun b hb => by rw [packR_add (by rw [h1, (rA b hb).1]), Int.add_comm]
theorem sums_row {k : Nat} {d : Int} {f : List (Int × Int)} (h : Keys (RowN k d) f) (h0 : RowN k 0 0) : ∀ {n : Nat} {x : Int}, Sums f n x → RowN k (n * d) x
  | 0, x, e => by
    rw [show x = 0 from e]
    exact h0.le (by omega)
  | n + 1, x, ⟨q, hq, y, hy, e⟩ => by
    rw [e]
    refine ((sums_row h h0 hy).add (h q hq)).le ?_
    rw [Int.natCast_add, Int.add_mul]
    omega
theorem pow_tid {p d : Int} {k n : Nat} {A C : List (List Int × Int)} (hp : 2 ≤ p) (hn : n ≤ 3) (nA : (A.map (·.1)).Nodup) (nC : (C.map (·.1)).Nodup) (rA : RowsOk k A) (dA : ∀ q ∈ A, q.1.sum ≤ d) (de : n * d ≤ 120) (h : ∀ φ, Eqm p (pr C φ) (pwR A k n φ)) : RowsOk k (termsOf (powF p n [(0, 1)] (packOf A) n) k) ∧ tid p (termsOf (powF p n [(0, 1)] (packOf A) n) k) = tid p C := by
  have h0 : RowN k 0 0 := ⟨List.replicate k 0, (pack_zeros k).symm, List.length_replicate, (fun e he => by rw [(List.mem_replicate.mp he).2]; decide), by rw [zeros_sum]; decide⟩
  have kk : Keys (RowN k 120) (powF p n [(0, 1)] (packOf A) n) := fun q hq => (sums_row (pack_keys nA rA dA) h0 (pow_keys hn hp (pack_nd A) q hq)).le de
  refine ⟨terms_rows (pow_nd hn hp _) kk, tid_ext (terms_nd ..) nC fun φ => ?_⟩
  rw [terms_pr (pow_nd hn hp _) kk]
  refine (pow_pr hp hn (pack_nd A) _).trans (.trans (.of ?_) (h φ).symm)
  rw [← pwR_pw nA rA]
  refine pwR_congr rA dA fun r h1 h2 h3 => ?_
  rw [unpack_pack k h1 (exps_of h2 (by omega))]
end P2
end

section
set_option maxRecDepth 100000
set_option maxHeartbeats 2000000
/-! The p-th power of a sum, for small primes. -/
namespace P2
/-- numbers times values, from the place 0 on -/
def ev : List Int → (Nat → Int) → Int
  | [], _ => 0
  | c :: r, F => c * F 0 + ev r fun k => F (k + 1)
theorem ev_congr : ∀ {r : List Int} {F G : Nat → Int}, (∀ k, k < r.length → F k = G k) → ev r F = ev r G
  | [], _, _, _ => rfl
  | c :: r, F, G, h => by
    show c * F 0 + ev r _ = c * G 0 + ev r _
    rw [h 0 (by simp), ev_congr (r := r) fun k hk => h (k + 1) (by simpa using hk)]
theorem ev_mul (c : Int) : ∀ (r : List Int) (F : Nat → Int), ev r (fun k => c * F k) = c * ev r F
  | [], _ => by simp [ev]
  | d :: r, F => by
    show d * (c * F 0) + ev r (fun k => c * F (k + 1)) = c * (d * F 0 + ev r fun k => F (k + 1))
    rw [ev_mul c r fun k => F (k + 1), Int.mul_add, Int.mul_left_comm]
theorem ev_pr (m : List (Int × Int)) : ∀ (r : List Int) (F : Nat → Int → Int), pr m (fun x => ev r fun k => F k x) = ev r fun k => pr m (F k)
  | [], _ => pr_zero m
  | c :: r, F => by
    show pr m (fun x => c * F 0 x + ev r fun k => F (k + 1) x) = c * pr m (F 0) + ev r fun k => pr m (F (k + 1))
    rw [pr_add, pr_mul, ev_pr m r fun k => F (k + 1)]
def addZ : List Int → List Int → List Int
  | a :: r, b :: s => (a + b) :: addZ r s
  | [], s => s
  | r, [] => r
theorem ev_addZ : ∀ (r s : List Int) (F : Nat → Int), ev (addZ r s) F = ev r F + ev s F
  | [], s, F => by simp [addZ, ev]
  | a :: r, [], F => by simp [addZ, ev]
  | a :: r, b :: s, F => by
    show (a + b) * F 0 + ev (addZ r s) _ = (a * F 0 + ev r _) + (b * F 0 + ev s _)
    rw [ev_addZ r s, Int.add_mul]
    omega
theorem addZ_len : ∀ {r s : List Int}, r.length = s.length → (addZ r s).length = r.length
  | [], [], _ => rfl
  | a :: r, b :: s, h => by
    show (addZ r s).length + 1 = r.length + 1
    rw [addZ_len (by simpa using h)]
/-- Pascal's rows -/
def pas : Nat → List Int
  | 0 => [1]
  | n + 1 => addZ (0 :: pas n) (pas n ++ [0])
theorem pas_len : ∀ n, (pas n).length = n + 1
  | 0 => rfl
  | n + 1 => by
    have z := pas_len n
    show (addZ (0 :: pas n) (pas n ++ [0])).length = _
    rw [addZ_len (by simp)]
    simp [z]
theorem ev_zero_end : ∀ (r : List Int) (F : Nat → Int), ev (r ++ [0]) F = ev r F
  | [], F => by simp [ev]
  | c :: r, F => by
    show c * F 0 + ev (r ++ [0]) _ = c * F 0 + ev r _
    rw [ev_zero_end r]
theorem ev_pas (n : Nat) (F : Nat → Int) : ev (pas (n + 1)) F = ev (pas n) (fun k => F (k + 1)) + ev (pas n) F := by
  show ev (addZ (0 :: pas n) (pas n ++ [0])) F = _
  rw [ev_addZ, ev_zero_end]
  show (0 * F 0 + ev (pas n) _) + _ = _
  rw [Int.zero_mul, Int.zero_add]
/-- the power of a sum, the first item apart -/
theorem pw_bin (q : Int × Int) (f : List (Int × Int)) : ∀ (n : Nat) (φ : Int → Int), pw (q :: f) n φ = ev (pas n) fun k => q.2 ^ k * pw f (n - k) fun x => φ (k * q.1 + x)
  | 0, φ => by
    show φ 0 = 1 * (q.2 ^ 0 * φ ((0 : Nat) * q.1 + 0)) + 0
    simp
  | n + 1, φ => by
    rw [ev_pas]
    show pr (q :: f) (fun x => pw (q :: f) n fun y => φ (x + y)) = _
    rw [pr_cons]
    have e1 : q.2 * pw (q :: f) n (fun y => φ (q.1 + y)) = ev (pas n) fun k => q.2 ^ (k + 1) * pw f (n + 1 - (k + 1)) fun x => φ ((k + 1 : Nat) * q.1 + x) := by
      rw [pw_bin q f n, ← ev_mul]
      refine ev_congr fun k _ => ?_
      rw [Nat.add_sub_add_right, ← Int.mul_assoc, ← Int.pow_succ']
      refine congrArg (q.2 ^ (k + 1) * ·) (pw_congr fun x => congrArg φ ?_)
      rw [show ((k + 1 : Nat) : Int) = (k : Int) + 1 from rfl, Int.add_mul, Int.one_mul]
      omega
    have e2 : pr f (fun x => pw (q :: f) n fun y => φ (x + y)) = ev (pas n) fun k => q.2 ^ k * pw f (n + 1 - k) fun x => φ (k * q.1 + x) := by
      rw [show pr f (fun x => pw (q :: f) n fun y => φ (x + y)) = pr f fun x => ev (pas n) fun k => q.2 ^ k * pw f (n - k) fun z => φ (x + (k * q.1 + z)) from pr_congr fun x _ => pw_bin q f n fun y => φ (x.1 + y), ev_pr]
      refine ev_congr fun k hk => ?_
      rw [pas_len] at hk
      rw [pr_mul, Nat.succ_sub (by omega : k ≤ n)]
      refine congrArg (q.2 ^ k * ·) (pr_congr fun x _ => pw_congr fun y => congrArg φ ?_)
      omega
    rw [e1, e2]
/-- all but the first and the last number go -/
def endsB (p : Int) : List Int → Bool
  | [] => false
  | [c] => c == 1
  | c :: r => c % p == 0 && endsB p r
def pasB (p : Nat) : Bool := match pas p with
  | c :: r => c == 1 && endsB p r
  | [] => false
theorem endsB_ev {p : Int} : ∀ {r : List Int} (F : Nat → Int), endsB p r = true → Eqm p (ev r F) (F (r.length - 1))
  | [c], F, h => by
    have e : c = 1 := by simpa [endsB] using h
    subst e
    exact .of (by simp [ev])
  | c :: d :: r, F, h => by
    have h' : (c % p == 0 && endsB p (d :: r)) = true := h
    rw [Bool.and_eq_true, beq_iff_eq] at h'
    have z := endsB_ev (p := p) (r := d :: r) (fun k => F (k + 1)) h'.2
    have e : Eqm p (c * F 0) 0 := ⟨c / p * F 0, by
      have := Int.mul_ediv_add_emod c p
      rw [h'.1, Int.add_zero] at this
      rw [← Int.mul_assoc, this, Int.sub_zero]⟩
    have w := e.add z
    rw [Int.zero_add] at w
    have el : (d :: r).length - 1 + 1 = (c :: d :: r).length - 1 := by simp
    rw [el] at w
    exact w
theorem pas_eqm {p : Nat} (hp : 0 < p) (h : pasB p = true) (F : Nat → Int) : Eqm p (ev (pas p) F) (F 0 + F p) := by
  unfold pasB at h
  have hl := pas_len p
  cases e : pas p with
  | nil => rw [e] at h; cases h
  | cons c r =>
    rw [e] at h hl
    rw [Bool.and_eq_true, beq_iff_eq] at h
    obtain ⟨h1, h2⟩ := h
    subst h1
    have z := endsB_ev (fun k => F (k + 1)) h2
    have el : r.length - 1 + 1 = p := by
      have hr : r.length = p := by simpa using hl
      omega
    rw [el] at z
    have w := (Eqm.of (p := (p : Int)) (show 1 * F 0 = F 0 by omega)).add z
    exact w
def ferB (p : Nat) : Bool := (List.range p).all fun c => ((c : Int) ^ p) % p == (c : Int) % p
theorem eqm_mod {p a b : Int} (h : a % p = b % p) : Eqm p a b := (Eqm.mod (a := a)).symm.trans ((Eqm.of h).trans .mod)
theorem eqm_mulc {p a b : Int} (h : Eqm p a b) (c : Int) : Eqm p (a * c) (b * c) := by
  rw [Int.mul_comm a, Int.mul_comm b]
  exact h.mul c
theorem eqm_pow {p a b : Int} (h : Eqm p a b) : ∀ n : Nat, Eqm p (a ^ n) (b ^ n)
  | 0 => .of (by rw [Int.pow_zero, Int.pow_zero])
  | n + 1 => by
    rw [Int.pow_succ, Int.pow_succ]
    exact (eqm_mulc (eqm_pow h n) a).trans (h.mul _)
theorem fer_eqm {p : Nat} (hp : 0 < p) (h : ferB p = true) (c : Int) : Eqm p (c ^ p) c := by
  have m0 := Int.emod_nonneg c (show (p : Int) ≠ 0 by omega)
  have m1 := Int.emod_lt_of_pos c (show (0 : Int) < p by omega)
  obtain ⟨k, hk⟩ : ∃ k : Nat, c % p = k := ⟨(c % p).toNat, by omega⟩
  have z := List.all_eq_true.mp h k (List.mem_range.mpr (by omega))
  have e : ((k : Int) ^ p) % p = (k : Int) % p := by simpa using z
  have w : Eqm p ((k : Int) ^ p) k := eqm_mod e
  have v : Eqm p c k := by rw [← hk]; exact Eqm.mod.symm
  exact (eqm_pow v p).trans (w.trans v.symm)
/-- the p-th power, item by item -/
theorem frobG {p : Nat} (hp : 0 < p) (h1 : pasB p = true) (h2 : ferB p = true) (φ : Int → Int) : ∀ f : List (Int × Int), Eqm p (pr f fun x => φ (x * p)) (pw f p φ)
  | [] => by
    obtain ⟨m, rfl⟩ : ∃ m, p = m + 1 := ⟨p - 1, by omega⟩
    exact .rfl
  | q :: f => by
    rw [pr_cons, pw_bin]
    refine Eqm.trans ?_ (pas_eqm hp h1 _).symm
    rw [Int.add_comm]
    refine Eqm.add ?_ ?_
    · refine (frobG hp h1 h2 φ f).trans (.of ?_)
      show pw f p φ = q.2 ^ 0 * pw f (p - 0) fun x => φ ((0 : Nat) * q.1 + x)
      rw [Int.pow_zero, Int.one_mul, Nat.sub_zero]
      exact pw_congr fun x => congrArg φ (by simp)
    · show Eqm p (q.2 * φ (q.1 * p)) (q.2 ^ p * pw f (p - p) fun x => φ ((p : Nat) * q.1 + x))
      rw [Nat.sub_self]
      show Eqm p _ (q.2 ^ p * φ ((p : Nat) * q.1 + 0))
      rw [Int.add_zero, Int.mul_comm (p : Int) q.1]
      exact eqm_mulc (fer_eqm hp h2 q.2).symm _
theorem small_primes : ∀ p ∈ ([2, 3, 5, 7, 11, 13] : List Nat), pasB p = true ∧ ferB p = true := by decide +kernel
end P2
end

section
set_option maxRecDepth 100000
set_option maxHeartbeats 1000000
namespace P2
open PySem L2 ClX
abbrev sBegun : Stmt := top 37
abbrev sMixed : Stmt := top 38
abbrev sTake : Stmt := top 39
abbrev sPick : Stmt := top 40
/-- the built-in names that the draws use -/
structure TxB (mg : Str → Option Value) : Prop where
  abs : mg "abs" = none
  int : mg "int" = none
  len : mg "len" = none
section
variable {P : Program} {w : World} {K : PySem.W.Frag} {mg : Str → Option Value} {base : Heap}
/-- the state of the draws -/
def dKvs (l c : Addr) (r t : Int) : List (Key × V) := [(Sum.inr "large", .ref l), (Sum.inr "rest", .int r), (Sum.inr "cells", .ref c), (Sum.inr "turn", .int t)]
structure DrawAt (H : Hp) (d l c : Addr) : Prop where
  hd : ∃ r t, H d = some (.dK (dKvs l c r t))
  hl : ∃ ls : List Int, H l = some (.lst (ls.map V.int)) ∧ ls.length ≤ 63
  hc : ∃ cs : List Int, H c = some (.lst (cs.map V.int)) ∧ cs.length ≤ 63
  ne : l ≠ c
def spBegun (K : PySem.W.Frag) : Sp := fun vs H Q _ => ∃ (a : Addr) (ns : List Int), vs = [.ref a] ∧ SqL K H a (ns.map V.int) ∧ ns.length ≤ 63 ∧
  ∀ (d l c : Addr) H', H d = none → H l = none → H c = none → DrawAt H' d l c → Same H H' → Q (.ref d) H'
theorem dk_merge (l c : Addr) (r t : Int) : mergeK [] (dKvs l c r t) = dKvs l c r t := by
  have h1 : ¬ ("large" : Str) = "rest" := by decide +kernel
  have h2 : ¬ ("large" : Str) = "cells" := by decide +kernel
  have h3 : ¬ ("large" : Str) = "turn" := by decide +kernel
  have h4 : ¬ ("rest" : Str) = "cells" := by decide +kernel
  have h5 : ¬ ("rest" : Str) = "turn" := by decide +kernel
  have h6 : ¬ ("cells" : Str) = "turn" := by decide +kernel
  simp [mergeK, putK, dKvs, h1, h2, h3, h4, h5, h6]
theorem dk_rest (l c : Addr) (r t x : Int) : putK (dKvs l c r t) (Sum.inr "rest" : Key) (V.int x) = dKvs l c x t := by
  have h1 : ¬ ("large" : Str) = "rest" := by decide +kernel
  have h4 : ¬ ("cells" : Str) = "rest" := by decide +kernel
  have h5 : ¬ ("turn" : Str) = "rest" := by decide +kernel
  simp [putK, dKvs, h1, h4, h5]
theorem dk_turn (l c : Addr) (r t x : Int) : putK (dKvs l c r t) (Sum.inr "turn" : Key) (V.int x) = dKvs l c r x := by
  have h1 : ¬ ("large" : Str) = "turn" := by decide +kernel
  have h4 : ¬ ("cells" : Str) = "turn" := by decide +kernel
  have h5 : ¬ ("rest" : Str) = "turn" := by decide +kernel
  simp [putK, dKvs, h1, h4, h5]
theorem dv_large (l c : Addr) (r t : Int) : valV (dKvs l c r t) (Sum.inr "large" : Key) = some (.ref l) := by
  simp [valV, dKvs]
theorem dv_rest (l c : Addr) (r t : Int) : valV (dKvs l c r t) (Sum.inr "rest" : Key) = some (.int r) := by
  have h1 : ¬ ("large" : Str) = "rest" := by decide +kernel
  simp [valV, dKvs, h1]
theorem dv_cells (l c : Addr) (r t : Int) : valV (dKvs l c r t) (Sum.inr "cells" : Key) = some (.ref c) := by
  have h1 : ¬ ("large" : Str) = "cells" := by decide +kernel
  have h4 : ¬ ("rest" : Str) = "cells" := by decide +kernel
  simp [valV, dKvs, h1, h4]
theorem dv_turn (l c : Addr) (r t : Int) : valV (dKvs l c r t) (Sum.inr "turn" : Key) = some (.int t) := by
  have h1 : ¬ ("large" : Str) = "turn" := by decide +kernel
  have h4 : ¬ ("cells" : Str) = "turn" := by decide +kernel
  have h5 : ¬ ("rest" : Str) = "turn" := by decide +kernel
  simp [valV, dKvs, h1, h4, h5]
theorem dg_large {H : Hp} {d l c : Addr} {r t : Int} (e : H d = some (.dK (dKvs l c r t))) : DGet H d (.str "large") (some (.ref l)) := by
  rw [← dv_large l c r t]; exact DGet.k (k := Sum.inr "large") e
theorem dg_rest {H : Hp} {d l c : Addr} {r t : Int} (e : H d = some (.dK (dKvs l c r t))) : DGet H d (.str "rest") (some (.int r)) := by
  rw [← dv_rest l c r t]; exact DGet.k (k := Sum.inr "rest") e
theorem dg_cells {H : Hp} {d l c : Addr} {r t : Int} (e : H d = some (.dK (dKvs l c r t))) : DGet H d (.str "cells") (some (.ref c)) := by
  rw [← dv_cells l c r t]; exact DGet.k (k := Sum.inr "cells") e
theorem dg_turn {H : Hp} {d l c : Addr} {r t : Int} (e : H d = some (.dK (dKvs l c r t))) : DGet H d (.str "turn") (some (.int t)) := by
  rw [← dv_turn l c r t]; exact DGet.k (k := Sum.inr "turn") e
theorem dp_turn {H : Hp} {d l c : Addr} {r t x : Int} (e : H d = some (.dK (dKvs l c r t))) : DPut H d (.str "turn") (.int x) (upd H d (.dK (dKvs l c r x))) := by
  rw [← dk_turn l c r t x]; exact DPut.k (k := Sum.inr "turn") e (by show 4 < sizeLine; decide)
theorem dp_rest {H : Hp} {d l c : Addr} {r t x : Int} (e : H d = some (.dK (dKvs l c r t))) : DPut H d (.str "rest") (.int x) (upd H d (.dK (dKvs l c x t))) := by
  rw [← dk_rest l c r t x]; exact DPut.k (k := Sum.inr "rest") e (by show 4 < sizeLine; decide)
theorem dp_ints {K : PySem.W.Frag} {H : Hp} : ∀ ns : List Int, DpAll K H (ns.map V.int) (ns.map PyData.int)
  | [] => .nil
  | n :: ns => .cons (.int n) (dp_ints ns)
theorem canLay_ints : ∀ ns : List Int, PyData.canLayAll0 (ns.map PyData.int) = true
  | [] => by simp [PyData.canLayAll0]
  | n :: ns => by simp [PyData.canLayAll0, PyData.canLay0, canLay_ints ns]
theorem depth_ints : ∀ ns : List Int, PyData.depthAll (ns.map PyData.int) = 0
  | [] => by simp [PyData.depthAll]
  | n :: ns => by simp [PyData.depthAll, PyData.depth, depth_ints ns]
theorem shaped_ints (ns : List Int) : SeqAt.shaped (.list (ns.map PyData.int)) = true := by
  simp [SeqAt.shaped, PyData.canLay0, PyData.depth, canLay_ints, depth_ints]
theorem seq0 {n : Nat} (h : 0 < n) : seqIndex? 0 n = some 0 := by
  have h' : (0 : Int) < n := by omega
  simp [seqIndex?, h']
  omega
/-- all but what stands at d is as it was -/
theorem int_at {ns : List Int} {i : Nat} {x : V} (hi : (ns.map V.int)[i]? = some x) : ∃ z, x = V.int z ∧ i < ns.length := by
  rw [List.getElem?_map] at hi
  cases e : ns[i]? with
  | none => rw [e] at hi; cases hi
  | some z => rw [e] at hi; exact ⟨z, (Option.some.inj hi).symm, (List.getElem?_eq_some_iff.mp e).1⟩
theorem scB : FnScope ["script", "large", "grain"] ["script"] (defScope sBegun) := ⟨rfl, rfl, rfl, by decide +kernel, rfl, by decide +kernel, by decide +kernel⟩
theorem ok_begun {f : Addr} {fd : FuncData} (F : Fun K "_law_begun" "_law_begun" sBegun f fd) (T : TxB mg) : FnOk P w K mg base CX0 1 f fd ["script"] (spBegun K) := by
  refine F.ok scB (fun vs H Q E h => ?_) (fun cdv A outer s H vs Q E hr h => ?_)
  · obtain ⟨a, ns, rfl, _⟩ := h
    rfl
  · obtain ⟨a, ns, rfl, hS, hn, k⟩ := h
    refine ⟨_, pss_cons (ps_setLc (i := 1) (own := [("grain", 2)]) (g := gName 2) rfl scB.nd rfl rfl (sw_true rfl rfl rfl (by decide +kernel)) (pi_list (pv 0)) (blkOk_by (own := [("grain", 2)]) (N := ["script", "large", "grain"]) (sc := defScope sBegun) (by decide +kernel))
        (fun _ _ _ _ _ => pg_name (i := 2) scB.nd rfl (Or.inl rfl))
        (fun _ _ _ _ _ => pts_one (pt_cmpR op_ge (pe_callB call_abs (by rfl) T.abs (by decide +kernel) (pa_cons (pv 2) pa_nil)) (pe_op op_pow pe_int pe_int) (nomark _)))
        (fun _ _ _ _ _ => pe_op op_sub (pe_callB call_abs (by rfl) T.abs (by decide +kernel) (pa_cons (pv 2) pa_nil)) (pe_op op_pow pe_int pe_int)))
      (pss_one (ps_ret (pe_disp (pps_cons pe_str (pv 1) (pps_cons pe_str pe_int (pps_cons pe_str (pe_lc (own := [("grain", 2)]) (g := gName 2) (tt := tYes) rfl scB.nd (pi_list (pv 0)) (blkOk_by (own := [("grain", 2)]) (N := ["script", "large", "grain"]) (sc := defScope sBegun) (by decide +kernel))
          (fun _ _ _ _ _ => pg_name (i := 2) scB.nd rfl (Or.inl rfl)) (fun _ _ _ _ _ => pts_nil) (fun _ _ _ _ _ => pe_callB call_abs (by rfl) T.abs (by decide +kernel) (pa_cons (pv 2) pa_nil)))
          (pps_cons pe_str pe_int pps_nil)))) (by rfl) (by rfl) (fun z => by cases z) (by decide)))), ?_⟩
    refine ⟨_, rfl, a, rfl, ⟨_, hS⟩, fun D hD => lc_list (K := K) (a := a) (xs := ns.map V.int) (fun i H' => Same H H' ∧ ∃ ls : List Int, H' D = some (.lst (ls.map V.int)) ∧ ls.length ≤ i) ?_ ?_ ?_ ?_⟩
    · exact ⟨fun b o e => by rw [upd_ne (ne_of_none e hD)]; exact e, [], upd_same, Nat.zero_le _⟩
    · exact fun i H' _ h => h.1.seq hS
    · rintro i x H' hi ⟨S, ls, hL, hle⟩
      obtain ⟨z, rfl, hlt⟩ := int_at hi
      refine ⟨rfl, _, rfl, _, rfl, _, _, rfl, rfl, ⟨by decide, by decide, by decide⟩, _, _, rfl, rfl, _, rfl, ?_⟩
      refine ite2 (fun _ => ?_) (fun _ => ?_)
      · refine ⟨_, rfl, _, rfl, _, _, rfl, rfl, ⟨by decide, by decide, by decide⟩, _, _, rfl, rfl, ?_⟩
        refine ⟨_, hL, ?_, S.put hD, ls ++ [_], by rw [upd_same, List.map_append]; rfl, ?_⟩
        · rw [List.length_map]; exact small1000 (by omega)
        · rw [List.length_append]; simp; omega
      · exact ⟨S, ls, hL, Nat.le_succ_of_le hle⟩
    · rintro H1 ⟨S, ls, hL, hle⟩
      intro d hd
      refine ⟨_, rfl, ?_⟩
      have hDd : D ≠ d := ne_of_none hL hd
      refine ⟨_, rfl, a, rfl, ⟨_, (S.new hd).seq hS⟩, fun c hc => lc_list (K := K) (a := a) (xs := ns.map V.int) (fun i H' => Same (upd H1 d (.dK [])) H' ∧ ∃ cs : List Int, H' c = some (.lst (cs.map V.int)) ∧ cs.length ≤ i) ?_ ?_ ?_ ?_⟩
      · exact ⟨(Same.refl _).put hc, [], upd_same, Nat.zero_le _⟩
      · exact fun i H' _ h => h.1.seq ((S.new hd).seq hS)
      · rintro i x H' hi ⟨S2, cs, hC, hle2⟩
        obtain ⟨z, rfl, hlt⟩ := int_at hi
        refine ⟨rfl, _, rfl, _, rfl, _, hC, ?_, S2.put hc, cs ++ [_], by rw [upd_same, List.map_append]; rfl, ?_⟩
        · rw [List.length_map]; exact small1000 (by omega)
        · rw [List.length_append]; simp; omega
      · rintro H2 ⟨S2, cs, hC, hle2⟩
        rw [List.length_map] at hle hle2
        have hcd : c ≠ d := fun e => by rw [e, upd_same] at hc; cases hc
        have hcD : D ≠ c := fun e => by rw [← e, upd_ne hDd, hL] at hc; cases hc
        refine ⟨S2 _ _ upd_same, dKvs D c 0 0, rfl, (by show 4 ≤ 15; decide), ?_⟩
        refine k d D c _ (S.free hd) hD ?_ ⟨⟨0, 0, by rw [upd_same, dk_merge]⟩, ⟨ls, by rw [upd_ne hDd]; exact S2 _ _ (by rw [upd_ne hDd]; exact hL), by omega⟩, ⟨cs, by rw [upd_ne hcd]; exact hC, by omega⟩, hcD⟩ fun b o e => ?_
        · refine S.free ?_
          rw [upd_ne hcd] at hc
          exact hc
        · have := S _ _ e
          have nd : b ≠ d := ne_of_none this hd
          rw [upd_ne nd]
          exact S2 _ _ (by rw [upd_ne nd]; exact this)
/-- another draw: any number -/
def spMixed : Sp := fun vs H Q _ => ∃ (d l c : Addr), vs = [.ref d] ∧ DrawAt H d l c ∧ ∀ (v : Int) H', DrawAt H' d l c → (∀ b o, H b = some o → b ≠ d → H' b = some o) → Q (.int v) H'
theorem scM : FnScope ["draw", "turn", "found", "great", "blend", "grain"] ["draw"] (defScope sMixed) := ⟨rfl, rfl, rfl, by decide +kernel, rfl, by decide +kernel, by decide +kernel⟩
theorem ok_mixed {f : Addr} {fd : FuncData} (F : Fun K "_law_mixed" "_law_mixed" sMixed f fd) (T : TxB mg) : FnOk P w K mg base CX0 1 f fd ["draw"] spMixed := by
  refine F.ok scM (fun vs H Q E h => ?_) (fun cdv A outer s H vs Q E hr h => ?_)
  · obtain ⟨d, l, c, rfl, _⟩ := h
    rfl
  · obtain ⟨d, l, c, rfl, D, k⟩ := h
    have hu := hu_of hr
    refine ⟨_, pss_cons (ps_dput hu (pv 0) pe_str (pe_op op_add (pe_dget hu (pv 0) pe_str (fun _ _ => rfl)) pe_int) rfl)
      (pss_cons (ps_par (i := 1) (j := 2) (by rfl) scM.nd rfl rfl (by decide) rfl rfl (pa_cons (pe_callTy call_int1 (by rfl) T.int (by decide +kernel) (pa_cons (pe_dget hu (pv 0) pe_str (fun _ _ => rfl)) pa_nil)) (pa_cons pe_int pa_nil)) (by rfl))
      (pss_cons (ps_for PassesOwn.never rfl (pi_list (pe_lst (pa_cons pe_int (pa_cons pe_int (pa_cons pe_int pa_nil))))) (pg_name (i := 3) scM.nd rfl (Or.inl rfl))
        (pss_cons (ps_set (i := 4) scM.nd rfl (Or.inl rfl) (pe_op op_mod (pe_op op_add (pe_op op_mul (pv 1) pe_int) (pe_op op_fdiv (pv 3) pe_int)) (pv 3)))
        (pss_cons (ps_for PassesOwn.never rfl (pi_list (pe_dget hu (pv 0) pe_str (fun _ _ => rfl))) (pg_name (i := 5) scM.nd rfl (Or.inl rfl))
          (pss_one (ps_set (i := 4) scM.nd rfl (Or.inl rfl) (pe_op op_mod (pe_op op_add (pe_op op_mul (pv 4) pe_int) (pe_callTy call_int1 (by rfl) T.int (by decide +kernel) (pa_cons (pv 5) pa_nil))) (pv 3)))))
        (pss_one (ps_set (i := 2) scM.nd rfl (Or.inl rfl) (pe_op op_add (pe_op op_mul (pv 2) pe_int) (pe_op op_mod (pe_op op_pow (pv 4) pe_int) (pv 3))))))))
      (pss_one (ps_ret (pv 2))))), ?_⟩
    obtain ⟨r, t, hd⟩ := D.hd
    obtain ⟨cs, hc, hcl⟩ := D.hc
    obtain ⟨ls, hl, hll⟩ := D.hl
    have hdl : l ≠ d := ne_of hl hd (by intro z; cases z)
    have hdc : c ≠ d := ne_of hc hd (by intro z; cases z)
    refine ⟨_, rfl, d, _, rfl, dg_turn hd, _, _, rfl, rfl, _, rfl, d, _, rfl, dp_turn hd, ?_⟩
    have hd1 : (upd H d (.dK (dKvs l c r (t + 1)))) d = some (.dK (dKvs l c r (t + 1))) := upd_same
    have hS1 : SameX d H (upd H d (.dK (dKvs l c r (t + 1)))) := fun b o e n => by rw [upd_ne n]; exact e
    generalize upd H d (.dK (dKvs l c r (t + 1))) = H1 at hd1 hS1 ⊢
    refine ⟨_, rfl, d, _, rfl, dg_turn hd1, .inl ⟨_, rfl, _, _, rfl, ?_⟩⟩
    refine ⟨by decide, fun p hp => ⟨p, rfl, ⟨_, SqL.of upd_same⟩, for_list (K := K) (a := p) (xs := [V.int 2147483629, V.int 2147483587, V.int 2147483579]) (fun i σ H' => ∃ (f : Int) (g b gr : Option V), σ = [some (.ref d), some (.int (t + 1)), some (.int f), g, b, gr] ∧ Same (upd H1 p (.lst [V.int 2147483629, V.int 2147483587, V.int 2147483579])) H') ?_ ?_ ?_ ?_⟩⟩
    · exact ⟨0, none, none, none, rfl, Same.refl _⟩
    · rintro i σ H' _ ⟨_, _, _, _, _, S⟩
      exact SqL.of (S _ _ upd_same)
    · rintro i x σ H' hi ⟨f, g, b, gr, rfl, S⟩
      obtain ⟨m, rfl, m0, m1⟩ : ∃ m : Int, x = V.int m ∧ 0 < m ∧ m < 2147483648 := by
        match i, hi with
        | 0, hi => cases hi; exact ⟨_, rfl, by decide, by decide⟩
        | 1, hi => cases hi; exact ⟨_, rfl, by decide, by decide⟩
        | 2, hi => cases hi; exact ⟨_, rfl, by decide, by decide⟩
        | n + 3, hi => simp at hi
      have hd2 : H' d = some (.dK (dKvs l c r (t + 1))) := S _ _ (by rw [upd_ne (ne_of_none hd1 hp)]; exact hd1)
      have hc1 : H1 c = some (.lst (cs.map V.int)) := hS1 _ _ hc hdc
      have hc2 : H' c = some (.lst (cs.map V.int)) := S _ _ (by rw [upd_ne (ne_of_none hc1 hp)]; exact hc1)
      refine ⟨_, rfl, _, _, rfl, rfl, .inr ⟨by decide, by decide⟩, _, rfl, _, _, rfl, rfl, ⟨by decide, by decide⟩, _, _, rfl, rfl, _, rfl, _, _, rfl, rfl, m0, ?_⟩
      have b0 := Int.emod_nonneg ((t + 1) * 69621 + m / 7) (Int.ne_of_gt m0)
      have b1 := Int.emod_lt_of_pos ((t + 1) * 69621 + m / 7) m0
      refine ⟨_, rfl, d, _, rfl, dg_cells hd2, c, rfl, ⟨_, SqL.of hc2⟩, for_list (K := K) (a := c) (xs := cs.map V.int) (fun i σ H'' => H'' = H' ∧ ∃ (b : Int) (gr : Option V), σ = [some (.ref d), some (.int (t + 1)), some (.int f), some (.int m), some (.int b), gr] ∧ 0 ≤ b ∧ b < m) ?_ ?_ ?_ ?_⟩
      · exact ⟨rfl, _, gr, rfl, b0, b1⟩
      · rintro i σ H'' _ ⟨rfl, _⟩
        exact SqL.of hc2
      · rintro i x σ H'' hi ⟨rfl, b, gr, rfl, b0, b1⟩
        obtain ⟨z, rfl, _⟩ := int_at hi
        refine ⟨_, rfl, _, _, rfl, rfl, .inr ⟨by decide, by decide⟩, _, rfl, .inl ⟨_, rfl, _, _, rfl, rfl, _, rfl, _, _, rfl, rfl, m0, ?_⟩⟩
        exact ⟨rfl, _, _, rfl, Int.emod_nonneg _ (Int.ne_of_gt m0), Int.emod_lt_of_pos _ m0⟩
      · rintro σ H'' ⟨rfl, b, gr, rfl, b0, b1⟩
        refine ⟨_, rfl, _, _, rfl, rfl, .inr ⟨by decide, by decide⟩, _, rfl, _, _, rfl, rfl, ⟨by decide, by decide, by omega⟩, _, rfl, _, _, rfl, rfl, m0, _, _, rfl, rfl, ?_⟩
        exact ⟨_, _, _, _, rfl, S⟩
    · rintro σ H' ⟨f, g, b, gr, rfl, S⟩
      refine ⟨_, rfl, ?_⟩
      have up : ∀ b o, H1 b = some o → H' b = some o := fun b o e => S _ _ (by rw [upd_ne (ne_of_none e hp)]; exact e)
      exact k f H' ⟨⟨r, t + 1, up _ _ hd1⟩, ⟨ls, up _ _ (hS1 _ _ hl hdl), hll⟩, ⟨cs, up _ _ (hS1 _ _ hc hdc), hcl⟩, D.ne⟩ fun b o e n => up _ _ (hS1 _ _ e n)
/-- a draw below amount -/
def spTake : Sp := fun vs H Q _ => ∃ (d l c : Addr) (n : Int), vs = [.ref d, .int n] ∧ 0 < n ∧ n < 1073741824 ∧ DrawAt H d l c ∧ ∀ (v : Int) H', 0 ≤ v → v < n → DrawAt H' d l c → (∀ b o, H b = some o → b ≠ d → b ≠ l → H' b = some o) → Q (.int v) H'
theorem scT : FnScope ["draw", "amount", "found"] ["draw", "amount"] (defScope sTake) := ⟨rfl, rfl, rfl, by decide +kernel, rfl, by decide +kernel, by decide +kernel⟩
theorem ok_take {f fM : Addr} {fd fdM : FuncData} (F : Fun K "_law_take" "_law_take" sTake f fd) (T : TxB mg) (FM : Fun K "_law_mixed" "_law_mixed" sMixed fM fdM) (bM : Binds K fdM ["draw"] []) (gM : mg "_law_mixed" = some (.ref fM)) :
    FnOk P w K mg base CX0 2 f fd ["draw", "amount"] spTake := by
  have GM : FnOk P w K mg base CX0 1 fM fdM ["draw"] spMixed := ok_mixed FM T
  refine F.ok scT (fun vs H Q E h => ?_) (fun cdv A outer s H vs Q E hr h => ?_)
  · obtain ⟨d, l, c, n, rfl, _⟩ := h
    rfl
  · obtain ⟨d, l, c, n, rfl, n0, n1, D, k⟩ := h
    have hu := hu_of hr
    refine ⟨_, Evl.pss_cut (ps_if (pt_cmpR op_eq (pe_dget hu (pv 0) pe_str (fun _ _ => rfl)) pe_int (nomark _))
        (pss_one (ps_dput hu (pv 0) pe_str (pe_ifExp (pt_cmpR (op_neD hr.units) (pe_dget hu (pv 0) pe_str (fun _ _ => rfl)) (pe_lst pa_nil) (nomark _))
            (pe_bm PySem.F.plainAttrs_list PySem.F.slot_list_pop PySem.F.type_list_pop mt_popAt (pe_dget hu (pv 0) pe_str (fun _ _ => rfl)) (pa_cons pe_int pa_nil))
            (pe_call GM hr rfl gM FM.kp bM .nil pass0 (pa_cons (pv 0) pa_nil))) rfl)) pss_nil)
      (pss_cons (ps_set (i := 2) scT.nd rfl (Or.inl rfl) (pe_op op_mod (pe_callTy call_int1 (by rfl) T.int (by decide +kernel) (pa_cons (pe_dget hu (pv 0) pe_str (fun _ _ => rfl)) pa_nil)) (pv 1)))
      (pss_cons (ps_dput hu (pv 0) pe_str (pe_op op_fdiv (pe_callTy call_int1 (by rfl) T.int (by decide +kernel) (pa_cons (pe_dget hu (pv 0) pe_str (fun _ _ => rfl)) pa_nil)) (pv 1)) rfl)
      (pss_one (ps_ret (pv 2))))), ?_⟩
    obtain ⟨r, t, hd⟩ := D.hd
    obtain ⟨ls, hl, hll⟩ := D.hl
    obtain ⟨cs, hc, hcl⟩ := D.hc
    have hdl : l ≠ d := ne_of hl hd (by intro z; cases z)
    have hdc : c ≠ d := ne_of hc hd (by intro z; cases z)
    refine ⟨fun σ H2 => σ = [some (.ref d), some (.int n), none] ∧ DrawAt H2 d l c ∧ ∀ b o, H b = some o → b ≠ d → b ≠ l → H2 b = some o, ?_, ?_⟩
    · refine ⟨_, rfl, d, _, rfl, dg_rest hd, rfl, _, rfl, ite2 (fun _ => ?_) (fun _ => ?_)⟩
      · cases ls with
        | nil =>
          refine ⟨_, rfl, d, _, rfl, dg_large hd, Nat.zero_le _, fun p hp => ⟨.list [], .list [], .lst (SqL.of (by rw [upd_ne (ne_of_none hl hp)]; exact hl)) .nil, .lst (SqL.of upd_same) .nil, rfl, rfl, _, rfl, ?_⟩⟩
          refine iteF ?_
          have hdp : (upd H p (.lst [])) d = some (.dK (dKvs l c r t)) := by rw [upd_ne (ne_of_none hd hp)]; exact hd
          refine ⟨_, rfl, d, l, c, rfl, ⟨⟨r, t, hdp⟩, ⟨[], by rw [upd_ne (ne_of_none hl hp)]; exact hl, hll⟩, ⟨cs, by rw [upd_ne (ne_of_none hc hp)]; exact hc, hcl⟩, D.ne⟩, fun v H' D' S' => ?_⟩
          obtain ⟨r', t', hd'⟩ := D'.hd
          obtain ⟨ls', hl', hll'⟩ := D'.hl
          obtain ⟨cs', hc', hcl'⟩ := D'.hc
          refine ⟨_, rfl, d, _, rfl, dp_rest hd', ?_⟩
          refine ⟨rfl, ⟨⟨_, _, upd_same⟩, ⟨ls', by rw [upd_ne hdl]; exact hl', hll'⟩, ⟨cs', by rw [upd_ne hdc]; exact hc', hcl'⟩, D.ne⟩, fun b o e n1 n2 => ?_⟩
          rw [upd_ne n1]
          exact S' _ _ (by rw [upd_ne (ne_of_none e hp)]; exact e) n1
        | cons z zs =>
          refine ⟨_, rfl, d, _, rfl, dg_large hd, Nat.zero_le _, fun p hp => ⟨.list ((z :: zs).map PyData.int), .list [], .lst (SqL.of (by rw [upd_ne (ne_of_none hl hp)]; exact hl)) (dp_ints _), .lst (SqL.of upd_same) .nil, shaped_ints _, rfl, _, rfl, ?_⟩⟩
          refine iteT ?_
          have hdp : (upd H p (.lst [])) d = some (.dK (dKvs l c r t)) := by rw [upd_ne (ne_of_none hd hp)]; exact hd
          have hlp : (upd H p (.lst [])) l = some (.lst ((z :: zs).map V.int)) := by rw [upd_ne (ne_of_none hl hp)]; exact hl
          refine ⟨_, rfl, d, _, rfl, dg_large hdp, .inl ⟨rfl, _, SqL.of hlp⟩, l, _, 0, 0, V.int z, rfl, rfl, hlp, by decide, by decide, seq0 (by simp), rfl, ?_⟩
          have hdq : ∀ o, (upd (upd H p (.lst [])) l o) d = some (.dK (dKvs l c r t)) := fun o => by rw [upd_ne hdl.symm]; exact hdp
          refine ⟨_, rfl, d, _, rfl, dp_rest (hdq _), ?_⟩
          refine ⟨rfl, ⟨⟨_, _, upd_same⟩, ⟨zs, by rw [upd_ne hdl, upd_same]; rfl, by simp at hll; omega⟩, ⟨cs, by rw [upd_ne hdc, upd_ne D.ne.symm, upd_ne (ne_of_none hc hp)]; exact hc, hcl⟩, D.ne⟩, fun b o e n1 n2 => ?_⟩
          rw [upd_ne n1, upd_ne n2, upd_ne (ne_of_none e hp)]
          exact e
      · exact ⟨rfl, D, fun _ _ e _ _ => e⟩
    · rintro σ H2 ⟨rfl, D2, S2⟩
      obtain ⟨r2, t2, hd2⟩ := D2.hd
      obtain ⟨ls2, hl2, hll2⟩ := D2.hl
      obtain ⟨cs2, hc2, hcl2⟩ := D2.hc
      refine ⟨_, rfl, d, _, rfl, dg_rest hd2, .inl ⟨_, rfl, _, rfl, _, _, rfl, rfl, n0, ?_⟩⟩
      refine ⟨_, rfl, d, _, rfl, dg_rest hd2, .inl ⟨_, rfl, _, rfl, _, _, rfl, rfl, ⟨n0, n1⟩, _, rfl, d, _, rfl, dp_rest hd2, _, rfl, ?_⟩⟩
      refine k _ _ (Int.emod_nonneg _ (Int.ne_of_gt n0)) (Int.emod_lt_of_pos _ n0) ⟨⟨_, _, upd_same⟩, ⟨ls2, by rw [upd_ne hdl]; exact hl2, hll2⟩, ⟨cs2, by rw [upd_ne hdc]; exact hc2, hcl2⟩, D.ne⟩ fun b o e m1 m2 => ?_
      rw [upd_ne m1]
      exact S2 _ _ e m1 m2
/-- one of some things -/
def spPick (K : PySem.W.Frag) : Sp := fun vs H Q _ => ∃ (d l c p : Addr) (xs : List V), vs = [.ref d, .ref p] ∧ H p = some (.lst xs) ∧ p ≠ l ∧ 0 < xs.length ∧ xs.length < 1000 ∧ DrawAt H d l c ∧
  ∀ (v : V) H', v ∈ xs → DrawAt H' d l c → (∀ b o, H b = some o → b ≠ d → b ≠ l → H' b = some o) → Q v H'
theorem scP : FnScope ["draw", "some"] ["draw", "some"] (defScope sPick) := ⟨rfl, rfl, rfl, by decide +kernel, rfl, by decide +kernel, by decide +kernel⟩
theorem ok_pick {f fT : Addr} {fd fdT : FuncData} (F : Fun K "_law_pick" "_law_pick" sPick f fd) (T : TxB mg) (GT : FnOk P w K mg base CX0 2 fT fdT ["draw", "amount"] spTake) (kT : PySem.W.keepIn K (.ref fT) = true) (bT : Binds K fdT ["draw", "amount"] []) (gT : mg "_law_take" = some (.ref fT)) :
    FnOk P w K mg base CX0 3 f fd ["draw", "some"] (spPick K) := by
  refine F.ok scP (fun vs H Q E h => ?_) (fun cdv A outer s H vs Q E hr h => ?_)
  · obtain ⟨d, l, c, p, xs, rfl, _⟩ := h
    rfl
  · obtain ⟨d, l, c, p, xs, rfl, hp, hpl, h0, h1, D, k⟩ := h
    have hu := hu_of hr
    refine ⟨_, pss_one (ps_ret (pe_ix ix_list (pv 1) (pe_call GT hr rfl gT kT bT .nil pass0 (pa_cons (pv 0) (pa_cons (pe_callB call_len_seq (by rfl) T.len PySem.boot_len (pa_cons (pv 1) pa_nil)) pa_nil))) (fun _ _ => rfl))), ?_⟩
    obtain ⟨r, t, hd⟩ := D.hd
    have npd : p ≠ d := ne_of hp hd (by intro z; cases z)
    refine ⟨_, rfl, _, rfl, _, rfl, p, _, rfl, .inl (SqL.of hp), d, l, c, _, rfl, by omega, by omega, D, fun v H' v0 v1 D' S' => ?_⟩
    have hp' := S' _ _ hp npd hpl
    obtain ⟨j, hj⟩ : ∃ j : Nat, v = j := ⟨v.toNat, by omega⟩
    subst hj
    have hjl : j < xs.length := by omega
    refine ⟨p, xs, _, xs[j], rfl, rfl, SqL.of hp', atI_nat (by simp [hjl]), k _ _ (List.getElem_mem _) D' S'⟩
end
end P2
end

section
set_option maxRecDepth 100000
set_option maxHeartbeats 2000000
namespace P2
open PySem L2 ClX
section
variable {P : Program} {w : World} {K : PySem.W.Frag} {mg : Str → Option Value} {base : Heap} {bp C B M N : Addr}
/-- the heap behind some draws -/
def Drawn (d l : Addr) (H H' : Hp) : Prop := ∀ b o, H b = some o → b ≠ d → b ≠ l → H' b = some o
abbrev fields : List Int := [2, 3, 3, 5, 5, 7, 7, 11, 13, 97]
def spField : Sp := fun vs H Q _ => ∃ (d l c : Addr), vs = [.ref d] ∧ DrawAt H d l c ∧ ∀ (p : Int) H', p ∈ fields → DrawAt H' d l c → Drawn d l H H' → Q (.int p) H'
theorem sc42 : FnScope ["draw"] ["draw"] (defScope (top 42)) := ⟨rfl, rfl, rfl, by decide +kernel, rfl, by decide +kernel, by decide +kernel⟩
theorem ok_field {f fP : Addr} {fd dP : FuncData} (F : Fun K "_law_field" "_law_field" (top 42) f fd) (GP : FnOk P w K mg base CX0 3 fP dP ["draw", "some"] (spPick K)) (kP : PySem.W.keepIn K (.ref fP) = true) (bP : Binds K dP ["draw", "some"] []) (gP : mg "_law_pick" = some (.ref fP)) :
    FnOk P w K mg base CX0 4 f fd ["draw"] spField := by
  refine F.ok sc42 (fun vs H Q E h => ?_) (fun cdv A outer s H vs Q E hr h => ?_)
  · obtain ⟨d, l, c, rfl, _⟩ := h
    rfl
  · obtain ⟨d, l, c, rfl, D, k⟩ := h
    refine ⟨_, pss_one (ps_ret (pe_call GP hr rfl gP kP bP .nil pass0 (pa_cons (pv 0) (pa_cons (pe_lst (pa_cons pe_int (pa_cons pe_int (pa_cons pe_int (pa_cons pe_int (pa_cons pe_int (pa_cons pe_int (pa_cons pe_int (pa_cons pe_int (pa_cons pe_int (pa_cons pe_int pa_nil))))))))))) pa_nil)))), ?_⟩
    obtain ⟨r, t, hd⟩ := D.hd
    obtain ⟨ls, hl, hll⟩ := D.hl
    obtain ⟨cs, hc, hcl⟩ := D.hc
    refine ⟨_, rfl, by decide, fun p hp => ?_⟩
    have S : Same H (upd H p (.lst (fields.map V.int))) := (Same.refl _).put hp
    refine ⟨d, l, c, p, fields.map V.int, rfl, upd_same, (fun z => by rw [z, hl] at hp; cases hp), by decide, by decide, ⟨⟨r, t, S _ _ hd⟩, ⟨ls, S _ _ hl, hll⟩, ⟨cs, S _ _ hc, hcl⟩, D.ne⟩, fun v H' hv D' S' => ?_⟩
    obtain ⟨i, hi, rfl⟩ := List.mem_map.mp hv
    exact k i H' hi D' fun b o e n1 n2 => S' _ _ (S _ _ e) n1 n2
end
end P2
end

section
set_option maxRecDepth 100000
set_option maxHeartbeats 2000000
namespace P2
open PySem L2 ClX
/-- the rows of n entries with a sum, as the law lists them -/
def rowsL : Nat → Nat → List (List Int)
  | 0, _ => []
  | 1, t => [[(t : Int)]]
  | n + 2, t => (List.range (t + 1)).flatMap fun i => (rowsL (n + 1) (t - i)).map fun r => (i : Int) :: r
def rowsP (n t i : Nat) : List (List Int) := (List.range i).flatMap fun j => (rowsL n (t - j)).map fun r => (j : Int) :: r
theorem rowsL_step (n t : Nat) : rowsL (n + 2) t = rowsP (n + 1) t (t + 1) := by
  rw [rowsL]
  rfl
theorem rowsP_succ (n t i : Nat) : rowsP n t (i + 1) = rowsP n t i ++ (rowsL n (t - i)).map fun r => (i : Int) :: r := by
  unfold rowsP
  rw [List.range_succ, List.flatMap_append]
  simp
/-- rows stand in memory -/
def RowsAt (H : Hp) (bs : List Addr) (rs : List (List Int)) : Prop := bs.length = rs.length ∧ ∀ (i : Nat) (b : Addr) (r : List Int), bs[i]? = some b → rs[i]? = some r → H b = some (.tup (r.map V.int))
theorem RowsAt.same {H H' : Hp} {bs : List Addr} {rs : List (List Int)} (h : RowsAt H bs rs) (S : Same H H') : RowsAt H' bs rs := ⟨h.1, fun i b r h1 h2 => S _ _ (h.2 i b r h1 h2)⟩
theorem RowsAt.nil {H : Hp} : RowsAt H [] [] := ⟨rfl, fun i b r h _ => by simp at h⟩
theorem RowsAt.append {H : Hp} {bs cs : List Addr} {rs ss : List (List Int)} (h : RowsAt H bs rs) (g : RowsAt H cs ss) : RowsAt H (bs ++ cs) (rs ++ ss) := by
  refine ⟨by rw [List.length_append, List.length_append, h.1, g.1], fun i b r h1 h2 => ?_⟩
  by_cases hi : i < bs.length
  · rw [List.getElem?_append_left hi] at h1
    rw [List.getElem?_append_left (by rw [← h.1]; exact hi)] at h2
    exact h.2 i b r h1 h2
  · rw [List.getElem?_append_right (by omega)] at h1
    rw [List.getElem?_append_right (by rw [← h.1]; omega)] at h2
    rw [← h.1] at h2
    exact g.2 _ b r h1 h2
theorem RowsAt.one {H : Hp} {b : Addr} {r : List Int} (h : H b = some (.tup (r.map V.int))) : RowsAt H [b] [r] := ⟨rfl, fun i b2 r2 h1 h2 => by
  cases i with
  | zero => cases h1; cases h2; exact h
  | succ i => simp at h1⟩
theorem RowsAt.get {H : Hp} {bs : List Addr} {rs : List (List Int)} (h : RowsAt H bs rs) {i : Nat} {x : V} (hx : (bs.map V.ref)[i]? = some x) : ∃ b r, x = .ref b ∧ bs[i]? = some b ∧ rs[i]? = some r ∧ H b = some (.tup (r.map V.int)) := by
  rw [List.getElem?_map] at hx
  obtain ⟨b, hb, rfl⟩ := Option.map_eq_some_iff.mp hx
  have hi := (List.getElem?_eq_some_iff.mp hb).1
  have hr : rs[i]? = some (rs[i]'(by rw [← h.1]; exact hi)) := List.getElem?_eq_getElem _
  exact ⟨b, _, rfl, hb, hr, h.2 i b _ hb hr⟩
theorem rows_small : ∀ n, n < 5 → ∀ t, t < 7 → (rowsL n t).length ≤ 1000 ∧ ∀ i, i < 8 → (rowsP n t i).length ≤ 1000 := by decide +kernel
theorem rows_facts : ∀ n, n < 5 → ∀ t, t < 7 → ∀ r ∈ rowsL n t, r.length = n ∧ (∀ e ∈ r, 0 ≤ e) ∧ r.sum = t := by decide +kernel
section
variable {P : Program} {w : World} {K : PySem.W.Frag} {mg : Str → Option Value} {base : Heap} {bp C B M N : Addr}
def spRows (n : Nat) : Sp := fun vs H Q _ => ∃ (x y : Int) (t : Nat), vs = [.int x, .int y] ∧ x = n ∧ y = t ∧ 1 ≤ n ∧ n ≤ 4 ∧ t ≤ 6 ∧ ∀ p H' bs, Same H H' → H p = none → H' p = some (.lst (bs.map V.ref)) → RowsAt H' bs (rowsL n t) → Q (.ref p) H'
abbrev NRO : List Str := ["wide_here", "total", "found", "item", "rest"]
end
end P2
end

section
set_option maxRecDepth 100000
set_option maxHeartbeats 2000000
namespace P2
open PySem L2 ClX
section
variable {P : Program} {w : World} {K : PySem.W.Frag} {mg : Str → Option Value} {base : Heap} {bp C B M N : Addr}
/-- the terms that stand modulo p, rows ascending: a new dict -/
def spTidied : Sp := fun vs H Q _ => ∃ (p : Int) (a : Addr) (ts : List (List Int × Int)), vs = [.int p, .ref a] ∧ 0 < p ∧ H a = some (.dT (rK ts)) ∧ (ts.map (·.1)).Nodup ∧ (∀ q ∈ ts, q.1 ≠ []) ∧ ts.length ≤ 1000000 ∧
  ∀ D H' ys, List.Perm ys (ts.map (·.1)) → Asc ys → Same H H' → H D = none → H' D = some (.dT (rK (tidyOf p ts ys))) → Q (.ref D) H'
abbrev NTD : List Str := ["field", "terms_here", "found", "row"]
end
end P2
end

section
set_option maxRecDepth 100000
set_option maxHeartbeats 2000000
namespace P2
open PySem L2 ClX
/-- terms as data -/
def termsD (ts : List (List Int × Int)) : PyData := .dict (ts.map fun q => (.tuple (q.1.map .int), .int q.2))
/-- their text is of a fair size -/
structure Shows (ts : List (List Int × Int)) : Prop where
  s : (termsD ts).showable = true
  d : (termsD ts).depth ≤ 20
  l : (termsD ts).shown.length ≤ sizeLine
section
variable {P : Program} {w : World} {K : PySem.W.Frag} {mg : Str → Option Value} {base : Heap} {bp C B M N : Addr}
theorem dr_rows {H : Hp} : ∀ ts : List (List Int × Int), DrKt True K H (rK ts) (ts.map fun q => (.tuple (q.1.map .int), .int q.2))
  | [] => .nil
  | q :: ts => by
    have z := DrKt.cons (k := rowK q.1) (Dr.int (b := True) (K := K) (H := H) q.2) (dr_rows ts)
    have e : (rowK q.1).map keyD = q.1.map PyData.int := by
      unfold rowK
      rw [List.map_map]
      rfl
    rw [e] at z
    exact z
theorem dr_terms {H : Hp} {a : Addr} {ts : List (List Int × Int)} (h : H a = some (.dT (rK ts))) : Dr True K H (.ref a) (termsD ts) := .dctT h (dr_rows ts)
/-- the law's look at a polynomial, where it is as due -/
def spIsPoly (C : Addr) : Sp := fun vs H Q _ => ∃ (a t : Addr) (p n : Int) (ts raw : List (List Int × Int)), vs = [.ref a, .int p, .int n, .ref t] ∧ PolyAt H C a p n ts ∧ H t = some (.dT (rK raw)) ∧ 0 < p ∧ (raw.map (·.1)).Nodup ∧ (∀ q ∈ raw, q.1 ≠ []) ∧ raw.length ≤ 1000000 ∧
  (ts.map (·.1)).Nodup ∧ ts.length ≤ 1000000 ∧ Shows ts ∧ (∀ ys, List.Perm ys (raw.map (·.1)) → Asc ys → tidyOf p raw ys = ts) ∧ ∀ H', Same H H' → Q (.bl true) H'
end
end P2
end

section
set_option maxRecDepth 100000
set_option maxHeartbeats 2000000
namespace P2
open PySem L2 ClX
/-- what a row hashes to -/
def rowHash (r : List Int) : Int := reduceHash (Builtin.Tuple.tupleHashOf (r.map fun i => hashInt i))
theorem hash_row (P : Program) (w : World) (r : List Int) : (tupleKind (mixKind P w)).hash (rowK r) = rowHash r := by
  show reduceHash (Builtin.Tuple.tupleHashOf ((rowK r).map (mixKind P w).hash)) = _
  unfold rowK rowHash
  rw [List.map_map]
  rfl
def rows4 (n : Nat) : List (List Int) := (List.range 7).flatMap (rowsL n)
theorem rows4_apart : ∀ n, n < 4 → ((rows4 n).map rowHash).Nodup := by decide +kernel
theorem inj_of_nodup {α β : Type} {f : α → β} : ∀ {l : List α}, (l.map f).Nodup → ∀ x ∈ l, ∀ y ∈ l, f x = f y → x = y
  | [], _, _, h, _, _, _ => by cases h
  | a :: l, n, x, hx, y, hy, e => by
    rw [List.map_cons, List.nodup_cons] at n
    rcases List.mem_cons.mp hx with ex | hx <;> rcases List.mem_cons.mp hy with ey | hy
    · rw [ex, ey]
    · exact absurd (List.mem_map.mpr ⟨y, hy, by rw [← e, ex]⟩) n.1
    · exact absurd (List.mem_map.mpr ⟨x, hx, by rw [e, ey]⟩) n.1
    · exact inj_of_nodup n.2 x hx y hy e
/-- rows of small sums -/
def Four (n : Nat) (ts : List (List Int × Int)) : Prop := ∀ q ∈ ts, q.1 ∈ rows4 n
theorem four_apart {P : Program} {w : World} {n : Nat} (hn : n < 4) {ts : List (List Int × Int)} (nd : (ts.map (·.1)).Nodup) (h : Four n ts) : ((rK ts).map fun x => (tupleKind (mixKind P w)).hash x.1).Nodup := by
  have e : ((rK ts).map fun x => (tupleKind (mixKind P w)).hash x.1) = (ts.map (·.1)).map rowHash := by
    unfold rK asK
    rw [List.map_map, List.map_map]
    exact List.map_congr_left fun q _ => hash_row P w q.1
  rw [e]
  refine nodup_inj (fun x hx y hy z => ?_) nd
  obtain ⟨a, ha, rfl⟩ := List.mem_map.mp hx
  obtain ⟨b, hb, rfl⟩ := List.mem_map.mp hy
  exact inj_of_nodup (rows4_apart n hn) _ (h a ha) _ (h b hb) z
theorem four_row {n : Nat} (hn : n < 4) {r : List Int} (h : r ∈ rows4 n) : r.length = n ∧ (∀ e ∈ r, 0 ≤ e) ∧ 0 ≤ r.sum ∧ r.sum ≤ 6 := by
  obtain ⟨t, ht, hr⟩ := List.mem_flatMap.mp h
  have t5 := List.mem_range.mp ht
  obtain ⟨a, b, c⟩ := rows_facts n (by omega) t t5 r hr
  exact ⟨a, b, by omega, by omega⟩
/-- each row of this length and a small sum is among them -/
theorem mem_rowsL : ∀ {n t : Nat} {r : List Int}, r.length = n → (∀ e ∈ r, 0 ≤ e) → r.sum = t → 1 ≤ n → r ∈ rowsL n t
  | 0, _, _, _, _, _, h => absurd h (by decide)
  | 1, t, r, hl, h0, hs, _ => by
    match r, hl with
    | [x], _ =>
      have e : x = (t : Int) := by simpa using hs
      rw [e]
      exact List.mem_singleton.mpr rfl
  | n + 2, t, r, hl, h0, hs, _ => by
    match r, hl with
    | x :: r, hl =>
      have hx := h0 x List.mem_cons_self
      have hr : ∀ e ∈ r, 0 ≤ e := fun e he => h0 e (List.mem_cons_of_mem _ he)
      rw [List.sum_cons] at hs
      have s0 := (le_sum hr).2
      obtain ⟨i, rfl⟩ : ∃ i : Nat, x = i := ⟨x.toNat, by omega⟩
      have z := mem_rowsL (n := n + 1) (t := t - i) (r := r) (by simpa using hl) hr (by omega) (by omega)
      rw [rowsL]
      refine List.mem_flatMap.mpr ⟨i, List.mem_range.mpr (by omega), List.mem_map.mpr ⟨r, z, rfl⟩⟩
theorem four_of {n : Nat} (h1 : 1 ≤ n) {r : List Int} (hl : r.length = n) (h0 : ∀ e ∈ r, 0 ≤ e) (hs : r.sum ≤ 6) : r ∈ rows4 n := by
  have s0 := (le_sum h0).2
  obtain ⟨t, ht⟩ : ∃ t : Nat, r.sum = t := ⟨r.sum.toNat, by omega⟩
  exact List.mem_flatMap.mpr ⟨t, List.mem_range.mpr (by omega), mem_rowsL hl h0 ht h1⟩
end P2
end

section
set_option maxRecDepth 100000
set_option maxHeartbeats 2000000
namespace P2
open PySem L2 ClX
/-- one, and two so many times -/
def addL (A B : List (List Int × Int)) (c : Int) : List (List Int × Int) := B.foldl (fun m q => addA m q.1 (c * q.2)) A
theorem addL_nd {A : List (List Int × Int)} (B : List (List Int × Int)) (c : Int) (h : (A.map (·.1)).Nodup) : ((addL A B c).map (·.1)).Nodup := nodup_addF (fun q : List Int × Int => (q.1, c * q.2)) B h
theorem addL_four {n : Nat} {A B : List (List Int × Int)} {c : Int} (h : Four n A) (g : Four n B) : Four n (addL A B c) := keys_addF (Φ := fun r => r ∈ rows4 n) (fun q : List Int × Int => (q.1, c * q.2)) B h g
theorem addL_len (B : List (List Int × Int)) (c : Int) : ∀ A : List (List Int × Int), (addL A B c).length ≤ A.length + B.length := by
  induction B with
  | nil => exact fun A => Nat.le_refl _
  | cons q B ih =>
    intro A
    have h1 := ih (addA A q.1 (c * q.2))
    have h2 := addA_len A q.1 (c * q.2)
    show (addL (addA A q.1 (c * q.2)) B c).length ≤ _
    rw [List.length_cons]
    omega
theorem addL_pr {A : List (List Int × Int)} (B : List (List Int × Int)) (c : Int) (h : (A.map (·.1)).Nodup) (φ : List Int → Int) : pr (addL A B c) φ = pr A φ + c * pr B φ := by
  unfold addL
  rw [pr_fold (fun q : List Int × Int => (q.1, c * q.2)) φ B h]
  congr 1
  rw [← pr_scale]
  congr 1
  exact List.map_congr_left fun q _ => by rw [Int.mul_comm]
theorem four_ne {n : Nat} (h1 : 1 ≤ n) (hn : n < 4) {ts : List (List Int × Int)} (h : Four n ts) : ∀ q ∈ ts, q.1 ≠ [] := fun q hq e => by
  have z := (four_row hn (h q hq)).1
  rw [e] at z
  exact absurd z (by show (0 : Nat) ≠ n; omega)
theorem cmul60 {x : Int} (y : Int) (a : -(2 ^ 60) < x) (b : x < 2 ^ 60) : CMul x y := .inl ⟨by omega, by omega⟩
section
variable {P : Program} {w : World} {K : PySem.W.Frag} {mg : Str → Option Value} {base : Heap} {bp C B M N : Addr}
def spAdded (n : Nat) : Sp := fun vs H Q _ => ∃ (p c : Int) (a b : Addr) (A B : List (List Int × Int)), vs = [.int p, .ref a, .ref b, .int c] ∧ 0 < p ∧ H a = some (.dT (rK A)) ∧ H b = some (.dT (rK B)) ∧ (A.map (·.1)).Nodup ∧ (B.map (·.1)).Nodup ∧ Four n A ∧ Four n B ∧ A.length ≤ 1000 ∧ B.length ≤ 1000 ∧ -(2 ^ 60) < c ∧ c < 2 ^ 60 ∧
  ∀ D H', Same H H' → H D = none → H' D = some (.dT (rK (tid p (addL A B c)))) → Q (.ref D) H'
abbrev NAD : List Str := ["field", "one", "two", "many_here", "found", "row"]
end
end P2
end

section
set_option maxRecDepth 100000
set_option maxHeartbeats 2000000
namespace P2
open PySem L2 ClX
theorem walk_zipT {K : PySem.W.Frag} {a b : Addr} {xs ys : List V} {n : Nat} (hn : n = min xs.length ys.length) : Walk (RZ.ItzT K a b) n (fun H => SqT K H a xs ∧ SqT K H b ys) (YPair (fun i => xs[i]?) (fun i => ys[i]?)) := by
  subst hn
  refine ⟨fun i _ hi q => ?_, fun _ q => ⟨xs, ys, q.1, q.2, by omega⟩, fun i H v H' _ q y => ?_⟩
  · have h1 : i < xs.length := by omega
    have h2 : i < ys.length := by omega
    exact ⟨xs, ys, xs[i], ys[i], q.1, q.2, by simp [h1], by simp [h2]⟩
  · obtain ⟨T, x, z, h1, h2, h3, h4, h5⟩ := y
    exact ⟨T, x, z, h1, h2, h3, h4 xs q.1, h5 ys q.2⟩
/-- one term times all of B, added -/
def rowM (q : List Int × Int) (B m : List (List Int × Int)) : List (List Int × Int) := B.foldl (fun m g => addA m (addR q.1 g.1) (q.2 * g.2)) m
def mulL (A B : List (List Int × Int)) : List (List Int × Int) := A.foldl (fun m q => rowM q B m) []
theorem rowM_nd (q : List Int × Int) (B : List (List Int × Int)) {m : List (List Int × Int)} (h : (m.map (·.1)).Nodup) : ((rowM q B m).map (·.1)).Nodup := nodup_addF (fun g : List Int × Int => (addR q.1 g.1, q.2 * g.2)) B h
theorem rowM_pr (q : List Int × Int) (B : List (List Int × Int)) {m : List (List Int × Int)} (h : (m.map (·.1)).Nodup) (φ : List Int → Int) : pr (rowM q B m) φ = pr m φ + q.2 * pr B fun b => φ (addR q.1 b) := by
  unfold rowM
  rw [pr_fold (fun g : List Int × Int => (addR q.1 g.1, q.2 * g.2)) φ B h]
  congr 1
  clear h
  induction B with
  | nil =>
    show (0 : Int) = q.2 * 0
    omega
  | cons g B ih => rw [List.map_cons, pr_cons, pr_cons, ih, Int.mul_add, Int.mul_assoc]
theorem mulF_nd (B : List (List Int × Int)) : ∀ (A : List (List Int × Int)) {m : List (List Int × Int)}, (m.map (·.1)).Nodup → ((A.foldl (fun m q => rowM q B m) m).map (·.1)).Nodup
  | [], _, h => h
  | q :: A, _, h => mulF_nd B A (rowM_nd q B h)
theorem mulF_pr (B : List (List Int × Int)) (φ : List Int → Int) : ∀ (A : List (List Int × Int)) {m : List (List Int × Int)}, (m.map (·.1)).Nodup → pr (A.foldl (fun m q => rowM q B m) m) φ = pr m φ + pr A fun a => pr B fun b => φ (addR a b)
  | [], m, _ => by
    show pr m φ = pr m φ + 0
    omega
  | q :: A, m, h => by
    rw [List.foldl_cons, mulF_pr B φ A (rowM_nd q B h), rowM_pr q B h, pr_cons]
    omega
theorem mulL_nd (A B : List (List Int × Int)) : ((mulL A B).map (·.1)).Nodup := mulF_nd B A (m := []) List.nodup_nil
theorem mulL_pr (A B : List (List Int × Int)) (φ : List Int → Int) : pr (mulL A B) φ = pr A fun a => pr B fun b => φ (addR a b) := by
  have z := mulF_pr B φ A (m := []) List.nodup_nil
  rw [pr_nil, Int.zero_add] at z
  exact z
theorem rowM_len (q : List Int × Int) : ∀ (B m : List (List Int × Int)), (rowM q B m).length ≤ m.length + B.length
  | [], m => Nat.le_refl _
  | g :: B, m => by
    have h1 := rowM_len q B (addA m (addR q.1 g.1) (q.2 * g.2))
    have h2 := addA_len m (addR q.1 g.1) (q.2 * g.2)
    show (rowM q B (addA m (addR q.1 g.1) (q.2 * g.2))).length ≤ _
    rw [List.length_cons]
    omega
theorem mulF_len (B : List (List Int × Int)) : ∀ (A m : List (List Int × Int)), (A.foldl (fun m q => rowM q B m) m).length ≤ m.length + A.length * B.length
  | [], m => by
    show m.length ≤ m.length + 0 * _
    omega
  | q :: A, m => by
    have h1 := mulF_len B A (rowM q B m)
    have h2 := rowM_len q B m
    rw [List.foldl_cons, List.length_cons, Nat.succ_mul]
    omega
theorem mulL_len (A B : List (List Int × Int)) : (mulL A B).length ≤ A.length * B.length := by
  have z := mulF_len B A []
  rw [List.length_nil, Nat.zero_add] at z
  exact z
theorem mulL_snoc {A B : List (List Int × Int)} {i : Nat} {q : List Int × Int} (h : A[i]? = some q) : mulL (A.take (i + 1)) B = rowM q B (mulL (A.take i) B) := by
  unfold mulL
  rw [List.take_succ, h, List.foldl_append]
  rfl
theorem rowM_snoc {q g : List Int × Int} {B m : List (List Int × Int)} {j : Nat} (h : B[j]? = some g) : rowM q (B.take (j + 1)) m = addA (rowM q (B.take j) m) (addR q.1 g.1) (q.2 * g.2) := by
  unfold rowM
  rw [List.take_succ, h, List.foldl_append]
  rfl
theorem rowM_keys {Φ : List Int → Prop} (q : List Int × Int) (B : List (List Int × Int)) {m : List (List Int × Int)} (h : Keys Φ m) (g : ∀ b ∈ B, Φ (addR q.1 b.1)) : Keys Φ (rowM q B m) := keys_addF (fun g : List Int × Int => (addR q.1 g.1, q.2 * g.2)) B h g
theorem mulF_keys {Φ : List Int → Prop} (B : List (List Int × Int)) : ∀ (A : List (List Int × Int)) {m : List (List Int × Int)}, Keys Φ m → (∀ a ∈ A, ∀ b ∈ B, Φ (addR a.1 b.1)) → Keys Φ (A.foldl (fun m q => rowM q B m) m)
  | [], _, h, _ => h
  | q :: A, _, h, g => mulF_keys B A (rowM_keys q B h (g q List.mem_cons_self)) fun a ha => g a (List.mem_cons_of_mem _ ha)
theorem mulL_keys {Φ : List Int → Prop} {A B : List (List Int × Int)} (g : ∀ a ∈ A, ∀ b ∈ B, Φ (addR a.1 b.1)) : Keys Φ (mulL A B) := mulF_keys B A (m := []) (fun _ z => nomatch z) g
theorem addR_take {r s : List Int} {j : Nat} {x y : Int} (hx : r[j]? = some x) (hy : s[j]? = some y) : addR (r.take (j + 1)) (s.take (j + 1)) = addR (r.take j) (s.take j) ++ [x + y] := by
  have h1 : j < r.length := (List.getElem?_eq_some_iff.mp hx).1
  have h2 : j < s.length := (List.getElem?_eq_some_iff.mp hy).1
  unfold addR
  rw [List.take_succ, List.take_succ, hx, hy, List.zipWith_append (by rw [List.length_take, List.length_take]; omega)]
  rfl
section
variable {P : Program} {w : World} {K : PySem.W.Frag} {mg : Str → Option Value} {base : Heap} {bp C B M N : Addr}
def spMultd : Sp := fun vs H Q _ => ∃ (p : Int) (k : Nat) (a b : Addr) (A B : List (List Int × Int)), vs = [.int p, .ref a, .ref b] ∧ 0 < p ∧ H a = some (.dT (rK A)) ∧ H b = some (.dT (rK B)) ∧ a ≠ b ∧ (A.map (·.1)).Nodup ∧ (B.map (·.1)).Nodup ∧ 1 ≤ k ∧ k ≤ 12 ∧ (∀ q ∈ A, q.1.length = k) ∧ (∀ q ∈ B, q.1.length = k) ∧ A.length * B.length ≤ 100000 ∧ (∀ q ∈ A, -(2 ^ 60) < q.2 ∧ q.2 < 2 ^ 60) ∧
  ∀ D H', Same H H' → H D = none → H' D = some (.dT (rK (tid p (mulL A B)))) → Q (.ref D) H'
abbrev NMU : List Str := ["field", "one", "two", "found", "row", "mate", "whole_row", "a", "b"]
abbrev slM (p : Int) (a b D : Addr) (e4 e5 e6 e7 e8 : Option V) : St := [some (.int p), some (.ref a), some (.ref b), some (.ref D), e4, e5, e6, e7, e8]
end
end P2
end

section
set_option maxRecDepth 100000
set_option maxHeartbeats 2000000
namespace P2
open PySem L2 ClX
theorem fields_p {p : Int} (h : p ∈ fields) : p ∈ primes ∧ 2 ≤ p ∧ p < 100 := by
  revert h p
  decide
theorem DrawAt.up {H H' : Hp} {d l c : Addr} (D : DrawAt H d l c) (S : Same H H') : DrawAt H' d l c := let ⟨r, t, hd⟩ := D.hd; let ⟨ls, hl, hll⟩ := D.hl; let ⟨cs, hc, hcl⟩ := D.hc; ⟨⟨r, t, S _ _ hd⟩, ⟨ls, S _ _ hl, hll⟩, ⟨cs, S _ _ hc, hcl⟩, D.ne⟩
/-- a draw's places hold neither a tuple nor a dict of rows -/
theorem DrawAt.tup {H : Hp} {d l c b : Addr} {xs : List V} (D : DrawAt H d l c) (h : H b = some (.tup xs)) : b ≠ d ∧ b ≠ l := by
  obtain ⟨r, t, hd⟩ := D.hd
  obtain ⟨ls, hl, _⟩ := D.hl
  exact ⟨(fun e => by rw [e, hd] at h; cases h), (fun e => by rw [e, hl] at h; cases h)⟩
theorem DrawAt.dt {H : Hp} {d l c b : Addr} {xs : List (List Key × V)} (D : DrawAt H d l c) (h : H b = some (.dT xs)) : b ≠ d ∧ b ≠ l := by
  obtain ⟨r, t, hd⟩ := D.hd
  obtain ⟨ls, hl, _⟩ := D.hl
  exact ⟨(fun e => by rw [e, hd] at h; cases h), (fun e => by rw [e, hl] at h; cases h)⟩
theorem DrawAt.none {H : Hp} {d l c b : Addr} (D : DrawAt H d l c) (h : H b = none) : b ≠ d ∧ b ≠ l := by
  obtain ⟨r, t, hd⟩ := D.hd
  obtain ⟨ls, hl, _⟩ := D.hl
  exact ⟨(fun e => by rw [e, hd] at h; cases h), (fun e => by rw [e, hl] at h; cases h)⟩
theorem Drawn.trans {d l : Addr} {H H1 H2 : Hp} (a : Drawn d l H H1) (b : Drawn d l H1 H2) : Drawn d l H H2 := fun x o e n1 n2 => b _ _ (a _ _ e n1 n2) n1 n2
theorem Drawn.of {d l : Addr} {H H1 : Hp} (a : Same H H1) : Drawn d l H H1 := fun x o e n1 n2 => a _ _ e
theorem putA_in {κ : Type} [DecidableEq κ] {m : List (κ × Int)} {k : κ} {v : Int} : ∀ q ∈ putA m k v, q ∈ m ∨ q = (k, v) := fun q hq => by
  unfold putA at hq
  by_cases z : (m.any fun p => decide (p.1 = k)) = true
  · rw [if_pos z] at hq
    obtain ⟨p, hp, e⟩ := List.mem_map.mp hq
    by_cases y : p.1 = k
    · rw [if_pos y, y] at e
      exact .inr e.symm
    · rw [if_neg y] at e
      exact .inl (e ▸ hp)
  · rw [if_neg z] at hq
    rcases List.mem_append.mp hq with hq | hq
    · exact .inl hq
    · exact .inr (List.mem_singleton.mp hq)
theorem rows_count : ∀ n, n < 5 → ∀ t, t < 5 → 1 ≤ n → 0 < (rowsL n t).length ∧ (rowsL n t).length < 1000 := by decide +kernel
/-- raw terms: up to five, rows of sums up to 4, any numbers below 10 ^ 31 -/
structure Raw (n : Nat) (ts : List (List Int × Int)) : Prop where
  nd : (ts.map (·.1)).Nodup
  four : Four n ts
  len : ts.length ≤ 5
  vals : ∀ q ∈ ts, -(10 ^ 31) < q.2 ∧ q.2 < 10 ^ 31
section
variable {P : Program} {w : World} {K : PySem.W.Frag} {mg : Str → Option Value} {base : Heap} {bp C B M N : Addr}
def spRaw : Sp := fun vs H Q _ => ∃ (d l c : Addr) (p : Int) (n : Nat), vs = [.ref d, .int p, .int n] ∧ DrawAt H d l c ∧ p ∈ fields ∧ 1 ≤ n ∧ n ≤ 4 ∧
  ∀ D H' ts, H D = none → DrawAt H' d l c → Drawn d l H H' → H' D = some (.dT (rK ts)) → Raw n ts → Q (.ref D) H'
abbrev NRW : List Str := ["draw", "field", "wide_here", "found", "lap", "row"]
end
end P2
end

section
set_option maxRecDepth 100000
set_option maxHeartbeats 2000000
namespace P2
open PySem L2 ClX
theorem foldl_max : ∀ (ns : List Int) (n : Int), (∀ y ∈ ns, y ≤ ns.foldl max n) ∧ n ≤ ns.foldl max n ∧ (ns.foldl max n = n ∨ ns.foldl max n ∈ ns)
  | [], n => ⟨(fun _ h => nomatch h), Int.le_refl _, .inl rfl⟩
  | x :: ns, n => by
    obtain ⟨a, b, c⟩ := foldl_max ns (max n x)
    rw [List.foldl_cons]
    refine ⟨fun y hy => ?_, by omega, ?_⟩
    · rcases List.mem_cons.mp hy with rfl | hy
      · omega
      · exact a y hy
    · rcases c with c | c
      · rw [c]
        rcases Int.le_total n x with h | h
        · rw [Int.max_eq_right h]
          exact .inr List.mem_cons_self
        · rw [Int.max_eq_left h]
          exact .inl rfl
      · exact .inr (List.mem_cons_of_mem _ c)
theorem maxOr_is {ns : List Int} (h0 : ∀ y ∈ ns, 0 ≤ y) {m : Int} (h : m ∈ (-1 : Int) :: ns) (g : ∀ y ∈ (-1 : Int) :: ns, y ≤ m) : m = maxOr (-1) ns := by
  cases ns with
  | nil => exact List.mem_singleton.mp h
  | cons n ns =>
    obtain ⟨a, b, c⟩ := foldl_max ns n
    show m = ns.foldl max n
    have g1 := g n (by simp)
    have n0 := h0 n (by simp)
    have e1 : ns.foldl max n ≤ m := by
      rcases c with c | c
      · rw [c]; exact g1
      · exact g _ (by simp [c])
    rcases List.mem_cons.mp h with z | h
    · omega
    · rcases List.mem_cons.mp h with z | h
      · omega
      · have := a m h
        omega
section
variable {P : Program} {w : World} {K : PySem.W.Frag} {mg : Str → Option Value} {base : Heap} {bp C B M N : Addr}
def spDegree : Sp := fun vs H Q _ => ∃ (a : Addr) (ts : List (List Int × Int)), vs = [.ref a] ∧ H a = some (.dT (rK ts)) ∧ ts.length ≤ 100000 ∧ (∀ q ∈ ts, 0 ≤ q.1.sum) ∧ ∀ H', Same H H' → Q (.int (degOf ts)) H'
end
end P2
end

section
set_option maxRecDepth 100000
set_option maxHeartbeats 2000000
namespace P2
open PySem L2 ClX
/-- a number of fair size -/
def Fn (e : Int) : Prop := -(10 ^ 31) < e ∧ e < 10 ^ 31
structure Fair (ts : List (List Int × Int)) : Prop where
  len : ts.length ≤ 200
  row : ∀ q ∈ ts, q.1.length ≤ 12 ∧ (∀ e ∈ q.1, Fn e) ∧ Fn q.2
theorem fn_abs {e : Int} (h : Fn e) : e.natAbs < 10 ^ 31 := by
  obtain ⟨a, b⟩ := h
  have e31 : (10 : Int) ^ 31 = ((10 ^ 31 : Nat) : Int) := by decide
  rw [e31] at a b
  omega
theorem fn_log {e : Int} (h : Fn e) : e.natAbs.log2 < 104 := by
  by_cases z : e.natAbs = 0
  · rw [z]; decide
  · exact (Nat.log2_lt z).mpr (Nat.lt_trans (fn_abs h) (by decide))
theorem fn_show {e : Int} (h : Fn e) : PyData.showable (.int e) = true := decide_eq_true (Nat.lt_trans (fn_log h) (by decide))
theorem fn_short {e : Int} (h : Fn e) : PyData.leavesShort 40 (.int e) = true := by
  have z := int_text_length_le10 (k := 31) (by decide) (fn_abs h)
  refine decide_eq_true ?_
  show (Str.ofString (toString e)).length ≤ 40
  rw [ofString_length]
  omega
theorem fn_weight {e : Int} (h : Fn e) : PyData.weight (.int e) ≤ 104 := by
  have z := fn_log h
  show (if e == 0 then 0 else e.natAbs.log2 + 1) ≤ 104
  split <;> omega
theorem row_facts : ∀ {r : List Int}, (∀ e ∈ r, Fn e) → PyData.showableAll (r.map .int) = true ∧ PyData.leavesShortAll 40 (r.map .int) = true ∧ PyData.weightAll (r.map .int) ≤ 105 * r.length
  | [], _ => ⟨rfl, rfl, Nat.le_refl _⟩
  | x :: r, h => by
    have hx := h x List.mem_cons_self
    obtain ⟨a, b, c⟩ := row_facts fun e he => h e (List.mem_cons_of_mem _ he)
    have w := fn_weight hx
    refine ⟨?_, ?_, ?_⟩
    · simp only [List.map_cons, PyData.showableAll, fn_show hx, a, Bool.and_self]
    · simp only [List.map_cons, PyData.leavesShortAll, fn_short hx, b, Bool.and_self]
    · simp only [List.map_cons, PyData.weightAll, List.length_cons]
      omega
def kvD (ts : List (List Int × Int)) : List (PyData × PyData) := ts.map fun q => (.tuple (q.1.map .int), .int q.2)
theorem kv_facts : ∀ {ts : List (List Int × Int)}, (∀ q ∈ ts, q.1.length ≤ 12 ∧ (∀ e ∈ q.1, Fn e) ∧ Fn q.2) → PyData.showableKv (kvD ts) = true ∧ PyData.leavesShortKv 40 (kvD ts) = true ∧ PyData.weightKv (kvD ts) ≤ 1400 * ts.length
  | [], _ => ⟨rfl, rfl, Nat.le_refl _⟩
  | q :: ts, h => by
    obtain ⟨h1, h2, h3⟩ := h q List.mem_cons_self
    obtain ⟨a, b, c⟩ := kv_facts fun e he => h e (List.mem_cons_of_mem _ he)
    obtain ⟨a1, b1, c1⟩ := row_facts h2
    have w := fn_weight h3
    refine ⟨?_, ?_, ?_⟩
    · show PyData.showableKv ((PyData.tuple (q.1.map .int), PyData.int q.2) :: kvD ts) = true
      simp only [PyData.showableKv, a, fn_show h3, Bool.and_true]
      exact a1
    · show PyData.leavesShortKv 40 ((PyData.tuple (q.1.map .int), PyData.int q.2) :: kvD ts) = true
      simp only [PyData.leavesShortKv, b, fn_short h3, Bool.and_true]
      exact b1
    · show PyData.weightKv ((PyData.tuple (q.1.map .int), PyData.int q.2) :: kvD ts) ≤ _
      simp only [PyData.weightKv, PyData.weight, List.length_cons] at w ⊢
      omega
theorem kv_depth : ∀ ts : List (List Int × Int), PyData.depthKv (kvD ts) ≤ 3
  | [] => by decide
  | q :: ts => by
    have h := kv_depth ts
    show PyData.depthKv ((PyData.tuple (q.1.map .int), PyData.int q.2) :: kvD ts) ≤ 3
    simp only [PyData.depthKv, PyData.depth, depth0]
    omega
theorem shows_of {ts : List (List Int × Int)} (h : Fair ts) : Shows ts := by
  obtain ⟨a, b, c⟩ := kv_facts h.row
  refine ⟨a, ?_, ?_⟩
  · have z := kv_depth ts
    show PyData.depth (.dict (kvD ts)) ≤ 20
    simp only [PyData.depth]
    omega
  · have z := PyData.shown_le 40 (by decide) (termsD ts) b
    have w : (termsD ts).weight ≤ 1400 * ts.length := c
    have hl := h.len
    have e : (12000000 : Nat) ≤ sizeLine := by decide
    omega
end P2
end

section
set_option maxRecDepth 100000
set_option maxHeartbeats 2000000
/-! Calls of defs by names of parameters alone. -/
namespace ClX
open PySem PySem.Spec PyProof.Rows L2
section
variable {X : Cx} {CX : CXT} {k : Nat} {f : Addr} {fd : FuncData} {ps ks : List Str} {sp : Sp} {E : XK} {x : Str} {p pos : Pos} {kws : List Keyword} {tk : TA} {g : List Value → List Value → List Value} {gV : List V → List V → List V}
theorem pe_callK0 (F : FnOk X.prog X.w X.K X.mg X.base CX k f fd ps sp) (hr : Room k X.A) (hg : Gl X x) (hm : X.mg x = some (.ref f)) (hk : PySem.W.keepIn X.K (.ref f) = true) (hb : KBn X.K fd ps 0 ks g gV) (hx : Passes CX X E) (hkw : PK X kws tk)
    (hall : (backToKw pos (keywordEach kws X.env)).all (·.1.isSome) = true := by rfl) (hks : (backToKw pos (keywordEach kws X.env)).filterMap (·.1) = ks := by rfl) (hdb : (x == ("__debug__" : Str)) = false := by decide)
    (hpl : ((backTo pos (starEach [] X.env)).any (·.1) || (backToKw pos (keywordEach kws X.env)).any (·.1.isNone)) = false := by rfl) :
    PE X (.Call (.Name x p) [] kws pos) (fun σ H Q => tk σ H fun zs H2 => zs.length = ks.length ∧ sp (gV [] zs) H2 Q E) := by
  refine ⟨fun pins s σ H Q I h => ?_⟩
  refine wpAny_Call_Name_kw (ld_glob I hg hm ?_ hdb)
  refine PySem.W.callWith_KW0 (h₀ := X.base) I.ok.mod.kin hk hall ?_ hpl
  refine thn (hkw.run pos pins s σ H _ I h) fun ws s2 ⟨zs, H2, I2, rz, l2, q2⟩ => ⟨I2.kIn, ?_⟩
  rw [hks]
  exact run_fnN F hr hb hx I2 .nil rz rfl l2 q2
end
end ClX
end

section
set_option maxRecDepth 100000
set_option maxHeartbeats 2000000
namespace P2
open PySem L2 ClX
theorem sub_all {α : Type} [DecidableEq α] : ∀ {xs ys : List α}, xs.Nodup → (∀ a ∈ xs, a ∈ ys) → ys.length ≤ xs.length → ∀ b ∈ ys, b ∈ xs
  | [], ys, _, _, h, b, hb => by
    rw [List.length_eq_zero_iff.mp (Nat.le_zero.mp h)] at hb
    exact hb
  | x :: xs, ys, n, s, h, b, hb => by
    rw [List.nodup_cons] at n
    by_cases e : b = x
    · rw [e]
      exact List.mem_cons_self
    · have hx := s x List.mem_cons_self
      refine List.mem_cons_of_mem _ (sub_all (xs := xs) (ys := ys.erase x) n.2 (fun a ha => ?_) ?_ b ((List.mem_erase_of_ne e).mpr hb))
      · refine (List.mem_erase_of_ne ?_).mpr (s a (List.mem_cons_of_mem _ ha))
        intro z
        rw [z] at ha
        exact n.1 ha
      · rw [List.length_erase_of_mem hx]
        rw [List.length_cons] at h
        omega
theorem cf_of {κ : Type} [DecidableEq κ] {m : List (κ × Int)} {k : κ} {v : Int} (h : getA m k = some v) : cf m k = v := by
  unfold cf
  rw [h]
  rfl
theorem cf_mem {κ : Type} [DecidableEq κ] : ∀ {m : List (κ × Int)}, (m.map (·.1)).Nodup → ∀ {q : κ × Int}, q ∈ m → cf m q.1 = q.2
  | [], _, _, h => by cases h
  | a :: m, n, q, h => by
    rw [List.map_cons, List.nodup_cons] at n
    rw [cf_cons]
    rcases List.mem_cons.mp h with e | h
    · rw [e, if_pos rfl]
    · rw [if_neg, cf_mem n.2 h]
      intro e
      exact n.1 (List.mem_map.mpr ⟨q, h, e.symm⟩)
theorem getA_mem {κ : Type} [DecidableEq κ] {m : List (κ × Int)} (n : (m.map (·.1)).Nodup) {q : κ × Int} (h : q ∈ m) : getA m q.1 = some q.2 := by
  obtain ⟨j, hj, e⟩ := List.mem_iff_getElem.mp h
  exact getA_at n (i := j) (by rw [List.getElem?_eq_getElem hj, e])
theorem same_refl {A : List (List Int × Int)} (n : (A.map (·.1)).Nodup) : sameT (rK A) (rK A) = true := by
  unfold sameT
  rw [beq_self_eq_true, Bool.true_and]
  refine List.all_eq_true.mpr fun q hq => ?_
  obtain ⟨r, hr, rfl⟩ := List.mem_map.mp hq
  refine decide_eq_true ?_
  show valV (rK A) (rowK r.1) = some (V.int r.2)
  rw [valV_asK rowK_inj, getA_mem n hr]
  rfl
theorem same_cf {A B : List (List Int × Int)} (nA : (A.map (·.1)).Nodup) (nB : (B.map (·.1)).Nodup) (h : sameT (rK A) (rK B) = true) : ∀ r, cf A r = cf B r := by
  unfold sameT at h
  rw [Bool.and_eq_true] at h
  have hl : A.length = B.length := by
    have z := beq_iff_eq.mp h.1
    rw [asK_len, asK_len] at z
    exact z
  have hA : ∀ q ∈ A, getA B q.1 = some q.2 := fun q hq => by
    have z := List.all_eq_true.mp h.2 (rowK q.1, V.int q.2) (List.mem_map.mpr ⟨q, hq, rfl⟩)
    have z2 := of_decide_eq_true z
    rw [valV_asK rowK_inj] at z2
    obtain ⟨v, e1, e2⟩ := Option.map_eq_some_iff.mp z2
    rw [e1, V.int.inj e2]
  have key : ∀ r, r ∈ A.map (·.1) → r ∈ B.map (·.1) := fun r hr => by
    obtain ⟨q, hq, rfl⟩ := List.mem_map.mp hr
    have z := hA q hq
    refine Classical.byContradiction fun y => ?_
    unfold getA at z
    obtain ⟨u, e1, _⟩ := Option.map_eq_some_iff.mp z
    have e2 := List.find?_some e1
    exact y (List.mem_map.mpr ⟨u, List.mem_of_find?_eq_some e1, of_decide_eq_true e2⟩)
  have back := sub_all nA key (by rw [List.length_map, List.length_map, hl]; exact Nat.le_refl _)
  intro r
  by_cases hr : r ∈ A.map (·.1)
  · obtain ⟨q, hq, rfl⟩ := List.mem_map.mp hr
    rw [cf_mem nA hq, cf_of (hA q hq)]
  · rw [cf_out hr, cf_out fun z => hr (back r z)]
theorem cf_tid {p : Int} {A : List (List Int × Int)} (hA : (A.map (·.1)).Nodup) (r : List Int) : cf (tid p A) r = cf A r % p := by
  by_cases h : cf A r % p = 0
  · rw [h, cf_out]
    intro z
    obtain ⟨q, hq, rfl⟩ := List.mem_map.mp z
    exact ((tid_in hA).mp hq).2.1 h
  · have hr : r ∈ A.map (·.1) := by
      refine Classical.byContradiction fun y => h ?_
      rw [cf_out y, Int.zero_emod]
    exact cf_mem tid_nd (q := (r, cf A r % p)) ((tid_in hA).mpr ⟨hr, h, rfl⟩)
theorem tid_len (p : Int) (A : List (List Int × Int)) : (tid p A).length ≤ A.length := by
  have z : (tid p A).length ≤ (srt (A.map (·.1))).length := foldI_le _ _
  rw [(srt_perm _).length_eq, List.length_map] at z
  exact z
theorem tid_sub {p : Int} {A : List (List Int × Int)} (hA : (A.map (·.1)).Nodup) {q : List Int × Int} (h : q ∈ tid p A) : ∃ u ∈ A, u.1 = q.1 := List.mem_map.mp ((tid_in hA).mp h).1
theorem tid_val {p : Int} (hp : 0 < p) {A : List (List Int × Int)} (hA : (A.map (·.1)).Nodup) {q : List Int × Int} (h : q ∈ tid p A) : 0 < q.2 ∧ q.2 < p := by
  obtain ⟨_, h1, h2⟩ := (tid_in hA).mp h
  have := Int.emod_nonneg (cf A q.1) (show p ≠ 0 by omega)
  have := Int.emod_lt_of_pos (cf A q.1) hp
  omega
theorem rows_tid {p : Int} {n : Nat} {A : List (List Int × Int)} (hA : (A.map (·.1)).Nodup) (h : RowsOk n A) : RowsOk n (tid p A) := fun q hq => by
  obtain ⟨u, hu, e⟩ := tid_sub hA hq
  rw [← e]
  exact h u hu
theorem tsok_tid {p : Int} (hp : 0 < p) {n : Nat} {A : List (List Int × Int)} (hA : (A.map (·.1)).Nodup) (h : RowsOk n A) (hz : A.length ≤ 1000000) : TsOk p n (tid p A) :=
  ⟨tid_nd, rows_tid hA h, fun _ hq => tid_val hp hA hq, Nat.le_trans (tid_len p A) hz⟩
theorem tid_tid {p : Int} {A : List (List Int × Int)} (hA : (A.map (·.1)).Nodup) : tid p (tid p A) = tid p A := tid_ext tid_nd hA (tid_eqp hA)
theorem four_tid {p : Int} {n : Nat} {A : List (List Int × Int)} (hA : (A.map (·.1)).Nodup) (h : Four n A) : Four n (tid p A) := fun q hq => by
  obtain ⟨u, hu, e⟩ := tid_sub hA hq
  rw [← e]
  exact h u hu
theorem four_rows {n : Nat} (hn : n < 4) {A : List (List Int × Int)} (h : Four n A) : RowsOk n A := fun q hq => by
  obtain ⟨a, b, _, c⟩ := four_row hn (h q hq)
  exact ⟨a, b, by omega⟩
theorem fair_tid {p : Int} (hp : 0 < p) (p100 : p < 100) {n : Nat} (n12 : n ≤ 12) {A : List (List Int × Int)} (hA : (A.map (·.1)).Nodup) (h : RowsOk n A) (hz : A.length ≤ 200) : Fair (tid p A) := by
  refine ⟨Nat.le_trans (tid_len p A) hz, fun q hq => ?_⟩
  obtain ⟨a, b, c⟩ := rows_tid hA h q hq
  have v := tid_val hp hA hq
  have e31 : (10 : Int) ^ 31 = 10000000000000000000000000000000 := by decide
  refine ⟨by omega, fun e he => ?_, ?_⟩
  · have z := (le_sum b).1 e he
    have := b e he
    unfold Fn
    rw [e31]
    omega
  · unfold Fn
    rw [e31]
    omega
section
variable {P : Program} {w : World} {K : PySem.W.Frag} {mg : Str → Option Value} {base : Heap} {bp C B M N : Addr}
/-- a def at hand -/
structure Def (P : Program) (w : World) (K : PySem.W.Frag) (mg : Str → Option Value) (base : Heap) (CX : CXT) (k : Nat) (x : Str) (ps : List Str) (sp : Sp) (f : Addr) (fd : FuncData) : Prop where
  ok : FnOk P w K mg base CX k f fd ps sp
  kp : PySem.W.keepIn K (.ref f) = true
  b : Binds K fd ps []
  g : mg x = some (.ref f)
def spTid : Sp := fun vs H Q _ => ∃ (p : Int) (a : Addr) (ts : List (List Int × Int)), vs = [.int p, .ref a] ∧ 0 < p ∧ H a = some (.dT (rK ts)) ∧ (ts.map (·.1)).Nodup ∧ (∀ q ∈ ts, q.1 ≠ []) ∧ ts.length ≤ 1000000 ∧ ∀ D H', Same H H' → H D = none → H' D = some (.dT (rK (tid p ts))) → Q (.ref D) H'
theorem tid_of {vs : List V} {H : Hp} {Q : VK} {E : XK} (h : spTid vs H Q E) : spTidied vs H Q E := by
  obtain ⟨p, a, ts, rfl, hp, ha, hn, hne, hz, k⟩ := h
  exact ⟨p, a, ts, rfl, hp, ha, hn, hne, hz, fun D H' ys pm ac S nD hD => k D H' S nD (by rw [← tidy_tid hn pm ac]; exact hD)⟩
theorem make_tid {H : Hp} {x dx a : Addr} {p : Int} {n : Nat} {ts : List (List Int × Int)} {Q : VK} {E : XK} (hp : p ∈ primes) (h1 : 1 ≤ n) (h12 : n ≤ 12) (ha : H a = some (.dT (rK ts))) (hr : RowsOk n ts) (hn : (ts.map (·.1)).Nodup) (hz : ts.length ≤ 1000000)
    (nx : H x = none) (ndx : H dx = none) (ne : dx ≠ x) (k : ∀ y H', Same H H' → H y = none → PolyAt H' C y p n (tid p ts) → Q (.ref y) H') :
    spInit K bp C B M [.ref x, .int p, .int n, .ref a] (upd (upd H dx (.own x)) x (.ins C dx [])) (fun v H2 => v = .non ∧ Q (.ref x) H2) E :=
  make_good hp h1 h12 ha hr hn hz nx ndx ne fun y H' ys pm ac S ny hy => k y H' S ny (by rw [← tidy_tid hn pm ac]; exact hy)
theorem is_poly_tid {H : Hp} {C a t : Addr} {p n : Int} {ts raw : List (List Int × Int)} {Q : VK} {E : XK} (hp : PolyAt H C a p n ts) (ht : H t = some (.dT (rK raw))) (p0 : 0 < p) (rn : (raw.map (·.1)).Nodup) (rne : ∀ q ∈ raw, q.1 ≠ []) (rz : raw.length ≤ 1000000)
    (e : ts = tid p raw) (fr : Fair ts) (k : ∀ H', Same H H' → Q (.bl true) H') : spIsPoly C [.ref a, .int p, .int n, .ref t] H Q E := by
  refine ⟨a, t, p, n, ts, raw, rfl, hp, ht, p0, rn, rne, rz, ?_, ?_, shows_of fr, fun ys pm ac => ?_, k⟩
  · rw [e]; exact tid_nd
  · have := fr.len; omega
  · rw [e]; exact tidy_tid rn pm ac
end
end P2
end

section
set_option maxRecDepth 100000
set_option maxHeartbeats 4000000
namespace P2
open PySem L2 ClX
abbrev cat {α : Type} (us ws : List α) : List α := us ++ ws
section
variable {P : Program} {w : World} {K : PySem.W.Frag} {mg : Str → Option Value} {base : Heap} {bp C B M N : Addr}
/-- `(c,) * k` -/
theorem rep_read {H : Hp} {l : Addr} {c : Int} {k : Nat} {Q : VK} (hl : H l = some (.tup [V.int c])) (h1 : 1 ≤ k) (h2 : k ≤ 1000) (q : ∀ t H', Same H H' → H' t = some (.tup ((List.replicate k c).map V.int)) → Q (.ref t) H') : rRepN K (.ref l) (.int (k : Int)) H Q := by
  refine ⟨l, (k : Int), [V.int c], rfl, rfl, SqT.of hl, (fun z => nomatch z), by omega, by omega, (show (1 : Nat) ≤ 1000 by decide), fun e1 => ?_, fun e1 l2 hl2 => ?_⟩
  · obtain rfl : k = 1 := by omega
    exact q l H (Same.refl _) hl
  · refine q l2 _ ((Same.refl _).put hl2) ?_
    rw [upd_same]
    rw [Int.toNat_natCast]
    congr 2
    clear q e1 h1 h2
    induction k with
    | zero => rfl
    | succ k ih =>
      rw [List.replicate_succ, List.replicate_succ, List.flatten_cons, ih]
      rfl
/-- a polynomial made of good terms -/
theorem make_p {H : Hp} {x dx a : Addr} {p : Int} {n : Nat} {ts : List (List Int × Int)} {vs : List V} {R : VK} {E : XK} (hp : p ∈ primes) (h1 : 1 ≤ n) (h12 : n ≤ 12) (ha : H a = some (.dT (rK ts))) (hr : RowsOk n ts) (hn : (ts.map (·.1)).Nodup) (hz : ts.length ≤ 1000000)
    (nx : H x = none) (ndx : H dx = none) (ne : dx ≠ x) (e : vs = [.ref x, .int p, .int n, .ref a]) (k : ∀ H', Same H H' → PolyAt H' C x p n (tid p ts) → R .non H') :
    spInit K bp C B M vs (upd (upd H dx (.own x)) x (.ins C dx [])) R E := by
  have S0 : Same H (upd (upd H dx (.own x)) x (.ins C dx [])) := fun b o e => by rw [upd_ne (ne_of_none e nx), upd_ne (ne_of_none e ndx)]; exact e
  have hw : inB (.int n) 1 12 = true := by
    show (decide ((1 : Int) ≤ n) && decide ((n : Int) ≤ 12)) = true
    rw [decide_eq_true (by omega), decide_eq_true (by omega)]
    rfl
  have hpp : isP (.int p) = true := decide_eq_true hp
  subst e
  refine ⟨x, dx, _, _, _, rfl, upd_same, pv_flat rfl, (fun z => by rw [hpp] at z; cases z), fun _ => ⟨pv_flat rfl, (fun z => by rw [hw] at z; cases z), fun _ => ⟨n, true, rfl, terms_good (S0 _ _ ha) hr h12 hz, (fun z => by cases z), fun _ => ⟨a, ts, rfl, S0 _ _ ha, hn, fun q hq => ?_, hz, fun z => ?_, fun _ p2 ep d H' ys perm asc S nd hd hx => ?_⟩⟩⟩⟩
  · intro e
    have z := (hr q hq).1
    rw [e] at z
    exact absurd z (by show (0 : Nat) ≠ n; omega)
  · obtain ⟨q, hq, e⟩ := List.any_eq_true.mp z
    have h3 := (hr q hq).2.2
    have h4 : 120 < q.1.sum := of_decide_eq_true e
    omega
  · cases ep
    rw [tidy_tid hn perm asc] at hd hx
    exact k H' (fun b o e => S b o (S0 _ _ e) (ne_of_none e nx)) ⟨dx, d, hx, hd⟩
/-- the classes' own == of polynomials -/
structure PEq (P : Program) (w : World) (K : PySem.W.Frag) (mg : Str → Option Value) (base : Heap) (C fE : Addr) (dE : FuncData) : Prop where
  ok : FnOk P w K mg base CX0 1 fE dE ["self", "other"] (spPolyEq C)
  b : Binds K dE ["self", "other"] []
  at_ : PySem.W.findIn K (.ref C) "__eq__" = some (some (.ref fE))
  fn : PySem.W.isFn K (.ref fE) = true
  ne : PySem.W.findIn K (.ref C) "__ne__" = some (some (.builtin "object.__ne__"))
  n1 : PySem.W.notFirst K C (.ref C) = true
  n2 : PySem.W.notFirst K C (.type "dict") = true
/-- making polynomials -/
structure PMake (P : Program) (w : World) (K : PySem.W.Frag) (mg : Str → Option Value) (base : Heap) (bp C B M fI : Addr) (dI : FuncData) : Prop where
  mkk : Mk K C fI
  ok : FnOk P w K mg base (L2.CX P w) 6 fI dI ["self", "prime", "wide", "terms"] (spInit K bp C B M)
  b : Binds K dI ["self", "prime", "wide", "terms"] []
  kb : KBn K dI ["self", "prime", "wide", "terms"] 1 ["prime", "wide", "terms"] cat cat
structure PTm (P : Program) (w : World) (K : PySem.W.Frag) (mg : Str → Option Value) (base : Heap) (C pT fT : Addr) (dT : FuncData) : Prop where
  ok : FnOk P w K mg base CX0 1 fT dT ["self"] (spTerms C)
  at_ : PropOf K C "terms" pT fT
  b : Binds K dT ["self"] []
structure DefG (P : Program) (w : World) (K : PySem.W.Frag) (mg : Str → Option Value) (base : Heap) (k : Nat) (x : Str) (ps : List Str) (sp : Sp) (f : Addr) (fd : FuncData) : Prop where
  ok : FnG P w K mg base k f fd ps sp
  kp : PySem.W.keepIn K (.ref f) = true
  b : Binds K fd ps []
  g : mg x = some (.ref f)
def spAttr : Sp := fun vs H Q _ => ∃ (p : Int) (n : Nat) (a : Addr) (raw : List (List Int × Int)), vs = [.int p, .int n, .ref a] ∧ p ∈ fields ∧ 1 ≤ n ∧ n ≤ 4 ∧ H a = some (.dT (rK raw)) ∧ Raw n raw ∧ ∀ H', Same H H' → Q (.bl true) H'
abbrev NAT : List Str := ["field", "wide_here", "raw", "told", "again", "bent"]
end
end P2
end

section
set_option maxRecDepth 100000
set_option maxHeartbeats 2000000
namespace P2
open PySem L2 ClX
theorem degOf_le {ts : List (List Int × Int)} {d : Int} (h : ∀ q ∈ ts, q.1.sum ≤ d) (h1 : -1 ≤ d) : degOf ts ≤ d := by
  unfold degOf
  cases ts with
  | nil => exact h1
  | cons q ts =>
    show (ts.map fun p => p.1.sum).foldl max q.1.sum ≤ d
    obtain ⟨_, _, c⟩ := foldl_max (ts.map fun p => p.1.sum) q.1.sum
    rcases c with c | c
    · rw [c]
      exact h q List.mem_cons_self
    · obtain ⟨u, hu, e⟩ := List.mem_map.mp c
      rw [← e]
      exact h u (List.mem_cons_of_mem _ hu)
theorem addL_rows {n : Nat} {A B : List (List Int × Int)} (c : Int) (h : RowsOk n A) (g : RowsOk n B) : RowsOk n (addL A B c) := keys_addF (Φ := fun r => r.length = n ∧ (∀ e ∈ r, 0 ≤ e) ∧ r.sum ≤ 120) (fun q : List Int × Int => (q.1, c * q.2)) B h g
theorem mulL_rows {n : Nat} {d e : Int} {A B : List (List Int × Int)} (h : RowsOk n A) (g : RowsOk n B) (dA : ∀ q ∈ A, q.1.sum ≤ d) (dB : ∀ q ∈ B, q.1.sum ≤ e) (de : d + e ≤ 120) : RowsOk n (mulL A B) ∧ ∀ q ∈ mulL A B, q.1.sum ≤ d + e := by
  have k := mulL_keys (Φ := fun r : List Int => r.length = n ∧ (∀ e ∈ r, 0 ≤ e) ∧ r.sum ≤ d + e) (A := A) (B := B) fun a ha b hb => ⟨addR_len (h a ha).1 (g b hb).1, addR_nn (h a ha).2.1 (g b hb).2.1, by
    rw [addR_sum (by rw [(h a ha).1, (g b hb).1])]
    have := dA a ha
    have := dB b hb
    omega⟩
  exact ⟨fun q hq => ⟨(k q hq).1, (k q hq).2.1, by have := (k q hq).2.2; omega⟩, fun q hq => (k q hq).2.2⟩
end P2
end

section
set_option maxRecDepth 100000
set_option maxHeartbeats 4000000
namespace P2
open PySem L2 ClX
theorem PolyAt.drawn {H H' : Hp} {C a d l c : Addr} {p n : Int} {ts : List (List Int × Int)} (D : DrawAt H d l c) (S : Drawn d l H H') (h : PolyAt H C a p n ts) : PolyAt H' C a p n ts := by
  obtain ⟨dx, e, h1, h2⟩ := h
  obtain ⟨r, t, hd⟩ := D.hd
  obtain ⟨ls, hl, _⟩ := D.hl
  have n2 := D.dt h2
  exact ⟨dx, e, S _ _ h1 (fun z => by rw [z, hd] at h1; cases h1) (fun z => by rw [z, hl] at h1; cases h1), S _ _ h2 n2.1 n2.2⟩
section
variable {P : Program} {w : World} {K : PySem.W.Frag} {mg : Str → Option Value} {base : Heap} {bp C B M N : Addr}
/-- a def that may be called with names of parameters -/
structure DefK (P : Program) (w : World) (K : PySem.W.Frag) (mg : Str → Option Value) (base : Heap) (CX : CXT) (k : Nat) (x : Str) (ps : List Str) (n : Nat) (ks : List Str) (sp : Sp) (f : Addr) (fd : FuncData) : Prop where
  ok : FnOk P w K mg base CX k f fd ps sp
  kp : PySem.W.keepIn K (.ref f) = true
  b : Binds K fd ps []
  kb : KBn K fd ps n ks cat cat
  g : mg x = some (.ref f)
theorem gives_tid {H : Hp} {p : Int} {n : Nat} {ts R : List (List Int × Int)} {Q : VK} (nd : (ts.map (·.1)).Nodup) (e : tid p ts = R) (k : ∀ y H', Same H H' → H y = none → PolyAt H' C y p n R → Q (.ref y) H') : Gives C H p n ts Q := fun y H' ys pm ac S ny hy => k y H' S ny (by rw [← e, ← tidy_tid nd pm ac]; exact hy)
abbrev NSU : List Str := ["draw", "field", "wide_here", "one", "two", "first", "second", "made", "many_here", "due", "most", "lap", "spot", "row", "k"]
end
end P2
end

section
set_option maxRecDepth 100000
set_option maxHeartbeats 4000000
namespace P2
open PySem PySem.Spec PyProof.Rows L2 LamX ClX
theorem sc48 : FnScope ["work", "caught", "error"] ["work"] (defScope (top 44)) := ⟨rfl, rfl, rfl, by decide +kernel, rfl, by decide +kernel, by decide +kernel⟩
section
variable {X : Cx} {k : Nat} {g CS : Addr} {fd : FuncData}
theorem caught_run (F : Fun X.K "_law_caught" "_law_caught" (top 44) g fd) (hm : X.mg "SwayError" = some (.ref CS)) {L : List (Addr × V)} {f : Addr} {tl : XK → Hp → VK → Prop} (r : Runs X k L f tl)
    {A : Around} {outer : List Env} {s : Shared} {H : Hp} {us : List Value} {vs : List V} {Q : VK} {E : XK} (hr : Room (k + 1) A) (e0 : Env0 X.prog X.w X.K X.mg X.base A outer s H) (cv : CellsV L s.heap H)
    (hb : BindsTo s fd ⟨us, []⟩ ((["work"] : List Str).zip us)) (rv : Vals vs us) (h : spCaught X.K CS f tl vs H Q) : codeAny (model X.prog X.w) A (.call (.ref g) ⟨us, []⟩) (CR (L2.CX X.prog X.w) outer X.prog X.w H s Q E) s := by
  obtain ⟨oc, od, kV, doc, pm, an, cdv, ct, osl, rfl, lk, hcd⟩ := F.ex
  exact caught_at r lk hcd sc48 rfl rfl rfl rfl hm hr e0 cv hb rv h
theorem pe_cgt {p pos : Pos} {e : Expr} {ta : TA} (F : Fun X.K "_law_caught" "_law_caught" (top 44) g fd) (hS : X.mg "SwayError" = some (.ref CS)) (hg : Gl X "_law_caught") (hm : X.mg "_law_caught" = some (.ref g)) (hk : PySem.W.keepIn X.K (.ref g) = true) (hb : L2.Binds X.K fd ["work"] [])
    (hr : Room (k + 1) X.A) (hx : Passes (L2.CX X.prog X.w) X (fun _ _ _ => False)) (ha : PA X [e] ta) (he : starEach [e] X.env = (false, eval e X.env) :: starEach [] X.env := by rfl) (hpl : (backTo pos (starEach [] X.env)).any (·.1) = false := by rfl) :
    PE X (.Call (.Name "_law_caught" p) [e] [] pos) (fun σ H Q => ta σ H fun vs H1 => tCgt X k X.K CS σ vs H1 Q) :=
  pe_callAt (T := tCgt X k X.K CS) hg hm hk hb hx (fun pins σ s H us vs Q I b r q => by
    obtain ⟨f, L, tl, cp, rn, sp⟩ := q
    exact caught_run F hS rn hr I.env0 (cp.cells I) b r sp) (fun σ vs H Q q => by
    obtain ⟨f, L, tl, cp, rn, rfl, _⟩ := q
    rfl) ha (by decide) he hpl
end
end P2
end

section
set_option maxRecDepth 100000
set_option maxHeartbeats 4000000
namespace P2
open PySem L2 ClX
/-- v at s, else 0 -/
def rowV (n : Nat) (s v : Int) : List Int := (List.range n).map fun i : Nat => if (i : Int) = s then v else 0
theorem rowV_len (n : Nat) (s v : Int) : (rowV n s v).length = n := by
  unfold rowV
  rw [List.length_map, List.length_range]
theorem rowV_nn {n : Nat} {s v : Int} (h : 0 ≤ v) : ∀ e ∈ rowV n s v, 0 ≤ e := fun e he => by
  obtain ⟨i, _, rfl⟩ := List.mem_map.mp he
  split
  · exact h
  · exact Int.le_refl _
theorem rowV_sum (s v : Int) : ∀ n : Nat, (rowV n s v).sum = if 0 ≤ s ∧ s < n then v else 0
  | 0 => by
    rw [if_neg (by omega)]
    rfl
  | n + 1 => by
    have ih := rowV_sum s v n
    unfold rowV at ih ⊢
    rw [List.range_succ, List.map_append, List.sum_append, ih]
    show _ + ((if (n : Int) = s then v else 0) + 0) = _
    by_cases h : (n : Int) = s
    · rw [if_pos h, if_neg (by omega), if_pos (by omega)]
      omega
    · rw [if_neg h]
      by_cases g : 0 ≤ s ∧ s < n
      · rw [if_pos g, if_pos (by omega)]
        omega
      · rw [if_neg g, if_neg (by omega)]
        omega
theorem rowV_ok {n : Nat} {s v : Int} (h0 : 0 ≤ s) (h1 : s < n) : (rowV n s v).sum = v := by
  rw [rowV_sum, if_pos ⟨h0, h1⟩]
theorem rowV_step (n : Nat) (s v : Int) : rowV (n + 1) s v = rowV n s v ++ [if (n : Int) = s then v else 0] := by
  unfold rowV
  rw [List.range_succ, List.map_append]
  rfl
theorem letR_rowV (n : Nat) (s : Int) : letR n s = rowV n s 1 := rfl
theorem pack_rowV (s v : Int) : ∀ n : Nat, packR (rowV n s v) = v * packR (rowV n s 1)
  | 0 => by
    show (0 : Int) = v * 0
    omega
  | n + 1 => by
    rw [rowV_step, rowV_step, packR_snoc, packR_snoc, pack_rowV s v n, Int.mul_add, Int.mul_assoc]
    congr 1
    split <;> omega
theorem tid_one {p : Int} (p2 : 2 ≤ p) (r : List Int) : tid p [(r, 1)] = [(r, 1)] := by
  have nd : (([(r, 1)] : List (List Int × Int)).map (·.1)).Nodup := List.nodup_cons.mpr ⟨by simp, List.nodup_nil⟩
  unfold tid
  have e : srt ([(r, (1 : Int))].map (·.1)) = [r] := List.perm_singleton.mp (srt_perm [r])
  rw [tidy_is p _ (by rw [e]; exact List.nodup_cons.mpr ⟨by simp, List.nodup_nil⟩), e]
  have c : cf [(r, (1 : Int))] r = 1 := by rw [cf_cons, if_pos rfl]
  have m : (1 : Int) % p = 1 := Int.emod_eq_of_lt (by omega) (by omega)
  rw [List.filter_cons_of_pos (by rw [c, m]; decide)]
  show [(r, cf [(r, 1)] r % p)] = _
  rw [c, m]
theorem degOf_one (r : List Int) (c : Int) : degOf [(r, c)] = r.sum := rfl
theorem degOf_ge {ts : List (List Int × Int)} {q : List Int × Int} (h : q ∈ ts) : q.1.sum ≤ degOf ts := by
  unfold degOf
  cases ts with
  | nil => cases h
  | cons a ts =>
    show q.1.sum ≤ (ts.map fun p => p.1.sum).foldl max a.1.sum
    obtain ⟨h1, h2, _⟩ := foldl_max (ts.map fun p => p.1.sum) a.1.sum
    rcases List.mem_cons.mp h with rfl | h
    · exact h2
    · exact h1 _ (List.mem_map.mpr ⟨q, h, rfl⟩)
/-! one term's powers -/
theorem prodP_one {p : Int} (p2 : 2 ≤ p) (a b : Int) : prodP p [(a, 1)] [(b, 1)] = [(a + b, 1)] := by
  have m : (1 : Int) % p = 1 := Int.emod_eq_of_lt (by omega) (by omega)
  have e : prodL [(b, (1 : Int))] [(a, (1 : Int))] = [(a + b, 1)] := rfl
  show withoutZ p (prodL [(b, 1)] [(a, 1)]) = _
  rw [e, wz_is p (m := [(a + b, (1 : Int))]) (List.nodup_cons.mpr ⟨by simp, List.nodup_nil⟩)]
  rw [List.filterMap_cons_some (b := (a + b, (1 : Int) % p)) (by rw [if_neg]; rw [m]; decide), m]
  rfl
theorem mulN_1 {p : Int} (p2 : 2 ≤ p) (b : Int) : ∀ (m : Nat) (a : Int), mulN p [(b, 1)] m [(a, 1)] = [(a + m * b, 1)] ∧ OkMul p [(b, 1)] m [(a, 1)]
  | 0, a => ⟨by
    show [(a, (1 : Int))] = [(a + 0 * b, 1)]
    rw [Int.zero_mul, Int.add_zero], trivial⟩
  | m + 1, a => by
    obtain ⟨h1, h2⟩ := mulN_1 p2 b m (a + b)
    refine ⟨?_, (show (1 : Nat) ≤ 1000000 by decide), (show (1 : Nat) * 1 ≤ 1000000 by decide), by rw [prodP_one p2]; exact h2⟩
    show mulN p [(b, 1)] m (prodP p [(a, 1)] [(b, 1)]) = _
    rw [prodP_one p2, h1, Int.natCast_add, Int.add_mul]
    congr 2
    omega
theorem frob_1 {p : Int} (p2 : 2 ≤ p) (b : Int) : frob p [(b, 1)] = [(b * p, 1)] := by
  rw [frob_is (f := [(b, (1 : Int))]) (by omega) (List.nodup_cons.mpr ⟨by simp, List.nodup_nil⟩)]
  rfl
theorem powF_1 {p : Int} (p2 : 2 ≤ p) : ∀ (n : Nat) (a b l : Int), 0 ≤ l → l ≤ n → powF p n [(a, 1)] [(b, 1)] l = [(a + l * b, 1)] ∧ OkPow p n [(a, 1)] [(b, 1)] l
  | 0, a, b, l, h0, h1 => by
    obtain rfl : l = 0 := by omega
    refine ⟨?_, trivial⟩
    show [(a, (1 : Int))] = [(a + 0 * b, 1)]
    rw [Int.zero_mul, Int.add_zero]
  | n + 1, a, b, l, h0, h1 => by
    rw [pow_step, okp_step]
    have hm0 := Int.emod_nonneg l (show p ≠ 0 by omega)
    obtain ⟨m1, m2⟩ := mulN_1 p2 b (l % p).toNat a
    have ec : (((l % p).toNat : Nat) : Int) = l % p := Int.toNat_of_nonneg hm0
    rw [ec] at m1
    have dm := Int.mul_ediv_add_emod l p
    by_cases hl : 0 < l
    · rw [if_pos hl, m1]
      by_cases hd : 0 < l / p
      · have hlt : l / p < l := by
          refine Int.ediv_lt_of_lt_mul (by omega) ?_
          have : l * 2 ≤ l * p := Int.mul_le_mul_of_nonneg_left p2 (by omega)
          omega
        obtain ⟨i1, i2⟩ := powF_1 p2 n (a + l % p * b) (b * p) (l / p) (by omega) (by omega)
        rw [if_pos hd, frob_1 p2, i1]
        refine ⟨?_, fun _ => ⟨m2, fun _ => i2⟩⟩
        have e : a + l % p * b + l / p * (b * p) = a + l * b := by
          conv => rhs; rw [← dm]
          rw [Int.add_mul, Int.mul_comm b p, ← Int.mul_assoc, Int.mul_comm (l / p) p]
          omega
        rw [e]
      · rw [if_neg hd]
        have z : l / p = 0 := by
          have := Int.ediv_nonneg h0 (show 0 ≤ p by omega)
          omega
        rw [z, Int.mul_zero, Int.zero_add] at dm
        refine ⟨by rw [dm], fun _ => ⟨m2, fun x => absurd x hd⟩⟩
    · obtain rfl : l = 0 := by omega
      rw [if_neg hl]
      refine ⟨?_, fun x => absurd x hl⟩
      rw [Int.zero_mul, Int.add_zero]
end P2
namespace P2
open PySem L2 ClX
theorem nd_one {κ : Type} (r : κ) (c : Int) : (([(r, c)] : List (κ × Int)).map (·.1)).Nodup := List.nodup_cons.mpr ⟨by simp, List.nodup_nil⟩
theorem ts_one {p : Int} (p2 : 2 ≤ p) {n : Nat} {r : List Int} (h : RowsOk n [(r, (1 : Int))]) : TsOk p n [(r, 1)] := by
  have z := tsok_tid (p := p) (by omega) (nd_one r 1) h (show (1 : Nat) ≤ 1000000 by decide)
  rw [tid_one p2] at z
  exact z
theorem rowV_rows {n : Nat} {s v : Int} (c : Int) (h0 : 0 ≤ s) (h1 : s < n) (hv : 0 ≤ v) (hv2 : v ≤ 120) : RowsOk n [(rowV n s v, c)] := one_rows (rowV_len n s v) (rowV_nn hv) (by rw [rowV_ok h0 h1]; exact hv2)
/-- a letter's 120th power -/
theorem pow120 {p : Int} (p2 : 2 ≤ p) {n : Nat} {s : Int} (h0 : 0 ≤ s) (h1 : s < n) : OkPow p 120 [(0, 1)] (packOf [(letR n s, 1)]) ((120 : Nat) : Int) ∧ ((powF p 120 [(0, 1)] (packOf [(letR n s, 1)]) ((120 : Nat) : Int)).map (·.1)).Nodup ∧ (powF p 120 [(0, 1)] (packOf [(letR n s, 1)]) ((120 : Nat) : Int)).length ≤ 1000000 ∧
    RowsOk n (termsOf (powF p 120 [(0, 1)] (packOf [(letR n s, 1)]) ((120 : Nat) : Int)) n) ∧ tid p (termsOf (powF p 120 [(0, 1)] (packOf [(letR n s, 1)]) ((120 : Nat) : Int)) n) = [(rowV n s 120, 1)] := by
  have e0 : packOf [(letR n s, 1)] = [(packR (rowV n s 1), 1)] := rfl
  obtain ⟨a, b⟩ := powF_1 p2 120 0 (packR (rowV n s 1)) ((120 : Nat) : Int) (by decide) (Int.le_refl _)
  have e1 : (0 : Int) + ((120 : Nat) : Int) * packR (rowV n s 1) = packR (rowV n s 120) := by rw [pack_rowV s 120 n, Int.zero_add]; rfl
  rw [e1] at a
  rw [e0, a]
  have kk : Keys (RowN n 120) [(packR (rowV n s 120), (1 : Int))] := fun q hq => by
    rw [List.mem_singleton.mp hq]
    exact ⟨_, rfl, rowV_len n s 120, rowV_nn (by decide), by rw [rowV_ok h0 h1]; exact Int.le_refl _⟩
  have e2 : termsOf [(packR (rowV n s 120), (1 : Int))] n = [(rowV n s 120, 1)] := by
    rw [terms_is (nd_one _ _) kk]
    show [(unpackR (packR (rowV n s 120)) n, (1 : Int))] = _
    rw [unpack_pack n (rowV_len n s 120) (exps_of (rowV_nn (by decide)) (by rw [rowV_ok h0 h1]; exact Int.le_refl _))]
  refine ⟨b, nd_one _ _, (show (1 : Nat) ≤ 1000000 by decide), ?_, ?_⟩
  · rw [e2]
    exact rowV_rows 1 h0 h1 (by decide) (by decide)
  · rw [e2, tid_one p2]
/-- a product of two terms -/
theorem prod_one {p : Int} (p2 : 2 ≤ p) {n : Nat} {r s : List Int} {d e : Int} (hr : RowsOk n [(r, (1 : Int))]) (hs : RowsOk n [(s, (1 : Int))]) (dr : r.sum = d) (ds : s.sum = e) (de : d + e ≤ 120) :
    RowsOk n (termsOf (prodP p (packOf [(r, 1)]) (packOf [(s, 1)])) n) ∧ tid p (termsOf (prodP p (packOf [(r, 1)]) (packOf [(s, 1)])) n) = [(addR r s, 1)] ∧ (addR r s).sum = d + e := by
  have z := prod_tid (p := p) (k := n) (A := [(r, 1)]) (B := [(s, 1)]) (C := [(addR r s, 1)]) (d := d) (e := e) (nd_one _ _) (nd_one _ _) (nd_one _ _) hr hs (fun q hq => by rw [List.mem_singleton.mp hq]; exact Int.le_of_eq dr) (fun q hq => by rw [List.mem_singleton.mp hq]; exact Int.le_of_eq ds) de (fun φ => .of (by
    show 1 * φ (addR r s) + 0 = 1 * (1 * φ (addR r s) + 0) + 0
    omega))
  refine ⟨z.1, by rw [z.2, tid_one p2], ?_⟩
  rw [addR_sum (by rw [(hr _ List.mem_cons_self).1, (hs _ List.mem_cons_self).1]), dr, ds]
/-- a product with nothing -/
theorem prod_nil {p : Int} {n : Nat} {r : List Int} (hr : RowsOk n [(r, (1 : Int))]) : RowsOk n (termsOf (prodP p (packOf [(r, 1)]) (packOf [])) n) ∧ tid p (termsOf (prodP p (packOf [(r, 1)]) (packOf [])) n) = tid p [] := by
  have hn : ∀ q ∈ ([] : List (List Int × Int)), q.1.sum ≤ 0 := fun _ h => nomatch h
  exact prod_tid (p := p) (k := n) (A := [(r, 1)]) (B := []) (C := []) (d := 120) (e := 0) (nd_one _ _) List.nodup_nil List.nodup_nil hr (fun _ h => nomatch h) (fun q hq => (hr q hq).2.2) hn (by decide) (fun φ => .of (by
    show (0 : Int) = 1 * 0 + 0
    omega))
/-- a display of one pair -/
theorem puts1 {H : Hp} {X b : Addr} {r : List Int} {c : Int} {Q : Hp → Prop} (hX : H X = none) (hb : H b = some (.tup (r.map V.int))) (k : ∀ H', Same H H' → H' X = some (.dT (rK [(r, c)])) → Q H') : Puts X [(V.ref b, V.int c)] (upd H X (.dT [])) Q := by
  refine puts_one (H2 := H) (r := r) upd_same (by rw [upd_ne (ne_of_none hb hX)]; exact hb) ?_
  rw [upd_upd]
  exact k _ ((Same.refl _).put hX) upd_same
end P2
end

section
set_option maxRecDepth 100000
set_option maxHeartbeats 2000000
/-! Powers of packs in general: as they act, their keys, their sizes. -/
namespace P2
theorem pw_eqm {p : Int} {f : List (Int × Int)} : ∀ {n : Nat} {φ ψ : Int → Int}, (∀ x, Eqm p (φ x) (ψ x)) → Eqm p (pw f n φ) (pw f n ψ)
  | 0, _, _, h => h 0
  | n + 1, _, _, h => pr_eqm fun x _ => pw_eqm fun y => h (x.1 + y)
theorem pw_add (f : List (Int × Int)) : ∀ (a b : Nat) (ψ : Int → Int), pw f (a + b) ψ = pw f a fun x => pw f b fun y => ψ (x + y)
  | 0, b, ψ => by
    rw [Nat.zero_add]
    exact pw_congr fun x => by rw [Int.zero_add]
  | a + 1, b, ψ => by
    rw [show a + 1 + b = (a + b) + 1 by omega]
    refine pr_congr fun x _ => ?_
    rw [pw_add f a b]
    exact pw_congr fun y => pw_congr fun z => congrArg ψ (by omega)
/-- the small primes of the draws -/
def Good (p : Int) : Prop := 2 ≤ p ∧ pasB p.toNat = true ∧ ferB p.toNat = true
theorem good_small {p : Int} (h : p ∈ ([2, 3, 5, 7, 11, 13] : List Int)) : Good p := by
  have z : ∀ p ∈ ([2, 3, 5, 7, 11, 13] : List Int), 2 ≤ p ∧ p.toNat ∈ ([2, 3, 5, 7, 11, 13] : List Nat) := by decide
  obtain ⟨a, b⟩ := z p h
  exact ⟨a, small_primes _ b⟩
theorem frob_pw {p : Int} (g : Good p) {f : List (Int × Int)} (h : (f.map (·.1)).Nodup) : ∀ (m : Nat) (ψ : Int → Int), Eqm p (pw (frob p f) m ψ) (pw f (m * p.toNat) ψ)
  | 0, ψ => by
    rw [Nat.zero_mul]
    exact .rfl
  | m + 1, ψ => by
    obtain ⟨g2, g3, g4⟩ := g
    have ep : ((p.toNat : Nat) : Int) = p := by omega
    show Eqm p (pr (frob p f) fun x => pw (frob p f) m fun y => ψ (x + y)) _
    rw [frob_pr (by omega) h, Nat.succ_mul, Nat.add_comm, pw_add]
    have z := frobG (p := p.toNat) (by omega) g3 g4 (fun x => pw (frob p f) m fun y => ψ (x + y)) f
    rw [ep] at z
    exact z.trans (pw_eqm fun x => frob_pw ⟨g2, g3, g4⟩ h m _)
theorem powG_pr {p : Int} (p2 : 2 ≤ p) : ∀ (N : Nat) {t f : List (Int × Int)} {l : Int} (φ : Int → Int), 0 ≤ l → l ≤ N → (l < p ∨ Good p) → (f.map (·.1)).Nodup → Eqm p (pr (powF p N t f l) φ) (pr t fun x => pw f l.toNat fun y => φ (x + y))
  | 0, t, f, l, φ, h0, h1, _, _ => by
    obtain rfl : l = 0 := by omega
    refine .of (pr_congr fun x _ => ?_)
    show φ x.1 = φ (x.1 + 0)
    rw [Int.add_zero]
  | N + 1, t, f, l, φ, h0, h1, hg, hf => by
    rw [pow_step]
    by_cases c0 : 0 < l
    · rw [if_pos c0]
      have m0 := Int.emod_nonneg l (show p ≠ 0 by omega)
      have m1 := Int.emod_lt_of_pos l (show 0 < p by omega)
      have md := Int.mul_ediv_add_emod l p
      have d0 : 0 ≤ l / p := Int.ediv_nonneg h0 (by omega)
      by_cases c1 : 0 < l / p
      · rw [if_pos c1]
        have lp : p ≤ l := by
          rcases Int.lt_or_le l p with c | c
          · rw [Int.ediv_eq_zero_of_lt h0 c] at c1; omega
          · exact c
        have gp : Good p := hg.resolve_left (by omega)
        have dl : l / p < l := Int.ediv_lt_self_of_pos_of_ne_one c0 (by omega) 
        refine (powG_pr p2 N φ d0 (by omega) (.inr gp) (frob_nd p f)).trans ((mulN_pr p f _ t _).trans (pr_eqm fun x _ => ?_))
        refine (pw_eqm fun y => frob_pw gp hf _ _).trans (.of ?_)
        have e : l.toNat = (l % p).toNat + (l / p).toNat * p.toNat := by
          have z : (((l % p).toNat + (l / p).toNat * p.toNat : Nat) : Int) = l := by
            rw [Int.natCast_add, Int.natCast_mul, Int.toNat_of_nonneg m0, Int.toNat_of_nonneg d0, Int.toNat_of_nonneg (by omega : 0 ≤ p), Int.mul_comm]
            omega
          omega
        rw [e, pw_add]
        exact pw_congr fun y => pw_congr fun z => congrArg φ (by omega)
      · rw [if_neg c1]
        have e0 : l / p = 0 := by omega
        rw [e0, Int.mul_zero, Int.zero_add] at md
        rw [md]
        exact mulN_pr p f _ t φ
    · rw [if_neg c0]
      obtain rfl : l = 0 := by omega
      refine .of (pr_congr fun x _ => ?_)
      show φ x.1 = φ (x.1 + 0)
      rw [Int.add_zero]
theorem powG_nd {p : Int} : ∀ (N : Nat) {t f : List (Int × Int)} {l : Int}, (t.map (·.1)).Nodup → ((powF p N t f l).map (·.1)).Nodup
  | 0, _, _, _, h => h
  | N + 1, t, f, l, h => by
    rw [pow_step]
    split
    · split
      · exact powG_nd N (mulN_nd p f _ h)
      · exact mulN_nd p f _ h
    · exact h
/-! ### keys -/
theorem RowN.zero (k : Nat) : RowN k 0 0 := ⟨List.replicate k 0, (pack_zeros k).symm, List.length_replicate, fun e he => by rw [(List.mem_replicate.mp he).2]; exact Int.le_refl 0, by rw [zeros_sum]; exact Int.le_refl 0⟩
theorem RowN.nmul {k : Nat} {d x : Int} (h : RowN k d x) : ∀ n : Nat, RowN k (n * d) (x * n)
  | 0 => by simpa using RowN.zero k
  | n + 1 => by
    have z := (RowN.nmul h n).add h
    have e1 : (n : Int) * d + d = ((n + 1 : Nat) : Int) * d := by
      rw [show ((n + 1 : Nat) : Int) = (n : Int) + 1 from rfl, Int.add_mul, Int.one_mul]
    have e2 : x * n + x = x * ((n + 1 : Nat) : Int) := by
      rw [show ((n + 1 : Nat) : Int) = (n : Int) + 1 from rfl, Int.mul_add, Int.mul_one]
    rw [e1, e2] at z
    exact z
theorem RowN.pos {k : Nat} {d x : Int} (h : RowN k d x) : 0 ≤ d := by
  obtain ⟨r, _, _, h3, h4⟩ := h
  have := (le_sum h3).2
  omega
theorem mulN_row {p : Int} {k : Nat} {d : Int} {f : List (Int × Int)} (hf : Keys (RowN k d) f) : ∀ {n : Nat} {e : Int} {t : List (Int × Int)}, Keys (RowN k e) t → Keys (RowN k (e + n * d)) (mulN p f n t)
  | 0, e, t, h => by
    rw [show e + ((0 : Nat) : Int) * d = e by simp]
    exact h
  | n + 1, e, t, h => by
    have z := mulN_row (p := p) hf (n := n) (e := e + d) (t := prodP p t f) (prodP_keys fun x hx y hy => (h x hx).add (hf y hy))
    have e1 : e + d + (n : Int) * d = e + ((n + 1 : Nat) : Int) * d := by
      rw [show ((n + 1 : Nat) : Int) = (n : Int) + 1 from rfl, Int.add_mul, Int.one_mul]
      omega
    rw [e1] at z
    exact z
theorem frob_row {p : Int} (p0 : 0 < p) {k : Nat} {d : Int} {f : List (Int × Int)} (nd : (f.map (·.1)).Nodup) (hf : Keys (RowN k d) f) : Keys (RowN k (p * d)) (frob p f) := by
  rw [frob_is p0 nd]
  intro q hq
  obtain ⟨u, hu, rfl⟩ := List.mem_map.mp hq
  have z := (hf u hu).nmul p.toNat
  rw [Int.toNat_of_nonneg (by omega)] at z
  exact z
theorem pow_row {p : Int} (p2 : 2 ≤ p) {k : Nat} : ∀ (N : Nat) {e d l : Int} {t f : List (Int × Int)}, 0 ≤ l → l ≤ N → (f.map (·.1)).Nodup → Keys (RowN k e) t → Keys (RowN k d) f → Keys (RowN k (e + l * d)) (powF p N t f l)
  | 0, e, d, l, t, f, h0, h1, _, ht, _ => by
    obtain rfl : l = 0 := by omega
    rw [Int.zero_mul, Int.add_zero]
    exact ht
  | N + 1, e, d, l, t, f, h0, h1, nf, ht, hf => by
    rw [pow_step]
    by_cases c0 : 0 < l
    · rw [if_pos c0]
      have m0 := Int.emod_nonneg l (show p ≠ 0 by omega)
      have md := Int.mul_ediv_add_emod l p
      have d0 : 0 ≤ l / p := Int.ediv_nonneg h0 (by omega)
      have z := mulN_row (p := p) hf (n := (l % p).toNat) ht
      rw [Int.toNat_of_nonneg m0] at z
      by_cases c1 : 0 < l / p
      · rw [if_pos c1]
        have dl : l / p < l := Int.ediv_lt_self_of_pos_of_ne_one c0 (by omega)
        have w := pow_row p2 N (e := e + l % p * d) (d := p * d) d0 (by omega) (frob_nd p f) z (frob_row (by omega) nf hf)
        have e1 : e + l % p * d + l / p * (p * d) = e + l * d := by
          have e2 : l / p * (p * d) = (p * (l / p)) * d := by rw [← Int.mul_assoc, Int.mul_comm (l / p)]
          have e3 : l * d = (p * (l / p)) * d + l % p * d := by rw [← Int.add_mul, md]
          rw [e2, e3]
          omega
        rw [e1] at w
        exact w
      · rw [if_neg c1]
        have e0 : l / p = 0 := by omega
        rw [e0, Int.mul_zero, Int.zero_add] at md
        rw [md] at z ⊢
        exact z
    · rw [if_neg c0]
      obtain rfl : l = 0 := by omega
      rw [Int.zero_mul, Int.add_zero]
      exact ht
/-! ### sizes -/
theorem len_sub {α : Type} [DecidableEq α] : ∀ {xs ys : List α}, xs.Nodup → (∀ a ∈ xs, a ∈ ys) → xs.length ≤ ys.length
  | [], _, _, _ => Nat.zero_le _
  | a :: xs, ys, n, h => by
    rw [List.nodup_cons] at n
    have ha := h a List.mem_cons_self
    have z := len_sub (xs := xs) (ys := ys.erase a) n.2 fun b hb => (List.mem_erase_of_ne (fun e => n.1 (by rw [← e]; exact hb))).mpr (h b (List.mem_cons_of_mem _ hb))
    rw [List.length_erase_of_mem ha] at z
    have := List.length_pos_of_mem ha
    show xs.length + 1 ≤ _
    omega
def upTo (k D : Nat) : List (List Int) := (List.range (D + 1)).flatMap (rowsL k)
/-- the polynomials of k unknowns and degrees up to D are of fair size -/
structure Fits (k D : Nat) : Prop where
  k1 : 1 ≤ k
  k12 : k ≤ 12
  D120 : D ≤ 120
  cnt : (upTo k D).length ≤ 200
theorem fits_few : ∀ k, k < 4 → 1 ≤ k → ∀ D, D < 7 → (upTo k D).length ≤ 200 := by decide +kernel
theorem fits_one : (upTo 1 120).length ≤ 200 := by decide +kernel
theorem Fits.few {k D : Nat} (h1 : 1 ≤ k) (h3 : k ≤ 3) (h6 : D ≤ 6) : Fits k D := ⟨h1, by omega, by omega, fits_few k (by omega) h1 D (by omega)⟩
theorem Fits.one : Fits 1 120 := ⟨by decide, by decide, by decide, fits_one⟩
theorem Fits.len {k D : Nat} (F : Fits k D) {d : Int} (hd : d ≤ D) {m : List (Int × Int)} (n : (m.map (·.1)).Nodup) (h : Keys (RowN k d) m) : m.length ≤ 200 := by
  have z := len_sub (ys := (upTo k D).map packR) n fun a ha => by
    obtain ⟨q, hq, rfl⟩ := List.mem_map.mp ha
    obtain ⟨r, e, h1, h2, h3⟩ := h q hq
    have s0 := (le_sum h2).2
    obtain ⟨t, ht⟩ : ∃ t : Nat, r.sum = t := ⟨r.sum.toNat, by omega⟩
    rw [e]
    exact List.mem_map.mpr ⟨r, List.mem_flatMap.mpr ⟨t, List.mem_range.mpr (by omega), mem_rowsL h1 h2 ht F.k1⟩, rfl⟩
  rw [List.length_map, List.length_map] at z
  exact Nat.le_trans z F.cnt
theorem okMul_row {p : Int} {k D : Nat} (F : Fits k D) {d : Int} {f : List (Int × Int)} (hf : Keys (RowN k d) f) (d0 : 0 ≤ d) (lf : f.length ≤ 200) : ∀ {n : Nat} {e : Int} {t : List (Int × Int)}, (t.map (·.1)).Nodup → Keys (RowN k e) t → e + n * d ≤ D → OkMul p f n t
  | 0, _, _, _, _, _ => trivial
  | n + 1, e, t, nt, ht, he => by
    have e1 : ((n + 1 : Nat) : Int) * d = n * d + d := by rw [show ((n + 1 : Nat) : Int) = (n : Int) + 1 from rfl, Int.add_mul, Int.one_mul]
    have nd0 : 0 ≤ (n : Int) * d := Int.mul_nonneg (by omega) d0
    have lt := F.len (d := e) (by omega) nt ht
    refine ⟨by omega, ?_, okMul_row F hf d0 lf (prodP_nd p t f) (prodP_keys fun x hx y hy => (ht x hx).add (hf y hy)) (by omega)⟩
    exact Nat.le_trans (Nat.mul_le_mul lt lf) (by decide)
theorem okPow_row {p : Int} (p2 : 2 ≤ p) {k D : Nat} (F : Fits k D) : ∀ (N : Nat) {e d l : Int} {t f : List (Int × Int)}, 0 ≤ l → l ≤ N → (f.map (·.1)).Nodup → (t.map (·.1)).Nodup → Keys (RowN k e) t → Keys (RowN k d) f → 0 ≤ d → f.length ≤ 200 → e + l * d ≤ D → OkPow p N t f l
  | 0, _, _, _, _, _, _, _, _, _, _, _, _, _, _ => trivial
  | N + 1, e, d, l, t, f, h0, h1, nf, nt, ht, hf, d0, lf, he => by
    rw [okp_step]
    intro c0
    have m0 := Int.emod_nonneg l (show p ≠ 0 by omega)
    have md := Int.mul_ediv_add_emod l p
    have q0 : 0 ≤ l / p := Int.ediv_nonneg h0 (by omega)
    have e2 : l / p * (p * d) = (p * (l / p)) * d := by rw [← Int.mul_assoc, Int.mul_comm (l / p)]
    have e3 : l * d = (p * (l / p)) * d + l % p * d := by rw [← Int.add_mul, md]
    have pd0 : 0 ≤ p * d := Int.mul_nonneg (by omega) d0
    have n2 : 0 ≤ l / p * (p * d) := Int.mul_nonneg q0 pd0
    refine ⟨okMul_row F hf d0 lf nt ht (by rw [Int.toNat_of_nonneg m0]; omega), fun c1 => ?_⟩
    have dl : l / p < l := Int.ediv_lt_self_of_pos_of_ne_one c0 (by omega)
    have z := mulN_row (p := p) hf (n := (l % p).toNat) ht
    rw [Int.toNat_of_nonneg m0] at z
    exact okPow_row p2 F N q0 (by omega) (frob_nd p f) (mulN_nd p f _ nt) z (frob_row (by omega) nf hf) pd0 (Nat.le_trans (frob_len p f) lf) (by omega)
end P2
end

section
set_option maxRecDepth 100000
set_option maxHeartbeats 4000000
namespace P2
open PySem L2 ClX
/-- so many times a pack, added -/
def rowS (c : Int) (my m : List (Int × Int)) : List (Int × Int) := my.foldl (fun m g => addA m g.1 (g.2 * c)) m
def mulsF (ps : List (List (Int × Int) × Int)) (m : List (Int × Int)) : List (Int × Int) := ps.foldl (fun m q => rowS q.2 q.1 m) m
def sumM (p : Int) (ps : List (List (Int × Int) × Int)) : List (Int × Int) := withoutZ p (mulsF ps [])
theorem rowS_nd (c : Int) (my : List (Int × Int)) {m : List (Int × Int)} (h : (m.map (·.1)).Nodup) : ((rowS c my m).map (·.1)).Nodup := nodup_addF (fun g : Int × Int => (g.1, g.2 * c)) my h
theorem rowS_pr (c : Int) (my : List (Int × Int)) {m : List (Int × Int)} (h : (m.map (·.1)).Nodup) (φ : Int → Int) : pr (rowS c my m) φ = pr m φ + c * pr my φ := by
  have z := pr_fold (fun g : Int × Int => (g.1, g.2 * c)) φ my h
  rw [pr_scale] at z
  exact z
theorem rowS_len (c : Int) : ∀ (my m : List (Int × Int)), (rowS c my m).length ≤ m.length + my.length
  | [], m => Nat.le_refl _
  | q :: l, m => by
    have h2 := rowS_len c l (addA m q.1 (q.2 * c))
    have h3 := addA_len m q.1 (q.2 * c)
    show (rowS c l (addA m q.1 (q.2 * c))).length ≤ _
    rw [List.length_cons]
    omega
theorem rowS_keys {Φ : Int → Prop} (c : Int) {my m : List (Int × Int)} (h : Keys Φ m) (g : Keys Φ my) : Keys Φ (rowS c my m) := keys_addF (fun g : Int × Int => (g.1, g.2 * c)) my h g
theorem rowS_snoc {c : Int} {my m : List (Int × Int)} {j : Nat} {g : Int × Int} (h : my[j]? = some g) : rowS c (my.take (j + 1)) m = addA (rowS c (my.take j) m) g.1 (g.2 * c) := by
  unfold rowS
  rw [List.take_add_one, h, List.foldl_append]
  rfl
theorem mulsF_snoc {ps : List (List (Int × Int) × Int)} {m : List (Int × Int)} {i : Nat} {q : List (Int × Int) × Int} (h : ps[i]? = some q) : mulsF (ps.take (i + 1)) m = rowS q.2 q.1 (mulsF (ps.take i) m) := by
  unfold mulsF
  rw [List.take_add_one, h, List.foldl_append]
  rfl
theorem mulsF_nd : ∀ (ps : List (List (Int × Int) × Int)) {m : List (Int × Int)}, (m.map (·.1)).Nodup → ((mulsF ps m).map (·.1)).Nodup
  | [], _, h => h
  | q :: ps, m, h => mulsF_nd ps (rowS_nd q.2 q.1 h)
theorem mulsF_pr (φ : Int → Int) : ∀ (ps : List (List (Int × Int) × Int)) {m : List (Int × Int)}, (m.map (·.1)).Nodup → pr (mulsF ps m) φ = pr m φ + (ps.map fun q => q.2 * pr q.1 φ).sum
  | [], _, _ => by simp [mulsF]
  | q :: ps, m, h => by
    show pr (mulsF ps (rowS q.2 q.1 m)) φ = _
    rw [mulsF_pr φ ps (rowS_nd q.2 q.1 h), rowS_pr q.2 q.1 h, List.map_cons, List.sum_cons]
    omega
theorem mulsF_keys {Φ : Int → Prop} : ∀ {ps : List (List (Int × Int) × Int)} {m : List (Int × Int)}, Keys Φ m → (∀ q ∈ ps, Keys Φ q.1) → Keys Φ (mulsF ps m)
  | [], _, h, _ => h
  | q :: ps, m, h, g => mulsF_keys (ps := ps) (rowS_keys q.2 h (g q List.mem_cons_self)) fun x hx => g x (List.mem_cons_of_mem _ hx)
def lenS (ps : List (List (Int × Int) × Int)) : Nat := (ps.map fun q => q.1.length).sum
theorem mulsF_len : ∀ (ps : List (List (Int × Int) × Int)) (m : List (Int × Int)), (mulsF ps m).length ≤ m.length + lenS ps
  | [], m => Nat.le_add_right _ _
  | q :: ps, m => by
    have h2 := mulsF_len ps (rowS q.2 q.1 m)
    have h3 := rowS_len q.2 q.1 m
    show (mulsF ps (rowS q.2 q.1 m)).length ≤ m.length + (q.1.length + lenS ps)
    omega
theorem lenS_take (ps : List (List (Int × Int) × Int)) (i : Nat) {q : List (Int × Int) × Int} (h : ps[i]? = some q) : lenS (ps.take i) + q.1.length ≤ lenS ps := by
  have e : lenS (ps.take (i + 1)) = lenS (ps.take i) + q.1.length := by
    unfold lenS
    rw [List.take_add_one, h, List.map_append, List.sum_append]
    simp
  have z : lenS (ps.take (i + 1)) + lenS (ps.drop (i + 1)) = lenS ps := by
    unfold lenS
    rw [← List.sum_append, ← List.map_append, List.take_append_drop]
  omega
theorem sumM_eqp (p : Int) (ps : List (List (Int × Int) × Int)) (φ : Int → Int) : Eqm p (pr (sumM p ps) φ) ((ps.map fun q => q.2 * pr q.1 φ).sum) := by
  refine (wz_eqp p (mulsF_nd ps (m := []) List.nodup_nil) φ).trans (.of ?_)
  rw [mulsF_pr φ ps (m := []) List.nodup_nil, pr_nil, Int.zero_add]
theorem sumM_nd (p : Int) (ps : List (List (Int × Int) × Int)) : ((sumM p ps).map (·.1)).Nodup := wz_nd p _
theorem sumM_keys {p : Int} {Φ : Int → Prop} {ps : List (List (Int × Int) × Int)} (g : ∀ q ∈ ps, Keys Φ q.1) : Keys Φ (sumM p ps) := wz_keys (mulsF_nd ps (m := []) List.nodup_nil) (mulsF_keys (fun _ z => nomatch z) g)
theorem sumM_small {p : Int} (hp : 0 < p) (hp2 : p < 2 ^ 64) (ps : List (List (Int × Int) × Int)) : Small (sumM p ps) := small_withoutZ hp hp2 _
/-- pairs of packs and numbers stand in memory -/
def PairsAt (H : Hp) (ts : List Addr) (as : List Addr) (ps : List (List (Int × Int) × Int)) : Prop := ts.length = ps.length ∧ as.length = ps.length ∧ ∀ i, i < ps.length → H (ts.getD i 0) = some (.tup [.ref (as.getD i 0), .int (ps.getD i ([], 0)).2]) ∧ H (as.getD i 0) = some (.dK (iK (ps.getD i ([], 0)).1)) ∧ Small (ps.getD i ([], 0)).1
section
variable {P : Program} {w : World} {K : PySem.W.Frag} {mg : Str → Option Value} {base : Heap} {bp : Addr}
def spSumM (K : PySem.W.Frag) : Sp := fun vs H Q _ => ∃ (L : Addr) (ts as : List Addr) (ps : List (List (Int × Int) × Int)) (p : Int), vs = [.ref L, .int p] ∧ H L = some (.lst (ts.map V.ref)) ∧ PairsAt H ts as ps ∧ 0 < p ∧ lenS ps ≤ 1000000 ∧
  ∀ q H', Same H H' → H q = none → H' q = some (.dK (iK (sumM p ps))) → Q (.ref q) H'
abbrev NSM : List Str := ["pairs", "prime", "total", "pack", "factor", "whole", "number"]
end
end P2
end

section
set_option maxRecDepth 100000
set_option maxHeartbeats 4000000
namespace P2
open PySem L2 ClX
/-- a pack that acts as T does, of degree at most d -/
structure IsPk (p : Int) (k : Nat) (d : Int) (m : List (Int × Int)) (T : (Int → Int) → Int) : Prop where
  nd : (m.map (·.1)).Nodup
  sm : Small m
  ky : Keys (RowN k d) m
  eq : ∀ φ, Eqm p (pr m φ) (T φ)
def PkAt (H : Hp) (a : Addr) (p : Int) (k : Nat) (d : Int) (T : (Int → Int) → Int) : Prop := ∃ m, H a = some (.dK (iK m)) ∧ IsPk p k d m T
theorem PkAt.same {H H' : Hp} {a : Addr} {p : Int} {k : Nat} {d : Int} {T : (Int → Int) → Int} (S : Same H H') (h : PkAt H a p k d T) : PkAt H' a p k d T := let ⟨m, e, z⟩ := h; ⟨m, S _ _ e, z⟩
theorem PkAt.sameX {H H' : Hp} {X a : Addr} {p : Int} {k : Nat} {d : Int} {T : (Int → Int) → Int} (S : SameX X H H') (n : a ≠ X) (h : PkAt H a p k d T) : PkAt H' a p k d T := let ⟨m, e, z⟩ := h; ⟨m, S _ _ e n, z⟩
theorem PkAt.eqT {H : Hp} {a : Addr} {p : Int} {k : Nat} {d : Int} {T T' : (Int → Int) → Int} (e : ∀ φ, Eqm p (T φ) (T' φ)) (h : PkAt H a p k d T) : PkAt H a p k d T' := let ⟨m, h1, z⟩ := h; ⟨m, h1, z.nd, z.sm, z.ky, fun φ => (z.eq φ).trans (e φ)⟩
theorem IsPk.le {p : Int} {k : Nat} {d d' : Int} {m : List (Int × Int)} {T : (Int → Int) → Int} (h : IsPk p k d m T) (l : d ≤ d') : IsPk p k d' m T := ⟨h.nd, h.sm, fun q hq => (h.ky q hq).le l, h.eq⟩
theorem PkAt.le {H : Hp} {a : Addr} {p : Int} {k : Nat} {d d' : Int} {T : (Int → Int) → Int} (h : PkAt H a p k d T) (l : d ≤ d') : PkAt H a p k d' T := let ⟨m, h1, z⟩ := h; ⟨m, h1, z.le l⟩
/-- a prime of the draws -/
def PrG (p : Int) : Prop := 2 ≤ p ∧ p < 100
theorem small_mulN {p : Int} (hp : 0 < p) (hp2 : p < 2 ^ 64) (f : List (Int × Int)) : ∀ (n : Nat) {t : List (Int × Int)}, Small t → Small (mulN p f n t)
  | 0, _, h => h
  | n + 1, _, _ => small_mulN hp hp2 f n (small_prodP hp hp2 _ _)
theorem pow_small {p : Int} (p2 : 2 ≤ p) (hp2 : p < 2 ^ 64) : ∀ (N : Nat) {t f : List (Int × Int)} {l : Int}, Small t → Small (powF p N t f l)
  | 0, _, _, _, h => h
  | N + 1, t, f, l, h => by
    rw [pow_step]
    split
    · split
      · exact pow_small p2 hp2 N (small_mulN (by omega) hp2 f _ h)
      · exact small_mulN (by omega) hp2 f _ h
    · exact h
theorem isPk_one (p : Int) (k : Nat) (f : List (Int × Int)) : IsPk p k 0 [(0, 1)] (pw f 0) :=
  ⟨List.nodup_cons.mpr ⟨by simp, List.nodup_nil⟩, fun q hq => by rw [List.mem_singleton.mp hq]; decide, fun q hq => by rw [List.mem_singleton.mp hq]; exact RowN.zero k, fun φ => .of (pr_one φ)⟩
theorem isPk_nil (p : Int) (k : Nat) (d : Int) : IsPk p k d [] fun _ => 0 := ⟨List.nodup_nil, fun _ z => (nomatch z), fun _ z => (nomatch z), fun φ => .rfl⟩
theorem isPk_prod {p : Int} (g : PrG p) {k : Nat} {d e : Int} {m n : List (Int × Int)} {T U : (Int → Int) → Int} (h : IsPk p k d m T) (h2 : IsPk p k e n U) : IsPk p k (d + e) (prodP p m n) fun φ => T fun x => U fun y => φ (x + y) :=
  ⟨prodP_nd p m n, small_prodP (by have := g.1; omega) (by have := g.2; omega) m n, prodP_keys fun x hx y hy => (h.ky x hx).add (h2.ky y hy), fun φ => (prodP_pr p m n φ).trans ((pr_eqm fun x _ => h2.eq fun y => φ (x.1 + y)).trans (h.eq _))⟩
theorem isPk_sum {p : Int} (g : PrG p) {k : Nat} {d : Int} {m n : List (Int × Int)} {T U : (Int → Int) → Int} (h : IsPk p k d m T) (h2 : IsPk p k d n U) : IsPk p k d (sumP p m n) fun φ => T φ + U φ :=
  ⟨sumP_nd p m n, small_withoutZ (by have := g.1; omega) (by have := g.2; omega) _, sumP_keys h.nd h.ky h2.ky, fun φ => (sumP_eqp p h.nd φ).trans (by rw [pr_app]; exact (h.eq φ).add (h2.eq φ))⟩
section
variable {P : Program} {w : World} {K : PySem.W.Frag} {mg : Str → Option Value} {base : Heap} {bp : Addr}
def spProdK : Sp := fun vs H Q _ => ∃ (a b : Addr) (p : Int) (k D : Nat) (d e : Int) (T U : (Int → Int) → Int), vs = [.ref a, .ref b, .int p] ∧ PrG p ∧ Fits k D ∧ 0 ≤ d ∧ 0 ≤ e ∧ d + e ≤ D ∧ PkAt H a p k d T ∧ PkAt H b p k e U ∧ a ≠ b ∧
  ∀ q H', Same H H' → H q = none → PkAt H' q p k (d + e) (fun φ => T fun x => U fun y => φ (x + y)) → Q (.ref q) H'
theorem prodK_of {vs : List V} {H : Hp} {Q : VK} {E : XK} (h : spProdK vs H Q E) : spPackProd vs H Q E := by
  obtain ⟨a, b, p, k, D, d, e, T, U, rfl, g, F, d0, e0, le, ⟨m, ha, hm⟩, ⟨n, hb, hn⟩, ne, q⟩ := h
  have l1 := F.len (d := d) (by omega) hm.nd hm.ky
  have l2 := F.len (d := e) (by omega) hn.nd hn.ky
  exact ⟨a, b, m, n, p, rfl, ha, hb, ne, by have := g.1; omega, hm.sm, hn.sm, by omega, by omega, Nat.le_trans (Nat.mul_le_mul l1 l2) (by decide), fun x H' S nx hx => q x H' S nx ⟨_, hx, isPk_prod g hm hn⟩⟩
def spPowK : Sp := fun vs H Q _ => ∃ (a : Addr) (f : List (Int × Int)) (n p : Int) (k D : Nat) (d : Int), vs = [.ref a, .int n, .int p] ∧ PrG p ∧ Fits k D ∧ 0 ≤ d ∧ d ≤ D ∧ 0 ≤ n ∧ n ≤ 1000 ∧ n * d ≤ D ∧ (n < p ∨ Good p) ∧ H a = some (.dK (iK f)) ∧ IsPk p k d f (pr f) ∧
  ∀ q H', Same H H' → H q = none → PkAt H' q p k (n * d) (pw f n.toNat) → Q (.ref q) H'
theorem powK_of {vs : List V} {H : Hp} {Q : VK} {E : XK} (h : spPowK vs H Q E) : spPackPow vs H Q E := by
  obtain ⟨a, f, n, p, k, D, d, rfl, g, F, d0, dD, n0, n9, le, hg, ha, hf, q⟩ := h
  obtain ⟨g1, g2⟩ := g
  have lf := F.len dD hf.nd hf.ky
  obtain ⟨m, rfl⟩ : ∃ m : Nat, n = m := ⟨n.toNat, by omega⟩
  have one := isPk_one p k f
  refine ⟨a, f, m, p, rfl, ha, g1, by omega, by omega, hf.sm, by omega, okPow_row g1 F m n0 (by omega) hf.nd one.nd one.ky hf.ky d0 lf (by omega), fun x H' S nx hx => q x H' S nx ⟨_, hx, powG_nd m one.nd, ?_, ?_, fun φ => ?_⟩⟩
  · cases m with
    | zero => exact one.sm
    | succ j => exact pow_small g1 (by omega) (j + 1) one.sm
  · have z := pow_row g1 m n0 (by omega) hf.nd one.ky hf.ky
    rw [Int.zero_add] at z
    exact z
  · refine (powG_pr g1 m φ n0 (by omega) hg hf.nd).trans (.of ?_)
    rw [pr_one]
    exact pw_congr fun y => by rw [Int.zero_add]
end
end P2
end

section
set_option maxRecDepth 100000
set_option maxHeartbeats 4000000
namespace P2
open PySem L2 ClX
section
variable {P : Program} {w : World} {K : PySem.W.Frag} {mg : Str → Option Value} {base : Heap} {bp : Addr}
/-- a dict of powers -/
def PowsAt (H : Hp) (X : Addr) (es : List Int) (p : Int) (k : Nat) (d : Int) (f : List (Int × Int)) : Prop := ∃ kvs, H X = some (.dK kvs) ∧ ∀ e ∈ es, ∃ q, valV kvs (Sum.inl e) = some (.ref q) ∧ q ≠ X ∧ PkAt H q p k (e * d) (pw f e.toNat)
theorem PowsAt.same {H H' : Hp} {X : Addr} {es : List Int} {p : Int} {k : Nat} {d : Int} {f : List (Int × Int)} (S : Same H H') (h : PowsAt H X es p k d f) : PowsAt H' X es p k d f := let ⟨kvs, e, z⟩ := h; ⟨kvs, S _ _ e, fun x hx => let ⟨q, a, b, c⟩ := z x hx; ⟨q, a, b, c.same S⟩⟩
def spPowers (K : PySem.W.Frag) : Sp := fun vs H Q _ => ∃ (a E : Addr) (f : List (Int × Int)) (es : List Int) (p : Int) (k D : Nat) (d : Int), vs = [.ref a, .ref E, .int p] ∧ PrG p ∧ Fits k D ∧ 0 ≤ d ∧ d ≤ D ∧ H a = some (.dK (iK f)) ∧ IsPk p k d f (pr f) ∧ H E = some (.lst (es.map V.int)) ∧ es.length ≤ 1000 ∧
  es.Pairwise (· < ·) ∧ (∀ e ∈ es, 0 ≤ e ∧ e ≤ 1000 ∧ e * d ≤ D ∧ (e < p ∨ Good p)) ∧ ∀ X H', Same H H' → H X = none → PowsAt H' X es p k d f → Q (.ref X) H'
abbrev NPWS : List Str := ["one", "exponents", "prime", "powers", "power", "below", "exponent"]
end
end P2
end

section
set_option maxRecDepth 100000
set_option maxHeartbeats 4000000
/-! What is put in, as it acts. -/
namespace P2
/-- the packs, each to its exponent, multiplied -/
def putT : List (List (Int × Int)) → List Int → (Int → Int) → Int
  | [], _, φ => φ 0
  | f :: fs, e :: es, φ => pw f e.toNat fun x => putT fs es fun y => φ (x + y)
  | f :: fs, [], φ => φ 0
def degS : List Int → List Int → Int
  | d :: ds, e :: es => e * d + degS ds es
  | _, _ => 0
theorem degS_nn : ∀ {ds es : List Int}, (∀ d ∈ ds, 0 ≤ d) → (∀ e ∈ es, 0 ≤ e) → 0 ≤ degS ds es
  | [], _, _, _ => Int.le_refl 0
  | d :: ds, [], _, _ => Int.le_refl 0
  | d :: ds, e :: es, h, g => by
    have a := degS_nn (ds := ds) (es := es) (fun x hx => h x (List.mem_cons_of_mem _ hx)) fun x hx => g x (List.mem_cons_of_mem _ hx)
    have b := Int.mul_nonneg (g e List.mem_cons_self) (h d List.mem_cons_self)
    show 0 ≤ e * d + degS ds es
    omega
theorem putT_congr : ∀ {fs : List (List (Int × Int))} {es : List Int} {φ ψ : Int → Int}, (∀ x, φ x = ψ x) → putT fs es φ = putT fs es ψ
  | [], _, _, _, h => h 0
  | f :: fs, [], _, _, h => h 0
  | f :: fs, e :: es, φ, ψ, h => pw_congr fun x => putT_congr (fs := fs) fun y => h (x + y)
theorem pw_swap (f g : List (Int × Int)) (a : Nat) : ∀ (b : Nat) (G : Int → Int → Int), pw f a (fun x => pw g b fun y => G x y) = pw g b fun y => pw f a fun x => G x y
  | 0, G => rfl
  | b + 1, G => by
    show pw f a (fun x => pr g fun u => pw g b fun v => G x (u + v)) = pr g fun u => pw g b fun v => pw f a fun x => G x (u + v)
    rw [pw_pr f g a fun x u => pw g b fun v => G x (u + v)]
    exact pr_congr fun u _ => pw_swap f g a b fun x v => G x (u.1 + v)
theorem putT_pw (f : List (Int × Int)) (n : Nat) : ∀ (fs : List (List (Int × Int))) (es : List Int) (G : Int → Int → Int), putT fs es (fun y => pw f n fun w => G y w) = pw f n fun w => putT fs es fun y => G y w
  | [], _, _ => rfl
  | g :: fs, [], _ => rfl
  | g :: fs, e :: es, G => by
    show pw g e.toNat (fun x => putT fs es fun y => pw f n fun w => G (x + y) w) = pw f n fun w => pw g e.toNat fun x => putT fs es fun y => G (x + y) w
    rw [← pw_swap]
    exact pw_congr fun x => putT_pw f n fs es fun y w => G (x + y) w
/-- one pack to a power, the others behind it -/
def stepT (f : List (Int × Int)) (fs : List (List (Int × Int))) (m : Nat) (es : List Int) (φ : Int → Int) : Int := pw f m fun x => putT fs es fun y => φ (x + y)
theorem stepT_up (f : List (Int × Int)) (fs : List (List (Int × Int))) (m n : Nat) (es : List Int) (φ : Int → Int) : stepT f fs m es (fun z => pw f n fun w => φ (z + w)) = stepT f fs (m + n) es φ := by
  unfold stepT
  rw [pw_add]
  refine pw_congr fun x => ?_
  rw [putT_pw]
  exact pw_congr fun w => putT_congr fun y => congrArg φ (by omega)
theorem stepT_zero (f : List (Int × Int)) (fs : List (List (Int × Int))) (es : List Int) (φ : Int → Int) : stepT f fs 0 es φ = putT fs es φ := putT_congr fun y => by rw [Int.zero_add]
/-- the terms with one exponent at a place -/
def grp (s : Nat) (e : Int) (ts : List (List Int × Int)) : List (List Int × Int) := ts.filter fun q => decide (q.1.getD s 0 = e)
theorem grp_nil (s : Nat) (e : Int) : grp s e [] = [] := rfl
theorem grp_cons (s : Nat) (e : Int) (q : List Int × Int) (ts : List (List Int × Int)) : grp s e (q :: ts) = if q.1.getD s 0 = e then q :: grp s e ts else grp s e ts := by
  unfold grp
  rw [List.filter_cons]
  by_cases h : q.1.getD s 0 = e
  · rw [if_pos h, if_pos (decide_eq_true h)]
  · rw [if_neg h, if_neg (by rw [decide_eq_false h]; decide)]
theorem grp_snoc {s : Nat} {e : Int} {ts : List (List Int × Int)} {i : Nat} {q : List Int × Int} (h : ts[i]? = some q) : grp s e (ts.take (i + 1)) = if q.1.getD s 0 = e then grp s e (ts.take i) ++ [q] else grp s e (ts.take i) := by
  unfold grp
  rw [List.take_add_one, h, List.filter_append]
  show _ ++ List.filter _ [q] = _
  rw [List.filter_cons]
  by_cases c : q.1.getD s 0 = e
  · rw [if_pos c, if_pos (decide_eq_true c)]
    rfl
  · rw [if_neg c, if_neg (by rw [decide_eq_false c]; decide)]
    exact List.append_nil _
theorem grp_mem {s : Nat} {e : Int} {ts : List (List Int × Int)} {q : List Int × Int} : q ∈ grp s e ts ↔ q ∈ ts ∧ q.1.getD s 0 = e := by
  unfold grp
  rw [List.mem_filter, decide_eq_true_eq]
theorem grp_nd {s : Nat} {e : Int} {ts : List (List Int × Int)} (h : (ts.map (·.1)).Nodup) : ((grp s e ts).map (·.1)).Nodup := (List.Sublist.map _ List.filter_sublist).nodup h
/-- all exponents, one after the other -/
def sumE (ys : List Int) (F : Int → Int) : Int := (ys.map F).sum
theorem sumE_cons (y : Int) (ys : List Int) (F : Int → Int) : sumE (y :: ys) F = F y + sumE ys F := by simp [sumE]
theorem sumE_app (xs ys : List Int) (F : Int → Int) : sumE (xs ++ ys) F = sumE xs F + sumE ys F := by simp [sumE]
theorem sumE_congr : ∀ {ys : List Int} {F G : Int → Int}, (∀ y ∈ ys, F y = G y) → sumE ys F = sumE ys G
  | [], _, _, _ => rfl
  | y :: ys, F, G, h => by rw [sumE_cons, sumE_cons, h y List.mem_cons_self, sumE_congr fun z hz => h z (List.mem_cons_of_mem _ hz)]
theorem sumE_zero : ∀ ys : List Int, sumE ys (fun _ => 0) = 0
  | [] => rfl
  | y :: ys => by rw [sumE_cons, sumE_zero ys]; rfl
theorem sumE_add : ∀ (ys : List Int) (F G : Int → Int), sumE ys (fun y => F y + G y) = sumE ys F + sumE ys G
  | [], _, _ => rfl
  | y :: ys, F, G => by
    rw [sumE_cons, sumE_cons, sumE_cons, sumE_add ys]
    omega
theorem sumE_one {x c : Int} : ∀ {ys : List Int}, ys.Nodup → sumE ys (fun e => if x = e then c else 0) = if x ∈ ys then c else 0
  | [], _ => by simp [sumE]
  | y :: ys, n => by
    rw [List.nodup_cons] at n
    rw [sumE_cons, sumE_one n.2]
    by_cases h : x = y
    · subst h
      rw [if_pos rfl, if_neg n.1, if_pos List.mem_cons_self]
      omega
    · rw [if_neg h, Int.zero_add]
      by_cases g : x ∈ ys
      · rw [if_pos g, if_pos (List.mem_cons_of_mem _ g)]
      · rw [if_neg g, if_neg (by simp [h, g])]
/-- the groups make all -/
theorem grp_all {s : Nat} (F : List Int → Int) : ∀ {ts : List (List Int × Int)} {ys : List Int}, ys.Nodup → (∀ q ∈ ts, q.1.getD s 0 ∈ ys) → sumE ys (fun e => pr (grp s e ts) F) = pr ts F
  | [], ys, _, _ => by
    show sumE ys (fun e => pr [] F) = _
    rw [pr_nil, sumE_zero]
  | q :: ts, ys, n, h => by
    have e1 : ∀ e, pr (grp s e (q :: ts)) F = (if q.1.getD s 0 = e then q.2 * F q.1 else 0) + pr (grp s e ts) F := fun e => by
      rw [grp_cons]
      by_cases c : q.1.getD s 0 = e
      · rw [if_pos c, if_pos c, pr_cons]
      · rw [if_neg c, if_neg c, Int.zero_add]
    rw [sumE_congr fun e _ => e1 e, sumE_add, sumE_one n, if_pos (h q List.mem_cons_self), grp_all F n fun x hx => h x (List.mem_cons_of_mem _ hx), pr_cons]
end P2
end

section
set_option maxRecDepth 100000
set_option maxHeartbeats 4000000
/-! sorted(d, reverse=b), the dict's keys ints, any number of them. -/
namespace L2
open PySem PySem.Spec PyProof.Rows SrtR
section
variable {X : Cx}
def rSortedDR (b : Bool) : List V → List V → Hp → VK → Prop := fun vs zs H Q => ∃ (a : Addr) (kvs : List (Key × V)) (ks : List Int), vs = [.ref a] ∧ zs = [.bl b] ∧ Rd H a (.dK kvs) ∧ kvs.map (·.1) = ks.map Sum.inl ∧ ks.length ≤ 1000000 ∧
  ∀ (ys : List Int) (p : Addr), ys.Perm ks → OrdB b ys → H p = none → Q (.ref p) (upd H p (.lst (ys.map V.int)))
theorem cr_sortedDR {b : Bool} (hcalm : X.calm = true) : CallRK X (.builtin "sorted") [Str.ofString "reverse"] (rSortedDR b) := by
  intro pins s σ H xs zs us ws Q I r rz q
  obtain ⟨a, kvs, ks, rfl, rfl, hd, hks, hz, q⟩ := q
  obtain rfl := Vals.ref1 r
  obtain ⟨w1, rfl, e1⟩ := vals1 rz
  obtain rfl : w1 = Value.bool b := e1
  obtain ⟨z, lo, vs, rel, dd⟩ := dk_rd I.hok hd
  obtain ⟨ep, hat⟩ := dd.dictAt
  have hkeys : vs.map (·.1) = ks.map Sum.inl := rel.keys.symm.trans hks
  have hl : vs.length = ks.length := by
    have e := congrArg List.length hkeys
    simpa using e
  have big : (1000000 : Nat) ≤ sizeLine := by decide
  refine PyProof.Rows.call_function_entry_kw kind_sorted plain_sorted entry_sorted (args_sorted_rev _ _) ?_
  unfold Builtin.«sorted»
  refine wpAny_bind (m := checkCount "sorted" 1 1 _) (wpAny_pure ?_)
  refine wpAny_bind (PySem.W.kdu_collect (A := X.A.in1) (PySem.W.kdl_dict (knd := mixKind X.prog X.w) (kvs := vs) (ep := ep) lo) (I.ok.hd hcalm) hat (by omega) fun h' tk acc hk hacc => ?_)
  have hal : acc.toList.length = ks.length := by rw [Array.length_toList, hacc.1, hl]
  have hS : IntsAre acc.toList ks := ints_each hal fun j v e => by
    obtain ⟨k, x, e1, e2⟩ := hacc.2 j v (by rw [← Array.getElem?_toList]; exact e)
    have e3 : (vs.map (·.1))[j]? = some k := by rw [List.getElem?_map, e1]; rfl
    rw [hkeys, List.getElem?_map] at e3
    obtain ⟨y, e4, rfl⟩ := Option.map_eq_some_iff.mp e3
    rcases keyIs_shape (show keyIs (Sum.inl y) v = true from e2) with ⟨i, t, ek, ev⟩ | ⟨z, t, ek, ev⟩
    · cases ek
      exact ⟨y, t, e4, ev⟩
    · cases ek
  have I1 : Inv X pins σ H { s with heap := h', toks := tk } := I.kept hk
  refine wpAny_bind (wpAny_newList ?_ (by rw [hal]; omega))
  have hoL : (h'.push (seqObj "list" acc.toList.toArray 0)).get? h'.objs.size = some (seqObj "list" acc.toList.toArray 0) := Heap.get?_push_size _ rfl
  show wpAny _ _ _ _ _ { s with heap := h'.push (seqObj "list" acc.toList.toArray 0), toks := tk }
  refine wpAny_bind (wpAny_holding (wpAny_call_entry_kw slot_list_sort ⟨_, hoL, rfl⟩ entry_list_sort ?_ (args_list_sort_rev _ _)))
  refine list_sort_ordR SrtO.swo_int hoL (by rw [hal]; omega) (fun h2 => SrtO.ints_sortable hS h2) fun out h1 h2 => ⟨_, rfl, ?_⟩
  obtain ⟨ns', k1, k2, k3⟩ := ints_outR hS h1 h2
  obtain ⟨e', he'⟩ := sortedHeap_at (vs := acc.toList) (out := if b = true then out.toArray.reverse else out.toArray) hoL
  have hlen : (ns'.map V.int).length ≤ sizeLine := by
    rw [List.length_map, k2.length_eq]
    omega
  refine wpAny_pure ⟨_, rfl, .ref h'.objs.size, upd H h'.objs.size (.lst (ns'.map V.int)), I1.laid (t' := tk) (fun b u e => ?_) (Nat.le_refl _)
    (show ObjOk X.prog X.w _ _ _ (.lst (ns'.map V.int)) from ⟨hlen, _, e', vals_of_ints k1, by rw [Array.toArray_toList]; exact he'⟩), rfl, q ns' _ k2 k3 (I1.hok.fresh (Nat.le_refl _))⟩
  have hb : b < h'.objs.size := Heap.lt_size e
  rw [sortedHeap_old (Nat.ne_of_lt hb) (by rw [size_push']; exact Nat.lt_succ_of_lt hb)]
  exact Heap.get?_push_of_some _ e
end
end L2
end

section
set_option maxRecDepth 100000
set_option maxHeartbeats 8000000
namespace P2
open PySem L2 ClX
/-- the packs that are put in stand in memory -/
structure OthersAt (H : Hp) (as : List Addr) (fs : List (List (Int × Int))) (ds : List Int) (p : Int) (k D : Nat) : Prop where
  l1 : as.length = fs.length
  l2 : ds.length = fs.length
  at_ : ∀ i, i < fs.length → H (as.getD i 0) = some (.dK (iK (fs.getD i []))) ∧ IsPk p k (ds.getD i 0) (fs.getD i []) (pr (fs.getD i [])) ∧ 0 ≤ ds.getD i 0 ∧ ds.getD i 0 ≤ D
theorem OthersAt.same {H H' : Hp} {as : List Addr} {fs : List (List (Int × Int))} {ds : List Int} {p : Int} {k D : Nat} (S : Same H H') (h : OthersAt H as fs ds p k D) : OthersAt H' as fs ds p k D := ⟨h.l1, h.l2, fun i hi => let ⟨a, b⟩ := h.at_ i hi; ⟨S _ _ a, b⟩⟩
/-- exponents that may be -/
def ExpOk (p : Int) (r : List Int) : Prop := ∀ e ∈ r, 0 ≤ e ∧ e ≤ 1000 ∧ (e < p ∨ Good p)
section
variable {P : Program} {w : World} {K : PySem.W.Frag} {mg : Str → Option Value} {base : Heap} {bp : Addr}
def spPutFrom (n : Nat) : Sp := fun vs H Q _ => ∃ (tA oA wA : Addr) (ts : List (List Int × Int)) (as : List Addr) (fs : List (List (Int × Int))) (ds es : List Int) (s : Nat) (p : Int) (k D : Nat) (B : Int), vs = [.ref tA, .ref oA, .int s, .ref wA, .int p] ∧ 1 ≤ n ∧ PrG p ∧ Fits k D ∧ 0 ≤ B ∧ B ≤ D ∧
  H oA = some (.lst (as.map V.ref)) ∧ OthersAt H as fs ds p k D ∧ fs.length = s + n ∧ fs.length ≤ 12 ∧ H tA = some (.dT (rK ts)) ∧ (ts.map (·.1)).Nodup ∧ ts.length ≤ 1000 ∧ (∀ q ∈ ts, q.1.length = fs.length ∧ ExpOk p q.1 ∧ degS (ds.drop s) (q.1.drop s) ≤ B) ∧
  PowsAt H wA es p k (ds.getD (s + n - 1) 0) (fs.getD (s + n - 1) []) ∧ (∀ q ∈ ts, q.1.getD (s + n - 1) 0 ∈ es) ∧
  ∀ q H', Same H H' → H q = none → PkAt H' q p k B (fun φ => pr ts fun row => putT (fs.drop s) (row.drop s) φ) → Q (.ref q) H'
abbrev NPF : List Str := ["terms", "others", "spot", "powers", "prime", "parts", "row", "number", "total", "above", "exponent"]
/-- the last unknown -/
def tBase : TE := fun σ H Q => ∃ (tA oA wA : Addr) (ts : List (List Int × Int)) (es : List Int) (s : Nat) (p : Int) (k D : Nat) (B d : Int) (f : List (Int × Int)), σ = L2.start NPF [.ref tA, .ref oA, .int s, .ref wA, .int p] ∧ PrG p ∧ Fits k D ∧ B ≤ D ∧
  H tA = some (.dT (rK ts)) ∧ ts.length ≤ 1000 ∧ (∀ q ∈ ts, s < q.1.length ∧ q.1.length ≤ 1000 ∧ q.1.getD s 0 ∈ es ∧ q.1.getD s 0 * d ≤ B) ∧ PowsAt H wA es p k d f ∧
  ∀ q H', Same H H' → H q = none → PkAt H' q p k B (fun φ => pr ts fun row => pw f (row.getD s 0).toNat φ) → Q (.ref q) H'
end
end P2
end

section
set_option maxRecDepth 100000
set_option maxHeartbeats 8000000
namespace P2
open PySem L2 ClX
section
variable {P : Program} {w : World} {K : PySem.W.Frag} {mg : Str → Option Value} {base : Heap} {bp : Addr}
/-- the terms dealt by their exponents: X the dict, its keys ks, the groups' places -/
def PartsAt (H0 H : Hp) (X : Addr) (s : Nat) (ts : List (List Int × Int)) (kvs : List (Key × V)) (ks : List Int) : Prop := H X = some (.dK kvs) ∧ kvs.map (·.1) = ks.map Sum.inl ∧ ks.Nodup ∧ ks.length ≤ ts.length ∧ (∀ e, e ∈ ks ↔ ∃ q ∈ ts, q.1.getD s 0 = e) ∧
  (∀ e ∈ ks, ∃ g, valV kvs (Sum.inl e) = some (.ref g) ∧ g ≠ X ∧ H0 g = none ∧ H g = some (.dT (rK (grp s e ts)))) ∧ ∀ e1 e2 g, valV kvs (Sum.inl e1) = some (.ref g) → valV kvs (Sum.inl e2) = some (.ref g) → e1 = e2
/-- what stood before stands, but for the dict and its groups -/
theorem valV_none {kvs : List (Key × V)} {ks : List Int} {e : Int} (h : kvs.map (·.1) = ks.map Sum.inl) (n : e ∉ ks) : valV kvs (Sum.inl e) = none := by
  unfold valV
  rw [List.find?_eq_none.mpr fun q hq => by
    have z : q.1 ∈ kvs.map (·.1) := List.mem_map.mpr ⟨q, hq, rfl⟩
    rw [h] at z
    obtain ⟨x, hx, ex⟩ := List.mem_map.mp z
    rw [decide_eq_true_eq, ← ex]
    intro e2
    injection e2 with e2
    exact n (e2 ▸ hx)]
  rfl
theorem valV_some {kvs : List (Key × V)} {ks : List Int} {e : Int} {v : V} (h : kvs.map (·.1) = ks.map Sum.inl) (g : valV kvs (Sum.inl e) = some v) : e ∈ ks := by
  cases Classical.em (e ∈ ks) with
  | inl h => exact h
  | inr n => rw [valV_none h n] at g; cases g
theorem rK_snoc {ts : List (List Int × Int)} {r : List Int} {c : Int} (h : r ∉ ts.map (·.1)) : putK (rK ts) (rowK r) (V.int c) = rK (ts ++ [(r, c)]) := by
  rw [putK_asK rowK_inj]
  have e : putA ts r c = ts ++ [(r, c)] := by
    unfold putA
    rw [if_neg]
    intro z
    obtain ⟨q, hq, e⟩ := List.any_eq_true.mp z
    exact h (List.mem_map.mpr ⟨q, hq, of_decide_eq_true e⟩)
  rw [e]
theorem ps_weak {X : Cx} {st : Stmt} {t t' : TS} (h : PS X st t) (w : ∀ D σ H, t' D σ H → t D σ H) : PS X st t' := ⟨fun pins s σ H D I q => h.run pins s σ H D I (w D σ H q)⟩
end
end P2
end

section
set_option maxRecDepth 100000
set_option maxHeartbeats 8000000
namespace P2
open PySem L2 ClX
def spSumK : Sp := fun vs H Q _ => ∃ (a b : Addr) (p : Int) (k D : Nat) (d : Int) (T U : (Int → Int) → Int), vs = [.ref a, .ref b, .int p] ∧ PrG p ∧ Fits k D ∧ d ≤ D ∧ PkAt H a p k d T ∧ PkAt H b p k d U ∧
  ∀ q H', Same H H' → H q = none → PkAt H' q p k d (fun φ => T φ + U φ) → Q (.ref q) H'
theorem sumK_of {vs : List V} {H : Hp} {Q : VK} {E : XK} (h : spSumK vs H Q E) : spPackSum vs H Q E := by
  obtain ⟨a, b, p, k, D, d, T, U, rfl, g, F, dD, ⟨m, ha, hm⟩, ⟨n, hb, hn⟩, q⟩ := h
  have l1 := F.len dD hm.nd hm.ky
  have l2 := F.len dD hn.nd hn.ky
  exact ⟨a, b, m, n, p, rfl, ha, hb, hm.nd, hn.nd, by have := g.1; omega, by omega, fun x H' S nx hx => q x H' S nx ⟨_, hx, isPk_sum g hm hn⟩⟩
theorem drop_getD {α : Type} {l : List α} {s : Nat} {d : α} (h : s < l.length) : l.drop s = l.getD s d :: l.drop (s + 1) := by
  rw [List.drop_eq_getElem_cons h, List.getD_eq_getElem?_getD, List.getElem?_eq_getElem h]
  rfl
/-- what is put in so far -/
def midT (ts : List (List Int × Int)) (s : Nat) (f : List (Int × Int)) (rest : List (List (Int × Int))) (ys : List Int) (u : Int) (φ : Int → Int) : Int := sumE ys fun e => pr (grp s e ts) fun row => stepT f rest (e - u).toNat (row.drop (s + 1)) φ
theorem midT_up {ts : List (List Int × Int)} {s : Nat} {f : List (Int × Int)} {rest : List (List (Int × Int))} {ys : List Int} {u e : Int} (h : ∀ y ∈ ys, u ≤ y) (he : e ≤ u) (φ : Int → Int) : midT ts s f rest ys u (fun x => pw f (u - e).toNat fun y => φ (x + y)) = midT ts s f rest ys e φ := by
  unfold midT
  refine sumE_congr fun y hy => pr_congr fun q _ => ?_
  have := h y hy
  rw [stepT_up, show (y - u).toNat + (u - e).toNat = (y - e).toNat by omega]
theorem midT_snoc {ts : List (List Int × Int)} {s : Nat} {f : List (Int × Int)} {rest : List (List (Int × Int))} {ys : List Int} {j : Nat} {e : Int} (h : ys[j]? = some e) (φ : Int → Int) : midT ts s f rest (ys.take (j + 1)) e φ = midT ts s f rest (ys.take j) e φ + pr (grp s e ts) fun row => putT rest (row.drop (s + 1)) φ := by
  unfold midT
  rw [List.take_add_one, h, sumE_app]
  refine congrArg (_ + ·) ?_
  show sumE [e] _ = _
  rw [sumE_cons]
  show _ + 0 = _
  rw [Int.add_zero]
  refine pr_congr fun q _ => ?_
  rw [Int.sub_self]
  exact stepT_zero f rest _ φ
theorem midT_all {ts : List (List Int × Int)} {s : Nat} {fs : List (List (Int × Int))} {ys : List Int} (hs : s < fs.length) (hl : ∀ q ∈ ts, q.1.length = fs.length) (n : ys.Nodup) (h : ∀ q ∈ ts, q.1.getD s 0 ∈ ys) (φ : Int → Int) : midT ts s (fs.getD s []) (fs.drop (s + 1)) ys 0 φ = pr ts fun row => putT (fs.drop s) (row.drop s) φ := by
  rw [← grp_all (s := s) (fun row => putT (fs.drop s) (row.drop s) φ) n h]
  unfold midT
  refine sumE_congr fun e _ => pr_congr fun q hq => ?_
  obtain ⟨h1, h2⟩ := grp_mem.mp hq
  rw [drop_getD (s := s) (d := []) hs, drop_getD (s := s) (d := 0) (l := q.1) (by rw [hl q h1]; exact hs), h2, Int.sub_zero]
  rfl
section
variable {P : Program} {w : World} {K : PySem.W.Frag} {mg : Str → Option Value} {base : Heap} {bp : Addr}
def tStep (n : Nat) : TS := fun D σ H => ∃ (tA oA wA : Addr) (ts : List (List Int × Int)) (as : List Addr) (fs : List (List (Int × Int))) (ds es : List Int) (s : Nat) (p : Int) (k D0 : Nat) (B : Int), σ = L2.start NPF [.ref tA, .ref oA, .int s, .ref wA, .int p] ∧ 1 ≤ n ∧ PrG p ∧ Fits k D0 ∧ 0 ≤ B ∧ B ≤ D0 ∧
  H oA = some (.lst (as.map V.ref)) ∧ OthersAt H as fs ds p k D0 ∧ fs.length = s + (n + 1) ∧ fs.length ≤ 12 ∧ H tA = some (.dT (rK ts)) ∧ (ts.map (·.1)).Nodup ∧ ts.length ≤ 1000 ∧ (∀ q ∈ ts, q.1.length = fs.length ∧ ExpOk p q.1 ∧ degS (ds.drop s) (q.1.drop s) ≤ B) ∧
  PowsAt H wA es p k (ds.getD (s + n) 0) (fs.getD (s + n) []) ∧ (∀ q ∈ ts, q.1.getD (s + n) 0 ∈ es) ∧
  ∀ q H', Same H H' → H q = none → PkAt H' q p k B (fun φ => pr ts fun row => putT (fs.drop s) (row.drop s) φ) → D.rt (.ref q) H'
end
end P2
end

section
set_option maxRecDepth 100000
set_option maxHeartbeats 8000000
namespace P2
open PySem L2 ClX
section
variable {P : Program} {w : World} {K : PySem.W.Frag} {mg : Str → Option Value} {base : Heap} {bp : Addr}
/-- putting in, packed -/
def spPackPut : Sp := fun vs H Q _ => ∃ (tA oA : Addr) (ts : List (List Int × Int)) (as : List Addr) (fs : List (List (Int × Int))) (ds : List Int) (p : Int) (k D : Nat) (B : Int), vs = [.ref tA, .ref oA, .int p] ∧ PrG p ∧ Fits k D ∧ 0 ≤ B ∧ B ≤ D ∧
  H oA = some (.lst (as.map V.ref)) ∧ OthersAt H as fs ds p k D ∧ 1 ≤ fs.length ∧ fs.length ≤ 12 ∧ H tA = some (.dT (rK ts)) ∧ (ts.map (·.1)).Nodup ∧ ts.length ≤ 60 ∧ (∀ q ∈ ts, q.1.length = fs.length ∧ ExpOk p q.1 ∧ degS ds q.1 ≤ B) ∧
  ∀ q H', Same H H' → H q = none → PkAt H' q p k B (fun φ => pr ts fun row => putT fs row φ) → Q (.ref q) H'
end
end P2
end

section
set_option maxRecDepth 100000
set_option maxHeartbeats 8000000
namespace P2
open PySem L2 ClX
theorem keys_put1 {kvs : List (Key × V)} {k : Key} {v : V} (h : k ∈ kvs.map (·.1)) : (putK kvs k v).map (·.1) = kvs.map (·.1) := by
  unfold putK
  rw [if_pos, List.map_map]
  · refine List.map_congr_left fun q _ => ?_
    show (if q.1 = k then (q.1, v) else q).1 = q.1
    split <;> rfl
  · obtain ⟨q, hq, e⟩ := List.mem_map.mp h
    exact List.any_eq_true.mpr ⟨q, hq, decide_eq_true e⟩
theorem keys_put2 {kvs : List (Key × V)} {k : Key} {v : V} (h : k ∉ kvs.map (·.1)) : (putK kvs k v).map (·.1) = kvs.map (·.1) ++ [k] := by
  unfold putK
  rw [if_neg, List.map_append]
  · rfl
  · intro z
    obtain ⟨q, hq, e⟩ := List.any_eq_true.mp z
    exact h (List.mem_map.mpr ⟨q, hq, of_decide_eq_true e⟩)
theorem degS_at : ∀ {ds es : List Int} {m : Nat}, (∀ i, i < ds.length → 0 ≤ ds.getD i 0) → (∀ e ∈ es, 0 ≤ e) → m < ds.length → m < es.length → es.getD m 0 * ds.getD m 0 ≤ degS ds es
  | d :: ds, e :: es, 0, h, g, _, _ => by
    have z := degS_nn (ds := ds) (es := es) (fun x hx => by
      obtain ⟨i, hi⟩ := List.mem_iff_getElem?.mp hx
      have hl := (List.getElem?_eq_some_iff.mp hi).1
      have w := h (i + 1) (by simpa using hl)
      rw [List.getD_eq_getElem?_getD, List.getElem?_cons_succ, hi] at w
      exact w) fun x hx => g x (List.mem_cons_of_mem _ hx)
    show e * d ≤ e * d + degS ds es
    omega
  | d :: ds, e :: es, m + 1, h, g, h1, h2 => by
    have z := degS_at (ds := ds) (es := es) (m := m) (fun i hi => h (i + 1) (by simpa using hi)) (fun x hx => g x (List.mem_cons_of_mem _ hx)) (by simpa using h1) (by simpa using h2)
    have y := Int.mul_nonneg (g e List.mem_cons_self) (show 0 ≤ d from h 0 (by simp))
    show es.getD m 0 * ds.getD m 0 ≤ e * d + degS ds es
    omega
  | [], _, _, _, _, h1, _ => absurd h1 (Nat.not_lt_zero _)
  | _ :: _, [], _, _, _, _, h2 => absurd h2 (Nat.not_lt_zero _)
section
variable {P : Program} {w : World} {K : PySem.W.Frag} {mg : Str → Option Value} {base : Heap} {bp : Addr}
abbrev NPP2 : List Str := ["terms", "others", "prime", "last", "powers", "row"]
end
end P2
end

section
set_option maxRecDepth 100000
set_option maxHeartbeats 2000000
namespace P2
open PySem L2 ClX ZM
/-- what an item is: no polynomial, or one of a prime and a wide -/
def ItemIs (K : PySem.W.Frag) (H : Hp) (C : Addr) (x : V) (o : Option (Int × Int)) : Prop := match o with
  | none => Odd K H x
  | some q => ∃ a ts, x = .ref a ∧ PolyAt H C a q.1 q.2 ts
structure ItemsAt (K : PySem.W.Frag) (H : Hp) (C : Addr) (xs : List V) (os : List (Option (Int × Int))) : Prop where
  l : os.length = xs.length
  at_ : ∀ (i : Nat) (x : V) (o : Option (Int × Int)), xs[i]? = some x → os[i]? = some o → ItemIs K H C x o
theorem ItemIs.same {K : PySem.W.Frag} {H H' : Hp} {C : Addr} {x : V} {o : Option (Int × Int)} (S : Same H H') (h : ItemIs K H C x o) : ItemIs K H' C x o := by
  cases o with
  | none => exact pv_same h S
  | some q => obtain ⟨a, ts, e, z⟩ := h; exact ⟨a, ts, e, z.same S⟩
theorem ItemsAt.same {K : PySem.W.Frag} {H H' : Hp} {C : Addr} {xs : List V} {os : List (Option (Int × Int))} (S : Same H H') (h : ItemsAt K H C xs os) : ItemsAt K H' C xs os := ⟨h.l, fun i x o a b => (h.at_ i x o a b).same S⟩
/-- are they as many polynomials of this prime, all of one wide -/
def areB (os : List (Option (Int × Int))) (m p : Int) : Bool := decide ((os.length : Int) = m) && (os.all Option.isSome && os.all fun o => match o, os.headD none with
  | some q, some r => decide (q.1 = p) && decide (q.2 = r.2)
  | _, _ => false)
def spArePolys (K : PySem.W.Frag) (C : Addr) : Sp := fun vs H Q _ => ∃ (b : Bool) (a : Addr) (n : String) (xs : List V) (os : List (Option (Int × Int))) (m p : Int), vs = [.ref a, .int m, .int p] ∧ SqB K b H a xs ∧ n ∈ kinds7 ∧ TyX K H (.ref a) (.type n) ∧ isL n = true ∧ xs.length ≤ 1000 ∧ 1 ≤ m ∧ ItemsAt K H C xs os ∧ ∀ H', Same H H' → Q (.bl (areB os m p)) H'
section
variable {P : Program} {w : World} {K : PySem.W.Frag} {mg : Str → Option Value} {base : Heap} {bp C B M N : Addr}
abbrev NAP : List Str := ["thing", "many", "prime", "item"]
theorem takeM {α β : Type} (f : α → β) {xs : List α} {i : Nat} {x : α} (h : xs[i]? = some x) : (xs.take (i + 1)).map f = (xs.take i).map f ++ [f x] := take_succ f h
end
end P2
end

section
set_option maxRecDepth 100000
set_option maxHeartbeats 2000000
namespace P2
open PySem L2 ClX ZM
/-- a row of ints at b, a list or a tuple -/
def LineAt (K : PySem.W.Frag) (H : Hp) (b : Addr) (r : List Int) : Prop := ∃ (l : Bool) (nm : String), SqB K l H b (r.map V.int) ∧ nm ∈ kinds7 ∧ isL nm = true ∧ TyX K H (.ref b) (.type nm)
/-- rows of ints at a, each a list or a tuple, in a list or a tuple -/
def TabAt (K : PySem.W.Frag) (H : Hp) (a : Addr) (rows : List (List Int)) : Prop := ∃ (l : Bool) (nm : String) (as : List Addr), SqB K l H a (as.map V.ref) ∧ nm ∈ kinds7 ∧ isL nm = true ∧ TyX K H (.ref a) (.type nm) ∧ as.length = rows.length ∧
  ∀ (i : Nat) (b : Addr) (r : List Int), as[i]? = some b → rows[i]? = some r → LineAt K H b r
theorem LineAt.same {K : PySem.W.Frag} {H H' : Hp} {b : Addr} {r : List Int} (S : Same H H') (h : LineAt K H b r) : LineAt K H' b r := let ⟨l, nm, h1, h2, h3, h4⟩ := h; ⟨l, nm, h1.same S, h2, h3, tyx_same h4 S⟩
theorem TabAt.same {K : PySem.W.Frag} {H H' : Hp} {a : Addr} {rs : List (List Int)} (S : Same H H') (h : TabAt K H a rs) : TabAt K H' a rs := let ⟨l, nm, as, h1, h2, h3, h4, h5, h6⟩ := h; ⟨l, nm, as, h1.same S, h2, h3, tyx_same h4 S, h5, fun i b r x y => (h6 i b r x y).same S⟩
theorem LineAt.lst {K : PySem.W.Frag} {H : Hp} {b : Addr} {r : List Int} (h : H b = some (.lst (r.map V.int))) : LineAt K H b r := ⟨false, "list", SqL.of h, by decide, by decide, .base (.lst h)⟩
theorem LineAt.tup {K : PySem.W.Frag} {H : Hp} {b : Addr} {r : List Int} (h : H b = some (.tup (r.map V.int))) : LineAt K H b r := ⟨true, "tuple", SqT.of h, by decide, by decide, .base (.tup h)⟩
theorem TabAt.lst {K : PySem.W.Frag} {H : Hp} {a : Addr} {as : List Addr} {rs : List (List Int)} (h : H a = some (.lst (as.map V.ref))) (l : as.length = rs.length) (hr : ∀ (i : Nat) (b : Addr) (r : List Int), as[i]? = some b → rs[i]? = some r → LineAt K H b r) : TabAt K H a rs := ⟨false, "list", as, SqL.of h, by decide, by decide, .base (.lst h), l, hr⟩
theorem TabAt.tup {K : PySem.W.Frag} {H : Hp} {a : Addr} {as : List Addr} {rs : List (List Int)} (h : H a = some (.tup (as.map V.ref))) (l : as.length = rs.length) (hr : ∀ (i : Nat) (b : Addr) (r : List Int), as[i]? = some b → rs[i]? = some r → LineAt K H b r) : TabAt K H a rs := ⟨true, "tuple", as, SqT.of h, by decide, by decide, .base (.tup h), l, hr⟩
/-- as many rows, each as wide -/
def rowsB (rs : List (List Int)) (n m : Int) : Bool := decide ((rs.length : Int) = n) && rs.all fun r => decide ((r.length : Int) = m)
def spAreLines (K : PySem.W.Frag) : Sp := fun vs H Q _ => ∃ (a : Addr) (rs : List (List Int)) (n m : Int), vs = [.ref a, .int n, .int m] ∧ TabAt K H a rs ∧ rs.length ≤ 1000 ∧ (∀ r ∈ rs, r.length ≤ 1000) ∧ ∀ H', Same H H' → Q (.bl (rowsB rs n m)) H'
section
variable {P : Program} {w : World} {K : PySem.W.Frag} {mg : Str → Option Value} {base : Heap} {bp : Addr}
abbrev NAL : List Str := ["thing", "tall", "wide", "line"]
theorem scAL : FnScope NAL ["thing", "tall", "wide"] (defScope (top 25)) := ⟨rfl, rfl, rfl, by decide +kernel, rfl, by decide +kernel, by decide +kernel⟩
theorem ok_arelines {f fA fL : Addr} {fd fdA fdL : FuncData} (F : Fun K "are_lines" "are_lines" (top 25) f fd) (T : Tx K mg bp)
    (GA : FnOk P w K mg base CX0 2 fA fdA ["thing", "many"] (spAreNum K)) (kA : PySem.W.keepIn K (.ref fA) = true) (bA : Binds K fdA ["thing", "many"] []) (gA : mg "are_numbers" = some (.ref fA))
    (GL : FnOk P w K mg base CX0 1 fL fdL ["thing"] (spIsList K)) (kL : PySem.W.keepIn K (.ref fL) = true) (bL : Binds K fdL ["thing"] []) (gL : mg "is_list" = some (.ref fL)) :
    FnOk P w K mg base CX0 3 f fd ["thing", "tall", "wide"] (spAreLines K) := by
  refine F.ok scAL (fun vs H Q E h => ?_) (fun cdv A outer s H vs Q E hr h => ?_)
  · obtain ⟨a, rs, n, m, rfl, _⟩ := h
    rfl
  · obtain ⟨a, rs, n, m, rfl, ⟨l, nm, as, hq, hn, hl, t, ln, hat⟩, hz, hzr, k⟩ := h
    refine ⟨_, pss_one (ps_ret (pe_and (pe_call GL (hr.mono (by decide)) rfl gL kL bL .nil pass0 (pa_cons (pv 0) pa_nil)) (pe_and (pe_cmpR op_eq (pe_callB call_len_seq (by rfl) T.len (by decide +kernel) (pa_cons (pv 0) pa_nil)) (pv 1) (nomark _))
      (pe_one (pe_callB (cr_all rfl) (by rfl) T.all (by decide +kernel) (pa_cons (pe_lc (own := [("line", 3)]) (g := gName 3) (tt := tYes) rfl scAL.nd (pi_seqB (pv 0)) (blkOk_by (own := [("line", 3)]) (N := NAL) (sc := defScope (top 25)) (by decide +kernel))
        (fun _ _ _ _ _ => pg_name (i := 3) scAL.nd rfl (Or.inl rfl)) (fun _ _ _ _ _ => pts_nil) (fun _ _ _ _ _ => pe_call GA (hr.mono (by decide)) rfl gA kA bA .nil pass0 (pa_cons (pv 3) (pa_cons (pv 2) pa_nil)))) pa_nil)))))), ?_⟩
    refine ⟨.ref a, rfl, .ref a, nm, rfl, hn, t, fun H1 S1 => ⟨_, rfl, ?_⟩⟩
    rw [hl]
    have hq1 := hq.same S1
    refine iteT ⟨_, rfl, a, _, rfl, hq1.lenOf, _, rfl, rfl, _, rfl, ?_⟩
    have e1 : decide (V.int (((as.map V.ref).length : Nat) : Int) = V.int n) = decide ((rs.length : Int) = n) := decide_eq_decide.mpr ⟨fun z => by rw [← ln, ← List.length_map (f := V.ref)]; exact V.int.inj z, fun z => by rw [← z, ← ln, List.length_map]⟩
    rw [e1]
    unfold rowsB at k
    refine ite2 (fun h1 => ?_) fun h1 => ?_
    · rw [h1, Bool.true_and] at k
      refine ⟨_, rfl, l, a, as.map V.ref, rfl, hq1, fun D hD => lc_it walk_seqB (fun i H' => Same H1 H' ∧ H' D = some (.lst (((rs.take i).map fun r => decide ((r.length : Int) = m)).map V.bl))) ⟨(Same.refl _).put hD, upd_same⟩ (fun i H' _ h => hq1.same h.1) ?_ ?_⟩
      · rintro i x H2 H3 hi ⟨S2, hL⟩ ⟨rfl, hx⟩
        rw [List.length_map] at hi
        obtain ⟨b, hb, rfl⟩ : ∃ b, as[i]? = some b ∧ x = .ref b := by
          rw [List.getElem?_map, List.getElem?_eq_getElem hi] at hx
          exact ⟨_, List.getElem?_eq_getElem hi, (Option.some.inj hx).symm⟩
        have hr0 : rs[i]? = some (rs[i]'(by omega)) := List.getElem?_eq_getElem (by omega)
        generalize rs[i]'(by omega) = r at hr0
        obtain ⟨l2, nm2, q2, n2, il2, t2⟩ := (hat i b r hb hr0).same (S1.trans S2)
        have zr := hzr r (List.mem_of_getElem? hr0)
        refine ⟨rfl, _, rfl, _, rfl, .ref b, nm2, m, b, r.map V.int, rfl, n2, t2, fun _ => ⟨rfl, q2.lenOf, by rw [List.length_map]; exact zr, fun x hx => ?_⟩, fun H4 S4 => ⟨_, S4 _ _ hL, ?_, (S2.trans S4).put hD, ?_⟩⟩
        · obtain ⟨z, _, rfl⟩ := List.mem_map.mp hx
          exact pv_flat rfl
        · rw [List.length_map, List.length_map, List.length_take]
          exact small1000 (by omega)
        · have ea : (r.map V.int).all isI = true := by
            rw [List.all_eq_true]
            intro x hx
            obtain ⟨z, _, rfl⟩ := List.mem_map.mp hx
            rfl
          rw [upd_same, il2, ea, Bool.and_true, Bool.true_and, List.length_map, take_succ (fun r : List Int => decide ((r.length : Int) = m)) hr0, List.map_append]
          rfl
      · intro H' ⟨S2, hL⟩
        rw [List.length_map, ln, List.take_length] at hL
        refine ⟨D, _, rfl, SqL.of hL, ?_⟩
        have e2 : (rs.map fun r => decide ((r.length : Int) = m)).all id = rs.all fun r => decide ((r.length : Int) = m) := by
          rw [List.all_map]
          rfl
        rw [e2]
        exact k _ (S1.trans S2)
    · rw [Bool.eq_false_iff.mpr h1, Bool.false_and] at k
      exact k _ S1
end
end P2
end

section
set_option maxRecDepth 100000
set_option maxHeartbeats 2000000
namespace P2
open PySem L2 ClX ZM
/-- what the top has written of Table and its error -/
structure Tb (K : PySem.W.Frag) (mg : Str → Option Value) (C B : Addr) : Prop where
  cl : Cls K C
  n1 : NoAttr K C "prime"
  n2 : NoAttr K C "tall"
  n3 : NoAttr K C "wide"
  n4 : NoAttr K C "lines"
  gC : mg "Table" = some (.ref C)
  ml : ∃ t, mg "MOST_LINES" = some (.int 60 t)
  gB : mg "BadTable" = some (.ref B)
  xB : PySem.W.excIn K B [.type "ValueError", .type "Exception", .type "BaseException", .type "object"] "ValueError.__new__" = true
  kB : PySem.W.keepIn K (.ref B) = true
  sB : PySem.W.subIn K (.ref B) (.type "BaseException") = some true
  tB : PySem.W.typeIn K (.ref B) = some (.type "type")
  c1 : PySem.W.findIn K (.ref C) "__class__" = some (some (.builtin "object.__class__"))
  c2 : PySem.W.specialIn K (.builtin "object.__class__") "__get__" = some (some (.builtin "getset_descriptor.__get__"))
  c3 : PySem.W.takesIn K (.builtin "object.__class__") = some true
  c4 : PySem.W.mroIn K C (.type "object") = some true
  kC : PySem.W.kitOne K (.ref C) (.ref C) = some true
  kN : ∀ n ∈ kinds7, PySem.W.kitOne K (.type n) (.ref C) = some false
abbrev sTI : Stmt := inClass (top 24) 0
abbrev sTE : Stmt := inClass (top 24) 1
/-- the fields of a Table -/
def fsT (p n m : Int) (d : Addr) : List (Str × V) := putF "lines" (.ref d) (putF "wide" (.int m) (putF "tall" (.int n) (putF "prime" (.int p) [])))
theorem fst_prime (p n m : Int) (d : Addr) : (fsT p n m d).lookup ("prime" : Str) = some (V.int p) := by
  unfold fsT
  rw [lookup_putF, if_neg (by decide), lookup_putF, if_neg (by decide), lookup_putF, if_neg (by decide), lookup_putF, if_pos rfl]
theorem fst_tall (p n m : Int) (d : Addr) : (fsT p n m d).lookup ("tall" : Str) = some (V.int n) := by
  unfold fsT
  rw [lookup_putF, if_neg (by decide), lookup_putF, if_neg (by decide), lookup_putF, if_pos rfl]
theorem fst_wide (p n m : Int) (d : Addr) : (fsT p n m d).lookup ("wide" : Str) = some (V.int m) := by
  unfold fsT
  rw [lookup_putF, if_neg (by decide), lookup_putF, if_pos rfl]
theorem fst_lines (p n m : Int) (d : Addr) : (fsT p n m d).lookup ("lines" : Str) = some (V.ref d) := by
  unfold fsT
  rw [lookup_putF, if_pos rfl]
/-- rows of ints at d, a tuple of tuples -/
def TupsAt (H : Hp) (d : Addr) (rs : List (List Int)) : Prop := ∃ as : List Addr, H d = some (.tup (as.map V.ref)) ∧ as.length = rs.length ∧ ∀ (i : Nat) (b : Addr) (r : List Int), as[i]? = some b → rs[i]? = some r → H b = some (.tup (r.map V.int))
/-- a Table at a -/
def TableAt (H : Hp) (C a : Addr) (p n m : Int) (rs : List (List Int)) : Prop := ∃ dx d, H a = some (.ins C dx (fsT p n m d)) ∧ TupsAt H d rs
theorem TupsAt.same {H H' : Hp} {d : Addr} {rs : List (List Int)} (S : Same H H') (h : TupsAt H d rs) : TupsAt H' d rs := let ⟨as, h1, h2, h3⟩ := h; ⟨as, S _ _ h1, h2, fun i b r x y => S _ _ (h3 i b r x y)⟩
theorem TupsAt.tab {K : PySem.W.Frag} {H : Hp} {d : Addr} {rs : List (List Int)} (h : TupsAt H d rs) : TabAt K H d rs := let ⟨as, h1, h2, h3⟩ := h; TabAt.tup h1 h2 fun i b r x y => LineAt.tup (h3 i b r x y)
theorem TableAt.same {H H' : Hp} {C a : Addr} {p n m : Int} {rs : List (List Int)} (S : Same H H') (h : TableAt H C a p n m rs) : TableAt H' C a p n m rs := let ⟨dx, d, h1, h2⟩ := h; ⟨dx, d, S _ _ h1, h2.same S⟩
/-- the rows modulo p -/
def modT (p : Int) (rs : List (List Int)) : List (List Int) := rs.map fun r => r.map (· % p)
def spTInit (K : PySem.W.Frag) (C : Addr) : Sp := fun vs H Q _ => ∃ (x dx a : Addr) (p n m : Int) (rs : List (List Int)), vs = [.ref x, .int p, .int n, .int m, .ref a] ∧ H x = some (.ins C dx []) ∧ p ∈ primes ∧ (0 ≤ n ∧ n ≤ 60) ∧ (0 ≤ m ∧ m ≤ 60) ∧ TabAt K H a rs ∧ rowsB rs n m = true ∧
  ∀ H', SameX x H H' → TableAt H' C x p n m (modT p rs) → Q .non H'
theorem ftl1 (v : V) : (putF "prime" v []).length ≤ 1 := length_putF "prime" v []
theorem ftl2 (u v : V) : (putF "tall" u (putF "prime" v [])).length ≤ 2 := by
  have h1 := length_putF "tall" u (putF "prime" v [])
  have h2 := ftl1 v
  omega
theorem ftl3 (t u v : V) : (putF "wide" t (putF "tall" u (putF "prime" v []))).length ≤ 3 := by
  have h1 := length_putF "wide" t (putF "tall" u (putF "prime" v []))
  have h2 := ftl2 u v
  omega
theorem rowsB_len {rs : List (List Int)} {n m : Int} (h : rowsB rs n m = true) : (rs.length : Int) = n ∧ ∀ r ∈ rs, (r.length : Int) = m := by
  unfold rowsB at h
  rw [Bool.and_eq_true, List.all_eq_true] at h
  exact ⟨of_decide_eq_true h.1, fun r hr => of_decide_eq_true (h.2 r hr)⟩
section
variable {P : Program} {w : World} {K : PySem.W.Frag} {mg : Str → Option Value} {base : Heap} {bp C B : Addr}
abbrev NTI : List Str := ["self", "prime", "tall", "wide", "lines", "line", "number"]
theorem scTI : FnScope NTI ["self", "prime", "tall", "wide", "lines"] (defScope sTI) := ⟨rfl, rfl, rfl, by decide +kernel, rfl, by decide +kernel, by decide +kernel⟩
abbrev stTI (i : Nat) : Stmt := (defBody sTI).getD i (.Pass ⟨0, 0, 0, 0⟩)
abbrev cxTI (P : Program) (w : World) (K : PySem.W.Frag) (mg : Str → Option Value) (base : Heap) (f : Addr) (cdv : Value) (A : Around) (outer : List Env) (s : Shared) (H : Hp) (E : XK) : Cx := cxOf (L2.CX P w) P w K mg base NTI "Table.__init__" (defScope sTI) f cdv A outer s H E
abbrev slTI (x a : Addr) (p n m : Int) : L2.St := [some (.ref x), some (.int p), some (.int n), some (.int m), some (.ref a), none, none]
theorem tinit_b {f fP fW fA : Addr} {dP dW dA : FuncData} {cdv : Value} {A : Around} {outer : List Env} {s : Shared} {H : Hp} {E : XK} (T : Tx K mg bp) (Y : Tb K mg C B)
    (GP : FnOk P w K mg base (L2.CX P w) 3 fP dP ["prime"] (spCheckPrime K bp)) (kP : PySem.W.keepIn K (.ref fP) = true) (bP : Binds K dP ["prime"] []) (gP : mg "check_prime" = some (.ref fP))
    (GW : FnOk P w K mg base CX0 2 fW dW ["thing", "least", "most"] (spWithin K)) (kW : PySem.W.keepIn K (.ref fW) = true) (bW : Binds K dW ["thing", "least", "most"] []) (gW : mg "is_within" = some (.ref fW))
    (GA : FnOk P w K mg base CX0 3 fA dA ["thing", "tall", "wide"] (spAreLines K)) (kA : PySem.W.keepIn K (.ref fA) = true) (bA : Binds K dA ["thing", "tall", "wide"] []) (gA : mg "are_lines" = some (.ref fA))
    (hr : Room 5 (A.deeper (PyProof.Rows.envOfC "Table.__init__" (defScope sTI) s.heap.objs.size f cdv))) {rest : List Stmt} {t : TS} (hrest : PSs (cxTI P w K mg base f cdv A outer s H E) rest t) :
    PSs (cxTI P w K mg base f cdv A outer s H E) (stTI 0 :: stTI 1 :: stTI 2 :: rest) (fun D σ H => ∃ (x a : Addr) (p n m : Int) (rs : List (List Int)), σ = slTI x a p n m ∧ p ∈ primes ∧ (0 ≤ n ∧ n ≤ 60) ∧ (0 ≤ m ∧ m ≤ 60) ∧ TabAt K H a rs ∧ rowsB rs n m = true ∧ ∀ H', Same H H' → t D σ H') := by
  obtain ⟨tl, hl⟩ := Y.ml
  refine pss_weak (pss_cons (ps_expr (pe_call (E := E) GP (hr.mono (by decide)) rfl gP kP bP .nil (passes_call (takes_of rfl rfl rfl rfl) fun _ _ _ _ h => h) (pa_cons (pv 1) pa_nil)))
    (pss_cons (ps_if (pt_not (PW.pt (pw_and (pt_val (pe_call GW (hr.mono (by decide)) rfl gW kW bW .nil pass0 (pa_cons (pv 2) (pa_cons pe_int (pa_cons (pe_glob (v := .int 60) rfl hl ⟨tl, rfl⟩) pa_nil))))) (pw_and1 (pt_val (pe_call GW (hr.mono (by decide)) rfl gW kW bW .nil pass0 (pa_cons (pv 3) (pa_cons pe_int (pa_cons (pe_glob (v := .int 60) rfl hl ⟨tl, rfl⟩) pa_nil)))))))))
        (pss_one (ps_raise rfl (takes_of rfl rfl rfl rfl) (pmk_own PySem.F.excBase_ValueError Y.xB Y.gB Y.kB (raises_own Y.sB Y.tB) rfl))) pss_nil)
    (pss_cons (ps_if (pt_not (pt_val (pe_call GA (hr.mono (by decide)) rfl gA kA bA .nil pass0 (pa_cons (pv 4) (pa_cons (pv 2) (pa_cons (pv 3) pa_nil))))))
        (pss_one (ps_raise rfl (takes_of rfl rfl rfl rfl) (pmk_own PySem.F.excBase_ValueError Y.xB Y.gB Y.kB (raises_own Y.sB Y.tB) rfl))) pss_nil) hrest))) ?_
  rintro D σ H ⟨x, a, p, n, m, rs, rfl, hp, hn, hm, ht, hb, k⟩
  have ip : isP (.int p) = true := decide_eq_true hp
  have bn : inB (.int n) 0 60 = true := by
    show (decide (0 ≤ n) && decide (n ≤ 60)) = true
    rw [decide_eq_true hn.1, decide_eq_true hn.2]
    rfl
  have bm : inB (.int m) 0 60 = true := by
    show (decide (0 ≤ m) && decide (m ≤ 60)) = true
    rw [decide_eq_true hm.1, decide_eq_true hm.2]
    rfl
  obtain ⟨l1, l2⟩ := rowsB_len hb
  refine ⟨_, rfl, .int p, rfl, pv_flat rfl, fun _ => ?_, fun h => (Bool.noConfusion (ip.symm.trans h))⟩
  refine ⟨_, rfl, .int n, 0, 60, rfl, pv_flat rfl, _, rfl, ?_⟩
  rw [bn]
  refine iteT ⟨_, rfl, .int m, 0, 60, rfl, pv_flat rfl, _, rfl, ?_⟩
  rw [bm]
  refine iteF ?_
  refine ⟨_, rfl, _, rfl, _, rfl, a, rs, n, m, rfl, ht, by omega, fun r hr => by have := l2 r hr; omega, fun H1 S1 => ⟨_, rfl, ?_⟩⟩
  rw [hb]
  exact iteF (k _ S1)
end
end P2
end

section
set_option maxRecDepth 100000
set_option maxHeartbeats 2000000
namespace P2
open PySem L2 ClX ZM
theorem SqB.sameX {K : PySem.W.Frag} {l : Bool} {x : Addr} {H H' : Hp} {a : Addr} {xs : List V} {C dx : Addr} {fs : List (Str × V)} (hx : H x = some (.ins C dx fs)) (S : SameX x H H') (h : SqB K l H a xs) : SqB K l H' a xs := by
  have up : ∀ {o : HO}, H a = some o → (∀ C dx fs, o ≠ .ins C dx fs) → H' a = some o := fun {o} e ne => S _ _ e fun z => by
    subst z
    rw [hx] at e
    exact ne _ _ _ (Option.some.inj e).symm
  cases l with
  | false =>
    rcases h with (h | ⟨o, h⟩) | h
    · exact .inl (.inl (up h (by intro _ _ _ z; cases z)))
    · exact .inl (.inr ⟨o, up h (by intro _ _ _ z; cases z)⟩)
    · exact .inr h
  | true =>
    rcases h with (h | ⟨o, h⟩) | h
    · exact .inl (.inl (up h (by intro _ _ _ z; cases z)))
    · exact .inl (.inr ⟨o, up h (by intro _ _ _ z; cases z)⟩)
    · exact .inr h
/-- tuple(e) -/
def rTupO (K : PySem.W.Frag) : List V → Hp → VK → Prop := fun xs H Q => ∃ p ys, xs = [.ref p] ∧ ((SqL K H p ys ∧ ∀ l, H l = none → Q (.ref l) (upd H l (.tup ys))) ∨ (SqT K H p ys ∧ Q (.ref p) H))
/-- {e1 % e2} -/
abbrev tMod (i j : Nat) : TE := tOp (rI (fun _ j => 0 < j) fun i j => .int (i % j)) (tVar i) (tVar j)
section
variable {P : Program} {w : World} {K : PySem.W.Frag} {mg : Str → Option Value} {base : Heap} {bp C B : Addr}
theorem tinit_c {f : Addr} {cdv : Value} {A : Around} {outer : List Env} {s : Shared} {H : Hp} {E : XK} (T : Tx K mg bp) (Y : Tb K mg C B)
    (hr : Room 5 (A.deeper (PyProof.Rows.envOfC "Table.__init__" (defScope sTI) s.heap.objs.size f cdv))) :
    PSs (cxTI P w K mg base f cdv A outer s H E) [stTI 3, stTI 4, stTI 5, stTI 6] (fun D σ H => ∃ (x dx a : Addr) (p n m : Int) (rs : List (List Int)), σ = slTI x a p n m ∧ H x = some (.ins C dx []) ∧ 0 < p ∧ TabAt K H a rs ∧ rs.length ≤ 1000 ∧ (∀ r ∈ rs, r.length ≤ 1000) ∧
      ∀ H', SameX x H H' → TableAt H' C x p n m (modT p rs) → D.nx σ H') := by
  have hu := hu_of hr
  refine pss_weak (pss_cons (ps_fld (pv 0) (pv 1) rfl) (pss_cons (ps_fld (pv 0) (pv 2) rfl) (pss_cons (ps_fld (pv 0) (pv 3) rfl)
    (pss_one (ps_fld (pv 0) (pe_callTy (T := "tuple") (r := rTupO K) call_tuple_of (by rfl) T.tuple (by decide +kernel) (pa_cons (pe_lc (own := [("line", 5)]) (g := gName 5) (tt := tYes) (te := tCB (rTupO K) (tCons (tLc (iSeqB K (tVar 5)) (gName 6) tYes (tMod 6 1) [6]) tNil)) rfl scTI.nd (pi_seqB (pv 4)) (blkOk_by (own := [("line", 5)]) (N := NTI) (sc := defScope sTI) (by decide +kernel))
        (fun _ _ _ _ _ => pg_name (i := 5) scTI.nd rfl (Or.inl rfl)) (fun _ _ _ _ _ => pts_nil) (fun _ _ _ _ _ => pe_callTy (T := "tuple") (r := rTupO K) call_tuple_of (by rfl) T.tuple (by decide +kernel) (pa_cons (pe_lc (own := [("number", 6)]) (g := gName 6) (tt := tYes) rfl scTI.nd (pi_seqB (pv 5)) (blkOk_by (own := [("number", 6)]) (by rfl))
          (fun _ _ _ _ _ => pg_name (i := 6) scTI.nd rfl (Or.inl rfl)) (fun _ _ _ _ _ => pts_nil) (fun _ _ _ _ _ => pe_op op_mod (pv 6) (pv 1))) pa_nil))) pa_nil)) rfl))))) ?_
  rintro D σ H ⟨x, dx, a, p, n, m, rs, rfl, hx, hp, ⟨l, nm, as, hq, hn, hl, t, ln, hat⟩, hz, hzr, k⟩
  refine ⟨_, rfl, _, rfl, x, C, dx, [], rfl, hx, Y.cl, Y.n1, by decide, ?_⟩
  refine ⟨_, rfl, _, rfl, x, C, dx, _, rfl, upd_same, Y.cl, Y.n2, Nat.lt_of_le_of_lt (ftl1 _) (by decide), ?_⟩
  rw [upd_upd]
  refine ⟨_, rfl, _, rfl, x, C, dx, _, rfl, upd_same, Y.cl, Y.n3, Nat.lt_of_le_of_lt (ftl2 _ _) (by decide), ?_⟩
  rw [upd_upd]
  have S1 : SameX x H (upd H x (.ins C dx (putF "wide" (.int m) (putF "tall" (.int n) (putF "prime" (.int p) []))))) := fun b o e ne => by rw [upd_ne ne]; exact e
  have x1 : upd H x (.ins C dx (putF "wide" (.int m) (putF "tall" (.int n) (putF "prime" (.int p) [])))) x = some (.ins C dx (putF "wide" (.int m) (putF "tall" (.int n) (putF "prime" (.int p) [])))) := upd_same
  generalize upd H x (.ins C dx (putF "wide" (.int m) (putF "tall" (.int n) (putF "prime" (.int p) [])))) = H1 at S1 x1
  have hq1 := SqB.sameX hx S1 hq
  refine ⟨_, rfl, l, a, as.map V.ref, rfl, hq1, fun D1 hD => lc_it walk_seqB (fun i H' => Same H1 H' ∧ ∃ bs : List Addr, H' D1 = some (.lst (bs.map V.ref)) ∧ bs.length = i ∧ ∀ (j : Nat) (b : Addr) (r : List Int), bs[j]? = some b → rs[j]? = some r → H' b = some (.tup ((r.map (· % p)).map V.int))) ⟨(Same.refl _).put hD, [], upd_same, rfl, fun j b r z => by cases z⟩ (fun i H' _ h => hq1.same h.1) ?_ ?_⟩
  · rintro i v H2 H3 hi ⟨S2, bs, hL, lb, hbs⟩ ⟨rfl, hv⟩
    rw [List.length_map] at hi
    obtain ⟨b, hb, rfl⟩ : ∃ b, as[i]? = some b ∧ v = .ref b := by
      rw [List.getElem?_map, List.getElem?_eq_getElem hi] at hv
      exact ⟨_, List.getElem?_eq_getElem hi, (Option.some.inj hv).symm⟩
    obtain ⟨r, hr0⟩ : ∃ r, rs[i]? = some r := ⟨_, List.getElem?_eq_getElem (by omega)⟩
    obtain ⟨l2, nm2, q2, _⟩ := hat i b r hb hr0
    have q3 := (SqB.sameX hx S1 q2).same S2
    have zr := hzr r (List.mem_of_getElem? hr0)
    refine ⟨rfl, ?_⟩
    refine ⟨_, rfl, l2, b, r.map V.int, rfl, q3, fun D2 hD2 => lc_it walk_seqB (fun j H' => Same H3 H' ∧ H' D2 = some (.lst (((r.take j).map (· % p)).map V.int))) ⟨(Same.refl _).put hD2, upd_same⟩ (fun i H' _ h => q3.same h.1) ?_ ?_⟩
    · rintro j v H4 H5 hj ⟨S4, hL4⟩ ⟨rfl, hv⟩
      rw [List.length_map] at hj
      have hz0 : r[j]? = some (r[j]) := List.getElem?_eq_getElem hj
      generalize r[j] = z at hz0
      obtain rfl : v = .int z := by
        rw [List.getElem?_map, hz0] at hv
        exact (Option.some.inj hv).symm
      refine ⟨rfl, _, rfl, _, rfl, z, p, rfl, rfl, hp, _, hL4, ?_, S4.put hD2, ?_⟩
      · rw [List.length_map, List.length_map, List.length_take]
        exact small1000 (by omega)
      · rw [upd_same, take_succ (· % p) hz0, List.map_append]
        rfl
    · intro H4 ⟨S4, hL4⟩
      rw [List.length_map, List.take_length] at hL4
      refine ⟨D2, _, rfl, .inl ⟨SqL.of hL4, fun q hq => ?_⟩⟩
      have S5 : Same H3 (upd H4 q (.tup ((r.map (· % p)).map V.int))) := S4.new hq
      refine ⟨_, S5 _ _ hL, ?_, (S2.trans S5).put hD, bs ++ [q], ?_, ?_, ?_⟩
      · rw [List.length_map, lb]
        exact small1000 (by omega)
      · rw [upd_same, List.map_append]
        rfl
      · rw [List.length_append, lb]
        rfl
      · intro j c r2 hc hr2
        have ne : c ≠ D1 → upd (upd H4 q (.tup ((r.map (· % p)).map V.int))) D1 (.lst (bs.map V.ref ++ [V.ref q])) c = upd H4 q (.tup ((r.map (· % p)).map V.int)) c := fun z => upd_ne z
        rcases Nat.lt_or_ge j bs.length with hj | hj
        · rw [List.getElem?_append_left hj] at hc
          have h5 := hbs j c r2 hc hr2
          rw [ne (fun z => by rw [z, hL] at h5; cases h5)]
          exact S5 _ _ h5
        · rw [List.getElem?_append_right hj] at hc
          have hj0 : j = i := by
            have := (List.getElem?_eq_some_iff.mp hc).1
            simp at this
            omega
          subst hj0
          rw [hr0] at hr2
          obtain rfl := Option.some.inj hr2
          obtain rfl : q = c := by
            rw [lb, Nat.sub_self] at hc
            exact Option.some.inj hc
          have h6 := S5 _ _ hL
          rw [ne (fun z => by rw [z, upd_same] at h6; cases h6), upd_same]
  · intro H4 ⟨S4, bs, hL, lb, hbs⟩
    rw [List.length_map] at lb
    refine ⟨D1, _, rfl, .inl ⟨SqL.of hL, fun q hq => ?_⟩⟩
    have S5 : Same H1 (upd H4 q (.tup (bs.map V.ref))) := S4.new hq
    refine ⟨_, rfl, x, C, dx, _, rfl, S5 _ _ x1, Y.cl, Y.n4, Nat.lt_of_le_of_lt (ftl3 _ _ _) (by decide), ?_⟩
    refine k _ (fun b o e ne => by rw [upd_ne ne]; exact S5 _ _ (S1 _ _ e ne)) ⟨dx, q, upd_same, bs, ?_, ?_, ?_⟩
    · have h4 := S4 _ _ x1
      rw [upd_ne (fun z => by rw [z, h4] at hq; cases hq), upd_same]
    · unfold modT
      rw [List.length_map, lb, ln]
    · intro i b r hb hr2
      unfold modT at hr2
      rw [List.getElem?_map] at hr2
      cases hr3 : rs[i]? with
      | none => rw [hr3] at hr2; cases hr2
      | some r0 =>
        rw [hr3] at hr2
        obtain rfl := Option.some.inj hr2
        have h5 := hbs i b r0 hb hr3
        have h4 := S4 _ _ x1
        rw [upd_ne (fun z => by rw [z, h4] at h5; cases h5), upd_ne (ne_of_none h5 hq)]
        exact h5
theorem ok_tinit {f fP fW fA : Addr} {fd dP dW dA : FuncData} (F : Fun K "__init__" "Table.__init__" sTI f fd) (T : Tx K mg bp) (Y : Tb K mg C B)
    (GP : FnOk P w K mg base (L2.CX P w) 3 fP dP ["prime"] (spCheckPrime K bp)) (kP : PySem.W.keepIn K (.ref fP) = true) (bP : Binds K dP ["prime"] []) (gP : mg "check_prime" = some (.ref fP))
    (GW : FnOk P w K mg base CX0 2 fW dW ["thing", "least", "most"] (spWithin K)) (kW : PySem.W.keepIn K (.ref fW) = true) (bW : Binds K dW ["thing", "least", "most"] []) (gW : mg "is_within" = some (.ref fW))
    (GA : FnOk P w K mg base CX0 3 fA dA ["thing", "tall", "wide"] (spAreLines K)) (kA : PySem.W.keepIn K (.ref fA) = true) (bA : Binds K dA ["thing", "tall", "wide"] []) (gA : mg "are_lines" = some (.ref fA)) :
    FnOk P w K mg base (L2.CX P w) 6 f fd ["self", "prime", "tall", "wide", "lines"] (spTInit K C) := by
  refine okX F scTI (fun vs H Q E h => ?_) (fun cdv A outer s H vs Q E hr h => ?_)
  · obtain ⟨x, dx, a, p, n, m, rs, rfl, _⟩ := h
    rfl
  · obtain ⟨x, dx, a, p, n, m, rs, rfl, hx, hp, hn, hm, ht, hb, k⟩ := h
    refine ⟨_, tinit_b T Y GP kP bP gP GW kW bW gW GA kA bA gA hr (tinit_c T Y hr), ?_⟩
    obtain ⟨l1, l2⟩ := rowsB_len hb
    have p0 : 0 < p := by
      revert hp
      simp only [primes, List.mem_cons, List.mem_nil_iff, or_false]
      omega
    refine ⟨x, a, p, n, m, rs, rfl, hp, hn, hm, ht, hb, fun H1 S1 => ?_⟩
    exact ⟨x, dx, a, p, n, m, rs, rfl, S1 _ _ hx, p0, ht.same S1, by omega, fun r hr => by have := l2 r hr; omega, fun H2 S2 t2 => k _ (fun b o e ne => S2 _ _ (S1 _ _ e) ne) t2⟩
end
end P2
end

section
set_option maxRecDepth 100000
set_option maxHeartbeats 2000000
namespace P2
open PySem L2 ClX ZM
def zeroB (r ds : List Int) : Bool := (List.zipWith (fun e d : Int => decide (0 < e) && decide (d < 0)) r ds).any id
def spHasZero (K : PySem.W.Frag) : Sp := fun vs H Q _ => ∃ (a b : Addr) (r ds : List Int), vs = [.ref a, .ref b] ∧ SqT K H a (r.map V.int) ∧ SqL K H b (ds.map V.int) ∧ r.length = ds.length ∧ r.length ≤ 1000 ∧ ∀ H', Same H H' → Q (.bl (zeroB r ds)) H'
def spPutDeg (K : PySem.W.Frag) : Sp := fun vs H Q _ => ∃ (a b : Addr) (r ds : List Int), vs = [.ref a, .ref b] ∧ SqT K H a (r.map V.int) ∧ SqL K H b (ds.map V.int) ∧ r.length = ds.length ∧ r.length ≤ 1000 ∧ (∀ e ∈ r, -(2 ^ 64) < e ∧ e < 2 ^ 64) ∧ ∀ H', Same H H' → Q (.int (degS ds r)) H'
theorem zw_take {α β γ : Type} (g : α → β → γ) {r : List α} {s : List β} {j : Nat} {x : α} {y : β} (hx : r[j]? = some x) (hy : s[j]? = some y) : List.zipWith g (r.take (j + 1)) (s.take (j + 1)) = List.zipWith g (r.take j) (s.take j) ++ [g x y] := by
  have h1 : j < r.length := (List.getElem?_eq_some_iff.mp hx).1
  have h2 : j < s.length := (List.getElem?_eq_some_iff.mp hy).1
  rw [List.take_succ, List.take_succ, hx, hy, List.zipWith_append (by rw [List.length_take, List.length_take]; omega)]
  rfl
theorem degS_zw : ∀ (ds r : List Int), degS ds r = (List.zipWith (fun e d : Int => e * d) r ds).sum
  | [], [] => rfl
  | [], _ :: _ => rfl
  | _ :: _, [] => rfl
  | d :: ds, e :: r => by
    show e * d + degS ds r = _
    rw [List.zipWith_cons_cons, List.sum_cons, degS_zw ds r]
section
variable {P : Program} {w : World} {K : PySem.W.Frag} {mg : Str → Option Value} {base : Heap} {bp C B M N : Addr}
abbrev NHZ : List Str := ["row", "degrees", "exponent", "degree"]
abbrev NPD : List Str := ["row", "degrees", "exponent", "degree"]
end
end P2
end

section
set_option maxRecDepth 100000
set_option maxHeartbeats 2000000
namespace P2
open PySem L2 ClX ZM
/-- objects made one after the other, none of them at D -/
def ObX (D : Addr) (H : Hp) (bs : List Addr) (F : Nat → HO) : Prop := ∀ (j : Nat) (b : Addr), bs[j]? = some b → b ≠ D ∧ H b = some (F j)
theorem ObX.nil {D : Addr} {H : Hp} {F : Nat → HO} : ObX D H [] F := fun j b z => by cases z
theorem ObX.same {D : Addr} {H H' : Hp} {bs : List Addr} {F : Nat → HO} (h : ObX D H bs F) (S : Same H H') : ObX D H' bs F := fun j b z => ⟨(h j b z).1, S _ _ (h j b z).2⟩
theorem ObX.snoc {D : Addr} {H H' : Hp} {bs : List Addr} {F : Nat → HO} {i : Nat} {q : Addr} {o : HO} (h : ObX D H bs F) (S : Same H H') (lb : bs.length = i) (ne : q ≠ D) (hq : H' q = some (F i)) : ObX D (upd H' D o) (bs ++ [q]) F := fun j b hb => by
  rcases Nat.lt_or_ge j bs.length with hj | hj
  · rw [List.getElem?_append_left hj] at hb
    obtain ⟨h1, h2⟩ := h j b hb
    exact ⟨h1, by rw [upd_ne h1]; exact S _ _ h2⟩
  · rw [List.getElem?_append_right hj] at hb
    have hj0 : j = i := by
      have := (List.getElem?_eq_some_iff.mp hb).1
      simp at this
      omega
    subst hj0
    rw [lb, Nat.sub_self] at hb
    obtain rfl := Option.some.inj hb
    exact ⟨ne, by rw [upd_ne ne]; exact hq⟩
theorem ObX.tups {D d : Addr} {H : Hp} {bs : List Addr} {rs : List (List Int)} {F : Nat → HO} (h : ObX D H bs F) (hd : H d = some (.tup (bs.map V.ref))) (l : bs.length = rs.length) (hF : ∀ (i : Nat) (r : List Int), rs[i]? = some r → F i = .tup (r.map V.int)) : TupsAt H d rs := ⟨bs, hd, l, fun i b r hb hr => by rw [(h i b hb).2, hF i r hr]⟩
theorem TupsAt.line {K : PySem.W.Frag} {H : Hp} {d : Addr} {rs : List (List Int)} (h : TupsAt H d rs) : ∃ as : List Addr, SqB K true H d (as.map V.ref) ∧ as.length = rs.length ∧ ∀ (i : Nat) (b : Addr) (r : List Int), as[i]? = some b → rs[i]? = some r → H b = some (.tup (r.map V.int)) := let ⟨as, h1, h2, h3⟩ := h; ⟨as, SqT.of h1, h2, h3⟩
theorem refs_at {as : List Addr} {i : Nat} {v : V} (hv : (as.map V.ref)[i]? = some v) : ∃ b, as[i]? = some b ∧ v = .ref b := by
  rw [List.getElem?_map] at hv
  obtain ⟨b, hb, e⟩ := Option.map_eq_some_iff.mp hv
  exact ⟨b, hb, e.symm⟩
theorem ints_at {r : List Int} {i : Nat} {v : V} (hv : (r.map V.int)[i]? = some v) : ∃ z, r[i]? = some z ∧ v = .int z := by
  rw [List.getElem?_map] at hv
  obtain ⟨b, hb, e⟩ := Option.map_eq_some_iff.mp hv
  exact ⟨b, hb, e.symm⟩
theorem some_at {α : Type} {l : List α} {i : Nat} (h : i < l.length) : ∃ x, l[i]? = some x := ⟨_, List.getElem?_eq_getElem h⟩
/-- column j of rows -/
def colT (B : List (List Int)) (j : Nat) : List Int := B.map fun r => r.getD j 0
/-- a row times a column -/
def dotT (r c : List Int) : Int := (List.zipWith (fun x y : Int => x * y) r c).sum
def mulT (p : Int) (A B : List (List Int)) (m : Nat) : List (List Int) := A.map fun r => (List.range m).map fun j => dotT r (colT B j) % p
def spCheckTable (K : PySem.W.Frag) (C B : Addr) : Sp := fun vs H Q E => ∃ v, vs = [v] ∧ ((∃ a p n m rs, v = .ref a ∧ TableAt H C a p n m rs ∧ Q .non H) ∨ (Odd K H v ∧ E (.ref B) none H))
section
variable {P : Program} {w : World} {K : PySem.W.Frag} {mg : Str → Option Value} {base : Heap} {bp C B : Addr}
theorem ty_table {H : Hp} {a : Addr} {p n m : Int} {rs : List (List Int)} (Y : Tb K mg C B) (h : TableAt H C a p n m rs) : TyX K H (.ref a) (.ref C) := let ⟨_, _, h1, _⟩ := h; .base (.ins h1 Y.cl Y.c1 Y.c2 Y.c3 Y.c4)
def spLinesProduct : Sp := fun vs H Q _ => ∃ (a b : Addr) (A B : List (List Int)) (m : Nat) (p : Int), vs = [.ref a, .ref b, .int (m : Int), .int p] ∧ TupsAt H a A ∧ TupsAt H b B ∧ m ≤ 1000 ∧ 0 < p ∧ A.length ≤ 1000 ∧ B.length ≤ 1000 ∧ (∀ r ∈ A, r.length = B.length ∧ ∀ x ∈ r, -(2 ^ 64) < x ∧ x < 2 ^ 64) ∧ (∀ r ∈ B, r.length = m) ∧
  ∀ d H', Same H H' → H d = none → TupsAt H' d (mulT p A B m) → Q (.ref d) H'
abbrev NLPx : List Str := ["one", "two", "wide", "prime", "columns", "place", "line", "column", "x", "y"]
abbrev teDot (K : PySem.W.Frag) : TE := tOp (rI (fun _ j => 0 < j) fun i j => .int (i % j)) (tCB (rSum K) (tCons (tLc (iZipB K (tCons (tVar 6) (tCons (tVar 7) tNil))) (gTup K 2 (gCons (gName 8) (gCons (gName 9) gNil))) tYes (tOp (rI CMul fun i j => .int (i * j)) (tVar 8) (tVar 9)) [8, 9]) tNil)) (tVar 3)
end
end P2
end

section
set_option maxRecDepth 100000
set_option maxHeartbeats 4000000
/-! A tuple times any int. -/
namespace ClX
open PySem PySem.Spec PyProof.Rows L2
theorem tuple_mul0 (l : Addr) (items : Array Value) (n : Nat) (dd : Option Addr) (sl : Array (Option Value)) (x : Int) (u : Tok) (c0 : (decide (x < -(2 ^ 63)) || decide (x ≥ 2 ^ 63)) = false) (c1 : (items.isEmpty || x == 1) = false) (c2 : (decide (x ≤ 0) || items.isEmpty) = true) :
    Meets (Builtin.«tuple.__mul__» ⟨[.ref l, .int x u], []⟩) (fun _ R s => s.heap.get? l = some { cls := .type "tuple", dict := dd, data := .seq items n, slots := sl } ∧
      R (.ok (.ret (Value.ref s.heap.objs.size))) { s with heap := s.heap.push { cls := Value.type "tuple", data := Data.seq #[] }, toks := s.toks }) :=
  .of_wp fun prog w A R s h => by
    obtain ⟨hp, g, d, tk, os⟩ := s
    obtain ⟨hl, h⟩ := h
    have f1 := AutoSeq1.idx_int
    wp_walk using wpAny_loadPart' hl
    repeat (first
      | (refine wpAny_ite_false (decide_eq_false (by rw [c0]; exact Bool.false_ne_true)) ?_; wp_walk using wpAny_loadPart' hl)
      | (refine wpAny_ite_false (decide_eq_false (by rw [c1]; exact Bool.false_ne_true)) ?_; wp_walk using wpAny_loadPart' hl)
      | (refine wpAny_ite_true (decide_eq_true c2) ?_; wp_walk using wpAny_loadPart' hl))
    exact ⟨_, rfl, h⟩
/-- t * k, k any -/
def rRepA (K : PySem.W.Frag) : R2 := fun x y H Q => ∃ l k xs, x = .ref l ∧ y = .int k ∧ SqT K H l xs ∧ xs ≠ [] ∧ -1000 ≤ k ∧ k ≤ 1000 ∧ xs.length ≤ 1000 ∧ (k = 1 → Q (.ref l) H) ∧ (k ≠ 1 → ∀ p, H p = none → Q (.ref p) (upd H p (.tup (List.replicate k.toNat xs).flatten)))
theorem op_repA {X : Cx} : OpR X (binaryOp .Mult) (rRepA X.K) := by
  intro pins s σ H x y v u Q I rx ry h
  obtain ⟨l, k, xs, rfl, rfl, hT, hne, h0, h2, hz, q1, q2⟩ := h
  by_cases h1 : 1 ≤ k
  · exact op_repN pins s σ H _ _ v u Q I rx ry ⟨l, k, xs, rfl, rfl, hT, hne, h1, h2, hz, q1, q2⟩
  · have hk : k ≠ 1 := by omega
    have q := q2 hk
    cases rx
    obtain ⟨t, rfl⟩ := ry
    obtain ⟨its, r, ⟨⟨cls, dd, data, sl⟩, ho, hc, n, hd⟩, hs⟩ := I.tuple hT
    simp only at hc hd
    subst hc hd
    have hle : its.length = xs.length := r.length.symm
    have hn : its ≠ [] := fun e => hne (by
      rw [e] at hle
      exact List.eq_nil_of_length_eq_zero hle.symm)
    have hi : its.toArray.isEmpty = false := by
      cases its with
      | nil => exact absurd rfl hn
      | cons a b => rfl
    have c0 : (decide (k < -(2 ^ 63)) || decide (k ≥ 2 ^ 63)) = false := by
      rw [decide_eq_false (by omega), decide_eq_false (by omega)] <;> rfl
    have c1 : (its.toArray.isEmpty || k == 1) = false := by
      rw [hi, Bool.false_or]
      exact beq_eq_false_iff_ne.mpr (by omega)
    have c2 : (decide (k ≤ 0) || its.toArray.isEmpty) = true := by
      rw [decide_eq_true (by omega)]
      rfl
    refine wpAny_binaryOp_repeat_ref (T := "tuple") (U := "int") (by decide) ⟨_, ho, rfl⟩ (fun s' => typeIs_int s' k t) noFill_tuple_mul F.fills_int_mul F.slot_int_rmul repeat_tuple F.slot_int_index.lookup
      (call_meets F.slot_int_rmul (typeIs_int s k t) F.entry_int_rmul (F.args_int_rmul_2 _ _) (int_rmul_tuple k t l its.toArray n dd sl)
        ⟨ho, rfl, ⟨_, ho, rfl⟩, call_meets F.slot_tuple_mul ⟨_, ho, rfl⟩ F.entry_tuple_mul (F.args_tuple_mul_2 _ _) (tuple_mul0 l its.toArray n dd sl k t c0 c1 c2) ⟨ho, ?_⟩⟩)
    have e0 : k.toNat = 0 := by omega
    rw [e0] at q
    refine ⟨.ref s.heap.objs.size, _, I.laid (t' := s.toks) (o := .tup []) (fun b ob q => Heap.get?_push_of_some _ q) (Nat.le_refl _) ?_, rfl, q _ (I.hok.fresh (Nat.le_refl _))⟩
    exact ⟨by decide, [], .nil, IsTup.new _ _⟩
end ClX
end

section
set_option maxRecDepth 100000
set_option maxHeartbeats 2000000
namespace P2
open PySem L2 ClX ZM
/-- 1 at i, 0 elsewhere -/
def uRow (n i : Nat) : List Int := List.replicate i 0 ++ ([1] ++ List.replicate (n - i - 1) 0)
theorem uRow_len {n i : Nat} (h : i < n) : (uRow n i).length = n := by
  unfold uRow
  rw [List.length_append, List.length_append, List.length_replicate, List.length_replicate]
  show i + (1 + (n - i - 1)) = n
  omega
theorem rep_flat0 (k : Nat) : (List.replicate k [V.int 0]).flatten = (List.replicate k (0 : Int)).map V.int := by
  induction k with
  | zero => rfl
  | succ k ih =>
    rw [List.replicate_succ, List.replicate_succ, List.flatten_cons, ih]
    rfl
/-- (0,) * k -/
theorem rep_readA {K : PySem.W.Frag} {H : Hp} {l : Addr} {k : Nat} {Q : VK} (hl : H l = some (.tup [V.int 0])) (h2 : k ≤ 1000) (q : ∀ t H', Same H H' → H' t = some (.tup ((List.replicate k (0 : Int)).map V.int)) → Q (.ref t) H') : rRepA K (.ref l) (.int (k : Int)) H Q := by
  refine ⟨l, (k : Int), [V.int 0], rfl, rfl, SqT.of hl, (fun z => nomatch z), by omega, by omega, (show (1 : Nat) ≤ 1000 by decide), fun e1 => ?_, fun e1 l2 hl2 => ?_⟩
  · obtain rfl : k = 1 := by omega
    exact q l H (Same.refl _) hl
  · refine q l2 _ ((Same.refl _).put hl2) ?_
    rw [upd_same, Int.toNat_natCast, rep_flat0]
/-- t + u -/
theorem cat_readA {K : PySem.W.Frag} {H : Hp} {a b : Addr} {xs ys : List Int} {Q : VK} (ha : H a = some (.tup (xs.map V.int))) (hb : H b = some (.tup (ys.map V.int))) (hz : xs.length + ys.length ≤ 10000) (q : ∀ t H', Same H H' → H' t = some (.tup ((xs ++ ys).map V.int)) → Q (.ref t) H') : rCatA K (.ref a) (.ref b) H Q := by
  have h8 : (10000 : Nat) ≤ sizeLine := by decide
  refine ⟨a, b, _, _, rfl, rfl, SqT.of ha, SqT.of hb, by rw [List.length_map, List.length_map]; omega, fun e => ?_, fun _ e => ?_, fun _ _ p hp => ?_⟩
  · have e2 : xs = [] := List.map_eq_nil_iff.mp e
    subst e2
    exact q b H (Same.refl _) hb
  · have e2 : ys = [] := List.map_eq_nil_iff.mp e
    subst e2
    refine q a H (Same.refl _) ?_
    rw [List.append_nil]
    exact ha
  · refine q p _ ((Same.refl _).put hp) ?_
    rw [upd_same, List.map_append]
abbrev tZero : TE := tTup (tCons (tC (.int 0)) tNil)
abbrev tOne : TE := tTup (tCons (tC (.int 1)) tNil)
abbrev tSub (a b : TE) : TE := tOp (rI0 fun i j => .int (i - j)) a b
/-- (0,) * e + (1,) + (0,) * (e2 - e - 1) -/
abbrev tUnit (K : PySem.W.Frag) (n i : TE) : TE := tOp (rCatA K) (tOp (rCatA K) (tOp (rRepA K) tZero i) tOne) (tOp (rRepA K) tZero (tSub (tSub n i) (tC (.int 1))))
theorem unit_read {K : PySem.W.Frag} {σ : L2.St} {H : Hp} {n i : Nat} {un ui : Nat} {Q : VK} (hn : σ[un]? = some (some (.int (n : Int)))) (hi : σ[ui]? = some (some (.int (i : Int)))) (h : i < n) (hz : n ≤ 1000) (q : ∀ t H', Same H H' → H' t = some (.tup ((uRow n i).map V.int)) → Q (.ref t) H') : tUnit K (tVar un) (tVar ui) σ H Q := by
  refine ⟨(show 1 ≤ sizeLine by decide), fun t1 h1 => ⟨_, hi, ?_⟩⟩
  refine rep_readA upd_same (by omega) fun t2 H2 S2 e2 => ?_
  refine ⟨(show 1 ≤ sizeLine by decide), fun t3 h3 => ?_⟩
  have S3 : Same H2 (upd H2 t3 (.tup [V.int 1])) := (Same.refl _).put h3
  refine cat_readA (xs := List.replicate i 0) (ys := [1]) (S3 _ _ e2) upd_same (by rw [List.length_replicate]; show i + 1 ≤ 10000; omega) fun t4 H4 S4 e4 => ?_
  refine ⟨(show 1 ≤ sizeLine by decide), fun t5 h5 => ?_⟩
  have S5 : Same H4 (upd H4 t5 (.tup [V.int 0])) := (Same.refl _).put h5
  refine ⟨_, hn, _, hi, _, _, rfl, rfl, _, _, rfl, rfl, ?_⟩
  have e : (n : Int) - (i : Int) - 1 = ((n - i - 1 : Nat) : Int) := by omega
  show rRepA K (V.ref t5) (V.int ((n : Int) - (i : Int) - 1)) _ (fun y H2 => rCatA K (V.ref t4) y H2 Q)
  rw [e]
  refine rep_readA upd_same (by omega) fun t6 H6 S6 e6 => ?_
  refine cat_readA (S6 _ _ (S5 _ _ e4)) e6 (by rw [List.length_append, List.length_replicate, List.length_replicate]; show i + 1 + (n - i - 1) ≤ 10000; omega) fun t7 H7 S7 e7 => ?_
  refine q t7 H7 (((((((Same.refl _).put h1).trans S2).trans S3).trans S4).trans S5).trans S6 |>.trans S7) ?_
  rw [e7]
  unfold uRow
  rw [List.append_assoc]
section
variable {P : Program} {w : World} {K : PySem.W.Frag} {mg : Str → Option Value} {base : Heap} {bp C B : Addr}
def unitT (n : Nat) : List (List Int) := (List.range n).map (uRow n)
def spPlainLines : Sp := fun vs H Q _ => ∃ n : Nat, vs = [.int (n : Int)] ∧ n ≤ 1000 ∧ ∀ d H', Same H H' → H d = none → TupsAt H' d (unitT n) → Q (.ref d) H'
theorem scPL : FnScope ["size", "at"] ["size"] (defScope (top 26)) := ⟨rfl, rfl, rfl, by decide +kernel, rfl, by decide +kernel, by decide +kernel⟩
theorem ok_plainlines {f : Addr} {fd : FuncData} (F : Fun K "plain_lines" "plain_lines" (top 26) f fd) (T : Tx K mg bp) : FnOk P w K mg base CX0 1 f fd ["size"] spPlainLines := by
  refine F.ok scPL (fun vs H Q E h => ?_) (fun cdv A outer s H vs Q E hr h => ?_)
  · obtain ⟨n, rfl, _⟩ := h
    rfl
  · refine ⟨_, pss_one (ps_ret (pe_callTy (T := "tuple") (r := rTupO K) call_tuple_of (by rfl) T.tuple (by decide +kernel) (pa_cons (pe_lc (own := [("at", 1)]) (g := gName 1) (tt := tYes) (te := tUnit K (tVar 0) (tVar 1)) rfl scPL.nd (pi_range1 rfl T.range (pa_cons (pv 0) pa_nil)) (blkOk_by (own := [("at", 1)]) (N := ["size", "at"]) (sc := defScope (top 26)) (by decide +kernel))
        (fun _ _ _ _ _ => pg_name (i := 1) scPL.nd rfl (Or.inl rfl)) (fun _ _ _ _ _ => pts_nil) (fun _ _ _ _ _ => pe_op op_catA (pe_op op_catA (pe_op op_repA (pe_tup (pa_cons pe_int pa_nil)) (pv 1)) (pe_tup (pa_cons pe_int pa_nil))) (pe_op op_repA (pe_tup (pa_cons pe_int pa_nil)) (pe_op op_sub (pe_op op_sub (pv 0) (pv 1)) pe_int)))) pa_nil))), ?_⟩
    obtain ⟨n, rfl, hn, k⟩ := h
    refine ⟨_, rfl, n, rfl, by omega, by omega, fun D1 hD1 => lc_it (walk_range (lo := 0) (n := n)) (fun i H' => Same H H' ∧ ∃ cs : List Addr, H' D1 = some (.lst (cs.map V.ref)) ∧ cs.length = i ∧ ObX D1 H' cs (fun j => .tup ((uRow n j).map V.int))) ⟨(Same.refl _).put hD1, [], upd_same, rfl, ObX.nil⟩ (fun _ _ _ _ => trivial) ?_ ?_⟩
    · rintro i v H1 H2 hi ⟨S1, cs, hL, lc, hcs⟩ ⟨rfl, hv⟩
      have hv2 : v = V.int (i : Int) := Eq.trans hv (congrArg V.int (show (0 : Int) + (i : Int) = (i : Int) by omega))
      subst hv2
      refine ⟨rfl, unit_read (n := n) (i := i) rfl rfl hi hn fun t H3 S3 h3 => ?_⟩
      have ne : t ≠ D1 := fun z => by rw [z, S3 _ _ hL] at h3; cases h3
      refine ⟨_, S3 _ _ hL, ?_, (S1.trans S3).put hD1, cs ++ [t], ?_, ?_, hcs.snoc S3 lc ne h3⟩
      · rw [List.length_map, lc]
        exact small1000 (by omega)
      · rw [upd_same, List.map_append]
        rfl
      · rw [List.length_append, lc]
        rfl
    · rintro H1 ⟨S1, cs, hL, lc, hcs⟩
      refine ⟨D1, _, rfl, .inl ⟨SqL.of hL, fun q hq => ?_⟩⟩
      refine k q _ (S1.new hq) (S1.free hq) ((hcs.same ((Same.refl _).put hq)).tups upd_same ?_ fun i r hr0 => ?_)
      · unfold unitT
        rw [List.length_map, List.length_range, lc]
      · unfold unitT at hr0
        rw [List.getElem?_map] at hr0
        obtain ⟨r0, h0, rfl⟩ := Option.map_eq_some_iff.mp hr0
        have hl := (List.getElem?_eq_some_iff.mp h0).2
        rw [List.getElem_range] at hl
        subst hl
        rfl
end
end P2
end

section
set_option maxRecDepth 100000
set_option maxHeartbeats 2000000
namespace P2
open PySem L2 ClX ZM
/-- a table as it is kept -/
structure TbOk (p : Int) (n m : Nat) (rs : List (List Int)) : Prop where
  len : rs.length = n
  row : ∀ r ∈ rs, r.length = m ∧ ∀ x ∈ r, 0 ≤ x ∧ x < p
theorem TbOk.rows {p : Int} {n m : Nat} {rs : List (List Int)} (h : TbOk p n m rs) : rowsB rs n m = true := by
  unfold rowsB
  rw [Bool.and_eq_true, List.all_eq_true]
  refine ⟨decide_eq_true (by rw [h.len]), fun r hr => decide_eq_true (by rw [(h.row r hr).1])⟩
theorem TbOk.mod {p : Int} {n m : Nat} {rs : List (List Int)} (h : TbOk p n m rs) : modT p rs = rs := by
  unfold modT
  conv => rhs; rw [← List.map_id rs]
  refine List.map_congr_left fun r hr => ?_
  show r.map (· % p) = r
  conv => rhs; rw [← List.map_id r]
  exact List.map_congr_left fun x hx => Int.emod_eq_of_lt ((h.row r hr).2 x hx).1 ((h.row r hr).2 x hx).2
theorem ok_modT {p : Int} {n m : Nat} {rs : List (List Int)} (hp : 0 < p) (h : rs.length = n) (h2 : ∀ r ∈ rs, r.length = m) : TbOk p n m (modT p rs) := by
  refine ⟨by unfold modT; rw [List.length_map, h], fun r hr => ?_⟩
  obtain ⟨r0, h0, rfl⟩ := List.mem_map.mp hr
  refine ⟨by rw [List.length_map, h2 r0 h0], fun x hx => ?_⟩
  obtain ⟨y, _, rfl⟩ := List.mem_map.mp hx
  exact ⟨Int.emod_nonneg _ (by omega), Int.emod_lt_of_pos _ hp⟩
theorem ok_mulT {p : Int} {n m : Nat} {A B : List (List Int)} (hp : 0 < p) (h : A.length = n) : TbOk p n m (mulT p A B m) := by
  refine ⟨by unfold mulT; rw [List.length_map, h], fun r hr => ?_⟩
  obtain ⟨r0, h0, rfl⟩ := List.mem_map.mp hr
  refine ⟨by rw [List.length_map, List.length_range], fun x hx => ?_⟩
  obtain ⟨y, _, rfl⟩ := List.mem_map.mp hx
  exact ⟨Int.emod_nonneg _ (by omega), Int.emod_lt_of_pos _ hp⟩
theorem ok_unitT {p : Int} {n : Nat} (hp : 2 ≤ p) : TbOk p n n (unitT n) := by
  refine ⟨by unfold unitT; rw [List.length_map, List.length_range], fun r hr => ?_⟩
  obtain ⟨i, h0, rfl⟩ := List.mem_map.mp hr
  refine ⟨uRow_len (List.mem_range.mp h0), fun x hx => ?_⟩
  unfold uRow at hx
  rw [List.mem_append, List.mem_append] at hx
  rcases hx with h | h | h
  · rw [(List.mem_replicate.mp h).2]; omega
  · rw [List.mem_singleton.mp h]; omega
  · rw [(List.mem_replicate.mp h).2]; omega
theorem TbOk.tall60 {p : Int} {n m : Nat} {rs : List (List Int)} (h : TbOk p n m rs) (r : List Int) (hr : r ∈ rs) : r.length = m := (h.row r hr).1
/-- what isn't come to -/
theorem never {X : Cx} {st : List Stmt} : PSs X st (fun _ _ _ => False) := ⟨fun _ _ _ _ _ _ q => q.elim⟩
/-- making tables -/
structure TMake (P : Program) (w : World) (K : PySem.W.Frag) (mg : Str → Option Value) (base : Heap) (C fI : Addr) (dI : FuncData) : Prop where
  mkk : Mk K C fI
  ok : FnOk P w K mg base (L2.CX P w) 6 fI dI ["self", "prime", "tall", "wide", "lines"] (spTInit K C)
  b : Binds K dI ["self", "prime", "tall", "wide", "lines"] []
section
variable {P : Program} {w : World} {K : PySem.W.Frag} {mg : Str → Option Value} {base : Heap} {bp C B : Addr}
theorem make_t {H : Hp} {x dx a : Addr} {p n m : Int} {rs : List (List Int)} {vs : List V} {R : VK} {E : XK} (hp : p ∈ primes) (hn : 0 ≤ n ∧ n ≤ 60) (hm : 0 ≤ m ∧ m ≤ 60) (ha : TabAt K H a rs) (hb : rowsB rs n m = true)
    (nx : H x = none) (ndx : H dx = none) (ne : dx ≠ x) (e : vs = [.ref x, .int p, .int n, .int m, .ref a]) (k : ∀ H', Same H H' → TableAt H' C x p n m (modT p rs) → R .non H') :
    spTInit K C vs (upd (upd H dx (.own x)) x (.ins C dx [])) R E := by
  have S0 : Same H (upd (upd H dx (.own x)) x (.ins C dx [])) := fun b o e => by rw [upd_ne (ne_of_none e nx), upd_ne (ne_of_none e ndx)]; exact e
  subst e
  exact ⟨x, dx, a, p, n, m, rs, rfl, upd_same, hp, hn, hm, ha.same S0, hb, fun H' S t => k H' (fun b o e => S b o (S0 _ _ e) (ne_of_none e nx)) t⟩
/-- a new table -/
def GivesT (C : Addr) (H : Hp) (p : Int) (n m : Nat) (rs : List (List Int)) (Q : VK) : Prop := ∀ y H', Same H H' → H y = none → TableAt H' C y p n m rs → Q (.ref y) H'
theorem GivesT.same {H H' : Hp} {p : Int} {n m : Nat} {rs : List (List Int)} {Q : VK} (g : GivesT C H p n m rs Q) (S : Same H H') : GivesT C H' p n m rs Q := fun y H2 S2 hy hp => g y H2 (S.trans S2) (S.free hy) hp
def spPlain (C : Addr) : Sp := fun vs H Q _ => ∃ (p : Int) (n : Nat), vs = [.int p, .int (n : Int)] ∧ p ∈ primes ∧ n ≤ 60 ∧ GivesT C H p n n (unitT n) Q
theorem scPN : FnScope ["prime", "size"] ["prime", "size"] (defScope (top 27)) := ⟨rfl, rfl, rfl, by decide +kernel, rfl, by decide +kernel, by decide +kernel⟩
theorem ok_plain {f fP fW fL fI : Addr} {fd dP dW dL dI : FuncData} (F : Fun K "plain" "plain" (top 27) f fd) (Y : Tb K mg C B) (MK : TMake P w K mg base C fI dI) 
    (GP : FnOk P w K mg base (L2.CX P w) 3 fP dP ["prime"] (spCheckPrime K bp)) (kP : PySem.W.keepIn K (.ref fP) = true) (bP : Binds K dP ["prime"] []) (gP : mg "check_prime" = some (.ref fP))
    (GW : FnOk P w K mg base CX0 2 fW dW ["thing", "least", "most"] (spWithin K)) (kW : PySem.W.keepIn K (.ref fW) = true) (bW : Binds K dW ["thing", "least", "most"] []) (gW : mg "is_within" = some (.ref fW))
    (GL : FnOk P w K mg base CX0 1 fL dL ["size"] spPlainLines) (kL : PySem.W.keepIn K (.ref fL) = true) (bL : Binds K dL ["size"] []) (gL : mg "plain_lines" = some (.ref fL)) :
    FnOk P w K mg base CX0 8 f fd ["prime", "size"] (spPlain C) := by
  obtain ⟨tl, hl⟩ := Y.ml
  refine F.ok scPN (fun vs H Q E h => ?_) (fun cdv A outer s H vs Q E hr h => ?_)
  · obtain ⟨p, n, rfl, _⟩ := h
    rfl
  · refine ⟨_, pss_cons (ps_expr (pe_call (E := fun _ _ _ => False) GP (hr.mono (by decide)) rfl gP kP bP .nil passF (pa_cons (pv 0) pa_nil)))
      (pss_cons (ps_if (pt_not (pt_val (pe_call GW (hr.mono (by decide)) rfl gW kW bW .nil pass0 (pa_cons (pv 1) (pa_cons pe_int (pa_cons (pe_glob (v := .int 60) rfl hl ⟨tl, rfl⟩) pa_nil)))))) never pss_nil)
      (pss_one (ps_ret (pe_make (E := fun _ _ _ => False) MK.mkk MK.ok (hr.mono (by decide)) rfl Y.gC MK.b .nil passF (pa_cons (pv 0) (pa_cons (pv 1) (pa_cons (pv 1) (pa_cons (pe_call GL (hr.mono (by decide)) rfl gL kL bL .nil pass0 (pa_cons (pv 1) pa_nil)) pa_nil)))))))), ?_⟩
    obtain ⟨p, n, rfl, hp, hn, k⟩ := h
    have ip : isP (.int p) = true := decide_eq_true hp
    have bn : inB (.int (n : Int)) 0 60 = true := by
      show (decide (0 ≤ (n : Int)) && decide ((n : Int) ≤ 60)) = true
      rw [decide_eq_true (by omega), decide_eq_true (by omega)]
      rfl
    refine ⟨_, rfl, .int p, rfl, pv_flat rfl, fun _ => ?_, fun h => (Bool.noConfusion (ip.symm.trans h))⟩
    refine ⟨_, rfl, .int (n : Int), 0, 60, rfl, pv_flat rfl, _, rfl, ?_⟩
    rw [bn]
    refine iteF ?_
    refine ⟨_, rfl, _, rfl, _, rfl, _, rfl, n, rfl, by omega, fun d H1 S1 nd hd x dx nx ndx ne => ?_⟩
    refine make_t hp ⟨by omega, by omega⟩ ⟨by omega, by omega⟩ hd.tab (ok_unitT (p_pos hp).1).rows nx ndx ne rfl fun H' S t => ?_
    rw [(ok_unitT (p_pos hp).1).mod] at t
    exact ⟨rfl, k x H' (S1.trans S) (S1.free nx) t⟩
def spTimes (C : Addr) : Sp := fun vs H Q _ => ∃ (a b : Addr) (p : Int) (n k m : Nat) (A B : List (List Int)), vs = [.ref a, .ref b] ∧ p ∈ primes ∧ n ≤ 60 ∧ k ≤ 60 ∧ m ≤ 60 ∧ TableAt H C a p n k A ∧ TableAt H C b p k m B ∧ TbOk p n k A ∧ TbOk p k m B ∧ GivesT C H p n m (mulT p A B m) Q
end
end P2
end

section
set_option maxRecDepth 100000
set_option maxHeartbeats 4000000
namespace P2
open PySem PySem.Spec PyProof.Rows L2 ClX ZM SX K7
/-- lines of numbers as lines of ints -/
def intsT (ls : List (List Nat)) : List (List Int) := ls.map fun l => l.map fun n : Nat => (n : Int)
theorem joinL_len {sep : List Nat} {B : Nat} : ∀ {ps : List (List Nat)}, (∀ p ∈ ps, p.length ≤ B) → (TL.joinL sep ps).length ≤ ps.length * (B + sep.length)
  | [], _ => Nat.zero_le _
  | [p], h => by
    have := h p List.mem_cons_self
    show p.length ≤ 1 * _
    omega
  | p :: q :: ps, h => by
    have h1 := h p List.mem_cons_self
    have h2 := joinL_len (sep := sep) fun r hr => h r (List.mem_cons_of_mem p hr)
    have e : TL.joinL sep (p :: q :: ps) = p ++ (sep ++ TL.joinL sep (q :: ps)) := by simp [TL.joinL]
    have l1 : (p :: q :: ps).length = (q :: ps).length + 1 := List.length_cons
    rw [e, List.length_append, List.length_append, l1, Nat.succ_mul]
    omega
theorem numsL_len {ns : List Nat} (h : ∀ n ∈ ns, n ≤ 1000000000) : (numsL ns).length ≤ ns.length * 11 := by
  have z := joinL_len (sep := [32]) (B := 10) (ps := ns.map TL.numL) fun p hp => by
    obtain ⟨n, hn, rfl⟩ := List.mem_map.mp hp
    exact numL_small (h n hn)
  rw [List.length_map] at z
  exact z
theorem linesL_len {ls : List (List Nat)} {w : Nat} (h : ∀ l ∈ ls, l.length ≤ w ∧ ∀ n ∈ l, n ≤ 1000000000) : (linesL ls).length ≤ ls.length * (w * 11 + 3) := by
  have z := joinL_len (sep := [32, 47, 32]) (B := w * 11) (ps := ls.map numsL) fun p hp => by
    obtain ⟨l, hl, rfl⟩ := List.mem_map.mp hp
    exact Nat.le_trans (numsL_len (h l hl).2) (Nat.mul_le_mul_right 11 (h l hl).1)
  rw [List.length_map] at z
  exact z
theorem sum_S {B : Nat} {ps : List (List Nat)} (h : ∀ p ∈ ps, p.length ≤ B) : ((ps.map S).map fun x : Str => x.length).sum ≤ ps.length * B := by
  rw [lens]
  skip
  induction ps with
  | nil => exact Nat.zero_le _
  | cons p ps ih =>
    have h1 := h p List.mem_cons_self
    have h2 := ih fun q hq => h q (List.mem_cons_of_mem p hq)
    rw [List.map_cons, List.sum_cons, List.length_cons, Nat.succ_mul]
    omega
def spNumsText (K : PySem.W.Frag) : Sp := fun vs H Q _ => ∃ (b : Bool) (l : Addr) (ns : List Nat), vs = [.ref l] ∧ SqB K b H l (ns.map fun n => V.int (n : Nat)) ∧ ns.length ≤ 60 ∧ (∀ n ∈ ns, n ≤ 1000000000) ∧ ∀ H', Same H H' → Q (.str (S (numsL ns))) H'
def spLinesText (C : Addr) : Sp := fun vs H Q _ => ∃ (a : Addr) (p n m : Int) (ls : List (List Nat)), vs = [.ref a] ∧ TableAt H C a p n m (intsT ls) ∧ ls.length ≤ 60 ∧ (∀ l ∈ ls, l.length ≤ 60 ∧ ∀ n ∈ l, n ≤ 1000000000) ∧ ∀ H', Same H H' → Q (.str (S (linesL ls))) H'
section
variable {P : Program} {w : World} {K : PySem.W.Frag} {mg : Str → Option Value} {base : Heap} {bp C B M N : Addr}
theorem scNT : FnScope ["numbers", "number"] ["numbers"] (defScope (top 11)) := ⟨rfl, rfl, rfl, by decide +kernel, rfl, by decide +kernel, by decide +kernel⟩
theorem scLT : FnScope ["table", "line"] ["table"] (defScope (top 12)) := ⟨rfl, rfl, rfl, by decide +kernel, rfl, by decide +kernel, by decide +kernel⟩
theorem ok_numstext {f : Addr} {fd : FuncData} (F : Fun K "numbers_text" "numbers_text" (top 11) f fd) (X : Sx mg) : FnOk P w K mg base CX0 1 f fd ["numbers"] (spNumsText K) := by
  refine F.ok scNT (fun vs H Q E h => ?_) (fun cdv A outer s H vs Q E hr h => ?_)
  · obtain ⟨b, l, ns, rfl, _⟩ := h
    rfl
  · refine ⟨_, pss_one (ps_ret (pe_join pe_str (pe_lc (own := [("number", 1)]) (g := gName 1) (tt := tYes) rfl scNT.nd (pi_seqB (pv 0)) (blkOk_by (own := [("number", 1)]) (N := ["numbers", "number"]) (sc := defScope (top 11)) (by decide +kernel))
            (fun _ _ _ _ _ => pg_name (i := 1) scNT.nd rfl (Or.inl rfl)) (fun _ _ _ _ _ => pts_nil) (fun _ _ _ _ _ => pe_callTy call_str_int (by rfl) X.str (by decide +kernel) (pa_cons (pv 1) pa_nil))))), ?_⟩
    obtain ⟨b, l, ns, rfl, hq, hn, hm, k⟩ := h
    refine ⟨⟨_, rfl⟩, _, rfl, b, l, _, rfl, hq, fun D1 hD1 => lc_it walk_seqB (fun i H' => Same H H' ∧ H' D1 = some (.lst (((ns.take i).map fun n => S (TL.numL n)).map V.str))) ⟨(Same.refl _).put hD1, upd_same⟩ (fun i H' _ h => hq.same h.1) ?_ ?_⟩
    · rintro i v H2 H3 hi ⟨S2, hL⟩ ⟨rfl, hv⟩
      obtain ⟨n, hn0, rfl⟩ : ∃ n, ns[i]? = some n ∧ v = .int (n : Nat) := by
        rw [List.getElem?_map] at hv
        obtain ⟨wd, h1, h2⟩ := Option.map_eq_some_iff.mp hv
        exact ⟨wd, h1, h2.symm⟩
      refine ⟨rfl, _, rfl, n, rfl, log_small (hm n (List.mem_of_getElem? hn0)), _, hL, ?_, S2.put hD1, ?_⟩
      · rw [List.length_map, List.length_map, List.length_take]
        exact small1000 (by omega)
      · rw [upd_same, List.take_succ, hn0, List.map_append, List.map_append, tos_nat]
        rfl
    · rintro H2 ⟨S2, hL⟩
      rw [List.length_map, List.take_length] at hL
      have e0 : (ns.map fun n => S (TL.numL n)) = (ns.map TL.numL).map S := by rw [List.map_map]; rfl
      rw [e0] at hL
      refine ⟨S [32], D1, (ns.map TL.numL).map S, rfl, rfl, .inl (SqL.of hL), ?_, ?_⟩
      · have z := sum_S (B := 10) (ps := ns.map TL.numL) fun p hp => by
          obtain ⟨n, hn, rfl⟩ := List.mem_map.mp hp
          exact numL_small (hm n hn)
        rw [List.length_map] at z
        rw [List.length_map, List.length_map]
        have e1 : (S [32]).length = 1 := rfl
        rw [e1]
        omega
      · rw [join_S]
        exact k H2 S2
theorem ok_linestext {f fN : Addr} {fd dN : FuncData} (F : Fun K "lines_text" "lines_text" (top 12) f fd) (T : Tx K mg bp) (Y : Tb K mg C B)
    (GN : FnOk P w K mg base CX0 1 fN dN ["numbers"] (spNumsText K)) (kN : PySem.W.keepIn K (.ref fN) = true) (bN : L2.Binds K dN ["numbers"] []) (gN : mg "numbers_text" = some (.ref fN)) :
    FnOk P w K mg base CX0 2 f fd ["table"] (spLinesText C) := by
  refine F.ok scLT (fun vs H Q E h => ?_) (fun cdv A outer s H vs Q E hr h => ?_)
  · obtain ⟨a, p, n, m, ls, rfl, _⟩ := h
    rfl
  · refine ⟨_, pss_one (ps_ret (pe_join pe_str (pe_lc (own := [("line", 1)]) (g := gName 1) (tt := tYes) (te := tCall (spNumsText K) [] E0 (tCons (tVar 1) tNil)) rfl scLT.nd (pi_seqB (pe_fld (pv 0) rfl)) (blkOk_by (own := [("line", 1)]) (N := ["table", "line"]) (sc := defScope (top 12)) (by decide +kernel))
            (fun _ _ _ _ _ => pg_name (i := 1) scLT.nd rfl (Or.inl rfl)) (fun _ _ _ _ _ => pts_nil) (fun _ _ _ _ _ => pe_call GN hr rfl gN kN bN .nil pass0 (pa_cons (pv 1) pa_nil))))), ?_⟩
    obtain ⟨a, p, n, m, ls, rfl, ⟨dx, d, hT, as, hd, hl, hat⟩, hn, hm, k⟩ := h
    have hla : as.length = ls.length := by rw [hl]; unfold intsT; rw [List.length_map]
    have q1 : SqB K true H d (as.map V.ref) := SqT.of hd
    refine ⟨⟨_, rfl⟩, _, rfl, a, C, dx, _, _, rfl, hT, Y.cl, Y.n4, fst_lines _ _ _ _, true, d, _, rfl, q1, fun D1 hD1 => lc_it walk_seqB (fun i H' => Same H H' ∧ H' D1 = some (.lst (((ls.take i).map fun l => S (numsL l)).map V.str))) ⟨(Same.refl _).put hD1, upd_same⟩ (fun i H' _ h => q1.same h.1) ?_ ?_⟩
    · rintro i v H2 H3 hi ⟨S2, hL⟩ ⟨rfl, hv⟩
      rw [List.length_map] at hi
      obtain ⟨b, hb, rfl⟩ : ∃ b, as[i]? = some b ∧ v = .ref b := by
        rw [List.getElem?_map] at hv
        obtain ⟨wd, h1, h2⟩ := Option.map_eq_some_iff.mp hv
        exact ⟨wd, h1, h2.symm⟩
      obtain ⟨l, hl0⟩ : ∃ l, ls[i]? = some l := ⟨_, List.getElem?_eq_getElem (by omega)⟩
      have hr0 : (intsT ls)[i]? = some (l.map fun n : Nat => (n : Int)) := by
        unfold intsT
        rw [List.getElem?_map, hl0]
        rfl
      have hB := S2 _ _ (hat i b _ hb hr0)
      have em : ((l.map fun n : Nat => (n : Int)).map V.int) = l.map fun n => V.int (n : Nat) := by rw [List.map_map]; rfl
      rw [em] at hB
      obtain ⟨m1, m2⟩ := hm l (List.mem_of_getElem? hl0)
      refine ⟨rfl, _, rfl, true, b, l, rfl, SqT.of hB, m1, m2, fun H4 S4 => ⟨_, S4 _ _ hL, ?_, (S2.trans S4).put hD1, ?_⟩⟩
      · rw [List.length_map, List.length_map, List.length_take]
        exact small1000 (by omega)
      · rw [upd_same, List.take_succ, hl0, List.map_append, List.map_append]
        rfl
    · rintro H2 ⟨S2, hL⟩
      rw [List.length_map, hla, List.take_length] at hL
      have e0 : (ls.map fun n => S (numsL n)) = (ls.map numsL).map S := by rw [List.map_map]; rfl
      rw [e0] at hL
      refine ⟨S [32, 47, 32], D1, (ls.map numsL).map S, rfl, rfl, .inl (SqL.of hL), ?_, ?_⟩
      · have z := sum_S (B := 660) (ps := ls.map numsL) fun p hp => by
          obtain ⟨l, hl, rfl⟩ := List.mem_map.mp hp
          have := numsL_len (hm l hl).2
          have := (hm l hl).1
          omega
        rw [List.length_map] at z
        rw [List.length_map, List.length_map]
        have e1 : (S [32, 47, 32]).length = 3 := rfl
        rw [e1]
        omega
      · rw [join_S]
        exact k H2 S2
end
end P2
end

section
set_option maxRecDepth 100000
set_option maxHeartbeats 4000000
namespace P2
open PySem PySem.Spec PyProof.Rows L2 ClX ZM SX K7
/-- None, or a list of numbers, as data -/
def numD : Option (List Nat) → PyData
  | none => .none
  | some ns => .list (ns.map fun n : Nat => .int (n : Int))
/-- None, or a list of numbers, off D -/
def NumAt (H : Hp) (D : Addr) : Option (List Nat) → V → Prop
  | none, v => v = .non
  | some ns, v => ∃ q, v = .ref q ∧ q ≠ D ∧ H q = some (.lst (ns.map fun n => V.int (n : Nat)))
theorem intD_lay : ∀ ns : List Nat, PyData.canLayAll0 (ns.map fun n : Nat => .int (n : Int)) = true
  | [] => by simp [PyData.canLayAll0]
  | n :: ns => by simp [PyData.canLayAll0, PyData.canLay0, intD_lay ns]
theorem intD_depth : ∀ ns : List Nat, PyData.depthAll (ns.map fun n : Nat => .int (n : Int)) ≤ 1
  | [] => by simp [PyData.depthAll]
  | n :: ns => by
    have h1 := intD_depth ns
    simp only [List.map_cons, PyData.depthAll, PyData.depth]
    omega
theorem numD_lay : ∀ o, (numD o).canLay0 = true
  | none => by simp [numD, PyData.canLay0]
  | some ns => by simp [numD, PyData.canLay0, intD_lay ns]
theorem numD_depth : ∀ o, (numD o).depth ≤ 2
  | none => by simp [numD, PyData.depth]
  | some ns => by
    have h1 := intD_depth ns
    simp only [numD, PyData.depth]
    omega
theorem numDs_lay : ∀ os : List (Option (List Nat)), PyData.canLayAll0 (os.map numD) = true
  | [] => by simp [PyData.canLayAll0]
  | z :: zs => by simp [PyData.canLayAll0, numD_lay z, numDs_lay zs]
theorem numDs_depth : ∀ os : List (Option (List Nat)), PyData.depthAll (os.map numD) ≤ 2
  | [] => by simp [PyData.depthAll]
  | z :: zs => by
    have h1 := numDs_depth zs
    have h2 := numD_depth z
    simp only [List.map_cons, PyData.depthAll]
    omega
theorem numDs_shaped (os : List (Option (List Nat))) : SeqAt.shaped (.list (os.map numD)) = true := by
  have h1 := numDs_depth os
  have h2 : PyData.depth (.list (os.map numD)) ≤ 64 := by
    simp only [PyData.depth]
    omega
  show (PyData.canLay0 (.list (os.map numD)) && decide (PyData.depth (.list (os.map numD)) ≤ 64)) = true
  rw [Bool.and_eq_true]
  exact ⟨by simp only [PyData.canLay0]; exact numDs_lay os, decide_eq_true h2⟩
theorem none_shaped : SeqAt.shaped .none = true := by
  show (PyData.canLay0 .none && decide (PyData.depth .none ≤ 64)) = true
  simp [PyData.canLay0, PyData.depth]
theorem numD_none (os : List (Option (List Nat))) : ((os.map numD).any fun z => PyData.eqv z .none) = os.any (·.isNone) := by
  rw [List.any_map]
  congr 1
  funext o
  cases o <;> simp [numD, PyData.eqv]
theorem ints_dp {K : PySem.W.Frag} {H : Hp} : ∀ ns : List Nat, DpAll K H (ns.map fun n : Nat => V.int (n : Int)) (ns.map fun n : Nat => .int (n : Int))
  | [] => .nil
  | n :: ns => .cons (.int _) (ints_dp ns)
theorem num_dp {K : PySem.W.Frag} {H : Hp} {D : Addr} {o : Option (List Nat)} {v : V} (h : NumAt H D o v) : Dp K H v (numD o) := by
  cases o with
  | none => cases (show v = .non from h); exact .non
  | some ns =>
    obtain ⟨q, rfl, _, h⟩ := h
    exact .lst (SqL.of h) (ints_dp ns)
theorem nums_dp {K : PySem.W.Frag} {H : Hp} {D : Addr} : ∀ {os : List (Option (List Nat))} {vs : List V}, vs.length = os.length → (∀ (j : Nat) v o, vs[j]? = some v → os[j]? = some o → NumAt H D o v) → DpAll K H vs (os.map numD)
  | [], [], _, _ => .nil
  | o :: os, v :: vs, hl, h => .cons (num_dp (h 0 v o rfl rfl)) (nums_dp (Nat.succ.inj hl) fun j v o h1 h2 => h (j + 1) v o h1 h2)
/-- None, or a new tuple of tuples -/
def LinesV (H H' : Hp) : Option (List (List Nat)) → V → Prop
  | none, v => v = .non
  | some ls, v => ∃ d, v = .ref d ∧ H d = none ∧ TupsAt H' d (intsT ls)
def spLinesOf : Sp := fun vs H Q _ => ∃ (t : List Nat) (p m : Nat), vs = [.str (S t), .int (p : Nat), .int (m : Nat)] ∧ t.length ≤ 100000 ∧ 1 ≤ p ∧ p ≤ 1000000 ∧ m ≤ 60 ∧ ∀ v H', Same H H' → LinesV H H' (linesOf p m t) v → Q v H'
section
variable {P : Program} {w : World} {K : PySem.W.Frag} {mg : Str → Option Value} {base : Heap} {bp C B M N : Addr}
abbrev NLO : List Str := ["text", "prime", "wide", "lines", "part", "line"]
theorem scLO : FnScope NLO ["text", "prime", "wide"] (defScope (top 13)) := ⟨rfl, rfl, rfl, by decide +kernel, rfl, by decide +kernel, by decide +kernel⟩
theorem ok_linesof {f fN : Addr} {fd dN : FuncData} (F : Fun K "lines_of_text" "lines_of_text" (top 13) f fd) (T : Tx K mg bp)
    (GN : FnOk P w K mg base CX0 2 fN dN ["text", "many", "most"] spNumbersOf) (kN : PySem.W.keepIn K (.ref fN) = true) (bN : L2.Binds K dN ["text", "many", "most"] []) (gN : mg "numbers_of" = some (.ref fN)) :
    FnOk P w K mg base CX0 3 f fd ["text", "prime", "wide"] spLinesOf := by
  refine F.ok scLO (fun vs H Q E h => ?_) (fun cdv A outer s H vs Q E hr h => ?_)
  · obtain ⟨t, p, m, rfl, _⟩ := h
    rfl
  · refine ⟨_, pss_cons (ps_setLc (i := 3) (own := [("part", 4)]) (g := gName 4) (tt := tYes) (te := tCall spNumbersOf [] E0 (tCons (tVar 4) (tCons (tVar 2) (tCons (tOp (rI0 fun i j => .int (i - j)) (tVar 1) (tC (.int 1))) tNil)))) rfl scLO.nd rfl rfl (sw_true rfl rfl rfl (by decide +kernel)) (pi_seqB (pe_split (pv 0) pe_str)) (blkOk_by (own := [("part", 4)]) (N := NLO) (sc := defScope (top 13)) (by decide +kernel))
            (fun _ _ _ _ _ => pg_name (i := 4) scLO.nd rfl (Or.inl rfl)) (fun _ _ _ _ _ => pts_nil) (fun _ _ _ _ _ => pe_call GN hr rfl gN kN bN .nil pass0 (pa_cons (pv 4) (pa_cons (pv 2) (pa_cons (pe_op op_sub (pv 1) pe_int) pa_nil)))))
      (pss_cons (ps_if (PW.pt (pw_or (pt_cmpR op_ne (pe_callB call_len_seq (by rfl) T.len PySem.boot_len (pa_cons (pv 3) pa_nil)) (pv 2) (nomark _)) (pw_or1 (pt_cmpR (op_inD (show (A.deeper (envOfC "lines_of_text" (defScope (top 13)) s.heap.objs.size f cdv)).units + 65 < cLine by have := hr.un; omega)) pe_non (pv 3) (by rfl))))) (pss_one (ps_ret pe_non)) pss_nil)
      (pss_one (ps_ret (pe_callTy (T := "tuple") (r := rTupO K) call_tuple_of (by rfl) T.tuple (by decide +kernel) (pa_cons (pe_lc (own := [("line", 5)]) (g := gName 5) (tt := tYes) (te := tCB (rTupO K) (tCons (tVar 5) tNil)) rfl scLO.nd (pi_seqB (pv 3)) (blkOk_by (own := [("line", 5)]) (N := NLO) (sc := defScope (top 13)) (by decide +kernel))
            (fun _ _ _ _ _ => pg_name (i := 5) scLO.nd rfl (Or.inl rfl)) (fun _ _ _ _ _ => pts_nil) (fun _ _ _ _ _ => pe_callTy (T := "tuple") (r := rTupO K) call_tuple_of (by rfl) T.tuple (by decide +kernel) (pa_cons (pv 5) pa_nil))) pa_nil))))), ?_⟩
    obtain ⟨t, p, m, rfl, ht, hp, hp2, hm, k⟩ := h
    have h8 : (200000 : Nat) ≤ sizeLine := by decide
    have es : Txt.split (S t) (S [32, 47, 32]) = (TL.spl [32, 47, 32] 0 [] t).map S := split_S (by simp) rfl
    have lc := spl_count (sep := [32, 47, 32]) (by simp) rfl (t := t)
    have ll : ∀ p ∈ TL.spl [32, 47, 32] 0 [] t, p.length ≤ 100000 := fun p hp => Nat.le_trans (spl_S (by simp) rfl hp) ht
    obtain ⟨ws, hws⟩ : ∃ ws, TL.spl [32, 47, 32] 0 [] t = ws := ⟨_, rfl⟩
    have en : linesOf p m t = if (ws.map (numsOf m (p - 1))).length = m then allSome (ws.map (numsOf m (p - 1))) else none := by
      rw [← hws]
      rfl
    rw [hws] at es lc ll
    refine ⟨_, rfl, ⟨_, rfl⟩, S t, S [32, 47, 32], rfl, rfl, rfl, by rw [S_len]; omega, fun q hq => ?_⟩
    rw [es]
    obtain ⟨H1, e1, a1, S1⟩ : ∃ H1, upd H q (.lst ((ws.map S).map V.str)) = H1 ∧ H1 q = some (.lst ((ws.map S).map V.str)) ∧ Same H H1 := ⟨_, rfl, upd_same, (Same.refl _).put hq⟩
    rw [e1]
    have q1 : SqB K false H1 q ((ws.map S).map V.str) := SqL.of a1
    refine ⟨false, q, _, rfl, q1, fun D1 hD1 => lc_it walk_seqB (fun i H' => Same H1 H' ∧ ∃ vs : List V, H' D1 = some (.lst vs) ∧ vs.length = i ∧ ∀ (j : Nat) v o, vs[j]? = some v → (ws.map (numsOf m (p - 1)))[j]? = some o → NumAt H' D1 o v) ⟨(Same.refl _).put hD1, [], upd_same, rfl, fun j v o z => by cases z⟩ (fun i H' _ h => q1.same h.1) ?_ ?_⟩
    · rintro i v H2 H3 hi ⟨S2, vs, hL, lv, hvs⟩ ⟨rfl, hv⟩
      obtain ⟨wd, hwd, rfl⟩ : ∃ wd, ws[i]? = some wd ∧ v = .str (S wd) := by
        rw [List.getElem?_map, List.getElem?_map, Option.map_map] at hv
        obtain ⟨wd, h1, h2⟩ := Option.map_eq_some_iff.mp hv
        exact ⟨wd, h1, h2.symm⟩
      rw [List.length_map, List.length_map] at hi
      have eo : (ws.map (numsOf m (p - 1)))[i]? = some (numsOf m (p - 1) wd) := by rw [List.getElem?_map, hwd]; rfl
      have ep : (p : Int) - 1 = ((p - 1 : Nat) : Int) := by omega
      refine ⟨rfl, _, rfl, _, rfl, _, rfl, p, 1, rfl, rfl, wd, m, p - 1, congrArg (fun z => [V.str (S wd), V.int (m : Nat), V.int z]) ep, ll wd (List.mem_of_getElem? hwd), by omega, fun x H4 S4 hx => ?_⟩
      refine ⟨vs, S4 _ _ hL, by rw [lv]; exact Nat.lt_of_lt_of_le hi (by omega), (S2.trans S4).put hD1, vs ++ [x], upd_same, by rw [List.length_append, lv]; rfl, ?_⟩
      intro j u o hu ho
      have keep : ∀ {o u}, NumAt H4 D1 o u → NumAt (upd H4 D1 (.lst (vs ++ [x]))) D1 o u := fun {o u} hz => by
        cases o with
        | none => exact hz
        | some ns =>
          obtain ⟨z, e, ne, hz⟩ := hz
          exact ⟨z, e, ne, by rw [upd_ne ne]; exact hz⟩
      refine keep ?_
      rcases Nat.lt_or_ge j vs.length with hj | hj
      · rw [List.getElem?_append_left hj] at hu
        have z := hvs j u o hu ho
        cases o with
        | none => exact z
        | some ns =>
          obtain ⟨z, e, ne, hz⟩ := z
          exact ⟨z, e, ne, S4 _ _ hz⟩
      · rw [List.getElem?_append_right hj] at hu
        have hj0 : j = i := by
          have := (List.getElem?_eq_some_iff.mp hu).1
          simp at this
          omega
        subst hj0
        rw [eo] at ho
        obtain rfl := Option.some.inj ho
        obtain rfl : x = u := by
          rw [lv, Nat.sub_self] at hu
          exact Option.some.inj hu
        cases hn : numsOf m (p - 1) wd with
        | none => rw [hn] at hx; exact hx
        | some ns =>
          rw [hn] at hx
          obtain ⟨z, e, nz, hz⟩ := hx
          exact ⟨z, e, (fun e => by rw [e, hL] at nz; cases nz), hz⟩
    · rintro H2 ⟨S2, vs, hL, lv, hvs⟩
      rw [List.length_map, List.length_map] at lv
      have nD : H D1 = none := S1.free hD1
      have S02 := S1.trans S2
      obtain ⟨os, hos⟩ : ∃ os, ws.map (numsOf m (p - 1)) = os := ⟨_, rfl⟩
      have lo : os.length = ws.length := by rw [← hos, List.length_map]
      rw [hos] at hvs en
      refine ⟨_, rfl, D1, _, rfl, .inl (SqL.of hL), _, rfl, rfl, _, rfl, ?_⟩
      have eq1 : (!decide (V.int (vs.length : Nat) = V.int (m : Nat))) = !decide (os.length = m) := congrArg (!·) (decide_eq_decide.mpr ⟨fun z => by have := V.int.inj z; omega, fun z => by rw [lv, ← lo, z]⟩)
      by_cases h1 : os.length = m
      case neg =>
        rw [if_neg h1] at en
        rw [en] at k
        refine ite2 (fun _ => k _ H2 S02 rfl) fun z => absurd (by show (!decide (V.int (vs.length : Nat) = V.int (m : Nat))) = true; rw [eq1, decide_eq_false h1]; rfl) z
      rw [if_pos h1] at en
      refine ite2 (fun z => absurd (show (!decide (V.int (vs.length : Nat) = V.int (m : Nat))) = true from z) (by rw [eq1, decide_eq_true h1]; decide)) fun _ => ?_
      refine ⟨_, rfl, .none, os.map numD, .non, .lst (SqL.of hL) (nums_dp (by omega) hvs), none_shaped, numDs_shaped os, ?_⟩
      rw [numD_none]
      unfold allSome at en
      by_cases h2 : (os.any (·.isNone)) = true
      · rw [if_pos h2] at en
        rw [en] at k
        rw [h2]
        exact ⟨_, rfl, iteT (k _ H2 S02 rfl)⟩
      · rw [if_neg h2] at en
        rw [Bool.eq_false_iff.mpr h2]
        refine ⟨_, rfl, iteF ?_⟩
        obtain ⟨ls, hls⟩ : ∃ ls, os.filterMap id = ls := ⟨_, rfl⟩
        have ea : os = ls.map some := by rw [← hls]; exact allSome_of (by unfold allSome; rw [if_neg h2])
        rw [hls] at en
        rw [en] at k
        have la : ls.length = vs.length := by rw [ea, List.length_map] at lo; omega
        have q2 : SqB K false H2 D1 vs := SqL.of hL
        refine ⟨_, rfl, false, D1, vs, rfl, q2, fun D2 hD2 => lc_it walk_seqB (fun i H' => Same H2 H' ∧ ∃ bs : List Addr, H' D2 = some (.lst (bs.map V.ref)) ∧ bs.length = i ∧ ∀ (j : Nat) (b : Addr) (r : List Int), bs[j]? = some b → (intsT ls)[j]? = some r → H' b = some (.tup (r.map V.int))) ⟨(Same.refl _).put hD2, [], upd_same, rfl, fun j b r z => by cases z⟩ (fun i H' _ h => q2.same h.1) ?_ ?_⟩
        · rintro i v H4 H5 hi ⟨S4, bs, hB, lb, hbs⟩ ⟨rfl, hv⟩
          obtain ⟨l, hl0⟩ : ∃ l, ls[i]? = some l := ⟨_, List.getElem?_eq_getElem (by omega)⟩
          obtain ⟨z, rfl, ne, hz⟩ := hvs i v (some l) hv (by rw [ea, List.getElem?_map, hl0]; rfl)
          have hr0 : (intsT ls)[i]? = some (l.map fun n : Nat => (n : Int)) := by
            unfold intsT
            rw [List.getElem?_map, hl0]
            rfl
          have em : (l.map fun n : Nat => V.int (n : Int)) = (l.map fun n : Nat => (n : Int)).map V.int := by rw [List.map_map]; rfl
          refine ⟨rfl, _, rfl, z, _, rfl, .inl ⟨SqL.of (S4 _ _ hz), fun q hq => ?_⟩⟩
          rw [em]
          generalize hrw : (l.map fun n : Nat => (n : Int)) = r at hr0
          have S5 : Same H5 (upd H5 q (.tup (r.map V.int))) := (Same.refl _).new hq
          refine ⟨_, S5 _ _ hB, ?_, (S4.trans S5).put hD2, bs ++ [q], ?_, ?_, ?_⟩
          · rw [List.length_map, lb]
            exact Nat.lt_of_lt_of_le hi (by omega)
          · rw [upd_same, List.map_append]
            rfl
          · rw [List.length_append, lb]
            rfl
          · intro j c r2 hc hr2
            have ne : c ≠ D2 → upd (upd H5 q (.tup (r.map V.int))) D2 (.lst (bs.map V.ref ++ [V.ref q])) c = upd H5 q (.tup (r.map V.int)) c := fun z => upd_ne z
            rcases Nat.lt_or_ge j bs.length with hj | hj
            · rw [List.getElem?_append_left hj] at hc
              have h5 := hbs j c r2 hc hr2
              rw [ne (fun z => by rw [z, hB] at h5; cases h5)]
              exact S5 _ _ h5
            · rw [List.getElem?_append_right hj] at hc
              have hj0 : j = i := by
                have := (List.getElem?_eq_some_iff.mp hc).1
                simp at this
                omega
              subst hj0
              rw [hr0] at hr2
              obtain rfl := Option.some.inj hr2
              obtain rfl : q = c := by
                rw [lb, Nat.sub_self] at hc
                exact Option.some.inj hc
              have h6 := S5 _ _ hB
              rw [ne (fun z => by rw [z, upd_same] at h6; cases h6), upd_same]
        · rintro H4 ⟨S4, bs, hB, lb, hbs⟩
          refine ⟨D2, _, rfl, .inl ⟨SqL.of hB, fun q hq => ?_⟩⟩
          have S5 : Same H2 (upd H4 q (.tup (bs.map V.ref))) := S4.new hq
          have nq : H q = none := S02.free (S4.free hq)
          refine k _ _ (S02.trans S5) ⟨q, rfl, nq, bs, upd_same, by unfold intsT; rw [List.length_map]; omega, fun j b r h1 h2 => ?_⟩
          exact (Same.refl H4).new hq _ _ (hbs j b r h1 h2)
end
end P2
end

section
set_option maxRecDepth 100000
set_option maxHeartbeats 4000000
namespace P2
open PySem PySem.Spec PyProof.Rows L2 ClX ZM SX K7
/-- rows of ints as data -/
def tabD (rs : List (List Int)) : PyData := .tuple (rs.map fun r => .tuple (r.map .int))
theorem iD_lay : ∀ ns : List Int, PyData.canLayAll0 (ns.map PyData.int) = true
  | [] => by simp [PyData.canLayAll0]
  | n :: ns => by simp [PyData.canLayAll0, PyData.canLay0, iD_lay ns]
theorem iD_depth : ∀ ns : List Int, PyData.depthAll (ns.map PyData.int) ≤ 1
  | [] => by simp [PyData.depthAll]
  | n :: ns => by
    have h1 := iD_depth ns
    simp only [List.map_cons, PyData.depthAll, PyData.depth]
    omega
theorem rD_lay : ∀ rs : List (List Int), PyData.canLayAll0 (rs.map fun r => .tuple (r.map .int)) = true
  | [] => by simp [PyData.canLayAll0]
  | r :: rs => by simp [PyData.canLayAll0, PyData.canLay0, iD_lay r, rD_lay rs]
theorem rD_depth : ∀ rs : List (List Int), PyData.depthAll (rs.map fun r => .tuple (r.map .int)) ≤ 2
  | [] => by simp [PyData.depthAll]
  | r :: rs => by
    have h1 := iD_depth r
    have h2 := rD_depth rs
    simp only [List.map_cons, PyData.depthAll, PyData.depth]
    omega
theorem tabD_lay (rs : List (List Int)) : (tabD rs).canLay0 = true := by
  unfold tabD
  simp only [PyData.canLay0]
  exact rD_lay rs
theorem tabD_shaped (rs : List (List Int)) : SeqAt.shaped (tabD rs) = true := by
  have h1 := rD_depth rs
  have h2 : (tabD rs).depth ≤ 64 := by
    unfold tabD
    simp only [PyData.depth]
    omega
  show ((tabD rs).canLay0 && decide ((tabD rs).depth ≤ 64)) = true
  rw [Bool.and_eq_true]
  exact ⟨tabD_lay rs, decide_eq_true h2⟩
theorem row_dp {K : PySem.W.Frag} {H : Hp} : ∀ ns : List Int, DpAll K H (ns.map V.int) (ns.map PyData.int)
  | [] => .nil
  | n :: ns => .cons (.int _) (row_dp ns)
theorem rows_dp {K : PySem.W.Frag} {H : Hp} : ∀ {as : List Addr} {rs : List (List Int)}, as.length = rs.length → (∀ (i : Nat) (b : Addr) (r : List Int), as[i]? = some b → rs[i]? = some r → H b = some (.tup (r.map V.int))) → DpAll K H (as.map V.ref) (rs.map fun r => .tuple (r.map .int))
  | [], [], _, _ => .nil
  | a :: as, r :: rs, hl, h => .cons (.tup (SqT.of (h 0 a r rfl rfl)) (row_dp r)) (rows_dp (Nat.succ.inj hl) fun i b r h1 h2 => h (i + 1) b r h1 h2)
theorem tab_dp {K : PySem.W.Frag} {H : Hp} {d : Addr} {rs : List (List Int)} (h : TupsAt H d rs) : Dp K H (.ref d) (tabD rs) := let ⟨as, h1, h2, h3⟩ := h; .tup (SqT.of h1) (rows_dp h2 h3)
/-- two tables that are equal -/
def RTab (C : Addr) (a b : Addr) (H : Hp) : Prop := ∃ (p n m : Int) (rs : List (List Int)), TableAt H C a p n m rs ∧ TableAt H C b p n m rs
theorem ext_same {H H' : Hp} (e : Ext H H') : Same H H' := fun a o h => e a o h
theorem mon_tab {C : Addr} : ∀ a b H H', Ext H H' → RTab C a b H → RTab C a b H' := fun a b H H' e ⟨p, n, m, rs, h1, h2⟩ => ⟨p, n, m, rs, h1.same (ext_same e), h2.same (ext_same e)⟩
section
variable {P : Program} {w : World} {K : PySem.W.Frag} {mg : Str → Option Value} {base : Heap} {bp C B M N : Addr}
theorem scTE : FnScope ["self", "other"] ["self", "other"] (defScope sTE) := ⟨rfl, rfl, rfl, by decide +kernel, rfl, by decide +kernel, by decide +kernel⟩
theorem ok_teq {f : Addr} {fd : FuncData} (F : Fun K "__eq__" "Table.__eq__" sTE f fd) (T : Tx K mg bp) (Y : Tb K mg C B) : FnOk P w K mg base CX0 1 f fd ["self", "other"] (spEq (RTab C)) := by
  refine F.ok scTE (fun vs H Q E h => ?_) (fun cdv A outer s H vs Q E hr h => ?_)
  · obtain ⟨a, b, rfl, _⟩ := h
    rfl
  · refine ⟨_, pss_one (ps_ret (pe_and (pe_callB (r := rIsi K) call_isi (by rfl) T.isi (by decide +kernel) (pa_cons (pv 1) (pa_cons (pe_glob (v := .ref C) (by rfl) Y.gC rfl) pa_nil)))
      (pe_and (pe_cmpR op_eq (pe_fld (pv 0) rfl) (pe_fld (pv 1) rfl) (nomark _)) (pe_and (pe_cmpR op_eq (pe_fld (pv 0) rfl) (pe_fld (pv 1) rfl) (nomark _)) (pe_and (pe_cmpR op_eq (pe_fld (pv 0) rfl) (pe_fld (pv 1) rfl) (nomark _))
      (pe_one (pe_cmpR (op_eqD (show (A.deeper (envOfC "Table.__eq__" (defScope sTE) s.heap.objs.size f cdv)).units + 64 < cLine by have := hr.un; omega)) (pe_fld (pv 0) rfl) (pe_fld (pv 1) rfl) (nomark _)))))))), ?_⟩
    obtain ⟨a, b, rfl, ⟨p, n, m, rs, hA, hB⟩, k⟩ := h
    refine ⟨_, rfl, _, .ref C, .ref C, .ref C, true, rfl, .own _, ty_table Y hB, Y.kC, _, rfl, iteT ?_⟩
    obtain ⟨dx, d, hA, tA⟩ := hA
    obtain ⟨dy, e, hB, tB⟩ := hB
    refine ⟨_, rfl, a, C, dx, _, _, rfl, hA, Y.cl, Y.n1, fst_prime _ _ _ _, _, rfl, b, C, dy, _, _, rfl, hB, Y.cl, Y.n1, fst_prime _ _ _ _, rfl, _, rfl, ite2 (fun _ => ?_) fun z => absurd (decide_eq_true rfl) z⟩
    refine ⟨_, rfl, a, C, dx, _, _, rfl, hA, Y.cl, Y.n2, fst_tall _ _ _ _, _, rfl, b, C, dy, _, _, rfl, hB, Y.cl, Y.n2, fst_tall _ _ _ _, rfl, _, rfl, ite2 (fun _ => ?_) fun z => absurd (decide_eq_true rfl) z⟩
    refine ⟨_, rfl, a, C, dx, _, _, rfl, hA, Y.cl, Y.n3, fst_wide _ _ _ _, _, rfl, b, C, dy, _, _, rfl, hB, Y.cl, Y.n3, fst_wide _ _ _ _, rfl, _, rfl, ite2 (fun _ => ?_) fun z => absurd (decide_eq_true rfl) z⟩
    refine ⟨_, rfl, a, C, dx, _, _, rfl, hA, Y.cl, Y.n4, fst_lines _ _ _ _, _, rfl, b, C, dy, _, _, rfl, hB, Y.cl, Y.n4, fst_lines _ _ _ _, tabD rs, tabD rs, tab_dp tA, tab_dp tB, tabD_shaped rs, tabD_shaped rs, ?_⟩
    rw [SeqAt.eqv_refl _ (tabD_lay rs)]
    exact k _ Ext.rfl'
/-- whether it is a deed -/
def IsD (K : PySem.W.Frag) (C : Addr) (H : Hp) (v : V) (b : Bool) : Prop :=
  (∃ n, TyX K H v (.type n) ∧ n ∈ kinds7 ∧ n ≠ "tuple" ∧ b = false) ∨ ∃ a xs, v = .ref a ∧ SqT K H a xs ∧ TyX K H (.ref a) (.type "tuple") ∧ ((xs.length ≠ 2 ∧ xs.length ≤ 1000 ∧ b = false) ∨
    ∃ z y, xs = [.str z, y] ∧ (((z = S wPut ∨ z = S wTurn) ∧ ((∃ c p n m rs, y = .ref c ∧ TableAt H C c p n m rs ∧ b = true) ∨ (PV K H y ∧ b = false))) ∨ (z = S wTake ∧ PV K H y ∧ b = isI y)))
def spIsDeed (K : PySem.W.Frag) (C : Addr) : Sp := fun vs H Q _ => ∃ v b, vs = [v] ∧ IsD K C H v b ∧ ∀ H', Same H H' → Q (.bl b) H'
theorem PV.same {H H' : Hp} {v : V} (S : Same H H') (h : PV K H v) : PV K H' v := let ⟨n, h1, h2⟩ := h; ⟨n, h1, tyx_same h2 S⟩
theorem kk_tup : ∀ n ∈ kinds7, kitB n "tuple" = some (decide (n = "tuple")) := by decide +kernel
theorem scID : FnScope ["thing"] ["thing"] (defScope (top 30)) := ⟨rfl, rfl, rfl, by decide +kernel, rfl, by decide +kernel, by decide +kernel⟩
theorem ok_isdeed {f fN : Addr} {fd dN : FuncData} (F : Fun K "is_deed" "is_deed" (top 30) f fd) (T : Tx K mg bp) (X : Sx mg) (Y : Tb K mg C B)
    (GN : FnOk P w K mg base CX0 1 fN dN ["thing"] (spIsNum K)) (kN : PySem.W.keepIn K (.ref fN) = true) (bN : L2.Binds K dN ["thing"] []) (gN : mg "is_number" = some (.ref fN)) :
    FnOk P w K mg base CX0 2 f fd ["thing"] (spIsDeed K C) := by
  refine F.ok scID (fun vs H Q E h => ?_) (fun cdv A outer s H vs Q E hr h => ?_)
  · obtain ⟨v, b, rfl, _⟩ := h
    rfl
  · refine ⟨_, pss_cons (ps_if (PW.pt (pw_or (pt_not (pt_val (pe_callB (r := rIsi K) call_isi (by rfl) T.isi (by decide +kernel) (pa_cons (pv 0) (pa_cons (pe_bltn (v := .ty "tuple") (by rfl) T.tuple (by decide +kernel) rfl) pa_nil)))))
        (pw_or (pt_cmpR op_ne (pe_callB call_len_seq (by rfl) T.len PySem.boot_len (pa_cons (pv 0) pa_nil)) pe_int (nomark _))
        (pw_or1 (pt_not (pt_val (pe_callB (r := rIsi K) call_isi (by rfl) T.isi (by decide +kernel) (pa_cons (pe_ix (r := rIxB K) ix_B (pv 0) pe_int (fun _ _ => rfl)) (pa_cons (pe_bltn (v := .ty "str") (by rfl) X.str (by decide +kernel) rfl) pa_nil))))))))) (pss_one (ps_ret pe_bl)) pss_nil)
      (pss_cons (ps_if (pt_cmpR op_in_seq (pe_ix (r := rIxB K) ix_B (pv 0) pe_int (fun _ _ => rfl)) (pe_tup (pa_cons pe_str (pa_cons pe_str pa_nil))) (by rfl)) (pss_one (ps_ret (pe_callB (r := rIsi K) call_isi (by rfl) T.isi (by decide +kernel) (pa_cons (pe_ix (r := rIxB K) ix_B (pv 0) pe_int (fun _ _ => rfl)) (pa_cons (pe_glob (v := .ref C) (by rfl) Y.gC rfl) pa_nil))))) pss_nil)
      (pss_one (ps_ret (pe_and (pe_cmpR op_eq (pe_ix (r := rIxB K) ix_B (pv 0) pe_int (fun _ _ => rfl)) pe_str (nomark _)) (pe_one (pe_call GN hr rfl gN kN bN .nil pass0 (pa_cons (pe_ix (r := rIxB K) ix_B (pv 0) pe_int (fun _ _ => rfl)) pa_nil))))))), ?_⟩
    obtain ⟨v, b, rfl, h, k⟩ := h
    rcases h with ⟨n, t, hn, nt, rfl⟩ | ⟨a, xs, rfl, hq, t, h⟩
    · refine ⟨_, rfl, v, .ty "tuple", .type n, .type "tuple", _, rfl, .ty _, t, kit_ty (kk_tup n hn), _, rfl, ?_⟩
      rw [decide_eq_false nt]
      exact iteT (k H (Same.refl _))
    · refine ⟨_, rfl, .ref a, .ty "tuple", .type "tuple", .type "tuple", true, rfl, .ty _, t, kit_ty (kk_tup "tuple" (by decide)), _, rfl, iteF ?_⟩
      have q2 : SqB K true H a xs := hq
      rcases h with ⟨hl, hz, rfl⟩ | ⟨z, y, rfl, h⟩
      · refine ⟨_, rfl, a, xs, rfl, .inr hq, rfl, _, rfl, ite2 (fun _ => k H (Same.refl _)) fun z => absurd (show (!decide (V.int (xs.length : Nat) = V.int 2)) = true from ?_) z⟩
        rw [decide_eq_false fun z => hl (by have := V.int.inj z; omega)]
        rfl
      · refine ⟨_, rfl, a, _, rfl, .inr hq, rfl, _, rfl, iteF ?_⟩
        refine ⟨_, rfl, true, a, _, 0, .str z, rfl, rfl, q2, rfl, .str z, .ty "str", .type "str", .type "str", true, rfl, .ty _, .base (.str _), kit_ty (by decide +kernel), _, rfl, iteF ?_⟩
        refine ⟨_, rfl, true, a, _, 0, .str z, rfl, rfl, q2, rfl, by decide, fun l hl => ?_⟩
        have S1 : Same H (upd H l (.tup [.str "put", .str "turn"])) := (Same.refl _).new hl
        have q3 := q2.same S1
        rcases h with ⟨hz, h⟩ | ⟨rfl, hy, rfl⟩
        · have ei : inV (.str z) [.str "put", .str "turn"] = true := by rcases hz with rfl | rfl <;> decide +kernel
          refine ⟨l, _, rfl, .inr (SqT.of upd_same), rfl, rfl, _, rfl, ?_⟩
          show if inV (.str z) [.str "put", .str "turn"] = true then _ else _
          rw [ei]
          refine iteT ⟨_, rfl, true, a, _, 1, y, rfl, rfl, q3, rfl, ?_⟩
          rcases h with ⟨c, p, n, m, rs, rfl, hT, rfl⟩ | ⟨⟨n, hn, t⟩, rfl⟩
          · exact ⟨_, .ref C, .ref C, .ref C, true, rfl, .own _, ty_table Y (hT.same S1), Y.kC, k _ S1⟩
          · exact ⟨_, .ref C, .type n, .ref C, false, rfl, .own _, tyx_same t S1, Y.kN n hn, k _ S1⟩
        · refine ⟨l, _, rfl, .inr (SqT.of upd_same), rfl, rfl, _, rfl, ?_⟩
          have ei : inV (.str (S wTake)) [.str "put", .str "turn"] = false := by decide +kernel
          show if inV (.str (S wTake)) [.str "put", .str "turn"] = true then _ else _
          rw [ei]
          refine iteF ⟨_, rfl, true, a, _, 0, .str (S wTake), rfl, rfl, q3, rfl, rfl, _, rfl, ite2 (fun _ => ?_) fun z => absurd (by decide +kernel) z⟩
          refine ⟨_, rfl, true, a, _, 1, y, rfl, rfl, q3, rfl, y, rfl, hy.same S1, k _ S1⟩
end
end P2
end

section
set_option maxRecDepth 100000
set_option maxHeartbeats 4000000
namespace P2
open PySem PySem.Spec PyProof.Rows L2 ClX ZM SX K7
/-- a deed as a value -/
def DeedAt (H : Hp) (C : Addr) (p w : Nat) (v : V) : Deed → Prop
  | .take n => ∃ a, v = .ref a ∧ H a = some (.tup [.str (S wTake), .int (n : Nat)])
  | .put ls => ∃ a c, v = .ref a ∧ H a = some (.tup [.str (S wPut), .ref c]) ∧ TableAt H C c p w w (intsT ls)
  | .turn ls => ∃ a c, v = .ref a ∧ H a = some (.tup [.str (S wTurn), .ref c]) ∧ TableAt H C c p w w (intsT ls)
theorem DeedAt.same {H H' : Hp} {C : Addr} {p w : Nat} {v : V} {d : Deed} (T : Same H H') (h : DeedAt H C p w v d) : DeedAt H' C p w v d := by
  cases d with
  | take n => exact let ⟨a, e, h⟩ := h; ⟨a, e, T _ _ h⟩
  | put ls => exact let ⟨a, c, e, h, t⟩ := h; ⟨a, c, e, T _ _ h, t.same T⟩
  | turn ls => exact let ⟨a, c, e, h, t⟩ := h; ⟨a, c, e, T _ _ h, t.same T⟩
/-- what is no deed with a text -/
def BadD (K : PySem.W.Frag) (C : Addr) (H : Hp) (v : V) : Prop := IsD K C H v false ∨ (∃ a i, v = .ref a ∧ H a = some (.tup [.str (S wTake), .int i]) ∧ ¬ (0 ≤ i ∧ i ≤ 1000000000)) ∨
  ∃ a z c p n m rs, v = .ref a ∧ (z = S wPut ∨ z = S wTurn) ∧ H a = some (.tup [.str z, .ref c]) ∧ TableAt H C c p n m rs ∧ ¬ (n = m ∧ 1 ≤ n ∧ n ≤ 3)
structure Ex (K : PySem.W.Frag) (mg : Str → Option Value) (D : Addr) : Prop where
  gD : mg "BadDeed" = some (.ref D)
  xD : PySem.W.excIn K D [.type "ValueError", .type "Exception", .type "BaseException", .type "object"] "ValueError.__new__" = true
  kD : PySem.W.keepIn K (.ref D) = true
  sD : PySem.W.subIn K (.ref D) (.type "BaseException") = some true
  tD : PySem.W.typeIn K (.ref D) = some (.type "type")
  ms : ∃ t, mg "MOST_SPOT" = some (.int 1000000000 t)
  mw : ∃ t, mg "MOST_WIDE" = some (.int 3 t)
def spDeedText (K : PySem.W.Frag) (C D : Addr) : Sp := fun vs H Q E => ∃ v, vs = [v] ∧ ((∃ (p w : Nat) (d : Deed), DeedAt H C p w v d ∧ DeedOk p w d ∧ 1 ≤ w ∧ w ≤ 3 ∧ p ≤ 1000000 ∧ ∀ H', Same H H' → Q (.str (S (deedL d))) H') ∨ (BadD K C H v ∧ ∀ H', Same H H' → E (.ref D) none H'))
theorem isD_take {K : PySem.W.Frag} {C : Addr} {H : Hp} {a : Addr} {i : Int} (h : H a = some (.tup [.str (S wTake), .int i])) : IsD K C H (.ref a) true :=
  .inr ⟨a, _, rfl, SqT.of h, .base (.tup h), .inr ⟨_, _, rfl, .inr ⟨rfl, pv_flat rfl, rfl⟩⟩⟩
theorem isD_tab {K : PySem.W.Frag} {C : Addr} {H : Hp} {a c : Addr} {z : Str} {p n m : Int} {rs : List (List Int)} (hz : z = S wPut ∨ z = S wTurn) (h : H a = some (.tup [.str z, .ref c])) (t : TableAt H C c p n m rs) : IsD K C H (.ref a) true :=
  .inr ⟨a, _, rfl, SqT.of h, .base (.tup h), .inr ⟨_, _, rfl, .inl ⟨hz, .inl ⟨c, p, n, m, rs, rfl, t, rfl⟩⟩⟩⟩
theorem S_nil (x : List Nat) : Str.empty ++ S x = S x := S_cat [] x
section
variable {P : Program} {w : World} {K : PySem.W.Frag} {mg : Str → Option Value} {base : Heap} {bp C B M N D : Addr}
abbrev NDT : List Str := ["deed", "word", "thing"]
theorem scDT : FnScope NDT ["deed"] (defScope (top 33)) := ⟨rfl, rfl, rfl, by decide +kernel, rfl, by decide +kernel, by decide +kernel⟩
theorem ok_deedtext {f fI fW fL : Addr} {fd dI dW dL : FuncData} (F : Fun K "deed_text" "deed_text" (top 33) f fd) (T : Tx K mg bp) (X : Sx mg) (Y : Tb K mg C B) (Z : Ex K mg D)
    (GI : FnOk P w K mg base CX0 2 fI dI ["thing"] (spIsDeed K C)) (kI : PySem.W.keepIn K (.ref fI) = true) (bI : L2.Binds K dI ["thing"] []) (gI : mg "is_deed" = some (.ref fI))
    (GW : FnOk P w K mg base CX0 2 fW dW ["thing", "least", "most"] (spWithin K)) (kW : PySem.W.keepIn K (.ref fW) = true) (bW : L2.Binds K dW ["thing", "least", "most"] []) (gW : mg "is_within" = some (.ref fW))
    (GL : FnOk P w K mg base CX0 2 fL dL ["table"] (spLinesText C)) (kL : PySem.W.keepIn K (.ref fL) = true) (bL : L2.Binds K dL ["table"] []) (gL : mg "lines_text" = some (.ref fL)) :
    FnOk P w K mg base (L2.CX P w) 3 f fd ["deed"] (spDeedText K C D) := by
  obtain ⟨ts, hs⟩ := Z.ms
  obtain ⟨tw, hw⟩ := Z.mw
  refine okX F scDT (fun vs H Q E h => ?_) (fun cdv A outer s H vs Q E hr h => ?_)
  · obtain ⟨v, rfl, _⟩ := h
    rfl
  · refine ⟨_, pss_cons (ps_if (pt_not (pt_val (pe_call GI hr rfl gI kI bI .nil pass0 (pa_cons (pv 0) pa_nil)))) (pss_one (ps_raise rfl (takes_of rfl rfl rfl rfl) (pmk_own PySem.F.excBase_ValueError Z.xD Z.gD Z.kD (raises_own Z.sD Z.tD) rfl))) pss_nil)
      (pss_cons (ps_asg (pv 0) (pg_tup rfl (pgs_cons (pg_name (i := 1) scDT.nd rfl (Or.inl rfl)) (pgs_cons (pg_name (i := 2) scDT.nd rfl (Or.inl rfl)) pgs_nil))))
      (pss_cons (ps_if (pt_cmpR op_eq (pv 1) pe_str (nomark _))
        (pss_cons (ps_if (pt_not (pt_val (pe_call GW hr rfl gW kW bW .nil pass0 (pa_cons (pv 2) (pa_cons pe_int (pa_cons (pe_glob (v := .int 1000000000) (by rfl) hs ⟨ts, rfl⟩) pa_nil)))))) (pss_one (ps_raise rfl (takes_of rfl rfl rfl rfl) (pmk_own PySem.F.excBase_ValueError Z.xD Z.gD Z.kD (raises_own Z.sD Z.tD) rfl))) pss_nil)
        (pss_one (ps_ret (pe_joined (PJ.cons pe_str (PJ.cons (pe_fmt (pv 2)) PJ.nil)))))) pss_nil)
      (pss_cons (ps_if (PW.pt (pw_or (pt_cmpR op_ne (pe_fld (pv 2) rfl) (pe_fld (pv 2) rfl) (nomark _)) (pw_or1 (pt_not (pt_val (pe_call GW hr rfl gW kW bW .nil pass0 (pa_cons (pe_fld (pv 2) rfl) (pa_cons pe_int (pa_cons (pe_glob (v := .int 3) (by rfl) hw ⟨tw, rfl⟩) pa_nil)))))))))
        (pss_one (ps_raise rfl (takes_of rfl rfl rfl rfl) (pmk_own PySem.F.excBase_ValueError Z.xD Z.gD Z.kD (raises_own Z.sD Z.tD) rfl))) pss_nil)
      (pss_one (ps_ret (pe_joined (PJ.cons (pe_fmt (pv 1)) (PJ.cons pe_str (PJ.cons (pe_fmt (pe_call GL hr rfl gL kL bL .nil pass0 (pa_cons (pv 2) pa_nil))) PJ.nil))))))))), ?_⟩
    obtain ⟨v, rfl, h⟩ := h
    have h8 : (200000 : Nat) ≤ sizeLine := by decide
    have cs : (IsD K C H v false ∧ ∀ H', Same H H' → E (.ref D) none H') ∨ (∃ a i, v = .ref a ∧ H a = some (.tup [.str (S wTake), .int i]) ∧ ((∃ n : Nat, i = n ∧ n ≤ 1000000000 ∧ ∀ H', Same H H' → Q (.str (S (wTake ++ ([32] ++ TL.numL n)))) H') ∨ (¬ (0 ≤ i ∧ i ≤ 1000000000) ∧ ∀ H', Same H H' → E (.ref D) none H'))) ∨
        ∃ a c z p n m rs, v = .ref a ∧ (z = wPut ∨ z = wTurn) ∧ H a = some (.tup [.str (S z), .ref c]) ∧ TableAt H C c p n m rs ∧ ((n = m ∧ 1 ≤ n ∧ n ≤ 3 ∧ ∃ ls : List (List Nat), rs = intsT ls ∧ ls.length ≤ 3 ∧ (∀ l ∈ ls, l.length ≤ 3 ∧ ∀ n ∈ l, n ≤ 1000000000) ∧ ∀ H', Same H H' → Q (.str (S (z ++ ([32] ++ linesL ls)))) H') ∨ (¬ (n = m ∧ 1 ≤ n ∧ n ≤ 3) ∧ ∀ H', Same H H' → E (.ref D) none H')) := by
      rcases h with ⟨p, w, d, hd, ok, w1, w3, hp, k⟩ | ⟨h | ⟨a, i, e, ha, hi⟩ | ⟨a, z, c, p, n, m, rs, e, hz, ha, hT, hn⟩, k⟩
      · have tab : ∀ ls : List (List Nat), ls.length = w ∧ (∀ l ∈ ls, l.length = w ∧ ∀ n ∈ l, n ≤ p - 1) → ls.length ≤ 3 ∧ ∀ l ∈ ls, l.length ≤ 3 ∧ ∀ n ∈ l, n ≤ 1000000000 := fun ls h => ⟨by omega, fun l hl => ⟨by have := (h.2 l hl).1; omega, fun n hn => by have := (h.2 l hl).2 n hn; omega⟩⟩
        cases d with
        | take n => exact .inr (.inl (let ⟨a, e, ha⟩ := hd; ⟨a, n, e, ha, .inl ⟨n, rfl, ok, k⟩⟩))
        | put ls => exact .inr (.inr (let ⟨a, c, e, ha, hT⟩ := hd; ⟨a, c, wPut, p, w, w, _, e, .inl rfl, ha, hT, .inl ⟨rfl, by omega, by omega, ls, rfl, (tab ls ok).1, (tab ls ok).2, k⟩⟩))
        | turn ls => exact .inr (.inr (let ⟨a, c, e, ha, hT⟩ := hd; ⟨a, c, wTurn, p, w, w, _, e, .inr rfl, ha, hT, .inl ⟨rfl, by omega, by omega, ls, rfl, (tab ls ok).1, (tab ls ok).2, k⟩⟩))
      · exact .inl ⟨h, k⟩
      · exact .inr (.inl ⟨a, i, e, ha, .inr ⟨hi, k⟩⟩)
      · rcases hz with rfl | rfl
        · exact .inr (.inr ⟨a, c, wPut, p, n, m, rs, e, .inl rfl, ha, hT, .inr ⟨hn, k⟩⟩)
        · exact .inr (.inr ⟨a, c, wTurn, p, n, m, rs, e, .inr rfl, ha, hT, .inr ⟨hn, k⟩⟩)
    clear h
    rcases cs with ⟨h, k⟩ | ⟨a, i, rfl, ha, h⟩ | ⟨a, c, z, p, n, m, rs, rfl, hz, ha, hT, h⟩
    · exact ⟨_, rfl, v, false, rfl, h, fun H1 S1 => ⟨_, rfl, iteT (k H1 S1)⟩⟩
    · refine ⟨_, rfl, _, true, rfl, isD_take ha, fun H1 S1 => ⟨_, rfl, iteF ?_⟩⟩
      refine ⟨_, rfl, a, _, rfl, SqT.of (S1 _ _ ha), rfl, _, _, rfl, _, _, rfl, rfl, ?_⟩
      refine ⟨_, rfl, rfl, _, rfl, ite2 (fun _ => ?_) fun z => absurd (by decide +kernel) z⟩
      refine ⟨_, rfl, .int i, 0, 1000000000, rfl, pv_flat rfl, _, rfl, ?_⟩
      rcases h with ⟨n, rfl, hn, k⟩ | ⟨hi, k⟩
      · have e1 : inB (.int (n : Int)) 0 1000000000 = true := by
          show (decide (0 ≤ (n : Int)) && decide ((n : Int) ≤ 1000000000)) = true
          rw [decide_eq_true (by omega), decide_eq_true (by omega)]
          rfl
        rw [e1]
        refine iteF ?_
        have l10 := numL_small hn
        refine ⟨S [116, 97, 107, 101, 32], rfl, by decide, _, rfl, .inr ⟨n, rfl, log_small hn, _, rfl, ?_, ?_⟩⟩
        · rw [tos_nat, S_nil, S_cat, S_len, List.length_append]
          show 5 + _ ≤ _
          omega
        · show Q (.str (Str.empty ++ S [116, 97, 107, 101, 32] ++ Str.ofString (toString (n : Int)))) H1
          rw [tos_nat, S_nil, S_cat]
          exact k H1 S1
      · have e1 : inB (.int i) 0 1000000000 = false := by
          show (decide (0 ≤ i) && decide (i ≤ 1000000000)) = false
          rw [← Bool.decide_and]
          exact decide_eq_false hi
        rw [e1]
        exact iteT (k H1 S1)
    · have hz2 : S z = S wPut ∨ S z = S wTurn := by rcases hz with rfl | rfl <;> simp
      have ew : decide (V.str (S z) = V.str "take") = false := by rcases hz with rfl | rfl <;> decide +kernel
      have lz : z.length ≤ 4 := by rcases hz with rfl | rfl <;> decide
      refine ⟨_, rfl, _, true, rfl, isD_tab hz2 ha hT, fun H1 S1 => ⟨_, rfl, iteF ?_⟩⟩
      refine ⟨_, rfl, a, _, rfl, SqT.of (S1 _ _ ha), rfl, _, _, rfl, _, _, rfl, rfl, ?_⟩
      refine ⟨_, rfl, rfl, _, rfl, ?_⟩
      rw [ew]
      refine iteF ?_
      have hT1 := hT.same S1
      obtain ⟨dx, d, hI, tI⟩ := id hT1
      refine ⟨_, rfl, c, C, dx, _, _, rfl, hI, Y.cl, Y.n2, fst_tall _ _ _ _, _, rfl, c, C, dx, _, _, rfl, hI, Y.cl, Y.n3, fst_wide _ _ _ _, rfl, ?_⟩
      rcases h with ⟨rfl, n1, n3, ls, rfl, l3, hl, k⟩ | ⟨hn, k⟩
      · refine ⟨_, rfl, ite2 (fun z => absurd z (by rw [decide_eq_true rfl]; decide)) fun _ => ?_⟩
        refine ⟨_, rfl, c, C, dx, _, _, rfl, hI, Y.cl, Y.n2, fst_tall _ _ _ _, .int n, 1, 3, rfl, pv_flat rfl, _, rfl, ?_⟩
        have e1 : inB (.int n) 1 3 = true := by
          show (decide (1 ≤ n) && decide (n ≤ 3)) = true
          rw [decide_eq_true n1, decide_eq_true n3]
          rfl
        rw [e1]
        refine iteF ?_
        have ll := linesL_len (w := 3) hl
        refine ⟨_, rfl, .inl ⟨S z, rfl, by rw [S_len]; omega, _, rfl, by rw [S_nil, S_len]; omega, S [32], rfl, by rw [S_nil, S_cat, S_len, List.length_append]; show _ + 1 ≤ _; omega, ?_⟩⟩
        refine ⟨_, rfl, c, p, n, n, ls, rfl, hT1, by omega, fun l h => ⟨by have := (hl l h).1; omega, (hl l h).2⟩, fun H2 S2 => .inl ⟨_, rfl, by rw [S_len]; omega, _, rfl, ?_, ?_⟩⟩
        · rw [S_nil, S_cat, S_cat, S_len, List.length_append, List.length_append]
          show _ + 1 + _ ≤ _
          omega
        · show Q (.str (Str.empty ++ S z ++ S [32] ++ S (linesL ls))) H2
          rw [S_nil, S_cat, S_cat, List.append_assoc]
          exact k H2 (S1.trans S2)
      · by_cases hnm : n = m
        · subst hnm
          refine ⟨_, rfl, ite2 (fun z => absurd z (by rw [decide_eq_true rfl]; decide)) fun _ => ?_⟩
          refine ⟨_, rfl, c, C, dx, _, _, rfl, hI, Y.cl, Y.n2, fst_tall _ _ _ _, .int n, 1, 3, rfl, pv_flat rfl, _, rfl, ?_⟩
          have e1 : inB (.int n) 1 3 = false := by
            show (decide (1 ≤ n) && decide (n ≤ 3)) = false
            rw [← Bool.decide_and]
            exact decide_eq_false fun z => hn ⟨rfl, z⟩
          rw [e1]
          exact iteT (k H1 S1)
        · refine ⟨_, rfl, ite2 (fun _ => k H1 S1) fun z => absurd ?_ z⟩
          show (!decide (V.int n = V.int m)) = true
          rw [decide_eq_false fun z => hnm (V.int.inj z)]
          rfl
end
end P2
end

section
set_option maxRecDepth 100000
set_option maxHeartbeats 4000000
namespace P2
open PySem PySem.Spec PyProof.Rows L2 ClX ZM SX K7
theorem part_S (t : List Nat) : ∃ x, Txt.partition (S t) (S [32]) = (S (parted t).1, x, S (parted t).2) := by
  unfold parted
  cases h : TL.par [32] [] t with
  | none => exact ⟨_, partition_none (by simp) h⟩
  | some x => exact ⟨_, partition_some (by simp) h⟩
theorem part_len (t : List Nat) : (parted t).2.length ≤ t.length := by
  rcases parted_app t with e | e
  · have z := congrArg List.length e
    rw [List.length_append, List.length_append] at z
    omega
  · rw [e]
    exact Nat.zero_le _
theorem intsT_len (ls : List (List Nat)) : (intsT ls).length = ls.length := by unfold intsT; rw [List.length_map]
theorem intsT_ok {p w : Nat} {ls : List (List Nat)} (p1 : 1 ≤ p) (h : ls.length = w ∧ ∀ l ∈ ls, l.length = w ∧ ∀ n ∈ l, n ≤ p - 1) : TbOk p w w (intsT ls) := by
  refine ⟨by rw [intsT_len, h.1], fun r hr => ?_⟩
  obtain ⟨l, hl, rfl⟩ := List.mem_map.mp hr
  obtain ⟨h1, h2⟩ := h.2 l hl
  refine ⟨by rw [List.length_map, h1], fun x hx => ?_⟩
  obtain ⟨n, hn, rfl⟩ := List.mem_map.mp hx
  have := h2 n hn
  exact ⟨by omega, by omega⟩
/-- None, or a deed -/
def ReadV (H : Hp) (C : Addr) (p w : Nat) : Option Deed → V → Prop
  | none, v => v = .non
  | some d, v => DeedAt H C p w v d
theorem kk_str : ∀ n ∈ kinds7, kitB n "str" = some (decide (n = "str")) := by decide +kernel
def spDeedRead (K : PySem.W.Frag) (C : Addr) : Sp := fun vs H Q _ => ∃ (p w : Nat) (v : V), vs = [.int (p : Nat), .int (w : Nat), v] ∧ (p : Int) ∈ primes ∧ 1 ≤ w ∧ w ≤ 3 ∧
  ((∃ t, v = .str (S t) ∧ t.length ≤ 100000 ∧ ∀ x H', Same H H' → ReadV H' C p w (readL p w t) x → Q x H') ∨ ∃ n, TyX K H v (.type n) ∧ n ∈ kinds7 ∧ n ≠ "str" ∧ Q .non H)
theorem prime_small {p : Int} (h : p ∈ primes) : p ≤ 97 := by
  have z : ∀ q ∈ primes, q ≤ 97 := by decide
  exact z p h
section
variable {P : Program} {w : World} {K : PySem.W.Frag} {mg : Str → Option Value} {base : Heap} {bp C B M N D : Addr}
abbrev NDR : List Str := ["prime", "wide", "text", "word", "_", "rest", "spot", "lines"]
theorem scDR : FnScope NDR ["prime", "wide", "text"] (defScope (top 35)) := ⟨rfl, rfl, rfl, by decide +kernel, rfl, by decide +kernel, by decide +kernel⟩
theorem ok_deedread {f fN fL fI : Addr} {fd dN dL dI : FuncData} (F : Fun K "deed_read" "deed_read" (top 35) f fd) (T : Tx K mg bp) (X : Sx mg) (Y : Tb K mg C B) (Z : Ex K mg D) (MK : TMake P w K mg base C fI dI)
    (GN : FnOk P w K mg base CX0 1 fN dN ["word", "least", "most"] spNumberOf) (kN : PySem.W.keepIn K (.ref fN) = true) (bN : L2.Binds K dN ["word", "least", "most"] []) (gN : mg "number_of" = some (.ref fN))
    (GL : FnOk P w K mg base CX0 3 fL dL ["text", "prime", "wide"] spLinesOf) (kL : PySem.W.keepIn K (.ref fL) = true) (bL : L2.Binds K dL ["text", "prime", "wide"] []) (gL : mg "lines_of_text" = some (.ref fL)) :
    FnOk P w K mg base CX0 8 f fd ["prime", "wide", "text"] (spDeedRead K C) := by
  obtain ⟨ts, hs⟩ := Z.ms
  refine F.ok scDR (fun vs H Q E h => ?_) (fun cdv A outer s H vs Q E hr h => ?_)
  · obtain ⟨p, w, v, rfl, _⟩ := h
    rfl
  · refine ⟨_, pss_cons (ps_if (pt_not (pt_val (pe_callB (r := rIsi K) call_isi (by rfl) T.isi (by decide +kernel) (pa_cons (pv 2) (pa_cons (pe_bltn (v := .ty "str") (by rfl) X.str (by decide +kernel) rfl) pa_nil))))) (pss_one (ps_ret pe_non)) pss_nil)
      (pss_cons (ps_asg (pe_partition (pv 2) pe_str) (pg_tup rfl (pgs_cons (pg_name (i := 3) scDR.nd rfl (Or.inl rfl)) (pgs_cons (pg_name (i := 4) scDR.nd rfl (Or.inl rfl)) (pgs_cons (pg_name (i := 5) scDR.nd rfl (Or.inl rfl)) pgs_nil)))))
      (pss_cons (ps_if (pt_cmpR op_eq (pv 3) pe_str (nomark _))
        (pss_cons (ps_set (i := 6) scDR.nd rfl (Or.inl rfl) (pe_call GN (hr.mono (by decide)) rfl gN kN bN .nil pass0 (pa_cons (pv 5) (pa_cons pe_int (pa_cons (pe_glob (v := .int 1000000000) (by rfl) hs ⟨ts, rfl⟩) pa_nil)))))
        (pss_one (ps_ret (pe_ifExp (pt_cmpR op_isN (pv 6) pe_non (nomark _)) pe_non (pe_tup (pa_cons (pv 3) (pa_cons (pv 6) pa_nil))))))) pss_nil)
      (pss_cons (ps_if (pt_cmpR op_notIn_seq (pv 3) (pe_tup (pa_cons pe_str (pa_cons pe_str pa_nil))) (by rfl)) (pss_one (ps_ret pe_non)) pss_nil)
      (pss_cons (ps_set (i := 7) scDR.nd rfl (Or.inl rfl) (pe_call GL (hr.mono (by decide)) rfl gL kL bL .nil pass0 (pa_cons (pv 5) (pa_cons (pv 0) (pa_cons (pv 1) pa_nil)))))
      (pss_one (ps_ret (pe_ifExp (pt_cmpR op_isN (pv 7) pe_non (nomark _)) pe_non (pe_tup (pa_cons (pv 3) (pa_cons (pe_make (E := fun _ _ _ => False) MK.mkk MK.ok (hr.mono (by decide)) rfl Y.gC MK.b .nil passF (pa_cons (pv 0) (pa_cons (pv 1) (pa_cons (pv 1) (pa_cons (pv 7) pa_nil))))) pa_nil)))))))))), ?_⟩
    obtain ⟨p, w, v, rfl, hp, w1, w3, h⟩ := h
    have h8 : (200000 : Nat) ≤ sizeLine := by decide
    have p97 := prime_small hp
    have p2 := (p_pos hp).1
    rcases h with ⟨t, rfl, ht, k⟩ | ⟨n, t, hn, nt, k⟩
    case inr =>
      refine ⟨_, rfl, v, .ty "str", .type n, .type "str", _, rfl, .ty _, t, kit_ty (kk_str n hn), _, rfl, ?_⟩
      rw [decide_eq_false nt]
      exact iteT k
    refine ⟨_, rfl, _, .ty "str", .type "str", .type "str", true, rfl, .ty _, .base (.str _), kit_ty (kk_str "str" (by decide)), _, rfl, iteF ?_⟩
    obtain ⟨x, ep⟩ := part_S t
    refine ⟨_, rfl, ⟨_, rfl⟩, S t, S [32], rfl, rfl, rfl, by rw [S_len]; omega, fun q hq => ?_⟩
    rw [ep]
    obtain ⟨⟨a, b⟩, eab⟩ : ∃ ab, parted t = ab := ⟨_, rfl⟩
    have lb := part_len t
    rw [eab] at lb ⊢
    have lb : b.length ≤ t.length := lb
    have S1 : Same H (upd H q (.tup [.str (S a), .str x, .str (S b)])) := (Same.refl _).new hq
    have er : readL p w t = if a = wTake then (numB 1000000000 b).map .take else if a = wPut then (linesOf p w b).map .put else if a = wTurn then (linesOf p w b).map .turn else none := by
      unfold readL
      rw [eab]
    refine ⟨q, _, rfl, SqT.of upd_same, rfl, _, _, rfl, _, _, rfl, _, _, rfl, rfl, ?_⟩
    generalize upd H q (.tup [.str (S a), .str x, .str (S b)]) = H1 at S1 ⊢
    have ew : decide (V.str (S a) = V.str "take") = decide (a = wTake) := decide_eq_decide.mpr ⟨fun z => S_inj (show S a = S wTake from V.str.inj z), fun z => by rw [z]; rfl⟩
    refine ⟨_, rfl, rfl, _, rfl, ?_⟩
    rw [ew]
    by_cases h1 : a = wTake
    · rw [if_pos h1] at er
      rw [decide_eq_true h1]
      refine iteT ⟨_, rfl, b, 1000000000, rfl, by omega, by decide, fun H2 S2 => ?_⟩
      have S12 := S1.trans S2
      cases hn : numB 1000000000 b with
      | none =>
        rw [hn] at er
        exact ⟨_, rfl, rfl, _, rfl, iteT (k _ H2 S12 (by rw [er]; exact rfl))⟩
      | some n =>
        rw [hn] at er
        refine ⟨_, rfl, rfl, _, rfl, iteF ⟨_, rfl, _, rfl, (show (2 : Nat) ≤ sizeLine by omega), fun l hl => k _ _ (S12.new hl) ?_⟩⟩
        rw [er]
        exact ⟨l, rfl, by rw [upd_same, h1]; rfl⟩
    · rw [if_neg h1] at er
      rw [decide_eq_false h1]
      refine iteF ⟨_, rfl, by decide, fun l hl => ?_⟩
      have S2 : Same H (upd H1 l (.tup [.str "put", .str "turn"])) := S1.new hl
      refine ⟨l, _, rfl, .inr (SqT.of upd_same), rfl, rfl, _, rfl, ?_⟩
      have ei : inV (.str (S a)) [.str "put", .str "turn"] = (decide (a = wPut) || decide (a = wTurn)) := by
        unfold inV
        have e1 : eqV (.str "put") (.str (S a)) = decide (a = wPut) := by
          show (Str.ofString "put" == S a) = _
          have z : (S wPut == S a) = decide (wPut = a) := S_beq_eq
          rw [show Str.ofString "put" = S wPut from rfl, z]
          exact decide_eq_decide.mpr ⟨Eq.symm, Eq.symm⟩
        have e2 : eqV (.str "turn") (.str (S a)) = decide (a = wTurn) := by
          show (Str.ofString "turn" == S a) = _
          have z : (S wTurn == S a) = decide (wTurn = a) := S_beq_eq
          rw [show Str.ofString "turn" = S wTurn from rfl, z]
          exact decide_eq_decide.mpr ⟨Eq.symm, Eq.symm⟩
        rw [List.any_cons, List.any_cons, List.any_nil, e1, e2, Bool.or_false]
      show if (!inV (.str (S a)) [.str "put", .str "turn"]) = true then _ else _
      rw [ei]
      generalize upd H1 l (.tup [.str "put", .str "turn"]) = H2 at S2 ⊢
      by_cases h2 : a = wPut ∨ a = wTurn
      · have eb : (decide (a = wPut) || decide (a = wTurn)) = true := by rw [Bool.or_eq_true, decide_eq_true_eq, decide_eq_true_eq]; exact h2
        rw [eb]
        refine iteF ⟨_, rfl, _, rfl, _, rfl, b, p, w, rfl, by omega, by omega, by omega, by omega, fun y H3 S3 hy => ?_⟩
        have S03 := S2.trans S3
        cases hn : linesOf p w b with
        | none =>
          rw [hn] at hy er
          cases (show y = .non from hy)
          refine ⟨_, rfl, rfl, _, rfl, iteT (k _ H3 S03 ?_)⟩
          have er : readL p w t = none := by rw [er]; simp
          rw [er]
          exact rfl
        | some ls =>
          rw [hn] at hy er
          obtain ⟨d, rfl, nd, td⟩ := hy
          obtain ⟨_, lo⟩ := linesOf_back hn
          have tb := intsT_ok (by omega) lo
          refine ⟨_, rfl, rfl, _, rfl, iteF ⟨_, rfl, _, rfl, _, rfl, _, rfl, _, rfl, fun x dx nx ndx ne => ?_⟩⟩
          refine make_t hp ⟨by omega, by omega⟩ ⟨by omega, by omega⟩ td.tab tb.rows nx ndx ne rfl fun H4 S4 tt => ?_
          rw [tb.mod] at tt
          refine ⟨rfl, (show (2 : Nat) ≤ sizeLine by omega), fun l hl => k _ _ ((S03.trans S4).new hl) ?_⟩
          have S5 : Same H4 (upd H4 l (.tup [.str (S a), .ref x])) := (Same.refl _).new hl
          rcases h2 with h2 | h2
          · rw [if_pos h2] at er
            rw [er]
            exact ⟨l, x, rfl, by rw [← h2]; exact upd_same, tt.same S5⟩
          · rw [if_neg (by rw [h2]; decide), if_pos h2] at er
            rw [er]
            exact ⟨l, x, rfl, by rw [← h2]; exact upd_same, tt.same S5⟩
      · have eb : (decide (a = wPut) || decide (a = wTurn)) = false := by
          rw [← Bool.not_eq_true, Bool.or_eq_true, decide_eq_true_eq, decide_eq_true_eq]
          exact h2
        rw [eb]
        refine iteT (k _ H2 S2 ?_)
        rw [if_neg fun z => h2 (.inl z), if_neg fun z => h2 (.inr z)] at er
        rw [er]
        exact rfl
end
end P2
end

section
set_option maxRecDepth 100000
set_option maxHeartbeats 4000000
namespace P2
open PySem PySem.Spec PyProof.Rows L2 ClX ZM SX K7
/-- what BadText is -/
structure Nt (K : PySem.W.Frag) (mg : Str → Option Value) (N : Addr) : Prop where
  gN : mg "BadText" = some (.ref N)
  oN : OexC K N
  pN : PySem.W.findIn K (.ref N) "at" = some none
abbrev sBT : Stmt := inClass (top 6) 0
/-- a text is refused, at its start -/
def BadX (X : Addr) (H : Hp) (E : XK) : Prop := ∀ d H', Same H H' → H d = none → H' d = some (.xd [("at", .int 0)]) → E (.ref X) (some d) H'
def spDeedOf (K : PySem.W.Frag) (bp C N X : Addr) : Sp := fun vs H Q E => ∃ u v x, vs = [u, v, x] ∧ PV K H u ∧ (isP u = false → E (.ref bp) none H) ∧ (isP u = true → PV K H v ∧ (inB v 1 3 = false → BadN N "wide" H E) ∧
  (inB v 1 3 = true → ∃ p w : Nat, u = .int (p : Nat) ∧ v = .int (w : Nat) ∧ ((∃ t, x = .str (S t) ∧ t.length ≤ 100000 ∧ (readL p w t = none → BadX X H E) ∧ ∀ d, readL p w t = some d → ∀ y H', Same H H' → DeedAt H' C p w y d → Q y H') ∨ ∃ n, TyX K H x (.type n) ∧ n ∈ kinds7 ∧ n ≠ "str" ∧ BadX X H E)))
theorem BadX.same {X : Addr} {H H' : Hp} {E : XK} (T : Same H H') (h : BadX X H E) : BadX X H' E := fun d H2 S2 nd hd => h d H2 (T.trans S2) (T.free nd) hd
section
variable {P : Program} {w : World} {K : PySem.W.Frag} {mg : Str → Option Value} {base : Heap} {bp C B M N D G : Addr}
theorem scBT : FnScope ["self", "at"] ["self", "at"] (defScope sBT) := ⟨rfl, rfl, rfl, by decide +kernel, rfl, by decide +kernel, by decide +kernel⟩
theorem ok_bt {f : Addr} {fd : FuncData} (F : Fun K "__init__" "BadText.__init__" sBT f fd) (X : Nt K mg G) : FnOk P w K mg base CX0 1 f fd ["self", "at"] (spErr "at" G) := by
  refine F.ok scBT (fun vs H Q E h => ?_) (fun cdv A outer s H vs Q E hr h => ?_)
  · obtain ⟨a, v, rfl, _⟩ := h
    rfl
  · obtain ⟨a, v, rfl, ha, k⟩ := h
    exact ⟨_, pss_one (ps_ost (pv 0) (pv 1)), _, rfl, _, rfl, a, _, rfl, X.oN, X.pN, .inl ⟨ha, fun dx h1 h2 => k dx h1 h2⟩⟩
abbrev NDX : List Str := ["prime", "wide", "text", "deed"]
theorem scDX : FnScope NDX ["prime", "wide", "text"] (defScope (top 34)) := ⟨rfl, rfl, rfl, by decide +kernel, rfl, by decide +kernel, by decide +kernel⟩
theorem ok_deedof {f fP fW fR fN fX : Addr} {fd dP dW dR dN dX : FuncData} (F : Fun K "deed_of_text" "deed_of_text" (top 34) f fd) (T : Tx K mg bp) (Z : Ex K mg D) (XN : Nx K mg N) (XT : Nt K mg G)
    (GP : FnOk P w K mg base (L2.CX P w) 3 fP dP ["prime"] (spCheckPrime K bp)) (kP : PySem.W.keepIn K (.ref fP) = true) (bP : L2.Binds K dP ["prime"] []) (gP : mg "check_prime" = some (.ref fP))
    (GW : FnOk P w K mg base CX0 2 fW dW ["thing", "least", "most"] (spWithin K)) (kW : PySem.W.keepIn K (.ref fW) = true) (bW : L2.Binds K dW ["thing", "least", "most"] []) (gW : mg "is_within" = some (.ref fW))
    (GR : FnOk P w K mg base CX0 8 fR dR ["prime", "wide", "text"] (spDeedRead K C)) (kR : PySem.W.keepIn K (.ref fR) = true) (bR : L2.Binds K dR ["prime", "wide", "text"] []) (gR : mg "deed_read" = some (.ref fR))
    (GN : FnOk P w K mg base CX0 1 fN dN ["self", "part"] (spErr "part" N)) (bN : L2.Binds K dN ["self", "part"] []) (iN : PySem.W.findIn K (.ref N) "__init__" = some (some (.ref fN))) (tN : PySem.W.typeIn K (.ref fN) = some (.type "function"))
    (GX : FnOk P w K mg base CX0 1 fX dX ["self", "at"] (spErr "at" G)) (bX : L2.Binds K dX ["self", "at"] []) (iX : PySem.W.findIn K (.ref G) "__init__" = some (some (.ref fX))) (tX : PySem.W.typeIn K (.ref fX) = some (.type "function")) :
    FnOk P w K mg base (L2.CX P w) 9 f fd ["prime", "wide", "text"] (spDeedOf K bp C N G) := by
  obtain ⟨tw, hw⟩ := Z.mw
  refine okX F scDX (fun vs H Q E h => ?_) (fun cdv A outer s H vs Q E hr h => ?_)
  · obtain ⟨u, v, x, rfl, _⟩ := h
    rfl
  · have r2 : Room 2 _ := hr.mono (by decide)
    refine ⟨_, pss_cons (ps_expr (pe_call (E := E) GP (hr.mono (by decide)) rfl gP kP bP .nil (passes_call (takes_of rfl rfl rfl rfl) fun _ _ _ _ h => h) (pa_cons (pv 0) pa_nil)))
      (pss_cons (ps_if (pt_not (pt_val (pe_call GW r2 rfl gW kW bW .nil pass0 (pa_cons (pv 1) (pa_cons pe_int (pa_cons (pe_glob (v := .int 3) (by rfl) hw ⟨tw, rfl⟩) pa_nil))))))
        (pss_one (ps_raise rfl (takes_of rfl rfl rfl rfl) (pmk_oex (dvs := []) XN.oN iN tN GN r2 bN .nil pass0 rfl XN.gN (pa_cons pe_str pa_nil)))) pss_nil)
      (pss_cons (ps_set (i := 3) scDX.nd rfl (Or.inl rfl) (pe_call GR hr rfl gR kR bR .nil pass0 (pa_cons (pv 0) (pa_cons (pv 1) (pa_cons (pv 2) pa_nil)))))
      (pss_cons (ps_if (pt_cmpR op_isN (pv 3) pe_non (nomark _))
        (pss_one (ps_raise rfl (takes_of rfl rfl rfl rfl) (pmk_oex (dvs := []) XT.oN iX tX GX r2 bX .nil pass0 rfl XT.gN (pa_cons pe_int pa_nil)))) pss_nil)
      (pss_one (ps_ret (pv 3)))))), ?_⟩
    obtain ⟨u, v, x, rfl, p1, k1, k2⟩ := h
    refine ⟨u, rfl, u, rfl, p1, fun hp => ?_, k1⟩
    obtain ⟨p2, k3, k4⟩ := k2 hp
    refine ⟨v, rfl, v, 1, 3, rfl, p2, _, rfl, ?_⟩
    cases hb : inB v 1 3 with
    | false => exact iteT ⟨by decide, fun y hn => err_left hn fun d3 H3 S3 nd hd => k3 hb d3 H3 S3 nd hd⟩
    | true =>
      refine iteF ?_
      obtain ⟨p, w, rfl, rfl, h⟩ := k4 hb
      have hp2 : (p : Int) ∈ primes := of_decide_eq_true hp
      have hb2 : (decide (1 ≤ (w : Int)) && decide ((w : Int) ≤ 3)) = true := hb
      rw [Bool.and_eq_true, decide_eq_true_eq, decide_eq_true_eq] at hb2
      refine ⟨_, rfl, _, rfl, _, rfl, p, w, x, rfl, hp2, by omega, by omega, ?_⟩
      rcases h with ⟨t, rfl, ht, q1, q2⟩ | ⟨n, t, hn, nt, k⟩
      · refine .inl ⟨t, rfl, ht, fun y H1 S1 hy => ?_⟩
        cases hr2 : readL p w t with
        | none =>
          rw [hr2] at hy
          cases (show y = .non from hy)
          refine ⟨_, rfl, rfl, _, rfl, iteT ⟨by decide, fun y hn => err_left hn fun d3 H3 S3 nd hd => (q1 hr2).same S1 d3 H3 S3 nd hd⟩⟩
        | some d =>
          rw [hr2] at hy
          have hy : DeedAt H1 C p w y d := hy
          obtain ⟨a, rfl⟩ : ∃ a, y = .ref a := by
            cases d with
            | take n => exact let ⟨a, e, _⟩ := hy; ⟨a, e⟩
            | put ls => exact let ⟨a, _, e, _⟩ := hy; ⟨a, e⟩
            | turn ls => exact let ⟨a, _, e, _⟩ := hy; ⟨a, e⟩
          exact ⟨_, rfl, rfl, _, rfl, iteF ⟨_, rfl, q2 d hr2 _ H1 S1 hy⟩⟩
      · refine .inr ⟨n, t, hn, nt, ?_⟩
        exact ⟨_, rfl, rfl, _, rfl, iteT ⟨by decide, fun y hn => err_left hn fun d3 H3 S3 nd hd => k d3 H3 S3 nd hd⟩⟩
end
end P2
end

section
set_option maxRecDepth 100000
set_option maxHeartbeats 2000000
namespace P2
open PySem L2 ClX ZM
section
variable {P : Program} {w : World} {K : PySem.W.Frag} {mg : Str → Option Value} {base : Heap} {bp C B : Addr}
def spBack : Sp := fun vs H Q _ => ∃ p x : Int, vs = [.int p, .int x] ∧ p ∈ primes ∧ 0 < x ∧ x < p ∧ ∀ (y : Int) H', Same H H' → 0 ≤ y → y < p → Q (.int y) H'
abbrev NBK : List Str := ["field", "number", "item"]
/-- what undoes x, from 1 on -/
def undL (p x : Int) (k : Nat) : List Int := ((List.range k).map fun i : Nat => (1 : Int) + (i : Int)).filter fun y => decide (y * x % p = 1)
theorem undL_snoc (p x : Int) (k : Nat) : undL p x (k + 1) = undL p x k ++ (if (1 + (k : Int)) * x % p = 1 then [1 + (k : Int)] else []) := by
  unfold undL
  rw [List.range_succ, List.map_append, List.filter_append]
  congr 1
  by_cases h : (1 + (k : Int)) * x % p = 1
  · simp [h]
  · simp [h]
theorem undL_len (p x : Int) (k : Nat) : (undL p x k).length ≤ k := by
  have := List.length_filter_le (fun y => decide (y * x % p = 1)) ((List.range k).map fun i : Nat => (1 : Int) + (i : Int))
  rwa [List.length_map, List.length_range] at this
/-- lists of ints in a list, each at its own place -/
structure GridAt (H : Hp) (a : Addr) (as : List Addr) (rs : List (List Int)) : Prop where
  a_ : H a = some (.lst (as.map V.ref))
  l : as.length = rs.length
  nd : as.Nodup
  na : a ∉ as
  at_ : ∀ (i : Nat) (b : Addr) (r : List Int), as[i]? = some b → rs[i]? = some r → H b = some (.lst (r.map V.int))
theorem GridAt.tab {H : Hp} {a : Addr} {as : List Addr} {rs : List (List Int)} (h : GridAt H a as rs) : TabAt K H a rs := TabAt.lst h.a_ h.l fun i b r h1 h2 => LineAt.lst (h.at_ i b r h1 h2)
theorem GridAt.same {H H' : Hp} {a : Addr} {as : List Addr} {rs : List (List Int)} (S : Same H H') (h : GridAt H a as rs) : GridAt H' a as rs := ⟨S _ _ h.a_, h.l, h.nd, h.na, fun i b r h1 h2 => S _ _ (h.at_ i b r h1 h2)⟩
end
end P2
end

section
set_option maxRecDepth 100000
set_option maxHeartbeats 2000000
namespace P2
open PySem L2 ClX ZM
section
variable {P : Program} {w : World} {K : PySem.W.Frag} {mg : Str → Option Value} {base : Heap} {bp C B : Addr}
def spUnit : Sp := fun vs H Q _ => ∃ n : Nat, vs = [.int (n : Int)] ∧ n ≤ 60 ∧ ∀ a as H', Same H H' → H a = none → (∀ b ∈ as, H b = none) → GridAt H' a as (unitT n) → Q (.ref a) H'
abbrev NUT : List Str := ["size", "k", "spot"]
theorem scUT : FnScope NUT ["size"] (defScope (top 41)) := ⟨rfl, rfl, rfl, by decide +kernel, rfl, by decide +kernel, by decide +kernel⟩
abbrev rInt1 : List V → Hp → VK → Prop := fun xs H Q => (∃ i, xs = [.int i] ∧ Q (.int i) H) ∨ ∃ k, xs = [.bl k] ∧ Q (.int (if k then 1 else 0)) H
end
end P2
end

section
set_option maxRecDepth 100000
set_option maxHeartbeats 2000000
namespace P2
open PySem L2 ClX ZM
/-- list(e) -/
def rListO (K : PySem.W.Frag) : List V → Hp → VK → Prop := fun xs H Q => ∃ p ys, xs = [.ref p] ∧ (SqL K H p ys ∨ SqT K H p ys) ∧ ∀ l, H l = none → Q (.ref l) (upd H l (.lst ys))
section
variable {P : Program} {w : World} {K : PySem.W.Frag} {mg : Str → Option Value} {base : Heap} {bp C B : Addr}
def spMadeTable (C : Addr) : Sp := fun vs H Q _ => ∃ (a : Addr) (p : Int) (n : Nat) (as : List Addr) (rs : List (List Int)), vs = [.int p, .ref a] ∧ p ∈ primes ∧ n ≤ 60 ∧ GridAt H a as rs ∧ rs.length = n ∧ (∀ r ∈ rs, r.length = n) ∧ GivesT C H p n n (modT p rs) Q
theorem scMT : FnScope ["field", "lines_here", "row"] ["field", "lines_here"] (defScope (top 43)) := ⟨rfl, rfl, rfl, by decide +kernel, rfl, by decide +kernel, by decide +kernel⟩
theorem ok_madetable {f fI : Addr} {fd dI : FuncData} (F : Fun K "_law_made_table" "_law_made_table" (top 43) f fd) (T : Tx K mg bp) (Y : Tb K mg C B) (MK : TMake P w K mg base C fI dI) : FnOk P w K mg base CX0 8 f fd ["field", "lines_here"] (spMadeTable C) := by
  refine F.ok scMT (fun vs H Q E h => ?_) (fun cdv A outer s H vs Q E hr h => ?_)
  · obtain ⟨a, p, n, as, rs, rfl, _⟩ := h
    rfl
  · refine ⟨_, pss_one (ps_ret (pe_make (E := fun _ _ _ => False) MK.mkk MK.ok (hr.mono (by decide)) rfl Y.gC MK.b .nil passF (pa_cons (pv 0) (pa_cons (pe_callB call_len_seq (by rfl) T.len PySem.boot_len (pa_cons (pv 1) pa_nil)) (pa_cons (pe_callB call_len_seq (by rfl) T.len PySem.boot_len (pa_cons (pv 1) pa_nil)) (pa_cons (pe_lc (own := [("row", 2)]) (g := gName 2) (tt := tYes) (te := tCB (rListO K) (tCons (tVar 2) tNil)) rfl scMT.nd (pi_seqB (pv 1)) (blkOk_by (own := [("row", 2)]) (N := ["field", "lines_here", "row"]) (sc := defScope (top 43)) (by decide +kernel))
        (fun _ _ _ _ _ => pg_name (i := 2) scMT.nd rfl (Or.inl rfl)) (fun _ _ _ _ _ => pts_nil) (fun _ _ _ _ _ => pe_callTy (T := "list") (r := rListO K) call_list_of (by rfl) T.list (by decide +kernel) (pa_cons (pv 2) pa_nil))) pa_nil)))))), ?_⟩
    obtain ⟨a, p, n, as, rs, rfl, hp, hn, hg, ln, hr2, k⟩ := h
    have q1 : SqB K false H a (as.map V.ref) := SqL.of hg.a_
    have la := hg.l
    refine ⟨_, rfl, _, rfl, a, _, rfl, .inl (SqL.of hg.a_), _, rfl, a, _, rfl, .inl (SqL.of hg.a_), _, rfl, false, a, as.map V.ref, rfl, q1, fun D1 hD1 => lc_it walk_seqB (fun i H' => Same H H' ∧ ∃ cs : List Addr, H' D1 = some (.lst (cs.map V.ref)) ∧ cs.length = i ∧ ObX D1 H' cs (fun j => .lst ((rs.getD j []).map V.int))) ⟨(Same.refl _).put hD1, [], upd_same, rfl, ObX.nil⟩ (fun i H' _ h => q1.same h.1) ?_ ?_⟩
    · rintro i v H1 H2 hi ⟨S1, cs, hL, lc, hcs⟩ ⟨rfl, hv⟩
      obtain ⟨b, hb, rfl⟩ := refs_at hv
      obtain ⟨r, hr0⟩ := some_at (l := rs) (i := i) (by have := (List.getElem?_eq_some_iff.mp hb).1; omega)
      have h2 := S1 _ _ (hg.at_ i b r hb hr0)
      refine ⟨rfl, _, rfl, b, _, rfl, .inl (SqL.of h2), fun t ht => ?_⟩
      have S3 : Same H2 (upd H2 t (.lst (r.map V.int))) := (Same.refl _).put ht
      have ne : t ≠ D1 := fun z => by rw [z, hL] at ht; cases ht
      refine ⟨_, S3 _ _ hL, ?_, (S1.trans S3).put hD1, cs ++ [t], ?_, ?_, hcs.snoc S3 lc ne ?_⟩
      · rw [List.length_map, lc]
        have := (List.getElem?_eq_some_iff.mp hr0).1
        exact small1000 (by omega)
      · rw [upd_same, List.map_append]
        rfl
      · rw [List.length_append, lc]
        rfl
      · rw [upd_same, List.getD_eq_getElem?_getD, hr0]
        rfl
    · rintro H1 ⟨S1, cs, hL, lc, hcs⟩
      rw [List.length_map] at lc
      have e1 : ((as.map V.ref).length : Nat) = n := by rw [List.length_map, la, ln]
      rw [e1]
      refine fun x dx nx ndx ne => ?_
      have hrb : rowsB rs n n = true := by
        unfold rowsB
        rw [Bool.and_eq_true, List.all_eq_true]
        exact ⟨decide_eq_true (by rw [ln]), fun r hr => decide_eq_true (by rw [hr2 r hr])⟩
      refine make_t hp ⟨by omega, by omega⟩ ⟨by omega, by omega⟩ (TabAt.lst hL (by rw [lc, la]) fun i b r h1 h2 => LineAt.lst (by
        have h5 := (hcs i b h1).2
        have e5 : rs.getD i [] = r := by rw [List.getD_eq_getElem?_getD, h2]; rfl
        have h6 : H1 b = some (.lst ((rs.getD i []).map V.int)) := h5
        rw [e5] at h6
        exact h6)) hrb nx ndx ne rfl fun H' S t => ?_
      exact ⟨rfl, k x H' (S1.trans S) (S1.free nx) t⟩
end
end P2
end

section
set_option maxRecDepth 100000
set_option maxHeartbeats 2000000
namespace P2
open PySem L2 ClX ZM
/-- c at j, 0 elsewhere -/
def spk (c : Int) (n j : Nat) : List Int := List.replicate j 0 ++ ([c] ++ List.replicate (n - j - 1) 0)
theorem getD_rep (k t : Nat) : (List.replicate k (0 : Int)).getD t 0 = 0 := by
  rw [List.getD_eq_getElem?_getD, List.getElem?_replicate]
  split <;> rfl
theorem spk_at (c : Int) (n j t : Nat) : (spk c n j).getD t 0 = if t = j then c else 0 := by
  unfold spk
  rw [List.getD_eq_getElem?_getD]
  rcases Nat.lt_trichotomy t j with h | h | h
  · rw [List.getElem?_append_left (by rw [List.length_replicate]; exact h), ← List.getD_eq_getElem?_getD, getD_rep, if_neg (by omega)]
  · subst h
    rw [List.getElem?_append_right (by rw [List.length_replicate]; exact Nat.le_refl _), List.length_replicate, Nat.sub_self, if_pos rfl]
    rfl
  · rw [List.getElem?_append_right (by rw [List.length_replicate]; omega), List.length_replicate, if_neg (by omega)]
    obtain ⟨m, hm⟩ : ∃ m, t - j = m + 1 := ⟨t - j - 1, by omega⟩
    rw [hm]
    show (List.replicate (n - j - 1) (0 : Int))[m]?.getD 0 = 0
    rw [← List.getD_eq_getElem?_getD, getD_rep]
theorem uRow_spk (n i : Nat) : uRow n i = spk 1 n i := rfl
theorem unitT_at {n i : Nat} (h : i < n) : (unitT n)[i]? = some (uRow n i) := by
  unfold unitT
  rw [List.getElem?_map, List.getElem?_range h]
  rfl
theorem unitT_len (n : Nat) : (unitT n).length = n := by
  unfold unitT
  rw [List.length_map, List.length_range]
theorem ext_at {a b : List Int} {n : Nat} (ha : a.length = n) (hb : b.length = n) (h : ∀ t < n, a.getD t 0 = b.getD t 0) : a = b := by
  refine List.ext_getElem (by omega) fun t h1 h2 => ?_
  have := h t (by omega)
  rw [List.getD_eq_getElem?_getD, List.getD_eq_getElem?_getD, List.getElem?_eq_getElem h1, List.getElem?_eq_getElem h2] at this
  exact this
theorem uRow_is {n i : Nat} (h : i < n) : ((List.range n).map fun s : Nat => if decide ((i : Int) = (s : Int)) = true then (1 : Int) else 0) = uRow n i := by
  refine ext_at (n := n) (by rw [List.length_map, List.length_range]) (uRow_len h) fun t ht => ?_
  rw [List.getD_eq_getElem?_getD, List.getElem?_map, List.getElem?_range ht, uRow_spk, spk_at]
  show (if decide ((i : Int) = (t : Int)) = true then (1 : Int) else 0) = _
  by_cases z : t = i
  · rw [if_pos z, if_pos (decide_eq_true (by omega))]
  · rw [if_neg z, if_neg (by rw [decide_eq_false (by omega)]; exact Bool.false_ne_true)]
section
variable {P : Program} {w : World} {K : PySem.W.Frag} {mg : Str → Option Value} {base : Heap} {bp C B : Addr}
theorem ok_unit {f : Addr} {fd : FuncData} (F : Fun K "_law_unit" "_law_unit" (top 41) f fd) (T : Tx K mg bp) : FnOk P w K mg base CX0 1 f fd ["size"] spUnit := by
  refine F.ok scUT (fun vs H Q E h => ?_) (fun cdv A outer s H vs Q E hr h => ?_)
  · obtain ⟨n, rfl, _⟩ := h
    rfl
  · refine ⟨_, pss_one (ps_ret (pe_lc (own := [("k", 1)]) (g := gName 1) (tt := tYes) (te := tLc (iRng1 (tCons (tVar 0) tNil)) (gName 2) tYes (tCB rInt1 (tCons (tOp rEq (tVar 1) (tVar 2)) tNil)) [2]) rfl scUT.nd (pi_range1 rfl T.range (pa_cons (pv 0) pa_nil)) (blkOk_by (own := [("k", 1)]) (N := NUT) (sc := defScope (top 41)) (by decide +kernel))
        (fun _ _ _ _ _ => pg_name (i := 1) scUT.nd rfl (Or.inr rfl)) (fun _ _ _ _ _ => pts_nil) (fun _ _ _ _ _ => pe_lc (own := [("spot", 2)]) (g := gName 2) (tt := tYes) (te := tCB rInt1 (tCons (tOp rEq (tVar 1) (tVar 2)) tNil)) rfl scUT.nd (pi_range1 rfl T.range (pa_cons (pv 0) pa_nil)) (blkOk_by (own := [("spot", 2)]) (by rfl))
          (fun _ _ _ _ _ => pg_name (i := 2) scUT.nd rfl (Or.inl rfl)) (fun _ _ _ _ _ => pts_nil) (fun _ _ _ _ _ => pe_callTy (T := "int") (r := rInt1) call_int1 (by rfl) T.int (by decide +kernel) (pa_cons (pe_cmpR op_eq (pv 1) (pv 2) (nomark _)) pa_nil))))), ?_⟩
    obtain ⟨n, rfl, hn, k⟩ := h
    refine ⟨_, rfl, n, rfl, by omega, by omega, fun D1 hD1 => lc_it (walk_range (lo := 0) (n := n)) (fun i H' => Same H H' ∧ ∃ cs : List Addr, H' D1 = some (.lst (cs.map V.ref)) ∧ cs.length = i ∧ cs.Nodup ∧ (∀ c ∈ cs, H c = none) ∧ ObX D1 H' cs (fun j => .lst ((uRow n j).map V.int))) ⟨(Same.refl _).put hD1, [], upd_same, rfl, List.nodup_nil, (fun _ h => nomatch h), ObX.nil⟩ (fun _ _ _ _ => trivial) ?_ ?_⟩
    · rintro i v H1 H2 hi ⟨S1, cs, hL, lc, cnd, cnew, hcs⟩ ⟨rfl, hv⟩
      have hv2 : v = V.int (i : Int) := Eq.trans hv (congrArg V.int (show (0 : Int) + (i : Int) = (i : Int) by omega))
      subst hv2
      refine ⟨rfl, ?_⟩
      refine ⟨_, rfl, n, rfl, by omega, by omega, fun D2 hD2 => lc_it (walk_range (lo := 0) (n := n)) (fun j H' => Same H2 H' ∧ H' D2 = some (.lst (((List.range j).map fun s : Nat => if decide ((i : Int) = (s : Int)) = true then (1 : Int) else 0).map V.int))) ⟨(Same.refl _).put hD2, upd_same⟩ (fun _ _ _ _ => trivial) ?_ ?_⟩
      · rintro j v H3 H4 hj ⟨S3, hL3⟩ ⟨rfl, hv⟩
        have hv3 : v = V.int (j : Int) := Eq.trans hv (congrArg V.int (show (0 : Int) + (j : Int) = (j : Int) by omega))
        subst hv3
        have e1 : decide (V.int (i : Int) = V.int (j : Int)) = decide ((i : Int) = (j : Int)) := decide_eq_decide.mpr ⟨fun z => V.int.inj z, fun z => by rw [z]⟩
        refine ⟨rfl, _, rfl, _, rfl, rfl, .inr ⟨_, rfl, _, hL3, ?_, S3.put hD2, ?_⟩⟩
        · rw [List.length_map, List.length_map, List.length_range]
          exact small1000 (by omega)
        · rw [upd_same, List.range_succ, List.map_append, List.map_append, e1]
          rfl
      · rintro H3 ⟨S3, hL3⟩
        rw [uRow_is hi] at hL3
        have ne : D2 ≠ D1 := fun z => by rw [z, hL] at hD2; cases hD2
        refine ⟨_, S3 _ _ hL, ?_, (S1.trans S3).put hD1, cs ++ [D2], ?_, ?_, ?_, fun c hc => ?_, hcs.snoc S3 lc ne hL3⟩
        · rw [List.length_map, lc]
          exact small1000 (by omega)
        · rw [upd_same, List.map_append]
          rfl
        · rw [List.length_append, lc]
          rfl
        · refine List.nodup_append.mpr ⟨cnd, by simp, fun x hx y hy e => ?_⟩
          have hy2 : y = D2 := List.mem_singleton.mp hy
          obtain ⟨j, hj⟩ := List.mem_iff_getElem?.mp hx
          have := (hcs j x hj).2
          rw [e, hy2, hD2] at this
          cases this
        · rcases List.mem_append.mp hc with h | h
          · exact cnew c h
          · rw [List.mem_singleton.mp h]
            exact S1.free hD2
    · rintro H1 ⟨S1, cs, hL, lc, cnd, cnew, hcs⟩
      refine k D1 cs H1 S1 hD1 cnew ⟨hL, by rw [lc, unitT_len], cnd, fun hm => ?_, fun i b r hb hr2 => ?_⟩
      · obtain ⟨j, hj⟩ := List.mem_iff_getElem?.mp hm
        exact (hcs j D1 hj).1 rfl
      · have hi : i < n := by have := (List.getElem?_eq_some_iff.mp hb).1; omega
        rw [unitT_at hi] at hr2
        obtain rfl := Option.some.inj hr2
        exact (hcs i b hb).2
end
end P2
end

section
set_option maxRecDepth 100000
set_option maxHeartbeats 4000000
namespace P2
open PySem PySem.Spec PyProof.Rows L2 ClX ZM SX K7
/-- a move as it is drawn -/
def MoveAt (H : Hp) (v : V) : Deed → Prop
  | .take n => ∃ a, v = .ref a ∧ H a = some (.tup [.str (S wTake), .int (n : Nat)])
  | .put ls => ∃ a g as, v = .ref a ∧ H a = some (.tup [.str (S wPut), .ref g]) ∧ GridAt H g as (intsT ls)
  | .turn ls => ∃ a g as, v = .ref a ∧ H a = some (.tup [.str (S wTurn), .ref g]) ∧ GridAt H g as (intsT ls)
theorem MoveAt.same {H H' : Hp} {v : V} {d : Deed} (T : Same H H') (h : MoveAt H v d) : MoveAt H' v d := by
  cases d with
  | take n => exact let ⟨a, e, h⟩ := h; ⟨a, e, T _ _ h⟩
  | put ls => exact let ⟨a, c, as, e, h, t⟩ := h; ⟨a, c, as, e, T _ _ h, t.same T⟩
  | turn ls => exact let ⟨a, c, as, e, h, t⟩ := h; ⟨a, c, as, e, T _ _ h, t.same T⟩
def spLineOf : Sp := fun vs H Q _ => ∃ (a : Addr) (as : List Addr) (ls : List (List Nat)), vs = [.ref a] ∧ GridAt H a as (intsT ls) ∧ ls.length ≤ 60 ∧ (∀ l ∈ ls, l.length ≤ 60 ∧ ∀ n ∈ l, n ≤ 1000000000) ∧ ∀ H', Same H H' → Q (.str (S (linesL ls))) H'
def spMoveLine : Sp := fun vs H Q _ => ∃ (p w : Nat) (v : V) (d : Deed), vs = [v] ∧ MoveAt H v d ∧ DeedOk p w d ∧ w ≤ 3 ∧ p ≤ 100 ∧ ∀ H', Same H H' → Q (.str (S (deedL d))) H'
def spMadeDeed (C : Addr) : Sp := fun vs H Q _ => ∃ (p w : Nat) (v : V) (d : Deed), vs = [.int (p : Nat), v] ∧ (p : Int) ∈ primes ∧ MoveAt H v d ∧ DeedOk p w d ∧ w ≤ 3 ∧ ∀ y H', Same H H' → DeedAt H' C p w y d → Q y H'
section
variable {P : Program} {w : World} {K : PySem.W.Frag} {mg : Str → Option Value} {base : Heap} {bp C B M N D : Addr}
abbrev NLF : List Str := ["lines_here", "row", "item"]
theorem scLF : FnScope NLF ["lines_here"] (defScope (top 45)) := ⟨rfl, rfl, rfl, by decide +kernel, rfl, by decide +kernel, by decide +kernel⟩
abbrev tItem : TE := tCB (fun xs H Q => ∃ i, xs = [.int i] ∧ i.natAbs.log2 < 1920 ∧ Q (.str (toString i)) H) (tCons (tVar 2) tNil)
theorem ok_lineof {f : Addr} {fd : FuncData} (F : Fun K "_law_line_of" "_law_line_of" (top 45) f fd) (X : Sx mg) : FnOk P w K mg base CX0 1 f fd ["lines_here"] spLineOf := by
  refine F.ok scLF (fun vs H Q E h => ?_) (fun cdv A outer s H vs Q E hr h => ?_)
  · obtain ⟨a, as, ls, rfl, _⟩ := h
    rfl
  · refine ⟨_, pss_one (ps_ret (pe_join pe_str (pe_lc (own := [("row", 1)]) (g := gName 1) (tt := tYes) (te := tM1 (fun x xs H Q => ∃ a p, ∃ ys : List Str, x = .str a ∧ xs = [.ref p] ∧ (SqL K H p (ys.map V.str) ∨ SqT K H p (ys.map V.str)) ∧
      (ys.map (·.length)).sum + ys.length * a.length ≤ 16777216 ∧ Q (.str (Txt.join a ys)) H) (tC (.str " ")) (tLc (iSeqB K (tVar 1)) (gName 2) tYes (tCB (fun xs H Q => ∃ i, xs = [.int i] ∧ i.natAbs.log2 < 1920 ∧ Q (.str (toString i)) H) (tCons (tVar 2) tNil)) [2])) rfl scLF.nd (pi_seqB (pv 0)) (blkOk_by (own := [("row", 1)]) (N := NLF) (sc := defScope (top 45)) (by decide +kernel))
            (fun _ _ _ _ _ => pg_name (i := 1) scLF.nd rfl (Or.inl rfl)) (fun _ _ _ _ _ => pts_nil) (fun _ _ _ _ _ => pe_join pe_str (pe_lc (own := [("item", 2)]) (g := gName 2) (tt := tYes) rfl scLF.nd (pi_seqB (pv 1)) (blkOk_by (own := [("item", 2)]) (by rfl))
            (fun _ _ _ _ _ => pg_name (i := 2) scLF.nd rfl (Or.inl rfl)) (fun _ _ _ _ _ => pts_nil) (fun _ _ _ _ _ => pe_callTy call_str_int (by rfl) X.str (by decide +kernel) (pa_cons (pv 2) pa_nil))))))), ?_⟩
    obtain ⟨a, as, ls, rfl, hg, hn, hm, k⟩ := h
    have hla : as.length = ls.length := by rw [hg.l, intsT_len]
    have q1 : SqB K false H a (as.map V.ref) := SqL.of hg.a_
    refine ⟨⟨_, rfl⟩, _, rfl, false, a, _, rfl, q1, fun D1 hD1 => lc_it walk_seqB (fun i H' => Same H H' ∧ H' D1 = some (.lst (((ls.take i).map fun l => S (numsL l)).map V.str))) ⟨(Same.refl _).put hD1, upd_same⟩ (fun i H' _ h => q1.same h.1) ?_ ?_⟩
    · rintro i v H2 H3 hi ⟨S2, hL⟩ ⟨rfl, hv⟩
      rw [List.length_map] at hi
      obtain ⟨b, hb, rfl⟩ := refs_at hv
      obtain ⟨ns, hl0⟩ := some_at (l := ls) (i := i) (by omega)
      have hr0 : (intsT ls)[i]? = some (ns.map fun n : Nat => (n : Int)) := by
        unfold intsT
        rw [List.getElem?_map, hl0]
        rfl
      have hB := S2 _ _ (hg.at_ i b _ hb hr0)
      have em : ((ns.map fun n : Nat => (n : Int)).map V.int) = ns.map fun n => V.int (n : Nat) := by rw [List.map_map]; rfl
      rw [em] at hB
      obtain ⟨m1, m2⟩ := hm ns (List.mem_of_getElem? hl0)
      have hq : SqB K false H3 b (ns.map fun n => V.int (n : Nat)) := SqL.of hB
      refine ⟨rfl, ⟨_, rfl⟩, _, rfl, false, b, _, rfl, hq, fun D2 hD2 => lc_it walk_seqB (fun i H' => Same H3 H' ∧ H' D2 = some (.lst (((ns.take i).map fun n => S (TL.numL n)).map V.str))) ⟨(Same.refl _).put hD2, upd_same⟩ (fun i H' _ h => hq.same h.1) ?_ ?_⟩
      · rintro i v H2x H2 hi ⟨S4, hL4⟩ ⟨rfl, hv⟩
        obtain ⟨n, hn0, rfl⟩ : ∃ n, ns[i]? = some n ∧ v = .int (n : Nat) := by
          rw [List.getElem?_map] at hv
          obtain ⟨wd, h1, h2⟩ := Option.map_eq_some_iff.mp hv
          exact ⟨wd, h1, h2.symm⟩
        refine ⟨rfl, _, rfl, n, rfl, log_small (m2 n (List.mem_of_getElem? hn0)), _, hL4, ?_, S4.put hD2, ?_⟩
        · rw [List.length_map, List.length_map, List.length_take]
          exact small1000 (by omega)
        · rw [upd_same, List.take_succ, hn0, List.map_append, List.map_append, tos_nat]
          rfl
      · rintro H4 ⟨S4, hL4⟩
        rw [List.length_map, List.take_length] at hL4
        have e0 : (ns.map fun n => S (TL.numL n)) = (ns.map TL.numL).map S := by rw [List.map_map]; rfl
        rw [e0] at hL4
        refine ⟨S [32], D2, (ns.map TL.numL).map S, rfl, rfl, .inl (SqL.of hL4), ?_, ?_⟩
        · have z := sum_S (B := 10) (ps := ns.map TL.numL) fun p hp => by
            obtain ⟨n, hn, rfl⟩ := List.mem_map.mp hp
            exact numL_small (m2 n hn)
          rw [List.length_map] at z
          rw [List.length_map, List.length_map]
          have e1 : (S [32]).length = 1 := rfl
          rw [e1]
          omega
        · rw [join_S]
          refine ⟨_, S4 _ _ hL, ?_, (S2.trans S4).put hD1, ?_⟩
          · rw [List.length_map, List.length_map, List.length_take]
            exact small1000 (by omega)
          · rw [upd_same, List.take_succ, hl0, List.map_append, List.map_append]
            rfl
    · rintro H2 ⟨S2, hL⟩
      rw [List.length_map, hla, List.take_length] at hL
      have e0 : (ls.map fun n => S (numsL n)) = (ls.map numsL).map S := by rw [List.map_map]; rfl
      rw [e0] at hL
      refine ⟨S [32, 47, 32], D1, (ls.map numsL).map S, rfl, rfl, .inl (SqL.of hL), ?_, ?_⟩
      · have z := sum_S (B := 660) (ps := ls.map numsL) fun p hp => by
          obtain ⟨l, hl, rfl⟩ := List.mem_map.mp hp
          have := numsL_len (hm l hl).2
          have := (hm l hl).1
          omega
        rw [List.length_map] at z
        rw [List.length_map, List.length_map]
        have e1 : (S [32, 47, 32]).length = 3 := rfl
        rw [e1]
        omega
      · rw [join_S]
        exact k H2 S2
end
end P2
end

section
set_option maxRecDepth 100000
set_option maxHeartbeats 4000000
namespace P2
open PySem PySem.Spec PyProof.Rows L2 ClX ZM SX K7
theorem ok_tab3 {p w : Nat} {ls : List (List Nat)} (hw : w ≤ 3) (hp : p ≤ 100) (h : ls.length = w ∧ ∀ l ∈ ls, l.length = w ∧ ∀ n ∈ l, n ≤ p - 1) : ls.length ≤ 3 ∧ ∀ l ∈ ls, l.length ≤ 3 ∧ ∀ n ∈ l, n ≤ 1000000000 :=
  ⟨by omega, fun l hl => ⟨by have := (h.2 l hl).1; omega, fun n hn => by have := (h.2 l hl).2 n hn; omega⟩⟩
section
variable {P : Program} {w : World} {K : PySem.W.Frag} {mg : Str → Option Value} {base : Heap} {bp C B M N D : Addr}
abbrev NML : List Str := ["move_here", "word", "thing"]
theorem scML : FnScope NML ["move_here"] (defScope (top 47)) := ⟨rfl, rfl, rfl, by decide +kernel, rfl, by decide +kernel, by decide +kernel⟩
theorem ok_moveline {f fL : Addr} {fd dL : FuncData} (F : Fun K "_law_move_line" "_law_move_line" (top 47) f fd) (X : Sx mg)
    (GL : FnOk P w K mg base CX0 1 fL dL ["lines_here"] spLineOf) (kL : PySem.W.keepIn K (.ref fL) = true) (bL : L2.Binds K dL ["lines_here"] []) (gL : mg "_law_line_of" = some (.ref fL)) :
    FnOk P w K mg base CX0 2 f fd ["move_here"] spMoveLine := by
  refine F.ok scML (fun vs H Q E h => ?_) (fun cdv A outer s H vs Q E hr h => ?_)
  · obtain ⟨p, w, v, d, rfl, _⟩ := h
    rfl
  · refine ⟨_, pss_cons (ps_asg (pv 0) (pg_tup rfl (pgs_cons (pg_name (i := 1) scML.nd rfl (Or.inl rfl)) (pgs_cons (pg_name (i := 2) scML.nd rfl (Or.inl rfl)) pgs_nil))))
      (pss_one (ps_ret (pe_op op_add_str (pe_op op_add_str (pv 1) pe_str) (pe_ifExp (pt_cmpR op_eq (pv 1) pe_str (nomark _)) (pe_callTy call_str_int (by rfl) X.str (by decide +kernel) (pa_cons (pv 2) pa_nil)) (pe_call GL hr rfl gL kL bL .nil pass0 (pa_cons (pv 2) pa_nil)))))), ?_⟩
    obtain ⟨p, w, v, d, rfl, hm, ok, w3, hp, k⟩ := h
    have h8 : (200000 : Nat) ≤ sizeLine := by decide
    have cs : (∃ a n, v = .ref a ∧ H a = some (.tup [.str (S wTake), .int ((n : Nat) : Int)]) ∧ n ≤ 1000000000 ∧ ∀ H', Same H H' → Q (.str (S (wTake ++ ([32] ++ TL.numL n)))) H') ∨
        ∃ a g as z ls, v = .ref a ∧ (z = wPut ∨ z = wTurn) ∧ H a = some (.tup [.str (S z), .ref g]) ∧ GridAt H g as (intsT ls) ∧ (ls.length ≤ 3 ∧ ∀ l ∈ ls, l.length ≤ 3 ∧ ∀ n ∈ l, n ≤ 1000000000) ∧ ∀ H', Same H H' → Q (.str (S (z ++ ([32] ++ linesL ls)))) H' := by
      cases d with
      | take n => exact .inl (let ⟨a, e, ha⟩ := hm; ⟨a, n, e, ha, ok, k⟩)
      | put ls => exact .inr (let ⟨a, g, as, e, ha, hg⟩ := hm; ⟨a, g, as, wPut, ls, e, .inl rfl, ha, hg, ok_tab3 w3 hp ok, k⟩)
      | turn ls => exact .inr (let ⟨a, g, as, e, ha, hg⟩ := hm; ⟨a, g, as, wTurn, ls, e, .inr rfl, ha, hg, ok_tab3 w3 hp ok, k⟩)
    clear hm
    rcases cs with ⟨a, n, rfl, ha, hn, k⟩ | ⟨a, g, as, z, ls, rfl, hz, ha, hg, ⟨l3, hl⟩, k⟩
    · have l10 := numL_small hn
      refine ⟨_, rfl, a, _, rfl, SqT.of ha, rfl, _, _, rfl, _, _, rfl, rfl, ?_⟩
      refine ⟨_, rfl, S wTake, S [32], rfl, rfl, by rw [S_len, S_len]; show 4 + 1 ≤ _; omega, ?_⟩
      refine ⟨_, rfl, rfl, _, rfl, ite2 (fun _ => ?_) fun z => absurd (by decide +kernel) z⟩
      refine ⟨_, rfl, n, rfl, log_small hn, S wTake ++ S [32], _, rfl, rfl, ?_, ?_⟩
      · rw [tos_nat, S_cat, S_len, S_len, List.length_append]
        show 4 + 1 + _ ≤ _
        omega
      · rw [tos_nat, S_cat, S_cat, List.append_assoc]
        exact k H (Same.refl _)
    · have ew : decide (V.str (S z) = V.str "take") = false := by rcases hz with rfl | rfl <;> decide +kernel
      have lz : z.length ≤ 4 := by rcases hz with rfl | rfl <;> decide
      have ll := linesL_len (w := 3) hl
      refine ⟨_, rfl, a, _, rfl, SqT.of ha, rfl, _, _, rfl, _, _, rfl, rfl, ?_⟩
      refine ⟨_, rfl, S z, S [32], rfl, rfl, by rw [S_len, S_len]; show _ + 1 ≤ _; omega, ?_⟩
      refine ⟨_, rfl, rfl, _, rfl, ?_⟩
      rw [ew]
      refine iteF ⟨_, rfl, g, as, ls, rfl, hg, by omega, fun l h => ⟨by have := (hl l h).1; omega, (hl l h).2⟩, fun H2 S2 => ⟨S z ++ S [32], _, rfl, rfl, ?_, ?_⟩⟩
      · rw [S_cat, S_len, S_len, List.length_append]
        show _ + 1 + _ ≤ _
        omega
      · rw [S_cat, S_cat, List.append_assoc]
        exact k H2 S2
abbrev NMD : List Str := ["field", "move_here", "word", "thing"]
theorem scMD : FnScope NMD ["field", "move_here"] (defScope (top 46)) := ⟨rfl, rfl, rfl, by decide +kernel, rfl, by decide +kernel, by decide +kernel⟩
theorem ok_madedeed {f fM : Addr} {fd dM : FuncData} (F : Fun K "_law_made_deed" "_law_made_deed" (top 46) f fd)
    (GM : FnOk P w K mg base CX0 8 fM dM ["field", "lines_here"] (spMadeTable C)) (kM : PySem.W.keepIn K (.ref fM) = true) (bM : L2.Binds K dM ["field", "lines_here"] []) (gM : mg "_law_made_table" = some (.ref fM)) :
    FnOk P w K mg base CX0 9 f fd ["field", "move_here"] (spMadeDeed C) := by
  refine F.ok scMD (fun vs H Q E h => ?_) (fun cdv A outer s H vs Q E hr h => ?_)
  · obtain ⟨p, w, v, d, rfl, _⟩ := h
    rfl
  · refine ⟨_, pss_cons (ps_asg (pv 1) (pg_tup rfl (pgs_cons (pg_name (i := 2) scMD.nd rfl (Or.inl rfl)) (pgs_cons (pg_name (i := 3) scMD.nd rfl (Or.inl rfl)) pgs_nil))))
      (pss_one (ps_ret (pe_tup (pa_cons (pv 2) (pa_cons (pe_ifExp (pt_cmpR op_eq (pv 2) pe_str (nomark _)) (pv 3) (pe_call GM hr rfl gM kM bM .nil pass0 (pa_cons (pv 0) (pa_cons (pv 3) pa_nil)))) pa_nil))))), ?_⟩
    obtain ⟨p, w, v, d, rfl, hp, hm, ok, w3, k⟩ := h
    have h8 : (200000 : Nat) ≤ sizeLine := by decide
    have p2 := (p_pos hp).1
    have p97 := prime_small hp
    have cs : (∃ a n, v = .ref a ∧ H a = some (.tup [.str (S wTake), .int ((n : Nat) : Int)]) ∧ ∀ y a' H', Same H H' → y = .ref a' → H' a' = some (.tup [.str (S wTake), .int ((n : Nat) : Int)]) → Q y H') ∨
        ∃ a g as z ls, v = .ref a ∧ (z = wPut ∨ z = wTurn) ∧ H a = some (.tup [.str (S z), .ref g]) ∧ GridAt H g as (intsT ls) ∧ (ls.length = w ∧ ∀ l ∈ ls, l.length = w ∧ ∀ n ∈ l, n ≤ p - 1) ∧ ∀ y a' c H', Same H H' → y = .ref a' → H' a' = some (.tup [.str (S z), .ref c]) → TableAt H' C c p w w (intsT ls) → Q y H' := by
      cases d with
      | take n => exact .inl (let ⟨a, e, ha⟩ := hm; ⟨a, n, e, ha, fun y a' H' S' e h => k y H' S' ⟨a', e, h⟩⟩)
      | put ls => exact .inr (let ⟨a, g, as, e, ha, hg⟩ := hm; ⟨a, g, as, wPut, ls, e, .inl rfl, ha, hg, ok, fun y a' c H' S' e h t => k y H' S' ⟨a', c, e, h, t⟩⟩)
      | turn ls => exact .inr (let ⟨a, g, as, e, ha, hg⟩ := hm; ⟨a, g, as, wTurn, ls, e, .inr rfl, ha, hg, ok, fun y a' c H' S' e h t => k y H' S' ⟨a', c, e, h, t⟩⟩)
    clear hm
    rcases cs with ⟨a, n, rfl, ha, k⟩ | ⟨a, g, as, z, ls, rfl, hz, ha, hg, ok, k⟩
    · refine ⟨_, rfl, a, _, rfl, SqT.of ha, rfl, _, _, rfl, _, _, rfl, rfl, ?_⟩
      refine ⟨_, rfl, _, rfl, rfl, _, rfl, ite2 (fun _ => ?_) fun z => absurd (by decide +kernel) z⟩
      exact ⟨_, rfl, (show (2 : Nat) ≤ sizeLine by omega), fun l hl => k _ l _ ((Same.refl _).new hl) rfl upd_same⟩
    · have ew : decide (V.str (S z) = V.str "take") = false := by rcases hz with rfl | rfl <;> decide +kernel
      have tb := intsT_ok (by omega) ok
      refine ⟨_, rfl, a, _, rfl, SqT.of ha, rfl, _, _, rfl, _, _, rfl, rfl, ?_⟩
      refine ⟨_, rfl, _, rfl, rfl, _, rfl, ?_⟩
      rw [ew]
      refine iteF ⟨_, rfl, _, rfl, g, p, w, as, intsT ls, rfl, hp, by omega, hg, by rw [intsT_len, ok.1], fun r hr => (tb.row r hr).1, fun y H2 S2 ny ty => ?_⟩
      rw [tb.mod] at ty
      exact ⟨(show (2 : Nat) ≤ sizeLine by omega), fun l hl => k _ l y _ (S2.new hl) rfl upd_same (ty.same ((Same.refl _).new hl))⟩
end
end P2
end

section
set_option maxRecDepth 100000
set_option maxHeartbeats 4000000
namespace P2
open PySem PySem.Spec PyProof.Rows L2 ClX ZM SX K7
/-- one sign of a text -/
def spPickS : Sp := fun vs H Q _ => ∃ (d l c : Addr) (a : List Nat), vs = [.ref d, .str (S a)] ∧ 0 < a.length ∧ a.length < 1000 ∧ DrawAt H d l c ∧
  ∀ (ch : Nat) H', ch ∈ a → DrawAt H' d l c → Drawn d l H H' → Q (.str (S [ch])) H'
def spPickX (K : PySem.W.Frag) : Sp := fun vs H Q E => spPick K vs H Q E ∨ spPickS vs H Q E
/-- len of a list, a tuple or a text -/
abbrev rLenX (K : PySem.W.Frag) : List V → Hp → VK → Prop := fun xs H Q => (∃ p ys, xs = [.ref p] ∧ (SqL K H p ys ∨ SqT K H p ys) ∧ Q (.int ys.length) H) ∨ ∃ z, xs = [.str z] ∧ z.length ≤ sizeLine ∧ Q (.int z.length) H
theorem call_lenX {X : Cx} : CallR X (.builtin "len") (rLenX X.K) := fun pins s σ H xs us Q I r h => h.elim (fun h => call_len_seq pins s σ H xs us Q I r h) fun h => call_len_str pins s σ H xs us Q I r h
section
variable {P : Program} {w : World} {K : PySem.W.Frag} {mg : Str → Option Value} {base : Heap} {bp C B M N D : Addr}
theorem ok_pickX {f fT : Addr} {fd fdT : FuncData} (F : Fun K "_law_pick" "_law_pick" sPick f fd) (T : TxB mg) (GT : FnOk P w K mg base CX0 2 fT fdT ["draw", "amount"] spTake) (kT : PySem.W.keepIn K (.ref fT) = true) (bT : L2.Binds K fdT ["draw", "amount"] []) (gT : mg "_law_take" = some (.ref fT)) :
    FnOk P w K mg base CX0 3 f fd ["draw", "some"] (spPickX K) := by
  refine F.ok scP (fun vs H Q E h => ?_) (fun cdv A outer s H vs Q E hr h => ?_)
  · rcases h with h | h
    · obtain ⟨d, l, c, p, xs, rfl, _⟩ := h
      rfl
    · obtain ⟨d, l, c, a, rfl, _⟩ := h
      rfl
  · refine ⟨_, pss_one (ps_ret (pe_ix ix_seq (pv 1) (pe_call GT hr rfl gT kT bT .nil pass0 (pa_cons (pv 0) (pa_cons (pe_callB (r := rLenX K) call_lenX (by rfl) T.len PySem.boot_len (pa_cons (pv 1) pa_nil)) pa_nil))) (fun _ _ => rfl))), ?_⟩
    rcases h with h | h
    · obtain ⟨d, l, c, p, xs, rfl, hp, hpl, h0, h1, D, k⟩ := h
      obtain ⟨r, t, hd⟩ := D.hd
      have npd : p ≠ d := ne_of hp hd (by intro z; cases z)
      refine ⟨_, rfl, _, rfl, _, rfl, .inl ⟨p, _, rfl, .inl (SqL.of hp), d, l, c, _, rfl, by omega, by omega, D, fun v H' v0 v1 D' S' => ?_⟩⟩
      have hp' := S' _ _ hp npd hpl
      obtain ⟨j, hj⟩ : ∃ j : Nat, v = j := ⟨v.toNat, by omega⟩
      subst hj
      have hjl : j < xs.length := by omega
      exact .inl ⟨p, xs, _, xs[j], rfl, rfl, SqL.of hp', atI_nat (by simp [hjl]), k _ _ (List.getElem_mem _) D' S'⟩
    · obtain ⟨d, l, c, a, rfl, h0, h1, D, k⟩ := h
      have la : (S a).length = a.length := S_len a
      refine ⟨_, rfl, _, rfl, _, rfl, .inr ⟨_, rfl, by rw [la]; exact Nat.le_trans (Nat.le_of_lt h1) (by decide), d, l, c, _, rfl, by rw [la]; omega, by rw [la]; omega, D, fun v H' v0 v1 D' S' => ?_⟩⟩
      rw [la] at v1
      obtain ⟨j, hj⟩ : ∃ j : Nat, v = j := ⟨v.toNat, by omega⟩
      subst hj
      have hjl : j < a.length := by omega
      exact .inr (.inr ⟨S a, _, a[j], rfl, rfl, by rw [la]; exact Nat.le_trans (Nat.le_of_lt h1) (by decide), atI_nat (show (S a).cps.toList[j]? = some a[j] by simp [hjl]), k _ _ (List.getElem_mem _) D' S'⟩)
theorem pick_list {f : Addr} {fd : FuncData} {k : Nat} {ps : List Str} (F : FnOk P w K mg base CX0 k f fd ps (spPickX K)) : FnOk P w K mg base CX0 k f fd ps (spPick K) :=
  ⟨fun vs H Q E h => F.len vs H Q E (.inl h), fun A outer s H args us vs Q E hr e0 hb rv h => F.run A outer s H args us vs Q E hr e0 hb rv (.inl h)⟩
end
end P2
end

section
set_option maxRecDepth 100000
set_option maxHeartbeats 4000000
namespace P2
open PySem PySem.Spec PyProof.Rows L2 ClX ZM SX K7
theorem DrawAt.awy {H : Hp} {d l c x : Addr} (D : DrawAt H d l c) (h : H x = Option.none) : x ≠ d ∧ x ≠ l ∧ x ≠ c := by
  obtain ⟨r, t, hd⟩ := D.hd
  obtain ⟨ls, hl, _⟩ := D.hl
  obtain ⟨cs, hc, _⟩ := D.hc
  exact ⟨(fun z => by rw [z, hd] at h; cases h), (fun z => by rw [z, hl] at h; cases h), (fun z => by rw [z, hc] at h; cases h)⟩
theorem DrawAt.updN {H : Hp} {d l c x : Addr} {o : HO} (D : DrawAt H d l c) (n1 : x ≠ d) (n2 : x ≠ l) (n3 : x ≠ c) : DrawAt (upd H x o) d l c := by
  obtain ⟨r, t, hd⟩ := D.hd
  obtain ⟨ls, hl, hl2⟩ := D.hl
  obtain ⟨cs, hc, hc2⟩ := D.hc
  exact ⟨⟨r, t, by rw [upd_ne n1.symm]; exact hd⟩, ⟨ls, by rw [upd_ne n2.symm]; exact hl, hl2⟩, ⟨cs, by rw [upd_ne n3.symm]; exact hc, hc2⟩, D.ne⟩
def spAnyDeed : Sp := fun vs H Q _ => ∃ (d l c : Addr) (p w : Nat), vs = [.ref d, .int (p : Nat), .int (w : Nat)] ∧ DrawAt H d l c ∧ (p : Int) ∈ primes ∧ 1 ≤ w ∧ w ≤ 3 ∧
  ∀ y dd H', DeedOk p w dd → MoveAt H' y dd → DrawAt H' d l c → Drawn d l H H' → Q y H'
section
variable {P : Program} {w : World} {K : PySem.W.Frag} {mg : Str → Option Value} {base : Heap} {bp C B M N D : Addr}
abbrev NYD : List Str := ["draw", "field", "wide_here", "way", "lines_here", "k", "spot"]
theorem scYD : FnScope NYD ["draw", "field", "wide_here"] (defScope (top 48)) := ⟨rfl, rfl, rfl, by decide +kernel, rfl, by decide +kernel, by decide +kernel⟩
abbrev teYD : TE := tCall spTake [] E0 (tCons (tVar 0) (tCons (tVar 1) tNil))
theorem ok_anydeed {f fT fP : Addr} {fd dT dP : FuncData} (F : Fun K "_law_any_deed" "_law_any_deed" (top 48) f fd) (T : Tx K mg bp)
    (GT : FnOk P w K mg base CX0 2 fT dT ["draw", "amount"] spTake) (kT : PySem.W.keepIn K (.ref fT) = true) (bT : L2.Binds K dT ["draw", "amount"] []) (gT : mg "_law_take" = some (.ref fT))
    (GP : FnOk P w K mg base CX0 3 fP dP ["draw", "some"] (spPick K)) (kP : PySem.W.keepIn K (.ref fP) = true) (bP : L2.Binds K dP ["draw", "some"] []) (gP : mg "_law_pick" = some (.ref fP)) :
    FnOk P w K mg base CX0 4 f fd ["draw", "field", "wide_here"] spAnyDeed := by
  refine F.ok scYD (fun vs H Q E h => ?_) (fun cdv A outer s H vs Q E hr h => ?_)
  · obtain ⟨d, l, c, p, n, rfl, _⟩ := h
    rfl
  · refine ⟨_, pss_cons (ps_set (i := 3) scYD.nd rfl (Or.inl rfl) (pe_call GT (hr.mono (by decide)) rfl gT kT bT .nil pass0 (pa_cons (pv 0) (pa_cons pe_int pa_nil))))
      (pss_cons (ps_if (pt_cmpR op_eq (pv 3) pe_int (nomark _)) (pss_one (ps_ret (pe_tup (pa_cons pe_str (pa_cons (pe_call GP hr rfl gP kP bP .nil pass0 (pa_cons (pv 0) (pa_cons (pe_lst (pa_cons pe_int (pa_cons pe_int (pa_cons pe_int (pa_cons pe_int (pa_cons (pe_op op_pow pe_int pe_int) (pa_cons pe_int (pa_cons pe_int pa_nil)))))))) pa_nil))) pa_nil))))) pss_nil)
      (pss_cons (ps_setLc (i := 4) (own := [("k", 5)]) (g := gName 5) (tt := tYes) (te := tLc (iRng1 (tCons (tVar 2) tNil)) (gName 6) tYes teYD [6]) rfl scYD.nd rfl rfl (sw_true rfl rfl rfl (by decide +kernel)) (pi_range1 rfl T.range (pa_cons (pv 2) pa_nil)) (blkOk_by (own := [("k", 5)]) (N := NYD) (sc := defScope (top 48)) (by decide +kernel))
        (fun _ _ _ _ _ => pg_name (i := 5) scYD.nd rfl (Or.inl rfl)) (fun _ _ _ _ _ => pts_nil) (fun _ _ _ _ _ => pe_lc (own := [("spot", 6)]) (g := gName 6) (tt := tYes) (te := teYD) rfl scYD.nd (pi_range1 rfl T.range (pa_cons (pv 2) pa_nil)) (blkOk_by (own := [("spot", 6)]) (by rfl))
          (fun _ _ _ _ _ => pg_name (i := 6) scYD.nd rfl (Or.inl rfl)) (fun _ _ _ _ _ => pts_nil) (fun _ _ _ _ _ => pe_call GT (hr.mono (by decide)) rfl gT kT bT .nil pass0 (pa_cons (pv 0) (pa_cons (pv 1) pa_nil)))))
      (pss_one (ps_ret (pe_tup (pa_cons (pe_call GP hr rfl gP kP bP .nil pass0 (pa_cons (pv 0) (pa_cons (pe_lst (pa_cons pe_str (pa_cons pe_str pa_nil))) pa_nil))) (pa_cons (pv 4) pa_nil))))))), ?_⟩
    obtain ⟨d, l, c, p, n, rfl, D0, hpp, hn1, hn, k⟩ := h
    have p2 := (p_pos hpp).1
    have p97 := prime_small hpp
    have h8 : (200000 : Nat) ≤ sizeLine := by decide
    refine ⟨_, rfl, d, l, c, 4, rfl, by omega, by omega, D0, fun m H1 m0 m1 D1 Z1 => ?_⟩
    refine ⟨_, rfl, rfl, _, rfl, ite2 (fun h0 => ?_) fun h0 => ?_⟩
    · refine ⟨_, rfl, _, _, rfl, rfl, ⟨by decide, by decide, by decide⟩, (show (7 : Nat) ≤ sizeLine by omega), fun q hq => ?_⟩
      obtain ⟨w1, w2, w3⟩ := D1.awy hq
      have S1 : Same H1 (upd H1 q (.lst [V.int 0, V.int 1, V.int 7, V.int 10, V.int (10 ^ (9 : Int).toNat), V.int 987654321, V.int 100])) := (Same.refl _).put hq
      refine ⟨d, l, c, q, _, rfl, upd_same, w2, (show 0 < 7 by decide), (show 7 < 1000 by decide), D1.up S1, fun y H7 hy D7 Z7 => ?_⟩
      obtain ⟨z, rfl, hz⟩ : ∃ z : Nat, y = .int (z : Nat) ∧ z ≤ 1000000000 := by
        have e : [V.int 0, V.int 1, V.int 7, V.int 10, V.int (10 ^ (9 : Int).toNat), V.int 987654321, V.int 100] = [0, 1, 7, 10, 1000000000, 987654321, 100].map fun z : Nat => V.int (z : Nat) := rfl
        have hy : y ∈ [0, 1, 7, 10, 1000000000, 987654321, 100].map fun z : Nat => V.int (z : Nat) := e ▸ hy
        obtain ⟨z, hz, e⟩ := List.mem_map.mp hy
        exact ⟨z, e.symm, (by decide : ∀ z ∈ [0, 1, 7, 10, 1000000000, 987654321, 100], z ≤ 1000000000) z hz⟩
      refine ⟨(show (2 : Nat) ≤ sizeLine by omega), fun a ha => k _ (.take z) _ hz ⟨a, rfl, upd_same⟩ (D7.up ((Same.refl _).new ha)) (Drawn.trans Z1 (Drawn.trans (Drawn.of S1) (Drawn.trans Z7 (Drawn.of ((Same.refl _).new ha)))))⟩
    · refine ⟨_, rfl, n, rfl, by omega, by omega, fun DO hDO => lc_it (walk_range (lo := 0) (n := n)) (fun i H' => Drawn d l H1 H' ∧ DrawAt H' d l c ∧ ∃ (cs : List Addr) (ls : List (List Nat)), H' DO = some (.lst (cs.map V.ref)) ∧ cs.length = i ∧ ls.length = i ∧ cs.Nodup ∧ (∀ x ∈ cs, H1 x = none ∧ x ≠ DO) ∧ (∀ (j : Nat) (b : Addr) (r : List Int), cs[j]? = some b → (intsT ls)[j]? = some r → H' b = some (.lst (r.map V.int))) ∧ ∀ r ∈ ls, r.length = n ∧ ∀ x ∈ r, x ≤ p - 1)
        ⟨Drawn.of ((Same.refl _).put hDO), D1.up ((Same.refl _).put hDO), [], [], upd_same, rfl, rfl, List.nodup_nil, (fun _ h => nomatch h), (fun _ _ _ h => by cases h), (fun _ h => nomatch h)⟩ (fun _ _ _ _ => trivial) ?_ ?_⟩
      · rintro i v H2 H3 hi ⟨Z3, D3, cs, ls, hL, lc, lr, nd, new, hat, hok⟩ ⟨rfl, hv⟩
        obtain ⟨no1, no2, _⟩ := D1.awy hDO
        refine ⟨rfl, ?_⟩
        refine ⟨_, rfl, n, rfl, by omega, by omega, fun D2 hD2 => lc_it (walk_range (lo := 0) (n := n)) (fun j H' => Drawn d l H3 H' ∧ DrawAt H' d l c ∧ ∃ v : List Nat, H' D2 = some (.lst (v.map fun z => V.int (z : Nat))) ∧ v.length = j ∧ ∀ x ∈ v, x ≤ p - 1) ⟨Drawn.of ((Same.refl _).put hD2), D3.up ((Same.refl _).put hD2), [], upd_same, rfl, (fun _ h => nomatch h)⟩ (fun _ _ _ _ => trivial) ?_ ?_⟩
        · rintro j v2 H4 H5 hj ⟨Z5, D5, vv, hL5, lv, hvv⟩ ⟨rfl, _⟩
          obtain ⟨n21, n22, _⟩ := D3.awy hD2
          refine ⟨rfl, _, rfl, _, rfl, d, l, c, p, rfl, by omega, by omega, D5, fun x H6 x0 x1 D6 Z6 => ?_⟩
          have hL6 := Z6 _ _ hL5 n21 n22
          obtain ⟨w1, w2, w3⟩ := D3.awy hD2
          obtain ⟨z, rfl⟩ : ∃ z : Nat, x = (z : Nat) := ⟨x.toNat, by omega⟩
          refine ⟨_, hL6, ?_, fun b o hb e1 e2 => ?_, D6.updN w1 w2 w3, vv ++ [z], ?_, ?_, fun u hu => ?_⟩
          · rw [List.length_map, lv]
            exact small1000 (by omega)
          · rw [upd_ne (ne_of_none hb hD2)]
            exact Z6 _ _ (Z5 b o hb e1 e2) e1 e2
          · rw [upd_same, List.map_append]
            rfl
          · rw [List.length_append, lv]
            rfl
          · rcases List.mem_append.mp hu with h | h
            · exact hvv u h
            · rw [List.mem_singleton.mp h]
              omega
        · rintro H4 ⟨Z4, D4, vv, hL4, lv, hvv⟩
          have hO4 := Z4 _ _ hL no1 no2
          have ne2 : D2 ≠ DO := fun z => by rw [z, hL] at hD2; cases hD2
          obtain ⟨w1, w2, w3⟩ := D1.awy hDO
          have h1D2 : H1 D2 = none := by
            cases hh : H1 D2 with
            | none => rfl
            | some o =>
              obtain ⟨v1, v2, _⟩ := D3.awy hD2
              rw [Z3 D2 o hh v1 v2] at hD2; cases hD2
          have li : (intsT ls).length = i := by rw [intsT_len, lr]
          have ei : intsT (ls ++ [vv]) = intsT ls ++ [vv.map fun n : Nat => (n : Int)] := by unfold intsT; rw [List.map_append]; rfl
          refine ⟨_, hO4, ?_, fun b o hb e1 e2 => ?_, D4.updN w1 w2 w3, cs ++ [D2], ls ++ [vv], ?_, ?_, ?_, ?_, fun x hx => ?_, fun j b r hb hr2 => ?_, fun r hr2 => ?_⟩
          · rw [List.length_map, lc]
            exact small1000 (by omega)
          · rw [upd_ne (ne_of_none hb hDO)]
            exact Z4 _ _ (Z3 b o hb e1 e2) e1 e2
          · rw [upd_same, List.map_append]
            rfl
          · rw [List.length_append, lc]
            rfl
          · rw [List.length_append, lr]
            rfl
          · refine List.nodup_append.mpr ⟨nd, by simp, fun x hx y hy e => ?_⟩
            have hy2 : y = D2 := List.mem_singleton.mp hy
            obtain ⟨j, hj⟩ := List.mem_iff_getElem?.mp hx
            obtain ⟨r, hr2⟩ := some_at (l := intsT ls) (i := j) (by have := (List.getElem?_eq_some_iff.mp hj).1; omega)
            have := hat j x r hj hr2
            rw [e, hy2, hD2] at this
            cases this
          · rcases List.mem_append.mp hx with h | h
            · exact new x h
            · rw [List.mem_singleton.mp h]
              exact ⟨h1D2, ne2⟩
          · rw [ei] at hr2
            rcases Nat.lt_or_ge j cs.length with z | z
            · rw [List.getElem?_append_left z] at hb
              rw [List.getElem?_append_left (by omega)] at hr2
              have hbn := new b (List.mem_of_getElem? hb)
              obtain ⟨v1, v2, _⟩ := D1.awy hbn.1
              rw [upd_ne hbn.2]
              exact Z4 _ _ (hat j b r hb hr2) v1 v2
            · rw [List.getElem?_append_right z] at hb
              rw [List.getElem?_append_right (by omega)] at hr2
              have ej : j - cs.length = 0 := by
                have := (List.getElem?_eq_some_iff.mp hb).1
                simp at this
                omega
              rw [ej] at hb
              rw [show j - (intsT ls).length = 0 by omega] at hr2
              obtain rfl := Option.some.inj hb
              obtain rfl := Option.some.inj hr2
              rw [upd_ne ne2, hL4]
              rw [List.map_map]
              rfl
          · rcases List.mem_append.mp hr2 with h | h
            · exact hok r h
            · rw [List.mem_singleton.mp h]
              exact ⟨lv, hvv⟩
      · rintro H2 ⟨Z2, D2, cs, ls, hL, lc, lr, nd, new, hat, hok⟩
        refine ⟨_, rfl, (show (2 : Nat) ≤ sizeLine by omega), fun q hq => ?_⟩
        obtain ⟨w1, w2, w3⟩ := D2.awy hq
        have S3 : Same H2 (upd H2 q (.lst [V.str "put", V.str "turn"])) := (Same.refl _).put hq
        refine ⟨d, l, c, q, _, rfl, upd_same, w2, (show 0 < 2 by decide), (show 2 < 1000 by decide), D2.up S3, fun y H4 hy D4 Z4 => ?_⟩
        obtain ⟨o1, o2, _⟩ := D1.awy hDO
        have nDO : DO ∉ cs := fun h => (new DO h).2 rfl
        refine ⟨_, rfl, (show (2 : Nat) ≤ sizeLine by omega), fun a ha => ?_⟩
        have S5 : Same H4 (upd H4 a (.tup [y, .ref DO])) := (Same.refl _).new ha
        have hg : GridAt (upd H4 a (.tup [y, .ref DO])) DO cs (intsT ls) := ⟨S5 _ _ (Z4 _ _ (S3 _ _ hL) o1 o2), by rw [lc, intsT_len, lr], nd, nDO, fun i b r h1 h2 => by
          have hbn := new b (List.mem_of_getElem? h1)
          obtain ⟨v1, v2, _⟩ := D1.awy hbn.1
          exact S5 _ _ (Z4 _ _ (S3 _ _ (hat i b r h1 h2)) v1 v2)⟩
        have zz : Drawn d l H (upd H4 a (.tup [y, .ref DO])) := Drawn.trans Z1 (Drawn.trans Z2 (Drawn.trans (Drawn.of S3) (Drawn.trans Z4 (Drawn.of S5))))
        rcases List.mem_cons.mp hy with h | h
        · subst h
          exact k _ (.put ls) _ ⟨lr, hok⟩ ⟨a, DO, cs, rfl, upd_same, hg⟩ (D4.up S5) zz
        · rw [List.mem_singleton] at h
          subst h
          exact k _ (.turn ls) _ ⟨lr, hok⟩ ⟨a, DO, cs, rfl, upd_same, hg⟩ (D4.up S5) zz
end
end P2
end

section
set_option maxRecDepth 100000
set_option maxHeartbeats 2000000
namespace ClX
open PySem PySem.Spec PyProof.Rows L2
section
variable {X : Cx}
theorem dcT_core {pins : List (Addr × Obj)} {s : Shared} {σ : L2.St} {H : Hp} {Q : VK} {use : Option (Value → Sem Unit)} {Qf : Value → Shared → Prop} {kx vx tg iter : Expr} {ifs : List Expr} {own : List (Str × Nat)} {pos pos' : Pos} {wi : TI} {g : TG} {tt : L2.TT} {tk tv : TE} (hu : X.A.units < cLine) (hc : X.calm = true) (hN : X.N.Nodup) (I : Inv X pins σ H s) (hi : PI X tg iter wi) (ok : BlkOk X.N X.env.scope scope own)
    (hg : ∀ (s : Shared) (H : Hp) (C : Addr) (cl : List (Str × Addr)) (fp : List Addr), PG (X.blk s H scope (compEnvC scope cl C X.env) fp) tg g)
    (ht : ∀ (s : Shared) (H : Hp) (C : Addr) (cl : List (Str × Addr)) (fp : List Addr), PTs (X.blk s H scope (compEnvC scope cl C X.env) fp) ifs tt)
    (hk : ∀ (s : Shared) (H : Hp) (C : Addr) (cl : List (Str × Addr)) (fp : List Addr), PE (X.blk s H scope (compEnvC scope cl C X.env) fp) kx tk)
    (he : ∀ (s : Shared) (H : Hp) (C : Addr) (cl : List (Str × Addr)) (fp : List Addr), PE (X.blk s H scope (compEnvC scope cl C X.env) fp) vx tv) (hs : ∀ x, foldedSetIterable iter X.env x = pure x) (h : tDcT wi g tt tk tv (own.map (·.2)) σ H Q)
    (hRR : ∀ D C s' m H', Inv X pins σ H' s' → Q (.ref D) H' → s'.heap.Ns C m → FpOk X pins H' C → compPost (model X.prog X.w) X.A X.xe use Qf (.ref D) C (.ok .next) s') :
    wpAny (model X.prog X.w) X.A (comprehension (.DictComp kx vx [⟨tg, iter, ifs, 0⟩] scope pos) scope X.env pos' newDict false (eval iter X.env) use) Qf X.xe s := by
  have hfree : ∀ y ∈ scope.names, y.2 = .free → ∃ c, X.env.cells.lookup y.1 = some c := fun y hy e => (ok.free y hy e).elim (fun k => I.ok.has _ (.inl k)) fun k => I.ok.has _ (.inr k)
  refine wpAny_comprehension_free (use := use) rfl hs (closure_ok hfree) ok.kind (fun y hy e => by rw [ok.uniq y hy, e]) (thn (hi.run pins s σ H _ I h) fun xv s1 hx => thn hx fun itv s2 hh => ?_)
  obtain ⟨it, fp, tn, J, H2, e, I2, T, t2, f2, q⟩ := hh
  subst e
  refine wpAny_newObj_type (newEnv_comp ?_)
  have nD : H2 s2.heap.objs.size = none := I2.hok.fresh (Nat.le_refl _)
  obtain ⟨W, ⟨m0, w0⟩, turn⟩ := q _ nD
  have I3 := I2.laid (t' := s2.toks) (a := s2.heap.objs.size) (o := .dT []) (h' := s2.heap.push { cls := .type "dict", data := .dict #[] }) (fun b o e => Heap.get?_push_of_some _ e) (Nat.le_refl _) (dt_empty s2.heap I2.big)
  have lt2 : ∀ b ∈ fp, b < s2.heap.objs.size := fun b hb => by
    obtain ⟨o, e, _⟩ := T.obj _ _ t2 b hb
    exact Heap.lt_size e
  have f3 : ∀ b ∈ fp, FpOk X pins (upd H2 s2.heap.objs.size (.dT [])) b ∧ b < (s2.heap.push { cls := .type "dict", data := .dict #[] }).objs.size := fun b hb =>
    ⟨⟨by rw [upd_ne (Nat.ne_of_lt (lt2 b hb))]; exact (f2 b hb).1, (f2 b hb).2⟩, by rw [Heap.size_push]; exact Nat.lt_succ_of_lt (lt2 b hb)⟩
  have t3 := T.keep _ _ (s2.heap.push { cls := .type "dict", data := .dict #[] }) t2 fun b _ o e => Heap.get?_push_of_some _ e
  generalize hs3 : ({ s2 with heap := s2.heap.push { cls := .type "dict", data := .dict #[] } } : Shared) = s3 at I3
  have e3 : s2.heap.push { cls := .type "dict", data := .dict #[] } = s3.heap := by rw [← hs3]
  rw [e3] at f3 t3
  generalize hH3 : upd H2 s2.heap.objs.size (.dT []) = H3 at I3 f3 w0
  have I4 := block_start I3 ok hN f3
  have pg := hg s3 H3 s3.heap.objs.size (cellsFrom (s3.heap.objs.size + 1) scope.names (cloFrom X.env.cells scope.names [])) fp
  have pt := ht s3 H3 s3.heap.objs.size (cellsFrom (s3.heap.objs.size + 1) scope.names (cloFrom X.env.cells scope.names [])) fp
  have pk := hk s3 H3 s3.heap.objs.size (cellsFrom (s3.heap.objs.size + 1) scope.names (cloFrom X.env.cells scope.names [])) fp
  have pe := he s3 H3 s3.heap.objs.size (cellsFrom (s3.heap.objs.size + 1) scope.names (cloFrom X.env.cells scope.names [])) fp
  show codeAny _ _ (.compStart (.DictComp kx vx [⟨tg, iter, ifs, 0⟩] scope pos) 0 (.ref it) (.ref s2.heap.objs.size) (compEnvC scope (cellsFrom (s3.heap.objs.size + 1) scope.names (cloFrom X.env.cells scope.names [])) s3.heap.objs.size X.env)) _ { s3 with heap := pushCells (s3.heap.push { cls := .type "dict", data := .dict #[] }) scope.names }
  have t4 : tn 0 (pushCells (s3.heap.push { cls := .type "dict", data := .dict #[] }) scope.names) := T.keep _ _ _ t3 fun b _ o e => pushCells_keeps _ _ _ _ (Heap.get?_push_of_some _ e)
  generalize hce : compEnvC scope (cellsFrom (s3.heap.objs.size + 1) scope.names (cloFrom X.env.cells scope.names [])) s3.heap.objs.size X.env = ce at I4 pg pt pk pe ⊢
  have eL : ce.locals = s3.heap.objs.size := by rw [← hce] <;> rfl
  have n4 : ∀ b ∈ fp, H3 b = none := fun b hb => (f3 b hb).1.1
  refine (fun {R} (loop : codeAny (model X.prog X.w) X.A (.compLoop (.DictComp kx vx [⟨tg, iter, ifs, 0⟩] scope pos) 0 (.ref it) (.ref s2.heap.objs.size) ce) R _) => codeAny_compStart_dict loop (T.self X.A 0 _ _ _ t4 loop)) ?_
  refine compLoop_anyD (Btw X s3 H3 scope ce fp (wipe σ (own.map (·.2))) tn W) (fun n s5 b5 => ?_) m0 ⟨0, H3, I4, t4, n4, w0⟩
  obtain ⟨i, H5, I5, t5, n5, w5⟩ := b5
  rcases turn i n H5 w5 with ⟨stop, hQ⟩ | ⟨go, Nx, hNx, step⟩
  · refine thnF (T.done (X.blk s3 H3 scope ce fp) rfl rfl rfl hc i [] s5 _ H5 (fun _ _ => False) I5 (blk_fp I5 n5) t5 stop) fun r s6 ⟨hr, I6⟩ => ?_
    subst hr
    have I7 : Inv X pins σ H5 s6 := I3.call' (ch := fp) I6.os I6.base I6.hok I6.bare fun b hb => let f := (f3 b hb).1; ⟨f.2.2.2.1, f.2.1, f.2.2.2.2.1, f.2.2.2.2.2⟩
    have nC : H5 s3.heap.objs.size = none := eL ▸ I6.free
    obtain ⟨m, hn, _⟩ := I6.loc
    have hn : s6.heap.Ns s3.heap.objs.size m := eL ▸ hn
    exact hRR _ _ s6 m H5 I7 hQ hn (I3.fpOk (H' := H5) (Nat.le_refl _) nC)
  · refine thnF (T.item (X.blk s3 H3 scope ce fp) rfl rfl rfl hc i [] s5 _ H5 (fun _ _ => False) I5 (blk_fp I5 n5) t5 go) fun r s6 ⟨u, hr, h6⟩ => ?_
    subst hr
    refine thnF h6 fun _ s7 ⟨x, H7, I7, r7, y7, t7, n7⟩ => ?_
    refine thnF (pg.run _ s7 _ H7 x u _ (I7.pinned (blk_fp I7 n7) (T.obj _ _ t7)) r7 (step x H7 y7)) fun _ s8 ⟨σ8, H8, I8, ew, q8⟩ => ?_
    refine thnF (pt.run _ s8 σ8 H8 _ I8 q8) fun b s9 ⟨H9, I9, q9⟩ => ?_
    cases b with
    | false => exact btw_next T I9 ew t7 (show Nx H9 from q9) hNx
    | true =>
      refine thnF (pk.run _ s9 σ8 H9 _ I9 q9) fun z s10 ⟨yk, H10, I10, r10, q10⟩ => ?_
      refine thnF (pe.run _ s10 σ8 H10 _ I10 q10) fun z2 s11 ⟨yv, H11, I11, r11, H12, dp, nx⟩ => ?_
      exact put_dictSet (Y := X.blk s3 H3 scope ce fp) hu I11 dp r10 r11 fun s12 I12 => btw_next T I12 ew t7 nx hNx
theorem ps_setDcT {i : Nat} {y : Str} {py : Pos} {kx vx tg iter : Expr} {ifs : List Expr} {scope : Scope} {own : List (Str × Nat)} {pos spos : Pos} {wi : TI} {g : TG} {tt : L2.TT} {tk tv : TE} (hu : X.A.units < cLine) (hc : X.calm = true) (hN : X.N.Nodup) (hy : X.N[i]? = some y) (hyl : X.env.scope.names.lookup y = some .local)
    (hsw : swapsWith (.DictComp kx vx [⟨tg, iter, ifs, 0⟩] scope pos) (some (.Name y py)) spos.line X.env = pure true) (hi : PI X tg iter wi) (ok : BlkOk X.N X.env.scope scope own)
    (hg : ∀ (s : Shared) (H : Hp) (C : Addr) (cl : List (Str × Addr)) (fp : List Addr), PG (X.blk s H scope (compEnvC scope cl C X.env) fp) tg g) (ht : ∀ (s : Shared) (H : Hp) (C : Addr) (cl : List (Str × Addr)) (fp : List Addr), PTs (X.blk s H scope (compEnvC scope cl C X.env) fp) ifs tt)
    (hk : ∀ (s : Shared) (H : Hp) (C : Addr) (cl : List (Str × Addr)) (fp : List Addr), PE (X.blk s H scope (compEnvC scope cl C X.env) fp) kx tk)
    (he : ∀ (s : Shared) (H : Hp) (C : Addr) (cl : List (Str × Addr)) (fp : List Addr), PE (X.blk s H scope (compEnvC scope cl C X.env) fp) vx tv) (hs : ∀ x, foldedSetIterable iter X.env x = pure x := by intro _; rfl) :
    PS X (.Assign [.Name y py] (.DictComp kx vx [⟨tg, iter, ifs, 0⟩] scope pos) spos) (tAsg (tDcT wi g tt tk tv (own.map (·.2))) (gName i)) := by
  refine ⟨fun pins s σ H D I h => ?_⟩
  have h2 : tDcT wi g tt tk tv (own.map (·.2)) σ H (fun x H1 => gName i x σ H1 D.nx) := h
  rw [exec_Assign_Name_used _ _ _ _ hsw]
  refine wpAny_bind (wpAny_standAt (wpAny_bind ?_))
  show wpAny _ X.A (do let _ ← comprehension (.DictComp kx vx [⟨tg, iter, ifs, 0⟩] scope pos) scope X.env (firstIterPos [⟨tg, iter, ifs, 0⟩] pos) newDict false (eval iter X.env) (some (assign (.Name y py) X.env))) _ _ s
  refine wpAny_bind (thn (dcT_core (Qf := fun _ s' => SP X pins D .next s') hu hc hN I hi ok hg ht hk he hs h2 fun L C s' m H' J q hn fo => ?_) fun _ s' hq => wpAny_pure (wpAny_pure hq))
  obtain ⟨g0, g1, g2, g3, g4, g5⟩ := fo
  show wpAny _ _ (assign (.Name y py) X.env (.ref L)) _ _ _
  refine wpAny_assign_Name (store_ok2 (v := V.ref L) J hN hy (.inl hyl) rfl (fun s2 J2 ⟨c, sb, hc'⟩ => ?_) (.inr hyl))
  have ne : C ≠ c := hc'.elim (fun z => by rw [z]; exact g1) fun z e => g4 y c z e.symm
  exact ⟨m, hn.sameBut sb ne, fun h3 sb3 => ⟨_, H', J2.turned (t' := s2.toks) (fun b o hb e => (sb3.2 b hb).trans e) g0 g1 g3 g4 g5, q⟩⟩
end
end ClX
end

section
set_option maxRecDepth 100000
set_option maxHeartbeats 4000000
namespace P2
open PySem L2 ClX ZM
/-- the terms without a factor 0 -/
def liveT (ds : List Int) (ts : List (List Int × Int)) : List (List Int × Int) := ts.filter fun q => !zeroB q.1 ds
theorem liveT_snoc {ds : List Int} {ts : List (List Int × Int)} {i : Nat} {q : List Int × Int} (h : ts[i]? = some q) : liveT ds (ts.take (i + 1)) = if zeroB q.1 ds = true then liveT ds (ts.take i) else liveT ds (ts.take i) ++ [q] := by
  unfold liveT
  rw [List.take_succ, h, List.filter_append]
  cases hz : zeroB q.1 ds with
  | true => simp [hz]
  | false => simp [hz]
theorem liveT_mem {ds : List Int} {ts : List (List Int × Int)} {q : List Int × Int} : q ∈ liveT ds ts ↔ q ∈ ts ∧ zeroB q.1 ds = false := by
  unfold liveT
  rw [List.mem_filter]
  simp
theorem liveT_nd {ds : List Int} {ts : List (List Int × Int)} (h : (ts.map (·.1)).Nodup) : ((liveT ds ts).map (·.1)).Nodup := (List.Sublist.map _ List.filter_sublist).nodup h
theorem liveT_len (ds : List Int) (ts : List (List Int × Int)) : (liveT ds ts).length ≤ ts.length := List.length_filter_le _ _
theorem take_notin {ts : List (List Int × Int)} (h : (ts.map (·.1)).Nodup) {i : Nat} {q : List Int × Int} (e : ts[i]? = some q) : q.1 ∉ (ts.take i).map (·.1) := by
  have z : ts.take (i + 1) = ts.take i ++ [q] := by rw [List.take_succ, e]; rfl
  have h1 : ((ts.take (i + 1)).map (·.1)).Nodup := (List.Sublist.map _ (List.take_sublist _ _)).nodup h
  rw [z, List.map_append, List.nodup_append] at h1
  exact fun m => h1.2.2 _ m _ (by simp) rfl
theorem liveT_notin {ds : List Int} {ts : List (List Int × Int)} (h : (ts.map (·.1)).Nodup) {i : Nat} {q : List Int × Int} (e : ts[i]? = some q) : q.1 ∉ (liveT ds (ts.take i)).map (·.1) := fun m => by
  obtain ⟨u, hu, eu⟩ := List.mem_map.mp m
  exact take_notin h e (List.mem_map.mpr ⟨u, (liveT_mem.mp hu).1, eu⟩)
def nneg (d : Int) : Int := if d < 0 then 0 else d
theorem degS_nneg : ∀ {ds r : List Int}, zeroB r ds = false → (∀ e ∈ r, 0 ≤ e) → degS (ds.map nneg) r = degS ds r
  | [], r, _, _ => rfl
  | d :: ds, [], _, _ => rfl
  | d :: ds, e :: r, h, he => by
    have h' : ((decide (0 < e) && decide (d < 0)) || zeroB r ds) = false := h
    obtain ⟨h1, h2⟩ := Bool.or_eq_false_iff.mp h'
    show e * nneg d + degS (ds.map nneg) r = e * d + degS ds r
    rw [degS_nneg h2 fun x hx => he x (List.mem_cons_of_mem _ hx)]
    congr 1
    unfold nneg
    split
    · rename_i hd
      have e0 := he e List.mem_cons_self
      have : e = 0 := by
        rw [decide_eq_true hd, Bool.and_true] at h1
        have := of_decide_eq_false h1
        omega
      rw [this, Int.zero_mul, Int.zero_mul]
    · rfl
theorem degOf_all {ts : List (List Int × Int)} : ∀ q ∈ ts, q.1.sum ≤ degOf ts := fun q hq => by
  unfold degOf
  cases hts : ts.map fun p => p.1.sum with
  | nil =>
    have z : q.1.sum ∈ ts.map fun p => p.1.sum := List.mem_map.mpr ⟨q, hq, rfl⟩
    rw [hts] at z
    cases z
  | cons n ns =>
    have z : q.1.sum ∈ ts.map fun p => p.1.sum := List.mem_map.mpr ⟨q, hq, rfl⟩
    rw [hts] at z
    show q.1.sum ≤ ns.foldl max n
    obtain ⟨a, b, _⟩ := foldl_max ns n
    rcases List.mem_cons.mp z with z | z
    · omega
    · exact a _ z
/-- the polynomials that are put in -/
structure PutsAt (H : Hp) (C : Addr) (as : List Addr) (tss : List (List (List Int × Int))) (p : Int) (k : Nat) : Prop where
  l : tss.length = as.length
  at_ : ∀ i, i < as.length → PolyAt H C (as.getD i 0) p k (tss.getD i []) ∧ TsOk p k (tss.getD i [])
theorem PutsAt.same {H H' : Hp} {C : Addr} {as : List Addr} {tss : List (List (List Int × Int))} {p : Int} {k : Nat} (S : Same H H') (h : PutsAt H C as tss p k) : PutsAt H' C as tss p k := ⟨h.l, fun i hi => ⟨(h.at_ i hi).1.same S, (h.at_ i hi).2⟩⟩
def spPutIn (K : PySem.W.Frag) (C B M : Addr) : Sp := fun vs H Q E => ∃ (u : V) (oA : Addr), vs = [u, .ref oA] ∧ ((Odd K H u ∧ E (.ref B) none H) ∨ ∃ (a : Addr) (p : Int) (n : Nat) (ts : List (List Int × Int)) (b : Bool) (nm : String) (xs : List V) (os : List (Option (Int × Int))), u = .ref a ∧ PolyAt H C a p n ts ∧ SqB K b H oA xs ∧ nm ∈ kinds7 ∧ TyX K H (.ref oA) (.type nm) ∧ isL nm = true ∧ xs.length ≤ 1000 ∧ 1 ≤ n ∧ ItemsAt K H C xs os ∧
  (areB os n p = false → ∀ H', Same H H' → E (.ref B) none H') ∧ (areB os n p = true → ∃ (k : Nat) (as : List Addr) (tss : List (List (List Int × Int))), xs = as.map V.ref ∧ PutsAt H C as tss p k ∧ as.length = n ∧ n ≤ 12 ∧ p ∈ primes ∧ 1 ≤ k ∧ k ≤ 12 ∧ TsOk p n ts ∧ ts.length ≤ 60 ∧
    ((∃ q ∈ liveT (tss.map degOf) ts, 120 < degS (tss.map degOf) q.1) → TooBig M H E) ∧
    ((∀ q ∈ liveT (tss.map degOf) ts, degS (tss.map degOf) q.1 ≤ 120) → ∃ (D : Nat) (Bd : Int), Fits k D ∧ D ≤ 120 ∧ 0 ≤ Bd ∧ Bd ≤ D ∧ (∀ t ∈ tss, degOf t ≤ D) ∧ (∀ q ∈ liveT (tss.map degOf) ts, ExpOk p q.1 ∧ degS (tss.map degOf) q.1 ≤ Bd) ∧
      ∀ y H' m, Same H H' → H y = none → PolyAt H' C y p k (tid p (termsOf m k)) → IsPk p k Bd m (fun φ => pr (liveT (tss.map degOf) ts) fun row => putT (tss.map packOf) row φ) → Q (.ref y) H')))
section
variable {P : Program} {w : World} {K : PySem.W.Frag} {mg : Str → Option Value} {base : Heap} {bp C B M N : Addr}
abbrev NPI : List Str := ["one", "others", "degrees", "terms", "pack", "other", "row", "number"]
end
end P2
end

section
set_option maxRecDepth 100000
set_option maxHeartbeats 4000000
namespace P2
open PySem L2 ClX ZM
/-- one less at s -/
def decR (s : Nat) (r : List Int) : List Int := r.take s ++ [r.getD s 0 - 1] ++ r.drop (s + 1)
def slG (s : Nat) (q : List Int × Int) : Option (List Int × Int) := if q.1.getD s 0 = 0 then none else some (decR s q.1, q.2 * q.1.getD s 0)
/-- the slope at s -/
def slopeL (s : Nat) (ts : List (List Int × Int)) : List (List Int × Int) := foldI (slG s) ts
theorem decR_len {s : Nat} {r : List Int} (h : s < r.length) : (decR s r).length = r.length := by
  unfold decR
  rw [List.length_append, List.length_append, List.length_take, List.length_drop]
  show min s r.length + 1 + _ = _
  omega
theorem split_at {s : Nat} {r : List Int} (h : s < r.length) : r = r.take s ++ [r.getD s 0] ++ r.drop (s + 1) := by
  have e : r.drop s = r.getD s 0 :: r.drop (s + 1) := drop_getD h
  have z := List.take_append_drop s r
  rw [e] at z
  rw [List.append_assoc]
  exact z.symm
theorem decR_sum {s : Nat} {r : List Int} (h : s < r.length) : (decR s r).sum = r.sum - 1 := by
  have e := congrArg List.sum (split_at h)
  rw [List.sum_append, List.sum_append] at e
  unfold decR
  rw [List.sum_append, List.sum_append]
  have e1 : ([r.getD s 0 - 1] : List Int).sum = r.getD s 0 - 1 := by simp
  have e2 : ([r.getD s 0] : List Int).sum = r.getD s 0 := by simp
  rw [e2] at e
  rw [e1]
  omega
theorem decR_nn {s : Nat} {r : List Int} (h : s < r.length) (g : ∀ e ∈ r, 0 ≤ e) (z : r.getD s 0 ≠ 0) : ∀ e ∈ decR s r, 0 ≤ e := fun e he => by
  unfold decR at he
  rcases List.mem_append.mp he with he | he
  · rcases List.mem_append.mp he with he | he
    · exact g e (List.mem_of_mem_take he)
    · rw [List.mem_singleton.mp he]
      have y := g (r.getD s 0) (by rw [List.getD_eq_getElem?_getD, List.getElem?_eq_getElem h]; exact List.getElem_mem _)
      omega
  · exact g e (List.mem_of_mem_drop he)
theorem foldI_mem {α : Type} (g : α → Option (List Int × Int)) : ∀ (xs : List α), ∀ q ∈ foldI g xs, ∃ x ∈ xs, ∃ r, g x = some r ∧ r.1 = q.1 := fun xs => by
  have key : ∀ i, i ≤ xs.length → ∀ q ∈ foldI g (xs.take i), ∃ x ∈ xs.take i, ∃ r, g x = some r ∧ r.1 = q.1 := by
    intro i
    induction i with
    | zero => intro _ q hq; cases hq
    | succ i ih =>
      intro hi q hq
      have hx : xs[i]? = some xs[i] := List.getElem?_eq_getElem (by omega)
      have up : ∀ x, x ∈ xs.take i → x ∈ xs.take (i + 1) := fun x hx => by rw [List.take_succ]; exact List.mem_append_left _ hx
      have here : xs[i] ∈ xs.take (i + 1) := by rw [List.take_succ, hx]; exact List.mem_append_right _ (by simp)
      rw [foldI_snoc g hx] at hq
      cases hg : g xs[i] with
      | none =>
        rw [hg] at hq
        obtain ⟨x, h1, h2⟩ := ih (by omega) q hq
        exact ⟨x, up x h1, h2⟩
      | some r =>
        rw [hg] at hq
        rcases putA_in q hq with h | h
        · obtain ⟨x, h1, h2⟩ := ih (by omega) q h
          exact ⟨x, up x h1, h2⟩
        · exact ⟨xs[i], here, r, hg, by rw [h]⟩
  have := key xs.length (Nat.le_refl _)
  rwa [List.take_length] at this
theorem slope_rows {s k : Nat} {ts : List (List Int × Int)} (hs : s < k) (h : RowsOk k ts) : RowsOk k (slopeL s ts) := fun q hq => by
  obtain ⟨x, hx, r, hr, e⟩ := foldI_mem (slG s) ts q hq
  obtain ⟨a, b, c⟩ := h x hx
  unfold slG at hr
  by_cases z : x.1.getD s 0 = 0
  · rw [if_pos z] at hr
    cases hr
  · rw [if_neg z] at hr
    obtain rfl := Option.some.inj hr
    rw [← e]
    exact ⟨by rw [decR_len (by omega)]; exact a, decR_nn (by omega) b z, by rw [decR_sum (by omega)]; omega⟩
theorem slope_len (s : Nat) (ts : List (List Int × Int)) : (slopeL s ts).length ≤ ts.length := foldI_le _ _
theorem slope_nd (s : Nat) (ts : List (List Int × Int)) : ((slopeL s ts).map (·.1)).Nodup := nodup_foldI _ _
section
variable {P : Program} {w : World} {K : PySem.W.Frag} {mg : Str → Option Value} {base : Heap} {bp C B M N : Addr}
theorem catA_read {H : Hp} {a b : Addr} {xs ys : List V} {Q : VK} (ha : H a = some (.tup xs)) (hb : H b = some (.tup ys)) (hz : xs.length + ys.length ≤ 1000) (q : ∀ p H', Same H H' → H' p = some (.tup (xs ++ ys)) → Q (.ref p) H') : rCatA K (.ref a) (.ref b) H Q :=
  ⟨a, b, xs, ys, rfl, rfl, SqT.of ha, SqT.of hb, Nat.le_of_lt (small1000 hz), fun e => q b H (Same.refl _) (by rw [e]; exact hb), fun _ e => q a H (Same.refl _) (by rw [e, List.append_nil]; exact ha), fun _ _ p hp => q p _ ((Same.refl _).put hp) upd_same⟩
def spSlope (K : PySem.W.Frag) (C B N : Addr) : Sp := fun vs H Q E => ∃ u v, vs = [u, v] ∧ ((Odd K H u ∧ E (.ref B) none H) ∨ ∃ (a : Addr) (p : Int) (k : Nat) (ts : List (List Int × Int)), u = .ref a ∧ PolyAt H C a p k ts ∧ PV K H v ∧ (inB v 0 (k - 1) = false → BadN N "spot" H E) ∧
  (inB v 0 (k - 1) = true → ∃ s : Nat, v = .int s ∧ s < k ∧ p ∈ primes ∧ 1 ≤ k ∧ k ≤ 12 ∧ TsOk p k ts ∧ Gives C H p k (slopeL s ts) Q))
abbrev NSL : List Str := ["one", "spot", "terms", "row", "number"]
abbrev sl5 (a D : Addr) (v : V) (e3 e4 : Option V) : St := [some (.ref a), some v, some (.ref D), e3, e4]
end
end P2
end

section
set_option maxRecDepth 100000
set_option maxHeartbeats 4000000
namespace P2
open PySem L2 ClX ZM
/-- x to n, reduced at each step -/
def pwm (p x : Int) : Nat → Int
  | 0 => 1
  | n + 1 => pwm p x n * x % p
theorem pwm_eqm (p x : Int) : ∀ n : Nat, Eqm p (pwm p x n) (x ^ n)
  | 0 => .of (by rw [Int.pow_zero]; rfl)
  | n + 1 => by
    rw [Int.pow_succ]
    refine Eqm.mod.trans ?_
    rw [Int.mul_comm, Int.mul_comm (x ^ n)]
    exact (pwm_eqm p x n).mul x
theorem pwm_bd {p x : Int} (p2 : 2 ≤ p) : ∀ n : Nat, 0 ≤ pwm p x n ∧ pwm p x n < p
  | 0 => ⟨by show (0 : Int) ≤ 1; decide, by show (1 : Int) < p; omega⟩
  | n + 1 => ⟨Int.emod_nonneg _ (by omega), Int.emod_lt_of_pos _ (by omega)⟩
def pows (p x : Int) (n : Nat) : List Int := (List.range (n + 1)).map (pwm p x)
theorem pows_succ (p x : Int) (n : Nat) : pows p x (n + 1) = pows p x n ++ [pwm p x (n + 1)] := by
  unfold pows
  rw [List.range_succ, List.map_append]
  rfl
theorem pows_last (p x : Int) (n : Nat) : ∃ l, pows p x n = l ++ [pwm p x n] := by
  unfold pows
  rw [List.range_succ, List.map_append]
  exact ⟨_, rfl⟩
theorem pows_len (p x : Int) (n : Nat) : (pows p x n).length = n + 1 := by
  unfold pows
  rw [List.length_map, List.length_range]
theorem pows_get (p x : Int) {n i : Nat} (h : i ≤ n) : (pows p x n)[i]? = some (pwm p x i) := by
  unfold pows
  rw [List.getElem?_map, List.getElem?_range (by omega)]
  rfl
/-- one product of powers -/
def mono : List Int → List Int → Int
  | z :: zs, e :: es => z ^ e.toNat * mono zs es
  | _, _ => 1
section
variable {P : Program} {w : World} {K : PySem.W.Frag} {mg : Str → Option Value} {base : Heap} {bp C B M N : Addr}
def spPowRow : Sp := fun vs H Q _ => ∃ x m p : Int, vs = [.int x, .int m, .int p] ∧ -(2 ^ 60) < x ∧ x < 2 ^ 60 ∧ 2 ≤ p ∧ p < 100 ∧ -1 ≤ m ∧ m ≤ 900 ∧ ∀ q H', Same H H' → H q = none → H' q = some (.lst ((pows p x m.toNat).map V.int)) → Q (.ref q) H'
abbrev NPR : List Str := ["number", "most", "prime", "powers", "_"]
abbrev slR (x m p : Int) (D : Addr) (e : Option V) : St := [some (.int x), some (.int m), some (.int p), some (.ref D), e]
end
end P2
end

section
set_option maxRecDepth 100000
set_option maxHeartbeats 4000000
namespace P2
open PySem L2 ClX ZM
theorem mono_snoc : ∀ {zs es : List Int} {j : Nat} {z e : Int}, zs[j]? = some z → es[j]? = some e → mono (zs.take (j + 1)) (es.take (j + 1)) = mono (zs.take j) (es.take j) * z ^ e.toNat
  | [], _, _, _, _, h, _ => by cases h
  | _ :: _, [], _, _, _, _, h => by cases h
  | y :: zs, d :: es, 0, z, e, h, g => by
    obtain rfl : y = z := Option.some.inj h
    obtain rfl : d = e := Option.some.inj g
    show y ^ d.toNat * mono (zs.take 0) (es.take 0) = 1 * _
    rw [List.take_zero, List.take_zero]
    show y ^ d.toNat * 1 = _
    rw [Int.mul_one, Int.one_mul]
  | y :: zs, d :: es, j + 1, z, e, h, g => by
    show y ^ d.toNat * mono (zs.take (j + 1)) (es.take (j + 1)) = y ^ d.toNat * mono (zs.take j) (es.take j) * _
    rw [mono_snoc (j := j) (by simpa using h) (by simpa using g), Int.mul_assoc]
theorem pr_snoc {ts : List (List Int × Int)} {i : Nat} {q : List Int × Int} (h : ts[i]? = some q) (φ : List Int → Int) : pr (ts.take (i + 1)) φ = pr (ts.take i) φ + q.2 * φ q.1 := by
  unfold pr
  rw [List.take_succ, h, List.map_append, List.sum_append]
  simp
theorem degOf_bd {k : Nat} {ts : List (List Int × Int)} (h : RowsOk k ts) : -1 ≤ degOf ts ∧ degOf ts ≤ 120 := by
  refine ⟨?_, degOf_le (fun q hq => (h q hq).2.2) (by decide)⟩
  cases ts with
  | nil => exact Int.le_refl _
  | cons q ts =>
    have z := degOf_all (ts := q :: ts) q List.mem_cons_self
    have y := (le_sum (h q List.mem_cons_self).2.1).2
    omega
/-- an error's own class -/
structure Ox (K : PySem.W.Frag) (mg : Str → Option Value) (nm : Str) (A : Addr) : Prop where
  g : mg nm = some (.ref A)
  x : PySem.W.excIn K A [.type "ValueError", .type "Exception", .type "BaseException", .type "object"] "ValueError.__new__" = true
  k : PySem.W.keepIn K (.ref A) = true
  s : PySem.W.subIn K (.ref A) (.type "BaseException") = some true
  t : PySem.W.typeIn K (.ref A) = some (.type "type")
section
variable {P : Program} {w : World} {K : PySem.W.Frag} {mg : Str → Option Value} {base : Heap} {bp C B M N BA : Addr}
def numB (n : String) (xs : List V) (k : Nat) : Bool := isL n && (decide ((xs.length : Int) = (k : Int)) && xs.all isI)
def spValueAt (K : PySem.W.Frag) (C B BA : Addr) : Sp := fun vs H Q E => ∃ u v, vs = [u, v] ∧ ((Odd K H u ∧ E (.ref B) none H) ∨ ∃ (a : Addr) (p : Int) (k : Nat) (ts : List (List Int × Int)) (n : String) (c : Addr) (xs : List V), u = .ref a ∧ PolyAt H C a p k ts ∧ n ∈ kinds7 ∧ TyX K H v (.type n) ∧
  (isL n = true → v = .ref c ∧ (SqL K H c xs ∨ SqT K H c xs) ∧ xs.length ≤ 1000 ∧ ∀ x ∈ xs, PV K H x) ∧ (numB n xs k = false → ∀ H', Same H H' → E (.ref BA) none H') ∧
  (numB n xs k = true → ∃ (zs : List Int) (b : Bool), xs = zs.map V.int ∧ SqB K b H c xs ∧ (∀ z ∈ zs, -(2 ^ 60) < z ∧ z < 2 ^ 60) ∧ p ∈ primes ∧ k ≤ 12 ∧ TsOk p k ts ∧ ∀ H', Same H H' → Q (.int (pr ts (mono zs) % p)) H'))
abbrev NVA : List Str := ["one", "point", "powers", "total", "row", "number", "part", "exponent", "power"]
abbrev slV (a : Addr) (v : V) (D : Addr) (t : Int) (e4 e5 e6 e7 e8 : Option V) : St := [some (.ref a), some v, some (.ref D), some (.int t), e4, e5, e6, e7, e8]
end
end P2
end

section
set_option maxRecDepth 100000
set_option maxHeartbeats 4000000
namespace P2
open PySem L2 ClX ZM
def levB (ts : List (List Int × Int)) : Bool := ts.all fun q => decide (q.1.sum = degOf ts)
/-- the terms of one degree -/
def layL (d : Int) (ts : List (List Int × Int)) : List (List Int × Int) := ts.filter fun q => decide (q.1.sum = d)
theorem layL_snoc {d : Int} {ts : List (List Int × Int)} {i : Nat} {q : List Int × Int} (h : ts[i]? = some q) : layL d (ts.take (i + 1)) = if q.1.sum = d then layL d (ts.take i) ++ [q] else layL d (ts.take i) := by
  unfold layL
  rw [List.take_succ, h, List.filter_append]
  by_cases hz : q.1.sum = d
  · simp [hz]
  · simp [hz]
theorem layL_mem {d : Int} {ts : List (List Int × Int)} {q : List Int × Int} : q ∈ layL d ts ↔ q ∈ ts ∧ q.1.sum = d := by
  unfold layL
  rw [List.mem_filter]
  simp
theorem layL_nd {d : Int} {ts : List (List Int × Int)} (h : (ts.map (·.1)).Nodup) : ((layL d ts).map (·.1)).Nodup := (List.Sublist.map _ List.filter_sublist).nodup h
theorem layL_len (d : Int) (ts : List (List Int × Int)) : (layL d ts).length ≤ ts.length := List.length_filter_le _ _
theorem layL_notin {d : Int} {ts : List (List Int × Int)} (h : (ts.map (·.1)).Nodup) {i : Nat} {q : List Int × Int} (e : ts[i]? = some q) : q.1 ∉ (layL d (ts.take i)).map (·.1) := fun m => by
  obtain ⟨u, hu, eu⟩ := List.mem_map.mp m
  exact take_notin h e (List.mem_map.mpr ⟨u, (layL_mem.mp hu).1, eu⟩)
section
variable {P : Program} {w : World} {K : PySem.W.Frag} {mg : Str → Option Value} {base : Heap} {bp C B M N BA : Addr}
def spIsLevel (K : PySem.W.Frag) (C B : Addr) : Sp := fun vs H Q E => ∃ u, vs = [u] ∧ ((Odd K H u ∧ E (.ref B) none H) ∨ ∃ (a : Addr) (p : Int) (k : Nat) (ts : List (List Int × Int)), u = .ref a ∧ PolyAt H C a p k ts ∧ TsOk p k ts ∧ ∀ H', Same H H' → Q (.bl (levB ts)) H')
def spLayerOf (K : PySem.W.Frag) (C B N : Addr) : Sp := fun vs H Q E => ∃ u v, vs = [u, v] ∧ ((Odd K H u ∧ E (.ref B) none H) ∨ ∃ (a : Addr) (p : Int) (k : Nat) (ts : List (List Int × Int)), u = .ref a ∧ PolyAt H C a p k ts ∧ PV K H v ∧ (inB v 0 120 = false → BadN N "degree" H E) ∧
  (inB v 0 120 = true → ∃ d : Int, v = .int d ∧ p ∈ primes ∧ 1 ≤ k ∧ k ≤ 12 ∧ TsOk p k ts ∧ Gives C H p k (layL d ts) Q))
abbrev NLY : List Str := ["one", "degree", "row", "number"]
end
end P2
end

section
set_option maxRecDepth 100000
set_option maxHeartbeats 4000000
namespace P2
open PySem L2 ClX ZM PySem.W
/-- a walk, whatever is done at each turn -/
theorem it_gen {J : It} {n : Nat} {G : Hp → Prop} {Y : Nat → Hp → V → Hp → Prop} {BODY : (Hp → Prop) → V → Hp → Prop} {H0 : Hp} {Qd : Hp → Prop} (w : Walk J n G Y) (Pv : Nat → Hp → Prop) (h0 : Pv 0 H0) (hG : ∀ i H, i ≤ n → Pv i H → G H)
    (hs : ∀ i x H H', i < n → Pv i H → Y i H x H' → BODY (Pv (i + 1)) x H') (hd : ∀ H, Pv n H → Qd H) :
    ∃ W : Nat → Nat → Hp → Prop, (∃ m, W 0 m H0) ∧ ∀ i m H, W i m H → (J.stop i H ∧ Qd H) ∨ (J.go i H ∧ ∃ Nx : Hp → Prop, (∀ H', Nx H' → ∃ m', m' < m ∧ W (i + 1) m' H') ∧ ∀ x H', J.yld i H x H' → BODY Nx x H') := by
  refine ⟨fun i m H => m = n - i ∧ i ≤ n ∧ Pv i H, ⟨n, by simp, Nat.zero_le _, h0⟩, ?_⟩
  rintro i m H ⟨rfl, hi, p⟩
  have q := hG i H hi p
  by_cases hlt : i < n
  · exact .inr ⟨w.goes i H hlt q, Pv (i + 1), fun H' p' => ⟨n - (i + 1), by omega, rfl, hlt, p'⟩, fun x H' y => hs i x H H' hlt p (w.yields i H x H' hlt q y)⟩
  · have e : i = n := by omega
    subst e
    exact .inl ⟨w.stops H q, hd H p⟩
theorem rowsL_len : ∀ (n t : Nat), 1 ≤ n → ∀ r ∈ rowsL n t, r.length = n ∧ (∀ e ∈ r, 0 ≤ e) ∧ r.sum = t
  | 1, t, _, r, h => by
    obtain rfl : r = [(t : Int)] := List.mem_singleton.mp h
    exact ⟨rfl, fun e he => by rw [List.mem_singleton.mp he]; omega, by simp⟩
  | n + 2, t, _, r, h => by
    obtain ⟨i, hi, hr⟩ := List.mem_flatMap.mp (show r ∈ (List.range (t + 1)).flatMap fun i => (rowsL (n + 1) (t - i)).map fun r => (i : Int) :: r from h)
    obtain ⟨r2, h2, rfl⟩ := List.mem_map.mp hr
    obtain ⟨a, b, c⟩ := rowsL_len (n + 1) (t - i) (by omega) r2 h2
    have hi := List.mem_range.mp hi
    refine ⟨by rw [List.length_cons, a], fun e he => ?_, by rw [List.sum_cons, c]; omega⟩
    rcases List.mem_cons.mp he with z | z
    · omega
    · exact b e z
theorem rowsP_mono (n t : Nat) {i j : Nat} (h : i ≤ j) : (rowsP n t i).length ≤ (rowsP n t j).length := by
  obtain ⟨d, rfl⟩ : ∃ d, j = i + d := ⟨j - i, by omega⟩
  induction d with
  | zero => exact Nat.le_refl _
  | succ d ih =>
    have z := rowsP_succ n t (i + d)
    rw [← Nat.add_assoc, z, List.length_append]
    have := ih (by omega)
    omega
section
variable {P : Program} {w : World} {K : PySem.W.Frag} {mg : Str → Option Value} {base : Heap} {bp C B M N BA : Addr}
def rComb : List V → Hp → VK → Prop := fun xs H Q => ∃ a b : Int, xs = [.int a, .int b] ∧ 0 ≤ a ∧ 0 ≤ b ∧ a < 2 ^ 64 ∧ b ≤ 9000 ∧ Q (.int (mcComb a b)) H
theorem call_comb {X : Cx} : CallR X (.builtin "math.comb") rComb := by
  intro pins s σ H xs us Q I r h
  obtain ⟨a, b, rfl, ha, hb, ha2, hk, q⟩ := h
  obtain ⟨u1, u2, rfl, ⟨t1, rfl⟩, ⟨t2, rfl⟩⟩ := vals2 r
  exact mc_comb ha hb ha2 (.inl hk) fun _ => ⟨.int (mcComb a b), H, I.tok _, ⟨_, rfl⟩, q⟩
def spRowCount : Sp := fun vs H Q _ => ∃ n t : Int, vs = [.int n, .int t] ∧ 1 ≤ n ∧ n ≤ 12 ∧ 0 ≤ t ∧ t ≤ 120 ∧ Q (.int (mcComb (t + n - 1) (n - 1))) H
def spCheckRows (M : Addr) : Sp := fun vs H Q E => ∃ n t : Int, vs = [.int n, .int t] ∧ 1 ≤ n ∧ n ≤ 12 ∧ 0 ≤ t ∧ t ≤ 120 ∧ (300 < mcComb (t + n - 1) (n - 1) → ∀ d H', Same H H' → H d = none → H' d = some (.xd [("most", .int 300)]) → E (.ref M) (some d) H') ∧ (¬ 300 < mcComb (t + n - 1) (n - 1) → Q .non H)
/-- as many rows as a list may hold here -/
def spLevRows (n : Nat) : Sp := fun vs H Q _ => ∃ (x y : Int) (t : Nat), vs = [.int x, .int y] ∧ x = n ∧ y = t ∧ 1 ≤ n ∧ n ≤ 12 ∧ t ≤ 120 ∧ (rowsL n t).length ≤ 1000 ∧ ∀ p H' bs, Same H H' → H p = none → H' p = some (.lst (bs.map V.ref)) → RowsAt H' bs (rowsL n t) → Q (.ref p) H'
abbrev NLR : List Str := ["wide", "degree", "first", "row"]
end
end P2
end

section
set_option maxRecDepth 100000
set_option maxHeartbeats 4000000
namespace P2
open PySem L2 ClX ZM PySem.W
section
variable {P : Program} {w : World} {K : PySem.W.Frag} {mg : Str → Option Value} {base : Heap} {bp C B M N BA : Addr}
def spRowsOf (K : PySem.W.Frag) (N M : Addr) : Sp := fun vs H Q E => ∃ u v, vs = [u, v] ∧ PV K H u ∧ (inB u 1 12 = false → BadN N "wide" H E) ∧ (inB u 1 12 = true → PV K H v ∧ (inB v 0 120 = false → BadN N "degree" H E) ∧
  (inB v 0 120 = true → ∃ n t : Nat, u = .int n ∧ v = .int t ∧ (300 < mcComb ((t : Int) + n - 1) ((n : Int) - 1) → ∀ d H', Same H H' → H d = none → H' d = some (.xd [("most", .int 300)]) → E (.ref M) (some d) H') ∧
    (¬ 300 < mcComb ((t : Int) + n - 1) ((n : Int) - 1) → (rowsL n t).length ≤ 1000 ∧ ∀ p H' bs, Same H H' → H p = none → H' p = some (.lst (bs.map V.ref)) → RowsAt H' bs (rowsL n t) → Q (.ref p) H')))
abbrev NRF : List Str := ["wide", "degree"]
end
end P2
end

section
set_option maxRecDepth 100000
set_option maxHeartbeats 4000000
namespace P2
open PySem L2 ClX ZM PySem.W
section
variable {P : Program} {w : World} {K : PySem.W.Frag} {mg : Str → Option Value} {base : Heap} {bp C B M N BA : Addr}
def spLawPow : Sp := fun vs H Q _ => ∃ (p x : Int) (n : Nat), vs = [.int p, .int x, .int n] ∧ 2 ≤ p ∧ p < 100 ∧ n ≤ 1000 ∧ Q (.int (pwm p x n)) H
abbrev NLP : List Str := ["field", "number", "times_here", "found", "lap"]
def spTruth : Sp := fun vs H Q _ => ∃ b c : Bool, vs = [.bl b, .bl c] ∧ Q (.bl (b == c)) H
/-- the terms that are drawn: up to four, of degree up to m, numbers from 1 to below the prime -/
structure Trm (n m : Nat) (p : Int) (ts : List (List Int × Int)) : Prop where
  nd : (ts.map (·.1)).Nodup
  rows : ∀ q ∈ ts, q.1.length = n ∧ (∀ e ∈ q.1, 0 ≤ e) ∧ q.1.sum ≤ m
  len : ts.length ≤ 4
  vals : ∀ q ∈ ts, 0 < q.2 ∧ q.2 < p
theorem Trm.four {n m : Nat} {p : Int} {ts : List (List Int × Int)} (h : Trm n m p ts) (h1 : 1 ≤ n) (h6 : m ≤ 6) : Four n ts := fun q hq => let ⟨a, b, c⟩ := h.rows q hq; four_of h1 a b (by omega)
theorem Trm.rowsOk {n m : Nat} {p : Int} {ts : List (List Int × Int)} (h : Trm n m p ts) (h6 : m ≤ 120) : RowsOk n ts := fun q hq => let ⟨a, b, c⟩ := h.rows q hq; ⟨a, b, by omega⟩
theorem Trm.tsOk {n m : Nat} {p : Int} {ts : List (List Int × Int)} (h : Trm n m p ts) (h6 : m ≤ 120) : TsOk p n ts := ⟨h.nd, h.rowsOk h6, h.vals, by have := h.len; omega⟩
theorem rows_cnt : ∀ n, n < 4 → ∀ t, t < 7 → 1 ≤ n → 0 < (rowsL n t).length ∧ (rowsL n t).length < 1000 := by decide +kernel
def spTerms3 : Sp := fun vs H Q _ => ∃ (d l c : Addr) (p : Int) (n m : Nat), vs = [.ref d, .int p, .int n, .int m] ∧ DrawAt H d l c ∧ 2 ≤ p ∧ p < 100 ∧ 1 ≤ n ∧ n ≤ 3 ∧ m ≤ 6 ∧
  ∀ D H' ts, H D = none → DrawAt H' d l c → Drawn d l H H' → H' D = some (.dT (rK ts)) → Trm n m p ts → Q (.ref D) H'
abbrev NT3 : List Str := ["draw", "field", "wide_here", "most", "found", "lap", "row"]
end
end P2
end

section
set_option maxRecDepth 100000
set_option maxHeartbeats 4000000
namespace P2
open PySem L2 ClX ZM PySem.W
theorem sqB_frz {K : PySem.W.Frag} {b : Bool} {H : Hp} {c a : Addr} {xs : List V} {u : List (List Key × V)} {o : HO} (ha : H a = some (.dT u)) (h : SqB K b H c xs) : SqB K b (upd H a o) c xs := by
  have ne : ∀ {v : HO}, H c = some v → (∀ w, v ≠ .dT w) → upd H a o c = some v := fun e g => by
    rw [upd_ne]
    · exact e
    · intro z
      rw [z, ha] at e
      exact g u (Option.some.inj e).symm
  cases b
  · rcases h with (h | ⟨q, h⟩) | h
    · exact .inl (.inl (ne h (fun w z => by cases z)))
    · exact .inl (.inr ⟨q, ne h (fun w z => by cases z)⟩)
    · exact .inr h
  · rcases h with (h | ⟨q, h⟩) | h
    · exact .inl (.inl (ne h (fun w z => by cases z)))
    · exact .inl (.inr ⟨q, ne h (fun w z => by cases z)⟩)
    · exact .inr h
section
variable {P : Program} {w : World} {K : PySem.W.Frag} {mg : Str → Option Value} {base : Heap} {bp C B M N BA : Addr}
def spLawVal (K : PySem.W.Frag) : Sp := fun vs H Q _ => ∃ (p : Int) (a c : Addr) (b : Bool) (ts : List (List Int × Int)) (zs : List Int), vs = [.int p, .ref a, .ref c] ∧ 2 ≤ p ∧ p < 100 ∧ H a = some (.dT (rK ts)) ∧ (ts.map (·.1)).Nodup ∧ ts.length ≤ 1000 ∧ SqB K b H c (zs.map V.int) ∧ zs.length ≤ 12 ∧
  (∀ q ∈ ts, q.1.length = zs.length ∧ (∀ e ∈ q.1, 0 ≤ e ∧ e ≤ 1000) ∧ 0 < q.2 ∧ q.2 < p) ∧ ∀ H', Same H H' → Q (.int (pr ts (mono zs) % p)) H'
abbrev NLV : List Str := ["field", "terms_here", "place_here", "found", "row", "part_here", "item", "times_here"]
abbrev slW (p : Int) (a c : Addr) (t : Int) (e4 e5 e6 e7 : Option V) : St := [some (.int p), some (.ref a), some (.ref c), some (.int t), e4, e5, e6, e7]
end
end P2
end

section
set_option maxRecDepth 100000
set_option maxHeartbeats 4000000
namespace P2
open PySem L2 ClX ZM PySem.W
section
variable {P : Program} {w : World} {K : PySem.W.Frag} {mg : Str → Option Value} {base : Heap} {bp C B M N BA : Addr}
def spLawSlope : Sp := fun vs H Q _ => ∃ (p : Int) (a : Addr) (s k : Nat) (ts : List (List Int × Int)), vs = [.int p, .ref a, .int s] ∧ 0 < p ∧ H a = some (.dT (rK ts)) ∧ (ts.map (·.1)).Nodup ∧ ts.length ≤ 1000 ∧ s < k ∧ k ≤ 12 ∧
  (∀ q ∈ ts, q.1.length = k ∧ (∀ e ∈ q.1, 0 ≤ e) ∧ -(2 ^ 60) < q.2 ∧ q.2 < 2 ^ 60) ∧ ∀ D H', Same H H' → H D = none → H' D = some (.dT (rK (tid p (slopeL s ts)))) → Q (.ref D) H'
abbrev NLS : List Str := ["field", "one", "spot", "found", "row"]
abbrev slS (p : Int) (a D : Addr) (s : Nat) (e4 : Option V) : St := [some (.int p), some (.ref a), some (.int s), some (.ref D), e4]
end
end P2
end

section
set_option maxRecDepth 100000
set_option maxHeartbeats 4000000
/-! What is put in, by rows: as the law works it out. -/
namespace P2
/-- the polynomials, each to its exponent, multiplied -/
def rowT (k : Nat) : List (List (List Int × Int)) → List Int → (List Int → Int) → Int
  | t :: tss, e :: es, φ => pwR t k e.toNat fun a => rowT k tss es fun b => φ (addR a b)
  | _, _, φ => φ (List.replicate k 0)
theorem addR_assoc : ∀ a b c : List Int, addR (addR a b) c = addR a (addR b c)
  | [], b, c => by simp [addR]
  | x :: a, [], c => by simp [addR]
  | x :: a, y :: b, [] => by simp [addR]
  | x :: a, y :: b, z :: c => by
    show (x + y + z) :: addR (addR a b) c = (x + (y + z)) :: addR a (addR b c)
    rw [addR_assoc a b c, Int.add_assoc]
theorem addR_zero : ∀ (a : List Int), addR a (List.replicate a.length 0) = a
  | [] => rfl
  | x :: a => by
    show (x + 0) :: addR a (List.replicate a.length 0) = x :: a
    rw [addR_zero a, Int.add_zero]
theorem zero_addR : ∀ (a : List Int), addR (List.replicate a.length 0) a = a
  | [] => rfl
  | x :: a => by
    show (0 + x) :: addR (List.replicate a.length 0) a = x :: a
    rw [zero_addR a, Int.zero_add]
structure Fit (k : Nat) (d : Int) (t : List (List Int × Int)) : Prop where
  rows : RowsOk k t
  sum : ∀ q ∈ t, q.1.sum ≤ d
theorem rowT_congr {k : Nat} : ∀ {tss : List (List (List Int × Int))} {ds es : List Int} {φ φ' : List Int → Int}, tss.length = ds.length → tss.length = es.length → (∀ (i : Nat) (t : List (List Int × Int)) (d : Int), tss[i]? = some t → ds[i]? = some d → Fit k d t) → (∀ e ∈ es, 0 ≤ e) →
    (∀ r, r.length = k → (∀ e ∈ r, 0 ≤ e) → r.sum ≤ degS ds es → φ r = φ' r) → rowT k tss es φ = rowT k tss es φ'
  | [], [], [], _, _, _, _, _, _, h => h _ List.length_replicate (fun e he => by rw [(List.mem_replicate.mp he).2]; exact Int.le_refl _) (by rw [zeros_sum]; exact Int.le_refl _)
  | t :: tss, d :: ds, e :: es, _, _, l1, l2, f, g, h => by
    have ft := f 0 t d rfl rfl
    refine pwR_congr ft.rows ft.sum fun a a1 a2 a3 => ?_
    refine rowT_congr (ds := ds) (by simpa using l1) (by simpa using l2) (fun i t d h1 h2 => f (i + 1) t d (by simpa using h1) (by simpa using h2)) (fun x hx => g x (List.mem_cons_of_mem _ hx)) fun b b1 b2 b3 => ?_
    have e0 := g e List.mem_cons_self
    refine h _ (addR_len a1 b1) (addR_nn a2 b2) ?_
    rw [addR_sum (by rw [a1, b1])]
    show a.sum + b.sum ≤ e * d + degS ds es
    have : ((e.toNat : Nat) : Int) = e := by omega
    rw [this] at a3
    omega
  | [], _ :: _, _, _, _, l1, _, _, _, _ => by cases l1
  | [], _, _ :: _, _, _, _, l2, _, _, _ => by cases l2
  | _ :: _, [], _, _, _, l1, _, _, _, _ => by cases l1
  | _ :: _, _, [], _, _, _, l2, _, _, _ => by cases l2
/-- as the packs do -/
theorem rowT_putT {k : Nat} : ∀ {tss : List (List (List Int × Int))} {ds es : List Int} (ψ : Int → Int), tss.length = ds.length → tss.length = es.length → (∀ (i : Nat) (t : List (List Int × Int)) (d : Int), tss[i]? = some t → ds[i]? = some d → Fit k d t) → (∀ e ∈ es, 0 ≤ e) → (∀ t ∈ tss, (t.map (·.1)).Nodup) →
    rowT k tss es (fun r => ψ (packR r)) = putT (tss.map packOf) es ψ
  | [], [], [], ψ, _, _, _, _, _ => by
    show ψ (packR (List.replicate k 0)) = ψ 0
    rw [pack_zeros]
  | t :: tss, d :: ds, e :: es, ψ, l1, l2, f, g, n => by
    have ft := f 0 t d rfl rfl
    have f' : ∀ i t d, tss[i]? = some t → ds[i]? = some d → Fit k d t := fun i t d h1 h2 => f (i + 1) t d (by simpa using h1) (by simpa using h2)
    have g' : ∀ x ∈ es, 0 ≤ x := fun x hx => g x (List.mem_cons_of_mem _ hx)
    show pwR t k e.toNat (fun a => rowT k tss es fun b => ψ (packR (addR a b))) = pw (packOf t) e.toNat fun x => putT (tss.map packOf) es fun y => ψ (x + y)
    rw [← pwR_pw (n t List.mem_cons_self) ft.rows]
    refine pwR_congr ft.rows ft.sum fun a a1 a2 a3 => ?_
    rw [← rowT_putT (fun y => ψ (packR a + y)) (by simpa using l1) (by simpa using l2) f' g' fun t ht => n t (List.mem_cons_of_mem _ ht)]
    exact rowT_congr (ds := ds) (by simpa using l1) (by simpa using l2) f' g' fun b b1 b2 b3 => by rw [packR_add (by rw [a1, b1])]
  | [], _ :: _, _, _, l1, _, _, _, _ => by cases l1
  | [], _, _ :: _, _, _, l2, _, _, _ => by cases l2
  | _ :: _, [], _, _, l1, _, _, _, _ => by cases l1
  | _ :: _, _, [], _, _, l2, _, _, _ => by cases l2
theorem rowT_snoc {k : Nat} {t : List (List Int × Int)} {e : Int} {d : Int} (ft : Fit k d t) : ∀ {tss : List (List (List Int × Int))} {es : List Int} (φ : List Int → Int), tss.length = es.length → (∀ t ∈ tss, RowsOk k t) →
    rowT k (tss ++ [t]) (es ++ [e]) φ = rowT k tss es fun a => pwR t k e.toNat fun b => φ (addR a b)
  | [], [], φ, _, _ => by
    show (pwR t k e.toNat fun a => φ (addR a (List.replicate k 0))) = pwR t k e.toNat fun b => φ (addR (List.replicate k 0) b)
    refine pwR_congr ft.rows ft.sum fun a a1 a2 a3 => ?_
    subst a1
    rw [addR_zero, zero_addR]
  | s :: tss, x :: es, φ, l, h => by
    show (pwR s k x.toNat fun a => rowT k (tss ++ [t]) (es ++ [e]) fun b => φ (addR a b)) = pwR s k x.toNat fun a => rowT k tss es fun b => pwR t k e.toNat fun c => φ (addR (addR a b) c)
    congr 1
    funext a
    rw [rowT_snoc ft (fun b => φ (addR a b)) (by simpa using l) fun t ht => h t (List.mem_cons_of_mem _ ht)]
    congr 1
    funext b
    congr 1
    funext c
    rw [addR_assoc]
  | [], _ :: _, _, l, _ => by cases l
  | _ :: _, [], _, l, _ => by cases l
theorem pwR_step {k : Nat} {t : List (List Int × Int)} (l : Nat) (a : List Int) (φ : List Int → Int) : (pwR t k l fun b => pr t fun y => φ (addR (addR a b) y)) = pwR t k (l + 1) fun b => φ (addR a b) := by
  show _ = pwR t k l fun x => pr t fun y => φ (addR a (addR x y))
  congr 1
  funext b
  congr 1
  funext y
  rw [addR_assoc]
end P2
end

section
set_option maxRecDepth 100000
set_option maxHeartbeats 8000000
namespace P2
open PySem L2 ClX ZM PySem.W
theorem degS_snoc : ∀ {ds es : List Int} {j : Nat} {d e : Int}, ds[j]? = some d → es[j]? = some e → degS (ds.take (j + 1)) (es.take (j + 1)) = degS (ds.take j) (es.take j) + e * d
  | [], _, _, _, _, h, _ => by cases h
  | _ :: _, [], _, _, _, _, h => by cases h
  | y :: ds, x :: es, 0, d, e, h, g => by
    obtain rfl : y = d := Option.some.inj h
    obtain rfl : x = e := Option.some.inj g
    show x * y + degS (ds.take 0) (es.take 0) = 0 + x * y
    rw [List.take_zero, List.take_zero]
    show x * y + 0 = 0 + x * y
    omega
  | y :: ds, x :: es, j + 1, d, e, h, g => by
    show x * y + degS (ds.take (j + 1)) (es.take (j + 1)) = x * y + degS (ds.take j) (es.take j) + e * d
    rw [degS_snoc (j := j) (by simpa using h) (by simpa using g)]
    omega
theorem degS_part : ∀ {ds es : List Int} (j : Nat), (∀ d ∈ ds, 0 ≤ d) → (∀ e ∈ es, 0 ≤ e) → degS (ds.take j) (es.take j) ≤ degS ds es
  | [], [], _, _, _ => by simp [degS]
  | [], _ :: _, _, _, _ => by simp [degS]
  | d :: ds, [], j, _, _ => by cases j <;> exact Int.le_refl _
  | d :: ds, e :: es, 0, h, g => degS_nn h g
  | d :: ds, e :: es, j + 1, h, g => by
    have z := degS_part (ds := ds) (es := es) j (fun x hx => h x (List.mem_cons_of_mem _ hx)) fun x hx => g x (List.mem_cons_of_mem _ hx)
    show e * d + _ ≤ e * d + _
    omega
/-- the others of the law stand in memory -/
structure LisAt (H : Hp) (as : List Addr) (tss : List (List (List Int × Int))) : Prop where
  l : as.length = tss.length
  at_ : ∀ i, i < tss.length → H (as.getD i 0) = some (.dT (rK (tss.getD i [])))
theorem LisAt.same {H H' : Hp} {as : List Addr} {tss : List (List (List Int × Int))} (S : Same H H') (h : LisAt H as tss) : LisAt H' as tss := ⟨h.l, fun i hi => S _ _ (h.at_ i hi)⟩
structure OtherOk (k : Nat) (d : Int) (t : List (List Int × Int)) : Prop where
  nd : (t.map (·.1)).Nodup
  fit : Fit k d t
  len : t.length ≤ 100
/-- a part under way -/
structure PartOk (k : Nat) (B : Int) (A : List (List Int × Int)) : Prop where
  nd : (A.map (·.1)).Nodup
  rows : ∀ q ∈ A, q.1.length = k ∧ (∀ e ∈ q.1, 0 ≤ e) ∧ q.1.sum ≤ B
  vals : ∀ q ∈ A, -(2 ^ 60) < q.2 ∧ q.2 < 2 ^ 60
theorem PartOk.four {k : Nat} {B : Int} {A : List (List Int × Int)} (h : PartOk k B A) (k1 : 1 ≤ k) (b : B ≤ 6) : Four k A := fun q hq => let ⟨x, y, z⟩ := h.rows q hq; four_of k1 x y (by omega)
theorem PartOk.le {k : Nat} {B B' : Int} {A : List (List Int × Int)} (h : PartOk k B A) (l : B ≤ B') : PartOk k B' A := ⟨h.nd, fun q hq => let ⟨x, y, z⟩ := h.rows q hq; ⟨x, y, by omega⟩, h.vals⟩
theorem rows4_len : ∀ n, n < 4 → (rows4 n).length ≤ 100 := by decide +kernel
theorem four_len {k : Nat} (k3 : k < 4) {A : List (List Int × Int)} (nd : (A.map (·.1)).Nodup) (h : Four k A) : A.length ≤ 100 := by
  have z := len_sub (ys := rows4 k) nd fun a ha => by
    obtain ⟨q, hq, rfl⟩ := List.mem_map.mp ha
    exact h q hq
  rw [List.length_map] at z
  exact Nat.le_trans z (rows4_len k k3)
theorem PartOk.mul {k : Nat} {B d p : Int} {A t : List (List Int × Int)} (p0 : 0 < p) (p9 : p < 100) (h : PartOk k B A) (g : OtherOk k d t) : PartOk k (B + d) (tid p (mulL A t)) := by
  have nd := mulL_nd A t
  have key : Keys (fun r => r.length = k ∧ (∀ e ∈ r, 0 ≤ e) ∧ r.sum ≤ B + d) (mulL A t) := mulL_keys fun a ha b hb => by
    obtain ⟨a1, a2, a3⟩ := h.rows a ha
    obtain ⟨b1, b2, b3⟩ := g.fit.rows b hb
    have b4 := g.fit.sum b hb
    exact ⟨addR_len a1 b1, addR_nn a2 b2, by rw [addR_sum (by rw [a1, b1])]; omega⟩
  refine ⟨tid_nd, fun q hq => ?_, fun q hq => ?_⟩
  · obtain ⟨u, hu, e⟩ := tid_sub nd hq
    rw [← e]
    exact key u hu
  · have v := tid_val p0 nd hq
    omega
section
variable {P : Program} {w : World} {K : PySem.W.Frag} {mg : Str → Option Value} {base : Heap} {bp C B M N BA : Addr}
def spLawPut (K : PySem.W.Frag) (k : Nat) : Sp := fun vs H Q _ => ∃ (p : Int) (a oA : Addr) (ts : List (List Int × Int)) (as : List Addr) (tss : List (List (List Int × Int))) (ds : List Int) (Bd : Int), vs = [.int p, .ref a, .ref oA, .int k] ∧ 2 ≤ p ∧ p < 100 ∧ H a = some (.dT (rK ts)) ∧ (ts.map (·.1)).Nodup ∧ ts.length ≤ 100 ∧
  SqL K H oA (as.map V.ref) ∧ LisAt H as tss ∧ (∀ i, i < as.length → as.getD i 0 ≠ a) ∧ tss.length = ds.length ∧ tss.length ≤ 12 ∧ (∀ (i : Nat) (t : List (List Int × Int)) (d : Int), tss[i]? = some t → ds[i]? = some d → OtherOk k d t) ∧ (∀ d ∈ ds, 0 ≤ d) ∧ 0 ≤ Bd ∧ Bd ≤ 6 ∧
  (∀ q ∈ ts, q.1.length = tss.length ∧ (∀ e ∈ q.1, 0 ≤ e ∧ e ≤ 1000) ∧ degS ds q.1 ≤ Bd ∧ -(2 ^ 60) < q.2 ∧ q.2 < 2 ^ 60) ∧
  ∀ D H' R, Same H H' → H D = none → H' D = some (.dT (rK R)) → PartOk k Bd R → tid p R = R → (∀ φ, Eqm p (pr R φ) (pr ts fun r => rowT k tss r φ)) → Q (.ref D) H'
abbrev NPT : List Str := ["field", "one", "others", "wide_here", "found", "row", "part_here", "other", "times_here", "lap"]
abbrev slPt (p : Int) (a oA : Addr) (k : Nat) (Fd : Addr) (e5 e6 e7 e8 e9 : Option V) : St := [some (.int p), some (.ref a), some (.ref oA), some (.int k), some (.ref Fd), e5, e6, e7, e8, e9]
end
end P2
end

section
set_option maxRecDepth 100000
set_option maxHeartbeats 4000000
/-! What is put in, by rows: values, slopes, and what counts modulo the prime. -/
namespace P2
theorem pwR_eqm {p : Int} {t : List (List Int × Int)} {k : Nat} : ∀ {n : Nat} {φ ψ : List Int → Int}, (∀ a, Eqm p (φ a) (ψ a)) → Eqm p (pwR t k n φ) (pwR t k n ψ)
  | 0, _, _, h => h _
  | n + 1, _, _, h => pwR_eqm (n := n) fun a => pr_eqm fun b _ => h _
theorem pwR_eqp {p : Int} {t t' : List (List Int × Int)} {k : Nat} (e : Eqp p t t') : ∀ (n : Nat) (φ : List Int → Int), Eqm p (pwR t k n φ) (pwR t' k n φ)
  | 0, _ => .rfl
  | n + 1, φ => (pwR_eqm fun a => e fun b => φ (addR a b)).trans (pwR_eqp e n fun a => pr t' fun b => φ (addR a b))
theorem rowT_eqm {p : Int} {k : Nat} : ∀ {tss : List (List (List Int × Int))} {es : List Int} {φ ψ : List Int → Int}, (∀ a, Eqm p (φ a) (ψ a)) → Eqm p (rowT k tss es φ) (rowT k tss es ψ)
  | [], [], _, _, h => h _
  | [], _ :: _, _, _, h => h _
  | _ :: _, [], _, _, h => h _
  | t :: tss, e :: es, _, _, h => pwR_eqm fun a => rowT_eqm fun b => h _
theorem rowT_eqp {p : Int} {k : Nat} : ∀ {tss tss' : List (List (List Int × Int))} {es : List Int} (φ : List Int → Int), tss.length = tss'.length → (∀ (i : Nat) (t t' : List (List Int × Int)), tss[i]? = some t → tss'[i]? = some t' → Eqp p t t') → Eqm p (rowT k tss es φ) (rowT k tss' es φ)
  | [], [], es, φ, _, _ => by cases es <;> exact .rfl
  | t :: tss, t' :: tss', [], φ, _, _ => .rfl
  | t :: tss, t' :: tss', e :: es, φ, l, h => (pwR_eqm fun a => rowT_eqp (fun b => φ (addR a b)) (by simpa using l) fun i u u' h1 h2 => h (i + 1) u u' (by simpa using h1) (by simpa using h2)).trans (pwR_eqp (h 0 t t' rfl rfl) _ _)
  | [], _ :: _, _, _, l, _ => by cases l
  | _ :: _, [], _, _, l, _ => by cases l
theorem pw_nil {n : Nat} (h : 0 < n) (φ : Int → Int) : pw [] n φ = 0 := by
  cases n with
  | zero => omega
  | succ n => rfl
theorem pw_zero (f : List (Int × Int)) : ∀ n : Nat, pw f n (fun _ => 0) = 0
  | 0 => rfl
  | n + 1 => by
    show (pr f fun x => pw f n fun y => 0) = 0
    have e : (fun x : Int => pw f n fun y => 0) = fun _ => 0 := funext fun x => pw_zero f n
    rw [e]
    exact pr_zero f
/-- a factor 0 makes it 0 -/
theorem putT_zero : ∀ {tss : List (List (List Int × Int))} {es : List Int} (ψ : Int → Int), (∀ t ∈ tss, degOf t < 0 → t = []) → zeroB es (tss.map degOf) = true → putT (tss.map packOf) es ψ = 0
  | [], es, _, _, h => by
    unfold zeroB at h
    cases es <;> simp at h
  | t :: tss, [], _, _, h => by simp [zeroB] at h
  | t :: tss, e :: es, ψ, g, h => by
    have h' : ((decide (0 < e) && decide (degOf t < 0)) || zeroB es (tss.map degOf)) = true := h
    show pw (packOf t) e.toNat (fun x => putT (tss.map packOf) es fun y => ψ (x + y)) = 0
    rcases Bool.or_eq_true_iff.mp h' with z | z
    · obtain ⟨z1, z2⟩ := Bool.and_eq_true_iff.mp z
      have t0 := g t List.mem_cons_self (of_decide_eq_true z2)
      have e1 := of_decide_eq_true z1
      rw [t0]
      exact pw_nil (by omega) _
    · have e : (fun x : Int => putT (tss.map packOf) es fun y => ψ (x + y)) = fun _ => 0 := funext fun x => putT_zero _ (fun t ht => g t (List.mem_cons_of_mem _ ht)) z
      rw [e, pw_zero]
theorem deg_neg {ts : List (List Int × Int)} (h : ∀ q ∈ ts, ∀ e ∈ q.1, 0 ≤ e) (d : degOf ts < 0) : ts = [] := by
  cases ts with
  | nil => rfl
  | cons q ts =>
    have z := degOf_all (ts := q :: ts) q List.mem_cons_self
    have y := (le_sum (h q List.mem_cons_self)).2
    omega
/-- only the live terms count -/
theorem pr_live {ds : List Int} {F : List Int → Int} : ∀ {ts : List (List Int × Int)}, (∀ q ∈ ts, zeroB q.1 ds = true → F q.1 = 0) → pr (liveT ds ts) F = pr ts F
  | [], _ => rfl
  | q :: ts, h => by
    have ih := pr_live (ts := ts) fun x hx => h x (List.mem_cons_of_mem _ hx)
    rw [pr_cons]
    cases hz : zeroB q.1 ds with
    | true =>
      have e : liveT ds (q :: ts) = liveT ds ts := by simp [liveT, hz]
      rw [e, ih, h q List.mem_cons_self hz, Int.mul_zero, Int.zero_add]
    | false =>
      have e : liveT ds (q :: ts) = q :: liveT ds ts := by simp [liveT, hz]
      rw [e, pr_cons, ih]
theorem mono_addR {zs : List Int} : ∀ {a b : List Int}, a.length = b.length → a.length = zs.length → (∀ e ∈ a, 0 ≤ e) → (∀ e ∈ b, 0 ≤ e) → mono zs (addR a b) = mono zs a * mono zs b := by
  induction zs with
  | nil =>
    intro a b l1 l2 _ _
    cases a with
    | nil => cases b with
      | nil => rfl
      | cons _ _ => cases l1
    | cons _ _ => cases l2
  | cons z zs ih =>
    intro a b l1 l2 ha hb
    cases a with
    | nil => cases l2
    | cons x a => cases b with
      | nil => cases l1
      | cons y b =>
        have x0 := ha x List.mem_cons_self
        have y0 := hb y List.mem_cons_self
        show z ^ (x + y).toNat * mono zs (addR a b) = z ^ x.toNat * mono zs a * (z ^ y.toNat * mono zs b)
        rw [ih (by simpa using l1) (by simpa using l2) (fun e he => ha e (List.mem_cons_of_mem _ he)) fun e he => hb e (List.mem_cons_of_mem _ he), Int.toNat_add x0 y0, Int.pow_add]
        simp only [Int.mul_assoc, Int.mul_left_comm, Int.mul_comm]
end P2
end

section
set_option maxRecDepth 100000
set_option maxHeartbeats 4000000
/-! Values and slopes of what is put in. -/
namespace P2
theorem pwR_smul {t : List (List Int × Int)} {k : Nat} (c : Int) : ∀ (n : Nat) (φ : List Int → Int), pwR t k n (fun a => c * φ a) = c * pwR t k n φ
  | 0, _ => rfl
  | n + 1, φ => by
    show pwR t k n (fun a => pr t fun b => c * φ (addR a b)) = c * pwR t k n fun a => pr t fun b => φ (addR a b)
    rw [← pwR_smul c n]
    congr 1
    funext a
    exact pr_mul c _ t
theorem pwR_add {t : List (List Int × Int)} {k : Nat} : ∀ (n : Nat) (φ ψ : List Int → Int), pwR t k n (fun a => φ a + ψ a) = pwR t k n φ + pwR t k n ψ
  | 0, _, _ => rfl
  | n + 1, φ, ψ => by
    show pwR t k n (fun a => pr t fun b => φ (addR a b) + ψ (addR a b)) = _
    have e : (fun a => pr t fun b => φ (addR a b) + ψ (addR a b)) = fun a => (pr t fun b => φ (addR a b)) + pr t fun b => ψ (addR a b) := funext fun a => pr_add _ _ t
    rw [e]
    exact pwR_add n _ _
theorem pwR_zero0 {t : List (List Int × Int)} {k : Nat} : ∀ n : Nat, pwR t k n (fun _ => 0) = 0
  | 0 => rfl
  | n + 1 => by
    show pwR t k n (fun a => pr t fun b => 0) = 0
    have e : (fun _ : List Int => pr t fun _ => (0 : Int)) = fun _ => 0 := funext fun a => pr_zero t
    rw [e]
    exact pwR_zero0 n
theorem rowT_smul {k : Nat} (c : Int) : ∀ (tss : List (List (List Int × Int))) (es : List Int) (φ : List Int → Int), rowT k tss es (fun a => c * φ a) = c * rowT k tss es φ
  | [], [], _ => rfl
  | [], _ :: _, _ => rfl
  | _ :: _, [], _ => rfl
  | t :: tss, e :: es, φ => by
    show pwR t k e.toNat (fun a => rowT k tss es fun b => c * φ (addR a b)) = c * pwR t k e.toNat fun a => rowT k tss es fun b => φ (addR a b)
    rw [← pwR_smul]
    congr 1
    funext a
    exact rowT_smul c tss es _
theorem rowT_add {k : Nat} : ∀ (tss : List (List (List Int × Int))) (es : List Int) (φ ψ : List Int → Int), rowT k tss es (fun a => φ a + ψ a) = rowT k tss es φ + rowT k tss es ψ
  | [], [], _, _ => rfl
  | [], _ :: _, _, _ => rfl
  | _ :: _, [], _, _ => rfl
  | t :: tss, e :: es, φ, ψ => by
    show pwR t k e.toNat (fun a => rowT k tss es fun b => φ (addR a b) + ψ (addR a b)) = _
    have z : (fun a => rowT k tss es fun b => φ (addR a b) + ψ (addR a b)) = fun a => (rowT k tss es fun b => φ (addR a b)) + rowT k tss es fun b => ψ (addR a b) := funext fun a => rowT_add tss es _ _
    rw [z]
    exact pwR_add _ _ _
theorem rowT_zero0 {k : Nat} (tss : List (List (List Int × Int))) (es : List Int) : rowT k tss es (fun _ => 0) = 0 := by
  have z : (rowT k tss es fun _ => 0) = 0 * rowT k tss es fun _ => 0 := rowT_smul (k := k) 0 tss es (fun _ => 0)
  rw [z, Int.zero_mul]
theorem rowT_pr {κ : Type} {k : Nat} (tss : List (List (List Int × Int))) (es : List Int) (F : List Int → κ → Int) : ∀ m : List (κ × Int), rowT k tss es (fun a => pr m fun b => F a b) = pr m fun b => rowT k tss es fun a => F a b
  | [] => rowT_zero0 tss es
  | q :: m => by
    have z : (fun a => pr (q :: m) fun b => F a b) = fun a => q.2 * F a q.1 + pr m fun b => F a b := funext fun a => pr_cons _ _ _
    rw [z, rowT_add, rowT_smul, rowT_pr tss es F m, pr_cons]
theorem mono_zeros : ∀ zs : List Int, mono zs (List.replicate zs.length 0) = 1
  | [] => rfl
  | z :: zs => by
    show z ^ (0 : Int).toNat * mono zs (List.replicate zs.length 0) = 1
    rw [mono_zeros zs]
    show z ^ 0 * 1 = 1
    rw [Int.pow_zero]
    rfl
theorem pwR_mono {zs : List Int} {t : List (List Int × Int)} {d : Int} (f : Fit zs.length d t) : ∀ n : Nat, pwR t zs.length n (mono zs) = (pr t (mono zs)) ^ n
  | 0 => by rw [Int.pow_zero]; exact mono_zeros zs
  | n + 1 => by
    show pwR t zs.length n (fun a => pr t fun b => mono zs (addR a b)) = _
    rw [Int.pow_succ, ← pwR_mono f n, Int.mul_comm, ← pwR_smul]
    refine pwR_congr f.rows f.sum fun a a1 a2 a3 => ?_
    rw [Int.mul_comm, ← pr_mul]
    exact pr_congr fun b hb => mono_addR (by rw [a1, (f.rows b hb).1]) a1 a2 (f.rows b hb).2.1
theorem rowT_mono {zs : List Int} : ∀ {tss : List (List (List Int × Int))} {ds es : List Int}, tss.length = ds.length → tss.length = es.length → (∀ (i : Nat) (t : List (List Int × Int)) (d : Int), tss[i]? = some t → ds[i]? = some d → Fit zs.length d t) → (∀ e ∈ es, 0 ≤ e) →
    rowT zs.length tss es (mono zs) = mono (tss.map fun t => pr t (mono zs)) es
  | [], [], [], _, _, _, _ => mono_zeros zs
  | t :: tss, d :: ds, e :: es, l1, l2, f, g => by
    have ft := f 0 t d rfl rfl
    have f' : ∀ (i : Nat) (t : List (List Int × Int)) (d : Int), tss[i]? = some t → ds[i]? = some d → Fit zs.length d t := fun i t d h1 h2 => f (i + 1) t d (by simpa using h1) (by simpa using h2)
    have g' : ∀ x ∈ es, 0 ≤ x := fun x hx => g x (List.mem_cons_of_mem _ hx)
    show pwR t zs.length e.toNat (fun a => rowT zs.length tss es fun b => mono zs (addR a b)) = (pr t (mono zs)) ^ e.toNat * mono (tss.map fun t => pr t (mono zs)) es
    rw [← pwR_mono ft, ← rowT_mono (by simpa using l1) (by simpa using l2) f' g', Int.mul_comm, ← pwR_smul]
    refine pwR_congr ft.rows ft.sum fun a a1 a2 a3 => ?_
    rw [Int.mul_comm, ← rowT_smul]
    exact rowT_congr (ds := ds) (by simpa using l1) (by simpa using l2) f' g' fun b b1 b2 b3 => mono_addR (by rw [a1, b1]) a1 a2 b2
  | [], _ :: _, _, l1, _, _, _ => by cases l1
  | [], _, _ :: _, _, l2, _, _ => by cases l2
  | _ :: _, [], _, l1, _, _, _ => by cases l1
  | _ :: _, _, [], _, l2, _, _ => by cases l2
theorem Eqm.mul2 {p a b c d : Int} (h : Eqm p a b) (g : Eqm p c d) : Eqm p (a * c) (b * d) := (g.mul a).trans (by rw [Int.mul_comm a, Int.mul_comm b]; exact h.mul d)
theorem Eqm.pow {p a b : Int} (h : Eqm p a b) : ∀ n : Nat, Eqm p (a ^ n) (b ^ n)
  | 0 => .of (by rw [Int.pow_zero, Int.pow_zero])
  | n + 1 => by rw [Int.pow_succ, Int.pow_succ]; exact (Eqm.pow h n).mul2 h
theorem mono_eqm {p : Int} : ∀ {ys zs es : List Int}, ys.length = zs.length → (∀ (i : Nat) (y z : Int), ys[i]? = some y → zs[i]? = some z → Eqm p y z) → Eqm p (mono ys es) (mono zs es)
  | [], [], es, _, _ => .rfl
  | y :: ys, z :: zs, [], _, _ => .rfl
  | y :: ys, z :: zs, e :: es, l, h => (Eqm.pow (h 0 y z rfl rfl) _).mul2 (mono_eqm (by simpa using l) fun i y z h1 h2 => h (i + 1) y z (by simpa using h1) (by simpa using h2))
  | [], _ :: _, _, l, _ => by cases l
  | _ :: _, [], _, l, _ => by cases l
/-! slopes -/
def dl (s : Nat) (φ : List Int → Int) (r : List Int) : Int := r.getD s 0 * φ (decR s r)
theorem getD_add {s : Nat} : ∀ {a b : List Int}, s < a.length → a.length = b.length → (addR a b).getD s 0 = a.getD s 0 + b.getD s 0 := by
  induction s with
  | zero =>
    intro a b h l
    cases a with
    | nil => simp at h
    | cons x a => cases b with
      | nil => cases l
      | cons y b => rfl
  | succ s ih =>
    intro a b h l
    cases a with
    | nil => simp at h
    | cons x a => cases b with
      | nil => cases l
      | cons y b =>
        show (addR a b).getD s 0 = a.getD s 0 + b.getD s 0
        exact ih (by simpa using h) (by simpa using l)
theorem decR_cons (s : Nat) (x : Int) (r : List Int) : decR (s + 1) (x :: r) = x :: decR s r := rfl
theorem decR_zero (x : Int) (r : List Int) : decR 0 (x :: r) = (x - 1) :: r := rfl
theorem decR_addL {s : Nat} : ∀ {a b : List Int}, s < a.length → a.length = b.length → decR s (addR a b) = addR (decR s a) b := by
  induction s with
  | zero =>
    intro a b h l
    cases a with
    | nil => simp at h
    | cons x a => cases b with
      | nil => cases l
      | cons y b =>
        show (x + y - 1) :: addR a b = (x - 1 + y) :: addR a b
        congr 1
        omega
  | succ s ih =>
    intro a b h l
    cases a with
    | nil => simp at h
    | cons x a => cases b with
      | nil => cases l
      | cons y b =>
        show (x + y) :: decR s (addR a b) = (x + y) :: addR (decR s a) b
        rw [ih (by simpa using h) (by simpa using l)]
theorem addR_comm : ∀ a b : List Int, addR a b = addR b a
  | [], b => by simp [addR]
  | x :: a, [] => by simp [addR]
  | x :: a, y :: b => by
    show (x + y) :: addR a b = (y + x) :: addR b a
    rw [addR_comm a b, Int.add_comm]
theorem decR_addR {s : Nat} {a b : List Int} (h : s < a.length) (l : a.length = b.length) : decR s (addR a b) = addR a (decR s b) := by
  rw [addR_comm a b, decR_addL (by omega) l.symm, addR_comm]
/-- of a product -/
theorem dl_add {s : Nat} {φ : List Int → Int} {a b : List Int} (h : s < a.length) (l : a.length = b.length) : dl s φ (addR a b) = dl s (fun x => φ (addR x b)) a + dl s (fun y => φ (addR a y)) b := by
  show (addR a b).getD s 0 * φ (decR s (addR a b)) = a.getD s 0 * φ (addR (decR s a) b) + b.getD s 0 * φ (addR a (decR s b))
  rw [getD_add h l, Int.add_mul, ← decR_addL h l, ← decR_addR h l]
theorem decR_inj {s : Nat} : ∀ {a b : List Int}, s < a.length → a.length = b.length → decR s a = decR s b → a = b := by
  induction s with
  | zero =>
    intro a b h l e
    cases a with
    | nil => simp at h
    | cons x a => cases b with
      | nil => cases l
      | cons y b =>
        rw [decR_zero, decR_zero] at e
        injection e with e1 e2
        rw [e2, show x = y by omega]
  | succ s ih =>
    intro a b h l e
    cases a with
    | nil => simp at h
    | cons x a => cases b with
      | nil => cases l
      | cons y b =>
        rw [decR_cons, decR_cons] at e
        injection e with e1 e2
        rw [e1, ih (by simpa using h) (by simpa using l) e2]
theorem slG_nd {s k : Nat} (hs : s < k) : ∀ {t : List (List Int × Int)}, (∀ q ∈ t, q.1.length = k) → (t.map (·.1)).Nodup → ((t.filterMap (slG s)).map (·.1)).Nodup
  | [], _, _ => List.nodup_nil
  | q :: t, h, n => by
    rw [List.map_cons, List.nodup_cons] at n
    have ih := slG_nd hs (t := t) (fun x hx => h x (List.mem_cons_of_mem _ hx)) n.2
    cases e : slG s q with
    | none => rw [List.filterMap_cons_none e]; exact ih
    | some r =>
      rw [List.filterMap_cons_some e, List.map_cons, List.nodup_cons]
      refine ⟨fun m => n.1 ?_, ih⟩
      obtain ⟨u, hu, eu⟩ := List.mem_map.mp m
      obtain ⟨x, hx, ex⟩ := List.mem_filterMap.mp hu
      have key : ∀ {x : List Int × Int} {u : List Int × Int}, slG s x = some u → u.1 = decR s x.1 := fun {x u} h => by
        unfold slG at h
        split at h
        · cases h
        · rw [← Option.some.inj h]
      rw [key ex, key e] at eu
      have hq := h q List.mem_cons_self
      have hx2 := h x (List.mem_cons_of_mem _ hx)
      exact List.mem_map.mpr ⟨x, hx, decR_inj (by omega) (by omega) eu⟩
theorem slope_pr {s k : Nat} {t : List (List Int × Int)} (hs : s < k) (rows : ∀ q ∈ t, q.1.length = k) (nd : (t.map (·.1)).Nodup) (φ : List Int → Int) : pr (slopeL s t) φ = pr t (dl s φ) := by
  unfold slopeL
  rw [foldI_is _ (slG_nd hs rows nd)]
  clear rows nd
  induction t with
  | nil => rfl
  | cons q t ih =>
    rw [pr_cons]
    cases e : slG s q with
    | none =>
      rw [List.filterMap_cons_none e, ih]
      unfold slG at e
      split at e
      · rename_i z
        unfold dl
        rw [z, Int.zero_mul, Int.mul_zero, Int.zero_add]
      · cases e
    | some r =>
      rw [List.filterMap_cons_some e, pr_cons, ih]
      unfold slG at e
      split at e
      · cases e
      · rw [← Option.some.inj e]
        show q.2 * q.1.getD s 0 * φ (decR s q.1) + _ = q.2 * (q.1.getD s 0 * φ (decR s q.1)) + _
        rw [Int.mul_assoc]
/-- of a power -/
theorem pwR_dl {s k : Nat} {t : List (List Int × Int)} {d : Int} (hs : s < k) (f : Fit k d t) : ∀ (n : Nat) (φ : List Int → Int), pwR t k n (dl s φ) = n * pwR t k (n - 1) fun a => pr t (dl s fun b => φ (addR a b))
  | 0, φ => by
    show dl s φ (List.replicate k 0) = 0 * _
    rw [Int.zero_mul]
    unfold dl
    have e : (List.replicate k (0 : Int)).getD s 0 = 0 := by
      rw [List.getD_eq_getElem?_getD, List.getElem?_replicate]
      split <;> rfl
    rw [e, Int.zero_mul]
  | n + 1, φ => by
    have lenA : ∀ a : List Int, a.length = k → s < a.length := fun a h => by omega
    have step : (pwR t k (n + 1) (dl s φ)) = pwR t k n (dl s fun x => pr t fun b => φ (addR x b)) + pwR t k n fun a => pr t (dl s fun b => φ (addR a b)) := by
      rw [← pwR_add]
      show pwR t k n (fun a => pr t fun b => dl s φ (addR a b)) = _
      refine pwR_congr f.rows f.sum fun a a1 a2 a3 => ?_
      show _ = a.getD s 0 * (pr t fun b => φ (addR (decR s a) b)) + pr t fun b => dl s (fun b => φ (addR a b)) b
      rw [← pr_mul, ← pr_add]
      exact pr_congr fun b hb => dl_add (lenA a a1) (by rw [a1, (f.rows b hb).1])
    rw [step, pwR_dl hs f n]
    show _ = ((n + 1 : Nat) : Int) * pwR t k n _
    rw [Int.natCast_add, Int.add_mul, Int.natCast_one, Int.one_mul]
    congr 1
    cases n with
    | zero => rw [Int.natCast_zero, Int.zero_mul, Int.zero_mul]
    | succ n =>
      congr 1
      show pwR t k n (fun a => pr t (dl s fun b => pr t fun c => φ (addR (addR a b) c))) = pwR t k n fun a => pr t fun b => pr t (dl s fun c => φ (addR (addR a b) c))
      congr 1
      funext a
      rw [← pr_swap]
      refine pr_congr fun b hb => ?_
      show b.1.getD s 0 * (pr t fun c => φ (addR (addR a (decR s b.1)) c)) = pr t fun c => b.1.getD s 0 * φ (addR (addR a c) (decR s b.1))
      rw [pr_mul]
      congr 1
      refine pr_congr fun c hc => ?_
      rw [addR_assoc, addR_assoc, addR_comm (decR s b.1)]
end P2
end

section
set_option maxRecDepth 100000
set_option maxHeartbeats 4000000
/-! The chain rule. -/
namespace P2
theorem pwR_lsum {t : List (List Int × Int)} {k n : Nat} {ι : Type} (F : ι → List Int → Int) : ∀ l : List ι, pwR t k n (fun a => (l.map fun i => F i a).sum) = (l.map fun i => pwR t k n (F i)).sum
  | [] => pwR_zero0 n
  | i :: l => by
    have e : (fun a => ((i :: l).map fun i => F i a).sum) = fun a => F i a + (l.map fun i => F i a).sum := funext fun a => by rw [List.map_cons, List.sum_cons]
    rw [e, pwR_add, pwR_lsum F l, List.map_cons, List.sum_cons]
/-- one summand of the chain rule -/
def chT (s k : Nat) (tss : List (List (List Int × Int))) (es : List Int) (φ : List Int → Int) (i : Nat) : Int := es.getD i 0 * rowT k tss (decR i es) fun a => pr (tss.getD i []) (dl s fun b => φ (addR a b))
theorem rowT_dl {s k : Nat} (hs : s < k) : ∀ {tss : List (List (List Int × Int))} {ds es : List Int} (φ : List Int → Int), tss.length = ds.length → tss.length = es.length → (∀ (i : Nat) (t : List (List Int × Int)) (d : Int), tss[i]? = some t → ds[i]? = some d → Fit k d t) → (∀ e ∈ es, 0 ≤ e) →
    rowT k tss es (dl s φ) = ((List.range tss.length).map (chT s k tss es φ)).sum
  | [], [], [], φ, _, _, _, _ => by
    show dl s φ (List.replicate k 0) = 0
    unfold dl
    have e : (List.replicate k (0 : Int)).getD s 0 = 0 := by
      rw [List.getD_eq_getElem?_getD, List.getElem?_replicate]
      split <;> rfl
    rw [e, Int.zero_mul]
  | t :: tss, d :: ds, e :: es, φ, l1, l2, f, g => by
    have ft := f 0 t d rfl rfl
    have f' : ∀ (i : Nat) (t : List (List Int × Int)) (d : Int), tss[i]? = some t → ds[i]? = some d → Fit k d t := fun i t d h1 h2 => f (i + 1) t d (by simpa using h1) (by simpa using h2)
    have g' : ∀ x ∈ es, 0 ≤ x := fun x hx => g x (List.mem_cons_of_mem _ hx)
    have l1' : tss.length = ds.length := by simpa using l1
    have l2' : tss.length = es.length := by simpa using l2
    have e0 := g e List.mem_cons_self
    -- the two halves
    have half : rowT k (t :: tss) (e :: es) (dl s φ) = pwR t k e.toNat (dl s fun x => rowT k tss es fun b => φ (addR x b)) + pwR t k e.toNat fun a => rowT k tss es (dl s fun y => φ (addR a y)) := by
      rw [← pwR_add]
      show pwR t k e.toNat (fun a => rowT k tss es fun b => dl s φ (addR a b)) = _
      refine pwR_congr ft.rows ft.sum fun a a1 a2 a3 => ?_
      show _ = a.getD s 0 * (rowT k tss es fun b => φ (addR (decR s a) b)) + rowT k tss es fun b => dl s (fun y => φ (addR a y)) b
      rw [← rowT_smul, ← rowT_add]
      exact rowT_congr (ds := ds) l1' l2' f' g' fun b b1 b2 b3 => dl_add (by omega) (by rw [a1, b1])
    have first : pwR t k e.toNat (dl s fun x => rowT k tss es fun b => φ (addR x b)) = chT s k (t :: tss) (e :: es) φ 0 := by
      rw [pwR_dl hs ft]
      show _ = e * rowT k (t :: tss) ((e - 1) :: es) fun a => pr t (dl s fun b => φ (addR a b))
      obtain ⟨n, rfl⟩ : ∃ n : Nat, e = n := ⟨e.toNat, by omega⟩
      rw [Int.toNat_natCast]
      cases n with
      | zero => rw [Int.natCast_zero, Int.zero_mul, Int.zero_mul]
      | succ n =>
        congr 1
        show pwR t k n _ = pwR t k (((n + 1 : Nat) : Int) - 1).toNat _
        have en : (((n + 1 : Nat) : Int) - 1).toNat = n := by omega
        rw [en]
        congr 1
        funext a
        rw [rowT_pr tss es (fun c b => dl s (fun b => φ (addR (addR a c) b)) b) t]
        refine pr_congr fun b hb => ?_
        show b.1.getD s 0 * (rowT k tss es fun c => φ (addR (addR a (decR s b.1)) c)) = rowT k tss es fun c => b.1.getD s 0 * φ (addR (addR a c) (decR s b.1))
        rw [rowT_smul]
        congr 2
        funext c
        rw [addR_assoc, addR_assoc, addR_comm (decR s b.1)]
    have second : pwR t k e.toNat (fun a => rowT k tss es (dl s fun y => φ (addR a y))) = ((List.range tss.length).map fun i => chT s k (t :: tss) (e :: es) φ (i + 1)).sum := by
      have z : (fun a => rowT k tss es (dl s fun y => φ (addR a y))) = fun a => ((List.range tss.length).map fun i => chT s k tss es (fun y => φ (addR a y)) i).sum := funext fun a => rowT_dl hs (fun y => φ (addR a y)) l1' l2' f' g'
      rw [z, pwR_lsum]
      congr 1
      refine List.map_congr_left fun i _ => ?_
      show pwR t k e.toNat (fun a => es.getD i 0 * rowT k tss (decR i es) fun x => pr (tss.getD i []) (dl s fun b => φ (addR a (addR x b)))) = es.getD i 0 * pwR t k e.toNat fun a => rowT k tss (decR i es) fun x => pr (tss.getD i []) (dl s fun b => φ (addR (addR a x) b))
      rw [pwR_smul]
      congr 2
      funext a
      congr 1
      funext x
      congr 2
      funext b
      rw [addR_assoc]
    rw [half, first, second, List.length_cons, List.range_succ_eq_map, List.map_cons, List.sum_cons, List.map_map]
    rfl
  | [], _ :: _, _, _, l1, _, _, _ => by cases l1
  | [], _, _ :: _, _, _, l2, _, _ => by cases l2
  | _ :: _, [], _, _, l1, _, _, _ => by cases l1
  | _ :: _, _, [], _, _, l2, _, _ => by cases l2
end P2
end

section
set_option maxRecDepth 100000
set_option maxHeartbeats 4000000
/-! What put_in, value_at and slope tell, against the law's own working. -/
namespace P2
theorem fit_tid {p : Int} {k : Nat} {d : Int} {t : List (List Int × Int)} (nd : (t.map (·.1)).Nodup) (f : Fit k d t) : Fit k d (tid p t) := ⟨rows_tid nd f.rows, fun q hq => by
  obtain ⟨u, hu, e⟩ := tid_sub nd hq
  rw [← e]
  exact f.sum u hu⟩
/-- the lists that are put in, raw and tidy -/
structure Ins (k : Nat) (ds : List Int) (tss : List (List (List Int × Int))) : Prop where
  l : tss.length = ds.length
  ok : ∀ (i : Nat) (t : List (List Int × Int)) (d : Int), tss[i]? = some t → ds[i]? = some d → OtherOk k d t
  nn : ∀ d ∈ ds, 0 ≤ d
theorem Ins.fit {k : Nat} {ds : List Int} {tss : List (List (List Int × Int))} (h : Ins k ds tss) : ∀ (i : Nat) (t : List (List Int × Int)) (d : Int), tss[i]? = some t → ds[i]? = some d → Fit k d t := fun i t d h1 h2 => (h.ok i t d h1 h2).fit
theorem Ins.mem {k : Nat} {ds : List Int} {tss : List (List (List Int × Int))} (h : Ins k ds tss) {t : List (List Int × Int)} (ht : t ∈ tss) : ∃ d, OtherOk k d t := by
  obtain ⟨i, hi, e⟩ := List.mem_iff_getElem.mp ht
  have h1 : tss[i]? = some t := by rw [List.getElem?_eq_getElem hi, e]
  exact ⟨_, h.ok i t (ds[i]'(by have := h.l; omega)) h1 (List.getElem?_eq_getElem _)⟩
theorem Ins.fitT {p : Int} {k : Nat} {ds : List Int} {tss : List (List (List Int × Int))} (h : Ins k ds tss) : ∀ (i : Nat) (t : List (List Int × Int)) (d : Int), (tss.map (tid p))[i]? = some t → ds[i]? = some d → Fit k d t := fun i t d h1 h2 => by
  rw [List.getElem?_map] at h1
  obtain ⟨u, hu, rfl⟩ := Option.map_eq_some_iff.mp h1
  have o := h.ok i u d hu h2
  exact fit_tid o.nd o.fit
theorem put_tid {p : Int} (p2 : 2 ≤ p) {k : Nat} (k12 : k ≤ 12) {ds : List Int} {tss : List (List (List Int × Int))} (I : Ins k ds tss) {ts R : List (List Int × Int)} {m : List (Int × Int)} {Bd : Int} (nd : (ts.map (·.1)).Nodup)
    (rows : ∀ q ∈ ts, q.1.length = tss.length ∧ (∀ e ∈ q.1, 0 ≤ e) ∧ degS ds q.1 ≤ 120) (B120 : Bd ≤ 120)
    (pk : IsPk p k Bd m fun φ => pr (liveT ((tss.map (tid p)).map degOf) (tid p ts)) fun row => putT ((tss.map (tid p)).map packOf) row φ) (rnd : (R.map (·.1)).Nodup) (tR : tid p R = R) (eR : ∀ φ, Eqm p (pr R φ) (pr ts fun r => rowT k tss r φ)) :
    tid p (termsOf m k) = R := by
  have key : Keys (RowN k 120) m := fun q hq => (pk.ky q hq).le B120
  rw [← tR]
  refine tid_ext (terms_nd m k) rnd fun φ => ?_
  rw [terms_pr pk.nd key]
  refine (pk.eq _).trans (.trans ?_ (eR φ).symm)
  have tl : (tss.map (tid p)).length = ds.length := by rw [List.length_map]; exact I.l
  have rowsT : ∀ q ∈ tid p ts, q.1.length = tss.length ∧ (∀ e ∈ q.1, 0 ≤ e) ∧ degS ds q.1 ≤ 120 := fun q hq => by
    obtain ⟨u, hu, e⟩ := tid_sub nd hq
    rw [← e]
    exact rows u hu
  have ndT : ∀ t ∈ tss.map (tid p), (t.map (·.1)).Nodup := fun t ht => by
    obtain ⟨u, hu, rfl⟩ := List.mem_map.mp ht
    exact tid_nd
  have z : pr (liveT ((tss.map (tid p)).map degOf) (tid p ts)) (fun row => putT ((tss.map (tid p)).map packOf) row fun x => φ (unpackR x k)) = pr (tid p ts) fun row => rowT k (tss.map (tid p)) row φ := by
    have dead : ∀ t ∈ tss.map (tid p), degOf t < 0 → t = [] := fun t ht dn => by
      obtain ⟨u, hu, rfl⟩ := List.mem_map.mp ht
      obtain ⟨d, o⟩ := I.mem hu
      exact deg_neg (fun q hq => (rows_tid (p := p) o.nd o.fit.rows q hq).2.1) dn
    rw [pr_live fun q hq hz => putT_zero _ dead hz]
    refine pr_congr fun q hq => ?_
    obtain ⟨r1, r2, r3⟩ := rowsT q hq
    have rl : (tss.map (tid p)).length = q.1.length := by rw [List.length_map, r1]
    rw [← rowT_putT (ds := ds) (k := k) _ tl rl I.fitT r2 ndT]
    refine rowT_congr (ds := ds) tl rl I.fitT r2 fun r h1 h2 h3 => ?_
    show φ (unpackR (packR r) k) = φ r
    rw [unpack_pack k h1 (exps_of h2 (by omega))]
  rw [z]
  refine .trans (pr_eqm fun q hq => rowT_eqp φ (by rw [List.length_map]) fun i t t' h1 h2 => ?_) (tid_eqp nd _)
  rw [List.getElem?_map] at h1
  obtain ⟨u, hu, rfl⟩ := Option.map_eq_some_iff.mp h1
  obtain rfl := Option.some.inj (hu.symm.trans h2)
  exact tid_eqp (I.ok i u (ds[i]'(by rw [← I.l]; exact (List.getElem?_eq_some_iff.mp hu).1)) hu (List.getElem?_eq_getElem _)).nd
/-- the value of what comes out -/
theorem put_value {p : Int} {zs : List Int} {ds : List Int} {tss : List (List (List Int × Int))} (I : Ins zs.length ds tss) {ts R : List (List Int × Int)} (rows : ∀ q ∈ ts, q.1.length = tss.length ∧ ∀ e ∈ q.1, 0 ≤ e) (eR : ∀ φ, Eqm p (pr R φ) (pr ts fun r => rowT zs.length tss r φ)) :
    pr R (mono zs) % p = pr ts (mono (tss.map fun t => pr t (mono zs) % p)) % p := by
  refine Eqm.emod ((eR _).trans (pr_eqm fun q hq => ?_))
  obtain ⟨r1, r2⟩ := rows q hq
  rw [rowT_mono I.l r1.symm I.fit r2]
  refine mono_eqm (by rw [List.length_map, List.length_map]) fun i y z h1 h2 => ?_
  rw [List.getElem?_map] at h1 h2
  obtain ⟨t, ht, rfl⟩ := Option.map_eq_some_iff.mp h1
  obtain ⟨t', ht', rfl⟩ := Option.map_eq_some_iff.mp h2
  obtain rfl := Option.some.inj (ht.symm.trans ht')
  exact Eqm.mod.symm
theorem tid_value {p : Int} {ts : List (List Int × Int)} (nd : (ts.map (·.1)).Nodup) (zs : List Int) : pr (tid p ts) (mono zs) % p = pr ts (mono zs) % p := (tid_eqp nd _).emod
/-- the slope of a tidy one -/
theorem tid_slope {p : Int} {s k : Nat} (hs : s < k) {ts : List (List Int × Int)} (nd : (ts.map (·.1)).Nodup) (rows : ∀ q ∈ ts, q.1.length = k) : tid p (slopeL s (tid p ts)) = tid p (slopeL s ts) := by
  refine tid_ext (slope_nd s _) (slope_nd s _) fun φ => ?_
  rw [slope_pr hs (fun q hq => by
    obtain ⟨u, hu, e⟩ := tid_sub nd hq
    rw [← e]
    exact rows u hu) tid_nd, slope_pr hs rows nd]
  exact tid_eqp nd _
/-- the chain rule, as the law sums it up -/
theorem put_slope {p : Int} {s k : Nat} (hs : s < k) {ds : List Int} {tss : List (List (List Int × Int))} (I : Ins k ds tss) {ts R S : List (List Int × Int)} (nd : (ts.map (·.1)).Nodup) (rows : ∀ q ∈ ts, q.1.length = tss.length ∧ ∀ e ∈ q.1, 0 ≤ e) (rR : ∀ q ∈ R, q.1.length = k) (rnd : (R.map (·.1)).Nodup)
    (eR : ∀ φ, Eqm p (pr R φ) (pr ts fun r => rowT k tss r φ)) (snd : (S.map (·.1)).Nodup) (tS : tid p S = S)
    (eS : ∀ φ, Eqm p (pr S φ) (((List.range tss.length).map fun i => pr (slopeL i ts) fun r => rowT k tss r fun a => pr (slopeL s (tss.getD i [])) fun b => φ (addR a b)).sum)) : tid p (slopeL s R) = S := by
  rw [← tS]
  refine tid_ext (slope_nd s _) snd fun φ => ?_
  rw [slope_pr hs rR rnd]
  refine (eR _).trans (.trans (.of ?_) (eS φ).symm)
  have e1 : (pr ts fun r => rowT k tss r (dl s φ)) = pr ts fun r => ((List.range tss.length).map (chT s k tss r φ)).sum := pr_congr fun q hq => rowT_dl hs φ I.l (rows q hq).1.symm I.fit (rows q hq).2
  rw [e1]
  have lsum : ∀ (l : List Nat) (F : Nat → List Int → Int), (pr ts fun r => (l.map fun i => F i r).sum) = (l.map fun i => pr ts (F i)).sum := fun l F => by
    induction l with
    | nil => exact pr_zero ts
    | cons i l ih =>
      have e : (fun r => ((i :: l).map fun i => F i r).sum) = fun r => F i r + (l.map fun i => F i r).sum := funext fun r => by rw [List.map_cons, List.sum_cons]
      rw [e, pr_add, ih, List.map_cons, List.sum_cons]
  rw [lsum _ fun i r => chT s k tss r φ i]
  congr 1
  refine List.map_congr_left fun i hi => ?_
  have hi := List.mem_range.mp hi
  rw [slope_pr (k := tss.length) hi (fun q hq => (rows q hq).1) nd]
  refine pr_congr fun q hq => ?_
  unfold chT
  show _ = q.1.getD i 0 * rowT k tss (decR i q.1) _
  congr 2
  funext a
  have ht : tss.getD i [] ∈ tss := by
    rw [List.getD_eq_getElem?_getD, List.getElem?_eq_getElem hi]
    exact List.getElem_mem _
  obtain ⟨d, o⟩ := I.mem ht
  rw [slope_pr hs (fun q hq => (o.fit.rows q hq).1) o.nd]
end P2
end

section
set_option maxRecDepth 100000
set_option maxHeartbeats 8000000
namespace P2
open PySem L2 ClX ZM PySem.W
/-- one that is put in, as it was drawn -/
structure OthP (k : Nat) (p : Int) (t : List (List Int × Int)) : Prop where
  nd : (t.map (·.1)).Nodup
  rows : ∀ q ∈ t, q.1.length = k ∧ (∀ e ∈ q.1, 0 ≤ e) ∧ q.1.sum ≤ 2
  len : t.length ≤ 4
  vals : ∀ q ∈ t, 0 < q.2 ∧ q.2 < p
theorem OthP.nil (k : Nat) (p : Int) : OthP k p [] := ⟨List.nodup_nil, (fun _ z => nomatch z), Nat.zero_le _, (fun _ z => nomatch z)⟩
theorem OthP.of {k : Nat} {p : Int} {t : List (List Int × Int)} (h : Trm k 2 p t) : OthP k p t := ⟨h.nd, fun q hq => let ⟨a, b, c⟩ := h.rows q hq; ⟨a, b, c⟩, h.len, h.vals⟩
theorem OthP.ok {k : Nat} {p : Int} {t : List (List Int × Int)} (h : OthP k p t) : OtherOk k 2 t := ⟨h.nd, ⟨fun q hq => let ⟨a, b, c⟩ := h.rows q hq; ⟨a, b, by omega⟩, fun q hq => (h.rows q hq).2.2⟩, by have := h.len; omega⟩
theorem DrawAt.upd {H : Hp} {d l c L : Addr} {o : HO} (D : DrawAt H d l c) (n1 : L ≠ d) (n2 : L ≠ l) (n3 : L ≠ c) : DrawAt (upd H L o) d l c := by
  obtain ⟨r0, t0, hd0⟩ := D.hd
  obtain ⟨ls, hl0, hll⟩ := D.hl
  obtain ⟨cs, hc0, hcl⟩ := D.hc
  exact ⟨⟨r0, t0, by rw [upd_ne (Ne.symm n1)]; exact hd0⟩, ⟨ls, by rw [upd_ne (Ne.symm n2)]; exact hl0, hll⟩, ⟨cs, by rw [upd_ne (Ne.symm n3)]; exact hc0, hcl⟩, D.ne⟩
theorem DrawAt.fresh {H : Hp} {d l c L : Addr} (D : DrawAt H d l c) (h : H L = Option.none) : L ≠ d ∧ L ≠ l ∧ L ≠ c := by
  obtain ⟨cs, hc0, hcl⟩ := D.hc
  exact ⟨(D.none h).1, (D.none h).2, fun e => by rw [e, hc0] at h; cases h⟩
/-- the lists stand, under a draw -/
theorem LisAt.drawn {H H' : Hp} {d l c : Addr} {as : List Addr} {tss : List (List (List Int × Int))} (D : DrawAt H d l c) (S : Drawn d l H H') (h : LisAt H as tss) : LisAt H' as tss := ⟨h.l, fun i hi => let z := h.at_ i hi; S _ _ z (D.dt z).1 (D.dt z).2⟩
theorem LisAt.snoc {H H' : Hp} {L b : Addr} {xs : List V} {o : HO} {as : List Addr} {tss : List (List (List Int × Int))} {t : List (List Int × Int)} (h : LisAt H as tss) (S : ∀ i, i < tss.length → H' (as.getD i 0) = some (.dT (rK (tss.getD i [])))) (hb : H' b = some (.dT (rK t))) : LisAt H' (as ++ [b]) (tss ++ [t]) := by
  refine ⟨by rw [List.length_append, List.length_append, h.l]; rfl, fun i hi => ?_⟩
  rw [List.length_append] at hi
  have hi : i < tss.length + 1 := hi
  by_cases z : i < tss.length
  · have e1 : (as ++ [b]).getD i 0 = as.getD i 0 := by rw [List.getD_eq_getElem?_getD, List.getD_eq_getElem?_getD, List.getElem?_append_left (by rw [h.l]; exact z)]
    have e2 : (tss ++ [t]).getD i [] = tss.getD i [] := by rw [List.getD_eq_getElem?_getD, List.getD_eq_getElem?_getD, List.getElem?_append_left z]
    rw [e1, e2]
    exact S i z
  · have ei : i = tss.length := by omega
    have e1 : (as ++ [b]).getD i 0 = b := by
      rw [List.getD_eq_getElem?_getD, List.getElem?_append_right (by rw [h.l]; omega), h.l, ei, Nat.sub_self]
      rfl
    have e2 : (tss ++ [t]).getD i [] = t := by
      rw [List.getD_eq_getElem?_getD, List.getElem?_append_right (by omega), ei, Nat.sub_self]
      rfl
    rw [e1, e2]
    exact hb
section
variable {P : Program} {w : World} {K : PySem.W.Frag} {mg : Str → Option Value} {base : Heap} {bp C B M N BA : Addr}
abbrev NPRR : List Str := ["draw", "field", "wide_here", "far", "one", "others", "told", "fillers", "due", "found", "place_here", "inner", "spot", "sums", "k", "other", "part_here"]
/-- the slots, as far as they are known -/
abbrev slQ (d : Addr) (p : Int) (k far : Nat) (r : List (Option V)) : St := [some (.ref d), some (.int p), some (.int k), some (.int far)] ++ r
end
end P2
end

section
set_option maxRecDepth 100000
set_option maxHeartbeats 8000000
namespace P2
open PySem L2 ClX ZM PySem.W
theorem degS_rep : ∀ {n : Nat} {r : List Int}, r.length = n → degS (List.replicate n 2) r = 2 * r.sum
  | 0, [], _ => rfl
  | n + 1, e :: r, h => by
    show e * 2 + degS (List.replicate n 2) r = 2 * (e :: r).sum
    rw [degS_rep (by simpa using h), List.sum_cons]
    omega
  | 0, _ :: _, h => by cases h
  | _ + 1, [], h => by cases h
theorem degS_le : ∀ {ds ds' es : List Int}, ds.length = ds'.length → (∀ (i : Nat) (x y : Int), ds[i]? = some x → ds'[i]? = some y → x ≤ y) → (∀ e ∈ es, 0 ≤ e) → degS ds es ≤ degS ds' es
  | [], [], _, _, _, _ => Int.le_refl _
  | d :: ds, d' :: ds', [], _, _, _ => Int.le_refl _
  | d :: ds, d' :: ds', e :: es, l, h, g => by
    have z := degS_le (ds := ds) (ds' := ds') (es := es) (by simpa using l) (fun i x y h1 h2 => h (i + 1) x y (by simpa using h1) (by simpa using h2)) fun x hx => g x (List.mem_cons_of_mem _ hx)
    have y : e * d ≤ e * d' := Int.mul_le_mul_of_nonneg_left (h 0 d d' rfl rfl) (g e List.mem_cons_self)
    show e * d + _ ≤ e * d' + _
    omega
  | [], _ :: _, _, l, _, _ => by cases l
  | _ :: _, [], _, l, _, _ => by cases l
theorem small_exp {p : Int} (hp : p ∈ fields) {e : Int} (h0 : 0 ≤ e) (h : e ≤ 3) : e < p ∨ Good p := by
  have z : p ∈ ([2, 3, 5, 7, 11, 13] : List Int) ∨ p = 97 := by
    revert hp
    simp only [fields, List.mem_cons, List.mem_nil_iff, or_false]
    omega
  rcases z with z | z
  · exact .inr (good_small z)
  · exact .inl (by omega)
/-- those that are put in, as the law wants them -/
theorem ins_of {far : Nat} {p : Int} {tss : List (List (List Int × Int))} {k : Nat} (l : tss.length = k) (ok : ∀ t ∈ tss, OthP far p t) : Ins far (List.replicate k 2) tss := ⟨by rw [List.length_replicate, l], fun i t d h1 h2 => by
  have e : d = 2 := by
    rw [List.getElem?_replicate] at h2
    split at h2
    · exact (Option.some.inj h2).symm
    · cases h2
  rw [e]
  exact (ok t (List.mem_of_getElem? h1)).ok, fun d hd => by rw [(List.mem_replicate.mp hd).2]; decide⟩
theorem PolyAt.updL {H : Hp} {C a L : Addr} {p n : Int} {ts : List (List Int × Int)} {xs : List V} {o : HO} (hL : H L = some (.lst xs)) (h : PolyAt H C a p n ts) : PolyAt (upd H L o) C a p n ts := by
  obtain ⟨dx, d, h1, h2⟩ := h
  refine ⟨dx, d, ?_, ?_⟩
  · rw [upd_ne (fun e => by rw [e, hL] at h1; cases h1)]
    exact h1
  · rw [upd_ne (fun e => by rw [e, hL] at h2; cases h2)]
    exact h2
theorem areB_all {p : Int} {n k : Nat} (k1 : 1 ≤ k) : areB (List.replicate k (some (p, (n : Int)))) k p = true := by
  unfold areB
  obtain ⟨m, rfl⟩ : ∃ m, k = m + 1 := ⟨k - 1, by omega⟩
  rw [List.length_replicate, decide_eq_true rfl, Bool.true_and, Bool.and_eq_true]
  refine ⟨List.all_eq_true.mpr fun x hx => by rw [(List.mem_replicate.mp hx).2]; rfl, List.all_eq_true.mpr fun x hx => ?_⟩
  rw [(List.mem_replicate.mp hx).2]
  show (decide (p = p) && decide ((n : Int) = n)) = true
  rw [decide_eq_true rfl, decide_eq_true rfl]
  rfl
section
variable {P : Program} {w : World} {K : PySem.W.Frag} {mg : Str → Option Value} {base : Heap} {bp C B M N BA : Addr}
/-- what stands behind the draws -/
structure Stand (H : Hp) (d l c a oA : Addr) (p : Int) (k far : Nat) (ts : List (List Int × Int)) (as : List Addr) (tss : List (List (List Int × Int))) : Prop where
  W : DrawAt H d l c
  hp : p ∈ fields
  k1 : 1 ≤ k
  k3 : k ≤ 3
  f1 : 1 ≤ far
  f3 : far ≤ 3
  ha : H a = some (.dT (rK ts))
  t1 : Trm k 3 p ts
  hO : H oA = some (.lst (as.map V.ref))
  li : LisAt H as tss
  lk : tss.length = k
  na : ∀ i, i < as.length → as.getD i 0 ≠ a
  ok : ∀ t ∈ tss, OthP far p t
theorem Stand.up {H H' : Hp} {d l c a oA : Addr} {p : Int} {k far : Nat} {ts : List (List Int × Int)} {as : List Addr} {tss : List (List (List Int × Int))} (S : Same H H') (h : Stand H d l c a oA p k far ts as tss) : Stand H' d l c a oA p k far ts as tss :=
  ⟨h.W.up S, h.hp, h.k1, h.k3, h.f1, h.f3, S _ _ h.ha, h.t1, S _ _ h.hO, h.li.same S, h.lk, h.na, h.ok⟩
end
end P2
end

section
set_option maxRecDepth 100000
set_option maxHeartbeats 4000000
namespace P2
open PySem PySem.Spec PyProof.Rows L2 LamX ClX
theorem DrawAt.ext {H H' : Hp} {d l c : Addr} (D : DrawAt H d l c) (S : ExtN H H') : DrawAt H' d l c := by
  obtain ⟨⟨r, t, hd⟩, ⟨ls, hl, hll⟩, ⟨cs, hc, hcl⟩, ne⟩ := D
  exact ⟨⟨r, t, S _ _ hd (fun ps z => by cases z)⟩, ⟨ls, S _ _ hl (fun ps z => by cases z), hll⟩, ⟨cs, S _ _ hc (fun ps z => by cases z), hcl⟩, ne⟩
/-- all but the draw's places and the tables stay -/
def Kept (d l : Addr) (H H' : Hp) : Prop := ∀ b o, H b = some o → b ≠ d → b ≠ l → (∀ ps, o ≠ .tbl ps) → H' b = some o
theorem Kept.trans {d l : Addr} {H H1 H2 : Hp} (a : Kept d l H H1) (b : Kept d l H1 H2) : Kept d l H H2 := fun x o e n1 n2 n3 => b _ _ (a _ _ e n1 n2 n3) n1 n2 n3
theorem Kept.of {d l : Addr} {H H1 : Hp} (a : Same H H1) : Kept d l H H1 := fun x o e _ _ _ => a _ _ e
theorem Kept.ext {d l : Addr} {H H1 : Hp} (a : ExtN H H1) : Kept d l H H1 := fun x o e _ _ n => a _ _ e n
theorem Kept.drawn {d l : Addr} {H H1 : Hp} (a : Drawn d l H H1) : Kept d l H H1 := fun x o e n1 n2 _ => a _ _ e n1 n2
theorem tabs_drawn {T : List (Addr × Str)} {H H' : Hp} {d l c : Addr} (D : DrawAt H d l c) (S : Drawn d l H H') (t : Tabs T H) : Tabs T H' := fun p hp => by
  obtain ⟨ps, h1, h2, h3⟩ := t p hp
  obtain ⟨r, u, hd⟩ := D.hd
  obtain ⟨ls, hl, _⟩ := D.hl
  refine ⟨ps, S _ _ h1 (fun z => by rw [z, hd] at h1; cases h1) (fun z => by rw [z, hl] at h1; cases h1), h2, fun pos cv hc => ?_⟩
  obtain ⟨c0, e1, e2⟩ := h3 pos cv hc
  refine ⟨c0, e1, S _ _ e2 (fun z => ?_) (fun z => ?_)⟩
  · rw [z, hd] at e2
    unfold CodeO at e2
    cases e2
  · rw [z, hl] at e2
    unfold CodeO at e2
    cases e2
theorem tabs_new {T : List (Addr × Str)} {H : Hp} {a : Addr} {o : HO} (h : H a = none) (t : Tabs T H) : Tabs T (upd H a o) := t.ext ((Same.refl H).put h)
theorem PolyAt.ext {H H' : Hp} {C a : Addr} {p n : Int} {ts : List (List Int × Int)} (h : PolyAt H C a p n ts) (S : ExtN H H') : PolyAt H' C a p n ts := let ⟨dx, d, h1, h2⟩ := h; ⟨dx, d, S _ _ h1 (fun ps z => by cases z), S _ _ h2 (fun ps z => by cases z)⟩
theorem DrawAt.other {H : Hp} {d l c b : Addr} {o : HO} (D : DrawAt H d l c) (h : H b = some o) (n1 : ∀ kvs, o ≠ .dK kvs) (n2 : ∀ xs, o ≠ .lst xs) : b ≠ d ∧ b ≠ l := by
  obtain ⟨r, t, hd⟩ := D.hd
  obtain ⟨ls, hl, _⟩ := D.hl
  exact ⟨(fun e => by rw [e, hd] at h; exact n1 _ (Option.some.inj h).symm), (fun e => by rw [e, hl] at h; exact n2 _ (Option.some.inj h).symm)⟩
theorem code_other {c : Addr} {q : Str} : (∀ kvs, CodeO c q ≠ .dK kvs) ∧ (∀ xs, CodeO c q ≠ .lst xs) := by
  unfold CodeO
  exact ⟨(fun _ z => nomatch z), (fun _ z => nomatch z)⟩
theorem tabs_lst {T : List (Addr × Str)} {H : Hp} {L : Addr} {xs ys : List V} (h : H L = some (.lst xs)) (t : Tabs T H) : Tabs T (upd H L (.lst ys)) := fun p hp => by
  obtain ⟨ps, h1, h2, h3⟩ := t p hp
  refine ⟨ps, by rw [upd_ne (fun z => by rw [z, h] at h1; cases h1)]; exact h1, h2, fun pos cv hc => ?_⟩
  obtain ⟨c0, e1, e2⟩ := h3 pos cv hc
  refine ⟨c0, e1, ?_⟩
  rw [upd_ne (fun z => by rw [z, h] at e2; unfold CodeO at e2; cases e2)]
  exact e2
theorem tid_nil (p : Int) : tid p [] = [] := by
  have h := tid_len p []
  exact List.length_eq_zero_iff.mp (Nat.le_zero.mp h)
theorem ts_nil (p : Int) (n : Nat) : TsOk p n [] := ⟨List.nodup_nil, (fun _ h => nomatch h), (fun _ h => nomatch h), Nat.zero_le _⟩
/-- what the error that was caught is known by -/
def EB (M : Addr) (f : Str) (v : V) (d l c : Addr) (H0 : Hp) : XK := fun cls dd H' => cls = .ref M ∧ ∃ d1, dd = some d1 ∧ H' d1 = some (.xd [(f, v)]) ∧ DrawAt H' d l c ∧ Drawn d l H0 H'
section
variable {P : Program} {w : World} {K : PySem.W.Frag} {mg : Str → Option Value} {base : Heap} {bp C B M N CS : Addr}
theorem terms_good2 {H : Hp} {a : Addr} {n : Nat} {ts : List (List Int × Int)} (h : H a = some (.dT (rK ts))) (hr : ∀ q ∈ ts, q.1.length = n ∧ ∀ e ∈ q.1, 0 ≤ e) (hn : n ≤ 12) (hz : ts.length ≤ 1000000) : TermsAre K H n (.ref a) true := by
  have e : ((rK ts).all fun p => termB "tuple" (p.1.map kV) n p.2) = true := by
    refine List.all_eq_true.mpr fun q hq => ?_
    obtain ⟨r, hr2, rfl⟩ := List.mem_map.mp hq
    obtain ⟨e1, e2⟩ := hr r hr2
    show termB "tuple" ((rowK r.1).map kV) n (.int r.2) = true
    rw [rowK_kV]
    have a1 : (r.1.map V.int).all isI = true := List.all_eq_true.mpr fun x hx => by
      obtain ⟨i, _, rfl⟩ := List.mem_map.mp hx
      rfl
    have a2 : (r.1.map V.int).all nn = true := List.all_eq_true.mpr fun x hx => by
      obtain ⟨i, hi, rfl⟩ := List.mem_map.mp hx
      exact decide_eq_true (e2 i hi)
    unfold termB
    rw [a1, a2, List.length_map, e1]
    simp [isI]
  have z := TermsAre.rows (K := K) (m := (n : Int)) h (by rw [asK_len]; exact hz) (fun q hq => by
    obtain ⟨r, hr2, rfl⟩ := List.mem_map.mp hq
    refine ⟨?_, rfl⟩
    show (rowK r.1).length ≤ 1000
    unfold rowK
    rw [List.length_map, (hr r hr2).1]
    omega)
  rw [e] at z
  exact z
/-- a polynomial of a too great degree -/
theorem make_big {H : Hp} {x dx a : Addr} {p : Int} {n : Nat} {ts : List (List Int × Int)} {vs : List V} {R : VK} {E : XK} (hp : p ∈ primes) (h1 : 1 ≤ n) (h12 : n ≤ 12) (ha : H a = some (.dT (rK ts))) (hr : ∀ q ∈ ts, q.1.length = n ∧ ∀ e ∈ q.1, 0 ≤ e) (hn : (ts.map (·.1)).Nodup) (hz : ts.length ≤ 1000000)
    (big : (ts.any fun p => decide (120 < p.1.sum)) = true) (nx : H x = none) (ndx : H dx = none) (ne : dx ≠ x) (e : vs = [.ref x, .int p, .int n, .ref a]) (k : ∀ d H', Same H H' → H' d = some (.xd [("most", .int 120)]) → E (.ref M) (some d) H') :
    spInit K bp C B M vs (upd (upd H dx (.own x)) x (.ins C dx [])) R E := by
  have S0 : Same H (upd (upd H dx (.own x)) x (.ins C dx [])) := fun b o e => by rw [upd_ne (ne_of_none e nx), upd_ne (ne_of_none e ndx)]; exact e
  have hw : inB (.int n) 1 12 = true := by
    show (decide ((1 : Int) ≤ n) && decide ((n : Int) ≤ 12)) = true
    rw [decide_eq_true (by omega), decide_eq_true (by omega)]
    rfl
  have hpp : isP (.int p) = true := decide_eq_true hp
  subst e
  refine ⟨x, dx, _, _, _, rfl, upd_same, pv_flat rfl, (fun z => by rw [hpp] at z; cases z), fun _ => ⟨pv_flat rfl, (fun z => by rw [hw] at z; cases z), fun _ => ⟨n, true, rfl, terms_good2 (S0 _ _ ha) hr h12 hz, (fun z => by cases z), fun _ => ⟨a, ts, rfl, S0 _ _ ha, hn, fun q hq => ?_, hz, fun _ d H' S nd hd => k d H' (S0.trans S) hd, fun z => by rw [big] at z; cases z⟩⟩⟩⟩
  intro e
  have z := (hr q hq).1
  rw [e] at z
  exact absurd z (by show (0 : Nat) ≠ n; omega)
end
end P2
end

section
set_option maxRecDepth 100000
/-! A def called with keywords alone. -/
namespace L2
open PySem PySem.Spec PyProof.Rows
section
variable {X : Cx} {CX : CXT} {k : Nat} {f : Addr} {fd : FuncData} {ps ks : List Str} {sp : Sp} {E : XK} {x : Str} {p pos : Pos} {kws : List Keyword} {tk : TA} {g : List Value → List Value → List Value} {gV : List V → List V → List V}
theorem pe_callN0 (F : FnOk X.prog X.w X.K X.mg X.base CX k f fd ps sp) (hr : Room k X.A) (hg : Gl X x) (hm : X.mg x = some (.ref f)) (hk : PySem.W.keepIn X.K (.ref f) = true) (hb : KBn X.K fd ps 0 ks g gV) (hx : Passes CX X E)
    (hkw : PK X kws tk) (hall : (backToKw pos (keywordEach kws X.env)).all (·.1.isSome) = true := by rfl) (hks : (backToKw pos (keywordEach kws X.env)).filterMap (·.1) = ks := by rfl)
    (hdb : (x == ("__debug__" : Str)) = false := by decide)
    (hpl : ((backTo pos (starEach [] X.env)).any (·.1) || (backToKw pos (keywordEach kws X.env)).any (·.1.isNone)) = false := by rfl) :
    PE X (.Call (.Name x p) [] kws pos) (tCallN 0 ks.length sp gV E tNil tk) := by
  refine ⟨fun pins s σ H Q I h => ?_⟩
  refine wpAny_Call_Name_kw (ld_glob I hg hm ?_ hdb)
  refine PySem.W.callWith_KW0 (h₀ := X.base) I.ok.mod.kin hk hall ?_ hpl
  refine thn (hkw.run pos pins s σ H _ I h) fun ws s2 ⟨zs, H2, I2, rz, l1, l2, q2⟩ => ⟨I2.kIn, ?_⟩
  rw [hks]
  exact run_fnN F hr hb hx I2 .nil rz l1 l2 q2
end
end L2
end

section
set_option maxRecDepth 100000
set_option maxHeartbeats 8000000
namespace P2
open PySem PySem.Spec PyProof.Rows L2 LamX ClX ZM SX K7
/-- equal flat values, equal tables -/
def DDeed (C : Addr) : Eqv := fun x y H => DFlat x y H ∨ DIns C (RTab C) x y H
theorem mon_deed {C : Addr} : Mon (DDeed C) := mon_flat.or (mon_ins mon_tab)
/-- Table's own == -/
structure TEq (P : Program) (w : World) (K : PySem.W.Frag) (mg : Str → Option Value) (base : Heap) (C f : Addr) (fd : FuncData) : Prop where
  ok : FnOk P w K mg base CX0 1 f fd ["self", "other"] (spEq (RTab C))
  at_ : PySem.W.findIn K (.ref C) "__eq__" = some (some (.ref f))
  fn : PySem.W.isFn K (.ref f) = true
  b : L2.Binds K fd ["self", "other"] []
theorem deed_same {K : PySem.W.Frag} {H : Hp} {C : Addr} {p w : Nat} {x y : V} {d : Deed} (h1 : DeedAt H C p w x d) (h2 : DeedAt H C p w y d) : DTup K (DDeed C) x y H := by
  have fs : ∀ z : Str, DDeed C (.str z) (.str z) H := fun z => .inl ⟨rfl, rfl, by show (z == z) = true; exact beq_self_eq_true z⟩
  have fi : ∀ z : Int, DDeed C (.int z) (.int z) H := fun z => .inl ⟨rfl, rfl, by show (z == z) = true; exact beq_self_eq_true z⟩
  have ft : ∀ {a b : Addr} {rs : List (List Int)}, TableAt H C a p w w rs → TableAt H C b p w w rs → DDeed C (.ref a) (.ref b) H := fun {a b rs} ha hb => by
    obtain ⟨dx, e, ha2, _⟩ := id ha
    obtain ⟨dy, g, hb2, _⟩ := id hb
    exact .inr ⟨a, b, dx, dy, _, _, rfl, rfl, ha2, hb2, p, w, w, rs, ha, hb⟩
  cases d with
  | take n =>
    obtain ⟨a, rfl, ha⟩ := h1
    obtain ⟨b, rfl, hb⟩ := h2
    exact ⟨a, b, _, _, rfl, rfl, SqT.of ha, SqT.of hb, .cons (fs _) (.cons (fi _) .nil)⟩
  | put ls =>
    obtain ⟨a, c, rfl, ha, ta⟩ := h1
    obtain ⟨b, e, rfl, hb, tb⟩ := h2
    exact ⟨a, b, _, _, rfl, rfl, SqT.of ha, SqT.of hb, .cons (fs _) (.cons (ft ta tb) .nil)⟩
  | turn ls =>
    obtain ⟨a, c, rfl, ha, ta⟩ := h1
    obtain ⟨b, e, rfl, hb, tb⟩ := h2
    exact ⟨a, b, _, _, rfl, rfl, SqT.of ha, SqT.of hb, .cons (fs _) (.cons (ft ta tb) .nil)⟩
section
variable {K : PySem.W.Frag} {C N X bp : Addr} {H : Hp} {Q : VK} {E : XK} {p w : Nat}
theorem isP_of (hp : (p : Int) ∈ primes) : isP (.int (p : Nat)) = true := decide_eq_true hp
theorem in13 (w1 : 1 ≤ w) (w3 : w ≤ 3) : inB (.int (w : Nat)) 1 3 = true := by
  show (decide (1 ≤ (w : Int)) && decide ((w : Int) ≤ 3)) = true
  rw [decide_eq_true (by omega), decide_eq_true (by omega)]
  rfl
theorem deedOf_text {t : List Nat} (hp : (p : Int) ∈ primes) (w1 : 1 ≤ w) (w3 : w ≤ 3) (ht : t.length ≤ 100000) (q1 : readL p w t = none → BadX X H E) (q2 : ∀ d, readL p w t = some d → ∀ y H', Same H H' → DeedAt H' C p w y d → Q y H') :
    spDeedOf K bp C N X [.int (p : Nat), .int (w : Nat), .str (S t)] H Q E := by
  refine ⟨_, _, _, rfl, pv_flat rfl, fun z => ?_, fun _ => ⟨pv_flat rfl, fun z => ?_, fun _ => ⟨p, w, rfl, rfl, .inl ⟨t, rfl, ht, q1, q2⟩⟩⟩⟩
  · rw [isP_of hp] at z; cases z
  · rw [in13 w1 w3] at z; cases z
theorem deedOf_odd {x : V} {n : String} (hp : (p : Int) ∈ primes) (w1 : 1 ≤ w) (w3 : w ≤ 3) (t : TyX K H x (.type n)) (hn : n ∈ kinds7) (nt : n ≠ "str") (q : BadX X H E) : spDeedOf K bp C N X [.int (p : Nat), .int (w : Nat), x] H Q E := by
  refine ⟨_, _, _, rfl, pv_flat rfl, fun z => ?_, fun _ => ⟨pv_flat rfl, fun z => ?_, fun _ => ⟨p, w, rfl, rfl, .inr ⟨n, t, hn, nt, q⟩⟩⟩⟩
  · rw [isP_of hp] at z; cases z
  · rw [in13 w1 w3] at z; cases z
end
/-- what the laws' `_law_caught` leans on, for an own error -/
structure ErrC (K : PySem.W.Frag) (CS M : Addr) (f : Str) : Prop where
  ex : PySem.W.exmOne K (.ref M) (.ref CS) = some true
  xf : XfC K M
  at_ : PySem.W.findIn K (.ref M) f = some none
  c : ExcC K M
  kit : PySem.W.kitOne K (.ref M) (.ref M) = some true
theorem deedL_len {p w : Nat} {d : Deed} (h : DeedOk p w d) (w3 : w ≤ 3) (hp : p ≤ 100) : (deedL d).length ≤ 120 := by
  have tab : ∀ ls : List (List Nat), (ls.length = w ∧ ∀ l ∈ ls, l.length = w ∧ ∀ n ∈ l, n ≤ p - 1) → (linesL ls).length ≤ 108 := fun ls h => by
    have z := ok_tab3 w3 hp h
    have y := linesL_len (w := 3) z.2
    have := z.1
    omega
  cases d with
  | take n =>
    have := numL_small h
    unfold deedL
    rw [List.length_append, List.length_append]
    show 4 + (1 + _) ≤ _
    omega
  | put ls =>
    have := tab ls h
    unfold deedL
    rw [List.length_append, List.length_append]
    show 3 + (1 + _) ≤ _
    omega
  | turn ls =>
    have := tab ls h
    unfold deedL
    rw [List.length_append, List.length_append]
    show 4 + (1 + _) ≤ _
    omega
/-- a text was refused, where the heap was H0 -/
def EXT (G : Addr) (H0 : Hp) : XK := fun cls dd H' => cls = .ref G ∧ ∃ d1, dd = some d1 ∧ H' d1 = some (.xd [("at", .int 0)]) ∧ Same H0 H'
def spHolds (T : List (Addr × Str)) : Sp := fun vs H Q _ => ∃ (d l c : Addr) (p w : Nat) (v : V) (dd : Deed), vs = [.ref d, .int (p : Nat), .int (w : Nat), v] ∧ DrawAt H d l c ∧ (p : Int) ∈ primes ∧ 1 ≤ w ∧ w ≤ 3 ∧ MoveAt H v dd ∧ DeedOk p w dd ∧ Tabs T H ∧ ∀ H', DrawAt H' d l c → Tabs T H' → Q (.bl true) H'
abbrev NDH : List Str := ["draw", "field", "wide_here", "move_here", "due", "line_here", "lap", "spot", "sign_here", "way", "bent", "caught"]
theorem scDH : FnScope NDH ["draw", "field", "wide_here", "move_here"] (defScope (top 49)) := ⟨rfl, rfl, rfl, by decide +kernel, rfl, by decide +kernel, by decide +kernel⟩
end P2
end

section
set_option maxRecDepth 100000
set_option maxHeartbeats 8000000
namespace P2
open PySem PySem.Spec PyProof.Rows L2 LamX ClX ZM SX K7
section
variable {P : Program} {w : World} {K : PySem.W.Frag} {mg : Str → Option Value} {base : Heap} {bp C B M N D G CS : Addr}
abbrev qLDH : Str := "_law_deed_holds" ++ ".<locals>." ++ "<lambda>"
theorem bent_len {t : List Nat} {ch i j : Nat} (h : t.length ≤ 120) : (t.take i ++ [ch] ++ t.drop j).length ≤ 300 := by
  rw [List.length_append, List.length_append, List.length_take, List.length_drop]
  show min i t.length + 1 + _ ≤ _
  omega
theorem ok_holds {f fM fL fT fO fK fP fQ fG cc P1 : Addr} {fd dM dL dT dO dK dP dQ dG : FuncData} {T : List (Addr × Str)} (F : Fun K "_law_deed_holds" "_law_deed_holds" (top 49) f fd) (hcd : fd.code = .ref cc) (TB : TabB base mg cc P1) (hT : (P1, qLDH) ∈ T) (hT1 : ∀ q ∈ T, q.1 = P1 → q.2 = qLDH) (T0 : Tx K mg bp)
    (XT : Nt K mg G) (Eq : TEq P w K mg base C fQ dQ) (hS : mg "SwayError" = some (.ref CS)) (EG : ErrC K CS G "at")
    (DM : Def P w K mg base CX0 9 "_law_made_deed" ["field", "move_here"] (spMadeDeed C) fM dM)
    (DL : Def P w K mg base CX0 2 "_law_move_line" ["move_here"] spMoveLine fL dL)
    (DT : DefK P w K mg base (L2.CX P w) 3 "deed_text" ["deed"] 0 ["deed"] (spDeedText K C D) fT dT)
    (DO : DefK P w K mg base (L2.CX P w) 9 "deed_of_text" ["prime", "wide", "text"] 0 ["prime", "wide", "text"] (spDeedOf K bp C N G) fO dO)
    (DK : Def P w K mg base CX0 2 "_law_take" ["draw", "amount"] spTake fK dK)
    (DP : Def P w K mg base CX0 3 "_law_pick" ["draw", "some"] (spPickX K) fP dP)
    (FG : Fun K "_law_caught" "_law_caught" (top 44) fG dG) (kG : PySem.W.keepIn K (.ref fG) = true) (bG : L2.Binds K dG ["work"] []) (gG : mg "_law_caught" = some (.ref fG)) :
    FnG P w K mg base 12 f fd ["draw", "field", "wide_here", "move_here"] (spHolds T) := by
  refine okGc F hcd scDH (fun vs H Q E h => ?_) (fun A outer s H vs Q hr hgd h => ?_)
  · obtain ⟨d, l, c, p, w, v, dd, rfl, _⟩ := h
    rfl
  · have hu := hu_of hr
    refine ⟨_, pss_cons (ps_par (i := 4) (j := 5) (by rfl) scDH.nd rfl rfl (by decide) rfl rfl (pa_cons (pe_call DM.ok (hr.mono (by decide)) rfl DM.g DM.kp DM.b .nil pass0 (pa_cons (pv 1) (pa_cons (pv 3) pa_nil))) (pa_cons (pe_call DL.ok (hr.mono (by decide)) rfl DL.g DL.kp DL.b .nil pass0 (pa_cons (pv 3) pa_nil)) pa_nil)) (by rfl))
      (pss_cons (ps_if (PW.pt (pw_or (pt_cmpR op_ne (pe_callN0 (E := fun _ _ _ => False) DT.ok (hr.mono (by decide)) rfl DT.g DT.kp DT.kb passF (pk_cons (pv 4) pk_nil)) (pv 5) (nomark _))
          (pw_or1 (pt_cmpR (op_neTupG (mon_deed (C := C)) ((eqG_flat.mono (Nat.zero_le 1)).or (eqG_ins Eq.ok Eq.at_ Eq.fn Eq.b pass0)) (hr.mono (by decide))) (pe_callN0 (E := fun _ _ _ => False) DO.ok (hr.mono (by decide)) rfl DO.g DO.kp DO.kb passF (pk_cons (pv 1) (pk_cons (pv 2) (pk_cons (pv 5) pk_nil)))) (pv 4) (nomark _))))) (pss_one (ps_ret pe_bl)) pss_nil)
      (pss_cons (ps_for PassesOwn.never rfl (pi_range1 rfl T0.range (pa_cons pe_int pa_nil)) (pg_name (i := 6) scDH.nd rfl (Or.inl rfl))
        (pss_cons (ps_par3 (i := 7) (j := 8) (l := 9) (by rfl) scDH.nd rfl rfl rfl (by decide) (by decide) (by decide) rfl rfl rfl (pa_cons (pe_call DK.ok (hr.mono (by decide)) rfl DK.g DK.kp DK.b .nil pass0 (pa_cons (pv 0) (pa_cons (pe_op op_add (pe_callB call_len_str (by rfl) T0.len PySem.boot_len (pa_cons (pv 5) pa_nil)) pe_int) pa_nil)))
            (pa_cons (pe_call DP.ok (hr.mono (by decide)) rfl DP.g DP.kp DP.b .nil pass0 (pa_cons (pv 0) (pa_cons pe_str pa_nil))) (pa_cons (pe_call DK.ok (hr.mono (by decide)) rfl DK.g DK.kp DK.b .nil pass0 (pa_cons (pv 0) (pa_cons pe_int pa_nil))) pa_nil))) (by rfl))
        (C8.pss_cut (ps_set (i := 10) scDH.nd rfl (Or.inr rfl) (pe_op op_add_str (pe_op op_add_str (pe_slice C8.sl_txt (pv 5) po_none (po_some (pv 7))) (pe_ifExp (pt_cmpR op_gt (pv 9) pe_int (nomark _)) (pv 8) pe_str)) (pe_slice C8.sl_txt (pv 5) (po_some (pe_op op_add (pv 7) (pe_ifExp (pt_cmpR op_lt (pv 9) pe_int (nomark _)) pe_int pe_int))) po_none)))
        (pss_cons (ps_set (i := 11) scDH.nd rfl (Or.inl rfl) (pe_cgt (k := 10) (CS := CS) FG hS rfl gG kG bG hr passF (pa_cons (pe_lamR (k := 9) (T := T) (is := [1, 2, 10]) TB rfl hT hT1 rfl (lamS_by (sc := defScope (top 49)) (by decide +kernel)) (show LamI NDH _ _ by decide +kernel) (fun _ _ _ _ => rfl)
            (fun f c' A outer s H E hr2 => pe_call (E := E) DO.ok hr2 rfl DO.g DO.kp DO.b .nil (passes_call (takes_of rfl rfl rfl rfl) fun _ _ _ _ h => h) (pa_cons (pv 1) (pa_cons (pv 2) (pa_cons (pv 10) pa_nil))))) pa_nil)))
        (pss_one (ps_if (pt_cmpR op_isN (pv 11) pe_non (nomark _))
            (pss_one (ps_if (pt_cmpR op_ne (pe_call (E := fun _ _ _ => False) DT.ok (hr.mono (by decide)) rfl DT.g DT.kp DT.b .nil passF (pa_cons (pe_call (E := fun _ _ _ => False) DO.ok (hr.mono (by decide)) rfl DO.g DO.kp DO.b .nil passF (pa_cons (pv 1) (pa_cons (pv 2) (pa_cons (pv 10) pa_nil)))) pa_nil)) (pv 10) (nomark _)) (pss_one (ps_ret pe_bl)) pss_nil))
            (pss_one (ps_if (PW.pt (pw_or (pt_not (pt_val (pe_callB (r := rIsC K) call_isC (by rfl) T0.isi (by decide +kernel) (pa_cons (pv 11) (pa_cons (pe_glob (v := .ref G) (by rfl) XT.gN rfl) pa_nil))))) (pw_or1 (pt_cmpR op_ne (pe_xfc (pv 11)) pe_int (nomark _))))) (pss_one (ps_ret pe_bl)) pss_nil))))))))
      (pss_one (ps_ret pe_bl)))), ?_⟩
    obtain ⟨d, l, c, p, w, v, dd, rfl, D0, hp, w1, w3, hm, ok, tb, k⟩ := h
    have h8 : (200000 : Nat) ≤ sizeLine := by decide
    have p2 := (p_pos hp).1
    have p97 := prime_small hp
    have tl := deedL_len ok w3 (by omega)
    refine ⟨_, rfl, _, rfl, p, w, v, dd, rfl, hp, hm, ok, w3, fun y H1 S1 hy => ?_⟩
    refine ⟨_, rfl, p, w, v, dd, rfl, hm.same S1, ok, w3, by omega, fun H2 S2 => ⟨_, _, rfl, ?_⟩⟩
    have hy2 := hy.same S2
    refine ⟨_, rfl, rfl, rfl, y, rfl, .inl ⟨p, w, dd, hy2, ok, w1, w3, by omega, fun H3 S3 => ?_⟩⟩
    refine ⟨_, rfl, rfl, _, rfl, ite2 (fun z => absurd z (by rw [decide_eq_true rfl]; decide)) fun _ => ?_⟩
    have hr0 := read_there w1 ok
    refine ⟨_, rfl, _, rfl, _, rfl, rfl, rfl, deedOf_text hp w1 w3 (by omega) (fun z => by rw [hr0] at z; cases z) fun d2 hd2 z H4 S4 hz => ?_⟩
    obtain rfl : dd = d2 := Option.some.inj (hr0.symm.trans hd2)
    refine ⟨_, rfl, deed_same hz (hy2.same (S3.trans S4)), fun H5 E5 => ⟨_, rfl, iteF ?_⟩⟩
    have S05 : Same H H5 := (((S1.trans S2).trans S3).trans S4).trans (ext_same E5)
    have D5 := D0.up S05
    have tb5 := tb.ext S05
    clear hm hy hy2 hz S1 S2 S3 S4 E5 S05 D0 tb
    obtain ⟨t, ht⟩ : ∃ t, deedL dd = t := ⟨_, rfl⟩
    rw [ht] at tl ⊢
    refine ⟨6, rfl, by omega, by omega, for_it (walk_range (lo := 0) (n := 6)) (fun i σ H' => ∃ e6 e7 e8 e9 e10 e11 : Option V, σ = [some (.ref d), some (.int (p : Nat)), some (.int (w : Nat)), some v, some y, some (.str (S t)), e6, e7, e8, e9, e10, e11] ∧ DrawAt H' d l c ∧ Tabs T H')
      ⟨none, none, none, none, none, none, rfl, D5, tb5⟩ (fun _ _ _ _ _ => trivial) ?_ ?_⟩
    · rintro i v6 σ H6x H6 hi ⟨e6, e7, e8, e9, e10, e11, rfl, D6, tb6⟩ ⟨rfl, _⟩
      refine ⟨_, rfl, _, rfl, _, rfl, by rw [S_len]; omega, _, _, rfl, rfl, d, l, c, _, rfl, ?_, ?_, D6, fun sp H7 s0 s1 D7 Z7 => ?_⟩
      · rw [S_len]; omega
      · rw [S_len]; omega
      obtain ⟨sn, rfl⟩ : ∃ sn : Nat, sp = (sn : Nat) := ⟨sp.toNat, by omega⟩
      refine ⟨_, rfl, .inr ⟨d, l, c, [48, 49, 50, 51, 52, 53, 54, 55, 56, 57, 32, 47, 116, 117, 112, 120, 45], rfl, by decide, by decide, D7, fun ch H8 hch D8 Z8 => ?_⟩⟩
      refine ⟨_, rfl, d, l, c, 3, rfl, by decide, by decide, D8, fun wy H9 y0 y1 D9 Z9 => ⟨_, _, _, rfl, ?_⟩⟩
      have tb9 := tabs_drawn D8 Z9 (tabs_drawn D7 Z8 (tabs_drawn D6 Z7 tb6))
      clear Z7 Z8 Z9 D7 D8 D6 tb6
      refine ⟨fun σ H' => ∃ b : List Nat, σ = [some (.ref d), some (.int (p : Nat)), some (.int (w : Nat)), some v, some y, some (.str (S t)), some v6, some (.int (sn : Nat)), some (.str (S [ch])), some (.int wy), some (.str (S b)), e11] ∧ b.length ≤ 300 ∧ H' = H9, ?_, ?_⟩
      · refine ⟨_, rfl, _, rfl, _, rfl, S t, rfl, by rw [S_len]; omega, ?_⟩
        rw [slice_to (by omega)]
        have l1 : (t.take ((sn : Nat) : Int).toNat).length ≤ 120 := by rw [List.length_take]; omega
        have tail : ∀ (x : List Nat) (j : Nat), x.length ≤ 121 → (S x).length + (S (t.drop j)).length ≤ sizeLine ∧ (x ++ t.drop j).length ≤ 300 := fun x j hx => by
          have : (t.drop j).length ≤ 120 := by rw [List.length_drop]; omega
          rw [S_len, S_len, List.length_append]
          omega
        refine ⟨_, rfl, _, _, rfl, rfl, _, rfl, ite2 (fun _ => ?_) fun _ => ?_⟩
        · refine ⟨_, rfl, _, _, rfl, rfl, by rw [S_len, S_len]; show _ + 1 ≤ _; omega, ?_⟩
          rw [S_cat]
          have lx : (t.take ((sn : Nat) : Int).toNat ++ [ch]).length ≤ 121 := by rw [List.length_append]; show _ + 1 ≤ _; omega
          refine ⟨_, rfl, _, rfl, _, rfl, _, _, rfl, rfl, _, rfl, ite2 (fun _ => ?_) fun _ => ?_⟩
          · refine ⟨_, _, rfl, rfl, _, rfl, S t, rfl, by rw [S_len]; omega, ?_⟩
            rw [slice_from (by omega)]
            refine ⟨_, _, rfl, rfl, (tail _ _ lx).1, ?_⟩
            rw [S_cat]
            exact ⟨_, rfl, (tail _ _ lx).2, rfl⟩
          · refine ⟨_, _, rfl, rfl, _, rfl, S t, rfl, by rw [S_len]; omega, ?_⟩
            rw [slice_from (by omega)]
            refine ⟨_, _, rfl, rfl, (tail _ _ lx).1, ?_⟩
            rw [S_cat]
            exact ⟨_, rfl, (tail _ _ lx).2, rfl⟩
        · refine ⟨_, S [], rfl, rfl, by rw [S_len, S_len]; show _ + 0 ≤ _; omega, ?_⟩
          rw [S_cat]
          have lx : (t.take ((sn : Nat) : Int).toNat ++ []).length ≤ 121 := by rw [List.append_nil]; omega
          refine ⟨_, rfl, _, rfl, _, rfl, _, _, rfl, rfl, _, rfl, ite2 (fun _ => ?_) fun _ => ?_⟩
          · refine ⟨_, _, rfl, rfl, _, rfl, S t, rfl, by rw [S_len]; omega, ?_⟩
            rw [slice_from (by omega)]
            refine ⟨_, _, rfl, rfl, (tail _ _ lx).1, ?_⟩
            rw [S_cat]
            exact ⟨_, rfl, (tail _ _ lx).2, rfl⟩
          · refine ⟨_, _, rfl, rfl, _, rfl, S t, rfl, by rw [S_len]; omega, ?_⟩
            rw [slice_from (by omega)]
            refine ⟨_, _, rfl, rfl, (tail _ _ lx).1, ?_⟩
            rw [S_cat]
            exact ⟨_, rfl, (tail _ _ lx).2, rfl⟩
      · rintro σ H' ⟨b, rfl, lb, rfl⟩
        refine ⟨tb9, ⟨⟨_, rfl⟩, ⟨_, rfl⟩, ⟨_, rfl⟩, trivial⟩, fun f1 c1 O1 H10 E10 tb10 hc1 lo1 hf1 R1 => ?_⟩
        have D10 := D9.ext E10
        refine ⟨f1, _, _, caps_of (lamS_by (sc := defScope (top 49)) (by decide +kernel)) (show LamI NDH _ [1, 2, 10] by decide +kernel) ⟨rfl, rfl, rfl, trivial⟩, R1, rfl, lo1.is hf1, EXT G H10, fun _ H' => Same H10 H' ∧ ∃ d2, readL p w b = some d2, ⟨hf1, hc1, ?_⟩, fun u H11 h => ?_, fun cls dd H' h => ?_⟩
        · exact ⟨_, rfl, _, rfl, _, rfl, deedOf_text hp w1 w3 (by omega) (fun _ d3 H3 S3 nd hd => ⟨rfl, d3, rfl, hd, S3⟩) fun d2 hd2 y2 H3 S3 _ => ⟨S3, d2, hd2⟩⟩
        · obtain ⟨S11, d2, hd2⟩ := h
          have D11 := D10.up S11
          have tb11 := tb10.ext S11
          refine ⟨_, rfl, rfl, _, rfl, iteT ?_⟩
          refine ⟨_, rfl, _, rfl, _, rfl, ?_⟩
          dsimp only [tNil]
          refine deedOf_text hp w1 w3 (by omega) (fun z => by rw [hd2] at z; cases z) fun d3 hd3 y3 H12 S12 hy3 => ?_
          obtain rfl : d2 = d3 := Option.some.inj (hd2.symm.trans hd3)
          refine ⟨y3, rfl, .inl ⟨p, w, d2, hy3, read_ok hd2, w1, w3, by omega, fun H13 S13 => ?_⟩⟩
          rw [read_back hd2]
          refine ⟨_, rfl, rfl, _, rfl, ite2 (fun z => absurd z (by rw [decide_eq_true rfl]; decide)) fun _ => ?_⟩
          exact ⟨_, _, _, _, _, _, rfl, (D11.up S12).up S13, (tb11.ext S12).ext S13⟩
        · obtain ⟨rfl, d1, rfl, hd1, S11⟩ := h
          refine ⟨EG.ex, fun a1 na1 => ?_⟩
          have SA : Same H' (upd H' a1 (CauO (.ref G) (some d1) a1)) := (Same.refl _).put na1
          have hd2 := SA _ _ hd1
          refine ⟨_, rfl, rfl, _, rfl, iteF ?_⟩
          refine ⟨_, rfl, a1, G, .ref G, .ref G, true, rfl, .own _, .inr ⟨d1, _, upd_same, hd2⟩, EG.c, EG.kit, _, rfl, iteF ?_⟩
          refine ⟨_, rfl, a1, G, d1, _, .int 0, rfl, EG.xf, EG.at_, upd_same, hd2, rfl, rfl, _, rfl, iteF ?_⟩
          exact ⟨_, _, _, _, _, _, rfl, (D10.up S11).up SA, (tb10.ext S11).ext SA⟩
    · rintro σ H' ⟨e6, e7, e8, e9, e10, e11, rfl, D6, tb6⟩
      exact k _ D6 tb6
end
end P2
end

section
set_option maxRecDepth 100000
set_option maxHeartbeats 8000000
namespace P2
open PySem PySem.Spec PyProof.Rows L2 LamX ClX ZM SX K7
/-- the unit's lines -/
def unitL (w : Nat) : List (List Nat) := (List.range w).map fun i => (List.range w).map fun j => if i = j then 1 else 0
abbrev uL (w : Nat) : List Nat := linesL (unitL w)
theorem unit_ints : ∀ w ∈ [1, 2, 3], unitT w = intsT (unitL w) := by decide +kernel
/-- lines that are no deed's, the short ones -/
def shorts (p w : Nat) : List (List Nat) :=
  [[],
   [116, 97, 107, 101],
   [116, 97, 107, 101, 32],
   [116, 97, 107, 101, 32, 48, 49],
   [116, 97, 107, 101, 32, 45, 49],
   [116, 97, 107, 101, 32, 49, 48, 48, 48, 48, 48, 48, 48, 48, 49],
   [116, 97, 107, 101, 32, 49, 32],
   [84, 97, 107, 101, 32, 49],
   [32, 116, 97, 107, 101, 32, 49],
   [112, 117, 116],
   [112, 117, 116, 32],
   [112, 117, 116, 32, 78, 111, 110, 101],
   [116, 117, 114, 110, 32, 49, 32, 49, 32, 49, 32, 49],
   [117, 110, 100, 111],
   [112, 117, 116, 32, 32] ++ uL w,
   ([112, 117, 116, 32] ++ uL w) ++ [32],
   ([112, 117, 116, 32] ++ uL w) ++ [10],
   [103, 105, 118, 101, 32] ++ uL w,
   [112, 117, 116, 32] ++ StrLaws.replL [49] (TL.numL p) (uL w),
   [112, 117, 116, 32] ++ StrLaws.replL [49] [48, 49] (uL w),
   ([112, 117, 116, 32] ++ uL w) ++ [32, 47, 32, 49],
   [112, 117, 116, 32] ++ uL (w % 3 + 1),
   ([112, 117, 116, 32] ++ StrLaws.replL [32, 47, 32] [47] (uL w)) ++ [32, 47]]
theorem short_none : ∀ p ∈ [2, 3, 5, 7, 11, 13, 97], ∀ w ∈ [1, 2, 3], ∀ t ∈ shorts p w, readL p w t = none := by decide +kernel
theorem short_len : ∀ p ∈ [2, 3, 5, 7, 11, 13, 97], ∀ w ∈ [1, 2, 3], ∀ t ∈ shorts p w, t.length ≤ 1000 := by decide +kernel
theorem long_none {p w : Nat} {t : List Nat} (w3 : w ≤ 3) (hp : p ≤ 100) (h : 120 < t.length) : readL p w t = none := by
  cases hr : readL p w t with
  | none => rfl
  | some d =>
    have e := deedL_len (read_ok hr) w3 hp
    rw [read_back hr] at e
    omega
theorem repl_S {x y z : List Nat} (hy : 1 ≤ y.length) : Txt.replace (S x) (S y) (S z) = S (StrLaws.replL y z x) := by
  have e := StrLaws.replace_list (x := S x) (y := S y) (z := S z) (by rw [S_len]; exact hy)
  exact TL.ext_tl e
end P2
end

section
set_option maxRecDepth 100000
set_option maxHeartbeats 8000000
namespace P2
open PySem PySem.Spec PyProof.Rows L2 LamX ClX ZM SX K7
/-- what no deed is read from -/
def WrongX (H : Hp) (p w : Nat) (x : V) : Prop := (∃ t, x = .str (S t) ∧ t.length ≤ 100000 ∧ readL p w t = none) ∨ x = .non ∨ x = .int 0 ∨ (∃ b, x = .ref b ∧ H b = some (.tup [])) ∨ ∃ b ys, x = .ref b ∧ H b = some (.lst ys)
def spWrong : Sp := fun vs H Q _ => ∃ (p w : Nat), vs = [.int (p : Nat), .int (w : Nat)] ∧ p ∈ [2, 3, 5, 7, 11, 13, 97] ∧ w ∈ [1, 2, 3] ∧
  ∀ a xs H', Same H H' → H a = none → H' a = some (.lst xs) → xs.length ≤ 60 → (∀ x ∈ xs, WrongX H' p w x ∧ ∀ b, x = .ref b → H b = none) → Q (.ref a) H'
theorem unit_small : ∀ w ∈ [1, 2, 3], (unitL w).length ≤ 60 ∧ ∀ l ∈ unitL w, l.length ≤ 60 ∧ ∀ n ∈ l, n ≤ 1000000000 := by decide +kernel
theorem uL_len : ∀ w ∈ [1, 2, 3], (uL w).length ≤ 30 := by decide +kernel
theorem next_w : ∀ w ∈ [1, 2, 3], w % 3 + 1 ∈ [1, 2, 3] := by decide +kernel
theorem one_ne : ∀ p ∈ [2, 3, 5, 7, 11, 13, 97], ([49] == TL.numL p) = false := by decide +kernel
theorem fields_97 : ∀ p ∈ [2, 3, 5, 7, 11, 13, 97], p ≤ 97 := by decide
theorem ws_3 : ∀ w ∈ [1, 2, 3], 1 ≤ w ∧ w ≤ 3 := by decide
theorem sz {a b : List Nat} (h : a.length + b.length ≤ 100000) : (S a).length + (S b).length ≤ sizeLine := by
  rw [S_len, S_len]
  exact Nat.le_trans h (by decide)
theorem rep_S (n : Nat) : (⟨(List.replicate n (S [49]).cps).foldl (· ++ ·) #[]⟩ : Str) = S (List.replicate n 49) := by
  have key : ∀ (n : Nat) (acc : Array Nat), (List.replicate n #[49]).foldl (· ++ ·) acc = acc ++ (List.replicate n 49).toArray := by
    intro n
    induction n with
    | zero => intro acc; simp
    | succ n ih => intro acc; rw [List.replicate_succ, List.foldl_cons, ih, List.replicate_succ, Array.append_assoc]; congr 1; apply Array.toList_inj.mp; simp
  have e := key n #[]
  rw [Array.empty_append] at e
  exact congrArg Str.mk e
def ones : List Nat := List.replicate 5000 49
theorem ones_len : ones.length = 5000 := by unfold ones; rw [List.length_replicate]
theorem fresh_ones {X : Cx} {j k : Nat} {p1 p2 pos : Pos} : CwR.FreshE X (.BinOp (.Constant (.str "1") j p1) .Mult (.Constant (.int 5000) k p2) pos) (fun _ H Q => Q (S ones) H) := fun pins s σ H Q I h0 =>
  CwR.fresh_mul (by decide) (by decide) (by decide) (by decide) pins s σ H Q I (by
    have e : (⟨(List.replicate ((5000 : Int).toNat) (Str.ofString "1").cps).foldl (· ++ ·) #[]⟩ : Str) = S ones := rep_S 5000
    rw [e]
    exact h0)
theorem ones_ne : ((S [49] : Str) == S ones) = false := by
  rw [S_beq]
  refine beq_eq_false_iff_ne.mpr fun e => ?_
  have z := congrArg List.length e
  rw [ones_len] at z
  exact absurd z (by decide)
theorem repl_head {z r : List Nat} : StrLaws.replL [49] z (49 :: r) = z ++ StrLaws.replL [49] z r := StrLaws.replL_hit (by simp) rfl
theorem uL_head : ∀ w ∈ [1, 2, 3], (uL w).head? = some 49 := by decide +kernel
theorem ones_in {w : Nat} (hw : w ∈ [1, 2, 3]) : 5000 ≤ (StrLaws.replL [49] ones (uL w)).length := by
  have h := uL_head w hw
  cases e : uL w with
  | nil => rw [e] at h; cases h
  | cons c r =>
    rw [e] at h
    obtain rfl : c = 49 := Option.some.inj h
    rw [repl_head, List.length_append, ones_len]
    omega
theorem repl_count {z : List Nat} : ∀ x : List Nat, (StrLaws.replL [49] z x).length ≤ x.count 49 * z.length + x.length
  | [] => by rw [StrLaws.replL_nil]; exact Nat.zero_le _
  | c :: r => by
    have ih := repl_count (z := z) r
    by_cases h : c = 49
    · subst h
      rw [repl_head, List.length_append, List.count_cons_self, List.length_cons, Nat.succ_mul]
      omega
    · rw [StrLaws.replL_miss (by intro e; exact h (List.cons.inj e).1), List.length_cons, List.length_cons, List.count_cons_of_ne (fun e => h e)]
      omega
theorem uL_ones : ∀ w ∈ [1, 2, 3], (uL w).count 49 ≤ 3 := by decide +kernel
theorem ones_up {w : Nat} (hw : w ∈ [1, 2, 3]) : (StrLaws.replL [49] ones (uL w)).length ≤ 15030 := by
  have h := repl_count (z := ones) (uL w)
  have h2 := uL_ones w hw
  have h3 := uL_len w hw
  rw [ones_len] at h
  omega
theorem repl_small {x y z : List Nat} (hx : x.length ≤ 30) (hz : z.length ≤ 5000) (hy : 1 ≤ y.length) : (StrLaws.replL y z x).length ≤ 160000 ∧ (S x).length + ((S x).length + 1) * (S z).length ≤ 16777216 := by
  have e := TK.replace_len (S x) (S y) (S z)
  rw [repl_S hy, S_len, S_len, S_len] at e
  rw [S_len, S_len]
  have h2 : (x.length + 1) * z.length ≤ 31 * 5000 := Nat.mul_le_mul (by omega) hz
  exact ⟨by omega, by omega⟩
section
variable {P : Program} {w : World} {K : PySem.W.Frag} {mg : Str → Option Value} {base : Heap} {bp C B M N D G CS : Addr}
theorem pe_fresh {X : Cx} {e : Expr} {t : L2.St → Hp → (Str → Hp → Prop) → Prop} (h : CwR.FreshE X e t) : PE X e (fun σ H Q => t σ H fun z H1 => Q (.str z) H1) := ⟨fun pins s σ H Q I q => by
  refine wpAny_mono (h pins s σ H _ I q) (fun v s' hv => ?_) fun _ _ x => x
  obtain ⟨z, k, H', rfl, _, J, q2⟩ := hv
  exact ⟨.str z, H', J, ⟨_, rfl⟩, q2⟩⟩
abbrev NWL : List Str := ["field", "wide_here", "unit_line", "found"]
theorem scWL : FnScope NWL ["field", "wide_here"] (defScope (top 50)) := ⟨rfl, rfl, rfl, by decide +kernel, rfl, by decide +kernel, by decide +kernel⟩
theorem ok_wrong {f fU fL : Addr} {fd dU dL : FuncData} (F : Fun K "_law_wrong_lines" "_law_wrong_lines" (top 50) f fd) (T : Tx K mg bp) (X : Sx mg)
    (DU : Def P w K mg base CX0 1 "_law_unit" ["size"] spUnit fU dU)
    (DL : Def P w K mg base CX0 1 "_law_line_of" ["lines_here"] spLineOf fL dL) :
    FnOk P w K mg base CX0 2 f fd ["field", "wide_here"] spWrong := by
  refine F.ok scWL (fun vs H Q E h => ?_) (fun cdv A outer s H vs Q E hr h => ?_)
  · obtain ⟨p, w, rfl, _⟩ := h
    rfl
  · refine ⟨_, pss_cons (ps_set (i := 2) scWL.nd rfl (Or.inl rfl) (pe_call DL.ok hr rfl DL.g DL.kp DL.b .nil pass0 (pa_cons (pe_call DU.ok hr rfl DU.g DU.kp DU.b .nil pass0 (pa_cons (pv 1) pa_nil)) pa_nil)))
      (pss_cons (ps_set (i := 3) scWL.nd rfl (Or.inl rfl) (pe_lst (pa_cons pe_non (pa_cons pe_int (pa_cons (pe_tup pa_nil) (pa_cons (pe_lst (pa_cons pe_str pa_nil)) (pa_cons pe_str (pa_cons pe_str (pa_cons pe_str (pa_cons pe_str (pa_cons pe_str (pa_cons pe_str (pa_cons pe_str (pa_cons pe_str (pa_cons pe_str pa_nil)))))))))))))))
      (pss_cons (ps_set (i := 3) scWL.nd rfl (Or.inl rfl) (pe_op op_cat (pv 3) (pe_lst (pa_cons pe_str (pa_cons pe_str (pa_cons (pe_op op_add_str pe_str (pv 2)) (pa_cons (pe_op op_add_str (pe_op op_add_str pe_str (pv 2)) pe_str) (pa_cons (pe_op op_add_str (pe_op op_add_str pe_str (pv 2)) pe_str) (pa_cons (pe_op op_add_str pe_str (pv 2)) pa_nil)))))))))
      (pss_cons (ps_set (i := 3) scWL.nd rfl (Or.inl rfl) (pe_op op_cat (pv 3) (pe_lst (pa_cons (CwR.pe_opC op_add_str (CwR.pet_repl (pv 2) (CwR.fresh_str (by rfl) X.str (pv 0)))) (pa_cons (CwR.pe_opC op_add_str (CwR.pet_replC (pv 2))) (pa_cons (pe_op op_add_str (pe_op op_add_str pe_str (pv 2)) pe_str) pa_nil))))))
      (pss_cons (ps_set (i := 3) scWL.nd rfl (Or.inl rfl) (pe_op op_cat (pv 3) (pe_lst (pa_cons (CwR.pe_opC op_add_str (CwR.pet_repl (pv 2) fresh_ones)) (pa_cons (pe_op op_add_str pe_str (pe_fresh fresh_ones)) (pa_cons pe_str (pa_cons pe_str (pa_cons pe_str pa_nil))))))))
      (pss_one (ps_ret (pe_op op_cat (pv 3) (pe_lst (pa_cons (pe_op op_add_str pe_str (pe_call DL.ok hr rfl DL.g DL.kp DL.b .nil pass0 (pa_cons (pe_call DU.ok hr rfl DU.g DU.kp DU.b .nil pass0 (pa_cons (pe_op op_add (pe_op op_mod (pe_callTy call_int1 (by rfl) T.int (by decide +kernel) (pa_cons (pv 1) pa_nil)) pe_int) pe_int) pa_nil)) pa_nil)))
          (pa_cons (pe_op op_add_str (CwR.pe_opC op_add_str (CwR.pet_replC (pv 2))) pe_str) pa_nil)))))))))), ?_⟩
    obtain ⟨p, w, rfl, hp, hw, k⟩ := h
    obtain ⟨w1, w3⟩ := ws_3 w hw
    have p97 := fields_97 p hp
    have h8 : (200000 : Nat) ≤ sizeLine := by decide
    have lu := uL_len w hw
    have lv := uL_len _ (next_w w hw)
    have lp : (TL.numL p).length ≤ 10 := numL_small (by omega)
    obtain ⟨us1, us2⟩ := unit_small w hw
    refine ⟨_, rfl, w, rfl, by omega, fun a as H1 S1 na nas hg => ⟨a, as, unitL w, rfl, by rw [← unit_ints w hw]; exact hg, us1, us2, fun H2 S2 => ?_⟩⟩
    -- found
    refine ⟨(show (0 : Nat) ≤ sizeLine by omega), fun e he => ⟨(show (1 : Nat) ≤ sizeLine by omega), fun l1 hl1 => ⟨(show (13 : Nat) ≤ sizeLine by omega), fun L1 hL1 => ?_⟩⟩⟩
    have Se : Same H2 (upd H2 e (.tup [])) := (Same.refl _).new he
    have he2 : upd H2 e (.tup []) e = some (.tup []) := upd_same
    have ne : H e = none := (S1.trans S2).free he
    generalize upd H2 e (.tup []) = H3 at Se he2 hl1 hL1 ⊢
    have Sl : Same H3 (upd H3 l1 (.lst [.str "take 1"])) := (Same.refl _).put hl1
    have hl2 : upd H3 l1 (.lst [.str "take 1"]) l1 = some (.lst [.str "take 1"]) := upd_same
    have nl : H l1 = none := ((S1.trans S2).trans Se).free hl1
    generalize upd H3 l1 (.lst [.str "take 1"]) = H4 at Sl hl2 hL1 ⊢
    obtain ⟨xs1, e1⟩ : ∃ xs1, [V.non, V.int 0, V.ref e, V.ref l1, V.str "", V.str "take", V.str "take ", V.str "take 01", V.str "take -1", V.str "take 1000000001", V.str "take 1 ", V.str "Take 1", V.str " take 1"] = xs1 := ⟨_, rfl⟩
    have x1 : xs1.length = 13 := by rw [← e1]; rfl
    obtain ⟨H5, eH5, a5, S5⟩ : ∃ H5, upd H4 L1 (.lst xs1) = H5 ∧ H5 L1 = some (.lst xs1) ∧ Same H4 H5 := ⟨_, rfl, upd_same, (Same.refl _).put hL1⟩
    rw [← e1] at eH5
    show tSeq _ _ _ _ (upd H4 L1 (.lst [V.non, V.int 0, V.ref e, V.ref l1, V.str "", V.str "take", V.str "take ", V.str "take 01", V.str "take -1", V.str "take 1000000001", V.str "take 1 ", V.str "Take 1", V.str " take 1"]))
    rw [eH5]
    have S05 := (((S1.trans S2).trans Se).trans Sl).trans S5
    -- found + [..]
    refine ⟨_, rfl, _, rfl, S [112, 117, 116, 32, 32], S (uL w), rfl, rfl, sz (by show 5 + _ ≤ _; omega), _, rfl, S [112, 117, 116, 32], S (uL w), rfl, rfl, sz (by show 4 + _ ≤ _; omega), S [112, 117, 116, 32] ++ S (uL w), S [32], rfl, rfl, by rw [S_cat]; exact sz (by rw [List.length_append]; show 4 + _ + 1 ≤ _; omega),
      _, rfl, S [112, 117, 116, 32], S (uL w), rfl, rfl, sz (by show 4 + _ ≤ _; omega), S [112, 117, 116, 32] ++ S (uL w), S [10], rfl, rfl, by rw [S_cat]; exact sz (by rw [List.length_append]; show 4 + _ + 1 ≤ _; omega), _, rfl, S [103, 105, 118, 101, 32], S (uL w), rfl, rfl, sz (by show 5 + _ ≤ _; omega), (show (6 : Nat) ≤ sizeLine by omega), fun L2 hL2 => ?_⟩
    obtain ⟨ys2, e2⟩ : ∃ ys2, [V.str "put", V.str "put ", V.str (S [112, 117, 116, 32, 32] ++ S (uL w)), V.str (S [112, 117, 116, 32] ++ S (uL w) ++ S [32]), V.str (S [112, 117, 116, 32] ++ S (uL w) ++ S [10]), V.str (S [103, 105, 118, 101, 32] ++ S (uL w))] = ys2 := ⟨_, rfl⟩
    have x2 : ys2.length = 6 := by rw [← e2]; rfl
    have S6 : Same H5 (upd H5 L2 (.lst ys2)) := (Same.refl _).put hL2
    have a6 : upd H5 L2 (.lst ys2) L2 = some (.lst ys2) := upd_same
    rw [← e2] at S6 a6
    refine ⟨L1, L2, xs1, _, rfl, rfl, S6 _ _ a5, a6, by rw [x1]; show 13 + 6 ≤ _; omega, fun L3 hL3 => ?_⟩
    obtain ⟨xs2, f2⟩ : ∃ xs2, xs1 ++ ys2 = xs2 := ⟨_, rfl⟩
    have y2 : xs2.length = 19 := by rw [← f2, List.length_append, x1, x2]
    obtain ⟨H7, eH7, a7, S7⟩ : ∃ H7, upd (upd H5 L2 (.lst [V.str "put", V.str "put ", V.str (S [112, 117, 116, 32, 32] ++ S (uL w)), V.str (S [112, 117, 116, 32] ++ S (uL w) ++ S [32]), V.str (S [112, 117, 116, 32] ++ S (uL w) ++ S [10]), V.str (S [103, 105, 118, 101, 32] ++ S (uL w))])) L3 (.lst xs2) = H7 ∧ H7 L3 = some (.lst xs2) ∧ Same _ H7 := ⟨_, rfl, upd_same, (Same.refl _).put hL3⟩
    rw [← f2, ← e2] at eH7
    show tSeq _ _ _ _ (upd (upd H5 L2 (.lst [V.str "put", V.str "put ", V.str (S [112, 117, 116, 32, 32] ++ S (uL w)), V.str (S [112, 117, 116, 32] ++ S (uL w) ++ S [32]), V.str (S [112, 117, 116, 32] ++ S (uL w) ++ S [10]), V.str (S [103, 105, 118, 101, 32] ++ S (uL w))])) L3 (.lst (xs1 ++ [V.str "put", V.str "put ", V.str (S [112, 117, 116, 32, 32] ++ S (uL w)), V.str (S [112, 117, 116, 32] ++ S (uL w) ++ S [32]), V.str (S [112, 117, 116, 32] ++ S (uL w) ++ S [10]), V.str (S [103, 105, 118, 101, 32] ++ S (uL w))])))
    rw [eH7]
    have S07 := (S05.trans S6).trans S7
    clear eH7 eH5 hL2 hL3 a6
    -- found + [..], with what replaces 1
    have r1 := repl_small (x := uL w) (y := [49]) (z := TL.numL p) lu (by omega) (by decide)
    have r2 := repl_small (x := uL w) (y := [49]) (z := [48, 49]) lu (by decide) (by decide)
    have lr1 : (StrLaws.replL [49] (TL.numL p) (uL w)).length ≤ 60 := by
      have h := repl_count (z := TL.numL p) (uL w)
      have h2 := uL_ones w hw
      have h3 : (uL w).count 49 * (TL.numL p).length ≤ 3 * 10 := Nat.mul_le_mul h2 lp
      omega
    have lr2 : (StrLaws.replL [49] [48, 49] (uL w)).length ≤ 60 := by
      have h := repl_count (z := [48, 49]) (uL w)
      have h2 := uL_ones w hw
      have h3 : (uL w).count 49 * ([48, 49] : List Nat).length ≤ 3 * 10 := Nat.mul_le_mul h2 (by decide)
      omega
    have t1 : Txt.replace (S (uL w)) (S [49]) (Str.ofString (toString ((p : Nat) : Int))) = S (StrLaws.replL [49] (TL.numL p) (uL w)) := by rw [tos_nat]; exact repl_S (by decide)
    have t2 : Txt.replace (S (uL w)) (S [49]) (S [48, 49]) = S (StrLaws.replL [49] [48, 49] (uL w)) := repl_S (by decide)
    have n1 : ((S [49] : Str) == Str.ofString (toString ((p : Nat) : Int))) = false := by rw [tos_nat, S_beq]; exact one_ne p hp
    refine ⟨_, rfl, _, rfl, S (uL w), rfl, _, rfl, p, rfl, log_small (by omega), n1, by rw [tos_nat]; exact r1.2, S [112, 117, 116, 32], _, rfl, congrArg V.str t1, sz (by show 4 + _ ≤ _; omega), ?_⟩
    refine ⟨_, rfl, S (uL w), rfl, r2.2, S [112, 117, 116, 32], _, rfl, congrArg V.str t2, sz (by show 4 + _ ≤ _; omega), _, rfl, S [112, 117, 116, 32], S (uL w), rfl, rfl, sz (by show 4 + _ ≤ _; omega), S [112, 117, 116, 32] ++ S (uL w), S [32, 47, 32, 49], rfl, rfl, by rw [S_cat]; exact sz (by rw [List.length_append]; show 4 + _ + 4 ≤ _; omega), (show (3 : Nat) ≤ sizeLine by omega), fun L4 hL4 => ?_⟩
    obtain ⟨ys3, e3⟩ : ∃ ys3, [V.str (S [112, 117, 116, 32] ++ S (StrLaws.replL [49] (TL.numL p) (uL w))), V.str (S [112, 117, 116, 32] ++ S (StrLaws.replL [49] [48, 49] (uL w))), V.str (S [112, 117, 116, 32] ++ S (uL w) ++ S [32, 47, 32, 49])] = ys3 := ⟨_, rfl⟩
    have x3 : ys3.length = 3 := by rw [← e3]; rfl
    have S8 : Same H7 (upd H7 L4 (.lst ys3)) := (Same.refl _).put hL4
    have a8 : upd H7 L4 (.lst ys3) L4 = some (.lst ys3) := upd_same
    rw [← e3] at S8 a8
    refine ⟨L3, L4, xs2, _, rfl, rfl, S8 _ _ a7, a8, by rw [y2]; show 19 + 3 ≤ _; omega, fun L5 hL5 => ?_⟩
    obtain ⟨xs3, f3⟩ : ∃ xs3, xs2 ++ ys3 = xs3 := ⟨_, rfl⟩
    have y3 : xs3.length = 22 := by rw [← f3, List.length_append, y2, x3]
    obtain ⟨H9, eH9, a9, S9⟩ : ∃ H9, upd (upd H7 L4 (.lst [V.str (S [112, 117, 116, 32] ++ S (StrLaws.replL [49] (TL.numL p) (uL w))), V.str (S [112, 117, 116, 32] ++ S (StrLaws.replL [49] [48, 49] (uL w))), V.str (S [112, 117, 116, 32] ++ S (uL w) ++ S [32, 47, 32, 49])])) L5 (.lst xs3) = H9 ∧ H9 L5 = some (.lst xs3) ∧ Same _ H9 := ⟨_, rfl, upd_same, (Same.refl _).put hL5⟩
    rw [← f3, ← e3] at eH9
    show tSeq _ _ _ _ (upd (upd H7 L4 (.lst [V.str (S [112, 117, 116, 32] ++ S (StrLaws.replL [49] (TL.numL p) (uL w))), V.str (S [112, 117, 116, 32] ++ S (StrLaws.replL [49] [48, 49] (uL w))), V.str (S [112, 117, 116, 32] ++ S (uL w) ++ S [32, 47, 32, 49])])) L5 (.lst (xs2 ++ [V.str (S [112, 117, 116, 32] ++ S (StrLaws.replL [49] (TL.numL p) (uL w))), V.str (S [112, 117, 116, 32] ++ S (StrLaws.replL [49] [48, 49] (uL w))), V.str (S [112, 117, 116, 32] ++ S (uL w) ++ S [32, 47, 32, 49])])))
    rw [eH9]
    have S09 := (S07.trans S8).trans S9
    clear eH9 hL4 hL5 a8
    -- found + [..], with 5000 figures
    have r3 := repl_small (x := uL w) (y := [49]) (z := ones) lu (by rw [ones_len]; omega) (by decide)
    have lr3 := ones_up hw
    have lo := ones_len
    have t3 : Txt.replace (S (uL w)) (S [49]) (S ones) = S (StrLaws.replL [49] ones (uL w)) := repl_S (by decide)
    refine ⟨_, rfl, _, rfl, S (uL w), rfl, ones_ne, r3.2, S [116, 117, 114, 110, 32], _, rfl, congrArg V.str t3, sz (by show 5 + _ ≤ _; omega), S [116, 97, 107, 101, 32], S ones, rfl, rfl, sz (by show 5 + _ ≤ _; omega), (show (5 : Nat) ≤ sizeLine by omega), fun L6 hL6 => ?_⟩
    obtain ⟨ys4, e4⟩ : ∃ ys4, [V.str (S [116, 117, 114, 110, 32] ++ S (StrLaws.replL [49] ones (uL w))), V.str (S [116, 97, 107, 101, 32] ++ S ones), V.str "put None", V.str "turn 1 1 1 1", V.str "undo"] = ys4 := ⟨_, rfl⟩
    have x4 : ys4.length = 5 := by rw [← e4]; rfl
    have S10 : Same H9 (upd H9 L6 (.lst ys4)) := (Same.refl _).put hL6
    have a10 : upd H9 L6 (.lst ys4) L6 = some (.lst ys4) := upd_same
    rw [← e4] at S10 a10
    refine ⟨L5, L6, xs3, _, rfl, rfl, S10 _ _ a9, a10, by rw [y3]; show 22 + 5 ≤ _; omega, fun L7 hL7 => ?_⟩
    obtain ⟨xs4, f4⟩ : ∃ xs4, xs3 ++ ys4 = xs4 := ⟨_, rfl⟩
    have y4 : xs4.length = 27 := by rw [← f4, List.length_append, y3, x4]
    obtain ⟨H11, eH11, a11, S11⟩ : ∃ H11, upd (upd H9 L6 (.lst [V.str (S [116, 117, 114, 110, 32] ++ S (StrLaws.replL [49] ones (uL w))), V.str (S [116, 97, 107, 101, 32] ++ S ones), V.str "put None", V.str "turn 1 1 1 1", V.str "undo"])) L7 (.lst xs4) = H11 ∧ H11 L7 = some (.lst xs4) ∧ Same _ H11 := ⟨_, rfl, upd_same, (Same.refl _).put hL7⟩
    rw [← f4, ← e4] at eH11
    rw [eH11]
    have S011 := (S09.trans S10).trans S11
    clear eH11 hL6 hL7 a10
    -- the last ones
    obtain ⟨vs1, vs2⟩ := unit_small _ (next_w w hw)
    have r4 := repl_small (x := uL w) (y := [32, 47, 32]) (z := [47]) lu (by decide) (by decide)
    have t4 : Txt.replace (S (uL w)) (S [32, 47, 32]) (S [47]) = S (StrLaws.replL [32, 47, 32] [47] (uL w)) := repl_S (by decide)
    have lw : (uL (w % 3 + 1)).length ≤ 30 := lv
    have lr4 : (StrLaws.replL [32, 47, 32] [47] (uL w)).length ≤ 100 := (by decide +kernel : ∀ w ∈ [1, 2, 3], (StrLaws.replL [32, 47, 32] [47] (uL w)).length ≤ 100) w hw
    refine ⟨_, rfl, _, rfl, .inl ⟨_, rfl, _, _, rfl, rfl, (show (0 : Int) < 3 by decide), _, _, rfl, rfl, w % 3 + 1, congrArg (fun z => [V.int z]) (show (w : Int) % 3 + 1 = ((w % 3 + 1 : Nat) : Int) by omega), by omega, fun a2 as2 H12 S12 _ _ hg2 => ⟨a2, as2, unitL (w % 3 + 1), rfl, by rw [← unit_ints _ (next_w w hw)]; exact hg2, vs1, vs2, fun H13 S13 => ?_⟩⟩⟩
    refine ⟨S [112, 117, 116, 32], S (uL (w % 3 + 1)), rfl, rfl, sz (by show 4 + _ ≤ _; omega), _, rfl, S (uL w), rfl, r4.2, S [112, 117, 116, 32], _, rfl, congrArg V.str t4, sz (by show 4 + _ ≤ _; omega), S [112, 117, 116, 32] ++ S (StrLaws.replL [32, 47, 32] [47] (uL w)), S [32, 47], rfl, rfl, by rw [S_cat]; exact sz (by rw [List.length_append]; show 4 + _ + 2 ≤ _; omega), (show (2 : Nat) ≤ sizeLine by omega), fun L8 hL8 => ?_⟩
    have S14 : Same H13 (upd H13 L8 (.lst [V.str (S [112, 117, 116, 32] ++ S (uL (w % 3 + 1))), V.str (S [112, 117, 116, 32] ++ S (StrLaws.replL [32, 47, 32] [47] (uL w)) ++ S [32, 47])])) := (Same.refl _).put hL8
    refine ⟨L7, L8, xs4, _, rfl, rfl, S14 _ _ (S13 _ _ (S12 _ _ a11)), upd_same, by rw [y4]; show 27 + 2 ≤ _; omega, fun L9 hL9 => ?_⟩
    have S015 := (((S011.trans S12).trans S13).trans S14).trans ((Same.refl _).put (o := .lst (xs4 ++ [V.str (S [112, 117, 116, 32] ++ S (uL (w % 3 + 1))), V.str (S [112, 117, 116, 32] ++ S (StrLaws.replL [32, 47, 32] [47] (uL w)) ++ S [32, 47])])) hL9)
    have e15 := ((((((((((S5.trans S6).trans S7).trans S8).trans S9).trans S10).trans S11).trans S12).trans S13).trans S14).trans ((Same.refl _).put (o := .lst (xs4 ++ [V.str (S [112, 117, 116, 32] ++ S (uL (w % 3 + 1))), V.str (S [112, 117, 116, 32] ++ S (StrLaws.replL [32, 47, 32] [47] (uL w)) ++ S [32, 47])])) hL9))
    have he15 := e15 _ _ (Sl _ _ he2)
    have hl15 := e15 _ _ hl2
    have nL9 : H L9 = none := (((S011.trans S12).trans S13).trans S14).free hL9
    refine k L9 _ _ S015 nL9 upd_same (by rw [List.length_append, y4]; show 27 + 2 ≤ 60; omega) ?_
    generalize upd (upd H13 L8 (.lst [V.str (S [112, 117, 116, 32] ++ S (uL (w % 3 + 1))), V.str (S [112, 117, 116, 32] ++ S (StrLaws.replL [32, 47, 32] [47] (uL w)) ++ S [32, 47])])) L9 _ = H15 at he15 hl15 ⊢
    have txt : ∀ (z : Str) (t : List Nat), z = S t → t.length ≤ 100000 → readL p w t = none → WrongX H15 p w (.str z) ∧ ∀ b, V.str z = .ref b → H b = none := fun z t e l r => ⟨.inl ⟨t, by rw [e], l, r⟩, fun b z => by cases z⟩
    have sh : ∀ (i : Nat) (z : Str) (t : List Nat), (shorts p w)[i]? = some t → z = S t → WrongX H15 p w (.str z) ∧ ∀ b, V.str z = .ref b → H b = none := fun i z t h e => txt z t e (Nat.le_trans (short_len p hp w hw t (List.mem_of_getElem? h)) (by decide)) (short_none p hp w hw t (List.mem_of_getElem? h))
    have two : ∀ a b : List Nat, S a ++ S b = S (a ++ b) := fun a b => S_cat a b
    have thr : ∀ a b c : List Nat, S a ++ S b ++ S c = S (a ++ b ++ c) := fun a b c => by rw [S_cat, S_cat]
    rw [← f4, ← f3, ← f2, ← e1, ← e2, ← e3, ← e4]
    refine List.forall_mem_append.mpr ⟨List.forall_mem_append.mpr ⟨List.forall_mem_append.mpr ⟨List.forall_mem_append.mpr ⟨?_, ?_⟩, ?_⟩, ?_⟩, ?_⟩
    · refine List.forall_mem_cons.mpr ⟨⟨.inr (.inl rfl), fun b z => by cases z⟩, List.forall_mem_cons.mpr ⟨⟨.inr (.inr (.inl rfl)), fun b z => by cases z⟩, List.forall_mem_cons.mpr ⟨⟨.inr (.inr (.inr (.inl ⟨e, rfl, he15⟩))), fun b z => by cases z; exact ne⟩, List.forall_mem_cons.mpr ⟨⟨.inr (.inr (.inr (.inr ⟨l1, _, rfl, hl15⟩))), fun b z => by cases z; exact nl⟩, ?_⟩⟩⟩⟩
      exact List.forall_mem_cons.mpr ⟨sh 0 _ _ rfl rfl, List.forall_mem_cons.mpr ⟨sh 1 _ _ rfl rfl, List.forall_mem_cons.mpr ⟨sh 2 _ _ rfl rfl, List.forall_mem_cons.mpr ⟨sh 3 _ _ rfl rfl, List.forall_mem_cons.mpr ⟨sh 4 _ _ rfl rfl, List.forall_mem_cons.mpr ⟨sh 5 _ _ rfl rfl, List.forall_mem_cons.mpr ⟨sh 6 _ _ rfl rfl, List.forall_mem_cons.mpr ⟨sh 7 _ _ rfl rfl, List.forall_mem_cons.mpr ⟨sh 8 _ _ rfl rfl, fun _ h => nomatch h⟩⟩⟩⟩⟩⟩⟩⟩⟩
    · exact List.forall_mem_cons.mpr ⟨sh 9 _ _ rfl rfl, List.forall_mem_cons.mpr ⟨sh 10 _ _ rfl rfl, List.forall_mem_cons.mpr ⟨sh 14 _ _ rfl (two _ _), List.forall_mem_cons.mpr ⟨sh 15 _ _ rfl (thr _ _ _), List.forall_mem_cons.mpr ⟨sh 16 _ _ rfl (thr _ _ _), List.forall_mem_cons.mpr ⟨sh 17 _ _ rfl (two _ _), fun _ h => nomatch h⟩⟩⟩⟩⟩⟩
    · exact List.forall_mem_cons.mpr ⟨sh 18 _ _ rfl (two _ _), List.forall_mem_cons.mpr ⟨sh 19 _ _ rfl (two _ _), List.forall_mem_cons.mpr ⟨sh 20 _ _ rfl (thr _ _ _), fun _ h => nomatch h⟩⟩⟩
    · have w7 : 5000 ≤ (StrLaws.replL [49] ones (uL w)).length := ones_in hw
      exact List.forall_mem_cons.mpr ⟨txt _ _ (two _ _) (by rw [List.length_append]; show 5 + _ ≤ _; omega) (long_none w3 (by omega) (by rw [List.length_append]; show _ < 5 + _; omega)), List.forall_mem_cons.mpr ⟨txt _ _ (two _ _) (by rw [List.length_append]; show 5 + _ ≤ _; omega) (long_none w3 (by omega) (by rw [List.length_append]; show _ < 5 + _; omega)),
        List.forall_mem_cons.mpr ⟨sh 11 _ _ rfl rfl, List.forall_mem_cons.mpr ⟨sh 12 _ _ rfl rfl, List.forall_mem_cons.mpr ⟨sh 13 _ _ rfl rfl, fun _ h => nomatch h⟩⟩⟩⟩⟩
    · exact List.forall_mem_cons.mpr ⟨sh 21 _ _ rfl (two _ _), List.forall_mem_cons.mpr ⟨sh 22 _ _ rfl (thr _ _ _), fun _ h => nomatch h⟩⟩
end
end P2
end

section
set_option maxRecDepth 100000
set_option maxHeartbeats 8000000
namespace P2
open PySem PySem.Spec PyProof.Rows L2 LamX ClX ZM SX K7
/-- an error without attributes -/
structure ErrN (K : PySem.W.Frag) (CS B : Addr) : Prop where
  ex : PySem.W.exmOne K (.ref B) (.ref CS) = some true
  c : ExcC K B
  kit : PySem.W.kitOne K (.ref B) (.ref B) = some true
/-- raised, where the heap was H0 -/
def EN (B : Addr) (H0 : Hp) : XK := fun cls dd H' => cls = .ref B ∧ dd = none ∧ Same H0 H'
/-- a number was refused, by its name -/
def EXN (N : Addr) (H0 : Hp) : XK := fun cls dd H' => cls = .ref N ∧ ∃ d1, dd = some d1 ∧ H' d1 = some (.xd [("part", .str "wide")]) ∧ Same H0 H'
/-- raised behind a draw -/
def EP (B d l c : Addr) (H0 : Hp) : XK := fun cls dd H' => cls = .ref B ∧ dd = none ∧ DrawAt H' d l c ∧ Drawn d l H0 H'
/-- what is no deed with a text, in the law's list -/
inductive BadThing (C : Addr) (H : Hp) : V → Prop
  | non : BadThing C H .non
  | int (i : Int) : BadThing C H (.int i)
  | lst {a : Addr} {ys : List V} (h : H a = some (.lst ys)) : BadThing C H (.ref a)
  | tup0 {a : Addr} (h : H a = some (.tup [])) : BadThing C H (.ref a)
  | tup1 {a : Addr} {v : V} (h : H a = some (.tup [v])) : BadThing C H (.ref a)
  | bool {a : Addr} {b : Bool} (h : H a = some (.tup [.str (S wTake), .bl b])) : BadThing C H (.ref a)
  | num {a : Addr} {i : Int} (h : H a = some (.tup [.str (S wTake), .int i])) (hi : ¬ (0 ≤ i ∧ i ≤ 1000000000)) : BadThing C H (.ref a)
  | tab {a c : Addr} {z : Str} {p n m : Int} {rs : List (List Int)} (hz : z = S wPut ∨ z = S wTurn) (h : H a = some (.tup [.str z, .ref c])) (t : TableAt H C c p n m rs) (hn : ¬ (n = m ∧ 1 ≤ n ∧ n ≤ 3)) : BadThing C H (.ref a)
  | tlst {a c : Addr} {z : Str} {ys : List V} (hz : z = S wPut ∨ z = S wTurn) (h : H a = some (.tup [.str z, .ref c])) (t : H c = some (.lst ys)) : BadThing C H (.ref a)
theorem TableAt.ext {H H' : Hp} {C a : Addr} {p n m : Int} {rs : List (List Int)} (h : TableAt H C a p n m rs) (S : ExtN H H') : TableAt H' C a p n m rs := by
  obtain ⟨dx, e, h1, as, h2, h3, h4⟩ := h
  exact ⟨dx, e, S _ _ h1 (fun ps z => by cases z), as, S _ _ h2 (fun ps z => by cases z), h3, fun i b r x y => S _ _ (h4 i b r x y) (fun ps z => by cases z)⟩
theorem BadThing.ext {C : Addr} {H H' : Hp} {v : V} (h : BadThing C H v) (T : ExtN H H') : BadThing C H' v := by
  cases h with
  | non => exact .non
  | int i => exact .int i
  | lst h => exact .lst (T _ _ h (fun ps z => by cases z))
  | tup0 h => exact .tup0 (T _ _ h (fun ps z => by cases z))
  | tup1 h => exact .tup1 (T _ _ h (fun ps z => by cases z))
  | bool h => exact .bool (T _ _ h (fun ps z => by cases z))
  | num h hi => exact .num (T _ _ h (fun ps z => by cases z)) hi
  | tab hz h t hn => exact .tab hz (T _ _ h (fun ps z => by cases z)) (t.ext T) hn
  | tlst hz h t => exact .tlst hz (T _ _ h (fun ps z => by cases z)) (T _ _ t (fun ps z => by cases z))
theorem BadThing.bad {K : PySem.W.Frag} {C : Addr} {H : Hp} {v : V} (h : BadThing C H v) : BadD K C H v := by
  cases h with
  | non => exact .inl (.inl ⟨"NoneType", .base .non, by decide, by decide, rfl⟩)
  | int i => exact .inl (.inl ⟨"int", .base (.int i), by decide, by decide, rfl⟩)
  | lst h => exact .inl (.inl ⟨"list", .base (.lst h), by decide, by decide, rfl⟩)
  | tup0 h => exact .inl (.inr ⟨_, _, rfl, SqT.of h, .base (.tup h), .inl ⟨by simp, by simp, rfl⟩⟩)
  | tup1 h => exact .inl (.inr ⟨_, _, rfl, SqT.of h, .base (.tup h), .inl ⟨by simp, by simp, rfl⟩⟩)
  | bool h => exact .inl (.inr ⟨_, _, rfl, SqT.of h, .base (.tup h), .inr ⟨_, _, rfl, .inr ⟨rfl, pv_flat rfl, rfl⟩⟩⟩)
  | num h hi => exact .inr (.inl ⟨_, _, rfl, h, hi⟩)
  | tab hz h t hn => exact .inr (.inr ⟨_, _, _, _, _, _, _, rfl, hz, h, t, hn⟩)
  | tlst hz h t => exact .inl (.inr ⟨_, _, rfl, SqT.of h, .base (.tup h), .inr ⟨_, _, rfl, .inl ⟨hz, .inr ⟨⟨"list", by decide, .base (.lst t)⟩, rfl⟩⟩⟩⟩)
def AllB (C : Addr) (H : Hp) (vs : List V) : Prop := ∀ v ∈ vs, BadThing C H v
theorem AllB.ext {C : Addr} {H H' : Hp} {vs : List V} (a : AllB C H vs) (T : ExtN H H') : AllB C H' vs := fun v hv => (a v hv).ext T
theorem AllB.add {C : Addr} {H H' : Hp} {vs : List V} {v : V} (a : AllB C H vs) (T : Same H H') (h : BadThing C H' v) : AllB C H' (v :: vs) := fun u hu => (List.mem_cons.mp hu).elim (fun e => e ▸ h) fun hu => (a u hu).ext (.of T)
theorem AllB.same {C : Addr} {H H' : Hp} {vs : List V} (a : AllB C H vs) (T : Same H H') : AllB C H' vs := a.ext (.of T)
theorem WrongX.ext {H H' : Hp} {p w : Nat} {x : V} (h : WrongX H p w x) (T : ExtN H H') : WrongX H' p w x := by
  rcases h with h | h | h | ⟨b, e, h⟩ | ⟨b, ys, e, h⟩
  · exact .inl h
  · exact .inr (.inl h)
  · exact .inr (.inr (.inl h))
  · exact .inr (.inr (.inr (.inl ⟨b, e, T _ _ h (fun ps z => by cases z)⟩)))
  · exact .inr (.inr (.inr (.inr ⟨b, ys, e, T _ _ h (fun ps z => by cases z)⟩)))
theorem WrongX.call {K : PySem.W.Frag} {C N X bp : Addr} {H : Hp} {Q : VK} {E : XK} {p w : Nat} {x : V} (h : WrongX H p w x) (hp : (p : Int) ∈ primes) (w1 : 1 ≤ w) (w3 : w ≤ 3) (q : BadX X H E) : spDeedOf K bp C N X [.int (p : Nat), .int (w : Nat), x] H Q E := by
  rcases h with ⟨t, rfl, lt, hr⟩ | rfl | rfl | ⟨b, rfl, h⟩ | ⟨b, ys, rfl, h⟩
  · exact deedOf_text hp w1 w3 lt (fun _ => q) fun d hd => by rw [hr] at hd; cases hd
  · exact deedOf_odd hp w1 w3 (n := "NoneType") (.base .non) (by decide) (by decide) q
  · exact deedOf_odd hp w1 w3 (n := "int") (.base (.int 0)) (by decide) (by decide) q
  · exact deedOf_odd hp w1 w3 (n := "tuple") (.base (.tup h)) (by decide) (by decide) q
  · exact deedOf_odd hp w1 w3 (n := "list") (.base (.lst h)) (by decide) (by decide) q
def spRefused (T : List (Addr × Str)) : Sp := fun vs H Q _ => ∃ (d l c : Addr) (p w : Nat), vs = [.ref d, .int (p : Nat), .int (w : Nat)] ∧ DrawAt H d l c ∧ p ∈ [2, 3, 5, 7, 11, 13, 97] ∧ w ∈ [1, 2, 3] ∧ Tabs T H ∧ ∀ H', DrawAt H' d l c → Tabs T H' → Q (.bl true) H'
section
variable {P : Program} {w : World} {K : PySem.W.Frag} {mg : Str → Option Value} {base : Heap} {bp C B M N D G CS : Addr}
abbrev NRF7 : List Str := ["draw", "field", "wide_here", "thing", "line_here", "caught", "number"]
abbrev qLRF : Str := "_law_refused" ++ ".<locals>." ++ "<lambda>"
theorem scRF : FnScope NRF7 ["draw", "field", "wide_here"] (defScope (top 51)) := ⟨rfl, rfl, rfl, by decide +kernel, rfl, by decide +kernel, by decide +kernel⟩
theorem ok_refused {f fW fN fI fT fO fP fG cc P1 : Addr} {fd dW dN dI dT dO dP dG : FuncData} {T : List (Addr × Str)} (F : Fun K "_law_refused" "_law_refused" (top 51) f fd) (hcd : fd.code = .ref cc) (TB : TabB base mg cc P1) (hT : (P1, qLRF) ∈ T) (hT1 : ∀ q ∈ T, q.1 = P1 → q.2 = qLRF) (T0 : Tx K mg bp) (YT : Tb K mg C B) (Z : Ex K mg D)
    (XN : Nx K mg N) (XT : Nt K mg G) (MK : TMake P w K mg base C fI dI) (hS : mg "SwayError" = some (.ref CS)) (ED : ErrN K CS D) (EB : ErrN K CS bp) (EG : ErrC K CS G "at") (EM : ErrC K CS N "part")
    (DP : Def P w K mg base CX0 3 "_law_pick" ["draw", "some"] (spPick K) fP dP)
    (DN : Def P w K mg base CX0 8 "plain" ["prime", "size"] (spPlain C) fN dN)
    (DW : Def P w K mg base CX0 2 "_law_wrong_lines" ["field", "wide_here"] spWrong fW dW)
    (DT : Def P w K mg base (L2.CX P w) 3 "deed_text" ["deed"] (spDeedText K C D) fT dT)
    (DO : Def P w K mg base (L2.CX P w) 9 "deed_of_text" ["prime", "wide", "text"] (spDeedOf K bp C N G) fO dO)
    (FG : Fun K "_law_caught" "_law_caught" (top 44) fG dG) (kG : PySem.W.keepIn K (.ref fG) = true) (bG : L2.Binds K dG ["work"] []) (gG : mg "_law_caught" = some (.ref fG)) :
    FnG P w K mg base 12 f fd ["draw", "field", "wide_here"] (spRefused T) := by
  refine okGc F hcd scRF (fun vs H Q E h => ?_) (fun A outer s H vs Q hr hgd h => ?_)
  · obtain ⟨d, l, c, p, w, rfl, _⟩ := h
    rfl
  · have hu := hu_of hr
    refine ⟨_, pss_cons (ps_for PassesOwn.never rfl (pi_seqB (pe_lst (pa_cons pe_non (pa_cons pe_int (pa_cons (pe_tup pa_nil) (pa_cons (pe_tup (pa_cons pe_str pa_nil)) (pa_cons (pe_tup (pa_cons pe_str (pa_cons pe_bl pa_nil))) (pa_cons (pe_tup (pa_cons pe_str (pa_cons (pe_un un_neg pe_int) pa_nil)))
          (pa_cons (pe_tup (pa_cons pe_str (pa_cons (pe_op op_add (pe_op op_pow pe_int pe_int) pe_int) pa_nil))) (pa_cons (pe_tup (pa_cons pe_str (pa_cons (pe_make (E := fun _ _ _ => False) MK.mkk MK.ok (hr.mono (by decide)) rfl YT.gC MK.b .nil passF (pa_cons pe_int (pa_cons pe_int (pa_cons pe_int (pa_cons (pe_lst (pa_cons (pe_lst (pa_cons pe_int pa_nil)) (pa_cons (pe_lst (pa_cons pe_int pa_nil)) pa_nil))) pa_nil))))) pa_nil)))
          (pa_cons (pe_tup (pa_cons pe_str (pa_cons (pe_call DN.ok (hr.mono (by decide)) rfl DN.g DN.kp DN.b .nil pass0 (pa_cons pe_int (pa_cons pe_int pa_nil))) pa_nil))) (pa_cons (pe_tup (pa_cons pe_str (pa_cons (pe_call DN.ok (hr.mono (by decide)) rfl DN.g DN.kp DN.b .nil pass0 (pa_cons pe_int (pa_cons pe_int pa_nil))) pa_nil)))
          (pa_cons (pe_lst (pa_cons pe_str (pa_cons pe_int pa_nil))) (pa_cons (pe_tup (pa_cons pe_str (pa_cons (pe_lst (pa_cons (pe_lst (pa_cons pe_int pa_nil)) pa_nil)) pa_nil))) pa_nil)))))))))))))) (pg_name (i := 3) scRF.nd rfl (Or.inr rfl))
        (pss_one (ps_if (pt_not (pt_val (pe_callB (r := rIsC K) call_isC (by rfl) T0.isi (by decide +kernel) (pa_cons (pe_cgt (k := 10) (CS := CS) FG hS rfl gG kG bG hr passF (pa_cons (pe_lamR (k := 9) (T := T) (is := [3]) TB rfl hT hT1 rfl (lamS_by (sc := defScope (top 51)) (by decide +kernel)) (show LamI NRF7 _ _ by decide +kernel) (fun _ _ _ _ => rfl)
            (fun f c' A outer s H E hr2 => pe_call (E := E) DT.ok (hr2.mono (by decide)) rfl DT.g DT.kp DT.b .nil (passes_call (takes_of rfl rfl rfl rfl) fun _ _ _ _ h => h) (pa_cons (pv 3) pa_nil))) pa_nil)) (pa_cons (pe_glob (v := .ref D) (by rfl) Z.gD rfl) pa_nil))))) (pss_one (ps_ret pe_bl)) pss_nil)))
      (pss_cons (ps_for PassesOwn.never rfl (pi_seqB (pe_call DW.ok (hr.mono (by decide)) rfl DW.g DW.kp DW.b .nil pass0 (pa_cons (pv 1) (pa_cons (pv 2) pa_nil)))) (pg_name (i := 4) scRF.nd rfl (Or.inr rfl))
        (pss_cons (ps_set (i := 5) scRF.nd rfl (Or.inl rfl) (pe_cgt (k := 10) (CS := CS) FG hS rfl gG kG bG hr passF (pa_cons (pe_lamR (k := 9) (T := T) (is := [1, 2, 4]) TB rfl hT hT1 rfl (lamS_by (sc := defScope (top 51)) (by decide +kernel)) (show LamI NRF7 _ _ by decide +kernel) (fun _ _ _ _ => rfl)
            (fun f c' A outer s H E hr2 => pe_call (E := E) DO.ok hr2 rfl DO.g DO.kp DO.b .nil (passes_call (takes_of rfl rfl rfl rfl) fun _ _ _ _ h => h) (pa_cons (pv 1) (pa_cons (pv 2) (pa_cons (pv 4) pa_nil))))) pa_nil)))
        (pss_one (ps_if (PW.pt (pw_or (pt_not (pt_val (pe_callB (r := rIsC K) call_isC (by rfl) T0.isi (by decide +kernel) (pa_cons (pv 5) (pa_cons (pe_glob (v := .ref G) (by rfl) XT.gN rfl) pa_nil))))) (pw_or1 (pt_cmpR op_ne (pe_xfc (pv 5)) pe_int (nomark _))))) (pss_one (ps_ret pe_bl)) pss_nil))))
      (pss_cons (ps_set (i := 6) scRF.nd rfl (Or.inr rfl) (pe_call DP.ok (hr.mono (by decide)) rfl DP.g DP.kp DP.b .nil pass0 (pa_cons (pv 0) (pa_cons (pe_lst (pa_cons pe_int (pa_cons pe_int (pa_cons (pe_un un_neg pe_int) (pa_cons pe_non (pa_cons pe_bl (pa_cons pe_str pa_nil))))))) pa_nil))))
      (pss_cons (ps_set (i := 5) scRF.nd rfl (Or.inl rfl) (pe_cgt (k := 10) (CS := CS) FG hS rfl gG kG bG hr passF (pa_cons (pe_lamR (k := 9) (T := T) (is := [1, 6]) TB rfl hT hT1 rfl (lamS_by (sc := defScope (top 51)) (by decide +kernel)) (show LamI NRF7 _ _ by decide +kernel) (fun _ _ _ _ => rfl)
            (fun f c' A outer s H E hr2 => pe_call (E := E) DO.ok hr2 rfl DO.g DO.kp DO.b .nil (passes_call (takes_of rfl rfl rfl rfl) fun _ _ _ _ h => h) (pa_cons (pv 1) (pa_cons (pv 6) (pa_cons pe_non pa_nil))))) pa_nil)))
      (pss_cons (ps_if (PW.pt (pw_or (pt_not (pt_val (pe_callB (r := rIsC K) call_isC (by rfl) T0.isi (by decide +kernel) (pa_cons (pv 5) (pa_cons (pe_glob (v := .ref N) (by rfl) XN.gN rfl) pa_nil))))) (pw_or1 (pt_cmpR op_ne (pe_xfc (pv 5)) pe_str (nomark _))))) (pss_one (ps_ret pe_bl)) pss_nil)
      (pss_one (ps_ret (pe_callB (r := rIsC K) call_isC (by rfl) T0.isi (by decide +kernel) (pa_cons (pe_cgt (k := 10) (CS := CS) FG hS rfl gG kG bG hr passF (pa_cons (pe_lamR (k := 9) (T := T) (is := [0, 6]) TB rfl hT hT1 rfl (lamS_by (sc := defScope (top 51)) (by decide +kernel)) (show LamI NRF7 _ _ by decide +kernel) (fun _ _ _ _ => rfl)
            (fun f c' A outer s H E hr2 => pe_call (E := E) DO.ok hr2 rfl DO.g DO.kp DO.b .nil (passes_call (takes_of rfl rfl rfl rfl) fun _ _ _ _ h => h) (pa_cons (pe_call DP.ok (hr2.mono (by decide)) rfl DP.g DP.kp DP.b .nil pass0 (pa_cons (pv 0) (pa_cons (pe_lst (pa_cons pe_int (pa_cons pe_int (pa_cons pe_int (pa_cons pe_non (pa_cons pe_bl (pa_cons pe_str pa_nil))))))) pa_nil))) (pa_cons (pv 6) (pa_cons pe_non pa_nil))))) pa_nil)) (pa_cons (pe_glob (v := .ref bp) (by rfl) T0.gbp rfl) pa_nil))))))))), ?_⟩
    obtain ⟨d, l, c, p, w, rfl, D0, hp, hw, tb, k⟩ := h
    have h8 : (200000 : Nat) ≤ sizeLine := by decide
    obtain ⟨w1, w3⟩ := ws_3 w hw
    have p97 := fields_97 p hp
    have hpp : (p : Int) ∈ primes := (by decide : ∀ p ∈ [2, 3, 5, 7, 11, 13, 97], ((p : Nat) : Int) ∈ primes) p hp
    have A0 : AllB C H [.int 0, .non] := fun v hv => by
      rcases List.mem_cons.mp hv with h | h
      · rw [h]; exact .int 0
      · rw [List.mem_singleton.mp h]; exact .non
    have S0 : Same H H := Same.refl H
    refine ⟨(show (0 : Nat) ≤ sizeLine by omega), fun t1 ht1 => ?_⟩
    have Z1 : Same H (upd H t1 (.tup [])) := (Same.refl _).new ht1
    have A1 := A0.add Z1 (v := .ref t1) (.tup0 upd_same)
    have S1 := S0.trans Z1
    generalize upd H t1 (.tup []) = H1 at Z1 A1 S1 ⊢
    clear A0 S0 Z1 ht1
    refine ⟨(show (1 : Nat) ≤ sizeLine by omega), fun t2 ht2 => ?_⟩
    have Z2 : Same H1 (upd H1 t2 (.tup [.str "put"])) := (Same.refl _).new ht2
    have A2 := A1.add Z2 (v := .ref t2) (.tup1 upd_same)
    have S2 := S1.trans Z2
    generalize upd H1 t2 (.tup [.str "put"]) = H2 at Z2 A2 S2 ⊢
    clear A1 S1 Z2 ht2
    refine ⟨(show (2 : Nat) ≤ sizeLine by omega), fun t3 ht3 => ?_⟩
    have Z3 : Same H2 (upd H2 t3 (.tup [.str "take", .bl true])) := (Same.refl _).new ht3
    have A3 := A2.add Z3 (v := .ref t3) (.bool upd_same)
    have S3 := S2.trans Z3
    generalize upd H2 t3 (.tup [.str "take", .bl true]) = H3 at Z3 A3 S3 ⊢
    clear A2 S2 Z3 ht3
    refine ⟨_, rfl, (show (2 : Nat) ≤ sizeLine by omega), fun t4 ht4 => ?_⟩
    have Z4 : Same H3 (upd H3 t4 (.tup [.str "take", .int (-1)])) := (Same.refl _).new ht4
    have A4 := A3.add Z4 (v := .ref t4) (.num upd_same (by decide))
    have S4 := S3.trans Z4
    generalize upd H3 t4 (.tup [.str "take", .int (-1)]) = H4 at Z4 A4 S4 ⊢
    clear A3 S3 Z4 ht4
    refine ⟨_, _, rfl, rfl, ⟨by decide, by decide, by decide⟩, _, _, rfl, rfl, (show (2 : Nat) ≤ sizeLine by omega), fun t5 ht5 => ?_⟩
    have Z5 : Same H4 (upd H4 t5 (.tup [.str "take", .int (10 ^ (9 : Int).toNat + 1)])) := (Same.refl _).new ht5
    have A5 := A4.add Z5 (v := .ref t5) (.num upd_same (by decide))
    have S5 := S4.trans Z5
    generalize upd H4 t5 (.tup [.str "take", .int (10 ^ (9 : Int).toNat + 1)]) = H5 at Z5 A5 S5 ⊢
    clear A4 S4 Z5 ht5
    refine ⟨(show (1 : Nat) ≤ sizeLine by omega), fun g1 hg1 => ⟨(show (1 : Nat) ≤ sizeLine by omega), fun g2 hg2 => ⟨(show (2 : Nat) ≤ sizeLine by omega), fun g3 hg3 x dx nx ndx ne => ?_⟩⟩⟩
    have Y1 : Same H5 (upd H5 g1 (.lst [.int 1])) := (Same.refl _).put hg1
    have b1 : upd H5 g1 (.lst [.int 1]) g1 = some (.lst [.int 1]) := upd_same
    generalize upd H5 g1 (.lst [.int 1]) = H6 at Y1 b1 hg2 hg3 nx ndx ne ⊢
    have Y2 : Same H6 (upd H6 g2 (.lst [.int 0])) := (Same.refl _).put hg2
    have b2 : upd H6 g2 (.lst [.int 0]) g2 = some (.lst [.int 0]) := upd_same
    generalize upd H6 g2 (.lst [.int 0]) = H7 at Y2 b2 hg3 nx ndx ne ⊢
    have Y3 : Same H7 (upd H7 g3 (.lst [.ref g1, .ref g2])) := (Same.refl _).put hg3
    have b3 : upd H7 g3 (.lst [.ref g1, .ref g2]) g3 = some (.lst ([g1, g2].map V.ref)) := upd_same
    generalize upd H7 g3 (.lst [.ref g1, .ref g2]) = H8 at Y3 b3 nx ndx ne ⊢
    refine make_t (p := 5) (n := 2) (m := 1) (rs := [[1], [0]]) (by decide) ⟨by decide, by decide⟩ ⟨by decide, by decide⟩ (TabAt.lst b3 rfl fun i b r q1 q2 => ?_) (by decide) nx ndx ne rfl fun H9 Y4 tt => ?_
    · match i, q1, q2 with
      | 0, q1, q2 => cases q1; cases q2; exact LineAt.lst (Y3 _ _ (Y2 _ _ b1))
      | 1, q1, q2 => cases q1; cases q2; exact LineAt.lst (Y3 _ _ b2)
    refine ⟨rfl, (show (2 : Nat) ≤ sizeLine by omega), fun t6 ht6 => ?_⟩
    have A5 := A5.same (((Y1.trans Y2).trans Y3).trans Y4)
    have S5 := S5.trans (((Y1.trans Y2).trans Y3).trans Y4)
    clear Y1 Y2 Y3 Y4 b1 b2 b3 nx ndx ne hg1 hg2 hg3
    have Z6 : Same H9 (upd H9 t6 (.tup [.str "put", .ref x])) := (Same.refl _).new ht6
    have A6 := A5.add Z6 (v := .ref t6) (.tab (.inl rfl) upd_same (tt.same ((Same.refl _).new ht6)) (by decide))
    have S6 := S5.trans Z6
    generalize upd H9 t6 (.tup [.str "put", .ref x]) = H10 at Z6 A6 S6 ⊢
    clear A5 S5 Z6 ht6
    refine ⟨5, 4, rfl, by decide, by decide, fun y1 H11 Y1 _ ty => ⟨(show (2 : Nat) ≤ sizeLine by omega), fun t7 ht7 => ?_⟩⟩
    have A6 := A6.same Y1
    have S6 := S6.trans Y1
    clear Y1
    have Z7 : Same H11 (upd H11 t7 (.tup [.str "turn", .ref y1])) := (Same.refl _).new ht7
    have A7 := A6.add Z7 (v := .ref t7) (.tab (.inr rfl) upd_same (ty.same ((Same.refl _).new ht7)) (by decide))
    have S7 := S6.trans Z7
    generalize upd H11 t7 (.tup [.str "turn", .ref y1]) = H12 at Z7 A7 S7 ⊢
    clear A6 S6 Z7 ht7
    refine ⟨5, 0, rfl, by decide, by decide, fun y2 H13 Y1 _ ty => ⟨(show (2 : Nat) ≤ sizeLine by omega), fun t8 ht8 => ?_⟩⟩
    have A7 := A7.same Y1
    have S7 := S7.trans Y1
    clear Y1
    have Z8 : Same H13 (upd H13 t8 (.tup [.str "put", .ref y2])) := (Same.refl _).new ht8
    have A8 := A7.add Z8 (v := .ref t8) (.tab (.inl rfl) upd_same (ty.same ((Same.refl _).new ht8)) (by decide))
    have S8 := S7.trans Z8
    generalize upd H13 t8 (.tup [.str "put", .ref y2]) = H14 at Z8 A8 S8 ⊢
    clear A7 S7 Z8 ht8
    refine ⟨(show (2 : Nat) ≤ sizeLine by omega), fun t9 ht9 => ?_⟩
    have Z9 : Same H14 (upd H14 t9 (.lst [.str "take", .int 1])) := (Same.refl _).put ht9
    have A9 := A8.add Z9 (v := .ref t9) (.lst upd_same)
    have S9 := S8.trans Z9
    generalize upd H14 t9 (.lst [.str "take", .int 1]) = H15 at Z9 A9 S9 ⊢
    clear A8 S8 Z9 ht9
    refine ⟨(show (1 : Nat) ≤ sizeLine by omega), fun g4 hg4 => ⟨(show (1 : Nat) ≤ sizeLine by omega), fun g5 hg5 => ⟨(show (2 : Nat) ≤ sizeLine by omega), fun t10 ht10 => ?_⟩⟩⟩
    have Y1 : Same H15 (upd H15 g4 (.lst [.int 1])) := (Same.refl _).put hg4
    generalize upd H15 g4 (.lst [.int 1]) = H16 at Y1 hg5 ht10 ⊢
    have Y2 : Same H16 (upd H16 g5 (.lst [.ref g4])) := (Same.refl _).put hg5
    have b2 : upd H16 g5 (.lst [.ref g4]) g5 = some (.lst [.ref g4]) := upd_same
    generalize upd H16 g5 (.lst [.ref g4]) = H17 at Y2 b2 ht10 ⊢
    have A9 := A9.same (Y1.trans Y2)
    have S9 := S9.trans (Y1.trans Y2)
    clear Y1 Y2 hg4 hg5
    have Z10 : Same H17 (upd H17 t10 (.tup [.str "put", .ref g5])) := (Same.refl _).new ht10
    have A10 := A9.add Z10 (v := .ref t10) (.tlst (.inl rfl) upd_same ((Same.refl _).new ht10 _ _ b2))
    have S10 := S9.trans Z10
    generalize upd H17 t10 (.tup [.str "put", .ref g5]) = H18 at Z10 A10 S10 ⊢
    clear A9 S9 Z10 ht10
    refine ⟨(show (12 : Nat) ≤ sizeLine by omega), fun L hL => ?_⟩
    have Z11 : Same H18 (upd H18 L (.lst [.non, .int 0, .ref t1, .ref t2, .ref t3, .ref t4, .ref t5, .ref t6, .ref t7, .ref t8, .ref t9, .ref t10])) := (Same.refl _).put hL
    have bL : upd H18 L (.lst [.non, .int 0, .ref t1, .ref t2, .ref t3, .ref t4, .ref t5, .ref t6, .ref t7, .ref t8, .ref t9, .ref t10]) L = some (.lst [.non, .int 0, .ref t1, .ref t2, .ref t3, .ref t4, .ref t5, .ref t6, .ref t7, .ref t8, .ref t9, .ref t10]) := upd_same
    have A11 := A10.same Z11
    have S11 := S10.trans Z11
    generalize upd H18 L (.lst [.non, .int 0, .ref t1, .ref t2, .ref t3, .ref t4, .ref t5, .ref t6, .ref t7, .ref t8, .ref t9, .ref t10]) = HL at Z11 bL A11 S11 ⊢
    obtain ⟨vs, evs⟩ : ∃ vs : List V, [.non, .int 0, .ref t1, .ref t2, .ref t3, .ref t4, .ref t5, .ref t6, .ref t7, .ref t8, .ref t9, .ref t10] = vs := ⟨_, rfl⟩
    have AV : AllB C HL vs := fun v hv => A11 v (by rw [← evs] at hv; exact List.mem_reverse.mpr hv)
    rw [evs] at bL
    have qL : SqB K false HL L vs := SqL.of bL
    have DL := D0.up S11
    have tbL := tb.ext S11
    clear A10 S10 Z11 A11 S11 b2 D0 tb evs
    refine ⟨false, L, vs, rfl, qL, for_it walk_seqB (fun i σ H' => ∃ e3 e4 e5 e6 : Option V, σ = [some (.ref d), some (.int (p : Nat)), some (.int (w : Nat)), e3, e4, e5, e6] ∧ ExtN HL H' ∧ Tabs T H')
      ⟨none, none, none, none, rfl, ExtN.refl _, tbL⟩ (fun i σ H' _ h => by obtain ⟨_, _, _, _, _, E, _⟩ := h; exact SqL.of (E _ _ bL (fun ps z => by cases z))) ?_ ?_⟩
    · rintro i v σ H6x H6 hi ⟨e3, e4, e5, e6, rfl, E6, tb6⟩ ⟨rfl, hv⟩
      have bv := (AV v (List.mem_of_getElem? hv)).ext E6
      refine ⟨tb6, ⟨⟨_, rfl⟩, trivial⟩, fun f1 c1 O1 H10 E10 tb10 hc1 lo1 hf1 R1 => ?_⟩
      refine ⟨f1, _, _, caps_of (lamS_by (sc := defScope (top 51)) (by decide +kernel)) (show LamI NRF7 _ [3] by decide +kernel) ⟨rfl, trivial⟩, R1, rfl, lo1.is hf1, EN D H10, fun _ _ => False, ⟨hf1, hc1, ?_⟩, (fun _ _ z => z.elim), fun cls dd H' h => ?_⟩
      · exact ⟨_, rfl, v, rfl, .inr ⟨(bv.ext E10).bad, fun H' S' => ⟨rfl, rfl, S'⟩⟩⟩
      · obtain ⟨rfl, rfl, S'⟩ := h
        refine ⟨ED.ex, fun a1 na1 => ?_⟩
        have SA : Same H' (upd H' a1 (CauO (.ref D) none a1)) := (Same.refl _).put na1
        refine ⟨a1, D, .ref D, .ref D, true, rfl, .own _, .inl upd_same, ED.c, ED.kit, _, rfl, iteF ?_⟩
        exact ⟨_, _, _, _, rfl, (E6.trans E10).trans (.of fun b o e => SA _ _ (S' _ _ e)), (tb10.ext S').ext SA⟩
    rintro σ H20 ⟨e3, e4, e5, e6, rfl, E20, tb20⟩
    have D20 := DL.ext E20
    clear AV qL DL tbL E20 bL
    -- the wrong lines
    refine ⟨_, rfl, _, rfl, p, w, rfl, hp, hw, fun a xs H21 S21 na ha lx hx => ?_⟩
    have D21 := D20.up S21
    have tb21 := tb20.ext S21
    have qa : SqB K false H21 a xs := SqL.of ha
    clear D20 tb20 S21
    refine ⟨false, a, xs, rfl, qa, for_it walk_seqB (fun i σ H' => ∃ e3 e4 e5 e6 : Option V, σ = [some (.ref d), some (.int (p : Nat)), some (.int (w : Nat)), e3, e4, e5, e6] ∧ ExtN H21 H' ∧ Tabs T H')
      ⟨e3, e4, e5, e6, rfl, ExtN.refl _, tb21⟩ (fun i σ H' _ h => by obtain ⟨_, _, _, _, _, E, _⟩ := h; exact SqL.of (E _ _ ha (fun ps z => by cases z))) ?_ ?_⟩
    · rintro i v σ H6x H6 hi ⟨e3, e4, e5, e6, rfl, E6, tb6⟩ ⟨rfl, hv⟩
      have bv := (hx v (List.mem_of_getElem? hv)).1.ext E6
      refine ⟨tb6, ⟨⟨_, rfl⟩, ⟨_, rfl⟩, ⟨_, rfl⟩, trivial⟩, fun f1 c1 O1 H10 E10 tb10 hc1 lo1 hf1 R1 => ?_⟩
      refine ⟨f1, _, _, caps_of (lamS_by (sc := defScope (top 51)) (by decide +kernel)) (show LamI NRF7 _ [1, 2, 4] by decide +kernel) ⟨rfl, rfl, rfl, trivial⟩, R1, rfl, lo1.is hf1, EXT G H10, fun _ _ => False, ⟨hf1, hc1, ?_⟩, (fun _ _ z => z.elim), fun cls dd H' h => ?_⟩
      · refine ⟨_, rfl, _, rfl, _, rfl, ?_⟩
        dsimp only [tNil]
        exact (bv.ext E10).call hpp w1 w3 fun d3 H3 S3 nd hd => ⟨rfl, d3, rfl, hd, S3⟩
      · obtain ⟨rfl, d1, rfl, hd1, S11⟩ := h
        refine ⟨EG.ex, fun a1 na1 => ?_⟩
        have SA : Same H' (upd H' a1 (CauO (.ref G) (some d1) a1)) := (Same.refl _).put na1
        have hd2 := SA _ _ hd1
        refine ⟨_, rfl, a1, G, .ref G, .ref G, true, rfl, .own _, .inr ⟨d1, _, upd_same, hd2⟩, EG.c, EG.kit, _, rfl, iteF ?_⟩
        refine ⟨_, rfl, a1, G, d1, _, .int 0, rfl, EG.xf, EG.at_, upd_same, hd2, rfl, rfl, _, rfl, iteF ?_⟩
        exact ⟨_, _, _, _, rfl, (E6.trans E10).trans (.of fun b o e => SA _ _ (S11 _ _ e)), (tb10.ext S11).ext SA⟩
    clear e3 e4 e5 e6
    rintro σ H22 ⟨e3, e4, e5, e6, rfl, E22, tb22⟩
    have D22 := D21.ext E22
    clear hx qa D21 tb21 E22 ha
    -- a number
    refine ⟨_, rfl, _, rfl, (show (6 : Nat) ≤ sizeLine by omega), fun q hq => ?_⟩
    have S23 : Same H22 (upd H22 q (.lst [.int 0, .int 4, .int (-1), .non, .bl true, .str "1"])) := (Same.refl _).put hq
    refine ⟨d, l, c, q, [.int 0, .int 4, .int (-1), .non, .bl true, .str "1"], rfl, upd_same, (D22.none hq).2, (show 0 < 6 by decide), (show 6 < 1000 by decide), D22.up S23, fun y H24 hy D24 Z24 => ?_⟩
    have tb24 := tabs_drawn (D22.up S23) Z24 (tb22.ext S23)
    have yok : flatV y = true ∧ inB y 1 3 = false := by
      simp only [List.mem_cons, List.not_mem_nil, or_false] at hy
      rcases hy with rfl | rfl | rfl | rfl | rfl | rfl <;> exact ⟨rfl, by decide +kernel⟩
    clear D22 tb22 S23 Z24 hy hq
    refine ⟨tb24, ⟨⟨_, rfl⟩, ⟨_, rfl⟩, trivial⟩, fun f1 c1 O1 H10 E10 tb10 hc1 lo1 hf1 R1 => ?_⟩
    have D10 := D24.ext E10
    clear D24 tb24 E10
    refine ⟨f1, _, _, caps_of (lamS_by (sc := defScope (top 51)) (by decide +kernel)) (show LamI NRF7 _ [1, 6] by decide +kernel) ⟨rfl, rfl, trivial⟩, R1, rfl, lo1.is hf1, EXN N H10, fun _ _ => False, ⟨hf1, hc1, ?_⟩, (fun _ _ z => z.elim), fun cls dd H' h => ?_⟩
    · exact ⟨_, rfl, _, rfl, _, _, _, rfl, pv_flat rfl, (fun z => by rw [isP_of hpp] at z; cases z), fun _ => ⟨pv_flat yok.1, fun _ d3 H3 S3 nd hd => ⟨rfl, d3, rfl, hd, S3⟩, fun z => by rw [yok.2] at z; cases z⟩⟩
    obtain ⟨rfl, d1, rfl, hd1, S11⟩ := h
    refine ⟨EM.ex, fun a1 na1 => ?_⟩
    have SA : Same H' (upd H' a1 (CauO (.ref N) (some d1) a1)) := (Same.refl _).put na1
    have hd2 := SA _ _ hd1
    refine ⟨_, rfl, a1, N, .ref N, .ref N, true, rfl, .own _, .inr ⟨d1, _, upd_same, hd2⟩, EM.c, EM.kit, _, rfl, iteF ?_⟩
    refine ⟨_, rfl, a1, N, d1, _, .str "wide", rfl, EM.xf, EM.at_, upd_same, hd2, rfl, rfl, _, rfl, iteF ?_⟩
    have D30 := (D10.up S11).up SA
    have tb30 := (tb10.ext S11).ext SA
    clear D10 tb10 R1 hf1 hc1 lo1
    generalize upd H' a1 (CauO (.ref N) (some d1) a1) = H30 at D30 tb30 ⊢
    -- the last one
    refine ⟨tb30, ⟨⟨_, rfl⟩, ⟨_, rfl⟩, trivial⟩, fun f1 c1 O1 H10 E10 tb10 hc1 lo1 hf1 R1 => ?_⟩
    have D10 := D30.ext E10
    clear D30 tb30 E10
    refine ⟨f1, _, _, caps_of (lamS_by (sc := defScope (top 51)) (by decide +kernel)) (show LamI NRF7 _ [0, 6] by decide +kernel) ⟨rfl, rfl, trivial⟩, R1, rfl, lo1.is hf1, EP bp d l c H10, fun _ _ => False, ⟨hf1, hc1, ?_⟩, (fun _ _ z => z.elim), fun cls dd H2 h => ?_⟩
    · refine ⟨_, rfl, (show (6 : Nat) ≤ sizeLine by omega), fun q hq => ?_⟩
      have S23 : Same H10 (upd H10 q (.lst [.int 1, .int 4, .int 101, .non, .bl true, .str "3"])) := (Same.refl _).put hq
      refine ⟨d, l, c, q, [.int 1, .int 4, .int 101, .non, .bl true, .str "3"], rfl, upd_same, (D10.none hq).2, (show 0 < 6 by decide), (show 6 < 1000 by decide), D10.up S23, fun u H24 hu2 D24 Z24 => ?_⟩
      have uok : flatV u = true ∧ isP u = false := by
        simp only [List.mem_cons, List.not_mem_nil, or_false] at hu2
        rcases hu2 with rfl | rfl | rfl | rfl | rfl | rfl <;> exact ⟨rfl, by decide +kernel⟩
      exact ⟨_, rfl, u, _, _, rfl, pv_flat uok.1, (fun _ => ⟨rfl, rfl, D24, Drawn.trans (Drawn.of S23) Z24⟩), fun z => by rw [uok.2] at z; cases z⟩
    obtain ⟨rfl, rfl, D40, Z40⟩ := h
    refine ⟨EB.ex, fun a2 na2 => ?_⟩
    have SB : Same H2 (upd H2 a2 (CauO (.ref bp) none a2)) := (Same.refl _).put na2
    exact ⟨a2, bp, .ref bp, .ref bp, true, rfl, .own _, .inl upd_same, EB.c, EB.kit, k _ (D40.up SB) ((tabs_drawn D10 Z40 tb10).ext SB)⟩
end
end P2
end

section
set_option maxRecDepth 100000
set_option maxHeartbeats 8000000
namespace P2
open PySem PySem.Spec PyProof.Rows L2 LamX ClX ZM SX K7
def spLaw7 (K : PySem.W.Frag) (T : List (Addr × Str)) : Sp := fun vs H Q _ => ∃ (a : Addr) (ns : List Int), vs = [.ref a] ∧ SqL K H a (ns.map V.int) ∧ ns.length ≤ 63 ∧ Tabs T H ∧ ∀ H', Q (.bl true) H'
abbrev NLW7 : List Str := ["script", "draw", "lap", "field", "wide_here"]
theorem scLW7 : FnScope NLW7 ["script"] (defScope (top 52)) := ⟨rfl, rfl, rfl, by decide +kernel, rfl, by decide +kernel, by decide +kernel⟩
theorem fields_nat {p : Int} (h : p ∈ fields) : ∃ n : Nat, p = n ∧ n ∈ [2, 3, 5, 7, 11, 13, 97] := (by decide : ∀ p ∈ fields, p.toNat ∈ [2, 3, 5, 7, 11, 13, 97] ∧ p = ((p.toNat : Nat) : Int)) p h |> fun z => ⟨p.toNat, z.2, z.1⟩
section
variable {P : Program} {w : World} {K : PySem.W.Frag} {mg : Str → Option Value} {base : Heap} {bp C B M N D G CS : Addr}
theorem ok_law7 {f fB fF fP fA fH fR : Addr} {fd dB dF dP dA dH dR : FuncData} {T : List (Addr × Str)} (F : Fun K "law" "law" (top 52) f fd) (T0 : Tx K mg bp) (X : Sx mg)
    (DB : Def P w K mg base CX0 1 "_law_begun" ["script"] (spBegun K) fB dB)
    (DF : Def P w K mg base CX0 4 "_law_field" ["draw"] spField fF dF)
    (DP : Def P w K mg base CX0 3 "_law_pick" ["draw", "some"] (spPick K) fP dP)
    (DA : Def P w K mg base CX0 4 "_law_any_deed" ["draw", "field", "wide_here"] spAnyDeed fA dA)
    (DH : DefG P w K mg base 12 "_law_deed_holds" ["draw", "field", "wide_here", "move_here"] (spHolds T) fH dH)
    (DR : DefG P w K mg base 12 "_law_refused" ["draw", "field", "wide_here"] (spRefused T) fR dR) :
    FnG P w K mg base 13 f fd ["script"] (spLaw7 K T) := by
  refine okG F scLW7 (fun vs H Q E h => ?_) (fun cdv A outer s H vs Q hr hgd h => ?_)
  · obtain ⟨a, ns, rfl, _⟩ := h
    rfl
  · obtain ⟨a, ns, rfl, hS, hn, tb, fin⟩ := h
    refine ⟨_, pss_cons (ps_set (i := 1) scLW7.nd rfl (Or.inl rfl) (pe_call DB.ok (hr.mono (by decide)) rfl DB.g DB.kp DB.b .nil pass0 (pa_cons (pv 0) pa_nil)))
      (pss_cons (ps_for PassesOwn.never rfl (pi_range1 rfl T0.range (pa_cons (pe_op op_add pe_int (pe_callB (call_min2 rfl) (by rfl) X.min (by decide +kernel) (pa_cons (pe_callB call_len_seq (by rfl) T0.len PySem.boot_len (pa_cons (pv 0) pa_nil)) (pa_cons pe_int pa_nil)))) pa_nil)) (pg_name (i := 2) scLW7.nd rfl (Or.inl rfl))
        (pss_cons (ps_par (i := 3) (j := 4) (by rfl) scLW7.nd rfl rfl (by decide) rfl rfl (pa_cons (pe_call DF.ok (hr.mono (by decide)) rfl DF.g DF.kp DF.b .nil pass0 (pa_cons (pv 1) pa_nil))
            (pa_cons (pe_call DP.ok (hr.mono (by decide)) rfl DP.g DP.kp DP.b .nil pass0 (pa_cons (pv 1) (pa_cons (pe_lst (pa_cons pe_int (pa_cons pe_int (pa_cons pe_int (pa_cons pe_int pa_nil))))) pa_nil))) pa_nil)) (by rfl))
        (pss_cons (ps_if (pt_not (pt_val (pe_callG DH.ok hgd hr rfl DH.g DH.kp DH.b pass0 (pa_cons (pv 1) (pa_cons (pv 3) (pa_cons (pv 4) (pa_cons (pe_call DA.ok (hr.mono (by decide)) rfl DA.g DA.kp DA.b .nil pass0 (pa_cons (pv 1) (pa_cons (pv 3) (pa_cons (pv 4) pa_nil)))) pa_nil))))))) (pss_one (ps_ret pe_bl)) pss_nil)
        (pss_one (ps_if (pt_not (pt_val (pe_callG DR.ok hgd hr rfl DR.g DR.kp DR.b pass0 (pa_cons (pv 1) (pa_cons (pv 3) (pa_cons (pv 4) pa_nil)))))) (pss_one (ps_ret pe_bl)) pss_nil)))))
      (pss_one (ps_ret pe_bl))), ?_⟩
    refine ⟨_, rfl, a, ns, rfl, hS, hn, fun d l c H1 nd nl nc D1 S1 => ?_⟩
    have tb1 := tb.ext S1
    have h63 : (63 : Nat) < sizeLine := by decide
    obtain ⟨m, hm⟩ : ∃ m : Nat, (2 : Int) + (if (4 : Int) < ((ns.map V.int).length : Nat) then 4 else (((ns.map V.int).length : Nat) : Int)) = m := by
      split
      · exact ⟨6, rfl⟩
      · exact ⟨2 + (ns.map V.int).length, by omega⟩
    have hm6 : m ≤ 6 := by split at hm <;> omega
    refine ⟨_, rfl, a, _, rfl, .inl (S1.seq hS), _, _, rfl, _, _, rfl, rfl, m, congrArg (fun z => [V.int z]) hm, by omega, by omega, for_it (walk_range (lo := 0) (n := m)) (fun i σ H' => ∃ e2 e3 e4 : Option V, σ = [some (.ref a), some (.ref d), e2, e3, e4] ∧ DrawAt H' d l c ∧ Tabs T H')
      ⟨none, none, none, rfl, D1, tb1⟩ (fun _ _ _ _ _ => trivial) ?_ ?_⟩
    · rintro i v2 σ H2x H2 hi ⟨e2, e3, e4, rfl, D2, tb2⟩ ⟨rfl, _⟩
      refine ⟨_, rfl, d, l, c, rfl, D2, fun p0 H3 hp D3 Z3 => ?_⟩
      obtain ⟨p, rfl, hp7⟩ := fields_nat hp
      have hpp : (p : Int) ∈ primes := (by decide : ∀ p ∈ [2, 3, 5, 7, 11, 13, 97], ((p : Nat) : Int) ∈ primes) p hp7
      have tb3 := tabs_drawn D2 Z3 tb2
      refine ⟨_, rfl, (show (4 : Nat) ≤ sizeLine by omega), fun q hq => ?_⟩
      have S4 : Same H3 (upd H3 q (.lst [.int 1, .int 2, .int 2, .int 3])) := (Same.refl _).put hq
      refine ⟨d, l, c, q, [.int 1, .int 2, .int 2, .int 3], rfl, upd_same, (D3.none hq).2, (show 0 < 4 by decide), (show 4 < 1000 by decide), D3.up S4, fun y H5 hy D5 Z5 => ⟨_, _, rfl, ?_⟩⟩
      have tb5 := tabs_drawn (D3.up S4) Z5 (tb3.ext S4)
      obtain ⟨w, rfl, hw⟩ : ∃ w : Nat, y = .int (w : Nat) ∧ w ∈ [1, 2, 3] := by
        simp only [List.mem_cons, List.not_mem_nil, or_false] at hy
        rcases hy with rfl | rfl | rfl | rfl
        · exact ⟨1, rfl, by decide⟩
        · exact ⟨2, rfl, by decide⟩
        · exact ⟨2, rfl, by decide⟩
        · exact ⟨3, rfl, by decide⟩
      obtain ⟨w1, w3⟩ := ws_3 w hw
      refine ⟨_, rfl, _, rfl, _, rfl, _, rfl, _, rfl, _, rfl, d, l, c, p, w, rfl, D5, hpp, w1, w3, fun z dd H6 ok hz D6 Z6 => ?_⟩
      have tb6 := tabs_drawn D5 Z6 tb5
      refine ⟨d, l, c, p, w, z, dd, rfl, D6, hpp, w1, w3, hz, ok, tb6, fun H7 D7 tb7 => ⟨_, rfl, iteF ?_⟩⟩
      refine ⟨_, rfl, _, rfl, _, rfl, d, l, c, p, w, rfl, D7, hp7, hw, tb7, fun H8 D8 tb8 => ⟨_, rfl, iteF ?_⟩⟩
      exact ⟨_, _, _, rfl, D8, tb8⟩
    · rintro σ H2 ⟨e2, e3, e4, rfl, D2, tb2⟩
      exact fin _
end
end P2
end

section
set_option maxRecDepth 100000
set_option maxHeartbeats 8000000
namespace P2
open PySem PySem.Spec PyProof.Rows L2 LamX ClX ZM SX K7
theorem kbDT {K : PySem.W.Frag} {f : Addr} {fd : FuncData} (F : Fun K "deed_text" "deed_text" (top 33) f fd) : KBn K fd ["deed"] 0 ["deed"] cat cat := by
  obtain ⟨oc, od, kV, doc, pm, an, cdv, ct, osl, rfl, lk, hcd⟩ := F.ex
  exact ⟨fun s us ws _ h1 h2 => match us, ws, h1, h2 with | [], [w0], _, _ => BindsTo.of_eq rfl, fun r1 r2 => r1.append r2⟩
theorem kbDO {K : PySem.W.Frag} {f : Addr} {fd : FuncData} (F : Fun K "deed_of_text" "deed_of_text" (top 34) f fd) : KBn K fd ["prime", "wide", "text"] 0 ["prime", "wide", "text"] cat cat := by
  obtain ⟨oc, od, kV, doc, pm, an, cdv, ct, osl, rfl, lk, hcd⟩ := F.ex
  exact ⟨fun s us ws _ h1 h2 => match us, ws, h1, h2 with | [], [w0, w1, w2], _, _ => BindsTo.of_eq rfl, fun r1 r2 => r1.append r2⟩
theorem bindRow {K : PySem.W.Frag} {x : Str} {f : Addr} {fd : FuncData} (F : Fun K x x (top 52) f fd) (a : Addr) : bindArgs fd ⟨[Value.ref a], []⟩ = pure [(("script" : Str), Value.ref a)] := by
  obtain ⟨oc, od, kV, doc, pm, an, cdv, ct, osl, rfl, lk, hcd⟩ := F.ex
  rfl
theorem law_all {P : Program} {w : World} {h : Heap} {K : PySem.W.Frag} {mg : Str → Option Value} {fa : Addr} (X : K.In h) (G : h.Ns mainGlobals mg) (hfa : mg "law" = some (.ref fa)) (c : HX.Says fnL tfL exL h K) :
    ∃ (cs : List (Addr × Addr)), (∀ p ∈ cs, PySem.W.codeHdIn K p.1 p.2 = true) ∧ (∀ p ∈ cs, K.lookup p.2 = none) ∧ (∀ p ∈ cs, h.get? p.2 = some { cls := .none, data := .fields #[] }) ∧
      ∀ (base : Heap) (s : Shared) (H : Hp) (a : Addr) (ns : List Int), K.In base → base.Ns mainGlobals mg → (∀ p ∈ cs, TabB base mg p.1 p.2) → (∀ p ∈ cs, H p.2 = some (.tbl #[])) → Env0 P w K mg base callerA [] s H → SqL K H a (ns.map V.int) → ns.length ≤ 63 → (∀ z ∈ ns, Builtin.Int.intBits z ≤ 1048576) →
        codeAny (model P w) callerA (.call (.ref fa) ⟨[.ref a], []⟩) (CR CX0 [] P w H s (fun v _ => v = .bl true) E0) s := by
  have cx := c.ex
  simp only [exL, Bool.and_eq_true, List.all_eq_true, decide_eq_true_eq, Bool.not_eq_true', decide_eq_false_iff_not] at cx
  obtain ⟨cf, cP, co, ce, cbp, cD, cBT, ccl, catT, cc1, cknT, cpN, cpX, cmk, ceq, cfn, cin, cex, cT⟩ := cx
  have glo : ∀ x, He.Fa.glo x ∈ faL → mg x = some (.ref (He.ga K x)) := fun x hx => He.glo_ok X G (cf _ hx)
  have free : ∀ x, He.Fa.free x ∈ faL → mg x = none := fun x hx => He.free_ok X G (cf _ hx)
  have intg : ∀ x i, He.Fa.int x i ∈ faL → ∃ t, mg x = some (.int i t) := fun x i hx => He.int_ok X G (cf _ hx)
  have strg : ∀ x z, He.Fa.str x z ∈ faL → ∃ t, mg x = some (.str z t) := fun x z hx => He.str_ok X G (cf _ hx)
  have g_number_of := glo "number_of" (List.mem_of_getElem? (i := 0) rfl)
  have g_numbers_of := glo "numbers_of" (List.mem_of_getElem? (i := 1) rfl)
  have g_numbers_text := glo "numbers_text" (List.mem_of_getElem? (i := 2) rfl)
  have g_lines_text := glo "lines_text" (List.mem_of_getElem? (i := 3) rfl)
  have g_lines_of_text := glo "lines_of_text" (List.mem_of_getElem? (i := 4) rfl)
  have g_is_number := glo "is_number" (List.mem_of_getElem? (i := 5) rfl)
  have g_is_within := glo "is_within" (List.mem_of_getElem? (i := 6) rfl)
  have g_is_list := glo "is_list" (List.mem_of_getElem? (i := 7) rfl)
  have g_are_numbers := glo "are_numbers" (List.mem_of_getElem? (i := 8) rfl)
  have g_is_prime := glo "is_prime" (List.mem_of_getElem? (i := 9) rfl)
  have g_check_prime := glo "check_prime" (List.mem_of_getElem? (i := 10) rfl)
  have g_are_lines := glo "are_lines" (List.mem_of_getElem? (i := 11) rfl)
  have g_plain_lines := glo "plain_lines" (List.mem_of_getElem? (i := 12) rfl)
  have g_plain := glo "plain" (List.mem_of_getElem? (i := 13) rfl)
  have g_is_deed := glo "is_deed" (List.mem_of_getElem? (i := 14) rfl)
  have g_deed_text := glo "deed_text" (List.mem_of_getElem? (i := 15) rfl)
  have g_deed_of_text := glo "deed_of_text" (List.mem_of_getElem? (i := 16) rfl)
  have g_deed_read := glo "deed_read" (List.mem_of_getElem? (i := 17) rfl)
  have g__law_begun := glo "_law_begun" (List.mem_of_getElem? (i := 18) rfl)
  have g__law_mixed := glo "_law_mixed" (List.mem_of_getElem? (i := 19) rfl)
  have g__law_take := glo "_law_take" (List.mem_of_getElem? (i := 20) rfl)
  have g__law_pick := glo "_law_pick" (List.mem_of_getElem? (i := 21) rfl)
  have g__law_unit := glo "_law_unit" (List.mem_of_getElem? (i := 22) rfl)
  have g__law_field := glo "_law_field" (List.mem_of_getElem? (i := 23) rfl)
  have g__law_made_table := glo "_law_made_table" (List.mem_of_getElem? (i := 24) rfl)
  have g__law_caught := glo "_law_caught" (List.mem_of_getElem? (i := 25) rfl)
  have g__law_line_of := glo "_law_line_of" (List.mem_of_getElem? (i := 26) rfl)
  have g__law_made_deed := glo "_law_made_deed" (List.mem_of_getElem? (i := 27) rfl)
  have g__law_move_line := glo "_law_move_line" (List.mem_of_getElem? (i := 28) rfl)
  have g__law_any_deed := glo "_law_any_deed" (List.mem_of_getElem? (i := 29) rfl)
  have g__law_deed_holds := glo "_law_deed_holds" (List.mem_of_getElem? (i := 30) rfl)
  have g__law_wrong_lines := glo "_law_wrong_lines" (List.mem_of_getElem? (i := 31) rfl)
  have g__law_refused := glo "_law_refused" (List.mem_of_getElem? (i := 32) rfl)
  have g_law := glo "law" (List.mem_of_getElem? (i := 33) rfl)
  have g_BadPrime := glo "BadPrime" (List.mem_of_getElem? (i := 34) rfl)
  have g_BadDeed := glo "BadDeed" (List.mem_of_getElem? (i := 35) rfl)
  have g_BadTable := glo "BadTable" (List.mem_of_getElem? (i := 36) rfl)
  have g_BadNumber := glo "BadNumber" (List.mem_of_getElem? (i := 37) rfl)
  have g_BadText := glo "BadText" (List.mem_of_getElem? (i := 38) rfl)
  have g_SwayError := glo "SwayError" (List.mem_of_getElem? (i := 39) rfl)
  have g_Table := glo "Table" (List.mem_of_getElem? (i := 40) rfl)
  have g_PRIMES := glo "PRIMES" (List.mem_of_getElem? (i := 41) rfl)
  have z_isinstance := free "isinstance" (List.mem_of_getElem? (i := 42) rfl)
  have z_int := free "int" (List.mem_of_getElem? (i := 43) rfl)
  have z_bool := free "bool" (List.mem_of_getElem? (i := 44) rfl)
  have z_list := free "list" (List.mem_of_getElem? (i := 45) rfl)
  have z_tuple := free "tuple" (List.mem_of_getElem? (i := 46) rfl)
  have z_dict := free "dict" (List.mem_of_getElem? (i := 47) rfl)
  have z_len := free "len" (List.mem_of_getElem? (i := 48) rfl)
  have z_all := free "all" (List.mem_of_getElem? (i := 49) rfl)
  have z_any := free "any" (List.mem_of_getElem? (i := 50) rfl)
  have z_sum := free "sum" (List.mem_of_getElem? (i := 51) rfl)
  have z_max := free "max" (List.mem_of_getElem? (i := 52) rfl)
  have z_sorted := free "sorted" (List.mem_of_getElem? (i := 53) rfl)
  have z_range := free "range" (List.mem_of_getElem? (i := 54) rfl)
  have z_enumerate := free "enumerate" (List.mem_of_getElem? (i := 55) rfl)
  have z_repr := free "repr" (List.mem_of_getElem? (i := 56) rfl)
  have z_zip := free "zip" (List.mem_of_getElem? (i := 57) rfl)
  have z_abs := free "abs" (List.mem_of_getElem? (i := 58) rfl)
  have z_str := free "str" (List.mem_of_getElem? (i := 59) rfl)
  have z_min := free "min" (List.mem_of_getElem? (i := 60) rfl)
  have e0 := hfa.symm.trans g_law
  obtain rfl : fa = He.ga K "law" := by injection e0 with e0; injection e0
  have er : ∀ x : String, x ∈ ["BadPrime", "BadDeed", "BadTable", "BadNumber", "BadText"] → HX.Err K (He.ga K x) := fun x hx => HX.errB_ok co (ce x hx)
  have erP := er "BadPrime" (by simp)
  have erD := er "BadDeed" (by simp)
  have erT := er "BadTable" (by simp)
  have erN := er "BadNumber" (by simp)
  have erX := er "BadText" (by simp)
  obtain ⟨on1, on2⟩ := HX.onceB_ok co
  obtain ⟨kT1, kT2, kT3⟩ := cc1 "Table" (by simp)
  have T : Tx K mg (He.ga K "BadPrime") := ⟨z_isinstance, z_int, z_bool, z_list, z_tuple, z_dict, z_len, z_all, z_any, z_sum, z_max, z_sorted, z_range, z_enumerate, z_repr, z_zip, ⟨He.ga K "PRIMES", g_PRIMES, fun H => by have z := He.tupB_ok cP H; rw [List.map_map] at z; exact z⟩, g_BadPrime, cbp, erP.o.kC, erP.e⟩
  have TB : TxB mg := ⟨z_abs, z_int, z_len⟩
  have SX_ : Sx mg := ⟨strg "FIGURES" "0123456789" (List.mem_of_getElem? (i := 64) rfl), z_str, z_min⟩
  have YT : Tb K mg (He.ga K "Table") (He.ga K "BadTable") := ⟨HX.clsB_ok ccl, HX.atB_ok (catT "prime" (by simp)), HX.atB_ok (catT "tall" (by simp)), HX.atB_ok (catT "wide" (by simp)), HX.atB_ok (catT "lines" (by simp)), g_Table, intg "MOST_LINES" 60 (List.mem_of_getElem? (i := 61) rfl),
    g_BadTable, cBT, erT.o.kC, erT.o.exC, erT.o.tyC, HX.atB_ok kT1, on1, on2, kT2, of_decide_eq_true kT3, fun n hn => of_decide_eq_true (cknT n hn)⟩
  have Z : Ex K mg (He.ga K "BadDeed") := ⟨g_BadDeed, cD, erD.o.kC, erD.o.exC, erD.o.tyC, intg "MOST_SPOT" 1000000000 (List.mem_of_getElem? (i := 62) rfl), intg "MOST_WIDE" 3 (List.mem_of_getElem? (i := 63) rfl)⟩
  have XN : Nx K mg (He.ga K "BadNumber") := ⟨g_BadNumber, erN.o, HX.atB_ok cpN⟩
  have XT : Nt K mg (He.ga K "BadText") := ⟨g_BadText, erX.o, HX.atB_ok cpX⟩
  have F3_0 := c.at_ 0 (d := d3_0)
  have B3_0 : L2.Binds K _ ["self", "part"] [] := F3_0.binds fun _ _ _ _ _ _ us hl => match us, hl with | [_, _], _ => rfl
  have F6_0 := c.at_ 1 (d := d6_0)
  have B6_0 : L2.Binds K _ ["self", "at"] [] := F6_0.binds fun _ _ _ _ _ _ us hl => match us, hl with | [_, _], _ => rfl
  have F9 := c.at_ 2 (d := d9)
  have B9 : L2.Binds K _ ["word", "least", "most"] [] := F9.binds fun _ _ _ _ _ _ us hl => match us, hl with | [_, _, _], _ => rfl
  have F10 := c.at_ 3 (d := d10)
  have B10 : L2.Binds K _ ["text", "many", "most"] [] := F10.binds fun _ _ _ _ _ _ us hl => match us, hl with | [_, _, _], _ => rfl
  have F11 := c.at_ 4 (d := d11)
  have B11 : L2.Binds K _ ["numbers"] [] := F11.binds fun _ _ _ _ _ _ us hl => match us, hl with | [_], _ => rfl
  have F12 := c.at_ 5 (d := d12)
  have B12 : L2.Binds K _ ["table"] [] := F12.binds fun _ _ _ _ _ _ us hl => match us, hl with | [_], _ => rfl
  have F13 := c.at_ 6 (d := d13)
  have B13 : L2.Binds K _ ["text", "prime", "wide"] [] := F13.binds fun _ _ _ _ _ _ us hl => match us, hl with | [_, _, _], _ => rfl
  have F16 := c.at_ 7 (d := d16)
  have B16 : L2.Binds K _ ["thing"] [] := F16.binds fun _ _ _ _ _ _ us hl => match us, hl with | [_], _ => rfl
  have F17 := c.at_ 8 (d := d17)
  have B17 : L2.Binds K _ ["thing", "least", "most"] [] := F17.binds fun _ _ _ _ _ _ us hl => match us, hl with | [_, _, _], _ => rfl
  have F18 := c.at_ 9 (d := d18)
  have B18 : L2.Binds K _ ["thing"] [] := F18.binds fun _ _ _ _ _ _ us hl => match us, hl with | [_], _ => rfl
  have F19 := c.at_ 10 (d := d19)
  have B19 : L2.Binds K _ ["thing", "many"] [] := F19.binds fun _ _ _ _ _ _ us hl => match us, hl with | [_, _], _ => rfl
  have F20 := c.at_ 11 (d := d20)
  have B20 : L2.Binds K _ ["thing"] [] := F20.binds fun _ _ _ _ _ _ us hl => match us, hl with | [_], _ => rfl
  have F21 := c.at_ 12 (d := d21)
  have B21 : L2.Binds K _ ["prime"] [] := F21.binds fun _ _ _ _ _ _ us hl => match us, hl with | [_], _ => rfl
  have F24_0 := c.at_ 13 (d := d24_0)
  have B24_0 : L2.Binds K _ ["self", "prime", "tall", "wide", "lines"] [] := F24_0.binds fun _ _ _ _ _ _ us hl => match us, hl with | [_, _, _, _, _], _ => rfl
  have F24_1 := c.at_ 14 (d := d24_1)
  have B24_1 : L2.Binds K _ ["self", "other"] [] := F24_1.binds fun _ _ _ _ _ _ us hl => match us, hl with | [_, _], _ => rfl
  have F25 := c.at_ 15 (d := d25)
  have B25 : L2.Binds K _ ["thing", "tall", "wide"] [] := F25.binds fun _ _ _ _ _ _ us hl => match us, hl with | [_, _, _], _ => rfl
  have F26 := c.at_ 16 (d := d26)
  have B26 : L2.Binds K _ ["size"] [] := F26.binds fun _ _ _ _ _ _ us hl => match us, hl with | [_], _ => rfl
  have F27 := c.at_ 17 (d := d27)
  have B27 : L2.Binds K _ ["prime", "size"] [] := F27.binds fun _ _ _ _ _ _ us hl => match us, hl with | [_, _], _ => rfl
  have F30 := c.at_ 18 (d := d30)
  have B30 : L2.Binds K _ ["thing"] [] := F30.binds fun _ _ _ _ _ _ us hl => match us, hl with | [_], _ => rfl
  have F33 := c.at_ 19 (d := d33)
  have B33 : L2.Binds K _ ["deed"] [] := F33.binds fun _ _ _ _ _ _ us hl => match us, hl with | [_], _ => rfl
  have F34 := c.at_ 20 (d := d34)
  have B34 : L2.Binds K _ ["prime", "wide", "text"] [] := F34.binds fun _ _ _ _ _ _ us hl => match us, hl with | [_, _, _], _ => rfl
  have F35 := c.at_ 21 (d := d35)
  have B35 : L2.Binds K _ ["prime", "wide", "text"] [] := F35.binds fun _ _ _ _ _ _ us hl => match us, hl with | [_, _, _], _ => rfl
  have F37 := c.at_ 22 (d := d37)
  have B37 : L2.Binds K _ ["script"] [] := F37.binds fun _ _ _ _ _ _ us hl => match us, hl with | [_], _ => rfl
  have F38 := c.at_ 23 (d := d38)
  have B38 : L2.Binds K _ ["draw"] [] := F38.binds fun _ _ _ _ _ _ us hl => match us, hl with | [_], _ => rfl
  have F39 := c.at_ 24 (d := d39)
  have B39 : L2.Binds K _ ["draw", "amount"] [] := F39.binds fun _ _ _ _ _ _ us hl => match us, hl with | [_, _], _ => rfl
  have F40 := c.at_ 25 (d := d40)
  have B40 : L2.Binds K _ ["draw", "some"] [] := F40.binds fun _ _ _ _ _ _ us hl => match us, hl with | [_, _], _ => rfl
  have F41 := c.at_ 26 (d := d41)
  have B41 : L2.Binds K _ ["size"] [] := F41.binds fun _ _ _ _ _ _ us hl => match us, hl with | [_], _ => rfl
  have F42 := c.at_ 27 (d := d42)
  have B42 : L2.Binds K _ ["draw"] [] := F42.binds fun _ _ _ _ _ _ us hl => match us, hl with | [_], _ => rfl
  have F43 := c.at_ 28 (d := d43)
  have B43 : L2.Binds K _ ["field", "lines_here"] [] := F43.binds fun _ _ _ _ _ _ us hl => match us, hl with | [_, _], _ => rfl
  have F44 := c.at_ 29 (d := d44)
  have B44 : L2.Binds K _ ["work"] [] := F44.binds fun _ _ _ _ _ _ us hl => match us, hl with | [_], _ => rfl
  have F45 := c.at_ 30 (d := d45)
  have B45 : L2.Binds K _ ["lines_here"] [] := F45.binds fun _ _ _ _ _ _ us hl => match us, hl with | [_], _ => rfl
  have F46 := c.at_ 31 (d := d46)
  have B46 : L2.Binds K _ ["field", "move_here"] [] := F46.binds fun _ _ _ _ _ _ us hl => match us, hl with | [_, _], _ => rfl
  have F47 := c.at_ 32 (d := d47)
  have B47 : L2.Binds K _ ["move_here"] [] := F47.binds fun _ _ _ _ _ _ us hl => match us, hl with | [_], _ => rfl
  have F48 := c.at_ 33 (d := d48)
  have B48 : L2.Binds K _ ["draw", "field", "wide_here"] [] := F48.binds fun _ _ _ _ _ _ us hl => match us, hl with | [_, _, _], _ => rfl
  have F49 := c.at_ 34 (d := d49)
  have B49 : L2.Binds K _ ["draw", "field", "wide_here", "move_here"] [] := F49.binds fun _ _ _ _ _ _ us hl => match us, hl with | [_, _, _, _], _ => rfl
  have F50 := c.at_ 35 (d := d50)
  have B50 : L2.Binds K _ ["field", "wide_here"] [] := F50.binds fun _ _ _ _ _ _ us hl => match us, hl with | [_, _], _ => rfl
  have F51 := c.at_ 36 (d := d51)
  have B51 : L2.Binds K _ ["draw", "field", "wide_here"] [] := F51.binds fun _ _ _ _ _ _ us hl => match us, hl with | [_, _, _], _ => rfl
  have F52 := c.at_ 37 (d := d52)
  have B52 : L2.Binds K _ ["script"] [] := F52.binds fun _ _ _ _ _ _ us hl => match us, hl with | [_], _ => rfl
  obtain ⟨i1, i2⟩ := cin "BadNumber" (by simp)
  obtain ⟨j1, j2⟩ := cin "BadText" (by simp)
  refine ⟨[(HX.codeAt K (He.ga K "_law_deed_holds"), He.tabOf K (HX.codeAt K (He.ga K "_law_deed_holds"))), (HX.codeAt K (He.ga K "_law_refused"), He.tabOf K (HX.codeAt K (He.ga K "_law_refused")))], ?_, ?_, ?_, ?_⟩
  · intro p hp
    rcases List.mem_cons.mp hp with rfl | hp
    · exact c.hd _ (List.mem_of_getElem? (l := tfL) (i := 0) rfl)
    · rw [List.mem_singleton.mp hp]
      exact c.hd _ (List.mem_of_getElem? (l := tfL) (i := 1) rfl)
  · intro p hp
    rcases List.mem_cons.mp hp with rfl | hp
    · exact c.out _ (List.mem_of_getElem? (l := tfL) (i := 0) rfl)
    · rw [List.mem_singleton.mp hp]
      exact c.out _ (List.mem_of_getElem? (l := tfL) (i := 1) rfl)
  · intro p hp
    rcases List.mem_cons.mp hp with rfl | hp
    · exact c.emp _ (List.mem_of_getElem? (l := tfL) (i := 0) rfl)
    · rw [List.mem_singleton.mp hp]
      exact c.emp _ (List.mem_of_getElem? (l := tfL) (i := 1) rfl)
  intro base s H a ns _ _ hTB hTb e0 hS hn _
  have G9 := ok_numberof (P := P) (w := w) (base := base) F9 T SX_
  have G10 := ok_numbersof_ F10 T G9 F9.kp B9 g_number_of
  have G11 := ok_numstext (P := P) (w := w) (base := base) F11 SX_
  have G12 := ok_linestext F12 T YT G11 F11.kp B11 g_numbers_text
  have G13 := ok_linesof F13 T G10 F10.kp B10 g_numbers_of
  have G16 := ok_isnum (P := P) (w := w) (base := base) F16 T
  have G17 := ok_within F17 G16 F16.kp B16 g_is_number
  have G18 := ok_islist (P := P) (w := w) (base := base) F18 T
  have G19 := ok_arenum F19 T G16 F16.kp B16 g_is_number G18 F18.kp B18 g_is_list
  have G20 := ok_isprime F20 T G16 F16.kp B16 g_is_number
  have G21 := ok_checkprime F21 T erP.o.tyC G20 F20.kp B20 g_is_prime
  have G25 := ok_arelines F25 T G19 F19.kp B19 g_are_numbers G18 F18.kp B18 g_is_list
  have GTI := ok_tinit F24_0 T YT G21 F21.kp B21 g_check_prime G17 F17.kp B17 g_is_within G25 F25.kp B25 g_are_lines
  have MKT : TMake P w K mg base (He.ga K "Table") _ _ := ⟨HX.mkB_ok cmk, GTI, B24_0⟩
  have GTE := ok_teq (P := P) (w := w) (base := base) F24_1 T YT
  have EQT : TEq P w K mg base (He.ga K "Table") _ _ := ⟨GTE, HX.atB_ok ceq, cfn, B24_1⟩
  have G26 := ok_plainlines (P := P) (w := w) (base := base) F26 T
  have G27 := ok_plain F27 YT MKT G21 F21.kp B21 g_check_prime G17 F17.kp B17 g_is_within G26 F26.kp B26 g_plain_lines
  have G30 := ok_isdeed F30 T SX_ YT G16 F16.kp B16 g_is_number
  have G33 := ok_deedtext F33 T SX_ YT Z G30 F30.kp B30 g_is_deed G17 F17.kp B17 g_is_within G12 F12.kp B12 g_lines_text
  have G35 := ok_deedread F35 T SX_ YT Z MKT G9 F9.kp B9 g_number_of G13 F13.kp B13 g_lines_of_text
  have GBN := ok_bn (P := P) (w := w) (base := base) F3_0 XN
  have GBT := ok_bt (P := P) (w := w) (base := base) F6_0 XT
  have G34 := ok_deedof F34 T Z XN XT G21 F21.kp B21 g_check_prime G17 F17.kp B17 g_is_within G35 F35.kp B35 g_deed_read GBN B3_0 (HX.atB_ok i1) i2 GBT B6_0 (HX.atB_ok j1) j2
  -- the law
  have G37 := ok_begun (P := P) (w := w) (base := base) F37 TB
  have G39 := ok_take (P := P) (w := w) (base := base) F39 TB F38 B38 g__law_mixed
  have G40 := ok_pickX F40 TB G39 F39.kp B39 g__law_take
  have GPL := pick_list G40
  have G41 := ok_unit (P := P) (w := w) (base := base) F41 T
  have G42 := ok_field F42 GPL F40.kp B40 g__law_pick
  have G43 := ok_madetable F43 T YT MKT
  have G45 := ok_lineof (P := P) (w := w) (base := base) F45 SX_
  have G46 := ok_madedeed F46 G43 F43.kp B43 g__law_made_table
  have G47 := ok_moveline F47 SX_ G45 F45.kp B45 g__law_line_of
  have G48 := ok_anydeed F48 T G39 F39.kp B39 g__law_take GPL F40.kp B40 g__law_pick
  have G50 := ok_wrong F50 T SX_ ⟨G41, F41.kp, B41, g__law_unit⟩ ⟨G45, F45.kp, B45, g__law_line_of⟩
  have tb1 := hTB _ (List.mem_cons_self)
  have tb2 := hTB _ (List.mem_cons_of_mem _ (List.mem_singleton.mpr rfl))
  have hb1 := hTb _ (List.mem_cons_self)
  have hb2 := hTb _ (List.mem_cons_of_mem _ (List.mem_singleton.mpr rfl))
  have ex1 : ∀ x : String, x ∈ ["BadPrime", "BadDeed", "BadNumber", "BadText"] → PySem.W.exmOne K (.ref (He.ga K x)) (.ref (He.ga K "SwayError")) = some true ∧ PySem.W.kitOne K (.ref (He.ga K x)) (.ref (He.ga K x)) = some true := fun x hx => ⟨(cex x hx).1, of_decide_eq_true (cex x hx).2⟩
  have xP := ex1 "BadPrime" (by simp)
  have xD := ex1 "BadDeed" (by simp)
  have xN := ex1 "BadNumber" (by simp)
  have xX := ex1 "BadText" (by simp)
  have EX_ : ErrC K (He.ga K "SwayError") (He.ga K "BadText") "at" := ⟨xX.1, erX.x, HX.atB_ok cpX, erX.e, xX.2⟩
  have EN_ : ErrC K (He.ga K "SwayError") (He.ga K "BadNumber") "part" := ⟨xN.1, erN.x, HX.atB_ok cpN, erN.e, xN.2⟩
  have G49 := ok_holds (T := [(He.tabOf K (HX.codeAt K (He.ga K "_law_deed_holds")), qLDH), (He.tabOf K (HX.codeAt K (He.ga K "_law_refused")), qLRF)]) F49 (c.code 34 (d := d49)) tb1 (List.mem_cons_self) (fun q hq e => by
      rcases List.mem_cons.mp hq with rfl | hq
      · rfl
      · rw [List.mem_singleton.mp hq] at e
        exact absurd e.symm cT) T XT EQT g_SwayError EX_ ⟨G46, F46.kp, B46, g__law_made_deed⟩ ⟨G47, F47.kp, B47, g__law_move_line⟩ ⟨G33, F33.kp, B33, kbDT F33, g_deed_text⟩ ⟨G34, F34.kp, B34, kbDO F34, g_deed_of_text⟩ ⟨G39, F39.kp, B39, g__law_take⟩ ⟨G40, F40.kp, B40, g__law_pick⟩ F44 F44.kp B44 g__law_caught
  have G51 := ok_refused (T := [(He.tabOf K (HX.codeAt K (He.ga K "_law_deed_holds")), qLDH), (He.tabOf K (HX.codeAt K (He.ga K "_law_refused")), qLRF)]) F51 (c.code 36 (d := d51)) tb2 (List.mem_cons_of_mem _ (List.mem_singleton.mpr rfl)) (fun q hq e => by
      rcases List.mem_cons.mp hq with rfl | hq
      · exact absurd e cT
      · rw [List.mem_singleton.mp hq]) T YT Z XN XT MKT g_SwayError ⟨xD.1, erD.e, xD.2⟩ ⟨xP.1, erP.e, xP.2⟩ EX_ EN_ ⟨GPL, F40.kp, B40, g__law_pick⟩ ⟨G27, F27.kp, B27, g_plain⟩ ⟨G50, F50.kp, B50, g__law_wrong_lines⟩ ⟨G33, F33.kp, B33, g_deed_text⟩ ⟨G34, F34.kp, B34, g_deed_of_text⟩ F44 F44.kp B44 g__law_caught
  have GL := ok_law7 F52 T SX_ ⟨G37, F37.kp, B37, g__law_begun⟩ ⟨G42, F42.kp, B42, g__law_field⟩ ⟨GPL, F40.kp, B40, g__law_pick⟩ ⟨G48, F48.kp, B48, g__law_any_deed⟩ ⟨G49, F49.kp, B49, g__law_deed_holds⟩ ⟨G51, F51.kp, B51, g__law_refused⟩
  refine GL.run callerA [] s H ⟨[.ref a], []⟩ [.ref a] [.ref a] _ rfl ⟨rfl, by decide, by decide⟩ e0 (BindsTo.of_eq (bindRow F52 a)) (.cons rfl .nil) ⟨a, ns, rfl, hS, hn, fun p hp => ?_, fun _ => rfl⟩
  rcases List.mem_cons.mp hp with rfl | hp
  · exact TabS.nil hb1
  · rw [List.mem_singleton.mp hp]
    exact TabS.nil hb2
end P2
end

open PySem PySem.W PySem.Calls PyProof.Rows
set_option maxRecDepth 100000 in
set_option maxHeartbeats 0 in
theorem PySem.Challenge.cw_unswayed_k97_texts_of_deeds_holds : PySem.Challenge.rw_unswayed_k97_texts_of_deeds.Holds := by
  w_on; o_law
  refine HandSHeadRun.head_any (r := OpenLaw.row PySem.Challenge.rw_unswayed_k97_texts_of_deeds) (q := view (OpenLaw.row PySem.Challenge.rw_unswayed_k97_texts_of_deeds).prog [52]) (H := P2.hkL) (ob := P2.obL) (M := 8000) (loose := P2.namesL)
    (d := HandSHeadRun.topDef (OpenLaw.row PySem.Challenge.rw_unswayed_k97_texts_of_deeds).prog 52) (kwd := []) P2.obL_eq (by kernel_rfl) (fun s => by kernel_rfl) P2.runL (by kernel_rfl) (by kernel_rfl) (by kernel_rfl) (by rfl) (by first | assumption | decide +kernel) (by decide +kernel) ⟨rfl, rfl, rfl, rfl, rfl, by decide +kernel⟩ ?hw ?hc
  case hw => w_witness2
  case hc =>
    refine HE.walk_end (l := PySem.Challenge.rw_unswayed_k97_texts_of_deeds) (n := 63) rfl (by decide) (by kernel_rfl) ?F
    intro w mg fa h Y G hmg0
    obtain ⟨K, KX, c⟩ := Y
    have hmg : mg ("law" : PySem.Str) = some (.ref fa) := by
      have e : (HandSHeadRun.topDef (OpenLaw.row PySem.Challenge.rw_unswayed_k97_texts_of_deeds).prog 52).name = ("law" : PySem.Str) := by kernel_rfl
      rw [← e]
      exact hmg0
    obtain ⟨cs, h1, h2, h3, h4⟩ := P2.law_all (P := (PySem.Challenge.rw_unswayed_k97_texts_of_deeds).prog) (w := w) KX G hmg c
    exact ⟨K, cs, KX, h1, h2, h3, h4⟩
