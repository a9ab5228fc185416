import PyProof.Rows.All
import Wide.All
import OpenK.AllK
import Wide.FinOn
import HandS.ForMost
import HandS.Lambda
import HandS.Nested
import HandS.NestedK
import HandS.EndTab
import HandS.HeadWalk
import HandS.Codes
import HandS.Style
import HandS.OwnEq
import KE.KRevSl
import PyProof.Rows.StrStep
import HandS.Wide
import HandS.Gcd
import HandS.IsInst
import HandS.Defaults
import HandS.Zip
import HandS.Walk
import HandS.Evl
import HandS.SortInts
import HandS.StrMore
import HandS.FStr
import HandS.RevRange
import HandS.TupAny
import PySem.Challenge.RW_soleheld_k78_spans_hold_worths
import KE.KCallOwn
import HandS.ExcInit
import HandS.ExcField
import HandS.ExcIs
import HandS.ExcOwn
import HandS.WordsExc
import HandS.TryOnly
import HandS.HotCalls
import HandS.ExcCtx
import HandS.ExcInitHot
import HandS.MakeKwOnly
set_option Elab.async false
set_option linter.all false
set_option maxRecDepth 100000
/-! a lambda with a parameter and one captured name, that outlives its maker -/
namespace My
open PySem PySem.Spec PyProof.Rows L2 LamX NdefX
/-- the lambda at f -/
def LamO (f : Addr) (q : Str) (pr : Arguments) (bd : Expr) (sc : Scope) (cl : List (Str × Addr)) (c' : Addr) : HO :=
  .ext fun h => ∃ pm ctv : Value, h.get? f = some (PySem.W.kla_obj "<lambda>" q pr bd sc cl pm c' ctv)
/-- the cell at c holds v -/
def CellO (c : Addr) (v : V) : HO := .ext fun h => ∃ u, L2.RelV v u ∧ h.IsCell c (some u)
section
variable {X : Cx} {pins : List (Addr × Obj)} {σ : L2.St} {H : Hp} {s : Shared}
theorem inv_lam {q : Str} {pr : Arguments} {bd : Expr} {sc : Scope} {cl : List (Str × Addr)} {c' : Addr} {pm ctv : Value} {t' : Nat} (I : Inv X pins σ H s) :
    Inv X pins σ (upd H s.heap.objs.size (LamO s.heap.objs.size q pr bd sc cl c')) { s with heap := s.heap.push (PySem.W.kla_obj "<lambda>" q pr bd sc cl pm c' ctv), toks := t' } := by
  refine I.laid (a := s.heap.objs.size) (fun b u e => Heap.get?_push_of_some _ e) (Nat.le_refl _) ?_
  have e : (s.heap.push (PySem.W.kla_obj "<lambda>" q pr bd sc cl pm c' ctv)).get? s.heap.objs.size = some (PySem.W.kla_obj "<lambda>" q pr bd sc cl pm c' ctv) := Heap.get?_push_size _ rfl
  exact ⟨⟨_, _, e⟩, ⟨_, e⟩, fun h1 h2 ⟨p, t, z⟩ st => ⟨p, t, st _ z⟩⟩
theorem lam_make3 {c P : Addr} {params : Arguments} {body : Expr} {scope : Scope} {pos : Pos} {E : Value → Shared → Prop} {Q : Value → Shared → Prop} (I : Inv X pins σ H s) (TB : TabB X.base X.mg c P) (hcode : X.env.code = .ref c)
    (hT : TabS H P (X.env.qual ++ "<lambda>")) (hdef : defaultsOf params X.env = ([], [])) (hfree : ∀ y ∈ scope.names, y.2 = .free → ∃ c, X.env.cells.lookup y.1 = some c)
    (h : ∀ (f c' : Addr) (H1 : Hp) (s' : Shared), Inv X pins σ H1 s' → ExtN H H1 → TabS H1 P (X.env.qual ++ "<lambda>") → H f = none →
      H1 f = some (LamO f (X.env.qual ++ "<lambda>") params body scope (cloFrom X.env.cells scope.names []) c') → H1 c' = some (CodeO c' (X.env.qual ++ "<lambda>")) → Q (.ref f) s') :
    wpAny (model X.prog X.w) X.A (eval (.Lambda params body scope pos) X.env) Q E s := by
  obtain ⟨ps, hP, ht, ha⟩ := id hT
  refine PySem.W.kla_eval hdef ?_
  have bP : s.heap.BuiltinsAt X.mg P := TB.bm.keeps I.bk
  have hP' : s.heap.get? P = some { cls := .none, data := .fields ps } := I.hok P _ hP
  cases hc : codeAmong pos ps.toList with
  | none =>
    refine PySem.W.kla_makeFunction (mg := X.mg) (c := c) (P := P) (ps := ps) (closure_ok hfree) I.ok.glob (I.mod.glob.keeps I.bk) hcode (TB.code.keeps I.bk) hP' ht hc TB.gP bP fun c' ctv h' tk hx hge hlt hrec htb => ?_
    obtain ⟨c2, oc, vs, t, e2, hoc, hd, hv⟩ := hrec
    cases e2
    have nC : H c' = none := I.hok.fresh hge
    have I1 := inv_table (t' := tk) (more := #[rawInt pos.line, rawInt pos.col, .ref c']) (h' := h') I hP (fun b o hb e => hx b o hb e) htb hge ⟨oc, vs, t, hoc, hd, hv⟩
    have hE : ExtN H (upd (upd H P (.tbl (ps ++ #[rawInt pos.line, rawInt pos.col, .ref c']))) c' (CodeO c' (X.env.qual ++ "<lambda>"))) := fun b o e n => by
      rw [upd_ne (ne_of_none e nC), upd_ne (fun z => n ps (Option.some.inj (e.symm.trans (by rw [z]; exact hP))))]
      exact e
    have eL : (ps ++ #[rawInt pos.line, rawInt pos.col, .ref c']).toList = ps.toList ++ [rawInt pos.line, rawInt pos.col, .ref c'] := by simp
    have T1 : TabS (upd (upd H P (.tbl (ps ++ #[rawInt pos.line, rawInt pos.col, .ref c']))) c' (CodeO c' (X.env.qual ++ "<lambda>"))) P (X.env.qual ++ "<lambda>") := by
      refine ⟨_, by rw [upd_ne (ne_of_none hP nC), upd_same], by rw [eL]; exact PySem.TriplesOk_snoc _ _ _ _ ht, fun p' cv hcv => ?_⟩
      rw [eL] at hcv
      rcases among_app _ ht hcv with z | z
      · obtain ⟨c0, e1, e2⟩ := ha p' cv z
        exact ⟨c0, e1, hE _ _ e2 codeO_ne⟩
      · exact ⟨c', z, upd_same⟩
    have nF := I1.hok.fresh (Nat.le_refl _)
    have I2 := inv_lam (q := X.env.qual ++ "<lambda>") (pr := params) (bd := body) (sc := scope) (cl := cloFrom X.env.cells scope.names []) (c' := c') (pm := (X.mg "__name__").getD .none) (ctv := ctv) (t' := tk) I1
    refine h h'.objs.size c' _ _ I2 (fun b o e n => ?_) (T1.ext fun b o e => ?_) (I.hok.fresh (Nat.le_trans hge (Nat.le_of_lt hlt))) upd_same ?_
    · exact (upd_ne (ne_of_none (hE b o e n) nF)).trans (hE b o e n)
    · exact (upd_ne (ne_of_none e nF)).trans e
    · exact (upd_ne (Nat.ne_of_lt hlt)).trans upd_same
  | some cv =>
    obtain ⟨c', e, hco⟩ := ha pos cv hc
    subst e
    refine PySem.W.kla_makeFunctionHit (mg := X.mg) (c := c) (P := P) (ps := ps) (closure_ok hfree) I.ok.glob (I.mod.glob.keeps I.bk) hcode (TB.code.keeps I.bk) hP' ht hc bP fun ctv h' tk hx hsz => ?_
    have I1 : Inv X pins σ H { s with heap := h', toks := tk } := I.kept hx
    have nF : H h'.objs.size = none := I1.hok.fresh (Nat.le_refl _)
    have I2 := inv_lam (q := X.env.qual ++ "<lambda>") (pr := params) (bd := body) (sc := scope) (cl := cloFrom X.env.cells scope.names []) (c' := c') (pm := (X.mg "__name__").getD .none) (ctv := ctv) (t' := tk) I1
    refine h h'.objs.size c' _ _ I2 (fun b o e n => ?_) (hT.ext fun b o e => ?_) nF upd_same ?_
    · exact (upd_ne (ne_of_none e nF)).trans e
    · exact (upd_ne (ne_of_none e nF)).trans e
    · exact (upd_ne (ne_of_none hco nF)).trans hco
end
/-- the reading of a lambda -/
def tLamV (P : Addr) (q : Str) (mk : Addr → Addr → HO) : TE := fun _ H Q => TabS H P q ∧ ∀ f c' H1, ExtN H H1 → TabS H1 P q → H f = none → H1 f = some (mk f c') → H1 c' = some (CodeO c' q) → Q (.ref f) H1
theorem pe_lam {X : Cx} {c P : Addr} {params : Arguments} {body : Expr} {scope : Scope} {pos : Pos} (TB : TabB X.base X.mg c P) (hcode : X.env.code = .ref c)
    (hfree : ∀ y ∈ scope.names, y.2 = .free → X.env.scope.names.lookup y.1 = some .cell ∨ X.env.scope.names.lookup y.1 = some .free) (hdef : defaultsOf params X.env = ([], [])) :
    PE X (.Lambda params body scope pos) (tLamV P (X.env.qual ++ "<lambda>") fun f c' => LamO f (X.env.qual ++ "<lambda>") params body scope (cloFrom X.env.cells scope.names []) c') := by
  refine ⟨fun pins s σ H Q I h => ?_⟩
  obtain ⟨hT, h⟩ := h
  have hfr : ∀ y ∈ scope.names, y.2 = .free → ∃ c, X.env.cells.lookup y.1 = some c := fun y hy e => (hfree y hy e).elim (fun z => I.ok.has _ (.inl z)) fun z => I.ok.has _ (.inr z)
  exact lam_make3 I TB hcode hT hdef hfr fun f c' H1 s' I1 eN T1 f0 f1 c1 => ⟨.ref f, H1, I1, rfl, h f c' H1 eN T1 f0 f1 c1⟩
/-! ### statements whose return knows the slots -/
structure EndsR where
  nx : L2.St → Hp → Prop
  rt : L2.St → V → Hp → Prop
def SPR (X : Cx) (pins : List (Addr × Obj)) (D : EndsR) (f : Flow) (s' : Shared) : Prop :=
  match f with
  | .next => ∃ σ' H', Inv X pins σ' H' s' ∧ D.nx σ' H'
  | .ret u => ∃ v σ' H', Inv X pins σ' H' s' ∧ L2.RelV v u ∧ D.rt σ' v H'
  | _ => False
abbrev TSR := EndsR → L2.St → Hp → Prop
structure PRs (X : Cx) (st : List Stmt) (t : TSR) : Prop where
  run : ∀ (pins : List (Addr × Obj)) (s : Shared) (σ : L2.St) (H : Hp) (D : EndsR), Inv X pins σ H s → t D σ H → wpAny (model X.prog X.w) X.A (execs st X.env) (SPR X pins D) X.xe s
structure PR (X : Cx) (st : Stmt) (t : TSR) : Prop where
  run : ∀ (pins : List (Addr × Obj)) (s : Shared) (σ : L2.St) (H : Hp) (D : EndsR), Inv X pins σ H s → t D σ H → wpAny (model X.prog X.w) X.A (exec st X.env) (SPR X pins D) X.xe s
section
variable {X : Cx} {st : Stmt} {rest : List Stmt} {t u : TSR} {e : Expr} {te : TE} {pos : Pos}
def tOfS (t : TS) : TSR := fun D σ H => t { nx := D.nx, rt := fun _ _ => False } σ H
theorem pr_of {t : TS} (h : PS X st t) : PR X st (tOfS t) := by
  refine ⟨fun pins s σ H D I q => thn (h.run pins s σ H _ I q) fun f s' z => ?_⟩
  cases f with
  | next => exact z
  | ret v => obtain ⟨_, _, _, _, _, z⟩ := z; exact z.elim
  | brk => obtain ⟨_, _, _, z⟩ := z; exact z.elim
  | cont => obtain ⟨_, _, _, z⟩ := z; exact z.elim
def tRetR (te : TE) : TSR := fun D σ H => te σ H (D.rt σ)
theorem pr_ret (he : PE X e te) : PR X (.Return (some e) pos) (tRetR te) := by
  refine ⟨fun pins s σ H D I h => ?_⟩
  exact wpAny_Return_some (thn (he.run pins s σ H _ I h) fun v s1 ⟨x, H1, I1, r1, q1⟩ => ⟨x, σ, H1, I1, r1, q1⟩)
def tNilR : TSR := fun D σ H => D.nx σ H
theorem prs_nil : PRs X [] tNilR := ⟨fun _ _ σ H _ I h => wpAny_execs_nil ⟨σ, H, I, h⟩⟩
def tSeqR (t u : TSR) : TSR := fun D σ H => t { D with nx := u D } σ H
theorem prs_cons (h1 : PR X st t) (h2 : PRs X rest u) : PRs X (st :: rest) (tSeqR t u) := by
  refine ⟨fun pins s σ H D I h => ?_⟩
  refine wpAny_execs_cons (thn (h1.run pins s σ H { D with nx := u D } I h) fun f s1 q => ?_)
  cases f with
  | next =>
    obtain ⟨σ', H', I', q⟩ := q
    exact h2.run pins s1 σ' H' D I' q
  | ret v => exact q
  | brk => exact q
  | cont => exact q
theorem prs_one (h1 : PR X st t) : PRs X [st] t := by
  refine ⟨fun pins s σ H D I h => ?_⟩
  refine wpAny_execs_cons (thn (h1.run pins s σ H D I h) fun f s1 q => ?_)
  cases f with
  | next => exact wpAny_execs_nil q
  | ret v => exact q
  | brk => exact q
  | cont => exact q
def tIfR (c : TT) (t u : TSR) : TSR := fun D σ H => c σ H fun b H1 => if b = true then t D σ H1 else u D σ H1
theorem pr_if {c : Expr} {a b : List Stmt} {tc : TT} (hc : PT X c tc) (ha : PRs X a t) (hb : PRs X b u) : PR X (.If c a b pos) (tIfR tc t u) := by
  refine ⟨fun pins s σ H D I h => ?_⟩
  refine wpAny_If (thn (hc.run pins s σ H _ I h) fun d s1 ⟨H1, I1, q1⟩ => ?_)
  cases d with
  | true => exact ha.run pins s1 σ H1 D I1 q1
  | false => exact hb.run pins s1 σ H1 D I1 q1
end
/-- what a return wants: the end itself, or the end where the cell of the i-th name is known with its value -/
def RtR (X : Cx) (i : Nat) (nm : Str) (Q : VK) : L2.St → V → Hp → Prop := fun σ v H' => Q v H' ∨ ∃ kv c, σ[i]? = some (some kv) ∧ X.env.cells.lookup nm = some c ∧ (H' c = none → Q v (upd H' c (CellO c kv)))
/-- a def whose captured cell is known behind its return -/
theorem fn_ofR {CX : CXT} {P : Program} {w : World} {K : PySem.W.Frag} {mg : Str → Option Value} {base : Heap} {k : Nat} {f : Addr} {name qual : Str} {params : Arguments} {body : List Stmt} {scope : Scope} {dV kV doc pm cdv ct oc : Value} {an od : Option Addr}
    {osl : Array (Option Value)} {N ps : List Str} {sp : Sp} {i : Nat} {nm : Str} (hi : N[i]? = some nm) (hnm : scope.names.lookup nm = some .cell) (lk : K.lookup f = some ⟨oc, od, .func (PySem.W.fnOf name qual params body scope dV kV doc pm an cdv ct), osl⟩) (hcd : PySem.W.codeIn K cdv qual = true) (S : FnScope N ps scope)
    (len : ∀ vs H Q E, sp vs H Q E → vs.length = ps.length)
    (hbody : ∀ (A : Around) (outer : List Env) (s : Shared) (H : Hp) (vs : List V) (Q : VK) (E : XK), Room k (A.deeper (envOfC qual scope s.heap.objs.size f cdv)) → sp vs H Q E →
      ∃ t, PRs (cxOf CX P w K mg base N qual scope f cdv A outer s H E) body t ∧ t { nx := fun _ _ => False, rt := RtR (cxOf CX P w K mg base N qual scope f cdv A outer s H E) i nm Q } (L2.start N vs) H) :
    FnOk P w K mg base CX (k + 1) f (PySem.W.fnOf name qual params body scope dV kV doc pm an cdv ct) ps sp := by
  refine ⟨len, fun A outer s H args us vs Q E hr e0 hb r hsp => ?_⟩
  have hl := len _ _ _ _ hsp
  have KX : K.In s.heap := e0.mod.kin.keeps fun b o e => (e0.bs b o e).1
  have lim : s.heap.NoLimit := e0.mod.nolimit.keeps fun b o e => (e0.bs b o e).1
  have hkind : ∀ y ∈ ps.zip us, scope.names.lookup y.1 = some .local ∨ (scope.names.lookup y.1 = some .cell ∧ ((cellsFrom (s.heap.objs.size + 1) scope.names []).lookup y.1).isSome = true) := fun ⟨n, v⟩ hy => by
    rcases S.par n (List.of_mem_zip hy).1 with q | q
    · exact .inl q
    · exact .inr ⟨q, PySem.W.cellsFrom_some _ _ _ (.inl q)⟩
  refine codeAny_call_function hr.depth (KX _ _ lk) rfl S.co S.gen rfl (PySem.W.codeRec_of KX hcd) (hb _ _ _ _ ?_)
  refine wpAny_newFunctionEnv_cells S.kind hkind fun env he s1 x => ?_
  subst he
  refine ⟨lim.keeps x.toInCall.keep, codeAny_func ?_⟩
  obtain ⟨t, ht, hq⟩ := hbody A outer s H vs Q E (hr.deeper _) hsp
  have I : Inv (cxOf CX P w K mg base N qual scope f cdv A outer s H E) [] (L2.start N vs) H s1 := inv_start S hr.hd e0 hl r x
  refine wpAny_mono (ht.run [] s1 (L2.start N vs) H _ I hq) (fun fl s' hs => ?_) fun e s' hs => hs
  cases fl with
  | ret u =>
    obtain ⟨v, σ', H', J, rv, q⟩ := hs
    rcases q with q | ⟨kv, c, h1, h2, q⟩
    · exact ⟨v, H', J.os, J.bare, J.base, J.hok, rv, q⟩
    · have fc := J.freeC nm c h2
      obtain ⟨m, hn, hl'⟩ := J.loc
      obtain ⟨u', ru, lk'⟩ := hl' i nm kv hi h1 (.inr (.inl hnm))
      have hcell : s'.heap.IsCell c (some u') := by
        rcases lk' with ⟨z, _⟩ | ⟨_, c2, e2, hc⟩
        · have z' : scope.names.lookup nm = some .local := z
          rw [hnm] at z'
          cases z'
        · rw [h2] at e2
          cases e2
          exact hc
      have cab : s.heap.objs.size ≤ c := J.ok.cab nm c rfl h2
      have cnot : ∀ b o, s.heap.get? b = some o → b ≠ c := fun b o e z => by
        rw [z] at e
        exact Nat.lt_irrefl _ (Nat.lt_of_lt_of_le (Heap.lt_size e) cab)
      have un : Un (frs outer) [] H H' s.heap s'.heap := J.base
      have hok : HOk P w H' s'.heap := J.hok
      have cn : ∀ b u, H' b = some u → b ≠ c := fun b u e => ne_of_none e fc
      refine ⟨v, upd H' c (CellO c kv), J.os, J.bare, ⟨un.keep, un.slot, fun b o e n hx => ?_, un.there, fun b xs e => ?_, fun b o u e => ?_, fun b ps e => ?_⟩, fun b ob e => ?_, rv, q fc⟩
      · rw [upd_ne (cnot b o e)]
        exact un.free b o e n hx
      · rw [upd_ne (cn b _ (un.tups b xs e))]
        exact un.tups b xs e
      · rw [upd_ne (cn b _ (un.frzs b o u e))]
        exact un.frzs b o u e
      · obtain ⟨more, z⟩ := un.tbls b ps e
        exact ⟨more, by rw [upd_ne (cn b _ z)]; exact z⟩
      · by_cases hb : b = c
        · subst hb
          rw [upd_same] at e
          cases e
          obtain ⟨oc, hoc, hdc⟩ := id hcell
          exact ⟨⟨u', ru, hcell⟩, ⟨oc, hoc⟩, fun h1 h2 ⟨u2, r2, o2, e2, d2⟩ st => ⟨u2, r2, o2, st _ e2, d2⟩⟩
        · rw [upd_ne hb] at e
          exact (hok b ob e).stay (fun d w' _ q => q) (fun d q => by rw [upd_ne (cn d _ q)]; exact q) fun d xs q => by rw [upd_ne (cn d _ q)]; exact q
  | next =>
    obtain ⟨σ', H', J, q⟩ := hs
    exact q.elim
  | brk => exact (show False from hs).elim
  | cont => exact (show False from hs).elim
/-! ### the lambda called -/
/-- at f a lambda of these words whose one captured name k holds v -/
def LamAt (q : Str) (pr : Arguments) (bd : Expr) (sc : Scope) (nm : Str) (H : Hp) (f : Addr) (v : V) : Prop :=
  ∃ cl c c', H f = some (LamO f q pr bd sc cl c') ∧ cl.lookup nm = some c ∧ (∀ y a, cl.lookup y = some a → y = nm) ∧ H c = some (CellO c v) ∧ H c' = some (CodeO c' q)
theorem LamAt.ext {q : Str} {pr : Arguments} {bd : Expr} {sc : Scope} {nm : Str} {H H' : Hp} {f : Addr} {v : V} (h : LamAt q pr bd sc nm H f v) (e : ExtN H H') : LamAt q pr bd sc nm H' f v := by
  obtain ⟨cl, c, c', h1, h2, h3, h4, h5⟩ := h
  exact ⟨cl, c, c', e _ _ h1 (fun ps z => by unfold LamO at z; cases z), h2, h3, e _ _ h4 (fun ps z => by unfold CellO at z; cases z), e _ _ h5 codeO_ne⟩
theorem LamAt.same {q : Str} {pr : Arguments} {bd : Expr} {sc : Scope} {nm : Str} {H H' : Hp} {f : Addr} {v : V} (h : LamAt q pr bd sc nm H f v) (e : Same H H') : LamAt q pr bd sc nm H' f v := by
  obtain ⟨cl, c, c', h1, h2, h3, h4, h5⟩ := h
  exact ⟨cl, c, c', e _ _ h1, h2, h3, e _ _ h4, e _ _ h5⟩
section
variable {X : Cx} {q : Str} {pr : Arguments} {bd : Expr} {sc : Scope} {nm ar : Str}
theorem run_lam {pins : List (Addr × Obj)} {σ : L2.St} {H : Hp} {s : Shared} {f : Addr} {kv z : V} {u : Value} {k : Nat} {Q : VK} {tb : TE} (S : NScope [ar, nm] [ar] [nm] sc)
    (hbind : ∀ (cl : List (Str × Addr)) (pm cdv ct u : Value), bindArgs (PySem.W.kla_fn "<lambda>" q pr bd sc cl pm cdv ct) ⟨[u], []⟩ = pure [(ar, u)])
    (I : Inv X pins σ H s) (hr : Room (k + 1) X.A) (L : LamAt q pr bd sc nm H f kv) (rz : L2.RelV z u)
    (hbody : ∀ (F : NF) (A : Around) (outer : List Env) (s : Shared) (H : Hp), F.scope = sc → Room k (A.deeper (envF F f s.heap.objs.size)) → PE (ncx CX0 X.prog X.w X.K X.mg X.base [ar, nm] F f A outer s H E0) bd tb)
    (hq : ∀ H0, (∀ b o, H0 b = some o → H b = some o) → tb [some z, some kv] H0 (fun v H' => ∀ H2, (∀ b o, H b = some o → (H0 b = some o → H' b = some o) → H2 b = some o) → Q v H2)) :
    wpAny (model X.prog X.w) X.A (call (.ref f) [u]) (EP X pins σ Q) X.xe s := by
  obtain ⟨cl, c, c', h1, h2, h3, h4, h5⟩ := L
  obtain ⟨⟨pm, ctv, ho⟩, _, _⟩ := I.hok f _ h1
  obtain ⟨⟨uc, ruc, hcell⟩, _, _⟩ := I.hok c _ h4
  let F : NF := ⟨"<lambda>", q, pr, [], sc, cl, c'⟩
  let H0 : Hp := fun b => if b = c then none else H b
  have h0c : H0 c = none := if_pos rfl
  have h0n : ∀ b, b ≠ c → H0 b = H b := fun b n => if_neg n
  have h0s : ∀ b o, H0 b = some o → H b = some o := fun b o e => by
    by_cases hb : b = c
    · rw [hb, h0c] at e
      cases e
    · rw [h0n b hb] at e
      exact e
  have h0N : ∀ b, H b = none → H0 b = none := fun b e => by
    by_cases hb : b = c
    · rw [hb]
      exact h0c
    · rw [h0n b hb]
      exact e
  have e0 := I.env0
  have cO : ∀ b, (∃ y, H b = some (.own y)) ∨ (∃ xs, H b = some (.tup xs)) → b ≠ c := fun b hb z => by
    rw [z, h4] at hb
    rcases hb with ⟨y, e⟩ | ⟨y, e⟩
    · have e := Option.some.inj e
      unfold CellO at e
      cases e
    · have e := Option.some.inj e
      unfold CellO at e
      cases e
  have hok0 : HOk X.prog X.w H0 s.heap := fun b o e => (I.hok b o (h0s b o e)).stay (fun _ _ _ q => q) (fun d q => by rw [h0n d (cO d (.inl ⟨_, q⟩))]; exact q) fun d xs q => by rw [h0n d (cO d (.inr ⟨_, q⟩))]; exact q
  have e1 : Env0 X.prog X.w X.K X.mg X.base X.A X.stack s H0 := ⟨e0.frames, e0.mod, fun b o e => ⟨(e0.bs b o e).1, h0N b (e0.bs b o e).2⟩, e0.bsz, e0.funs, fun b hb => h0N b (e0.frf b hb), hok0, e0.bare⟩
  have lim : s.heap.NoLimit := I.nolimit
  have C : CellsAt F.cl [nm] [some kv] s.heap H0 := by
    refine ⟨rfl, fun y a e => ?_, fun x y a ex ey => (h3 x a ex).trans (h3 y a ey).symm, fun i y e => ?_⟩
    · have ey := h3 y a e
      rw [ey, h2] at e
      cases e
      exact ⟨h0c, _, hcell⟩
    · match i with
      | 0 =>
        have ey : nm = y := Option.some.inj e
        rw [← ey]
        exact ⟨c, h2, fun v ev => by
          have : kv = v := Option.some.inj (Option.some.inj ev)
          rw [← this]
          exact ⟨uc, ruc, hcell⟩⟩
      | i + 1 => cases e
  have rc : codeAny (model X.prog X.w) X.A (.call (.ref f) ⟨[u], []⟩) (CR CX0 X.stack X.prog X.w H0 s (fun v H' => ∀ H2, (∀ b o, H b = some o → (H0 b = some o → H' b = some o) → H2 b = some o) → Q v H2) E0) s := by
    refine PySem.W.kla_callFunE hr.depth ho rfl S.co S.gen rfl (codeO_at I.hok h5) ?_
    rw [hbind]
    refine wpAny_pure (wpAny_newFunctionEnv S.nocell (fun y hy => ?_) (fun h₁ hns hsb => ⟨lim.fresh _ hsb, ?_⟩) S.kind)
    · have : y = (ar, u) := List.mem_singleton.mp hy
      rw [this]
      exact S.par ar (List.mem_singleton.mpr rfl)
    show codeAny _ _ (.expr bd (envF F f s.heap.objs.size)) _ _
    have kp : ∀ b o, s.heap.get? b = some o → h₁.get? b = some o := fun b o e => hsb.extBut b o (Nat.ne_of_lt (Heap.lt_size e)) (Heap.get?_push_of_some _ e)
    have J : Inv (ncx CX0 X.prog X.w X.K X.mg X.base [ar, nm] F f X.A X.stack s H0 E0) [] (startF [ar, nm] [z] [some kv]) H0 { s with heap := h₁, toks := s.toks + ([(ar, u)] : List (Str × Value)).length } :=
      inv_startN (ps := [ar]) (fr := [nm]) S hr.hd e1 rfl (.cons rz .nil) C hns kp
    refine PySem.W.kla_codeExpr (wpAny_mono ((hbody F X.A X.stack s H0 rfl (hr.deeper _)).run [] _ _ H0 _ J (hq H0 h0s)) (fun v s' hv => ?_) fun e s' hv => hv)
    obtain ⟨w', H', J', rv, q'⟩ := hv
    exact ⟨w', H', J'.os, J'.bare, J'.base, J'.hok, rv, q'⟩
  refine wpAny_call (codeAny_mono rc fun r s' hv => ?_)
  cases r with
  | error e => exact (show False from hv).elim
  | ok fl =>
    cases fl with
    | ret u =>
      obtain ⟨v, H', os, bare, un, hok, rv, q'⟩ := hv
      obtain ⟨oc, hoc, hdc⟩ := id hcell
      have fc : H' c = none := un.free c oc hoc h0c (by simp)
      have nfr : c ∉ frs X.stack := fun hb => by
        have := I.stkFree c hb
        rw [h4] at this
        cases this
      have hoc' : s'.heap.get? c = some oc := un.keep c oc hoc h0c nfr (by simp)
      have cn : ∀ b o, H' b = some o → b ≠ c := fun b o e => ne_of_none e fc
      have nc : ∀ b, H b = none → b ≠ c := fun b e z => by rw [z, h4] at e; cases e
      have nt : ∀ b o, H b = some o → (∀ φ, o ≠ .ext φ) → b ≠ c := fun b o e n z => by
        rw [z, h4] at e
        have e := Option.some.inj e
        unfold CellO at e
        exact n _ e.symm
      have hok2 : HOk X.prog X.w (upd H' c (CellO c kv)) s'.heap := fun b ob e => by
        by_cases hb : b = c
        · subst hb
          rw [upd_same] at e
          cases e
          exact ⟨⟨uc, ruc, oc, hoc', hdc⟩, ⟨oc, hoc'⟩, fun h1 h2 ⟨u2, r2, o2, e2, d2⟩ st => ⟨u2, r2, o2, st _ e2, d2⟩⟩
        · rw [upd_ne hb] at e
          exact (hok b ob e).stay (fun d w' _ q => q) (fun d q => by rw [upd_ne (cn d _ q)]; exact q) fun d xs q => by rw [upd_ne (cn d _ q)]; exact q
      have un2 : Un (frs X.stack) [] H (upd H' c (CellO c kv)) s.heap s'.heap := by
        refine ⟨fun b o e n => un.keep b o e (h0N b n), fun b o e n => un.slot b o e (h0N b n), fun b o e n hx => ?_, un.there, fun b xs e => ?_, fun b o u e => ?_, fun b ps e => ?_⟩
        · rw [upd_ne (nc b n)]
          exact un.free b o e (h0N b n) hx
        · have := un.tups b xs (by rw [h0n b (nt b _ e (fun φ z => by cases z))]; exact e)
          rw [upd_ne (cn b _ this)]
          exact this
        · have := un.frzs b o u (by rw [h0n b (nt b _ e (fun φ z => by cases z))]; exact e)
          rw [upd_ne (cn b _ this)]
          exact this
        · obtain ⟨more, this⟩ := un.tbls b ps (by rw [h0n b (nt b _ e (fun φ z => by cases z))]; exact e)
          exact ⟨more, by rw [upd_ne (cn b _ this)]; exact this⟩
      refine I.after ⟨v, upd H' c (CellO c kv), os, bare, un2, hok2, rv, q' _ fun b o e h => ?_⟩
      by_cases hb : b = c
      · rw [hb, upd_same]
        rw [hb, h4] at e
        exact e
      · rw [upd_ne hb]
        exact h (by rw [h0n b hb]; exact e)
    | next => exact (show False from hv).elim
    | brk => exact (show False from hv).elim
    | cont => exact (show False from hv).elim
end
end My

set_option Elab.async false
set_option linter.all false
set_option maxRecDepth 100000
/-! rules that the hand layer has not -/
namespace My
open PySem PySem.Spec PyProof.Rows L2
/-! ### readings weakened, joined -/
section
variable {X : Cx} {e : Expr} {t t' : TE}
theorem PE.imp (h : PE X e t) (k : ∀ σ H Q, t' σ H Q → t σ H Q) : PE X e t' := ⟨fun pins s σ H Q I q => h.run pins s σ H Q I (k _ _ _ q)⟩
theorem pe_or (h : PE X e t) (h' : PE X e t') : PE X e (fun σ H Q => t σ H Q ∨ t' σ H Q) := ⟨fun pins s σ H Q I q => q.elim (fun q => h.run pins s σ H Q I q) fun q => h'.run pins s σ H Q I q⟩
end
/-! ### xs[a:b:k] of a list -/
theorem vals_pick {xs : List V} {us : List Value} (r : Vals xs us) : ∀ ix : List Nat, Vals (ix.filterMap (xs[·]?)) (ix.filterMap (us[·]?))
  | [] => .nil
  | i :: ix => by
    cases e : xs[i]? with
    | none =>
      have e2 := r.none_of e
      rw [List.filterMap_cons_none (f := (xs[·]?)) e, List.filterMap_cons_none (f := (us[·]?)) e2]
      exact vals_pick r ix
    | some x =>
      obtain ⟨u, hu, ru⟩ := r.get e
      rw [List.filterMap_cons_some (f := (xs[·]?)) e, List.filterMap_cons_some (f := (us[·]?)) hu]
      exact .cons ru (vals_pick r ix)
def stepIx (n : Nat) (lo hi st : Option Int) : List Nat := sliceRange (sliceBounds lo hi st n).1 (sliceBounds lo hi st n).2.1 (sliceBounds lo hi st n).2.2
def tStepL (K : PySem.W.Frag) (te : TE) (tl th ts : TO) : TE := fun σ H Q => te σ H fun x H1 => tl σ H1 fun lo H2 => th σ H2 fun hi H3 => ts σ H3 fun st H4 => ∃ a xs, x = .ref a ∧ SqL K H4 a xs ∧ st ≠ some 0 ∧ (stepIx xs.length lo hi st).length ≤ sizeLine ∧
  ∀ p, H4 p = none → Q (.ref p) (upd H4 p (.lst ((stepIx xs.length lo hi st).filterMap (xs[·]?))))
section
variable {X : Cx}
theorem pe_stepL {e b : Expr} {lo hi : Option Expr} {te : TE} {tl th ts : TO} {p3 pos : Pos} (he : PE X e te) (hl : PO X lo tl) (hh : PO X hi th) (hs : PO X (some b) ts)
    (hsub : ∀ l i : Addr, subscripted (.Slice lo hi (some b) p3) false (.ref l) (.ref i) = operate [.ref l, .ref i] (getItem (.ref l) (.ref i)) := by intro l i; with_unfolding_all rfl) :
    PE X (.Subscript e (.Slice lo hi (some b) p3) pos) (tStepL X.K te tl th ts) := by
  refine ⟨fun pins s σ H Q I h => ?_⟩
  refine Subscript_ (thn (he.run pins s σ H _ I h) fun v s1 ⟨x, H1, I1, r1, q1⟩ => ?_)
  refine wpAny_Slice (thn (hl.run pins s1 σ H1 _ I1 q1) fun vl s2 ⟨l, H2, I2, pl, q2⟩ => thn (hh.run pins s2 σ H2 _ I2 q2) fun vu s3 ⟨u, H3, I3, pu, q3⟩ => thn (hs.run pins s3 σ H3 _ I3 q3) fun vs s4 ⟨o, H4, I4, ps, q4⟩ => ?_)
  obtain ⟨a, xs, ex, hx, h0, hz2, q⟩ := q4
  subst ex
  cases r1
  have I5 : Inv X pins σ H4 { s4 with heap := s4.heap.push { cls := .type "slice", data := .fields #[vl, vu, vs] } } := I4.kept (t' := s4.toks) fun b ob q => Heap.get?_push_of_some _ q
  obtain ⟨its, r, ht, hz⟩ := I5.list hx
  have hlen := r.length
  show wpAny (model X.prog X.w) X.A (subscriptTail e (.Slice lo hi (some b) p3) (.ref a) (.ref s4.heap.objs.size)) (EP X pins σ Q) X.xe { s4 with heap := s4.heap.push { cls := .type "slice", data := .fields #[vl, vu, vs] } }
  refine tail_any (ops := [.ref a, .ref s4.heap.objs.size]) ht.isList.typeIs (PySem.slot_list_getitem.lookup) ?_ (hsub _ _)
  refine wpAny_getItem_list_slice ht.isList (Heap.IsSliceOf.new _ vl vu vs) pl pu ps h0 ?_ (by rw [List.size_toArray]; omega)
  have ep : slicePick its.toArray l u o = ((stepIx xs.length l u o).filterMap (its[·]?)).toArray := by
    unfold slicePick stepIx
    rw [List.size_toArray, ← hlen]
    congr 1
    congr 1
    funext i
    simp
  rw [ep]
  refine ⟨.ref _, _, I5.laid (t' := s4.toks) (o := .lst ((stepIx xs.length l u o).filterMap (xs[·]?))) (fun b ob q => Heap.get?_push_of_some _ q) (Nat.le_refl _) ?_, rfl, q _ (I5.hok.fresh (Nat.le_refl _))⟩
  exact ⟨Nat.le_trans (List.length_filterMap_le _ _) hz2, _, 0, vals_pick r _, Heap.get?_push_size _ rfl⟩
/-! ### s[::-1] of a text -/
def tRevS (te : TE) : TE := fun σ H Q => te σ H fun x H1 => ∃ l : List Nat, x = .str (SX.S l) ∧ l.length ≤ sizeLine ∧ Q (.str (SX.S l.reverse)) H1
theorem rev_pick (l : List Nat) (t : Tok) : Txt.sliceBy (SX.S l) none none (-1, t) = SX.S l.reverse := by
  unfold Txt.sliceBy
  have h1 : ((((some ((-1 : Int), t)).map (·.1)).getD 1 == 1 && (slicePicked (SX.S l) none none (some (-1, t))).length == (SX.S l).length) = true) = False := by simp
  rw [if_neg (by simp)]
  have e1 : slicePicked (SX.S l) none none (some (-1, t)) = (List.range l.length).map fun k => l.length - 1 - k := by
    unfold slicePicked Builtin.Str.strSliceIndices
    simp only [Option.map_none, Option.map_some, Option.getD_some]
    rw [if_neg (by decide), if_neg (by decide), SX.S_len]
    exact PySem.W.krv_sliceRange l.length
  rw [e1, PySem.W.krv_range, List.filterMap_reverse]
  have e2 := PySem.W.krv_all l.toArray
  rw [List.size_toArray] at e2
  show (⟨((List.range l.length).filterMap (l.toArray[·]?)).reverse.toArray⟩ : Str) = _
  rw [e2]
theorem pe_revS {e : Expr} {te : TE} {k : Nat} {p1 p2 p3 pos : Pos} (he : PE X e te) : PE X (.Subscript e (.Slice none none (some (.UnaryOp .USub (.Constant (.int 1) k p1) p2)) p3) pos) (tRevS te) := by
  refine ⟨fun pins s σ H Q I h => ?_⟩
  refine Subscript_ (thn (he.run pins s σ H _ I h) fun v s1 ⟨x, H1, I1, r1, q1⟩ => ?_)
  obtain ⟨z, ex, hz, q⟩ := q1
  subst ex
  obtain ⟨t, rfl⟩ := r1
  have hst : PO X (some (.UnaryOp .USub (.Constant (.int 1) k p1) p2)) (tPart (tUn (rU fun i => .int (-i)) (tC (.int 1)))) := po_some (pe_un un_neg pe_int)
  refine wpAny_Slice (thn (po_none.run pins s1 σ H1 (fun o H2 => o = none ∧ H2 = H1) I1 ⟨rfl, rfl⟩) fun vl s2 ⟨l, H2, I2, pl, el, e2⟩ => ?_)
  subst el e2
  refine thn (po_none.run pins s2 σ H2 (fun o H3 => o = none ∧ H3 = H2) I2 ⟨rfl, rfl⟩) fun vu s3 ⟨u, H3, I3, pu, eu, e3⟩ => ?_
  subst eu e3
  refine thn (hst.run pins s3 σ H3 (fun o H4 => o = some (-1) ∧ H4 = H3) I3 ⟨1, rfl, -1, rfl, rfl, rfl⟩) fun vs s4 ⟨o, H4, I4, ps, eo, e4⟩ => ?_
  subst eo e4
  cases pl
  cases pu
  cases ps with
  | int i t2 =>
  have I5 : Inv X pins σ H4 { s4 with heap := s4.heap.push { cls := .type "slice", data := .fields #[.none, .none, .int (-1) t2] } } := I4.kept (t' := s4.toks) fun b ob q => Heap.get?_push_of_some _ q
  show wpAny (model X.prog X.w) X.A (subscriptTail e (.Slice none none (some (.UnaryOp .USub (.Constant (.int 1) k p1) p2)) p3) (.str (SX.S z) t) (.ref s4.heap.objs.size)) (EP X pins σ Q) X.xe { s4 with heap := s4.heap.push { cls := .type "slice", data := .fields #[.none, .none, .int (-1) t2] } }
  refine tail_any (ops := [.ref s4.heap.objs.size, .str (SX.S z) t]) (T := "str") (PySem.typeIs_str _ _ _) PySem.F.slot_str_getitem.lookup ?_ (by with_unfolding_all rfl)
  refine wpAny_getItem_str_slice (l := none) (u := none) (st := some (-1, t2)) ⟨_, Heap.get?_push_size _ rfl, rfl, rfl⟩ rfl ?_
  refine post_val_or_str ⟨?_, fun t' c => ?_⟩
  · exact Nat.le_trans (Txt.sliceBy_le (SX.S z) none none (-1, t2) (by show (-1 : Int) ≠ 0; decide)) (by rw [SX.S_len]; exact hz)
  · have e := rev_pick z t2
    unfold Txt.sliceBy at e
    rw [e]
    exact ⟨.str (SX.S z.reverse), H4, I5.tok c, ⟨_, rfl⟩, q⟩
/-! ### == by an own __eq__, both answers -/
def rEqOwn (C : Addr) (sp : Sp) : R2 := fun x y H Q => ∃ a b dx dy fs gs, x = .ref a ∧ y = .ref b ∧ H a = some (.ins C dx fs) ∧ H b = some (.ins C dy gs) ∧ sp [x, y] H Q E0
theorem op_eqOwn {C f : Addr} {fd : FuncData} {ps : List Str} {n : Nat} {sp : Sp} (F : FnOk X.prog X.w X.K X.mg X.base CX0 n f fd ps sp)
    (hs : PySem.W.findIn X.K (.ref C) "__eq__" = some (some (.ref f))) (hf : PySem.W.isFn X.K (.ref f) = true) (hb : Binds X.K fd ps []) (hr : Room n X.A) : OpR X (compareOp .Eq) (rEqOwn C sp) := by
  intro pins s σ H x y u v Q I rx ry d
  obtain ⟨a, b, dx, dy, fs, gs, rfl, rfl, ha, hb', hsp⟩ := d
  cases rx
  cases ry
  show wpAny (model X.prog X.w) X.A (richCompare .Eq (.ref a) (.ref b)) (EP X pins σ Q) X.xe s
  obtain ⟨mA, J, _⟩ := ins_get I.hok ha
  obtain ⟨mB, J', _⟩ := ins_get I.hok hb'
  obtain ⟨od, J, _⟩ := J.look
  obtain ⟨od', J', _⟩ := J'.look
  obtain ⟨m, hF⟩ := I.fr
  refine PySem.W.cmp_K (op := .Eq) (tb := .ref C) hr.units0 hF I.ok.mod.kin J J'.type (by simp [PySem.W.notFirst]) hs hf ?_
  have hl := F.len _ _ _ _ hsp
  have r2 : Vals [V.ref a, V.ref b] [Value.ref a, Value.ref b] := .cons rfl (.cons rfl .nil)
  refine wpAny_call (codeAny_mono (F.run X.A X.stack s H ⟨[.ref a, .ref b], []⟩ [.ref a, .ref b] [.ref a, .ref b] _ E0 hr I.env0 (by
    have := hb s [.ref a, .ref b] I.kIn (by simpa using hl)
    simpa using this) r2 hsp) fun r s' hq => ?_)
  cases r with
  | error e => exact (show False from hq).elim
  | ok fl =>
    cases fl with
    | ret w =>
      obtain ⟨v, H', I', rv, q⟩ := I.after hq
      show PySem.W.CmpBack (EP X pins σ Q) w s'
      have g : EP X pins σ Q w s' := ⟨v, H', I', rv, q⟩
      cases v with
      | non => cases rv; exact g
      | bl b => cases rv; exact g
      | int i => obtain ⟨t, rfl⟩ := rv; exact g
      | str i => obtain ⟨t, rfl⟩ := rv; exact g
      | byt i => obtain ⟨t, rfl⟩ := rv; exact g
      | flt i => obtain ⟨t, rfl⟩ := rv; exact g
      | ref i => cases rv; exact g
      | ty i => cases rv; exact g
    | next => exact False.elim hq
    | brk => exact False.elim hq
    | cont => exact False.elim hq
/-! ### C() of a class without __init__ -/
def tMake00 (C : Addr) : TE := fun _ H Q => ∀ x dx, H x = none → H dx = none → dx ≠ x → Q (.ref x) (upd (upd H dx (.own x)) x (.ins C dx []))
theorem pe_make00 {C : Addr} {x : Str} {p pos : Pos} (hm1 : PySem.W.makesIn X.K C = true) (hi : PySem.W.findIn X.K (.ref C) "__init__" = some (some (.builtin "object.__init__"))) (hk : PySem.W.keepIn X.K (.ref C) = true) (hg : Gl X x) (hm : X.mg x = some (.ref C))
    (hdb : (x == ("__debug__" : Str)) = false := by decide) : PE X (.Call (.Name x p) [] [] pos) (tMake00 C) := by
  refine ⟨fun pins s σ H Q I h => ?_⟩
  refine wpAny_Call_Name_kw (ld_glob I hg hm ?_ hdb)
  refine PySem.W.callWith_K0 I.kIn hk ?_
  have q := h (s.heap.objs.size + 1) s.heap.objs.size (I.hok.fresh (Nat.le_succ _)) (I.hok.fresh (Nat.le_refl _)) (Nat.ne_of_lt (Nat.lt_succ_self _))
  have I2 := Inv.made (C := C) I
  refine wpAny_call (make_map0 I.kIn hm1 hi (fun self => PySem.W.Looks.of_pure (PySem.W.oi_bind self)) ?_)
  have Y := PySem.W.makes_of (M := model X.prog X.w) I.kIn hm1
  have hx : ((s.heap.push PySem.W.emptyDict).push (PySem.W.instObj C s.heap.objs.size)).get? (s.heap.objs.size + 1) = some (PySem.W.instObj C s.heap.objs.size) := by
    have := Heap.get?_push_size (s.heap.push PySem.W.emptyDict) (o := PySem.W.instObj C s.heap.objs.size) rfl
    rwa [Heap.size_push] at this
  have t1 : PySem.W.Looks (model X.prog X.w) ((s.heap.push PySem.W.emptyDict).push (PySem.W.instObj C s.heap.objs.size)) (typeOf (.ref (s.heap.objs.size + 1))) (.ref C) := (PySem.W.Looks.ld hx).andThen .now
  have t2 : PySem.W.Looks (model X.prog X.w) ((s.heap.push PySem.W.emptyDict).push (PySem.W.instObj C s.heap.objs.size)) (isInstance (.ref (s.heap.objs.size + 1)) (.type "object")) true := t1.andThen (Y.top.keeps fun b o e => Heap.get?_push_of_some _ (Heap.get?_push_of_some _ e))
  refine codeAny_call_builtin PySem.W.oi_plain PySem.W.entry_oi (@PySem.W.check_slot (model X.prog X.w) _ _ _ "object.__init__" "object" "__init__" (.ref (s.heap.objs.size + 1)) [] [] _ PySem.W.oi_kind PySem.W.oi_split t2 (PySem.W.oi_args (.ref (s.heap.objs.size + 1))) ?_)
  rw [PySem.W.oi_run]
  exact wpAny_pure (And.intro rfl ⟨.ref (s.heap.objs.size + 1), _, I2, rfl, q⟩)
end
end My

set_option Elab.async false
set_option linter.all false
set_option maxRecDepth 100000
namespace My
open PySem PySem.Spec PyProof.Rows L2
/-! ### operators upon whole numbers of any size -/
section
variable {X : Cx}
theorem op_mulG : OpR X (binaryOp .Mult) (rI IntMulOk fun i j => .int (i * j)) := opI fun _ _ _ _ _ _ _ hc q => mul_int q hc
def CDivS (_ j : Int) : Prop := j ≠ 0 ∧ j.natAbs.log2 < 9000
theorem op_divS : OpR X (binaryOp .FloorDiv) (rI CDivS fun i j => .int (i.fdiv j)) := opI fun _ _ _ _ _ _ _ hc q => floordiv_int hc.1 q (.inl (PyProof.noPylong_of_log2 hc.2))
def CPowG (i j : Int) : Prop := 0 ≤ j ∧ (Builtin.Int.intBits i : Int) * j ≤ 2 ^ 27
theorem op_powG : OpR X (binaryOp .Pow) (rI CPowG fun i j => .int (i ^ j.toNat)) := opI fun _ _ _ _ _ _ _ hc q => pow_int hc.1 hc.2 q
end
/-- a def that stands at a module's name and keeps its promise -/
structure Cal (P : Program) (w : World) (K : PySem.W.Frag) (mg : Str → Option Value) (base : Heap) (x : Str) (k : Nat) (ps : List Str) (sp : Sp) (f : Addr) (fd : FuncData) : Prop where
  ok : FnOk P w K mg base CX0 k f fd ps sp
  g : mg x = some (.ref f)
  kp : PySem.W.keepIn K (.ref f) = true
  b : Binds K fd ps []
theorem same_upd {H : Hp} {p : Addr} {o : HO} (h : H p = none) : Same H (upd H p o) := fun b x e => by
  rw [upd_ne (ne_of_none e h)]
  exact e
/-! ### the bag -/
/-- a bag at b: its numbers at c, the rest bounded -/
structure BagIs (K : PySem.W.Frag) (H : Hp) (b c : Addr) (ns : List Int) (i : Nat) (g x n : Int) : Prop where
  ob : H b = some (.lst [.ref c, .int i, .int g, .int x, .int n])
  sq : SqL K H c (ns.map V.int)
  cb : c ≠ b
  hi : i ≤ ns.length
  x0 : 0 ≤ x
  x1 : x < 4294967296
def BagC (K : PySem.W.Frag) (H : Hp) (b c : Addr) (ns : List Int) : Prop := ∃ i g x n, BagIs K H b c ns i g x n
def BagAt (K : PySem.W.Frag) (H : Hp) (b : Addr) : Prop := ∃ c ns i g x n, BagIs K H b c ns i g x n
theorem BagC.at {K : PySem.W.Frag} {H : Hp} {b c : Addr} {ns : List Int} (h : BagC K H b c ns) : BagAt K H b := ⟨c, ns, h⟩
/-- what stands stays, but for what stands at b -/
def But (b : Addr) (H H' : Hp) : Prop := ∀ p o, p ≠ b → H p = some o → H' p = some o
theorem But.refl {b : Addr} {H : Hp} : But b H H := fun _ _ _ h => h
theorem But.trans {b : Addr} {H H1 H2 : Hp} (x : But b H H1) (y : But b H1 H2) : But b H H2 := fun p o n h => y p o n (x p o n h)
theorem But.upd {b : Addr} {H : Hp} {o : HO} : But b H (upd H b o) := fun p u n h => by rw [upd_ne n]; exact h
theorem But.of {b : Addr} {H H' : Hp} (s : Same H H') : But b H H' := fun p o _ h => s p o h
theorem But.seq {K : PySem.W.Frag} {b p : Addr} {H H' : Hp} {xs : List V} (h : But b H H') (n : p ≠ b) (s : SqL K H p xs) : SqL K H' p xs := by
  rcases s with (s | ⟨o, s⟩) | s
  · exact .inl (.inl (h _ _ n s))
  · exact .inl (.inr ⟨o, h _ _ n s⟩)
  · exact .inr s
theorem But.seqT {K : PySem.W.Frag} {b p : Addr} {H H' : Hp} {xs : List V} (h : But b H H') (n : p ≠ b) (s : SqT K H p xs) : SqT K H' p xs := by
  rcases s with (s | ⟨o, s⟩) | s
  · exact .inl (.inl (h _ _ n s))
  · exact .inl (.inr ⟨o, h _ _ n s⟩)
  · exact .inr s
theorem BagIs.same {K : PySem.W.Frag} {H H' : Hp} {b c : Addr} {ns : List Int} {i : Nat} {g x n : Int} (B : BagIs K H b c ns i g x n) (s : Same H H') : BagIs K H' b c ns i g x n :=
  ⟨s _ _ B.ob, s.seq B.sq, B.cb, B.hi, B.x0, B.x1⟩
theorem BagAt.same {K : PySem.W.Frag} {H H' : Hp} {b : Addr} (B : BagAt K H b) (s : Same H H') : BagAt K H' b :=
  let ⟨c, ns, i, g, x, n, B⟩ := B; ⟨c, ns, i, g, x, n, B.same s⟩
theorem BagIs.put {K : PySem.W.Frag} {H : Hp} {b c : Addr} {ns : List Int} {i : Nat} {g x n : Int} (B : BagIs K H b c ns i g x n) {i' : Nat} {g' x' n' : Int} (hi : i' ≤ ns.length) (x0 : 0 ≤ x') (x1 : x' < 4294967296) :
    BagIs K (upd H b (.lst [.ref c, .int i', .int g', .int x', .int n'])) b c ns i' g' x' n' :=
  ⟨upd_same, (But.upd (H := H)).seq B.cb B.sq, B.cb, hi, x0, x1⟩
/-! ### promises -/
def spBag (K : PySem.W.Frag) : Sp := fun vs H Q _ => ∃ (a : Addr) (ns : List Int), vs = [.ref a] ∧ SqL K H a (ns.map V.int) ∧ ∀ b H', Same H H' → BagAt K H' b → H b = none → Q (.ref b) H'
def spDraw (K : PySem.W.Frag) : Sp := fun vs H Q _ => ∃ (b : Addr) (m : Int), vs = [.ref b, .int m] ∧ BagAt K H b ∧ 0 < m ∧ m < 1000000000000000000000000000000000000000 ∧ ∀ r H', 0 ≤ r → r < m → BagAt K H' b → But b H H' → Q (.int r) H'
def spDrawC (K : PySem.W.Frag) : Sp := fun vs H Q _ => ∃ (b : Addr) (m : Int) (c : Addr) (ns : List Int), vs = [.ref b, .int m] ∧ BagC K H b c ns ∧ 0 < m ∧ m < 1000000000000000000000000000000000000000 ∧ ∀ r H', 0 ≤ r → r < m → BagC K H' b c ns → But b H H' → Q (.int r) H'
/-- the bag's numbers are not the list at L, or stand in the written part -/
def Off (K : PySem.W.Frag) (L c : Addr) (ns : List Int) : Prop := c ≠ L ∨ ∃ (o : Obj) (its : Array Value) (n : Nat), K.lookup c = some o ∧ o.cls = .type "list" ∧ o.dict = none ∧ o.data = .seq its n ∧ its.size ≤ sizeLine ∧ Vals (ns.map V.int) its.toList
theorem BagC.off {K : PySem.W.Frag} {H : Hp} {b c L : Addr} {ns : List Int} (h : BagC K H b c ns) (n : H L = none) : Off K L c ns := by
  obtain ⟨i, g, x, m, B⟩ := h
  rcases B.sq with (s | ⟨o, s⟩) | s
  · exact .inl (ne_of_none s n)
  · exact .inl (ne_of_none s n)
  · exact .inr s
theorem BagC.upd {K : PySem.W.Frag} {H : Hp} {b c L : Addr} {ns : List Int} {o : HO} (h : BagC K H b c ns) (f : Off K L c ns) (n : L ≠ b) : BagC K (upd H L o) b c ns := by
  obtain ⟨i, g, x, m, B⟩ := h
  refine ⟨i, g, x, m, by rw [upd_ne n.symm]; exact B.ob, ?_, B.cb, B.hi, B.x0, B.x1⟩
  rcases f with f | f
  · exact (But.upd (b := L)).seq f B.sq
  · exact .inr f
theorem BagC.same {K : PySem.W.Frag} {H H' : Hp} {b c : Addr} {ns : List Int} (h : BagC K H b c ns) (s : Same H H') : BagC K H' b c ns := by
  obtain ⟨i, g, x, m, B⟩ := h
  exact ⟨i, g, x, m, B.same s⟩
def topS (i : Nat) : Stmt := PySem.Challenge.pw_soleheld_k78_spans_hold_worths.main.body.getD i (.Pass ⟨0, 0, 0, 0⟩)
abbrev sLawBag : Stmt := topS 28
theorem scLawBag : FnScope ["script", "first", "cell"] ["script"] (defScope sLawBag) := ⟨rfl, rfl, rfl, by decide +kernel, rfl, by decide +kernel, by decide +kernel⟩
abbrev sLawPull : Stmt := topS 29
theorem scLawPull : FnScope ["bag", "many", "cell", "digit", "twice"] ["bag", "many"] (defScope sLawPull) := ⟨rfl, rfl, rfl, by decide +kernel, rfl, by decide +kernel, by decide +kernel⟩
theorem mod_lo {a m : Int} (h : 0 < m) : 0 ≤ a % m := Int.emod_nonneg a (by omega)
theorem mod_hi {a m : Int} (h : 0 < m) : a % m < m := Int.emod_lt_of_pos a h
theorem mul_right {a : Int} {c : Int} (h : Builtin.Int.intBits c ≤ 64) : IntMulOk a c := IntMulOk.of_right h
section
variable {P : Program} {w : World} {K : PySem.W.Frag} {mg : Str → Option Value} {base : Heap}
theorem ok_bag {f : Addr} {fd : FuncData} {k : Nat} (F : Fun K "_law_bag" "_law_bag" sLawBag f fd) (b_int : mg "int" = none) (b_list : mg "list" = none) (b_len : mg "len" = none) (b_sum : mg "sum" = none) : FnOk P w K mg base CX0 (k + 1) f fd ["script"] (spBag K) := by
  refine F.ok scLawBag (fun vs H Q E h => ?_) (fun cdv A outer s H vs Q E hr h => ?_)
  · obtain ⟨a, ns, rfl, _⟩ := h
    rfl
  · obtain ⟨a, ns, rfl, hS, q⟩ := h
    refine ⟨_, (pss_cons (ps_set (i := 1) scLawBag.nd rfl (.inl rfl) (pe_op op_add (pe_op op_add pe_int (pe_op op_mulG pe_int (pe_callB call_len rfl b_len (by decide +kernel) (pa_cons (pe_slice sl_list (pv 0) po_none (po_some pe_int)) pa_nil)))) (pe_callB (cr_sum rfl) rfl b_sum (by decide +kernel) (pa_cons (pe_lc (g := gName 2) (tt := tYes) (te := tOp (rI (fun _ j => 0 < j) fun i j => .int (i % j)) (tCB (fun xs H Q => (∃ i, xs = [.int i] ∧ Q (.int i) H) ∨ ∃ k, xs = [.bl k] ∧ Q (.int (if k then 1 else 0)) H) (tCons (tVar 2) tNil)) (tC (.int 1000003))) (own := [("cell", 2)]) rfl scLawBag.nd (pi_list (pe_slice sl_list (pv 0) po_none (po_some pe_int))) (blkOk_by (own := [("cell", 2)]) (N := ["script", "first", "cell"]) (sc := defScope sLawBag) (by decide +kernel)) (fun _ _ _ _ _ => (pg_name (i := 2) scLawBag.nd rfl (.inl rfl) (.inr rfl))) (fun _ _ _ _ _ => pts_nil) (fun _ _ _ _ _ => (pe_op op_mod (pe_callTy call_int1 rfl b_int (by decide +kernel) (pa_cons (pv 2) pa_nil)) pe_int))) pa_nil))))
      (pss_one (ps_ret (pe_lst (pa_cons (pe_lc (g := gName 2) (tt := tYes) (te := tCB (fun xs H Q => (∃ i, xs = [.int i] ∧ Q (.int i) H) ∨ ∃ k, xs = [.bl k] ∧ Q (.int (if k then 1 else 0)) H) (tCons (tVar 2) tNil)) (own := [("cell", 2)]) rfl scLawBag.nd (pi_list (pe_slice sl_list (pv 0) po_none (po_some pe_int))) (blkOk_by (own := [("cell", 2)]) (N := ["script", "first", "cell"]) (sc := defScope sLawBag) (by decide +kernel)) (fun _ _ _ _ _ => (pg_name (i := 2) scLawBag.nd rfl (.inl rfl) (.inr rfl))) (fun _ _ _ _ _ => pts_nil) (fun _ _ _ _ _ => (pe_callTy call_int1 rfl b_int (by decide +kernel) (pa_cons (pv 2) pa_nil)))) (pa_cons pe_int (pa_cons pe_int (pa_cons (pv 1) (pa_cons pe_int pa_nil))))))))), ?_⟩
    obtain ⟨ms, ec, hms⟩ : ∃ ms : List Int, cutV (ns.map V.int) none (some 63) = ms.map V.int ∧ ms.length ≤ 63 := by
      have e0 : HT.sIx (ns.map V.int).length 0 none = 0 := HT.sIx_none _ _
      have e1 : HT.sIx (ns.map V.int).length (ns.map V.int).length (some 63) = min 63 (ns.map V.int).length := HT.sIx_nat _ _ 63
      refine ⟨(ns.drop 0).take (min 63 ns.length), ?_, ?_⟩
      · unfold cutV
        rw [e0, e1, List.map_take, List.map_drop, List.length_map, Nat.sub_zero]
      · rw [List.length_take]
        omega
    refine ⟨_, rfl, _, rfl, a, _, rfl, hS, fun c nc => ?_⟩
    rw [ec]
    refine ⟨_, _, rfl, .inl ⟨_, SqL.of upd_same, rfl⟩, _, _, rfl, rfl, IntMulOk.of_left (by decide +kernel), _, _, rfl, rfl, ?_⟩
    have s1 := same_upd (o := .lst (ms.map V.int)) nc
    refine ⟨_, rfl, _, rfl, a, _, rfl, s1.seq hS, fun c2 nc2 => ?_⟩
    rw [ec]
    have s2 := s1.trans (same_upd (o := .lst (ms.map V.int)) nc2)
    refine ⟨c2, rfl, ⟨_, SqL.of upd_same⟩, fun D nD => lc_list (K := K) (a := c2) (xs := ms.map V.int) (fun i G => ∃ zs : List Int, zs.length = i ∧ (∀ z ∈ zs, 0 ≤ z ∧ z < 1000003) ∧ Same H G ∧ G c2 = some (.lst (ms.map V.int)) ∧ G D = some (.lst (zs.map V.int))) ⟨[], rfl, (fun z hz => absurd hz (by simp)), s2.trans (same_upd nD), same_upd nD _ _ upd_same, upd_same⟩ (fun i G _ ⟨_, _, _, _, e, _⟩ => SqL.of e) ?_ ?_⟩
    · rintro i y G hi ⟨zs, hz1, hz2, sG, ec2, eD⟩
      obtain ⟨z, -, rfl⟩ : ∃ z, ms[i]? = some z ∧ y = .int z := by
        rw [List.getElem?_map] at hi
        cases e : ms[i]? with
        | none => rw [e] at hi; cases hi
        | some z => rw [e] at hi; exact ⟨z, rfl, (Option.some.inj hi).symm⟩
      have hil : i < 63 := by
        have := (List.getElem?_eq_some_iff.mp hi).1
        rw [List.length_map] at this
        omega
      refine ⟨rfl, ?_⟩
      unfold tYes
      refine iteT ⟨_, rfl, .inl ⟨_, rfl, _, _, rfl, rfl, (by show (0 : Int) < _; decide), _, eD, ?_, zs ++ [z % 1000003], ?_, ?_, ?_, ?_, ?_⟩⟩
      · rw [List.length_map]
        exact small1000 (by omega)
      · rw [List.length_append, hz1]
        rfl
      · intro x hx
        rcases List.mem_append.mp hx with h | h
        · exact hz2 x h
        · have : x = z % 1000003 := by simpa using h
          rw [this]
          exact ⟨mod_lo (by decide), mod_hi (by decide)⟩
      · intro p o h
        have hD : H D = none := s2.free nD
        rw [upd_ne (ne_of_none h hD)]
        exact sG p o h
      · rw [upd_ne (ne_of_none upd_same nD)]
        exact ec2
      · rw [upd_same, List.map_append]
        rfl
    · rintro G ⟨zs, hz1, hz2, sG, ec2, eD⟩
      rw [List.length_map] at hz1
      have hsum : ∀ l : List Int, (∀ z ∈ l, 0 ≤ z ∧ z < 1000003) → 0 ≤ l.sum ∧ l.sum ≤ l.length * 1000003 := by
        intro l
        induction l with
        | nil => intro _; exact ⟨by decide, by decide⟩
        | cons x l ih =>
          intro h
          obtain ⟨h1, h2⟩ := ih fun z hz => h z (List.mem_cons_of_mem _ hz)
          obtain ⟨h3, h4⟩ := h x (by simp)
          rw [List.sum_cons, List.length_cons]
          omega
      obtain ⟨u1, u2⟩ := hsum zs hz2
      refine ⟨D, zs, rfl, SqL.of eD, _, _, rfl, rfl, ?_⟩
      refine ⟨_, rfl, _, rfl, a, _, rfl, sG.seq hS, fun d nd => ?_⟩
      rw [ec]
      have sd := sG.trans (same_upd (o := .lst (ms.map V.int)) nd)
      refine ⟨d, rfl, ⟨_, SqL.of upd_same⟩, fun l nl => lc_list (K := K) (a := d) (xs := ms.map V.int) (fun i G' => Same H G' ∧ G' d = some (.lst (ms.map V.int)) ∧ G' l = some (.lst ((ms.take i).map V.int))) ⟨sd.trans (same_upd nl), same_upd nl _ _ upd_same, upd_same⟩ (fun i G' _ ⟨_, e, _⟩ => SqL.of e) ?_ ?_⟩
      · rintro i y G' hi ⟨sG', ed, el⟩
        obtain ⟨z, hz, rfl⟩ : ∃ z, ms[i]? = some z ∧ y = .int z := by
          rw [List.getElem?_map] at hi
          cases e : ms[i]? with
          | none => rw [e] at hi; cases hi
          | some z => rw [e] at hi; exact ⟨z, rfl, (Option.some.inj hi).symm⟩
        have hil : i < ms.length := (List.getElem?_eq_some_iff.mp hz).1
        refine ⟨rfl, ?_⟩
        unfold tYes
        refine iteT ⟨_, rfl, .inl ⟨_, rfl, _, el, ?_, ?_, ?_, ?_⟩⟩
        · rw [List.length_map, List.length_take]
          exact small1000 (by omega)
        · intro p o h
          rw [upd_ne (ne_of_none h (sd.free nl))]
          exact sG' p o h
        · rw [upd_ne (ne_of_none upd_same nl)]
          exact ed
        · rw [upd_same, List.take_add_one, hz, List.map_append]
          rfl
      rintro G' ⟨s3, ed, el⟩
      rw [List.length_map, List.take_length] at el
      refine ⟨_, rfl, (by show 5 ≤ sizeLine; decide), fun b nb => ?_⟩
      refine q b _ (s3.trans (same_upd nb)) ⟨l, ms, 0, 0, _, 0, upd_same, ?_, ?_, Nat.zero_le _, ?_, ?_⟩ (s3.free nb)
      · have e : l ≠ b := fun e => by rw [← e, el] at nb; cases nb
        exact SqL.of (by rw [upd_ne e, el])
      · exact fun e => by rw [← e, el] at nb; cases nb
      · rw [List.length_map]
        omega
      · rw [List.length_map]
        omega
theorem ok_pullC {f : Addr} {fd : FuncData} {k : Nat} (F : Fun K "_law_pull" "_law_pull" sLawPull f fd) (b_int : mg "int" = none) (b_len : mg "len" = none) (b_abs : mg "abs" = none) : FnOk P w K mg base CX0 (k + 1) f fd ["bag", "many"] (spDrawC K) := by
  refine F.ok scLawPull (fun vs H Q E h => ?_) (fun cdv A outer s H vs Q E hr h => ?_)
  · obtain ⟨b, m, c, ns, rfl, _⟩ := h
    rfl
  · obtain ⟨b, m, c, ns, rfl, ⟨i, g, x, n, B⟩, m0, m1, q⟩ := h
    refine ⟨_, (C8.pss_cut (ps_if (PW.pt (pw_and (pt_cmpR op_eq (pe_ix ix_list (pv 0) pe_int (fun _ _ => rfl)) pe_int (nomark _)) (pw_and1 (pt_cmpR op_lt (pe_ix ix_list (pv 0) pe_int (fun _ _ => rfl)) (pe_callB call_len rfl b_len (by decide +kernel) (pa_cons (pe_ix ix_list (pv 0) pe_int (fun _ _ => rfl)) pa_nil)) (nomark _))))) (pss_cons (ps_set (i := 2) scLawPull.nd rfl (.inl rfl) (pe_ix ix_list (pe_ix ix_list (pv 0) pe_int (fun _ _ => rfl)) (pe_ix ix_list (pv 0) pe_int (fun _ _ => rfl)) (fun _ _ => rfl)))
        (pss_cons (ps_asg (pe_op op_add (pe_ix ix_list (pv 0) pe_int (fun _ _ => rfl)) pe_int) (pg_sub (pv 0) pe_int set_list))
        (pss_one (ps_if (pt_cmpR op_ge (pe_callB call_abs rfl b_abs (by decide +kernel) (pa_cons (pv 2) pa_nil)) (pe_op op_powG pe_int pe_int) (nomark _)) (pss_one (ps_asg (pe_callB call_abs rfl b_abs (by decide +kernel) (pa_cons (pv 2) pa_nil)) (pg_sub (pv 0) pe_int set_list))) (pss_one (ps_asg (pe_op op_mod (pe_callTy call_int1 rfl b_int (by decide +kernel) (pa_cons (pe_op op_add (pe_op op_add (pe_op op_mulG (pe_ix ix_list (pv 0) pe_int (fun _ _ => rfl)) pe_int) (pe_op op_mulG (pe_op op_mod (pe_callTy call_int1 rfl b_int (by decide +kernel) (pa_cons (pv 2) pa_nil)) pe_int) pe_int)) pe_int) pa_nil)) pe_int) (pg_sub (pv 0) pe_int set_list))))))) pss_nil)
      (pss_cons (ps_if (pt_cmpR op_gt (pe_ix ix_list (pv 0) pe_int (fun _ _ => rfl)) pe_int (nomark _)) (pss_cons (ps_set (i := 3) scLawPull.nd rfl (.inl rfl) (pe_op op_mod (pe_callTy call_int1 rfl b_int (by decide +kernel) (pa_cons (pe_ix ix_list (pv 0) pe_int (fun _ _ => rfl)) pa_nil)) (pv 1)))
        (pss_cons (ps_asg (pe_op op_fdivW (pe_ix ix_list (pv 0) pe_int (fun _ _ => rfl)) (pv 1)) (pg_sub (pv 0) pe_int set_list))
        (pss_one (ps_ret (pv 3))))) pss_nil)
      (pss_cons (ps_asg (pe_op op_add (pe_ix ix_list (pv 0) pe_int (fun _ _ => rfl)) pe_int) (pg_sub (pv 0) pe_int set_list))
      (pss_cons (ps_set (i := 4) scLawPull.nd rfl (.inl rfl) (pe_op op_mod (pe_callTy call_int1 rfl b_int (by decide +kernel) (pa_cons (pe_op op_add (pe_op op_mulG (pe_ix ix_list (pv 0) pe_int (fun _ _ => rfl)) (pe_ix ix_list (pv 0) pe_int (fun _ _ => rfl))) (pe_op op_mulG (pe_ix ix_list (pv 0) pe_int (fun _ _ => rfl)) pe_int)) pa_nil)) pe_int))
      (pss_cons (ps_asg (pe_op op_mod (pe_callTy call_int1 rfl b_int (by decide +kernel) (pa_cons (pe_op op_add (pe_op op_add (pe_op op_mulG (pv 4) pe_int) (pe_op op_mulG (pe_ix ix_list (pv 0) pe_int (fun _ _ => rfl)) pe_int)) pe_int) pa_nil)) pe_int) (pg_sub (pv 0) pe_int set_list))
      (pss_one (ps_ret (pe_op op_mod (pe_callTy call_int1 rfl b_int (by decide +kernel) (pa_cons (pe_op op_fdivW (pe_ix ix_list (pv 0) pe_int (fun _ _ => rfl)) pe_int) pa_nil)) (pv 1))))))))), ?_⟩
    refine ⟨fun σ' H' => ∃ (v2 v3 v4 : Option V) (i' : Nat) (g' x' n' : Int), σ' = [some (.ref b), some (.int m), v2, v3, v4] ∧ BagIs K H' b c ns i' g' x' n' ∧ But b H H', ?_, ?_⟩
    · refine ⟨.ref b, rfl, b, _, 2, _, rfl, rfl, SqL.of B.ob, (atI_nat (j := 2) rfl), rfl, _, rfl, ?_⟩
      refine ite2 (fun _ => ?_) (fun _ => ?_)
      · refine ⟨.ref b, rfl, b, _, 1, _, rfl, rfl, SqL.of B.ob, (atI_nat (j := 1) rfl), .ref b, rfl, b, _, 0, _, rfl, rfl, SqL.of B.ob, (atI_nat (j := 0) rfl), _, _, rfl, .inl ⟨_, B.sq, rfl⟩, _, _, rfl, rfl, _, rfl, ?_⟩
        refine ite2 (fun e => ?_) (fun _ => ?_)
        · have hlt : i < ns.length := by
            have e2 := of_decide_eq_true e
            rw [List.length_map] at e2
            omega
          have gi : (ns.map V.int)[i]? = some (.int ns[i]) := by
            rw [List.getElem?_map, List.getElem?_eq_getElem hlt]
            rfl
          refine ⟨.ref b, rfl, b, _, 0, _, rfl, rfl, SqL.of B.ob, (atI_nat (j := 0) rfl), .ref b, rfl, b, _, 1, _, rfl, rfl, SqL.of B.ob, (atI_nat (j := 1) rfl), c, _, i, _, rfl, rfl, B.sq, atI_nat gi, ?_⟩
          refine ⟨.ref b, rfl, b, _, 1, _, rfl, rfl, SqL.of B.ob, (atI_nat (j := 1) rfl), _, _, rfl, rfl, .ref b, rfl, b, _, 1, 1, rfl, rfl, B.ob, rfl, ?_⟩
          have B2 : BagIs K (upd H b (.lst [.ref c, .int ((i : Int) + 1), .int g, .int x, .int n])) b c ns (i + 1) g x n := B.put (i' := i + 1) hlt B.x0 B.x1
          have t2 : But b H (upd H b (.lst [.ref c, .int ((i : Int) + 1), .int g, .int x, .int n])) := But.upd
          refine ⟨_, rfl, _, rfl, _, _, rfl, rfl, ⟨by decide, by decide +kernel⟩, _, _, rfl, rfl, _, rfl, ?_⟩
          refine ite2 (fun _ => ?_) (fun _ => ?_)
          · refine ⟨_, rfl, _, rfl, .ref b, rfl, b, _, 2, 2, rfl, rfl, B2.ob, rfl, ?_⟩
            exact ⟨_, _, _, i + 1, _, x, n, rfl, B2.put B2.hi B.x0 B.x1, t2.trans But.upd⟩
          · refine ⟨.ref b, rfl, b, _, 3, _, rfl, rfl, SqL.of B2.ob, (atI_nat (j := 3) rfl), _, _, rfl, rfl, mul_right (by decide +kernel), _, rfl, .inl ⟨_, rfl, _, _, rfl, rfl, (by show (0 : Int) < _; decide), _, _, rfl, rfl, mul_right (by decide +kernel), _, _, rfl, rfl, _, _, rfl, rfl, .inl ⟨_, rfl, _, _, rfl, rfl, (by show (0 : Int) < _; decide), ?_⟩⟩⟩
            refine ⟨.ref b, rfl, b, _, 3, 3, rfl, rfl, B2.ob, rfl, ?_⟩
            exact ⟨_, _, _, i + 1, g, _, n, rfl, B2.put B2.hi (mod_lo (by decide)) (Int.lt_trans (mod_hi (by decide)) (by decide)), t2.trans But.upd⟩
        · exact ⟨_, _, _, i, g, x, n, rfl, B, But.refl⟩
      · exact ⟨_, _, _, i, g, x, n, rfl, B, But.refl⟩
    · rintro σ' H' ⟨v2, v3, v4, i', g', x', n', rfl, B', t'⟩
      refine ⟨.ref b, rfl, b, _, 2, _, rfl, rfl, SqL.of B'.ob, (atI_nat (j := 2) rfl), _, _, rfl, rfl, _, rfl, ?_⟩
      have d1 : CDivW g' m := wide_div m0 (b := 130) (by omega) (by decide) (by decide)
      refine ite2 (fun _ => ?_) (fun _ => ?_)
      · refine ⟨.ref b, rfl, b, _, 2, _, rfl, rfl, SqL.of B'.ob, (atI_nat (j := 2) rfl), .inl ⟨_, rfl, _, rfl, _, _, rfl, rfl, m0, ?_⟩⟩
        refine ⟨.ref b, rfl, b, _, 2, _, rfl, rfl, SqL.of B'.ob, (atI_nat (j := 2) rfl), _, rfl, _, _, rfl, rfl, d1, .ref b, rfl, b, _, 2, 2, rfl, rfl, B'.ob, rfl, ?_⟩
        exact ⟨_, rfl, q _ _ (mod_lo m0) (mod_hi m0) ⟨i', g' / m, x', n', B'.put B'.hi B'.x0 B'.x1⟩ (t'.trans But.upd)⟩
      · refine ⟨.ref b, rfl, b, _, 4, _, rfl, rfl, SqL.of B'.ob, (atI_nat (j := 4) rfl), _, _, rfl, rfl, .ref b, rfl, b, _, 4, 4, rfl, rfl, B'.ob, rfl, ?_⟩
        have B3 : BagIs K (upd H' b (.lst [.ref c, .int i', .int g', .int x', .int (n' + 1)])) b c ns i' g' x' (n' + 1) := B'.put B'.hi B'.x0 B'.x1
        have hx : IntMulOk x' x' := IntMulOk.of_left (intBits_le_64 (by have := B'.x0; omega) (by have := B'.x1; omega))
        refine ⟨.ref b, rfl, b, _, 3, _, rfl, rfl, SqL.of B3.ob, (atI_nat (j := 3) rfl), .ref b, rfl, b, _, 3, _, rfl, rfl, SqL.of B3.ob, (atI_nat (j := 3) rfl), _, _, rfl, rfl, hx, .ref b, rfl, b, _, 4, _, rfl, rfl, SqL.of B3.ob, (atI_nat (j := 4) rfl), _, _, rfl, rfl, mul_right (by decide +kernel), _, _, rfl, rfl, .inl ⟨_, rfl, _, _, rfl, rfl, (by show (0 : Int) < _; decide), ?_⟩⟩
        refine ⟨_, rfl, _, _, rfl, rfl, mul_right (by decide +kernel), .ref b, rfl, b, _, 3, _, rfl, rfl, SqL.of B3.ob, (atI_nat (j := 3) rfl), _, _, rfl, rfl, mul_right (by decide +kernel), _, _, rfl, rfl, _, _, rfl, rfl, .inl ⟨_, rfl, _, _, rfl, rfl, (by show (0 : Int) < _; decide), .ref b, rfl, b, _, 3, 3, rfl, rfl, B3.ob, rfl, ?_⟩⟩
        obtain ⟨y, hy, y0, y1⟩ : ∃ y : Int, y = ((x' * x' + (n' + 1) * 7919) % 2147483587 * 30011 + x' * 70001 + 60013) % 2147483629 ∧ 0 ≤ y ∧ y < 4294967296 := ⟨_, rfl, mod_lo (by decide), Int.lt_trans (mod_hi (by decide)) (by decide)⟩
        have B4 : BagIs K (upd (upd H' b (.lst [.ref c, .int i', .int g', .int x', .int (n' + 1)])) b (.lst [.ref c, .int i', .int g', .int (((x' * x' + (n' + 1) * 7919) % 2147483587 * 30011 + x' * 70001 + 60013) % 2147483629), .int (n' + 1)])) b c ns i' g' (((x' * x' + (n' + 1) * 7919) % 2147483587 * 30011 + x' * 70001 + 60013) % 2147483629) (n' + 1) := B3.put B3.hi (hy ▸ y0) (hy ▸ y1)
        refine ⟨.ref b, rfl, b, _, 3, _, rfl, rfl, SqL.of B4.ob, (atI_nat (j := 3) rfl), _, _, rfl, rfl, wide_div (b := 10) (by decide) (by decide) (by decide) (by decide), .inl ⟨_, rfl, _, rfl, _, _, rfl, rfl, m0, ?_⟩⟩
        exact q _ _ (mod_lo m0) (mod_hi m0) ⟨i', g', _, n' + 1, B4⟩ ((t'.trans But.upd).trans But.upd)
theorem ok_pull {f : Addr} {fd : FuncData} {k : Nat} (F : Fun K "_law_pull" "_law_pull" sLawPull f fd) (b_int : mg "int" = none) (b_len : mg "len" = none) (b_abs : mg "abs" = none) : FnOk P w K mg base CX0 (k + 1) f fd ["bag", "many"] (spDraw K) :=
  (ok_pullC F b_int b_len b_abs).imp fun vs H Q E ⟨b, m, e, ⟨c, ns, B⟩, m0, m1, q⟩ => ⟨b, m, c, ns, e, B, m0, m1, fun r H' r0 r1 B' t => q r H' r0 r1 B'.at t⟩
end
end My

set_option Elab.async false
set_option linter.all false
set_option maxRecDepth 100000
namespace My
open PySem PySem.Spec PyProof.Rows L2
abbrev sLawOf : Stmt := topS 30
theorem scLawOf : FnScope ["bag", "some"] ["bag", "some"] (defScope sLawOf) := ⟨rfl, rfl, rfl, by decide +kernel, rfl, by decide +kernel, by decide +kernel⟩
abbrev sLawLike : Stmt := topS 31
theorem scLawLike : FnScope ["found", "due", "a", "b"] ["found", "due"] (defScope sLawLike) := ⟨rfl, rfl, rfl, by decide +kernel, rfl, by decide +kernel, by decide +kernel⟩
/-- things are a list of whole numbers -/
def spOf (K : PySem.W.Frag) : Sp := fun vs H Q _ => ∃ (b a : Addr) (xs : List V), vs = [.ref b, .ref a] ∧ BagAt K H b ∧ a ≠ b ∧ SqL K H a xs ∧ 0 < xs.length ∧ xs.length < 1000 ∧ ∀ v H', v ∈ xs → BagAt K H' b → But b H H' → Q v H'
/-! ### data that are alike -/
def flat0 : V → Prop
  | .non => True
  | .bl _ => True
  | .int _ => True
  | .str _ => True
  | _ => False
def Lk (K : PySem.W.Frag) (H : Hp) : Nat → V → V → Prop
  | 0, v, w => v = w ∧ flat0 v
  | n + 1, v, w => (v = w ∧ flat0 v) ∨ ∃ a b xs ys, v = .ref a ∧ w = .ref b ∧ ((SqL K H a xs ∧ SqL K H b ys) ∨ (SqT K H a xs ∧ SqT K H b ys)) ∧ xs.length = ys.length ∧ xs.length < 1000 ∧ ∀ (i : Nat) x y, xs[i]? = some x → ys[i]? = some y → Lk K H n x y
theorem seqT_same {K : PySem.W.Frag} {H H' : Hp} {p : Addr} {xs : List V} (h : Same H H') (s : SqT K H p xs) : SqT K H' p xs := by
  rcases s with (s | ⟨o, s⟩) | s
  · exact .inl (.inl (h _ _ s))
  · exact .inl (.inr ⟨o, h _ _ s⟩)
  · exact .inr s
theorem Lk.same {K : PySem.W.Frag} {H H' : Hp} (s : Same H H') : ∀ {n : Nat} {v w : V}, Lk K H n v w → Lk K H' n v w
  | 0, _, _, h => h
  | n + 1, _, _, h => by
    rcases h with h | ⟨a, b, xs, ys, e1, e2, hs, hl, hb, hi⟩
    · exact .inl h
    · refine .inr ⟨a, b, xs, ys, e1, e2, ?_, hl, hb, fun i x y p q => (hi i x y p q).same s⟩
      rcases hs with ⟨p, q⟩ | ⟨p, q⟩
      · exact .inl ⟨s.seq p, s.seq q⟩
      · exact .inr ⟨seqT_same s p, seqT_same s q⟩
theorem Lk.flat {K : PySem.W.Frag} {H : Hp} {n : Nat} {v w : V} (e : v = w) (f : flat0 v) : Lk K H n v w := by
  cases n with
  | zero => exact ⟨e, f⟩
  | succ n => exact .inl ⟨e, f⟩
def spLike (K : PySem.W.Frag) (n : Nat) : Sp := fun vs H Q _ => ∃ v w, vs = [v, w] ∧ Lk K H n v w ∧ ∀ H', Same H H' → Q (.bl true) H'
theorem ty_list {K : PySem.W.Frag} {H : Hp} {a : Addr} {xs : List V} (h : SqL K H a xs) : TyX K H (.ref a) (.type "list") := by
  rcases h with (h | ⟨o, h⟩) | ⟨o, its, n, h, c, _⟩
  · exact .base (.lst h)
  · exact .base (.frz h)
  · exact .kList h c
theorem ty_tup {K : PySem.W.Frag} {H : Hp} {a : Addr} {xs : List V} (h : SqT K H a xs) : TyX K H (.ref a) (.type "tuple") := by
  rcases h with (h | ⟨o, h⟩) | ⟨o, its, n, h, c, _⟩
  · exact .base (.tup h)
  · exact .fTuple h
  · exact .kTuple h c
/-- the type of a flat value -/
def tyN : V → String
  | .non => "NoneType"
  | .bl _ => "bool"
  | .int _ => "int"
  | .str _ => "str"
  | _ => ""
theorem ty_flat {K : PySem.W.Frag} {H : Hp} {v : V} (h : flat0 v) : TyX K H v (.type (tyN v)) := by
  cases v with
  | non => exact .base .non
  | bl b => exact .base (.bl b)
  | int i => exact .base (.int i)
  | str x => exact .base (.str x)
  | _ => exact h.elim
theorem cls2 {a b : String} : Paired ClsV [.ty a, .ty b] [.type a, .type b] := .cons (.ty a) (.cons (.ty b) .nil)
section
variable {P : Program} {w : World} {K : PySem.W.Frag} {mg : Str → Option Value} {base : Heap}
theorem kit_ll : PySem.W.kitAny K (.type "list") [.type "list", .type "tuple"] = some true := by rfl
theorem kit_tl : PySem.W.kitAny K (.type "tuple") [.type "list", .type "tuple"] = some true := by rfl
theorem kit_flat {v : V} (h : flat0 v) : PySem.W.kitAny K (.type (tyN v)) [.type "list", .type "tuple"] = some false := by
  cases v <;> first | rfl | exact h.elim
theorem k1_ll : PySem.W.kitOne K (.type "list") (.type "list") = some true := by rfl
theorem k1_lt : PySem.W.kitOne K (.type "list") (.type "tuple") = some false := by rfl
theorem k1_tl : PySem.W.kitOne K (.type "tuple") (.type "list") = some false := by rfl
theorem k1_tt : PySem.W.kitOne K (.type "tuple") (.type "tuple") = some true := by rfl
theorem k1_flat {v : V} (h : flat0 v) (c : String) (hc : c = "bool" ∨ c = "str" ∨ c = "int") : ∃ b, PySem.W.kitOne K (.type (tyN v)) (.type c) = some b := by
  cases v <;> first | exact h.elim | (rcases hc with rfl | rfl | rfl <;> exact ⟨_, rfl⟩)
theorem pe_ty {X : Cx} (T : String) {x : Str} {pos : Pos} (hg : Gl X x) (hm : X.mg x = none) (hv : bootBuiltins x = some (.type T)) (hn : x ≠ "__name__" := by decide) (hd : (x == ("__debug__" : Str)) = false := by decide) : PE X (.Name x pos) (tC (.ty T)) := pe_bltn hg hm hv rfl hn hd
theorem walk_zipT {a b : Addr} {xs ys : List V} {n : Nat} (hn : n = min xs.length ys.length) : Walk (RZ.ItzT K a b) n (fun H => SqT K H a xs ∧ SqT K H b ys) (YPair (fun i => xs[i]?) (fun i => ys[i]?)) := by
  subst hn
  refine ⟨fun i _ hi q => ?_, fun _ q => ⟨xs, ys, q.1, q.2, by omega⟩, fun i H v H' _ q y => ?_⟩
  · have h1 : i < xs.length := by omega
    have h2 : i < ys.length := by omega
    exact ⟨xs, ys, xs[i], ys[i], q.1, q.2, by simp [h1], by simp [h2]⟩
  · obtain ⟨T, x, z, h1, h2, h3, h4, h5⟩ := y
    exact ⟨T, x, z, h1, h2, h3, h4 xs q.1, h5 ys q.2⟩
theorem ok_of {f fD : Addr} {fd fdD : FuncData} {k : Nat} (F : Fun K "_law_of" "_law_of" sLawOf f fd) (D : Cal P w K mg base "_law_pull" (k + 1) ["bag", "many"] (spDraw K) fD fdD) (b_len : mg "len" = none) : FnOk P w K mg base CX0 (k + 2) f fd ["bag", "some"] (spOf K) := by
  refine F.ok scLawOf (fun vs H Q E h => ?_) (fun cdv A outer s H vs Q E hr h => ?_)
  · obtain ⟨b, a, xs, rfl, _⟩ := h
    rfl
  · obtain ⟨b, a, xs, rfl, B, n, hs, h0, h1, q⟩ := h
    refine ⟨_, (pss_one (ps_ret (pe_ix ix_list (pv 1) (pe_call D.ok hr rfl D.g D.kp D.b .nil pass0 (pa_cons (pv 0) (pa_cons (pe_callB call_len rfl b_len (by decide +kernel) (pa_cons (pv 1) pa_nil)) pa_nil))) (fun _ _ => rfl)))), ?_⟩
    refine ⟨_, rfl, _, rfl, _, rfl, _, _, rfl, .inl ⟨_, hs, rfl⟩, b, _, rfl, B, by omega, by omega, fun r H' r0 r1 B' t => ?_⟩
    obtain ⟨j, rfl⟩ : ∃ j : Nat, r = (j : Int) := ⟨r.toNat, by omega⟩
    have hj : j < xs.length := by omega
    exact ⟨a, _, _, xs[j], rfl, rfl, t.seq n hs, atI_nat (List.getElem?_eq_getElem hj), q _ H' (List.getElem_mem hj) B' t⟩
theorem all_true : ∀ n : Nat, (List.replicate n true).all id = true := fun n => by
  induction n with
  | zero => rfl
  | succ n ih => rw [List.replicate_succ, List.all_cons, ih]; rfl
theorem FnOk.never {f : Addr} {fd : FuncData} {k : Nat} {ps : List Str} : FnOk P w K mg base CX0 k f fd ps (fun _ _ _ _ => False) := ⟨fun _ _ _ _ h => h.elim, fun _ _ _ _ _ _ _ _ _ _ _ _ _ h => h.elim⟩
def spLikeM (K : PySem.W.Frag) (M : Hp → V → V → Prop) : Sp := fun vs H Q _ => ∃ v w, vs = [v, w] ∧ ((v = w ∧ flat0 v) ∨ ∃ a b xs ys, v = .ref a ∧ w = .ref b ∧ ((SqL K H a xs ∧ SqL K H b ys) ∨ (SqT K H a xs ∧ SqT K H b ys)) ∧ xs.length = ys.length ∧ xs.length < 1000 ∧ ∀ (i : Nat) x y, xs[i]? = some x → ys[i]? = some y → M H x y) ∧ ∀ H', Same H H' → Q (.bl true) H'
theorem like_step {f : Addr} {fd : FuncData} {k : Nat} {R : Sp} {M : Hp → V → V → Prop} (F : Fun K "_law_like" "_law_like" sLawLike f fd) (g : mg "_law_like" = some (.ref f)) (b : Binds K fd ["found", "due"] [])
    (b_isinstance : mg "isinstance" = none) (b_list : mg "list" = none) (b_tuple : mg "tuple" = none) (b_bool : mg "bool" = none) (b_str : mg "str" = none) (b_int : mg "int" = none) (b_len : mg "len" = none) (b_all : mg "all" = none) (b_zip : mg "zip" = none)
    (G : FnOk P w K mg base CX0 k f fd ["found", "due"] R) (hM : ∀ v w H Q E, M H v w → (∀ H', Same H H' → Q (.bl true) H') → R [v, w] H Q E) (hS : ∀ H H' v w, Same H H' → M H v w → M H' v w) : FnOk P w K mg base CX0 (k + 1) f fd ["found", "due"] (spLikeM K M) := by
  refine F.ok scLawLike (fun vs H Q E h => ?_) (fun cdv A outer s H vs Q E hr h => ?_)
  · obtain ⟨v, w', rfl, _⟩ := h
    rfl
  · obtain ⟨v, w', rfl, L, q⟩ := h
    refine ⟨_, (pss_cons (ps_if (PW.pt (pw_or (pt_cmpR op_isN (pv 1) pe_non (nomark _)) (pw_or1 (pt_cmpR op_isN (pv 0) pe_non (nomark _))))) (pss_one (ps_ret (pe_and (pe_cmpR op_isN (pv 1) pe_non (nomark _)) (pe_one (pe_cmpR op_isN (pv 0) pe_non (nomark _)))))) pss_nil)
      (pss_cons (ps_if (pt_val (pe_callB call_isiT rfl b_isinstance (by decide +kernel) (pa_cons (pv 1) (pa_cons (pe_tup (pa_cons (pe_ty "list" rfl b_list (by decide +kernel)) (pa_cons (pe_ty "tuple" rfl b_tuple (by decide +kernel)) pa_nil))) pa_nil)))) (pss_cons (ps_if (PW.pt (pw_or (pt_cmpR op_ne (pe_callB call_isi rfl b_isinstance (by decide +kernel) (pa_cons (pv 0) (pa_cons (pe_ty "list" rfl b_list (by decide +kernel)) pa_nil))) (pe_callB call_isi rfl b_isinstance (by decide +kernel) (pa_cons (pv 1) (pa_cons (pe_ty "list" rfl b_list (by decide +kernel)) pa_nil))) (nomark _)) (pw_or1 (pt_cmpR op_ne (pe_callB call_isi rfl b_isinstance (by decide +kernel) (pa_cons (pv 0) (pa_cons (pe_ty "tuple" rfl b_tuple (by decide +kernel)) pa_nil))) (pe_callB call_isi rfl b_isinstance (by decide +kernel) (pa_cons (pv 1) (pa_cons (pe_ty "tuple" rfl b_tuple (by decide +kernel)) pa_nil))) (nomark _))))) (pss_one (ps_ret pe_bl)) pss_nil)
        (pss_one (ps_ret (pe_and (pe_cmpR op_eq (pe_callB call_len rfl b_len (by decide +kernel) (pa_cons (pv 0) pa_nil)) (pe_callB call_len rfl b_len (by decide +kernel) (pa_cons (pv 1) pa_nil)) (nomark _)) (pe_one (pe_callB (cr_all rfl) rfl b_all (by decide +kernel) (pa_cons (pe_lc (own := [("a", 2), ("b", 3)]) (g := gTup K 2 (gCons (gName 2) (gCons (gName 3) gNil))) (tt := tYes) rfl scLawLike.nd (RZ.pi_zipA rfl b_zip (pa_cons (pv 0) (pa_cons (pv 1) pa_nil))) (blkOk_by (own := [("a", 2), ("b", 3)]) (N := ["found", "due", "a", "b"]) (sc := defScope sLawLike) (by decide +kernel)) (fun _ _ _ _ _ => (pg_tup rfl (pgs_cons (pg_name (i := 2) scLawLike.nd rfl (.inl rfl) (.inr rfl)) (pgs_cons (pg_name (i := 3) scLawLike.nd rfl (.inl rfl) (.inr rfl)) pgs_nil)))) (fun _ _ _ _ _ => pts_nil) (fun _ _ _ _ _ => (pe_call G hr rfl g F.kp b .nil pass0 (pa_cons (pv 2) (pa_cons (pv 3) pa_nil))))) pa_nil))))))) pss_nil)
      (pss_cons (ps_if (PW.pt (pw_or (pt_cmpR op_ne (pe_callB call_isi rfl b_isinstance (by decide +kernel) (pa_cons (pv 1) (pa_cons (pe_ty "bool" rfl b_bool (by decide +kernel)) pa_nil))) (pe_callB call_isi rfl b_isinstance (by decide +kernel) (pa_cons (pv 0) (pa_cons (pe_ty "bool" rfl b_bool (by decide +kernel)) pa_nil))) (nomark _)) (pw_or1 (pt_cmpR op_ne (pe_callB call_isi rfl b_isinstance (by decide +kernel) (pa_cons (pv 1) (pa_cons (pe_ty "int" rfl b_int (by decide +kernel)) pa_nil))) (pe_callB call_isi rfl b_isinstance (by decide +kernel) (pa_cons (pv 0) (pa_cons (pe_ty "int" rfl b_int (by decide +kernel)) pa_nil))) (nomark _))))) (pss_one (ps_ret pe_bl)) pss_nil)
      (pss_one (ps_ret (pe_and (pe_cmpR op_eq (pe_callB call_isi rfl b_isinstance (by decide +kernel) (pa_cons (pv 0) (pa_cons (pe_ty "str" rfl b_str (by decide +kernel)) pa_nil))) (pe_callB call_isi rfl b_isinstance (by decide +kernel) (pa_cons (pv 1) (pa_cons (pe_ty "str" rfl b_str (by decide +kernel)) pa_nil))) (nomark _)) (pe_one (pe_cmpR op_eq (pv 0) (pv 1) (nomark _))))))))), ?_⟩
    rcases L with ⟨rfl, fl⟩ | ⟨a, c, xs, ys, rfl, rfl, hs, hl, hb, hi⟩
    · have hf : flat0 v := fl
      refine ⟨v, rfl, rfl, _, rfl, ite2 (fun e => iteT ?_) (fun e => ⟨v, rfl, rfl, _, rfl, ite2 (fun e' => absurd e' e) (fun _ => ?_)⟩)⟩
      · refine ⟨v, rfl, rfl, _, rfl, ?_⟩
        rw [e]
        refine iteT ⟨v, rfl, rfl, ?_⟩
        rw [e]
        exact q _ (Same.refl H)
      · refine ⟨_, rfl, (by show 2 ≤ sizeLine; decide), fun p np => ⟨_, p, _, _, _, _, rfl, upd_same, cls2, ty_flat hf, kit_flat hf, _, rfl, iteF ?_⟩⟩
        have s1 := same_upd (o := .tup [.ty "list", .ty "tuple"]) np
        obtain ⟨k1, e1⟩ := k1_flat (K := K) hf "bool" (.inl rfl)
        obtain ⟨k2, e2⟩ := k1_flat (K := K) hf "str" (.inr (.inl rfl))
        obtain ⟨k3, e3⟩ := k1_flat (K := K) hf "int" (.inr (.inr rfl))
        refine ⟨_, rfl, _, _, _, _, _, rfl, .ty _, ty_flat hf, e1, _, rfl, _, _, _, _, _, rfl, .ty _, ty_flat hf, e1, rfl, _, rfl, ?_⟩
        rw [decide_eq_true rfl]
        refine iteF ⟨_, rfl, _, _, _, _, _, rfl, .ty _, ty_flat hf, e3, _, rfl, _, _, _, _, _, rfl, .ty _, ty_flat hf, e3, rfl, _, rfl, ?_⟩
        rw [decide_eq_true rfl]
        refine iteF ⟨_, rfl, _, _, _, _, _, rfl, .ty _, ty_flat hf, e2, _, rfl, _, _, _, _, _, rfl, .ty _, ty_flat hf, e2, rfl, _, rfl, ?_⟩
        rw [decide_eq_true rfl]
        refine iteT ⟨_, rfl, _, rfl, ?_, ?_⟩
        · cases v <;> first | rfl | exact hf.elim
        · rw [decide_eq_true rfl]
          exact q _ s1
    · -- lists or tuples
      have hr1 : ∀ (i : Nat) x y, xs[i]? = some x → ys[i]? = some y → M H x y := hi
      obtain ⟨T, kt, k1, k2, tya, tyc, hlen, hlen'⟩ : ∃ T, PySem.W.kitAny K (.type T) [.type "list", .type "tuple"] = some true ∧ (∃ k1, PySem.W.kitOne K (.type T) (.type "list") = some k1) ∧ (∃ k2, PySem.W.kitOne K (.type T) (.type "tuple") = some k2) ∧ (∀ H', Same H H' → TyX K H' (.ref a) (.type T)) ∧ (∀ H', Same H H' → TyX K H' (.ref c) (.type T)) ∧ (∀ H', Same H H' → LenV K (.ref a) H' xs.length) ∧ (∀ H', Same H H' → LenV K (.ref c) H' ys.length) := by
        rcases hs with ⟨p, q⟩ | ⟨p, q⟩
        · exact ⟨"list", kit_ll, ⟨_, k1_ll⟩, ⟨_, k1_lt⟩, fun _ s => ty_list (s.seq p), fun _ s => ty_list (s.seq q), fun _ s => .inl ⟨_, s.seq p, rfl⟩, fun _ s => .inl ⟨_, s.seq q, rfl⟩⟩
        · exact ⟨"tuple", kit_tl, ⟨_, k1_tl⟩, ⟨_, k1_tt⟩, fun _ s => ty_tup (seqT_same s p), fun _ s => ty_tup (seqT_same s q), fun _ s => .inr ⟨_, seqT_same s p, rfl⟩, fun _ s => .inr ⟨_, seqT_same s q, rfl⟩⟩
      obtain ⟨k1, e1⟩ := k1
      obtain ⟨k2, e2⟩ := k2
      refine ⟨_, rfl, rfl, _, rfl, ite2 (fun e => absurd (of_decide_eq_true e) (fun z => by cases z)) (fun _ => ⟨_, rfl, rfl, _, rfl, ite2 (fun e => absurd (of_decide_eq_true e) (fun z => by cases z)) (fun _ => ?_)⟩)⟩
      refine ⟨_, rfl, (by show 2 ≤ sizeLine; decide), fun p0 np => ⟨_, p0, _, _, _, _, rfl, upd_same, cls2, tyc _ (same_upd np), kt, _, rfl, iteT ?_⟩⟩
      have s1 : Same H (upd H p0 (.tup [.ty "list", .ty "tuple"])) := same_upd np
      refine ⟨_, rfl, _, _, _, _, _, rfl, .ty _, tya _ s1, e1, _, rfl, _, _, _, _, _, rfl, .ty _, tyc _ s1, e1, rfl, _, rfl, ?_⟩
      rw [decide_eq_true rfl]
      refine iteF ⟨_, rfl, _, _, _, _, _, rfl, .ty _, tya _ s1, e2, _, rfl, _, _, _, _, _, rfl, .ty _, tyc _ s1, e2, rfl, _, rfl, ?_⟩
      rw [decide_eq_true rfl]
      refine iteF ⟨_, rfl, _, _, rfl, hlen _ s1, _, rfl, _, _, rfl, hlen' _ s1, rfl, _, rfl, ?_⟩
      rw [hl, decide_eq_true rfl]
      refine iteT ⟨_, rfl, _, rfl, a, c, xs, ys, rfl, ?_⟩
      rcases hs with ⟨p, q'⟩ | ⟨p, q'⟩
      ·
        refine .inl ⟨Same.seq s1 p, Same.seq s1 q', fun D nD => lc_it (walk_zip (K := K) (a := a) (b := c) (by omega : xs.length = min xs.length ys.length)) (fun i H2 => Same (upd H p0 (.tup [.ty "list", .ty "tuple"])) H2 ∧ H2 D = some (.lst ((List.replicate i true).map V.bl))) ⟨same_upd nD, upd_same⟩ (fun i H2 _ h => ⟨Same.seq (s1.trans h.1) p, Same.seq (s1.trans h.1) q'⟩) ?_ ?_⟩
        · rintro i z H2 H3 hlt ⟨s2, hD⟩ ⟨T, x, y, rfl, nT, rfl, hx, hy⟩
          have nTD : D ≠ T := ne_of_none hD nT
          refine ⟨T, [x, y], rfl, SqT.of upd_same, rfl, x, [y], rfl, y, [], rfl, rfl, rfl, ?_⟩
          unfold tYes
          refine iteT ?_
          refine ⟨x, rfl, y, rfl, hM x y _ _ _ (hS _ _ _ _ ((s1.trans s2).trans (same_upd nT)) (hr1 i x y hx hy)) fun H4 s4 => ?_⟩
          have hD4 : H4 D = some (.lst ((List.replicate i true).map V.bl)) := s4 _ _ (by rw [upd_ne nTD]; exact hD)
          refine ⟨_, hD4, ?_, ?_, ?_⟩
          · rw [List.length_map, List.length_replicate]
            exact small1000 (by omega)
          · intro p' o' h'
            have nq : p' ≠ D := ne_of_none h' nD
            rw [upd_ne nq]
            exact s4 _ _ (same_upd nT _ _ (s2 _ _ h'))
          · rw [upd_same, List.replicate_succ', List.map_append]
            rfl
        · rintro H2 ⟨s2, hD⟩
          refine ⟨D, _, rfl, SqL.of hD, ?_⟩
          rw [all_true]
          exact q _ (s1.trans s2)
      ·
        refine .inr ⟨seqT_same s1 p, seqT_same s1 q', fun D nD => lc_it (walk_zipT (K := K) (a := a) (b := c) (by omega : xs.length = min xs.length ys.length)) (fun i H2 => Same (upd H p0 (.tup [.ty "list", .ty "tuple"])) H2 ∧ H2 D = some (.lst ((List.replicate i true).map V.bl))) ⟨same_upd nD, upd_same⟩ (fun i H2 _ h => ⟨seqT_same (s1.trans h.1) p, seqT_same (s1.trans h.1) q'⟩) ?_ ?_⟩
        · rintro i z H2 H3 hlt ⟨s2, hD⟩ ⟨T, x, y, rfl, nT, rfl, hx, hy⟩
          have nTD : D ≠ T := ne_of_none hD nT
          refine ⟨T, [x, y], rfl, SqT.of upd_same, rfl, x, [y], rfl, y, [], rfl, rfl, rfl, ?_⟩
          unfold tYes
          refine iteT ?_
          refine ⟨x, rfl, y, rfl, hM x y _ _ _ (hS _ _ _ _ ((s1.trans s2).trans (same_upd nT)) (hr1 i x y hx hy)) fun H4 s4 => ?_⟩
          have hD4 : H4 D = some (.lst ((List.replicate i true).map V.bl)) := s4 _ _ (by rw [upd_ne nTD]; exact hD)
          refine ⟨_, hD4, ?_, ?_, ?_⟩
          · rw [List.length_map, List.length_replicate]
            exact small1000 (by omega)
          · intro p' o' h'
            have nq : p' ≠ D := ne_of_none h' nD
            rw [upd_ne nq]
            exact s4 _ _ (same_upd nT _ _ (s2 _ _ h'))
          · rw [upd_same, List.replicate_succ', List.map_append]
            rfl
        · rintro H2 ⟨s2, hD⟩
          refine ⟨D, _, rfl, SqL.of hD, ?_⟩
          rw [all_true]
          exact q _ (s1.trans s2)

theorem ok_like {f : Addr} {fd : FuncData} (F : Fun K "_law_like" "_law_like" sLawLike f fd) (g : mg "_law_like" = some (.ref f)) (b : Binds K fd ["found", "due"] [])
    (b_isinstance : mg "isinstance" = none) (b_list : mg "list" = none) (b_tuple : mg "tuple" = none) (b_bool : mg "bool" = none) (b_str : mg "str" = none) (b_int : mg "int" = none) (b_len : mg "len" = none) (b_all : mg "all" = none) (b_zip : mg "zip" = none) :
    ∀ n : Nat, FnOk P w K mg base CX0 (n + 1) f fd ["found", "due"] (spLike K n) := by
  intro n
  induction n with
  | zero =>
    exact (like_step (M := fun _ _ _ => False) (R := fun _ _ _ _ => False) F g b b_isinstance b_list b_tuple b_bool b_str b_int b_len b_all b_zip FnOk.never (fun _ _ _ _ _ h _ => h) (fun _ _ _ _ _ h => h)).imp
      fun vs H Q E ⟨v, w', e, L, q⟩ => ⟨v, w', e, .inl L, q⟩
  | succ n ih =>
    exact (like_step (M := fun H v w => Lk K H n v w) F g b b_isinstance b_list b_tuple b_bool b_str b_int b_len b_all b_zip ih (fun v w H Q E h q => ⟨v, w, rfl, h, q⟩) (fun _ _ _ _ s h => h.same s)).imp
      fun vs H Q E ⟨v, w', e, L, q⟩ => ⟨v, w', e, L, q⟩
end
end My

set_option Elab.async false
namespace My
/-- x / y is t / b in lowest terms; 0 / 1 where b is 0 -/
structure WR (t b x y : Int) : Prop where
  pos : 1 ≤ y
  low : Nat.gcd x.natAbs y.natAbs = 1
  eq : b ≠ 0 → x * b = t * y
  z : b = 0 → x = 0 ∧ y = 1
  lx : x.natAbs ≤ t.natAbs
  ly : y.natAbs ≤ b.natAbs + 1
theorem low_uniq {x y x' y' : Int} (p : 1 ≤ y) (p' : 1 ≤ y') (l : Nat.gcd x.natAbs y.natAbs = 1) (l' : Nat.gcd x'.natAbs y'.natAbs = 1) (h : x * y' = x' * y) : x = x' ∧ y = y' := by
  have h1 : x.natAbs * y'.natAbs = x'.natAbs * y.natAbs := by rw [← Int.natAbs_mul, ← Int.natAbs_mul, h]
  have d1 : y.natAbs ∣ y'.natAbs := by
    have : y.natAbs ∣ x.natAbs * y'.natAbs := by rw [h1]; exact Nat.dvd_mul_left _ _
    exact Nat.Coprime.dvd_of_dvd_mul_left (Nat.Coprime.symm l) this
  have d2 : y'.natAbs ∣ y.natAbs := by
    have : y'.natAbs ∣ x'.natAbs * y.natAbs := by rw [← h1]; exact Nat.dvd_mul_left _ _
    exact Nat.Coprime.dvd_of_dvd_mul_left (Nat.Coprime.symm l') this
  have e : y.natAbs = y'.natAbs := Nat.dvd_antisymm d1 d2
  have e2 : y = y' := by omega
  subst e2
  exact ⟨Int.eq_of_mul_eq_mul_right (by omega) h, rfl⟩
theorem WR.uniq {t b t' b' x y x' y' : Int} (W : WR t b x y) (W' : WR t' b' x' y') (hb : b ≠ 0) (hb' : b' ≠ 0) (h : t * b' = t' * b) : x = x' ∧ y = y' := by
  refine low_uniq W.pos W'.pos W.low W'.low ?_
  have e1 := W.eq hb
  have e2 := W'.eq hb'
  have : (x * y') * (b * b') = (x' * y) * (b * b') := by
    have a1 : (x * y') * (b * b') = (x * b) * (y' * b') := by grind
    have a2 : (x' * y) * (b * b') = (x' * b') * (y * b) := by grind
    rw [a1, a2, e1, e2]
    grind
  exact Int.eq_of_mul_eq_mul_right (Int.mul_ne_zero hb hb') this
/-- a pair in lowest terms is its own worth -/
theorem WR.self {x y : Int} (p : 1 ≤ y) (l : Nat.gcd x.natAbs y.natAbs = 1) : WR x y x y := ⟨p, l, fun _ => rfl, fun h => by omega, Nat.le_refl _, Nat.le_succ _⟩
theorem wr_zero {t : Int} : WR t 0 0 1 := ⟨by decide, by decide, fun h => absurd rfl h, fun _ => ⟨rfl, rfl⟩, Nat.zero_le _, by decide⟩
theorem wr_make {t b g : Int} (hb : b ≠ 0) (hg : g = ((Nat.gcd t.natAbs b.natAbs : Nat) : Int)) : 0 < g ∧ g.natAbs ≤ b.natAbs ∧ (b < 0 → WR t b (t.fdiv (-g)) (b.fdiv (-g))) ∧ (¬ b < 0 → WR t b (t.fdiv g) (b.fdiv g)) := by
  have hbn : 0 < b.natAbs := by omega
  have hgn : 0 < Nat.gcd t.natAbs b.natAbs := Nat.gcd_pos_of_pos_right _ hbn
  have hg0 : 0 < g := by omega
  have hgl : Nat.gcd t.natAbs b.natAbs ≤ b.natAbs := Nat.le_of_dvd hbn (Nat.gcd_dvd_right _ _)
  have dt : g ∣ t := by rw [hg]; exact Int.ofNat_dvd_left.mpr (Nat.gcd_dvd_left _ _)
  have db : g ∣ b := by rw [hg]; exact Int.ofNat_dvd_left.mpr (Nat.gcd_dvd_right _ _)
  obtain ⟨t', ht⟩ := dt
  obtain ⟨b', hb'⟩ := db
  have hgn2 : g.natAbs = Nat.gcd t.natAbs b.natAbs := by omega
  have co : Nat.gcd t'.natAbs b'.natAbs = 1 := by
    have e : Nat.gcd t.natAbs b.natAbs = g.natAbs * Nat.gcd t'.natAbs b'.natAbs := by
      rw [ht, hb', Int.natAbs_mul, Int.natAbs_mul, Nat.gcd_mul_left]
    rw [hgn2] at e
    exact Nat.eq_of_mul_eq_mul_left hgn (by omega)
  have lt : t'.natAbs ≤ t.natAbs := by rw [ht, Int.natAbs_mul]; exact Nat.le_mul_of_pos_left _ (by omega)
  have lb : b'.natAbs ≤ b.natAbs := by rw [hb', Int.natAbs_mul]; exact Nat.le_mul_of_pos_left _ (by omega)
  have hb0 : b' ≠ 0 := by rintro rfl; rw [Int.mul_zero] at hb'; exact hb hb'
  refine ⟨hg0, by omega, fun hn => ?_, fun hn => ?_⟩
  · have e1 : t.fdiv (-g) = -t' := by
      rw [ht, show g * t' = (-g) * (-t') by grind]
      exact Int.mul_fdiv_cancel_left _ (by omega)
    have e2 : b.fdiv (-g) = -b' := by
      rw [hb', show g * b' = (-g) * (-b') by grind]
      exact Int.mul_fdiv_cancel_left _ (by omega)
    have hb1 : b' < 0 := by
      rcases Int.lt_trichotomy b' 0 with h | h | h
      · exact h
      · exact absurd h hb0
      · have := Int.mul_pos hg0 h
        omega
    rw [e1, e2]
    exact ⟨by omega, by rw [Int.natAbs_neg, Int.natAbs_neg]; exact co, fun _ => by rw [hb', ht]; grind, fun h => absurd h hb, by rw [Int.natAbs_neg]; exact lt, by rw [Int.natAbs_neg]; omega⟩
  · have e1 : t.fdiv g = t' := by
      rw [ht]
      exact Int.mul_fdiv_cancel_left _ (by omega)
    have e2 : b.fdiv g = b' := by
      rw [hb']
      exact Int.mul_fdiv_cancel_left _ (by omega)
    have hb1 : 0 < b' := by
      rcases Int.lt_trichotomy b' 0 with h | h | h
      · have := Int.mul_neg_of_pos_of_neg hg0 h
        omega
      · exact absurd h hb0
      · exact h
    rw [e1, e2]
    exact ⟨by omega, co, fun _ => by rw [hb', ht]; grind, fun h => absurd h hb, lt, by omega⟩
/-- a sum less one part, a difference and one part -/
theorem wr_back {x0 x1 y0 y1 p0 p1 m0 m1 : Int} (hx : 1 ≤ x1) (hy : 1 ≤ y1) (lx : Nat.gcd x0.natAbs x1.natAbs = 1) (P : WR (x0 * y1 + y0 * x1) (x1 * y1) p0 p1) (M : WR (p0 * y1 - y0 * p1) (p1 * y1) m0 m1) : m0 = x0 ∧ m1 = x1 := by
  have hxy : x1 * y1 ≠ 0 := Int.mul_ne_zero (by omega) (by omega)
  have hp := P.pos
  have e := P.eq hxy
  refine M.uniq (WR.self hx lx) (Int.mul_ne_zero (by omega) (by omega)) (by omega) ?_
  have : ((p0 * y1 - y0 * p1) * x1) * y1 = (x0 * (p1 * y1)) * y1 := by grind
  exact Int.eq_of_mul_eq_mul_right (by omega) this
theorem wr_back' {x0 x1 y0 y1 p0 p1 m0 m1 : Int} (hx : 1 ≤ x1) (hy : 1 ≤ y1) (lx : Nat.gcd x0.natAbs x1.natAbs = 1) (P : WR (x0 * y1 - y0 * x1) (x1 * y1) p0 p1) (M : WR (p0 * y1 + y0 * p1) (p1 * y1) m0 m1) : m0 = x0 ∧ m1 = x1 := by
  have hxy : x1 * y1 ≠ 0 := Int.mul_ne_zero (by omega) (by omega)
  have hp := P.pos
  have e := P.eq hxy
  refine M.uniq (WR.self hx lx) (Int.mul_ne_zero (by omega) (by omega)) (by omega) ?_
  have : ((p0 * y1 + y0 * p1) * x1) * y1 = (x0 * (p1 * y1)) * y1 := by grind
  exact Int.eq_of_mul_eq_mul_right (by omega) this
theorem wr_back2 {x0 x1 y0 y1 p0 p1 m0 m1 : Int} (hx : 1 ≤ x1) (hy : 1 ≤ y1) (h0 : y0 ≠ 0) (lx : Nat.gcd x0.natAbs x1.natAbs = 1) (P : WR (x0 * y0) (x1 * y1) p0 p1) (M : WR (p0 * y1) (p1 * y0) m0 m1) : m0 = x0 ∧ m1 = x1 := by
  have hxy : x1 * y1 ≠ 0 := Int.mul_ne_zero (by omega) (by omega)
  have hp := P.pos
  have e := P.eq hxy
  refine M.uniq (WR.self hx lx) (Int.mul_ne_zero (by omega) h0) (by omega) ?_
  grind
theorem wr_back2' {x0 x1 y0 y1 p0 p1 m0 m1 : Int} (hx : 1 ≤ x1) (hy : 1 ≤ y1) (h0 : y0 ≠ 0) (lx : Nat.gcd x0.natAbs x1.natAbs = 1) (P : WR (x0 * y1) (x1 * y0) p0 p1) (M : WR (p0 * y0) (p1 * y1) m0 m1) : m0 = x0 ∧ m1 = x1 := by
  have hxy : x1 * y0 ≠ 0 := Int.mul_ne_zero (by omega) h0
  have hp := P.pos
  have e := P.eq hxy
  refine M.uniq (WR.self hx lx) (Int.mul_ne_zero (by omega) (by omega)) (by omega) ?_
  grind
end My

set_option Elab.async false
set_option linter.all false
set_option maxRecDepth 100000
namespace My
open PySem PySem.Spec PyProof.Rows L2 SX
open PySem.NumText (AllDigits digitsVal)
/-! ### digits -/
/-- the last k digits of n -/
def dk : Nat → Nat → List Nat
  | 0, _ => []
  | k + 1, n => dk k (n / 10) ++ [48 + n % 10]
theorem dk_len : ∀ k n, (dk k n).length = k
  | 0, _ => rfl
  | k + 1, n => by rw [dk, List.length_append, dk_len k]; rfl
theorem numL_dk : ∀ (k n : Nat), 10 ^ k ≤ n → TL.numL n = TL.numL (n / 10 ^ k) ++ dk k n
  | 0, n, _ => by rw [Nat.pow_zero, Nat.div_one, dk, List.append_nil]
  | k + 1, n, h => by
    have p : 0 < 10 ^ k := Nat.pow_pos (by decide)
    have h1 : 10 ^ k * 10 ≤ n := by rw [← Nat.pow_succ]; exact h
    have h10 : 10 ≤ n := Nat.le_trans (by omega) h1
    rw [TL.numL_step h10, numL_dk k (n / 10) (by rw [Nat.le_div_iff_mul_le (by decide)]; exact h1), dk, Nat.div_div_eq_div_mul, Nat.pow_succ, Nat.mul_comm 10, List.append_assoc]
theorem dk_mod : ∀ (k n : Nat), dk k n = dk k (n % 10 ^ k)
  | 0, n => rfl
  | k + 1, n => by
    have e1 : n % 10 ^ (k + 1) % 10 = n % 10 := by
      rw [Nat.pow_succ, Nat.mod_mul_left_mod]
    have e2 : n % 10 ^ (k + 1) / 10 = n / 10 % 10 ^ k := by
      rw [Nat.pow_succ, Nat.mul_comm, Nat.mod_mul_right_div_self]
    rw [dk, dk, e1, e2, dk_mod k (n / 10)]
theorem dk_pad : ∀ (k n : Nat), n < 10 ^ (k + 1) → dk (k + 1) n = List.replicate (k + 1 - (TL.numL n).length) 48 ++ TL.numL n := by
  intro k
  induction k with
  | zero =>
    intro n h
    have h' : n < 10 := h
    rw [TL.numL_lt h']
    show dk 0 (n / 10) ++ [48 + n % 10] = _
    rw [Nat.mod_eq_of_lt h']
    rfl
  | succ k ih =>
    intro n h
    by_cases h10 : n < 10
    · rw [dk, ih (n / 10) (by rw [Nat.div_eq_of_lt h10]; exact Nat.pow_pos (by decide)), Nat.div_eq_of_lt h10, TL.numL_lt h10, TL.numL_lt (by decide : 0 < 10), Nat.mod_eq_of_lt h10]
      show List.replicate k 48 ++ [48] ++ [48 + n] = List.replicate (k + 1) 48 ++ [48 + n]
      rw [← List.replicate_succ']
    · rw [dk, ih (n / 10) (by rw [Nat.div_lt_iff_lt_mul (by decide), ← Nat.pow_succ]; exact h), TL.numL_step (n := n) (by omega), List.length_append, List.append_assoc]
      have e : k + 1 - (TL.numL (n / 10)).length = k + 1 + 1 - ((TL.numL (n / 10)).length + [48 + n % 10].length) := by
        show _ = k + 1 + 1 - ((TL.numL (n / 10)).length + 1)
        omega
      rw [e]
/-- digits that write a number as Python does -/
structure Can (l : List Nat) : Prop where
  ne : l ≠ []
  dg : AllDigits l
  z : l.head? = some 48 → l = [48]
theorem digitsVal_snoc (l : List Nat) (c : Nat) : digitsVal (l ++ [c]) = digitsVal l * 10 + (c - 48) := by
  unfold digitsVal
  rw [List.foldl_append]
  rfl
theorem fold_lt : ∀ (l : List Nat) (a : Nat), AllDigits l → l.foldl (fun acc c => acc * 10 + (c - 48)) a < (a + 1) * 10 ^ l.length
  | [], a, _ => by show a < (a + 1) * 1; omega
  | c :: l, a, h => by
    have h2 := h.head
    have h1 := fold_lt l (a * 10 + (c - 48)) h.tail
    rw [List.foldl_cons, List.length_cons, Nat.pow_succ]
    refine Nat.lt_of_lt_of_le h1 ?_
    have e : (a + 1) * (10 ^ l.length * 10) = ((a + 1) * 10) * 10 ^ l.length := by
      rw [Nat.mul_comm (10 ^ l.length), Nat.mul_assoc]
    rw [e]
    exact Nat.mul_le_mul_right _ (by omega)
theorem val_lt {l : List Nat} (h : AllDigits l) : digitsVal l < 10 ^ l.length := by
  have := fold_lt l 0 h
  rw [Nat.zero_add, Nat.one_mul] at this
  exact this
theorem fold_ge : ∀ (l : List Nat) (a : Nat), a ≤ l.foldl (fun acc c => acc * 10 + (c - 48)) a
  | [], a => Nat.le_refl a
  | c :: l, a => by
    have h1 := fold_ge l (a * 10 + (c - 48))
    rw [List.foldl_cons]
    omega
theorem val_pos {l : List Nat} (h : AllDigits l) (h0 : l ≠ []) (h1 : l.head? ≠ some 48) : 0 < digitsVal l := by
  cases l with
  | nil => exact absurd rfl h0
  | cons c l =>
    have h2 := h.head
    have h3 : c ≠ 48 := fun e => h1 (by rw [e]; rfl)
    have h4 := fold_ge l (0 * 10 + (c - 48))
    show 0 < l.foldl (fun acc c => acc * 10 + (c - 48)) (0 * 10 + (c - 48))
    omega
theorem numL_val' : ∀ (k : Nat) (l : List Nat), l.length = k → Can l → TL.numL (digitsVal l) = l := by
  intro k
  induction k with
  | zero => exact fun l h C => absurd (List.length_eq_zero_iff.mp h) C.ne
  | succ k ih =>
    intro l hl C
    obtain ⟨p, c, rfl⟩ : ∃ p c, l = p ++ [c] := ⟨l.dropLast, l.getLast C.ne, (List.dropLast_concat_getLast C.ne).symm⟩
    have hc := C.dg c (by simp)
    rw [digitsVal_snoc]
    by_cases hp : p = []
    · subst hp
      show TL.numL (0 * 10 + (c - 48)) = [c]
      rw [TL.numL_lt (by omega)]
      have : 48 + (0 * 10 + (c - 48)) = c := by omega
      rw [this]
    · have hh : (p ++ [c]).head? = p.head? := by
        cases p with
        | nil => exact absurd rfl hp
        | cons a p => rfl
      have h1 : p.head? ≠ some 48 := fun e => by
        have := C.z (hh.trans e)
        have l2 := congrArg List.length this
        rw [List.length_append] at l2
        exact hp (List.length_eq_zero_iff.mp (by simpa using l2))
      have dp : AllDigits p := fun d hd => C.dg d (List.mem_append.mpr (.inl hd))
      have h2 := val_pos dp hp h1
      have e := ih p (by rw [List.length_append] at hl; exact Nat.succ.inj hl) ⟨hp, dp, fun e => absurd e h1⟩
      rw [TL.numL_step (by omega)]
      have e1 : (digitsVal p * 10 + (c - 48)) / 10 = digitsVal p := by omega
      have e2 : 48 + (digitsVal p * 10 + (c - 48)) % 10 = c := by omega
      rw [e1, e2, e]
theorem Can.num {l : List Nat} (C : Can l) : TL.numL (digitsVal l) = l := numL_val' _ l rfl C
theorem can_num (n : Nat) : Can (TL.numL n) := by
  refine ⟨TL.numL_ne n, TL.numL_digits n, ?_⟩
  induction n using Nat.strongRecOn with
  | _ n ih =>
    intro h
    by_cases h10 : n < 10
    · rw [TL.numL_lt h10] at h ⊢
      have : 48 + n = 48 := Option.some.inj h
      rw [this]
    · rw [TL.numL_step (by omega)] at h
      have hh : (TL.numL (n / 10) ++ [48 + n % 10]).head? = (TL.numL (n / 10)).head? := by
        cases e : TL.numL (n / 10) with
        | nil => exact absurd e (TL.numL_ne _)
        | cons a p => rfl
      have := ih (n / 10) (by omega) (hh.symm.trans h)
      have z := TL.numL_inj (this.trans (TL.numL_lt (by decide : 0 < 10)).symm)
      omega
theorem num_short {n : Nat} : (TL.numL n).length ≤ 200 ↔ n < 10 ^ 200 := by
  constructor
  · intro h
    have := val_lt (TL.numL_digits n)
    rw [TL.numL_val] at this
    exact Nat.lt_of_lt_of_le this (Nat.pow_le_pow_right (by decide) h)
  · exact fun h => TL.numL_len (by decide) h
/-! ### the text of a worth -/
def sgn (x : Int) : List Nat := if x < 0 then [45] else []
def ntx (x : Int) : List Nat := sgn x ++ TL.numL x.natAbs
def wtx (x y : Int) : List Nat := if y = 1 then ntx x else ntx x ++ 47 :: ntx y
theorem int_text (x : Int) : Str.ofString (toString x) = S (ntx x) := by
  by_cases h : x < 0
  · obtain ⟨n, rfl⟩ : ∃ n : Nat, x = Int.negSucc n := ⟨(-x - 1).toNat, by omega⟩
    unfold ntx sgn
    rw [if_pos h]
    have e : toString (Int.negSucc n) = "-" ++ toString (((n + 1 : Nat) : Int)) := rfl
    rw [e]
    refine TL.ext_tl ?_
    have h1 : TL.tl (Str.ofString ("-" ++ toString (((n + 1 : Nat) : Int)))) = [45] ++ TL.tl (Str.ofString (toString (((n + 1 : Nat) : Int)))) := by
      unfold TL.tl
      rw [Str.ofString_eq_toList, Str.ofString_eq_toList]
      simp
    rw [h1, TL.tl_num]
    rfl
  · obtain ⟨n, rfl⟩ := Int.eq_ofNat_of_zero_le (by omega : 0 ≤ x)
    unfold ntx sgn
    rw [if_neg h]
    exact num_S n
/-- l without a minus ahead -/
def un (l : List Nat) : List Nat := if l.head? = some 45 then l.tail else l
theorem un_ntx (x : Int) (r : List Nat) : un (ntx x ++ r) = TL.numL x.natAbs ++ r := by
  unfold ntx sgn un
  split
  · simp
  · have h : (([] ++ TL.numL x.natAbs) ++ r).head? ≠ some 45 := by
      rw [List.nil_append]
      cases e : TL.numL x.natAbs with
      | nil => exact absurd e (TL.numL_ne _)
      | cons a p =>
        intro z
        have : a = 45 := Option.some.inj z
        have := TL.numL_digits x.natAbs a (by rw [e]; simp)
        omega
    rw [if_neg h, List.nil_append]
theorem head_ntx (x : Int) (r : List Nat) : (ntx x ++ r).head? = some 45 ↔ x < 0 := by
  unfold ntx sgn
  split
  · rename_i h
    exact ⟨fun _ => h, fun _ => rfl⟩
  · rename_i h
    refine ⟨fun z => ?_, fun z => absurd z h⟩
    rw [List.nil_append] at z
    cases e : TL.numL x.natAbs with
    | nil => exact absurd e (TL.numL_ne _)
    | cons a p =>
      rw [e] at z
      have : a = 45 := Option.some.inj z
      have := TL.numL_digits x.natAbs a (by rw [e]; simp)
      omega

/-- l is the text of the worth x / y -/
structure IsT (l : List Nat) (x y : Int) : Prop where
  pos : 1 ≤ y
  low : Nat.gcd x.natAbs y.natAbs = 1
  bx : x.natAbs < 10 ^ 200
  bY : y.natAbs < 10 ^ 200
  eq : l = wtx x y
/-- the two numbers of a text without its minus -/
def cutp (l : List Nat) : List Nat × List Nat := match TL.par [47] [] l with
  | some r => r
  | none => (l, [49])
theorem ntx_pos {y : Int} (h : 1 ≤ y) : ntx y = TL.numL y.natAbs := by
  unfold ntx sgn
  rw [if_neg (by omega), List.nil_append]
theorem unE0 {l : List Nat} {x y : Int} (pos : 1 ≤ y) (eq : l = wtx x y) : un l = if y = 1 then TL.numL x.natAbs else TL.numL x.natAbs ++ 47 :: TL.numL y.natAbs := by
  rw [eq]
  unfold wtx
  split
  · have := un_ntx x []
    rw [List.append_nil, List.append_nil] at this
    exact this
  · rw [ntx_pos pos]
    exact un_ntx x _
theorem head0 {l : List Nat} {x y : Int} (eq : l = wtx x y) : l.head? = some 45 ↔ x < 0 := by
  rw [eq]
  unfold wtx
  split
  · have := head_ntx x []
    rw [List.append_nil] at this
    exact this
  · exact head_ntx x _
theorem cut0 {l : List Nat} {x y : Int} (pos : 1 ≤ y) (eq : l = wtx x y) : cutp (un l) = (TL.numL x.natAbs, TL.numL y.natAbs) := by
  have fr : 47 ∉ TL.numL x.natAbs := TL.numL_free (by decide)
  rw [unE0 pos eq]
  unfold cutp
  by_cases h : y = 1
  · rw [if_pos h, par_head_none fr, h]
    rfl
  · rw [if_neg h, show TL.numL x.natAbs ++ 47 :: TL.numL y.natAbs = TL.numL x.natAbs ++ ([47] ++ TL.numL y.natAbs) from rfl, par_head _ fr]
theorem wtx_inj {x y x' y' : Int} (p : 1 ≤ y) (p' : 1 ≤ y') (eq : wtx x y = wtx x' y') : x = x' ∧ y = y' := by
  have e := (cut0 p rfl).symm.trans (cut0 p' eq)
  have e1 := TL.numL_inj (congrArg Prod.fst e)
  have e2 := TL.numL_inj (congrArg Prod.snd e)
  have h := head0 (l := wtx x y) rfl
  have h' := head0 eq
  constructor
  · by_cases hx : x < 0
    · have := h'.mp (h.mpr hx)
      omega
    · have : ¬ x' < 0 := fun z => hx (h.mp (h'.mpr z))
      omega
  · omega
theorem IsT.unE {l : List Nat} {x y : Int} (T : IsT l x y) : un l = if y = 1 then TL.numL x.natAbs else TL.numL x.natAbs ++ 47 :: TL.numL y.natAbs := unE0 T.pos T.eq
theorem IsT.head {l : List Nat} {x y : Int} (T : IsT l x y) : l.head? = some 45 ↔ x < 0 := head0 T.eq
theorem IsT.cut {l : List Nat} {x y : Int} (T : IsT l x y) : cutp (un l) = (TL.numL x.natAbs, TL.numL y.natAbs) := cut0 T.pos T.eq
theorem IsT.uniq {l : List Nat} {x y x' y' : Int} (T : IsT l x y) (T' : IsT l x' y') : x = x' ∧ y = y' := wtx_inj T.pos T'.pos (T.eq.symm.trans T'.eq)
/-- the parts between the strokes -/
abbrev cuts (l : List Nat) : List (List Nat) := TL.spl [47] 0 [] l
theorem cuts_one {l : List Nat} (h : 47 ∉ l) : cuts l = [l] := by
  show TL.spl [47] 0 [] l = [l]
  rw [TL.spl_last1 h, List.nil_append]
theorem cuts_two {p q : List Nat} (h : 47 ∉ p) : cuts (p ++ 47 :: q) = p :: cuts q := by
  show TL.spl [47] 0 [] (p ++ ([47] ++ q)) = _
  rw [TL.spl_part1 h, List.nil_append]
theorem cuts_cases (l : List Nat) : (47 ∉ l ∧ cuts l = [l]) ∨ ∃ p q, l = p ++ 47 :: q ∧ 47 ∉ p ∧ cuts l = p :: cuts q := by
  by_cases h : 47 ∈ l
  · obtain ⟨p, q, e, hp⟩ := List.eq_append_cons_of_mem h
    exact .inr ⟨p, q, e, hp, by rw [e, cuts_two hp]⟩
  · exact .inl ⟨h, cuts_one h⟩
theorem cuts_ne (l : List Nat) : cuts l ≠ [] := by
  rcases cuts_cases l with ⟨_, e⟩ | ⟨_, _, _, _, e⟩ <;> rw [e] <;> simp
theorem IsT.cutsE {l : List Nat} {x y : Int} (T : IsT l x y) : cuts (un l) = if y = 1 then [TL.numL x.natAbs] else [TL.numL x.natAbs, TL.numL y.natAbs] := by
  have fr : ∀ n, 47 ∉ TL.numL n := fun n => TL.numL_free (by decide)
  rw [T.unE]
  split
  · exact cuts_one (fr _)
  · rw [cuts_two (fr _), cuts_one (fr _)]
/-- a part that the law lets through -/
def Ok (l : List Nat) : Prop := Can l ∧ l.length ≤ 200
theorem Ok.num {n : Nat} (h : n < 10 ^ 200) : Ok (TL.numL n) := ⟨can_num n, num_short.mpr h⟩
theorem Ok.lt {l : List Nat} (h : Ok l) : digitsVal l < 10 ^ 200 := Nat.lt_of_lt_of_le (val_lt h.1.dg) (Nat.pow_le_pow_right (by decide) h.2)
theorem IsT.ok {l : List Nat} {x y : Int} (T : IsT l x y) : ∀ p ∈ cuts (un l), Ok p := by
  rw [T.cutsE]
  intro p hp
  split at hp
  · rw [List.mem_singleton.mp hp]
    exact .num T.bx
  · rcases List.mem_cons.mp hp with e | hp
    · rw [e]; exact .num T.bx
    · rw [List.mem_singleton.mp hp]
      exact .num T.bY
theorem un_back (l : List Nat) : l = if l.head? = some 45 then 45 :: un l else un l := by
  unfold un
  split
  · rename_i h
    cases l with
    | nil => cases h
    | cons a l =>
      have : a = 45 := Option.some.inj h
      rw [this]
      rfl
  · rfl
theorem sgn_back {l : List Nat} {n : Nat} {r : List Nat} (e : un l = TL.numL n ++ r) (h : ¬ (l.head? = some 45 ∧ n = 0)) : l = ntx (if l.head? = some 45 then -(n : Int) else n) ++ r := by
  have b := un_back l
  unfold ntx sgn
  by_cases hh : l.head? = some 45
  · rw [if_pos hh] at b ⊢
    have hn : n ≠ 0 := fun z => h ⟨hh, z⟩
    rw [if_pos (by omega), Int.natAbs_neg, Int.natAbs_natCast]
    rw [b, e]
    simp
  · rw [if_neg hh] at b ⊢
    rw [if_neg (by omega), Int.natAbs_natCast, List.nil_append]
    exact b.trans e
/-- what the law reads is a worth's text -/
theorem read_one {l p : List Nat} (h : cuts (un l) = [p]) (hp : Ok p) (hg : Nat.gcd (digitsVal p) 1 = 1) (hz : ¬ (l.head? = some 45 ∧ digitsVal p = 0)) : IsT l (if l.head? = some 45 then -(digitsVal p : Int) else digitsVal p) 1 := by
  have e : un l = p := by
    rcases cuts_cases (un l) with ⟨_, e⟩ | ⟨p', q, e1, h1, e2⟩
    · rw [e] at h
      exact (List.cons.inj h).1
    · rw [e2] at h
      exact absurd (List.cons.inj h).2 (cuts_ne q)
  have e' : un l = TL.numL (digitsVal p) ++ [] := by rw [List.append_nil, hp.1.num, e]
  refine ⟨by decide, ?_, ?_, by decide, ?_⟩
  · split <;> simp
  · have := hp.lt
    split
    · rw [Int.natAbs_neg]; exact this
    · exact this
  · have := sgn_back e' hz
    rw [List.append_nil] at this
    exact this
theorem read_two {l p q : List Nat} (h : cuts (un l) = [p, q]) (hp : Ok p) (hq : Ok q) (h2 : 2 ≤ digitsVal q) (hg : Nat.gcd (digitsVal p) (digitsVal q) = 1) (hz : ¬ (l.head? = some 45 ∧ digitsVal p = 0)) : IsT l (if l.head? = some 45 then -(digitsVal p : Int) else digitsVal p) (digitsVal q) := by
  have e : un l = p ++ 47 :: q := by
    rcases cuts_cases (un l) with ⟨_, e⟩ | ⟨p', q', e1, h1, e2⟩
    · rw [e] at h
      exact absurd (List.cons.inj h).2 (by simp)
    · rw [e2] at h
      obtain ⟨ep, h⟩ := List.cons.inj h
      rw [← ep]
      rcases cuts_cases q' with ⟨_, e⟩ | ⟨p3, q3, _, _, e3⟩
      · rw [e] at h
        rw [e1, (List.cons.inj h).1]
      · rw [e3] at h
        exact absurd (List.cons.inj h).2 (cuts_ne q3)
  have e' : un l = TL.numL (digitsVal p) ++ 47 :: q := by rw [hp.1.num, e]
  refine ⟨by omega, ?_, ?_, ?_, ?_⟩
  · split
    · rw [Int.natAbs_neg]; exact hg
    · exact hg
  · have := hp.lt
    split
    · rw [Int.natAbs_neg]; exact this
    · exact this
  · exact hq.lt
  · have := sgn_back e' hz
    unfold wtx
    have e1 : ((digitsVal q : Nat) : Int) ≠ 1 := by omega
    have e2 : ntx ((digitsVal q : Nat) : Int) = q := by
      rw [ntx_pos (by omega), Int.natAbs_natCast, hq.1.num]
    rw [if_neg e1, e2]
    exact this
/-! ### the words of the language for these lists -/
theorem sub_S (l : List Nat) : Builtin.Str.subAt (S l) (S [45]) 0 = decide (l.head? = some 45) := by
  unfold Builtin.Str.subAt
  cases l with
  | nil => rfl
  | cons a l =>
    rw [Bool.eq_iff_iff]
    simp [S, Str.length]
theorem pref_S (l : List Nat) : Txt.removeprefix (S l) (S [45]) = S (un l) := by
  unfold Txt.removeprefix un
  rw [sub_S]
  by_cases h : l.head? = some 45
  · rw [if_pos (decide_eq_true h), if_pos h]
    cases l with
    | nil => cases h
    | cons a l =>
      refine TL.ext_tl ?_
      unfold Txt.affix
      simp [S, Str.length, Builtin.Str.strSub, TL.tl]
  · rw [if_neg (by rw [decide_eq_false h]; decide), if_neg h]
    rfl
theorem starts_S (l : List Nat) : Txt.startswith (S l) (S [45]) = decide (l.head? = some 45) := by
  unfold Txt.startswith
  rw [sub_S]
  cases l with
  | nil => rfl
  | cons a l => simp [S, Str.length]
instance (l : List Nat) : Decidable (AllDigits l) := by unfold AllDigits; exact inferInstance
theorem digit_tab : ∀ c : Fin 128, Unicode.isDigit c.1 = decide (48 ≤ c.1 ∧ c.1 ≤ 57) := by decide +kernel
theorem figures_S (l : List Nat) : (Txt.isascii (S l) && Txt.isdigit (S l)) = decide (l ≠ [] ∧ AllDigits l) := by
  unfold Txt.isascii Txt.isdigit
  rw [Bool.eq_iff_iff, Bool.and_eq_true, Bool.and_eq_true, ← Array.all_toList, ← Array.all_toList, List.all_eq_true, List.all_eq_true, decide_eq_true_eq, decide_eq_true_eq]
  show (∀ x, x ∈ l → decide (x < 128) = true) ∧ l.toArray.size > 0 ∧ (∀ x, x ∈ l → Unicode.isDigit x = true) ↔ _
  constructor
  · rintro ⟨h1, h2, h3⟩
    refine ⟨fun e => by rw [e] at h2; exact absurd h2 (by decide), fun c hc => ?_⟩
    have lt := of_decide_eq_true (h1 c hc)
    have := digit_tab ⟨c, lt⟩
    rw [h3 c hc] at this
    exact of_decide_eq_true this.symm
  · rintro ⟨h1, h2⟩
    refine ⟨fun c hc => decide_eq_true (by have := h2 c hc; omega), ?_, fun c hc => ?_⟩
    · rw [List.size_toArray]
      exact List.length_pos_iff.mpr h1
    · have := h2 c hc
      have t := digit_tab ⟨c, by omega⟩
      rw [decide_eq_true this] at t
      exact t
/-- nothing is left of a text of figures -/
theorem strip_all (z y : Str) : Txt.stripChars z y = S [] ↔ ∀ c ∈ z.cps.toList, y.cps.contains c = true := by
  have h0 : (∀ c ∈ z.cps.toList, y.cps.contains c = true) ↔ ∀ k, k < z.length → y.cps.contains (z.cps.getD k 0) = true := by
    constructor
    · intro h k hk
      have hk' : k < z.cps.size := hk
      refine h _ ?_
      rw [show z.cps.getD k 0 = z.cps[k] by simp [Array.getD, hk']]
      simp
    · intro h c hc
      rw [Array.mem_toList_iff] at hc
      obtain ⟨k, hk, rfl⟩ := Array.mem_iff_getElem.mp hc
      have := h k hk
      rw [show z.cps.getD k 0 = z.cps[k] by simp [Array.getD, hk]] at this
      exact this
  rw [h0]
  unfold Txt.stripChars
  rw [stripBy_eq]
  obtain ⟨l1, l2, l3⟩ := lo_facts y.cps.contains z
  obtain ⟨h1, h2, h3, h4⟩ := hi_facts y.cps.contains z _ l1
  have hsz : ∀ a b : Nat, a ≤ b → b ≤ z.length → (Builtin.Str.strSub z a b = S [] ↔ a = b) := by
    intro a b ha hb
    have hb' : b ≤ z.cps.size := hb
    constructor
    · intro h
      have e := congrArg (fun s : Str => s.cps.size) h
      have e2 : (z.cps.extract a b).size = 0 := e
      rw [Array.size_extract] at e2
      omega
    · rintro rfl
      show (⟨z.cps.extract a a⟩ : Str) = S []
      have : z.cps.extract a a = #[] := Array.eq_empty_of_size_eq_zero (by rw [Array.size_extract]; omega)
      rw [this]
  rw [hsz _ _ h1 h2]
  constructor
  · intro e k hk
    by_cases hlt : k < stripLo y.cps.contains true z
    · exact l2 k hlt
    · exact h3 k (by omega) hk
  · intro h
    rcases l3 with e | e
    · omega
    · by_cases hlt : stripLo y.cps.contains true z < z.length
      · rw [h _ hlt] at e
        cases e
      · omega
theorem strip_S (l : List Nat) : Txt.stripChars (S l) (S [48, 49, 50, 51, 52, 53, 54, 55, 56, 57]) = S [] ↔ AllDigits l := by
  rw [strip_all]
  have : ∀ c : Nat, ((S [48, 49, 50, 51, 52, 53, 54, 55, 56, 57]).cps.contains c = true) ↔ (48 ≤ c ∧ c ≤ 57) := by
    intro c
    rw [Array.contains_iff]
    simp
    omega
  exact ⟨fun h c hc => (this c).mp (h c hc), fun h c hc => (this c).mpr (h c hc)⟩
theorem zfill_S {m : Nat} (h : m < 10 ^ 200) : Txt.zfill (S (TL.numL m)) 200 = S (dk 200 m) := by
  rw [dk_pad 199 m h]
  have hl := num_short.mpr h
  unfold Txt.zfill
  rw [S_len]
  by_cases h2 : (200 : Int) ≤ (TL.numL m).length
  · rw [if_pos h2]
    have : 199 + 1 - (TL.numL m).length = 0 := by omega
    rw [this]
    rfl
  · rw [if_neg h2]
    have e : (200 : Int).toNat - (TL.numL m).length = 199 + 1 - (TL.numL m).length := rfl
    rw [e]
    generalize 199 + 1 - (TL.numL m).length = n
    unfold zfilled
    have hd := TL.numL_digits m
    have hne := TL.numL_ne m
    revert hd hne
    generalize TL.numL m = l
    intro hd hne
    cases l with
    | nil => exact absurd rfl hne
    | cons a l =>
      have ha := hd.head
      split
      · rename_i e1
        have : a = 43 := by simpa [S] using e1
        omega
      · rename_i e1
        have : a = 45 := by simpa [S] using e1
        omega
      · refine TL.ext_tl ?_
        simp [Builtin.Str.padded, S, TL.tl]
end My

set_option Elab.async false
set_option linter.all false
set_option maxRecDepth 100000
namespace My
open PySem PySem.Spec PyProof.Rows L2
/-! ### a call by keywords alone -/
section
variable {X : Cx} {CX : CXT} {k : Nat} {f : Addr} {fd : FuncData} {ps ks : List Str} {sp : Sp} {E : XK} {x : Str} {p pos : Pos} {kws : List Keyword} {tk : TA} {g : List Value → List Value → List Value} {gV : List V → List V → List V}
theorem pe_callN0 (F : FnOk X.prog X.w X.K X.mg X.base CX k f fd ps sp) (hr : Room k X.A) (hg : Gl X x) (hm : X.mg x = some (.ref f)) (hk : PySem.W.keepIn X.K (.ref f) = true) (hb : KBn X.K fd ps 0 ks g gV) (hx : Passes CX X E)
    (hkw : PK X kws tk) (hall : (backToKw pos (keywordEach kws X.env)).all (·.1.isSome) = true := by rfl) (hks : (backToKw pos (keywordEach kws X.env)).filterMap (·.1) = ks := by rfl)
    (hdb : (x == ("__debug__" : Str)) = false := by decide)
    (hpl : ((backTo pos (starEach [] X.env)).any (·.1) || (backToKw pos (keywordEach kws X.env)).any (·.1.isNone)) = false := by rfl) :
    PE X (.Call (.Name x p) [] kws pos) (tCallN 0 ks.length sp gV E tNil tk) := by
  refine ⟨fun pins s σ H Q I h => ?_⟩
  refine wpAny_Call_Name_kw (ld_glob I hg hm ?_ hdb)
  refine PySem.W.callWith_KW0 (h₀ := X.base) I.ok.mod.kin hk hall ?_ hpl
  refine thn (hkw.run pos pins s σ H _ I h) fun ws s2 ⟨zs, H2, I2, rz, l1, l2, q2⟩ => ⟨I2.kIn, ?_⟩
  rw [hks]
  exact run_fnN F hr hb hx I2 .nil rz l1 l2 q2
end
abbrev sWorth : Stmt := topS 11
theorem scWorth : FnScope ["top", "bottom", "common"] ["top", "bottom"] (defScope sWorth) := ⟨rfl, rfl, rfl, by decide +kernel, rfl, by decide +kernel, by decide +kernel⟩
abbrev FunW (K : PySem.W.Frag) (f : Addr) (fd : FuncData) : Prop := FunD K "worth" "worth" (defArgs sWorth) (defBody sWorth) (defScope sWorth) [.int 1] [] f fd
/-- both by place -/
theorem bind2 {K : PySem.W.Frag} {f : Addr} {fd : FuncData} (F : FunW K f fd) : Binds K fd ["top", "bottom"] [] := by
  obtain ⟨ds, r, b⟩ := FunD.binds1 (ps := ["top", "bottom"]) F 2 1 (by simp) rfl (fun T kV doc pm an cdv ct us its h1 h2 => by
    match us, h1, its, h2 with
    | [a, c], _, [d], _ => exact ⟨_, rfl, rfl⟩)
  cases r
  exact b
theorem bind1 {K : PySem.W.Frag} {f : Addr} {fd : FuncData} (F : FunW K f fd) : ∃ ds, Vals [.int 1] ds ∧ Binds K fd ["top", "bottom"] ds :=
  FunD.binds1 (ps := ["top", "bottom"]) F 1 0 (by simp) rfl (fun T kV doc pm an cdv ct us its h1 h2 => by
    match us, h1, its, h2 with
    | [a], _, [d], _ => exact ⟨_, rfl, rfl⟩)
def swp {α : Type} (d : α) (ws : List α) : List α := [ws.getD 1 d, ws.getD 0 d]
theorem bindK {K : PySem.W.Frag} {f : Addr} {fd : FuncData} (F : FunW K f fd) : KBn K fd ["top", "bottom"] 0 ["bottom", "top"] (fun _ ws => ws.reverse) (fun _ zs => zs.reverse) := by
  obtain ⟨oc, od, dV, kV, doc, pm, an, cdv, ct, osl, rfl, lk, hcd, hD, hK⟩ := F.ex
  rcases hD with ⟨e, _⟩ | ⟨_, T, o, its, m, rfl, lT, oT, rT⟩
  · cases e
  · refine ⟨fun s us ws X l1 l2 => ?_, fun r1 r2 => ?_⟩
    · match us, l1, ws, l2, its, rT.length with
      | [], _, [w0, w1], _, [d], _ => exact BindsTo.of_looks fun M => looks_items X lT oT (.of_pure rfl)
    · have : ∀ {xs : List V} {us : List Value}, Vals xs us → Vals xs.reverse us.reverse := by
        intro xs us r
        induction r with
        | nil => exact .nil
        | cons h t ih =>
          rw [List.reverse_cons, List.reverse_cons]
          exact ih.append (.cons h .nil)
      exact this r2
def IsW (K : PySem.W.Frag) (H : Hp) (v : V) (x y : Int) : Prop := ∃ a, v = .ref a ∧ SqT K H a [.int x, .int y]
theorem IsW.same {K : PySem.W.Frag} {H H' : Hp} {v : V} {x y : Int} (s : Same H H') (h : IsW K H v x y) : IsW K H' v x y := let ⟨a, e, h⟩ := h; ⟨a, e, seqT_same s h⟩
def spWorth (K : PySem.W.Frag) : Sp := fun vs H Q _ => ∃ t b : Int, vs = [.int t, .int b] ∧ b.natAbs < 2 ^ 8000 ∧ ∀ v x y H', WR t b x y → IsW K H' v x y → Same H H' → Q v H'
section
variable {P : Program} {w : World} {K : PySem.W.Frag} {mg : Str → Option Value} {base : Heap}
theorem log_of {n : Nat} (h : n < 2 ^ 8000) : n.log2 < 9000 := Nat.lt_of_lt_of_le (PySem.Flt.log2_lt_of (by decide) h) (by decide)
theorem ok_worth {f aZ : Addr} {fd : FuncData} {k : Nat} (F : FunW K f fd) (b_gcd : mg "gcd" = some (.builtin "math.gcd")) (g_ZERO : mg "ZERO" = some (.ref aZ)) (hZ : ∀ H, SqT K H aZ [.int 0, .int 1]) : FnOk P w K mg base CX0 (k + 1) f fd ["top", "bottom"] (spWorth K) := by
  refine F.ok scWorth (fun vs H Q E h => ?_) (fun cdv A outer s H vs Q E hr h => ?_)
  · obtain ⟨t, b, rfl, _⟩ := h
    rfl
  · obtain ⟨t, b, rfl, hb9, q⟩ := h
    refine ⟨_, (pss_cons (ps_if (pt_cmpR op_eq (pv 1) pe_int (nomark _)) (pss_one (ps_ret (pe_glob (v := .ref aZ) rfl g_ZERO rfl))) pss_nil)
      (pss_cons (ps_set (i := 2) scWorth.nd rfl (.inl rfl) (pe_callBfun cr_gcd rfl b_gcd (pa_cons (pv 0) (pa_cons (pv 1) pa_nil))))
      (C8.pss_cut (ps_if (pt_cmpR op_lt (pv 1) pe_int (nomark _)) (pss_one (ps_set (i := 2) scWorth.nd rfl (.inl rfl) (pe_un un_neg (pv 2)))) pss_nil)
      (pss_one (ps_ret (pe_tup (pa_cons (pe_op op_divS (pv 0) (pv 2)) (pa_cons (pe_op op_divS (pv 1) (pv 2)) pa_nil)))))))), ?_⟩
    refine ⟨_, rfl, rfl, _, rfl, ite2 (fun e => ?_) (fun e => ?_)⟩
    · have e0 : b = 0 := V.int.inj (of_decide_eq_true e)
      subst e0
      exact q _ 0 1 H wr_zero ⟨aZ, rfl, hZ H⟩ (Same.refl H)
    · have hb0 : b ≠ 0 := fun z => e (decide_eq_true (by rw [z]))
      obtain ⟨g0, gl, wn, wp⟩ := wr_make (t := t) hb0 rfl
      refine ⟨_, rfl, _, rfl, t, b, rfl, ?_⟩
      revert g0 gl wn wp
      generalize ((Nat.gcd t.natAbs b.natAbs : Nat) : Int) = g
      intro g0 gl wn wp
      refine ⟨fun σ' H' => ∃ c : Int, σ' = [some (.int t), some (.int b), some (.int c)] ∧ H' = H ∧ c ≠ 0 ∧ c.natAbs < 2 ^ 8000 ∧ WR t b (t.fdiv c) (b.fdiv c), ?_, ?_⟩
      · refine ⟨_, rfl, _, _, rfl, rfl, _, rfl, ite2 (fun e => ?_) (fun e => ?_)⟩
        · exact ⟨_, rfl, g, rfl, _, rfl, rfl, by omega, by rw [Int.natAbs_neg]; exact Nat.lt_of_le_of_lt gl hb9, wn (of_decide_eq_true e)⟩
        · exact ⟨_, rfl, rfl, by omega, Nat.lt_of_le_of_lt gl hb9, wp (fun z => e (decide_eq_true z))⟩
      · rintro σ' H' ⟨c, rfl, rfl, c0, c9, W⟩
        have hc : ∀ i, CDivS i c := fun i => ⟨c0, log_of c9⟩
        refine ⟨_, rfl, _, rfl, _, _, rfl, rfl, hc _, _, rfl, _, rfl, _, _, rfl, rfl, hc _, (by show 2 ≤ sizeLine; decide), fun p np => ?_⟩
        exact q _ _ _ _ W ⟨p, rfl, SqT.of upd_same⟩ (same_upd np)
end
end My

set_option Elab.async false
set_option linter.all false
set_option maxRecDepth 100000
namespace My
open PySem PySem.Spec PyProof.Rows L2
theorem mok {i j : Int} (ha : i.natAbs < 2 ^ 3000) (hb : j.natAbs < 2 ^ 3000) : IntMulOk i j := (wide_mul ha hb (by decide) (by decide) (by decide)).ok
theorem mlt {i j : Int} (ha : i.natAbs < 2 ^ 3000) (hb : j.natAbs < 2 ^ 3000) : (i * j).natAbs < 2 ^ 8000 := Nat.lt_trans (wide_lt ha hb) (Nat.pow_lt_pow_right (by decide) (by decide))
abbrev sPlus : Stmt := topS 12
theorem scPlus : FnScope ["a", "b"] ["a", "b"] (defScope sPlus) := ⟨rfl, rfl, rfl, by decide +kernel, rfl, by decide +kernel, by decide +kernel⟩
abbrev sMinus : Stmt := topS 13
theorem scMinus : FnScope ["a", "b"] ["a", "b"] (defScope sMinus) := ⟨rfl, rfl, rfl, by decide +kernel, rfl, by decide +kernel, by decide +kernel⟩
abbrev sProduct : Stmt := topS 14
theorem scProduct : FnScope ["a", "b"] ["a", "b"] (defScope sProduct) := ⟨rfl, rfl, rfl, by decide +kernel, rfl, by decide +kernel, by decide +kernel⟩
abbrev sQuotient : Stmt := topS 15
theorem scQuotient : FnScope ["a", "b"] ["a", "b"] (defScope sQuotient) := ⟨rfl, rfl, rfl, by decide +kernel, rfl, by decide +kernel, by decide +kernel⟩
abbrev sIsLess : Stmt := topS 16
theorem scIsLess : FnScope ["a", "b"] ["a", "b"] (defScope sIsLess) := ⟨rfl, rfl, rfl, by decide +kernel, rfl, by decide +kernel, by decide +kernel⟩
abbrev sFloorOf : Stmt := topS 17
theorem scFloorOf : FnScope ["a"] ["a"] (defScope sFloorOf) := ⟨rfl, rfl, rfl, by decide +kernel, rfl, by decide +kernel, by decide +kernel⟩
def Sml (x : Int) : Prop := x.natAbs < 2 ^ 3000
def spBin (K : PySem.W.Frag) (tp bt : Int → Int → Int → Int → Int) : Sp := fun vs H Q _ => ∃ v w x0 x1 y0 y1, vs = [v, w] ∧ IsW K H v x0 x1 ∧ IsW K H w y0 y1 ∧ Sml x0 ∧ Sml x1 ∧ Sml y0 ∧ Sml y1 ∧ ∀ r p q H', WR (tp x0 x1 y0 y1) (bt x0 x1 y0 y1) p q → IsW K H' r p q → Same H H' → Q r H'
abbrev spPlus (K : PySem.W.Frag) : Sp := spBin K (fun x0 x1 y0 y1 => x0 * y1 + y0 * x1) (fun x0 x1 y0 y1 => x1 * y1)
abbrev spMinus (K : PySem.W.Frag) : Sp := spBin K (fun x0 x1 y0 y1 => x0 * y1 - y0 * x1) (fun x0 x1 y0 y1 => x1 * y1)
abbrev spProduct (K : PySem.W.Frag) : Sp := spBin K (fun x0 x1 y0 y1 => x0 * y0) (fun x0 x1 y0 y1 => x1 * y1)
abbrev spQuotient (K : PySem.W.Frag) : Sp := spBin K (fun x0 x1 y0 y1 => x0 * y1) (fun x0 x1 y0 y1 => x1 * y0)
def spLess (K : PySem.W.Frag) : Sp := fun vs H Q _ => ∃ v w x0 x1 y0 y1, vs = [v, w] ∧ IsW K H v x0 x1 ∧ IsW K H w y0 y1 ∧ Sml x0 ∧ Sml x1 ∧ Sml y0 ∧ Sml y1 ∧ Q (.bl (decide (x0 * y1 < y0 * x1))) H
def spFloor (K : PySem.W.Frag) : Sp := fun vs H Q _ => ∃ v x0 x1, vs = [v] ∧ IsW K H v x0 x1 ∧ 1 ≤ x1 ∧ Sml x1 ∧ Q (.int (x0 / x1)) H
section
variable {P : Program} {w : World} {K : PySem.W.Frag} {mg : Str → Option Value} {base : Heap}
theorem ok_plus {f fW : Addr} {fd fdW : FuncData} {k : Nat} (F : Fun K "plus" "plus" sPlus f fd) (W : Cal P w K mg base "worth" (k + 1) ["top", "bottom"] (spWorth K) fW fdW) : FnOk P w K mg base CX0 (k + 2) f fd ["a", "b"] (spPlus K) := by
  refine F.ok scPlus (fun vs H Q E h => ?_) (fun cdv A outer s H vs Q E hr h => ?_)
  · obtain ⟨v, w', x0, x1, y0, y1, rfl, _⟩ := h
    rfl
  · obtain ⟨v, w', x0, x1, y0, y1, rfl, ⟨a, rfl, hA⟩, ⟨b, rfl, hB⟩, s0, s1, s2, s3, q⟩ := h
    unfold Sml at s0 s1 s2 s3
    refine ⟨_, (pss_one (ps_ret (pe_call W.ok hr rfl W.g W.kp W.b .nil pass0 (pa_cons (pe_op op_add (pe_op op_mulG (pe_ix ix_tup (pv 0) pe_int (fun _ _ => rfl)) (pe_ix ix_tup (pv 1) pe_int (fun _ _ => rfl))) (pe_op op_mulG (pe_ix ix_tup (pv 1) pe_int (fun _ _ => rfl)) (pe_ix ix_tup (pv 0) pe_int (fun _ _ => rfl)))) (pa_cons (pe_op op_mulG (pe_ix ix_tup (pv 0) pe_int (fun _ _ => rfl)) (pe_ix ix_tup (pv 1) pe_int (fun _ _ => rfl))) pa_nil))))), ?_⟩
    exact ⟨_, rfl, a, _, 0, _, rfl, rfl, hA, atI_nat (j := 0) rfl, _, rfl, b, _, 1, _, rfl, rfl, hB, atI_nat (j := 1) rfl, _, _, rfl, rfl, mok (by assumption) (by assumption), _, rfl, b, _, 0, _, rfl, rfl, hB, atI_nat (j := 0) rfl, _, rfl, a, _, 1, _, rfl, rfl, hA, atI_nat (j := 1) rfl, _, _, rfl, rfl, mok (by assumption) (by assumption), _, _, rfl, rfl, _, rfl, a, _, 1, _, rfl, rfl, hA, atI_nat (j := 1) rfl, _, rfl, b, _, 1, _, rfl, rfl, hB, atI_nat (j := 1) rfl, _, _, rfl, rfl, mok (by assumption) (by assumption), _, _, rfl, mlt (by assumption) (by assumption), fun v x y H' hw hi hs => q v x y H' hw hi hs⟩
theorem ok_minus {f fW : Addr} {fd fdW : FuncData} {k : Nat} (F : Fun K "minus" "minus" sMinus f fd) (W : Cal P w K mg base "worth" (k + 1) ["top", "bottom"] (spWorth K) fW fdW) : FnOk P w K mg base CX0 (k + 2) f fd ["a", "b"] (spMinus K) := by
  refine F.ok scMinus (fun vs H Q E h => ?_) (fun cdv A outer s H vs Q E hr h => ?_)
  · obtain ⟨v, w', x0, x1, y0, y1, rfl, _⟩ := h
    rfl
  · obtain ⟨v, w', x0, x1, y0, y1, rfl, ⟨a, rfl, hA⟩, ⟨b, rfl, hB⟩, s0, s1, s2, s3, q⟩ := h
    unfold Sml at s0 s1 s2 s3
    refine ⟨_, (pss_one (ps_ret (pe_call W.ok hr rfl W.g W.kp W.b .nil pass0 (pa_cons (pe_op op_sub (pe_op op_mulG (pe_ix ix_tup (pv 0) pe_int (fun _ _ => rfl)) (pe_ix ix_tup (pv 1) pe_int (fun _ _ => rfl))) (pe_op op_mulG (pe_ix ix_tup (pv 1) pe_int (fun _ _ => rfl)) (pe_ix ix_tup (pv 0) pe_int (fun _ _ => rfl)))) (pa_cons (pe_op op_mulG (pe_ix ix_tup (pv 0) pe_int (fun _ _ => rfl)) (pe_ix ix_tup (pv 1) pe_int (fun _ _ => rfl))) pa_nil))))), ?_⟩
    exact ⟨_, rfl, a, _, 0, _, rfl, rfl, hA, atI_nat (j := 0) rfl, _, rfl, b, _, 1, _, rfl, rfl, hB, atI_nat (j := 1) rfl, _, _, rfl, rfl, mok (by assumption) (by assumption), _, rfl, b, _, 0, _, rfl, rfl, hB, atI_nat (j := 0) rfl, _, rfl, a, _, 1, _, rfl, rfl, hA, atI_nat (j := 1) rfl, _, _, rfl, rfl, mok (by assumption) (by assumption), _, _, rfl, rfl, _, rfl, a, _, 1, _, rfl, rfl, hA, atI_nat (j := 1) rfl, _, rfl, b, _, 1, _, rfl, rfl, hB, atI_nat (j := 1) rfl, _, _, rfl, rfl, mok (by assumption) (by assumption), _, _, rfl, mlt (by assumption) (by assumption), fun v x y H' hw hi hs => q v x y H' hw hi hs⟩
theorem ok_product {f fW : Addr} {fd fdW : FuncData} {k : Nat} (F : Fun K "product" "product" sProduct f fd) (W : Cal P w K mg base "worth" (k + 1) ["top", "bottom"] (spWorth K) fW fdW) : FnOk P w K mg base CX0 (k + 2) f fd ["a", "b"] (spProduct K) := by
  refine F.ok scProduct (fun vs H Q E h => ?_) (fun cdv A outer s H vs Q E hr h => ?_)
  · obtain ⟨v, w', x0, x1, y0, y1, rfl, _⟩ := h
    rfl
  · obtain ⟨v, w', x0, x1, y0, y1, rfl, ⟨a, rfl, hA⟩, ⟨b, rfl, hB⟩, s0, s1, s2, s3, q⟩ := h
    unfold Sml at s0 s1 s2 s3
    refine ⟨_, (pss_one (ps_ret (pe_call W.ok hr rfl W.g W.kp W.b .nil pass0 (pa_cons (pe_op op_mulG (pe_ix ix_tup (pv 0) pe_int (fun _ _ => rfl)) (pe_ix ix_tup (pv 1) pe_int (fun _ _ => rfl))) (pa_cons (pe_op op_mulG (pe_ix ix_tup (pv 0) pe_int (fun _ _ => rfl)) (pe_ix ix_tup (pv 1) pe_int (fun _ _ => rfl))) pa_nil))))), ?_⟩
    exact ⟨_, rfl, a, _, 0, _, rfl, rfl, hA, atI_nat (j := 0) rfl, _, rfl, b, _, 0, _, rfl, rfl, hB, atI_nat (j := 0) rfl, _, _, rfl, rfl, mok (by assumption) (by assumption), _, rfl, a, _, 1, _, rfl, rfl, hA, atI_nat (j := 1) rfl, _, rfl, b, _, 1, _, rfl, rfl, hB, atI_nat (j := 1) rfl, _, _, rfl, rfl, mok (by assumption) (by assumption), _, _, rfl, mlt (by assumption) (by assumption), fun v x y H' hw hi hs => q v x y H' hw hi hs⟩
theorem ok_quotient {f fW : Addr} {fd fdW : FuncData} {k : Nat} (F : Fun K "quotient" "quotient" sQuotient f fd) (W : Cal P w K mg base "worth" (k + 1) ["top", "bottom"] (spWorth K) fW fdW) : FnOk P w K mg base CX0 (k + 2) f fd ["a", "b"] (spQuotient K) := by
  refine F.ok scQuotient (fun vs H Q E h => ?_) (fun cdv A outer s H vs Q E hr h => ?_)
  · obtain ⟨v, w', x0, x1, y0, y1, rfl, _⟩ := h
    rfl
  · obtain ⟨v, w', x0, x1, y0, y1, rfl, ⟨a, rfl, hA⟩, ⟨b, rfl, hB⟩, s0, s1, s2, s3, q⟩ := h
    unfold Sml at s0 s1 s2 s3
    refine ⟨_, (pss_one (ps_ret (pe_call W.ok hr rfl W.g W.kp W.b .nil pass0 (pa_cons (pe_op op_mulG (pe_ix ix_tup (pv 0) pe_int (fun _ _ => rfl)) (pe_ix ix_tup (pv 1) pe_int (fun _ _ => rfl))) (pa_cons (pe_op op_mulG (pe_ix ix_tup (pv 0) pe_int (fun _ _ => rfl)) (pe_ix ix_tup (pv 1) pe_int (fun _ _ => rfl))) pa_nil))))), ?_⟩
    exact ⟨_, rfl, a, _, 0, _, rfl, rfl, hA, atI_nat (j := 0) rfl, _, rfl, b, _, 1, _, rfl, rfl, hB, atI_nat (j := 1) rfl, _, _, rfl, rfl, mok (by assumption) (by assumption), _, rfl, a, _, 1, _, rfl, rfl, hA, atI_nat (j := 1) rfl, _, rfl, b, _, 0, _, rfl, rfl, hB, atI_nat (j := 0) rfl, _, _, rfl, rfl, mok (by assumption) (by assumption), _, _, rfl, mlt (by assumption) (by assumption), fun v x y H' hw hi hs => q v x y H' hw hi hs⟩
theorem ok_is_less {f : Addr} {fd : FuncData} {k : Nat} (F : Fun K "is_less" "is_less" sIsLess f fd) : FnOk P w K mg base CX0 (k + 1) f fd ["a", "b"] (spLess K) := by
  refine F.ok scIsLess (fun vs H Q E h => ?_) (fun cdv A outer s H vs Q E hr h => ?_)
  · obtain ⟨v, w', x0, x1, y0, y1, rfl, _⟩ := h
    rfl
  · obtain ⟨v, w', x0, x1, y0, y1, rfl, ⟨a, rfl, hA⟩, ⟨b, rfl, hB⟩, s0, s1, s2, s3, q⟩ := h
    unfold Sml at s0 s1 s2 s3
    refine ⟨_, (pss_one (ps_ret (pe_cmpR op_lt (pe_op op_mulG (pe_ix ix_tup (pv 0) pe_int (fun _ _ => rfl)) (pe_ix ix_tup (pv 1) pe_int (fun _ _ => rfl))) (pe_op op_mulG (pe_ix ix_tup (pv 1) pe_int (fun _ _ => rfl)) (pe_ix ix_tup (pv 0) pe_int (fun _ _ => rfl))) (nomark _)))), ?_⟩
    exact ⟨_, rfl, a, _, 0, _, rfl, rfl, hA, atI_nat (j := 0) rfl, _, rfl, b, _, 1, _, rfl, rfl, hB, atI_nat (j := 1) rfl, _, _, rfl, rfl, mok (by assumption) (by assumption), _, rfl, b, _, 0, _, rfl, rfl, hB, atI_nat (j := 0) rfl, _, rfl, a, _, 1, _, rfl, rfl, hA, atI_nat (j := 1) rfl, _, _, rfl, rfl, mok (by assumption) (by assumption), _, _, rfl, rfl, q⟩
theorem ok_floor_of {f : Addr} {fd : FuncData} {k : Nat} (F : Fun K "floor_of" "floor_of" sFloorOf f fd) : FnOk P w K mg base CX0 (k + 1) f fd ["a"] (spFloor K) := by
  refine F.ok scFloorOf (fun vs H Q E h => ?_) (fun cdv A outer s H vs Q E hr h => ?_)
  · obtain ⟨v, x0, x1, rfl, _⟩ := h
    rfl
  · obtain ⟨v, x0, x1, rfl, ⟨a, rfl, hA⟩, p, s1, q⟩ := h
    refine ⟨_, (pss_one (ps_ret (pe_op op_fdivW (pe_ix ix_tup (pv 0) pe_int (fun _ _ => rfl)) (pe_ix ix_tup (pv 0) pe_int (fun _ _ => rfl))))), ?_⟩
    exact ⟨_, rfl, a, _, 0, _, rfl, rfl, hA, atI_nat (j := 0) rfl, _, rfl, a, _, 1, _, rfl, rfl, hA, atI_nat (j := 1) rfl, _, _, rfl, rfl, wide_div (b := 3000) (by omega) s1 (by decide) (by decide), q⟩
end
end My

set_option Elab.async false
set_option linter.all false
set_option maxRecDepth 100000
namespace My
open PySem PySem.Spec PyProof.Rows L2 SX
open PySem.NumText (AllDigits digitsVal)
theorem abs_if (x : Int) : (if x < 0 then -x else x) = (x.natAbs : Int) := by split <;> omega
def LIM : Int := 10 ^ 200
abbrev sNumberText : Stmt := topS 18
theorem scNumberText : FnScope ["number", "pieces", "rest", "sign", "figures"] ["number"] (defScope sNumberText) := ⟨rfl, rfl, rfl, by decide +kernel, rfl, by decide +kernel, by decide +kernel⟩
abbrev sWorthText : Stmt := topS 19
theorem scWorthText : FnScope ["a"] ["a"] (defScope sWorthText) := ⟨rfl, rfl, rfl, by decide +kernel, rfl, by decide +kernel, by decide +kernel⟩
def spNum (K : PySem.W.Frag) : Sp := fun vs H Q _ => ∃ x : Int, vs = [.int x] ∧ x.natAbs < 10 ^ 500 ∧ ∀ H', Same H H' → Q (.str (S (ntx x))) H'
def spWtx (K : PySem.W.Frag) : Sp := fun vs H Q _ => ∃ v x y, vs = [v] ∧ IsW K H v x y ∧ x.natAbs < 10 ^ 500 ∧ y.natAbs < 10 ^ 500 ∧ ∀ H', Same H H' → Q (.str (S (wtx x y))) H'
theorem line_of {n : Nat} (h : n ≤ 10000) : n ≤ sizeLine := Nat.le_trans h (by decide +kernel)
theorem ntx_len {x : Int} (h : x.natAbs < 10 ^ 500) : (ntx x).length ≤ 501 := by
  have := TL.numL_len (by decide) h
  unfold ntx sgn
  rw [List.length_append]
  split <;> simp <;> omega
theorem wtx_len {x y : Int} (h : x.natAbs < 10 ^ 500) (h' : y.natAbs < 10 ^ 500) : (wtx x y).length ≤ 1003 := by
  have := ntx_len h
  have := ntx_len h'
  unfold wtx
  split
  · omega
  · rw [List.length_append, List.length_cons]; omega
theorem log500 {n : Nat} (h : n < 10 ^ 500) : n.log2 < 1920 := by
  have h1 : n < 2 ^ 1700 := Nat.lt_trans h (by decide +kernel)
  have h2 := PySem.Flt.log2_lt_of (n := n) (k := 1700) (by decide) h1
  omega
theorem same_updF {H H' : Hp} {p : Addr} {o : HO} (np : H p = none) (s : Same H H') : Same H (upd H' p o) := fun b x e => by
  rw [upd_ne (ne_of_none e np)]
  exact s b x e
theorem flat_map_S (ls : List (List Nat)) : TL.joinL [] ls = ls.flatten := by
  induction ls with
  | nil => rfl
  | cons p r ih =>
    cases r with
    | nil => show p = _; simp
    | cons q r => show p ++ ([] ++ TL.joinL [] (q :: r)) = _; rw [ih]; simp
theorem lim_split {n : Nat} (h : 10 ^ 200 ≤ n) : TL.numL n = TL.numL (n / 10 ^ 200) ++ dk 200 (n % 10 ^ 200) := by
  rw [numL_dk 200 n h, dk_mod 200 n]
theorem nn (n : Nat) : (if (n : Int) < 0 then -(n : Int) else n).toNat = n := by split <;> omega
section
variable {P : Program} {w : World} {K : PySem.W.Frag} {mg : Str → Option Value} {base : Heap}
theorem ok_number {f : Addr} {fd : FuncData} {k : Nat} {tk tk2 : Tok} (F : Fun K "number_text" "number_text" sNumberText f fd) (b_abs : mg "abs" = none) (b_str : mg "str" = none) (g_LIMIT : mg "LIMIT" = some (.int LIM tk)) (g_FIG : mg "LIMIT_FIGURES" = some (.int 200 tk2)) :
    FnOk P w K mg base CX0 (k + 1) f fd ["number"] (spNum K) := by
  refine F.ok scNumberText (fun vs H Q E h => ?_) (fun cdv A outer s H vs Q E hr h => ?_)
  · obtain ⟨z, rfl, _⟩ := h
    rfl
  · obtain ⟨x, rfl, hx, q⟩ := h
    refine ⟨_, (pss_cons (ps_set (i := 1) scNumberText.nd rfl (.inl rfl) (pe_lst pa_nil))
      (pss_cons (ps_set (i := 2) scNumberText.nd rfl (.inl rfl) (pe_callB call_abs rfl b_abs (by decide +kernel) (pa_cons (pv 0) pa_nil)))
      (pss_cons (ps_while PassesOwn.never (pt_cmpR op_ge (pv 2) (pe_glob (v := .int LIM) rfl g_LIMIT ⟨_, rfl⟩) (nomark _)) (pss_cons (ps_expr (pe_bm PySem.F.plainAttrs_list PySem.F.slot_list_append PySem.F.type_list_append mt_append (pv 1) (pa_cons (pe_m1 PySem.F.slot_str_zfill PySem.F.type_str_zfill mt_zfill (pe_callTy call_str_int rfl b_str (by decide +kernel) (pa_cons (pe_op op_mod (pv 2) (pe_glob (v := .int LIM) rfl g_LIMIT ⟨_, rfl⟩)) pa_nil)) (pe_glob (v := .int 200) rfl g_FIG ⟨_, rfl⟩)) pa_nil)))
        (pss_one (ps_set (i := 2) scNumberText.nd rfl (.inl rfl) (pe_op op_divS (pv 2) (pe_glob (v := .int LIM) rfl g_LIMIT ⟨_, rfl⟩))))))
      (pss_cons (ps_set (i := 3) scNumberText.nd rfl (.inl rfl) (pe_ifExp (pt_cmpR op_lt (pv 0) pe_int (nomark _)) pe_str pe_str))
      (pss_cons (ps_set (i := 4) scNumberText.nd rfl (.inl rfl) (pe_join pe_str (pe_revL (pv 1))))
      (pss_one (ps_ret (pe_joined (PJ.cons (pe_fmt (pv 3)) (PJ.cons (pe_fmt (pv 2)) (PJ.cons (pe_fmt (pv 4)) PJ.nil))))))))))), ?_⟩
    have hL : (0 : Int) < LIM := by decide +kernel
    have hLn : LIM = ((10 ^ 200 : Nat) : Int) := by decide +kernel
    refine ⟨Nat.zero_le _, fun p np => ⟨_, rfl, _, rfl, ?_⟩⟩
    rw [abs_if]
    refine while_by (fun σ H' => ∃ (n : Nat) (ls : List (List Nat)), σ = [some (.int x), some (.ref p), some (.int (n : Int)), none, none] ∧ Same H H' ∧ H' p = some (.lst (ls.map fun l => V.str (S l))) ∧ TL.numL x.natAbs = TL.numL n ++ ls.reverse.flatten ∧ n * 10 ^ (200 * ls.length) ≤ x.natAbs) (fun σ _ => match σ with | [_, _, some (.int n), _, _] => n.toNat | _ => 0)
      ⟨_, [], rfl, same_upd np, upd_same, ?_, ?_⟩ ?_ ?_
    · simp
    · simp
    · rintro σ H' ⟨n, ls, rfl, s1, hp, e1, e2⟩
      refine ⟨_, rfl, _, _, rfl, rfl, _, rfl, ite2 (fun c => ?_) (fun c => ?_)⟩
      · have hc : LIM ≤ (n : Int) := of_decide_eq_true c
        have hn : 10 ^ 200 ≤ n := by rw [hLn] at hc; exact Int.ofNat_le.mp hc
        have lm : n % 10 ^ 200 < 10 ^ 200 := Nat.mod_lt _ (Nat.pow_pos (by decide))
        have em : (n : Int) % LIM = ((n % 10 ^ 200 : Nat) : Int) := by rw [hLn]; exact (Int.natCast_emod _ _).symm
        have ed : (n : Int).fdiv LIM = ((n / 10 ^ 200 : Nat) : Int) := by rw [hLn, Int.fdiv_eq_ediv_of_nonneg _ (Int.natCast_nonneg _)]; exact (Int.natCast_ediv _ _).symm
        have ez : Txt.zfill (Str.ofString (toString (((n % 10 ^ 200 : Nat) : Int)))) 200 = S (dk 200 (n % 10 ^ 200)) := by rw [num_S, zfill_S lm]
        have p2 : 0 < 10 ^ 200 := Nat.pow_pos (by decide)
        have e3 : n / 10 ^ 200 * 10 ^ (200 * (ls ++ [dk 200 (n % 10 ^ 200)]).length) ≤ x.natAbs := by
          refine Nat.le_trans ?_ e2
          rw [List.length_append, List.length_singleton, Nat.mul_add, Nat.mul_one, Nat.pow_add, Nat.mul_comm (10 ^ (200 * ls.length)), ← Nat.mul_assoc]
          exact Nat.mul_le_mul_right _ (Nat.div_mul_le_self _ _)
        have l3 : ls.length < 10 := by
          apply Classical.byContradiction
          intro h
          have h1 : 10 ^ 2000 ≤ x.natAbs := by
            refine Nat.le_trans ?_ e2
            refine Nat.le_trans ?_ (Nat.le_mul_of_pos_left _ (Nat.lt_of_lt_of_le p2 hn))
            exact Nat.pow_le_pow_right (by decide) (by omega)
          have h2 : 10 ^ 500 ≤ 10 ^ 2000 := Nat.pow_le_pow_right (by decide) (by decide)
          omega
        refine ⟨_, rfl, .inl ⟨rfl, _, SqL.of hp⟩, _, rfl, _, _, rfl, rfl, hL, _, rfl, ?_⟩
        dsimp only
        rw [em]
        refine ⟨log500 (Nat.lt_of_lt_of_le lm (Nat.pow_le_pow_right (by decide) (by decide))), ⟨_, rfl⟩, _, _, rfl, rfl, by decide +kernel, _, _, _, rfl, rfl, hp, ?_, ?_⟩
        · rw [List.length_map]
          exact Nat.lt_of_lt_of_le l3 (by decide +kernel)
        · refine ⟨_, rfl, _, _, rfl, rfl, ⟨by omega, by decide +kernel⟩, ⟨_, ls ++ [dk 200 (n % 10 ^ 200)], ?_, same_updF np s1, ?_, ?_, e3⟩, ?_⟩
          · dsimp only
            rw [ed]; rfl
          · rw [upd_same, List.map_append]
            show some (HO.lst (_ ++ [.str (Txt.zfill (Str.ofString (toString (((n % 10 ^ 200 : Nat) : Int)))) 200)])) = _
            rw [ez]
            rfl
          · rw [e1, lim_split hn, List.reverse_append, List.append_assoc]
            rfl
          · show ((n : Int).fdiv LIM).toNat < n
            rw [ed, Int.toNat_natCast]
            exact Nat.div_lt_self (Nat.lt_of_lt_of_le p2 hn) (by decide +kernel)
      · have hc : ¬ LIM ≤ (n : Int) := fun z => c (decide_eq_true z)
        have hn : n < 10 ^ 500 := by
          have : (n : Int) < ((10 ^ 200 : Nat) : Int) := by rw [← hLn]; omega
          exact Nat.lt_of_lt_of_le (Int.ofNat_lt.mp this) (Nat.pow_le_pow_right (by decide) (by decide))
        have sl : (ls.reverse.flatten).length ≤ 501 := by
          have := TL.numL_len (n := x.natAbs) (k := 500) (by decide) hx
          rw [e1, List.length_append] at this
          omega
        have nl : (TL.numL n).length ≤ 501 := by
          have := TL.numL_len (n := n) (k := 500) (by decide) hn
          omega
        have hz : ((ls.reverse.map S).map (·.length)).sum ≤ 501 := by
          rw [lens]
          have : (ls.reverse.map (·.length)).sum = ls.reverse.flatten.length := by rw [List.length_flatten]
          rw [this]; exact sl
        have er : (ls.map fun l => V.str (S l)).reverse = (ls.reverse.map S).map V.str := by rw [List.map_map, ← List.map_reverse]; rfl
        have l1 : (Str.ofString (toString (n : Int))).length ≤ 501 := by rw [num_S, S_len]; exact nl
        have l2 : (Txt.join "" ((ls.reverse).map S)).length ≤ 501 := by
          rw [show ("" : Str) = S [] from rfl, join_S, S_len, flat_map_S]; exact sl
        have fin : ∀ sg : Str, sg = S (sgn x) → sg.length ≤ 1 → ∀ p2, H' p2 = none → tJs [tFmt (tVar 3), tFmt (tVar 2), tFmt (tVar 4)] Str.empty [some (.int x), some (.ref p), some (.int (n : Int)), some (.str sg), some (.str (Txt.join "" ((ls.reverse).map S)))] (upd H' p2 (.lst (ls.map fun l => V.str (S l)).reverse)) fun out H1 => Q (.str out) H1 := by
          intro sg hsg l0 p2 np2
          have e5 : ((Str.empty ++ sg) ++ Str.ofString (toString (n : Int))) ++ Txt.join "" ((ls.reverse).map S) = S (ntx x) := by
            rw [show (Str.empty : Str) = S [] from rfl, hsg, num_S, S_cat, S_cat, show ("" : Str) = S [] from rfl, join_S, S_cat, flat_map_S, List.nil_append, List.append_assoc, ← e1]
            rfl
          have k0 : (Str.empty ++ sg).length ≤ 1 := by rw [Str.length_append]; exact Nat.le_trans (Nat.le_of_eq (Nat.zero_add _)) l0
          have k1 : ((Str.empty ++ sg) ++ Str.ofString (toString (n : Int))).length ≤ 502 := by rw [Str.length_append]; exact Nat.add_le_add k0 l1
          refine ⟨_, rfl, .inl ⟨_, rfl, line_of (Nat.le_trans l0 (by decide)), _, rfl, line_of (Nat.le_trans k0 (by decide)), _, rfl, .inr ⟨_, rfl, log500 (by rw [Int.natAbs_natCast]; exact hn), _, rfl, line_of (Nat.le_trans k1 (by decide)), _, rfl, .inl ⟨_, rfl, line_of (Nat.le_trans l2 (by decide)), _, rfl, ?_, ?_⟩⟩⟩⟩
          · rw [Str.length_append]
            exact line_of (Nat.le_trans (Nat.add_le_add k1 l2) (by decide))
          · show Q (.str (((Str.empty ++ sg) ++ Str.ofString (toString (n : Int))) ++ Txt.join "" ((ls.reverse).map S))) _
            rw [e5]
            exact q _ (s1.trans (same_upd np2))
        refine ⟨_, rfl, _, _, rfl, rfl, _, rfl, ite2 (fun c2 => ?_) (fun c2 => ?_)⟩
        · have hs : "-" = S (sgn x) := by
            have : x < 0 := of_decide_eq_true c2
            unfold sgn
            rw [if_pos this]
            decide +kernel
          refine ⟨⟨_, rfl⟩, _, rfl, _, _, rfl, SqL.of hp, fun p2 np2 => ⟨_, p2, ls.reverse.map S, rfl, rfl, .inl (SqL.of (by rw [upd_same, er])), ?_, fin _ hs (by decide +kernel) p2 np2⟩⟩
          have e0 : (Str.ofString "").length = 0 := rfl
          rw [e0, Nat.mul_zero, Nat.add_zero]
          exact Nat.le_trans hz (by decide)
        · have hs : "" = S (sgn x) := by
            have : ¬ x < 0 := fun z => c2 (decide_eq_true z)
            unfold sgn
            rw [if_neg this]
            decide +kernel
          refine ⟨⟨_, rfl⟩, _, rfl, _, _, rfl, SqL.of hp, fun p2 np2 => ⟨_, p2, ls.reverse.map S, rfl, rfl, .inl (SqL.of (by rw [upd_same, er])), ?_, fin _ hs (by decide +kernel) p2 np2⟩⟩
          have e0 : (Str.ofString "").length = 0 := rfl
          rw [e0, Nat.mul_zero, Nat.add_zero]
          exact Nat.le_trans hz (by decide)
    · rintro σ H Q Q' hm ⟨v, e1, i, j, e3, e4, k, e5, z⟩
      exact ⟨v, e1, i, j, e3, e4, k, e5, hm _ _ z⟩
theorem ok_wtext {f fN : Addr} {fd fdN : FuncData} {k : Nat} (F : Fun K "worth_text" "worth_text" sWorthText f fd) (Nt : Cal P w K mg base "number_text" (k + 1) ["number"] (spNum K) fN fdN) :
    FnOk P w K mg base CX0 (k + 2) f fd ["a"] (spWtx K) := by
  refine F.ok scWorthText (fun vs H Q E h => ?_) (fun cdv A outer s H vs Q E hr h => ?_)
  · obtain ⟨v, x, y, rfl, _⟩ := h
    rfl
  · obtain ⟨v, x, y, rfl, ⟨a, rfl, hA⟩, hx, hy, q⟩ := h
    refine ⟨_, (pss_cons (ps_if (pt_cmpR op_eq (pe_ix ix_tup (pv 0) pe_int (fun _ _ => rfl)) pe_int (nomark _)) (pss_one (ps_ret (pe_call Nt.ok hr rfl Nt.g Nt.kp Nt.b .nil pass0 (pa_cons (pe_ix ix_tup (pv 0) pe_int (fun _ _ => rfl)) pa_nil)))) pss_nil)
      (pss_one (ps_ret (pe_joined (PJ.cons (pe_fmt (pe_call Nt.ok hr rfl Nt.g Nt.kp Nt.b .nil pass0 (pa_cons (pe_ix ix_tup (pv 0) pe_int (fun _ _ => rfl)) pa_nil))) (PJ.cons pe_str (PJ.cons (pe_fmt (pe_call Nt.ok hr rfl Nt.g Nt.kp Nt.b .nil pass0 (pa_cons (pe_ix ix_tup (pv 0) pe_int (fun _ _ => rfl)) pa_nil))) PJ.nil))))))), ?_⟩
    refine ⟨_, rfl, a, _, 1, _, rfl, rfl, hA, atI_nat (j := 1) rfl, rfl, _, rfl, ite2 (fun c => ?_) (fun c => ?_)⟩
    · have hc : y = 1 := V.int.inj (of_decide_eq_true c)
      refine ⟨_, rfl, a, _, 0, _, rfl, rfl, hA, atI_nat (j := 0) rfl, x, rfl, hx, fun H1 s1 => ?_⟩
      have := q H1 s1
      unfold wtx at this
      rw [if_pos hc] at this
      exact this
    · have hc : y ≠ 1 := fun z => c (decide_eq_true (by rw [z]))
      have h1 := ntx_len hx
      have h2 := ntx_len hy
      have e0 : (Str.empty : Str) = S [] := rfl
      have es : Str.ofString "/" = S [47] := by decide +kernel
      refine ⟨_, rfl, a, _, 0, _, rfl, rfl, hA, atI_nat (j := 0) rfl, x, rfl, hx, fun H1 s1 => .inl ⟨_, rfl, line_of (by rw [S_len]; omega), _, rfl, ?_, _, rfl, ?_, ?_⟩⟩
      · rw [e0, S_cat, S_len]
        exact line_of (by simp; omega)
      · rw [e0, es, S_cat, S_cat, S_len]
        exact line_of (by simp; omega)
      · refine ⟨_, rfl, a, _, 1, _, rfl, rfl, seqT_same s1 hA, atI_nat (j := 1) rfl, y, rfl, hy, fun H2 s2 => .inl ⟨_, rfl, line_of (by rw [S_len]; omega), _, rfl, ?_, ?_⟩⟩
        · rw [e0, es, S_cat, S_cat, S_cat, S_len]
          exact line_of (by simp; omega)
        · have := q H2 (s1.trans s2)
          unfold wtx at this
          rw [if_neg hc] at this
          rw [e0, es, S_cat, S_cat, S_cat]
          show Q (.str (S (([] ++ ntx x ++ [47]) ++ ntx y))) H2
          simpa using this
end
end My

set_option Elab.async false
set_option linter.all false
set_option maxRecDepth 100000
/-! operators of own classes: a + b by __add__, a in b by __contains__ -/
namespace My
open PySem PySem.Spec PyProof.Rows L2
section
variable {X : Cx}
def rBinOwn (C : Addr) (sp : Sp) : R2 := fun x y H Q => ∃ a b dx dy fs gs, x = .ref a ∧ y = .ref b ∧ H a = some (.ins C dx fs) ∧ H b = some (.ins C dy gs) ∧ sp [x, y] H Q E0
theorem op_binOwn {op : Operator} {C f : Addr} {fd : FuncData} {ps : List Str} {n : Nat} {sp : Sp} (F : FnOk X.prog X.w X.K X.mg X.base CX0 n f fd ps sp) (hc : PySem.W.selfFirst X.K C = true)
    (hs : PySem.W.findIn X.K (.ref C) (PySem.dunder op.info.2) = some (some (.ref f))) (hf : PySem.W.isFn X.K (.ref f) = true) (hb : Binds X.K fd ps []) (hr : Room n X.A) : OpR X (binaryOp op) (rBinOwn C sp) := by
  intro pins s σ H x y u v Q I rx ry d
  obtain ⟨a, b, dx, dy, fs, gs, rfl, rfl, ha, hb', hsp⟩ := d
  cases rx
  cases ry
  show wpAny (model X.prog X.w) X.A (binaryOp op (.ref a) (.ref b)) (EP X pins σ Q) X.xe s
  obtain ⟨mA, J, _⟩ := ins_get I.hok ha
  obtain ⟨mB, J', _⟩ := ins_get I.hok hb'
  obtain ⟨od, J, _⟩ := J.look
  obtain ⟨od', J', _⟩ := J'.look
  obtain ⟨m, hF⟩ := I.fr
  refine PySem.W.binop_K (op := op) hF I.ok.mod.kin J J'.type hc hs hf ?_
  have hl := F.len _ _ _ _ hsp
  have r2 : Vals [V.ref a, V.ref b] [Value.ref a, Value.ref b] := .cons rfl (.cons rfl .nil)
  refine wpAny_call (codeAny_mono (F.run X.A X.stack s H ⟨[.ref a, .ref b], []⟩ [.ref a, .ref b] [.ref a, .ref b] _ E0 hr I.env0 (by
    have := hb s [.ref a, .ref b] I.kIn (by simpa using hl)
    simpa using this) r2 hsp) fun r s' hq => ?_)
  cases r with
  | error e => exact (show False from hq).elim
  | ok fl =>
    cases fl with
    | ret w =>
      obtain ⟨v, H', I', rv, q⟩ := I.after hq
      show PySem.W.CmpBack (EP X pins σ Q) w s'
      have g : EP X pins σ Q w s' := ⟨v, H', I', rv, q⟩
      cases v with
      | non => cases rv; exact g
      | bl b => cases rv; exact g
      | int i => obtain ⟨t, rfl⟩ := rv; exact g
      | str i => obtain ⟨t, rfl⟩ := rv; exact g
      | byt i => obtain ⟨t, rfl⟩ := rv; exact g
      | flt i => obtain ⟨t, rfl⟩ := rv; exact g
      | ref i => cases rv; exact g
      | ty i => cases rv; exact g
    | _ => exact (show False from hq).elim
def rInOwn (C : Addr) (sp : Sp) (neg : Bool) : R2 := fun x y H Q => ∃ b dy gs, y = .ref b ∧ H b = some (.ins C dy gs) ∧ sp [y, x] H (fun v H' => ∃ c, v = .bl c ∧ Q (.bl (if neg then !c else c)) H') E0
theorem op_inOwn {C f : Addr} {fd : FuncData} {ps : List Str} {n : Nat} {sp : Sp} (F : FnOk X.prog X.w X.K X.mg X.base CX0 n f fd ps sp)
    (hs : PySem.W.findIn X.K (.ref C) "__contains__" = some (some (.ref f))) (hf : PySem.W.isFn X.K (.ref f) = true) (hb : Binds X.K fd ps []) (hr : Room n X.A) : OpR X (compareOp .In) (rInOwn C sp false) := by
  intro pins s σ H x y u v Q I rx ry d
  obtain ⟨b, dy, gs, rfl, hb', hsp⟩ := d
  cases ry
  obtain ⟨mB, J', _⟩ := ins_get I.hok hb'
  obtain ⟨od', J', _⟩ := J'.look
  obtain ⟨m, hF⟩ := I.fr
  refine PySem.W.in_K hF I.ok.mod.kin J' hs hf ?_
  have hl := F.len _ _ _ _ hsp
  have r2 : Vals [V.ref b, x] [Value.ref b, u] := .cons rfl (.cons rx .nil)
  refine wpAny_call (codeAny_mono (F.run X.A X.stack s H ⟨[.ref b, u], []⟩ [.ref b, u] [.ref b, x] _ E0 hr I.env0 (by
    have := hb s [.ref b, u] I.kIn (by simpa using hl)
    simpa using this) r2 hsp) fun r s' hq => ?_)
  cases r with
  | error e => exact (show False from hq).elim
  | ok fl =>
    cases fl with
    | ret w =>
      obtain ⟨v, H', I', rv, c, rfl, q⟩ := I.after hq
      cases rv
      exact wpAny_truthy_bool ⟨.bl c, H', I', rfl, q⟩
    | _ => exact (show False from hq).elim
theorem op_notInOwn {C f : Addr} {fd : FuncData} {ps : List Str} {n : Nat} {sp : Sp} (F : FnOk X.prog X.w X.K X.mg X.base CX0 n f fd ps sp)
    (hs : PySem.W.findIn X.K (.ref C) "__contains__" = some (some (.ref f))) (hf : PySem.W.isFn X.K (.ref f) = true) (hb : Binds X.K fd ps []) (hr : Room n X.A) : OpR X (compareOp .NotIn) (rInOwn C sp true) := by
  intro pins s σ H x y u v Q I rx ry d
  obtain ⟨b, dy, gs, rfl, hb', hsp⟩ := d
  cases ry
  obtain ⟨mB, J', _⟩ := ins_get I.hok hb'
  obtain ⟨od', J', _⟩ := J'.look
  obtain ⟨m, hF⟩ := I.fr
  refine PySem.W.notIn_K hF I.ok.mod.kin J' hs hf ?_
  have hl := F.len _ _ _ _ hsp
  have r2 : Vals [V.ref b, x] [Value.ref b, u] := .cons rfl (.cons rx .nil)
  refine wpAny_call (codeAny_mono (F.run X.A X.stack s H ⟨[.ref b, u], []⟩ [.ref b, u] [.ref b, x] _ E0 hr I.env0 (by
    have := hb s [.ref b, u] I.kIn (by simpa using hl)
    simpa using this) r2 hsp) fun r s' hq => ?_)
  cases r with
  | error e => exact (show False from hq).elim
  | ok fl =>
    cases fl with
    | ret w =>
      obtain ⟨v, H', I', rv, c, rfl, q⟩ := I.after hq
      cases rv
      exact wpAny_truthy_bool ⟨.bl (!c), H', I', rfl, q⟩
    | _ => exact (show False from hq).elim
/-- str(x) by an own __str__ -/
def rStrOwn (C : Addr) (sp : Sp) : List V → Hp → VK → Prop := fun xs H Q => ∃ a dx fs, xs = [.ref a] ∧ H a = some (.ins C dx fs) ∧ sp [.ref a] H (fun v H' => ∃ z, v = .str z ∧ Q (.str z) H') E0
theorem call_strOwn {C f : Addr} {fd : FuncData} {ps : List Str} {n : Nat} {sp : Sp} (F : FnOk X.prog X.w X.K X.mg X.base CX0 n f fd ps sp)
    (hs : PySem.W.findIn X.K (.ref C) "__str__" = some (some (.ref f))) (hf : PySem.W.isFn X.K (.ref f) = true) (hb : Binds X.K fd ps []) (hr : Room (n + 2) X.A) : CallR X (.type "str") (rStrOwn C sp) := by
  intro pins s σ H xs us Q I r h
  obtain ⟨a, dx, fs, rfl, ha, hsp⟩ := h
  obtain ⟨u, rfl, ru⟩ := vals1 r
  cases ru
  obtain ⟨mA, J, _⟩ := ins_get I.hok ha
  obtain ⟨od, J, _⟩ := J.look
  have hr2 : Room n X.A.in1.in1 := hr.in1.in1
  refine PySem.W.kso_call hr2.units0 I.kIn J hs hf ?_
  have hl := F.len _ _ _ _ hsp
  have r2 : Vals [V.ref a] [Value.ref a] := .cons rfl .nil
  refine wpAny_call (codeAny_mono (F.run X.A.in1.in1 X.stack s H ⟨[.ref a], []⟩ [.ref a] [.ref a] _ E0 hr2 I.env0.in1.in1 (by
    have := hb s [.ref a] I.kIn (by simpa using hl)
    simpa using this) r2 hsp) fun r s' hq => ?_)
  cases r with
  | error e => exact (show False from hq).elim
  | ok fl =>
    cases fl with
    | ret w =>
      obtain ⟨v, H', I', rv, z, rfl, q⟩ := I.after hq
      obtain ⟨t, rfl⟩ := rv
      exact ⟨.str z, H', I', ⟨t, rfl⟩, q⟩
    | _ => exact (show False from hq).elim
end
end My

set_option Elab.async false
set_option linter.all false
set_option maxRecDepth 100000
namespace My
open PySem PySem.Spec PyProof.Rows L2 SX
abbrev sLesser : Stmt := topS 21
theorem scLesser : FnScope ["a", "b"] ["a", "b"] (defScope sLesser) := ⟨rfl, rfl, rfl, by decide +kernel, rfl, by decide +kernel, by decide +kernel⟩
abbrev sGreater : Stmt := topS 22
theorem scGreater : FnScope ["a", "b"] ["a", "b"] (defScope sGreater) := ⟨rfl, rfl, rfl, by decide +kernel, rfl, by decide +kernel, by decide +kernel⟩
abbrev sSpanInit : Stmt := inClass (topS 24) 0
theorem scSpanInit : FnScope ["self", "low", "high"] ["self", "low", "high"] (defScope sSpanInit) := ⟨rfl, rfl, rfl, by decide +kernel, rfl, by decide +kernel, by decide +kernel⟩
abbrev sSpanBelow : Stmt := inClass (topS 24) 8
theorem scSpanBelow : FnScope ["self", "other"] ["self", "other"] (defScope sSpanBelow) := ⟨rfl, rfl, rfl, by decide +kernel, rfl, by decide +kernel, by decide +kernel⟩
abbrev sSpanAtMost : Stmt := inClass (topS 24) 9
theorem scSpanAtMost : FnScope ["self", "other"] ["self", "other"] (defScope sSpanAtMost) := ⟨rfl, rfl, rfl, by decide +kernel, rfl, by decide +kernel, by decide +kernel⟩
abbrev sSpanSingle : Stmt := inClass (topS 24) 12
theorem scSpanSingle : FnScope ["self"] ["self"] (defScope sSpanSingle) := ⟨rfl, rfl, rfl, by decide +kernel, rfl, by decide +kernel, by decide +kernel⟩
abbrev sSpanContains : Stmt := inClass (topS 24) 13
theorem scSpanContains : FnScope ["self", "value"] ["self", "value"] (defScope sSpanContains) := ⟨rfl, rfl, rfl, by decide +kernel, rfl, by decide +kernel, by decide +kernel⟩
abbrev sSpanSame : Stmt := inClass (topS 24) 10
theorem scSpanSame : FnScope ["self", "other"] ["self", "other"] (defScope sSpanSame) := ⟨rfl, rfl, rfl, by decide +kernel, rfl, by decide +kernel, by decide +kernel⟩
abbrev sSpanTruth : Stmt := inClass (topS 24) 11
theorem scSpanTruth : FnScope ["self"] ["self"] (defScope sSpanTruth) := ⟨rfl, rfl, rfl, by decide +kernel, rfl, by decide +kernel, by decide +kernel⟩
structure CalC (P : Program) (w : World) (K : PySem.W.Frag) (mg : Str → Option Value) (base : Heap) (x : Str) (C : Addr) (k : Nat) (ps : List Str) (sp : Sp) (f : Addr) (fd : FuncData) : Prop where
  m : Mk K C f
  ok : FnOk P w K mg base CX0 k f fd ps sp
  g : mg x = some (.ref C)
  b : Binds K fd ps []
/-- a class without __init__ -/
structure CalO (K : PySem.W.Frag) (mg : Str → Option Value) (x : Str) (C : Addr) : Prop where
  mi : PySem.W.makesIn K C = true
  ini : PySem.W.findIn K (.ref C) "__init__" = some (some (.builtin "object.__init__"))
  kp : PySem.W.keepIn K (.ref C) = true
  g : mg x = some (.ref C)
/-- a method that keeps its promise -/
structure CalM (P : Program) (w : World) (K : PySem.W.Frag) (mg : Str → Option Value) (base : Heap) (C : Addr) (m : Str) (k : Nat) (ps : List Str) (sp : Sp) (f : Addr) (fd : FuncData) : Prop where
  c : Cls K C
  m : Meth K C m f
  ok : FnOk P w K mg base CX0 k f fd ps sp
  b : Binds K fd ps []
/-- a span at a: its ends x0 / x1 and y0 / y1 -/
def SpanAt (K : PySem.W.Frag) (C : Addr) (H : Hp) (a : Addr) (x0 x1 y0 y1 : Int) : Prop := ∃ dx l h, H a = some (.ins C dx [("low", l), ("high", h)]) ∧ IsW K H l x0 x1 ∧ IsW K H h y0 y1
theorem SpanAt.same {K : PySem.W.Frag} {C : Addr} {H H' : Hp} {a : Addr} {x0 x1 y0 y1 : Int} (h : SpanAt K C H a x0 x1 y0 y1) (s : Same H H') : SpanAt K C H' a x0 x1 y0 y1 := by
  obtain ⟨dx, l, h', e, w1, w2⟩ := h
  exact ⟨dx, l, h', s _ _ e, w1.same s, w2.same s⟩
def Four (x0 x1 y0 y1 : Int) : Prop := Sml x0 ∧ Sml x1 ∧ Sml y0 ∧ Sml y1
/-- the lesser of two: the second where it is less -/
def spLesser (K : PySem.W.Frag) (c : Int → Int → Int → Int → Bool) : Sp := fun vs H Q _ => ∃ v w x0 x1 y0 y1, vs = [v, w] ∧ IsW K H v x0 x1 ∧ IsW K H w y0 y1 ∧ Four x0 x1 y0 y1 ∧ Q (if c x0 x1 y0 y1 = true then w else v) H
def spSpanInit (K : PySem.W.Frag) (C : Addr) : Sp := fun vs H Q _ => ∃ (a dx : Addr) (l h : V) (x0 x1 y0 y1 : Int), vs = [.ref a, l, h] ∧ H a = some (.ins C dx []) ∧ IsW K H l x0 x1 ∧ IsW K H h y0 y1 ∧ Four x0 x1 y0 y1 ∧ ¬ (y0 * x1 < x0 * y1) ∧ Q .non (upd H a (.ins C dx [("low", l), ("high", h)]))
def spCmp (K : PySem.W.Frag) (C : Addr) (r : Int → Int → Int → Int → Int → Int → Int → Int → V) : Sp := fun vs H Q _ => ∃ (a b : Addr) (x0 x1 y0 y1 u0 u1 v0 v1 : Int), vs = [.ref a, .ref b] ∧ SpanAt K C H a x0 x1 y0 y1 ∧ SpanAt K C H b u0 u1 v0 v1 ∧ Four x0 x1 y0 y1 ∧ Four u0 u1 v0 v1 ∧ Q (r x0 x1 y0 y1 u0 u1 v0 v1) H
def spSingle (K : PySem.W.Frag) (C : Addr) : Sp := fun vs H Q _ => ∃ (a : Addr) (x0 x1 y0 y1 : Int), vs = [.ref a] ∧ SpanAt K C H a x0 x1 y0 y1 ∧ Q (.bl (decide (x0 = y0) && decide (x1 = y1))) H
def spHas (K : PySem.W.Frag) (C : Addr) : Sp := fun vs H Q _ => ∃ (a : Addr) (v : V) (x0 x1 y0 y1 z0 z1 : Int), vs = [.ref a, v] ∧ SpanAt K C H a x0 x1 y0 y1 ∧ IsW K H v z0 z1 ∧ Four x0 x1 y0 y1 ∧ Sml z0 ∧ Sml z1 ∧ Q (.bl (!decide (z0 * x1 < x0 * z1) && !decide (y0 * z1 < z0 * y1))) H
section
variable {P : Program} {w : World} {K : PySem.W.Frag} {mg : Str → Option Value} {base : Heap}
theorem ok_lesser {f fL : Addr} {fd fdL : FuncData} {k : Nat} (F : Fun K "lesser" "lesser" sLesser f fd) (Ls : Cal P w K mg base "is_less" (k + 1) ["a", "b"] (spLess K) fL fdL) : FnOk P w K mg base CX0 (k + 2) f fd ["a", "b"] (spLesser K fun x0 x1 y0 y1 => decide (y0 * x1 < x0 * y1)) := by
  refine F.ok scLesser (fun vs H Q E h => ?_) (fun cdv A outer s H vs Q E hr h => ?_)
  · obtain ⟨v, w', x0, x1, y0, y1, rfl, _⟩ := h
    rfl
  · obtain ⟨v, w', x0, x1, y0, y1, rfl, hv, hw, ⟨m1, m2, m3, m4⟩, q⟩ := h
    refine ⟨_, (pss_one (ps_ret (pe_ifExp (pt_val (pe_call Ls.ok (hr.mono (by omega)) rfl Ls.g Ls.kp Ls.b .nil pass0 (pa_cons (pv 1) (pa_cons (pv 0) pa_nil)))) (pv 1) (pv 0)))), ?_⟩
    refine ⟨_, rfl, _, rfl, w', v, y0, y1, x0, x1, rfl, hw, hv, m3, m4, m1, m2, _, rfl, ite2 (fun e => ?_) (fun e => ?_)⟩
    · rw [if_pos e] at q
      exact ⟨_, rfl, q⟩
    · rw [if_neg e] at q
      exact ⟨_, rfl, q⟩
theorem ok_greater {f fL : Addr} {fd fdL : FuncData} {k : Nat} (F : Fun K "greater" "greater" sGreater f fd) (Ls : Cal P w K mg base "is_less" (k + 1) ["a", "b"] (spLess K) fL fdL) : FnOk P w K mg base CX0 (k + 2) f fd ["a", "b"] (spLesser K fun x0 x1 y0 y1 => decide (x0 * y1 < y0 * x1)) := by
  refine F.ok scGreater (fun vs H Q E h => ?_) (fun cdv A outer s H vs Q E hr h => ?_)
  · obtain ⟨v, w', x0, x1, y0, y1, rfl, _⟩ := h
    rfl
  · obtain ⟨v, w', x0, x1, y0, y1, rfl, hv, hw, ⟨m1, m2, m3, m4⟩, q⟩ := h
    refine ⟨_, (pss_one (ps_ret (pe_ifExp (pt_val (pe_call Ls.ok (hr.mono (by omega)) rfl Ls.g Ls.kp Ls.b .nil pass0 (pa_cons (pv 0) (pa_cons (pv 1) pa_nil)))) (pv 1) (pv 0)))), ?_⟩
    refine ⟨_, rfl, _, rfl, v, w', x0, x1, y0, y1, rfl, hv, hw, m1, m2, m3, m4, _, rfl, ite2 (fun e => ?_) (fun e => ?_)⟩
    · rw [if_pos e] at q
      exact ⟨_, rfl, q⟩
    · rw [if_neg e] at q
      exact ⟨_, rfl, q⟩
theorem ok_span_init {C f fL : Addr} {fd fdL : FuncData} {k : Nat} (F : Fun K "__init__" "Span.__init__" sSpanInit f fd) (T : Cls K C) (nL : NoAttr K C "low") (nH : NoAttr K C "high") (Ls : Cal P w K mg base "is_less" (k + 1) ["a", "b"] (spLess K) fL fdL) : FnOk P w K mg base CX0 (k + 2) f fd ["self", "low", "high"] (spSpanInit K C) := by
  refine F.ok scSpanInit (fun vs H Q E h => ?_) (fun cdv A outer s H vs Q E hr h => ?_)
  · obtain ⟨a, dx, l, h, x0, x1, y0, y1, rfl, _⟩ := h
    rfl
  · obtain ⟨a, dx, l, h, x0, x1, y0, y1, rfl, ha, hl, hh, ⟨m1, m2, m3, m4⟩, hn, q⟩ := h
    refine ⟨_, (pss_cons (ps_if (pt_val (pe_call Ls.ok (hr.mono (by omega)) rfl Ls.g Ls.kp Ls.b .nil pass0 (pa_cons (pv 2) (pa_cons (pv 1) pa_nil)))) (pss_one ps_never) pss_nil)
      (pss_cons (ps_fld (pv 0) (pv 1) rfl)
      (pss_one (ps_fld (pv 0) (pv 2) rfl)))), ?_⟩
    refine ⟨_, rfl, _, rfl, h, l, y0, y1, x0, x1, rfl, hh, hl, m3, m4, m1, m2, _, rfl, ite2 (fun e => absurd (of_decide_eq_true e) hn) (fun _ => ?_)⟩
    refine ⟨_, rfl, _, rfl, a, C, dx, _, rfl, ha, T, nL, (by show 0 < 1000; decide), ?_⟩
    refine ⟨_, rfl, _, rfl, a, C, dx, _, rfl, upd_same, T, nH, (by show 1 < 1000; decide), ?_⟩
    rw [upd_upd]
    exact q
theorem ok_below {C f fL : Addr} {fd fdL : FuncData} {k : Nat} (F : Fun K "below" "Span.below" sSpanBelow f fd) (T : Cls K C) (nL : NoAttr K C "low") (nH : NoAttr K C "high") (Ls : Cal P w K mg base "is_less" (k + 1) ["a", "b"] (spLess K) fL fdL) : FnOk P w K mg base CX0 (k + 2) f fd ["self", "other"] (spCmp K C fun x0 x1 y0 y1 u0 u1 v0 v1 => if decide (y0 * u1 < u0 * y1) = true then .bl true else if decide (x0 * v1 < v0 * x1) = true then .non else .bl false) := by
  refine F.ok scSpanBelow (fun vs H Q E h => ?_) (fun cdv A outer s H vs Q E hr h => ?_)
  · obtain ⟨a, b, x0, x1, y0, y1, u0, u1, v0, v1, rfl, _⟩ := h
    rfl
  · obtain ⟨a, b, x0, x1, y0, y1, u0, u1, v0, v1, rfl, ⟨dx, l, h, ha, w1, w2⟩, ⟨dy, l', h', hb, w3, w4⟩, ⟨m1, m2, m3, m4⟩, ⟨n1, n2, n3, n4⟩, q⟩ := h
    dsimp only at q
    refine ⟨_, (pss_cons (ps_if (pt_val (pe_call Ls.ok (hr.mono (by omega)) rfl Ls.g Ls.kp Ls.b .nil pass0 (pa_cons (pe_fld (pv 0) rfl) (pa_cons (pe_fld (pv 1) rfl) pa_nil)))) (pss_one (ps_ret pe_bl)) pss_nil)
      (pss_one (ps_ret (pe_ifExp (pt_val (pe_call Ls.ok (hr.mono (by omega)) rfl Ls.g Ls.kp Ls.b .nil pass0 (pa_cons (pe_fld (pv 0) rfl) (pa_cons (pe_fld (pv 1) rfl) pa_nil)))) pe_non pe_bl)))), ?_⟩
    refine ⟨_, rfl, a, C, dx, _, _, rfl, ha, T, nH, rfl, _, rfl, b, C, dy, _, _, rfl, hb, T, nL, rfl, h, l', y0, y1, u0, u1, rfl, w2, w3, m3, m4, n1, n2, _, rfl, ite2 (fun e => ?_) (fun e => ?_)⟩
    · rw [if_pos e] at q
      exact q
    · rw [if_neg e] at q
      refine ⟨_, rfl, a, C, dx, _, _, rfl, ha, T, nL, rfl, _, rfl, b, C, dy, _, _, rfl, hb, T, nH, rfl, l, h', x0, x1, v0, v1, rfl, w1, w4, m1, m2, n3, n4, _, rfl, ite2 (fun e => ?_) (fun e => ?_)⟩
      · rw [if_pos e] at q
        exact q
      · rw [if_neg e] at q
        exact q
theorem ok_at_most {C f fL : Addr} {fd fdL : FuncData} {k : Nat} (F : Fun K "at_most" "Span.at_most" sSpanAtMost f fd) (T : Cls K C) (nL : NoAttr K C "low") (nH : NoAttr K C "high") (Ls : Cal P w K mg base "is_less" (k + 1) ["a", "b"] (spLess K) fL fdL) : FnOk P w K mg base CX0 (k + 2) f fd ["self", "other"] (spCmp K C fun x0 x1 y0 y1 u0 u1 v0 v1 => if (!decide (u0 * y1 < y0 * u1)) = true then .bl true else if decide (v0 * x1 < x0 * v1) = true then .bl false else .non) := by
  refine F.ok scSpanAtMost (fun vs H Q E h => ?_) (fun cdv A outer s H vs Q E hr h => ?_)
  · obtain ⟨a, b, x0, x1, y0, y1, u0, u1, v0, v1, rfl, _⟩ := h
    rfl
  · obtain ⟨a, b, x0, x1, y0, y1, u0, u1, v0, v1, rfl, ⟨dx, l, h, ha, w1, w2⟩, ⟨dy, l', h', hb, w3, w4⟩, ⟨m1, m2, m3, m4⟩, ⟨n1, n2, n3, n4⟩, q⟩ := h
    dsimp only at q
    refine ⟨_, (pss_cons (ps_if (pt_not (pt_val (pe_call Ls.ok (hr.mono (by omega)) rfl Ls.g Ls.kp Ls.b .nil pass0 (pa_cons (pe_fld (pv 1) rfl) (pa_cons (pe_fld (pv 0) rfl) pa_nil))))) (pss_one (ps_ret pe_bl)) pss_nil)
      (pss_one (ps_ret (pe_ifExp (pt_val (pe_call Ls.ok (hr.mono (by omega)) rfl Ls.g Ls.kp Ls.b .nil pass0 (pa_cons (pe_fld (pv 1) rfl) (pa_cons (pe_fld (pv 0) rfl) pa_nil)))) pe_bl pe_non)))), ?_⟩
    refine ⟨_, rfl, b, C, dy, _, _, rfl, hb, T, nL, rfl, _, rfl, a, C, dx, _, _, rfl, ha, T, nH, rfl, l', h, u0, u1, y0, y1, rfl, w3, w2, n1, n2, m3, m4, _, rfl, ite2 (fun e => ?_) (fun e => ?_)⟩
    · rw [if_pos e] at q
      exact q
    · rw [if_neg e] at q
      refine ⟨_, rfl, b, C, dy, _, _, rfl, hb, T, nH, rfl, _, rfl, a, C, dx, _, _, rfl, ha, T, nL, rfl, h', l, v0, v1, x0, x1, rfl, w4, w1, n3, n4, m1, m2, _, rfl, ite2 (fun e => ?_) (fun e => ?_)⟩
      · rw [if_pos e] at q
        exact q
      · rw [if_neg e] at q
        exact q
theorem eqv_two (x0 x1 y0 y1 : Int) : PyData.eqv (.tuple [.int x0, .int x1]) (.tuple [.int y0, .int y1]) = (decide (x0 = y0) && decide (x1 = y1)) := by
  show PyData.eqvAll [.int x0, .int x1] [.int y0, .int y1] = _
  simp only [PyData.eqvAll, PyData.eqv, Bool.and_true]
  rfl
theorem dp_two {H : Hp} {x y : Int} : DpAll K H [.int x, .int y] [.int x, .int y] := .cons (.int x) (.cons (.int y) .nil)
theorem shaped_two (x y : Int) : SeqAt.shaped (.tuple [.int x, .int y]) = true := rfl
theorem ok_single {C f : Addr} {fd : FuncData} {k : Nat} (F : Fun K "single" "Span.single" sSpanSingle f fd) (T : Cls K C) (nL : NoAttr K C "low") (nH : NoAttr K C "high") : FnOk P w K mg base CX0 (k + 1) f fd ["self"] (spSingle K C) := by
  refine F.ok scSpanSingle (fun vs H Q E h => ?_) (fun cdv A outer s H vs Q E hr h => ?_)
  · obtain ⟨a, x0, x1, y0, y1, rfl, _⟩ := h
    rfl
  · obtain ⟨a, x0, x1, y0, y1, rfl, ⟨dx, l, h, ha, ⟨t, rfl, w1⟩, ⟨u, rfl, w2⟩⟩, q⟩ := h
    refine ⟨_, (pss_one (ps_ret (pe_cmpR (op_eqD hr.units) (pe_fld (pv 0) rfl) (pe_fld (pv 0) rfl) (nomark _)))), ?_⟩
    refine ⟨_, rfl, a, C, dx, _, _, rfl, ha, T, nL, rfl, _, rfl, a, C, dx, _, _, rfl, ha, T, nH, rfl, _, _, .tup w1 dp_two, .tup w2 dp_two, shaped_two _ _, shaped_two _ _, ?_⟩
    rw [eqv_two]
    exact q
theorem ok_has {C f fL : Addr} {fd fdL : FuncData} {k : Nat} (F : Fun K "__contains__" "Span.__contains__" sSpanContains f fd) (T : Cls K C) (nL : NoAttr K C "low") (nH : NoAttr K C "high") (Ls : Cal P w K mg base "is_less" (k + 1) ["a", "b"] (spLess K) fL fdL) : FnOk P w K mg base CX0 (k + 2) f fd ["self", "value"] (spHas K C) := by
  refine F.ok scSpanContains (fun vs H Q E h => ?_) (fun cdv A outer s H vs Q E hr h => ?_)
  · obtain ⟨a, v, x0, x1, y0, y1, z0, z1, rfl, _⟩ := h
    rfl
  · obtain ⟨a, v, x0, x1, y0, y1, z0, z1, rfl, ⟨dx, l, h, ha, w1, w2⟩, wz, ⟨m1, m2, m3, m4⟩, n1, n2, q⟩ := h
    refine ⟨_, (pss_one (ps_ret (pe_and (pe_not (pe_call Ls.ok (hr.mono (by omega)) rfl Ls.g Ls.kp Ls.b .nil pass0 (pa_cons (pv 1) (pa_cons (pe_fld (pv 0) rfl) pa_nil)))) (pe_one (pe_not (pe_call Ls.ok (hr.mono (by omega)) rfl Ls.g Ls.kp Ls.b .nil pass0 (pa_cons (pe_fld (pv 0) rfl) (pa_cons (pv 1) pa_nil)))))))), ?_⟩
    refine ⟨_, rfl, _, rfl, a, C, dx, _, _, rfl, ha, T, nL, rfl, v, l, z0, z1, x0, x1, rfl, wz, w1, n1, n2, m1, m2, _, rfl, _, rfl, ?_⟩
    cases e1 : !decide (z0 * x1 < x0 * z1) with
    | false =>
      rw [e1] at q
      exact iteF q
    | true =>
      rw [e1] at q
      exact iteT ⟨_, rfl, a, C, dx, _, _, rfl, ha, T, nH, rfl, _, rfl, h, v, y0, y1, z0, z1, rfl, w2, wz, m3, m4, n1, n2, _, rfl, q⟩
theorem ok_same {C f fL fS : Addr} {fd fdL fdS : FuncData} {k : Nat} (F : Fun K "same" "Span.same" sSpanSame f fd) (T : Cls K C) (nL : NoAttr K C "low") (nH : NoAttr K C "high") (Ls : Cal P w K mg base "is_less" (k + 1) ["a", "b"] (spLess K) fL fdL) (Si : CalM P w K mg base C "single" (k + 1) ["self"] (spSingle K C) fS fdS) :
    FnOk P w K mg base CX0 (k + 2) f fd ["self", "other"] (spCmp K C fun x0 x1 y0 y1 u0 u1 v0 v1 => if decide (y0 * u1 < u0 * y1) = true ∨ decide (v0 * x1 < x0 * v1) = true then .bl false else if (x0 = y0 ∧ x1 = y1) ∧ u0 = v0 ∧ u1 = v1 then .bl true else .non) := by
  refine F.ok scSpanSame (fun vs H Q E h => ?_) (fun cdv A outer s H vs Q E hr h => ?_)
  · obtain ⟨a, b, x0, x1, y0, y1, u0, u1, v0, v1, rfl, _⟩ := h
    rfl
  · obtain ⟨a, b, x0, x1, y0, y1, u0, u1, v0, v1, rfl, ⟨dx, l, h, ha, w1, w2⟩, ⟨dy, l', h', hb, w3, w4⟩, ⟨m1, m2, m3, m4⟩, ⟨n1, n2, n3, n4⟩, q⟩ := h
    dsimp only at q
    refine ⟨_, (pss_cons (ps_if (PW.pt (pw_or (pt_val (pe_call Ls.ok (hr.mono (by omega)) rfl Ls.g Ls.kp Ls.b .nil pass0 (pa_cons (pe_fld (pv 0) rfl) (pa_cons (pe_fld (pv 1) rfl) pa_nil)))) (pw_or1 (pt_val (pe_call Ls.ok (hr.mono (by omega)) rfl Ls.g Ls.kp Ls.b .nil pass0 (pa_cons (pe_fld (pv 1) rfl) (pa_cons (pe_fld (pv 0) rfl) pa_nil))))))) (pss_one (ps_ret pe_bl)) pss_nil)
      (pss_one (ps_ret (pe_ifExp (PW.pt (pw_and (pt_val (pe_meth0 (pv 0) Si.c Si.m Si.ok (hr.mono (by omega)) Si.b .nil pass0)) (pw_and1 (pt_val (pe_meth0 (pv 1) Si.c Si.m Si.ok (hr.mono (by omega)) Si.b .nil pass0))))) pe_bl pe_non)))), ?_⟩
    refine ⟨_, rfl, a, C, dx, _, _, rfl, ha, T, nH, rfl, _, rfl, b, C, dy, _, _, rfl, hb, T, nL, rfl, h, l', y0, y1, u0, u1, rfl, w2, w3, m3, m4, n1, n2, _, rfl, ?_⟩
    by_cases e1 : decide (y0 * u1 < u0 * y1) = true
    · rw [if_pos (.inl e1)] at q
      rw [e1]
      exact iteT (iteT q)
    · rw [Bool.not_eq_true] at e1
      rw [e1]
      refine iteF ⟨_, rfl, b, C, dy, _, _, rfl, hb, T, nH, rfl, _, rfl, a, C, dx, _, _, rfl, ha, T, nL, rfl, h', l, v0, v1, x0, x1, rfl, w4, w1, n3, n4, m1, m2, _, rfl, ?_⟩
      by_cases e2 : decide (v0 * x1 < x0 * v1) = true
      · rw [if_pos (.inr e2)] at q
        rw [e2]
        exact iteT q
      · rw [if_neg (fun z => z.elim (fun z => by rw [e1] at z; cases z) e2)] at q
        rw [Bool.not_eq_true] at e2
        rw [e2]
        refine iteF ⟨_, rfl, a, dx, _, rfl, ha, rfl, a, x0, x1, y0, y1, rfl, ⟨dx, l, h, ha, w1, w2⟩, _, rfl, ?_⟩
        by_cases e3 : x0 = y0 ∧ x1 = y1
        · rw [show (decide (x0 = y0) && decide (x1 = y1)) = true by simp [e3.1, e3.2]]
          refine iteT ⟨_, rfl, b, dy, _, rfl, hb, rfl, b, u0, u1, v0, v1, rfl, ⟨dy, l', h', hb, w3, w4⟩, _, rfl, ?_⟩
          by_cases e4 : u0 = v0 ∧ u1 = v1
          · rw [if_pos ⟨e3, e4⟩] at q
            rw [show (decide (u0 = v0) && decide (u1 = v1)) = true by simp [e4.1, e4.2]]
            exact iteT q
          · rw [if_neg (fun z => e4 z.2)] at q
            rw [show (decide (u0 = v0) && decide (u1 = v1)) = false by
              rw [Bool.and_eq_false_iff, decide_eq_false_iff_not, decide_eq_false_iff_not]
              exact Classical.byContradiction fun z => e4 ⟨Classical.byContradiction fun y => z (.inl y), Classical.byContradiction fun y => z (.inr y)⟩]
            exact iteF q
        · rw [if_neg (fun z => e3 z.1)] at q
          rw [show (decide (x0 = y0) && decide (x1 = y1)) = false by
            rw [Bool.and_eq_false_iff, decide_eq_false_iff_not, decide_eq_false_iff_not]
            exact Classical.byContradiction fun z => e3 ⟨Classical.byContradiction fun y => z (.inl y), Classical.byContradiction fun y => z (.inr y)⟩]
          exact iteF (iteF q)
def hasZ (x0 x1 y0 y1 : Int) : Bool := !decide (0 * x1 < x0 * 1) && !decide (y0 * 1 < 0 * y1)
def spTruth (K : PySem.W.Frag) (C : Addr) : Sp := fun vs H Q _ => ∃ (a : Addr) (x0 x1 y0 y1 : Int), vs = [.ref a] ∧ SpanAt K C H a x0 x1 y0 y1 ∧ Four x0 x1 y0 y1 ∧ Q (if (!hasZ x0 x1 y0 y1) = true then .bl true else if (decide (x0 = y0) && decide (x1 = y1)) = true then .bl false else .non) H
theorem ok_truth {C f fS fC aZ : Addr} {fd fdS fdC : FuncData} {k : Nat} (F : Fun K "truth" "Span.truth" sSpanTruth f fd) (Si : CalM P w K mg base C "single" (k + 1) ["self"] (spSingle K C) fS fdS) (Co : CalM P w K mg base C "__contains__" (k + 2) ["self", "value"] (spHas K C) fC fdC) (g_ZERO : mg "ZERO" = some (.ref aZ)) (hZ : ∀ H, SqT K H aZ [.int 0, .int 1]) :
    FnOk P w K mg base CX0 (k + 3) f fd ["self"] (spTruth K C) := by
  refine F.ok scSpanTruth (fun vs H Q E h => ?_) (fun cdv A outer s H vs Q E hr h => ?_)
  · obtain ⟨a, x0, x1, y0, y1, rfl, _⟩ := h
    rfl
  · obtain ⟨a, x0, x1, y0, y1, rfl, ⟨dx, l, h, ha, w1, w2⟩, m, q⟩ := h
    refine ⟨_, (pss_cons (ps_if (pt_cmpR (op_notInOwn Co.ok Co.m.at_ Co.m.fn Co.b (hr.mono (by omega))) (pe_glob (v := .ref aZ) rfl g_ZERO rfl) (pv 0) rfl) (pss_one (ps_ret pe_bl)) pss_nil)
      (pss_one (ps_ret (pe_ifExp (pt_val (pe_meth0 (pv 0) Si.c Si.m Si.ok (hr.mono (by omega)) Si.b .nil pass0)) pe_bl pe_non)))), ?_⟩
    refine ⟨_, rfl, a, dx, _, rfl, ha, a, .ref aZ, x0, x1, y0, y1, 0, 1, rfl, ⟨dx, l, h, ha, w1, w2⟩, ⟨aZ, rfl, hZ _⟩, m, by unfold Sml; decide +kernel, by unfold Sml; decide +kernel, _, rfl, _, rfl, ite2 (fun e => ?_) (fun e => ?_)⟩
    · have e' : (!hasZ x0 x1 y0 y1) = true := e
      rw [if_pos e'] at q
      exact q
    · have e' : ¬ (!hasZ x0 x1 y0 y1) = true := e
      rw [if_neg e'] at q
      refine ⟨_, rfl, a, dx, _, rfl, ha, rfl, a, x0, x1, y0, y1, rfl, ⟨dx, l, h, ha, w1, w2⟩, _, rfl, ite2 (fun e => ?_) (fun e => ?_)⟩
      · rw [if_pos e] at q
        exact q
      · rw [if_neg e] at q
        exact q
end
end My

set_option Elab.async false
set_option linter.all false
namespace My
/-- not greater: x0 / x1 at most y0 / y1 -/
def Le (x0 x1 y0 y1 : Int) : Prop := ¬ (y0 * x1 < x0 * y1)
theorem le_core {p q p' q' A B X Y : Int} (hX : 0 < X) (hY : 0 < Y) (hq : 0 < q) (hq' : 0 < q') (e1 : p * X = A * q) (e2 : p' * Y = B * q') (h : A * Y ≤ B * X) : p * q' ≤ p' * q := by
  apply Classical.byContradiction
  intro n
  have n : p' * q < p * q' := Int.not_le.mp n
  have hXY : 0 < X * Y := Int.mul_pos hX hY
  have h1 := Int.mul_lt_mul_of_pos_right n hXY
  have h2 : p' * q * (X * Y) = B * X * (q * q') := by
    have : p' * q * (X * Y) = (p' * Y) * (q * X) := by grind
    rw [this, e2]
    grind
  have h3 : p * q' * (X * Y) = A * Y * (q * q') := by
    have : p * q' * (X * Y) = (p * X) * (q' * Y) := by grind
    rw [this, e1]
    grind
  rw [h2, h3] at h1
  have h4 := Int.mul_le_mul_of_nonneg_right h (Int.le_of_lt (Int.mul_pos hq hq'))
  omega
theorem le_add {x0 x1 y0 y1 u0 u1 v0 v1 p q p' q' : Int} (hx : 1 ≤ x1) (hy : 1 ≤ y1) (hu : 1 ≤ u1) (hv : 1 ≤ v1) (h1 : Le x0 x1 y0 y1) (h2 : Le u0 u1 v0 v1) (w1 : WR (x0 * u1 + u0 * x1) (x1 * u1) p q) (w2 : WR (y0 * v1 + v0 * y1) (y1 * v1) p' q') : Le p q p' q' := by
  have X : 0 < x1 * u1 := Int.mul_pos (by omega) (by omega)
  have Y : 0 < y1 * v1 := Int.mul_pos (by omega) (by omega)
  refine Int.not_lt.mpr (le_core X Y (by have := w1.pos; omega) (by have := w2.pos; omega) (w1.eq (by omega)) (w2.eq (by omega)) ?_)
  have a1 := Int.mul_le_mul_of_nonneg_right (Int.not_lt.mp h1) (show 0 ≤ u1 * v1 from Int.le_of_lt (Int.mul_pos (by omega) (by omega)))
  have a2 := Int.mul_le_mul_of_nonneg_right (Int.not_lt.mp h2) (show 0 ≤ x1 * y1 from Int.le_of_lt (Int.mul_pos (by omega) (by omega)))
  have b1 : (x0 * u1 + u0 * x1) * (y1 * v1) = x0 * y1 * (u1 * v1) + u0 * v1 * (x1 * y1) := by grind
  have b2 : (y0 * v1 + v0 * y1) * (x1 * u1) = y0 * x1 * (u1 * v1) + v0 * u1 * (x1 * y1) := by grind
  rw [b1, b2]
  omega
theorem le_sub {x0 x1 y0 y1 u0 u1 v0 v1 p q p' q' : Int} (hx : 1 ≤ x1) (hy : 1 ≤ y1) (hu : 1 ≤ u1) (hv : 1 ≤ v1) (h1 : Le x0 x1 y0 y1) (h2 : Le u0 u1 v0 v1) (w1 : WR (x0 * v1 - v0 * x1) (x1 * v1) p q) (w2 : WR (y0 * u1 - u0 * y1) (y1 * u1) p' q') : Le p q p' q' := by
  have X : 0 < x1 * v1 := Int.mul_pos (by omega) (by omega)
  have Y : 0 < y1 * u1 := Int.mul_pos (by omega) (by omega)
  refine Int.not_lt.mpr (le_core X Y (by have := w1.pos; omega) (by have := w2.pos; omega) (w1.eq (by omega)) (w2.eq (by omega)) ?_)
  have a1 := Int.mul_le_mul_of_nonneg_right (Int.not_lt.mp h1) (show 0 ≤ u1 * v1 from Int.le_of_lt (Int.mul_pos (by omega) (by omega)))
  have a2 := Int.mul_le_mul_of_nonneg_right (Int.not_lt.mp h2) (show 0 ≤ x1 * y1 from Int.le_of_lt (Int.mul_pos (by omega) (by omega)))
  have b1 : (x0 * v1 - v0 * x1) * (y1 * u1) = x0 * y1 * (u1 * v1) - v0 * u1 * (x1 * y1) := by grind
  have b2 : (y0 * u1 - u0 * y1) * (x1 * v1) = y0 * x1 * (u1 * v1) - u0 * v1 * (x1 * y1) := by grind
  rw [b1, b2]
  omega
end My

set_option Elab.async false
set_option linter.all false
set_option maxRecDepth 100000
namespace My
open PySem PySem.Spec PyProof.Rows L2 SX
abbrev sPoint : Stmt := topS 25
theorem scPoint : FnScope ["value"] ["value"] (defScope sPoint) := ⟨rfl, rfl, rfl, by decide +kernel, rfl, by decide +kernel, by decide +kernel⟩
abbrev sSpanAdd : Stmt := inClass (topS 24) 1
theorem scSpanAdd : FnScope ["self", "other"] ["self", "other"] (defScope sSpanAdd) := ⟨rfl, rfl, rfl, by decide +kernel, rfl, by decide +kernel, by decide +kernel⟩
abbrev sSpanSub : Stmt := inClass (topS 24) 2
theorem scSpanSub : FnScope ["self", "other"] ["self", "other"] (defScope sSpanSub) := ⟨rfl, rfl, rfl, by decide +kernel, rfl, by decide +kernel, by decide +kernel⟩
/-- a span that is made -/
theorem new_span {K : PySem.W.Frag} {C : Addr} {H : Hp} {l h : V} {x0 x1 y0 y1 : Int} {Q : VK} (w1 : IsW K H l x0 x1) (w2 : IsW K H h y0 y1) (m : Four x0 x1 y0 y1) (hn : ¬ (y0 * x1 < x0 * y1))
    (q : ∀ x H', H x = none → Same H H' → SpanAt K C H' x x0 x1 y0 y1 → Q (.ref x) H') : ∀ x dx, H x = none → H dx = none → dx ≠ x → spSpanInit K C [.ref x, l, h] (upd (upd H dx (.own x)) x (.ins C dx [])) (fun v H2 => v = .non ∧ Q (.ref x) H2) E0 := by
  intro x dx hx hdx ne
  have s3 : Same H (upd (upd H dx (.own x)) x (.ins C dx [])) := same_updF hx (same_upd hdx)
  refine ⟨x, dx, l, h, x0, x1, y0, y1, rfl, upd_same, w1.same s3, w2.same s3, m, hn, rfl, ?_⟩
  have s4 : Same H (upd (upd (upd H dx (.own x)) x (.ins C dx [])) x (.ins C dx [("low", l), ("high", h)])) := same_updF hx s3
  exact q x _ hx s4 ⟨dx, l, h, upd_same, w1.same s4, w2.same s4⟩
def spPoint (K : PySem.W.Frag) (C : Addr) : Sp := fun vs H Q _ => ∃ (v : V) (z0 z1 : Int), vs = [v] ∧ IsW K H v z0 z1 ∧ Sml z0 ∧ Sml z1 ∧ ∀ x H', H x = none → Same H H' → SpanAt K C H' x z0 z1 z0 z1 → Q (.ref x) H'
def Smt (x : Int) : Prop := x.natAbs < 2 ^ 700
theorem Smt.sml {x : Int} (h : Smt x) : Sml x := Nat.lt_of_lt_of_le h (Nat.pow_le_pow_right (by decide) (by decide))
/-- ends that are worths of no great size -/
def Ends4 (x0 x1 y0 y1 : Int) : Prop := Smt x0 ∧ Smt x1 ∧ Smt y0 ∧ Smt y1 ∧ 1 ≤ x1 ∧ 1 ≤ y1
theorem mul_b {a b : Int} (h : Smt a) (h' : Smt b) : (a * b).natAbs < 2 ^ 1400 := by
  rw [Int.natAbs_mul, show 1400 = 700 + 700 from rfl, Nat.pow_add]
  exact Nat.mul_lt_mul'' h h'
theorem big_b : 2 ^ 1400 + 2 ^ 1400 + 2 ≤ 2 ^ 3000 := by decide +kernel
theorem sml_mul {a b q : Int} (h0 : q.natAbs ≤ (a * b).natAbs + 1) (h : Smt a) (h' : Smt b) : Sml q := by
  have := mul_b h h'
  have := big_b
  unfold Sml
  omega
theorem sml_sum {a b c d p : Int} (h0 : p.natAbs ≤ (a * b + c * d).natAbs) (h1 : Smt a) (h2 : Smt b) (h3 : Smt c) (h4 : Smt d) : Sml p := by
  have := mul_b h1 h2
  have := mul_b h3 h4
  have := big_b
  unfold Sml
  omega
theorem sml_dif {a b c d p : Int} (h0 : p.natAbs ≤ (a * b - c * d).natAbs) (h1 : Smt a) (h2 : Smt b) (h3 : Smt c) (h4 : Smt d) : Sml p := by
  have := mul_b h1 h2
  have := mul_b h3 h4
  have := big_b
  unfold Sml
  omega
def spAdd (K : PySem.W.Frag) (C : Addr) : Sp := fun vs H Q _ => ∃ (a b : Addr) (x0 x1 y0 y1 u0 u1 v0 v1 : Int), vs = [.ref a, .ref b] ∧ SpanAt K C H a x0 x1 y0 y1 ∧ SpanAt K C H b u0 u1 v0 v1 ∧ Ends4 x0 x1 y0 y1 ∧ Ends4 u0 u1 v0 v1 ∧ Le x0 x1 y0 y1 ∧ Le u0 u1 v0 v1 ∧ ∀ x H' p q p' q', H x = none → Same H H' → WR (x0 * u1 + u0 * x1) (x1 * u1) p q → WR (y0 * v1 + v0 * y1) (y1 * v1) p' q' → SpanAt K C H' x p q p' q' → Q (.ref x) H'
def spSub (K : PySem.W.Frag) (C : Addr) : Sp := fun vs H Q _ => ∃ (a b : Addr) (x0 x1 y0 y1 u0 u1 v0 v1 : Int), vs = [.ref a, .ref b] ∧ SpanAt K C H a x0 x1 y0 y1 ∧ SpanAt K C H b u0 u1 v0 v1 ∧ Ends4 x0 x1 y0 y1 ∧ Ends4 u0 u1 v0 v1 ∧ Le x0 x1 y0 y1 ∧ Le u0 u1 v0 v1 ∧ ∀ x H' p q p' q', H x = none → Same H H' → WR (x0 * v1 - v0 * x1) (x1 * v1) p q → WR (y0 * u1 - u0 * y1) (y1 * u1) p' q' → SpanAt K C H' x p q p' q' → Q (.ref x) H'
section
variable {P : Program} {w : World} {K : PySem.W.Frag} {mg : Str → Option Value} {base : Heap}
theorem ok_point {C f fI : Addr} {fd fdI : FuncData} {k : Nat} (F : Fun K "point" "point" sPoint f fd) (MkS : CalC P w K mg base "Span" C (k + 2) ["self", "low", "high"] (spSpanInit K C) fI fdI) : FnOk P w K mg base CX0 (k + 4) f fd ["value"] (spPoint K C) := by
  refine F.ok scPoint (fun vs H Q E h => ?_) (fun cdv A outer s H vs Q E hr h => ?_)
  · obtain ⟨v, z0, z1, rfl, _⟩ := h
    rfl
  · obtain ⟨v, z0, z1, rfl, hv, m0, m1, q⟩ := h
    refine ⟨_, (pss_one (ps_ret (pe_make MkS.m MkS.ok (hr.mono (by omega)) rfl MkS.g MkS.b .nil pass0 (pa_cons (pv 0) (pa_cons (pv 0) pa_nil))))), ?_⟩
    exact ⟨_, rfl, _, rfl, new_span hv hv ⟨m0, m1, m0, m1⟩ (Int.lt_irrefl _) q⟩
theorem ok_add {C f fI fA : Addr} {fd fdI fdA : FuncData} {k : Nat} (F : Fun K "__add__" "Span.__add__" sSpanAdd f fd) (T : Cls K C) (nL : NoAttr K C "low") (nH : NoAttr K C "high") (MkS : CalC P w K mg base "Span" C (k + 2) ["self", "low", "high"] (spSpanInit K C) fI fdI) (Pl : Cal P w K mg base "plus" (k + 2) ["a", "b"] (spPlus K) fA fdA) :
    FnOk P w K mg base CX0 (k + 4) f fd ["self", "other"] (spAdd K C) := by
  refine F.ok scSpanAdd (fun vs H Q E h => ?_) (fun cdv A outer s H vs Q E hr h => ?_)
  · obtain ⟨a, b, x0, x1, y0, y1, u0, u1, v0, v1, rfl, _⟩ := h
    rfl
  · obtain ⟨a, b, x0, x1, y0, y1, u0, u1, v0, v1, rfl, ⟨dx, l, h, ha, w1, w2⟩, ⟨dy, l', h', hb, w3, w4⟩, m, n, p1, p2, q⟩ := h
    refine ⟨_, (pss_one (ps_ret (pe_make MkS.m MkS.ok (hr.mono (by omega)) rfl MkS.g MkS.b .nil pass0 (pa_cons (pe_call Pl.ok (hr.mono (by omega)) rfl Pl.g Pl.kp Pl.b .nil pass0 (pa_cons (pe_fld (pv 0) rfl) (pa_cons (pe_fld (pv 1) rfl) pa_nil))) (pa_cons (pe_call Pl.ok (hr.mono (by omega)) rfl Pl.g Pl.kp Pl.b .nil pass0 (pa_cons (pe_fld (pv 0) rfl) (pa_cons (pe_fld (pv 1) rfl) pa_nil))) pa_nil))))), ?_⟩
    refine ⟨_, rfl, a, C, dx, _, _, rfl, ha, T, nL, rfl, _, rfl, b, C, dy, _, _, rfl, hb, T, nL, rfl, l, l', x0, x1, u0, u1, rfl, w1, w3, m.1.sml, m.2.1.sml, n.1.sml, n.2.1.sml, fun r1 p q1 H1 k1 i1 s1 => ?_⟩
    refine ⟨_, rfl, a, C, dx, _, _, rfl, s1 _ _ ha, T, nH, rfl, _, rfl, b, C, dy, _, _, rfl, s1 _ _ hb, T, nH, rfl, h, h', y0, y1, v0, v1, rfl, w2.same s1, w4.same s1, m.2.2.1.sml, m.2.2.2.1.sml, n.2.2.1.sml, n.2.2.2.1.sml, fun r2 p' q2 H2 k2 i2 s2 => ?_⟩
    refine new_span (i1.same s2) i2 ⟨?_, ?_, ?_, ?_⟩ (le_add m.2.2.2.2.1 m.2.2.2.2.2 n.2.2.2.2.1 n.2.2.2.2.2 p1 p2 k1 k2) fun x H3 nx s3 hx => q x H3 _ _ _ _ ((s1.trans s2).free nx) ((s1.trans s2).trans s3) k1 k2 hx
    · exact sml_sum k1.lx m.1 n.2.1 n.1 m.2.1
    · exact sml_mul k1.ly m.2.1 n.2.1
    · exact sml_sum k2.lx m.2.2.1 n.2.2.2.1 n.2.2.1 m.2.2.2.1
    · exact sml_mul k2.ly m.2.2.2.1 n.2.2.2.1
theorem ok_sub {C f fI fA : Addr} {fd fdI fdA : FuncData} {k : Nat} (F : Fun K "__sub__" "Span.__sub__" sSpanSub f fd) (T : Cls K C) (nL : NoAttr K C "low") (nH : NoAttr K C "high") (MkS : CalC P w K mg base "Span" C (k + 2) ["self", "low", "high"] (spSpanInit K C) fI fdI) (Mi : Cal P w K mg base "minus" (k + 2) ["a", "b"] (spMinus K) fA fdA) :
    FnOk P w K mg base CX0 (k + 4) f fd ["self", "other"] (spSub K C) := by
  refine F.ok scSpanSub (fun vs H Q E h => ?_) (fun cdv A outer s H vs Q E hr h => ?_)
  · obtain ⟨a, b, x0, x1, y0, y1, u0, u1, v0, v1, rfl, _⟩ := h
    rfl
  · obtain ⟨a, b, x0, x1, y0, y1, u0, u1, v0, v1, rfl, ⟨dx, l, h, ha, w1, w2⟩, ⟨dy, l', h', hb, w3, w4⟩, m, n, p1, p2, q⟩ := h
    refine ⟨_, (pss_one (ps_ret (pe_make MkS.m MkS.ok (hr.mono (by omega)) rfl MkS.g MkS.b .nil pass0 (pa_cons (pe_call Mi.ok (hr.mono (by omega)) rfl Mi.g Mi.kp Mi.b .nil pass0 (pa_cons (pe_fld (pv 0) rfl) (pa_cons (pe_fld (pv 1) rfl) pa_nil))) (pa_cons (pe_call Mi.ok (hr.mono (by omega)) rfl Mi.g Mi.kp Mi.b .nil pass0 (pa_cons (pe_fld (pv 0) rfl) (pa_cons (pe_fld (pv 1) rfl) pa_nil))) pa_nil))))), ?_⟩
    refine ⟨_, rfl, a, C, dx, _, _, rfl, ha, T, nL, rfl, _, rfl, b, C, dy, _, _, rfl, hb, T, nH, rfl, l, h', x0, x1, v0, v1, rfl, w1, w4, m.1.sml, m.2.1.sml, n.2.2.1.sml, n.2.2.2.1.sml, fun r1 p q1 H1 k1 i1 s1 => ?_⟩
    refine ⟨_, rfl, a, C, dx, _, _, rfl, s1 _ _ ha, T, nH, rfl, _, rfl, b, C, dy, _, _, rfl, s1 _ _ hb, T, nL, rfl, h, l', y0, y1, u0, u1, rfl, w2.same s1, w3.same s1, m.2.2.1.sml, m.2.2.2.1.sml, n.1.sml, n.2.1.sml, fun r2 p' q2 H2 k2 i2 s2 => ?_⟩
    refine new_span (i1.same s2) i2 ⟨?_, ?_, ?_, ?_⟩ (le_sub m.2.2.2.2.1 m.2.2.2.2.2 n.2.2.2.2.1 n.2.2.2.2.2 p1 p2 k1 k2) fun x H3 nx s3 hx => q x H3 _ _ _ _ ((s1.trans s2).free nx) ((s1.trans s2).trans s3) k1 k2 hx
    · exact sml_dif k1.lx m.1 n.2.2.2.1 n.2.2.1 m.2.1
    · exact sml_mul k1.ly m.2.1 n.2.2.2.1
    · exact sml_dif k2.lx m.2.2.1 n.2.1 n.1 m.2.2.2.1
    · exact sml_mul k2.ly m.2.2.2.1 n.2.1
end
end My

set_option Elab.async false
set_option linter.all false
set_option maxRecDepth 100000
namespace My
open PySem PySem.Spec PyProof.Rows L2 SX
abbrev sSpanLeast : Stmt := inClass (topS 24) 6
theorem scSpanLeast : FnScope ["self", "other"] ["self", "other"] (defScope sSpanLeast) := ⟨rfl, rfl, rfl, by decide +kernel, rfl, by decide +kernel, by decide +kernel⟩
abbrev sSpanGreatest : Stmt := inClass (topS 24) 7
theorem scSpanGreatest : FnScope ["self", "other"] ["self", "other"] (defScope sSpanGreatest) := ⟨rfl, rfl, rfl, by decide +kernel, rfl, by decide +kernel, by decide +kernel⟩
def mn (x0 x1 u0 u1 : Int) : Int × Int := if decide (u0 * x1 < x0 * u1) = true then (u0, u1) else (x0, x1)
def mx (x0 x1 u0 u1 : Int) : Int × Int := if decide (x0 * u1 < u0 * x1) = true then (u0, u1) else (x0, x1)
theorem Le.trans {x0 x1 y0 y1 z0 z1 : Int} (hx : 1 ≤ x1) (hy : 1 ≤ y1) (hz : 1 ≤ z1) (h1 : Le x0 x1 y0 y1) (h2 : Le y0 y1 z0 z1) : Le x0 x1 z0 z1 := by
  have a1 := Int.mul_le_mul_of_nonneg_right (Int.not_lt.mp h1) (show 0 ≤ z1 by omega)
  have a2 := Int.mul_le_mul_of_nonneg_right (Int.not_lt.mp h2) (show 0 ≤ x1 by omega)
  refine Int.not_lt.mpr (Classical.byContradiction fun n => ?_)
  have n1 := Int.mul_lt_mul_of_pos_right (Int.not_le.mp n) (show 0 < y1 by omega)
  have b1 : x0 * y1 * z1 = x0 * z1 * y1 := by grind
  have b2 : y0 * x1 * z1 = y0 * z1 * x1 := by grind
  have b3 : z0 * y1 * x1 = z0 * x1 * y1 := by grind
  omega
theorem le_or {x0 x1 y0 y1 : Int} : Le x0 x1 y0 y1 ∨ Le y0 y1 x0 x1 := by
  unfold Le
  omega
theorem mn_cases (x0 x1 u0 u1 : Int) : (mn x0 x1 u0 u1 = (u0, u1) ∧ Le u0 u1 x0 x1) ∨ (mn x0 x1 u0 u1 = (x0, x1) ∧ Le x0 x1 u0 u1) := by
  unfold mn Le
  by_cases h : u0 * x1 < x0 * u1
  · rw [if_pos (decide_eq_true h)]
    exact .inl ⟨rfl, by omega⟩
  · rw [if_neg (fun z => h (of_decide_eq_true z))]
    exact .inr ⟨rfl, by omega⟩
theorem mx_cases (x0 x1 u0 u1 : Int) : (mx x0 x1 u0 u1 = (u0, u1) ∧ Le x0 x1 u0 u1) ∨ (mx x0 x1 u0 u1 = (x0, x1) ∧ Le u0 u1 x0 x1) := by
  unfold mx Le
  by_cases h : x0 * u1 < u0 * x1
  · rw [if_pos (decide_eq_true h)]
    exact .inl ⟨rfl, by omega⟩
  · rw [if_neg (fun z => h (of_decide_eq_true z))]
    exact .inr ⟨rfl, by omega⟩
theorem mn_le {x0 x1 y0 y1 u0 u1 v0 v1 : Int} (m : Ends4 x0 x1 y0 y1) (n : Ends4 u0 u1 v0 v1) (h1 : Le x0 x1 y0 y1) (h2 : Le u0 u1 v0 v1) : Le (mn x0 x1 u0 u1).1 (mn x0 x1 u0 u1).2 (mn y0 y1 v0 v1).1 (mn y0 y1 v0 v1).2 := by
  obtain ⟨_, _, _, _, mx1, my1⟩ := m
  obtain ⟨_, _, _, _, nu1, nv1⟩ := n
  rcases mn_cases x0 x1 u0 u1 with ⟨e, a⟩ | ⟨e, a⟩ <;> rcases mn_cases y0 y1 v0 v1 with ⟨f, b⟩ | ⟨f, b⟩ <;> rw [e, f]
  · exact h2
  · exact a.trans nu1 mx1 my1 h1
  · exact a.trans mx1 nu1 nv1 h2
  · exact h1
theorem mx_le {x0 x1 y0 y1 u0 u1 v0 v1 : Int} (m : Ends4 x0 x1 y0 y1) (n : Ends4 u0 u1 v0 v1) (h1 : Le x0 x1 y0 y1) (h2 : Le u0 u1 v0 v1) : Le (mx x0 x1 u0 u1).1 (mx x0 x1 u0 u1).2 (mx y0 y1 v0 v1).1 (mx y0 y1 v0 v1).2 := by
  obtain ⟨_, _, _, _, mx1, my1⟩ := m
  obtain ⟨_, _, _, _, nu1, nv1⟩ := n
  rcases mx_cases x0 x1 u0 u1 with ⟨e, a⟩ | ⟨e, a⟩ <;> rcases mx_cases y0 y1 v0 v1 with ⟨f, b⟩ | ⟨f, b⟩ <;> rw [e, f]
  · exact h2
  · exact h2.trans nu1 nv1 my1 b
  · exact h1.trans mx1 my1 nv1 b
  · exact h1
def spMm (K : PySem.W.Frag) (C : Addr) (c : Int → Int → Int → Int → Int × Int) : Sp := fun vs H Q _ => ∃ (a b : Addr) (x0 x1 y0 y1 u0 u1 v0 v1 : Int), vs = [.ref a, .ref b] ∧ SpanAt K C H a x0 x1 y0 y1 ∧ SpanAt K C H b u0 u1 v0 v1 ∧ Ends4 x0 x1 y0 y1 ∧ Ends4 u0 u1 v0 v1 ∧ Le x0 x1 y0 y1 ∧ Le u0 u1 v0 v1 ∧ ∀ x H', H x = none → Same H H' → SpanAt K C H' x (c x0 x1 u0 u1).1 (c x0 x1 u0 u1).2 (c y0 y1 v0 v1).1 (c y0 y1 v0 v1).2 → Q (.ref x) H'
theorem isw_if {K : PySem.W.Frag} {H : Hp} {v w : V} {x0 x1 y0 y1 : Int} {c : Prop} [Decidable c] (h1 : IsW K H v x0 x1) (h2 : IsW K H w y0 y1) : IsW K H (if c then w else v) (if c then (y0, y1) else (x0, x1)).1 (if c then (y0, y1) else (x0, x1)).2 := by
  by_cases h : c
  · rw [if_pos h, if_pos h]
    exact h2
  · rw [if_neg h, if_neg h]
    exact h1
theorem sml_if {x0 x1 y0 y1 : Int} {c : Prop} [Decidable c] (h1 : Sml x0) (h2 : Sml x1) (h3 : Sml y0) (h4 : Sml y1) : Sml (if c then (y0, y1) else (x0, x1)).1 ∧ Sml (if c then (y0, y1) else (x0, x1)).2 := by
  by_cases h : c
  · rw [if_pos h]
    exact ⟨h3, h4⟩
  · rw [if_neg h]
    exact ⟨h1, h2⟩
section
variable {P : Program} {w : World} {K : PySem.W.Frag} {mg : Str → Option Value} {base : Heap}
theorem ok_least {C f fI fA : Addr} {fd fdI fdA : FuncData} {k : Nat} (F : Fun K "least" "Span.least" sSpanLeast f fd) (T : Cls K C) (nL : NoAttr K C "low") (nH : NoAttr K C "high") (MkS : CalC P w K mg base "Span" C (k + 2) ["self", "low", "high"] (spSpanInit K C) fI fdI) (Le : Cal P w K mg base "lesser" (k + 2) ["a", "b"] (spLesser K fun x0 x1 y0 y1 => decide (y0 * x1 < x0 * y1)) fA fdA) :
    FnOk P w K mg base CX0 (k + 4) f fd ["self", "other"] (spMm K C mn) := by
  refine F.ok scSpanLeast (fun vs H Q E h => ?_) (fun cdv A outer s H vs Q E hr h => ?_)
  · obtain ⟨a, b, x0, x1, y0, y1, u0, u1, v0, v1, rfl, _⟩ := h
    rfl
  · obtain ⟨a, b, x0, x1, y0, y1, u0, u1, v0, v1, rfl, ⟨dx, l, h, ha, w1, w2⟩, ⟨dy, l', h', hb, w3, w4⟩, m, n, p1, p2, q⟩ := h
    refine ⟨_, (pss_one (ps_ret (pe_make MkS.m MkS.ok (hr.mono (by omega)) rfl MkS.g MkS.b .nil pass0 (pa_cons (pe_call Le.ok (hr.mono (by omega)) rfl Le.g Le.kp Le.b .nil pass0 (pa_cons (pe_fld (pv 0) rfl) (pa_cons (pe_fld (pv 1) rfl) pa_nil))) (pa_cons (pe_call Le.ok (hr.mono (by omega)) rfl Le.g Le.kp Le.b .nil pass0 (pa_cons (pe_fld (pv 0) rfl) (pa_cons (pe_fld (pv 1) rfl) pa_nil))) pa_nil))))), ?_⟩
    refine ⟨_, rfl, a, C, dx, _, _, rfl, ha, T, nL, rfl, _, rfl, b, C, dy, _, _, rfl, hb, T, nL, rfl, l, l', x0, x1, u0, u1, rfl, w1, w3, ⟨m.1.sml, m.2.1.sml, n.1.sml, n.2.1.sml⟩, ?_⟩
    refine ⟨_, rfl, a, C, dx, _, _, rfl, ha, T, nH, rfl, _, rfl, b, C, dy, _, _, rfl, hb, T, nH, rfl, h, h', y0, y1, v0, v1, rfl, w2, w4, ⟨m.2.2.1.sml, m.2.2.2.1.sml, n.2.2.1.sml, n.2.2.2.1.sml⟩, ?_⟩
    have g1 := sml_if (c := decide (u0 * x1 < x0 * u1) = true) m.1.sml m.2.1.sml n.1.sml n.2.1.sml
    have g2 := sml_if (c := decide (v0 * y1 < y0 * v1) = true) m.2.2.1.sml m.2.2.2.1.sml n.2.2.1.sml n.2.2.2.1.sml
    exact new_span (isw_if w1 w3) (isw_if w2 w4) ⟨g1.1, g1.2, g2.1, g2.2⟩ (mn_le m n p1 p2) q
theorem ok_greatest {C f fI fA : Addr} {fd fdI fdA : FuncData} {k : Nat} (F : Fun K "greatest" "Span.greatest" sSpanGreatest f fd) (T : Cls K C) (nL : NoAttr K C "low") (nH : NoAttr K C "high") (MkS : CalC P w K mg base "Span" C (k + 2) ["self", "low", "high"] (spSpanInit K C) fI fdI) (Gr : Cal P w K mg base "greater" (k + 2) ["a", "b"] (spLesser K fun x0 x1 y0 y1 => decide (x0 * y1 < y0 * x1)) fA fdA) :
    FnOk P w K mg base CX0 (k + 4) f fd ["self", "other"] (spMm K C mx) := by
  refine F.ok scSpanGreatest (fun vs H Q E h => ?_) (fun cdv A outer s H vs Q E hr h => ?_)
  · obtain ⟨a, b, x0, x1, y0, y1, u0, u1, v0, v1, rfl, _⟩ := h
    rfl
  · obtain ⟨a, b, x0, x1, y0, y1, u0, u1, v0, v1, rfl, ⟨dx, l, h, ha, w1, w2⟩, ⟨dy, l', h', hb, w3, w4⟩, m, n, p1, p2, q⟩ := h
    refine ⟨_, (pss_one (ps_ret (pe_make MkS.m MkS.ok (hr.mono (by omega)) rfl MkS.g MkS.b .nil pass0 (pa_cons (pe_call Gr.ok (hr.mono (by omega)) rfl Gr.g Gr.kp Gr.b .nil pass0 (pa_cons (pe_fld (pv 0) rfl) (pa_cons (pe_fld (pv 1) rfl) pa_nil))) (pa_cons (pe_call Gr.ok (hr.mono (by omega)) rfl Gr.g Gr.kp Gr.b .nil pass0 (pa_cons (pe_fld (pv 0) rfl) (pa_cons (pe_fld (pv 1) rfl) pa_nil))) pa_nil))))), ?_⟩
    refine ⟨_, rfl, a, C, dx, _, _, rfl, ha, T, nL, rfl, _, rfl, b, C, dy, _, _, rfl, hb, T, nL, rfl, l, l', x0, x1, u0, u1, rfl, w1, w3, ⟨m.1.sml, m.2.1.sml, n.1.sml, n.2.1.sml⟩, ?_⟩
    refine ⟨_, rfl, a, C, dx, _, _, rfl, ha, T, nH, rfl, _, rfl, b, C, dy, _, _, rfl, hb, T, nH, rfl, h, h', y0, y1, v0, v1, rfl, w2, w4, ⟨m.2.2.1.sml, m.2.2.2.1.sml, n.2.2.1.sml, n.2.2.2.1.sml⟩, ?_⟩
    have g1 := sml_if (c := decide (x0 * u1 < u0 * x1) = true) m.1.sml m.2.1.sml n.1.sml n.2.1.sml
    have g2 := sml_if (c := decide (y0 * v1 < v0 * y1) = true) m.2.2.1.sml m.2.2.2.1.sml n.2.2.1.sml n.2.2.2.1.sml
    exact new_span (isw_if w1 w3) (isw_if w2 w4) ⟨g1.1, g1.2, g2.1, g2.2⟩ (mx_le m n p1 p2) q
end
end My

set_option Elab.async false
set_option linter.all false
namespace My
theorem den_ne (a : Rat) : (a.den : Rat) ≠ 0 := by
  have := a.den_nz
  intro h
  exact this (Rat.natCast_inj.mp h)
theorem rat_self (a : Rat) : a = (a.num : Rat) / (a.den : Rat) := by
  have := Rat.mkRat_eq_div a.num a.den
  rw [Rat.mkRat_self] at this
  exact this
theorem div_cross {t b : Int} (hb : b ≠ 0) : ((t : Rat) / (b : Rat)).num * b = t * ((t : Rat) / (b : Rat)).den := by
  have e := Rat.divInt_eq_div t b
  rw [← e]
  have h := Rat.num_divInt_den (Rat.divInt t b)
  exact (Rat.divInt_eq_divInt_iff (by have := (Rat.divInt t b).den_nz; omega) hb).mp h
theorem WR.rat {t b x y : Int} (W : WR t b x y) : x = ((t : Rat) / (b : Rat)).num ∧ y = (((t : Rat) / (b : Rat)).den : Int) := by
  by_cases hb : b = 0
  · subst hb
    obtain ⟨e1, e2⟩ := W.z rfl
    subst e1 e2
    have : (t : Rat) / ((0 : Int) : Rat) = 0 := by
      rw [Rat.intCast_zero, Rat.div_def, Rat.inv_zero, Rat.mul_zero]
    rw [this]
    exact ⟨rfl, rfl⟩
  · have c := div_cross (t := t) hb
    have e := W.eq hb
    have dn := ((t : Rat) / (b : Rat)).den_nz
    have rd := ((t : Rat) / (b : Rat)).reduced
    revert c dn rd
    generalize (t : Rat) / (b : Rat) = q
    intro c dn rd
    refine low_uniq W.pos (by omega) W.low (by rw [Int.natAbs_natCast]; exact rd) ?_
    have : (x * q.den) * b = (q.num * y) * b := by
      have a1 : (x * q.den) * b = (x * b) * q.den := by grind
      have a2 : (q.num * y) * b = (q.num * b) * y := by grind
      rw [a1, a2, e, c]
      grind
    exact Int.eq_of_mul_eq_mul_right hb this
theorem cast_den (a : Rat) : (((a.den : Int)) : Rat) = (a.den : Rat) := rfl
theorem plus_rat (a b : Rat) : ((a.num * b.den + b.num * a.den : Int) : Rat) / ((a.den * b.den : Int) : Rat) = a + b := by
  conv => rhs; rw [rat_self a, rat_self b]
  have h1 := den_ne a
  have h2 := den_ne b
  simp only [Rat.intCast_add, Rat.intCast_mul, cast_den]
  generalize (a.den : Rat) = d at *
  generalize (b.den : Rat) = e at *
  generalize (a.num : Rat) = n at *
  generalize (b.num : Rat) = m at *
  grind
theorem minus_rat (a b : Rat) : ((a.num * b.den - b.num * a.den : Int) : Rat) / ((a.den * b.den : Int) : Rat) = a - b := by
  conv => rhs; rw [rat_self a, rat_self b]
  have h1 := den_ne a
  have h2 := den_ne b
  simp only [Rat.intCast_sub, Rat.intCast_mul, cast_den]
  generalize (a.den : Rat) = d at *
  generalize (b.den : Rat) = e at *
  generalize (a.num : Rat) = n at *
  generalize (b.num : Rat) = m at *
  grind
theorem mul_rat (a b : Rat) : ((a.num * b.num : Int) : Rat) / ((a.den * b.den : Int) : Rat) = a * b := by
  conv => rhs; rw [rat_self a, rat_self b]
  have h1 := den_ne a
  have h2 := den_ne b
  simp only [Rat.intCast_mul, cast_den]
  generalize (a.den : Rat) = d at *
  generalize (b.den : Rat) = e at *
  generalize (a.num : Rat) = n at *
  generalize (b.num : Rat) = m at *
  grind
theorem div_rat (a b : Rat) : ((a.num * b.den : Int) : Rat) / ((a.den * b.num : Int) : Rat) = a / b := by
  conv => rhs; rw [rat_self a, rat_self b]
  have h1 := den_ne a
  have h2 := den_ne b
  simp only [Rat.intCast_mul, cast_den]
  generalize (a.den : Rat) = d at *
  generalize (b.den : Rat) = e at *
  generalize (a.num : Rat) = n at *
  generalize (b.num : Rat) = m at *
  by_cases hm : m = 0 <;> grind
/-- a worth of at most n bits -/
structure Sz (n : Nat) (q : Rat) : Prop where
  a : q.num.natAbs < 2 ^ n
  b : q.den < 2 ^ n
theorem Sz.mono {n m : Nat} {q : Rat} (h : Sz n q) (l : n ≤ m) : Sz m q :=
  ⟨Nat.lt_of_lt_of_le h.a (Nat.pow_le_pow_right (by decide) l), Nat.lt_of_lt_of_le h.b (Nat.pow_le_pow_right (by decide) l)⟩
theorem sz_div {n : Nat} {t b : Int} (hb : b ≠ 0) (h1 : t.natAbs < 2 ^ n) (h2 : b.natAbs < 2 ^ n) : Sz n ((t : Rat) / (b : Rat)) := by
  have c := div_cross (t := t) hb
  have dn := ((t : Rat) / (b : Rat)).den_nz
  have rd := ((t : Rat) / (b : Rat)).reduced
  revert c dn rd
  generalize (t : Rat) / (b : Rat) = q
  intro c dn rd
  have h : q.num.natAbs * b.natAbs = t.natAbs * q.den := by
    rw [← Int.natAbs_mul, c, Int.natAbs_mul, Int.natAbs_natCast]
  have d1 : q.den ∣ b.natAbs := Nat.Coprime.dvd_of_dvd_mul_left (Nat.Coprime.symm rd) (by rw [h]; exact Nat.dvd_mul_left _ _)
  have d2 : q.num.natAbs ∣ t.natAbs := Nat.Coprime.dvd_of_dvd_mul_right rd (by rw [← h]; exact Nat.dvd_mul_right _ _)
  refine ⟨?_, Nat.lt_of_le_of_lt (Nat.le_of_dvd (by omega) d1) h2⟩
  by_cases ht : t.natAbs = 0
  · rw [ht, Nat.zero_mul] at h
    have : q.num.natAbs = 0 := by
      rcases Nat.mul_eq_zero.mp h with z | z
      · exact z
      · omega
    rw [this]
    exact Nat.pow_pos (by decide)
  · exact Nat.lt_of_le_of_lt (Nat.le_of_dvd (by omega) d2) h1
theorem pow_mul {a b n m : Nat} (h1 : a < 2 ^ n) (h2 : b < 2 ^ m) : a * b < 2 ^ (n + m) := by
  rw [Nat.pow_add]
  exact Nat.mul_lt_mul'' h1 h2
theorem pow_dbl {a b n : Nat} (h1 : a < 2 ^ n) (h2 : b < 2 ^ n) : a + b < 2 ^ (n + 1) := by
  rw [Nat.pow_succ]
  omega
theorem den_prod (a b : Rat) : (a.den * b.den : Int) ≠ 0 := Int.mul_ne_zero (by have := a.den_nz; omega) (by have := b.den_nz; omega)
theorem sz_prod {n m : Nat} {a b : Rat} (h1 : Sz n a) (h2 : Sz m b) : ((a.den : Int) * b.den).natAbs < 2 ^ (n + m) := by
  rw [Int.natAbs_mul, Int.natAbs_natCast, Int.natAbs_natCast]
  exact pow_mul h1.b h2.b
theorem sz_add {n m : Nat} {a b : Rat} (h1 : Sz n a) (h2 : Sz m b) : Sz (n + m + 1) (a + b) := by
  rw [← plus_rat]
  refine sz_div (den_prod a b) ?_ (Nat.lt_of_lt_of_le (sz_prod h1 h2) (Nat.pow_le_pow_right (by decide) (by omega)))
  refine Nat.lt_of_le_of_lt (Int.natAbs_add_le _ _) ?_
  rw [Int.natAbs_mul, Int.natAbs_mul, Int.natAbs_natCast, Int.natAbs_natCast]
  exact pow_dbl (pow_mul h1.a h2.b) (by rw [Nat.mul_comm]; exact pow_mul h1.b h2.a)
theorem sz_sub {n m : Nat} {a b : Rat} (h1 : Sz n a) (h2 : Sz m b) : Sz (n + m + 1) (a - b) := by
  rw [← minus_rat]
  refine sz_div (den_prod a b) ?_ (Nat.lt_of_lt_of_le (sz_prod h1 h2) (Nat.pow_le_pow_right (by decide) (by omega)))
  refine Nat.lt_of_le_of_lt (Int.natAbs_sub_le _ _) ?_
  rw [Int.natAbs_mul, Int.natAbs_mul, Int.natAbs_natCast, Int.natAbs_natCast]
  exact pow_dbl (pow_mul h1.a h2.b) (by rw [Nat.mul_comm]; exact pow_mul h1.b h2.a)
theorem sz_mul {n m : Nat} {a b : Rat} (h1 : Sz n a) (h2 : Sz m b) : Sz (n + m) (a * b) := by
  rw [← mul_rat]
  refine sz_div (den_prod a b) ?_ (sz_prod h1 h2)
  rw [Int.natAbs_mul]
  exact pow_mul h1.a h2.a
theorem sz_zero {n : Nat} : Sz (n + 1) (0 : Rat) := ⟨Nat.pow_pos (by decide), by show 1 < _; exact Nat.one_lt_two_pow (by omega)⟩
theorem div_zero_rat (a : Rat) : a / 0 = 0 := by rw [Rat.div_def, Rat.inv_zero, Rat.mul_zero]
theorem sz_quot {n m : Nat} {a b : Rat} (h1 : Sz (n + 1) a) (h2 : Sz m b) : Sz (n + 1 + m) (a / b) := by
  by_cases hb : b.num = 0
  · rw [Rat.num_eq_zero.mp hb, div_zero_rat]
    rw [show n + 1 + m = (n + m) + 1 by omega]
    exact sz_zero
  · rw [← div_rat]
    refine sz_div (Int.mul_ne_zero (by have := a.den_nz; omega) hb) ?_ ?_
    · rw [Int.natAbs_mul, Int.natAbs_natCast]
      exact pow_mul h1.a h2.b
    · rw [Int.natAbs_mul, Int.natAbs_natCast]
      exact pow_mul h1.b h2.a
/-! ### the least and the greatest of a list -/
def mnL (l : List Rat) : Rat := l.foldl (fun m q => if q < m then q else m) (l.headD 0)
def mxL (l : List Rat) : Rat := l.foldl (fun m q => if m < q then q else m) (l.headD 0)
theorem mn_fold (l : List Rat) : ∀ m : Rat, (l.foldl (fun m q => if q < m then q else m) m = m ∨ l.foldl (fun m q => if q < m then q else m) m ∈ l) ∧ l.foldl (fun m q => if q < m then q else m) m ≤ m ∧ ∀ q ∈ l, l.foldl (fun m q => if q < m then q else m) m ≤ q := by
  induction l with
  | nil => intro m; exact ⟨.inl rfl, Rat.le_refl, fun q h => by cases h⟩
  | cons x l ih =>
    intro m
    rw [List.foldl_cons]
    obtain ⟨h1, h2, h3⟩ := ih (if x < m then x else m)
    by_cases c : x < m
    · rw [if_pos c] at h1 h2 h3 ⊢
      refine ⟨.inr ?_, by grind, fun q hq => ?_⟩
      · rcases h1 with h1 | h1
        · rw [h1]; exact List.mem_cons_self
        · exact List.mem_cons_of_mem _ h1
      · rcases List.mem_cons.mp hq with rfl | hq
        · exact h2
        · exact h3 q hq
    · rw [if_neg c] at h1 h2 h3 ⊢
      refine ⟨?_, h2, fun q hq => ?_⟩
      · rcases h1 with h1 | h1
        · exact .inl h1
        · exact .inr (List.mem_cons_of_mem _ h1)
      · rcases List.mem_cons.mp hq with rfl | hq
        · grind
        · exact h3 q hq
theorem mx_fold (l : List Rat) : ∀ m : Rat, (l.foldl (fun m q => if m < q then q else m) m = m ∨ l.foldl (fun m q => if m < q then q else m) m ∈ l) ∧ m ≤ l.foldl (fun m q => if m < q then q else m) m ∧ ∀ q ∈ l, q ≤ l.foldl (fun m q => if m < q then q else m) m := by
  induction l with
  | nil => intro m; exact ⟨.inl rfl, Rat.le_refl, fun q h => by cases h⟩
  | cons x l ih =>
    intro m
    rw [List.foldl_cons]
    obtain ⟨h1, h2, h3⟩ := ih (if m < x then x else m)
    by_cases c : m < x
    · rw [if_pos c] at h1 h2 h3 ⊢
      refine ⟨.inr ?_, by grind, fun q hq => ?_⟩
      · rcases h1 with h1 | h1
        · rw [h1]; exact List.mem_cons_self
        · exact List.mem_cons_of_mem _ h1
      · rcases List.mem_cons.mp hq with rfl | hq
        · exact h2
        · exact h3 q hq
    · rw [if_neg c] at h1 h2 h3 ⊢
      refine ⟨?_, h2, fun q hq => ?_⟩
      · rcases h1 with h1 | h1
        · exact .inl h1
        · exact .inr (List.mem_cons_of_mem _ h1)
      · rcases List.mem_cons.mp hq with rfl | hq
        · grind
        · exact h3 q hq
theorem mnL_spec {l : List Rat} (h : l ≠ []) : mnL l ∈ l ∧ ∀ q ∈ l, mnL l ≤ q := by
  match l, h with
  | x :: l, _ =>
    obtain ⟨h1, h2, h3⟩ := mn_fold (x :: l) x
    refine ⟨?_, h3⟩
    rcases h1 with h1 | h1
    · show List.foldl _ x (x :: l) ∈ _
      rw [h1]; exact List.mem_cons_self
    · exact h1
theorem mxL_spec {l : List Rat} (h : l ≠ []) : mxL l ∈ l ∧ ∀ q ∈ l, q ≤ mxL l := by
  match l, h with
  | x :: l, _ =>
    obtain ⟨h1, h2, h3⟩ := mx_fold (x :: l) x
    refine ⟨?_, h3⟩
    rcases h1 with h1 | h1
    · show List.foldl _ x (x :: l) ∈ _
      rw [h1]; exact List.mem_cons_self
    · exact h1
theorem mnL_eq {l : List Rat} {m : Rat} (h1 : m ∈ l) (h2 : ∀ q ∈ l, m ≤ q) : mnL l = m := by
  obtain ⟨a, b⟩ := mnL_spec (l := l) (fun e => by rw [e] at h1; cases h1)
  exact Rat.le_antisymm (b m h1) (h2 _ a)
theorem mxL_eq {l : List Rat} {m : Rat} (h1 : m ∈ l) (h2 : ∀ q ∈ l, q ≤ m) : mxL l = m := by
  obtain ⟨a, b⟩ := mxL_spec (l := l) (fun e => by rw [e] at h1; cases h1)
  exact Rat.le_antisymm (h2 _ a) (b m h1)
/-! ### what holds between the ends holds within -/
theorem lin_mul {l h x y : Rat} (h1 : l ≤ x) (h2 : x ≤ h) : (l * y ≤ x * y ∨ h * y ≤ x * y) ∧ (x * y ≤ l * y ∨ x * y ≤ h * y) := by
  rcases Rat.le_total (a := 0) (b := y) with p | p
  · exact ⟨.inl (Rat.mul_le_mul_of_nonneg_right h1 p), .inr (Rat.mul_le_mul_of_nonneg_right h2 p)⟩
  · have p' : 0 ≤ -y := by grind
    have a1 := Rat.mul_le_mul_of_nonneg_right h1 p'
    have a2 := Rat.mul_le_mul_of_nonneg_right h2 p'
    exact ⟨.inr (by grind), .inl (by grind)⟩
def prods (a b c d : Rat) : List Rat := [a * c, a * d, b * c, b * d]
theorem mul_in {a b c d x y : Rat} (h1 : a ≤ x) (h2 : x ≤ b) (h3 : c ≤ y) (h4 : y ≤ d) : (∃ q ∈ prods a b c d, q ≤ x * y) ∧ ∃ q ∈ prods a b c d, x * y ≤ q := by
  obtain ⟨p1, p2⟩ := lin_mul (y := y) h1 h2
  obtain ⟨q1, q2⟩ := lin_mul (y := a) h3 h4
  obtain ⟨r1, r2⟩ := lin_mul (y := b) h3 h4
  have e1 := Rat.mul_comm a y
  have e2 := Rat.mul_comm b y
  have e3 := Rat.mul_comm a c
  have e4 := Rat.mul_comm a d
  have e5 := Rat.mul_comm b c
  have e6 := Rat.mul_comm b d
  unfold prods
  refine ⟨?_, ?_⟩
  · rcases p1 with p | p
    · rcases q1 with q | q
      · exact ⟨_, by simp, show a * c ≤ x * y by grind⟩
      · exact ⟨a * d, by simp, by grind⟩
    · rcases r1 with q | q
      · exact ⟨b * c, by simp, by grind⟩
      · exact ⟨b * d, by simp, by grind⟩
  · rcases p2 with p | p
    · rcases q2 with q | q
      · exact ⟨a * c, by simp, by grind⟩
      · exact ⟨a * d, by simp, by grind⟩
    · rcases r2 with q | q
      · exact ⟨b * c, by simp, by grind⟩
      · exact ⟨b * d, by simp, by grind⟩
def quots (a b c d : Rat) : List Rat := [a / c, a / d, b / c, b / d]
theorem inv_pos_le {x y : Rat} (h : 0 < x) (h' : x ≤ y) : y⁻¹ ≤ x⁻¹ := by
  have hy : 0 < y := by grind
  have a := Rat.inv_pos.mpr h
  have b := Rat.inv_pos.mpr hy
  have e1 := Rat.mul_inv_cancel x (by grind)
  have e2 := Rat.mul_inv_cancel y (by grind)
  have := Rat.mul_le_mul_of_nonneg_right h' (Rat.le_of_lt (Rat.mul_pos a b))
  rwa [← Rat.mul_assoc, e1, Rat.one_mul, Rat.mul_comm x⁻¹, ← Rat.mul_assoc, e2, Rat.one_mul] at this
theorem inv_neg_le {x y : Rat} (h : y < 0) (h' : x ≤ y) : y⁻¹ ≤ x⁻¹ := by
  have := inv_pos_le (x := -y) (y := -x) (by grind) (by grind)
  have e1 : (-y)⁻¹ = -(y⁻¹) := by grind
  have e2 : (-x)⁻¹ = -(x⁻¹) := by grind
  grind
theorem quot_in {a b c d x y : Rat} (h1 : a ≤ x) (h2 : x ≤ b) (h3 : c ≤ y) (h4 : y ≤ d) (hz : 0 < c ∨ d < 0 ∨ (c = 0 ∧ d = 0)) : (∃ q ∈ quots a b c d, q ≤ x / y) ∧ ∃ q ∈ quots a b c d, x / y ≤ q := by
  rcases hz with hz | hz | ⟨z1, z2⟩
  · obtain ⟨⟨q, m, l⟩, ⟨q', m', l'⟩⟩ := mul_in (c := d⁻¹) (d := c⁻¹) (y := y⁻¹) h1 h2 (inv_pos_le (by grind) h4) (inv_pos_le hz h3)
    refine ⟨⟨q, ?_, l⟩, ⟨q', ?_, l'⟩⟩
    · simp only [prods, quots, List.mem_cons, Rat.div_def] at m ⊢; grind
    · simp only [prods, quots, List.mem_cons, Rat.div_def] at m' ⊢; grind
  · obtain ⟨⟨q, m, l⟩, ⟨q', m', l'⟩⟩ := mul_in (c := d⁻¹) (d := c⁻¹) (y := y⁻¹) h1 h2 (inv_neg_le hz h4) (inv_neg_le (by grind) h3)
    refine ⟨⟨q, ?_, l⟩, ⟨q', ?_, l'⟩⟩
    · simp only [prods, quots, List.mem_cons, Rat.div_def] at m ⊢; grind
    · simp only [prods, quots, List.mem_cons, Rat.div_def] at m' ⊢; grind
  · have hy : y = 0 := by grind
    subst z1 z2 hy
    refine ⟨⟨a / 0, by simp [quots], ?_⟩, ⟨a / 0, by simp [quots], ?_⟩⟩ <;> rw [div_zero_rat, div_zero_rat] <;> exact Rat.le_refl
end My

set_option Elab.async false
set_option linter.all false
set_option maxRecDepth 100000
namespace My
open PySem PySem.Spec PyProof.Rows L2 SX
/-! the promises, said of fractions -/
def IsR (K : PySem.W.Frag) (H : Hp) (v : V) (q : Rat) : Prop := IsW K H v q.num q.den
theorem IsR.same {K : PySem.W.Frag} {H H' : Hp} {v : V} {q : Rat} (s : Same H H') (h : IsR K H v q) : IsR K H' v q := IsW.same s h
theorem IsR.of {K : PySem.W.Frag} {H : Hp} {v : V} {t b x y : Int} (W : WR t b x y) (h : IsW K H v x y) : IsR K H v ((t : Rat) / (b : Rat)) := by
  obtain ⟨e1, e2⟩ := W.rat
  unfold IsR
  rw [← e1, ← e2]
  exact h
theorem Sz.da {q : Rat} (h : Sz 3000 q) : Sml q.num := h.a
theorem Sz.db {q : Rat} (h : Sz 3000 q) : Sml (q.den : Int) := by
  unfold Sml
  rw [Int.natAbs_natCast]
  exact h.b
theorem Sz.sa {q : Rat} (h : Sz 700 q) : Smt q.num := h.a
theorem Sz.sb {q : Rat} (h : Sz 700 q) : Smt (q.den : Int) := by
  unfold Smt
  rw [Int.natAbs_natCast]
  exact h.b
theorem den1 (q : Rat) : 1 ≤ (q.den : Int) := by have := q.den_nz; omega
theorem lt_dec (a b : Rat) : decide (a.num * b.den < b.num * a.den) = decide (a < b) := by
  rw [decide_eq_decide]
  exact (Rat.lt_iff a b).symm
theorem le_Le {a b : Rat} (h : a ≤ b) : Le a.num a.den b.num b.den := by
  unfold Le
  have := (Rat.le_iff a b).mp h
  omega
theorem rat_eq {a b : Rat} : (a.num = b.num ∧ (a.den : Int) = (b.den : Int)) ↔ a = b := by
  constructor
  · rintro ⟨h1, h2⟩
    exact Rat.ext h1 (by omega)
  · rintro rfl
    exact ⟨rfl, rfl⟩
def minR (a b : Rat) : Rat := if b < a then b else a
def maxR (a b : Rat) : Rat := if a < b then b else a
theorem mn_rat (a b : Rat) : mn a.num a.den b.num b.den = ((minR a b).num, ((minR a b).den : Int)) := by
  unfold mn minR
  rw [lt_dec]
  by_cases h : b < a
  · rw [if_pos (decide_eq_true h), if_pos h]
  · rw [if_neg (fun z => h (of_decide_eq_true z)), if_neg h]
theorem mx_rat (a b : Rat) : mx a.num a.den b.num b.den = ((maxR a b).num, ((maxR a b).den : Int)) := by
  unfold mx maxR
  rw [lt_dec]
  by_cases h : a < b
  · rw [if_pos (decide_eq_true h), if_pos h]
  · rw [if_neg (fun z => h (of_decide_eq_true z)), if_neg h]
def SpanR (K : PySem.W.Frag) (C : Addr) (H : Hp) (a : Addr) (lo hi : Rat) : Prop := SpanAt K C H a lo.num lo.den hi.num hi.den
theorem SpanR.same {K : PySem.W.Frag} {C : Addr} {H H' : Hp} {a : Addr} {lo hi : Rat} (h : SpanR K C H a lo hi) (s : Same H H') : SpanR K C H' a lo hi := SpanAt.same h s
theorem four_of {a b : Rat} (h : Sz 3000 a) (h' : Sz 3000 b) : Four a.num a.den b.num b.den := ⟨h.da, h.db, h'.da, h'.db⟩
theorem ends_of {a b : Rat} (h : Sz 700 a) (h' : Sz 700 b) : Ends4 a.num a.den b.num b.den := ⟨h.sa, h.sb, h'.sa, h'.sb, den1 a, den1 b⟩
def spOpR (K : PySem.W.Frag) (op : Rat → Rat → Rat) : Sp := fun vs H Q _ => ∃ v w a b, vs = [v, w] ∧ IsR K H v a ∧ IsR K H w b ∧ Sz 3000 a ∧ Sz 3000 b ∧ ∀ r H', IsR K H' r (op a b) → Same H H' → Q r H'
def spLessR (K : PySem.W.Frag) : Sp := fun vs H Q _ => ∃ v w a b, vs = [v, w] ∧ IsR K H v a ∧ IsR K H w b ∧ Sz 3000 a ∧ Sz 3000 b ∧ Q (.bl (decide (a < b))) H
def spLsrR (K : PySem.W.Frag) (c : Rat → Rat → Bool) : Sp := fun vs H Q _ => ∃ v w a b, vs = [v, w] ∧ IsR K H v a ∧ IsR K H w b ∧ Sz 3000 a ∧ Sz 3000 b ∧ Q (if c a b = true then w else v) H
def spFloorR (K : PySem.W.Frag) : Sp := fun vs H Q _ => ∃ v a, vs = [v] ∧ IsR K H v a ∧ Sz 3000 a ∧ Q (.int a.floor) H
def spWorthR (K : PySem.W.Frag) : Sp := fun vs H Q _ => ∃ t b : Int, vs = [.int t, .int b] ∧ b.natAbs < 2 ^ 8000 ∧ ∀ v H', IsR K H' v ((t : Rat) / (b : Rat)) → Same H H' → Q v H'
def spInitR (K : PySem.W.Frag) (C : Addr) : Sp := fun vs H Q _ => ∃ (a dx : Addr) (l h : V) (lo hi : Rat), vs = [.ref a, l, h] ∧ H a = some (.ins C dx []) ∧ IsR K H l lo ∧ IsR K H h hi ∧ Sz 3000 lo ∧ Sz 3000 hi ∧ lo ≤ hi ∧ Q .non (upd H a (.ins C dx [("low", l), ("high", h)]))
def spSpR (K : PySem.W.Frag) (C : Addr) (f g : Rat → Rat → Rat → Rat → Rat) : Sp := fun vs H Q _ => ∃ (a b : Addr) (lo hi lo' hi' : Rat), vs = [.ref a, .ref b] ∧ SpanR K C H a lo hi ∧ SpanR K C H b lo' hi' ∧ Sz 700 lo ∧ Sz 700 hi ∧ Sz 700 lo' ∧ Sz 700 hi' ∧ lo ≤ hi ∧ lo' ≤ hi' ∧
  ∀ x H', H x = none → Same H H' → SpanR K C H' x (f lo hi lo' hi') (g lo hi lo' hi') → Q (.ref x) H'
def spCmpR (K : PySem.W.Frag) (C : Addr) (r : Rat → Rat → Rat → Rat → V) : Sp := fun vs H Q _ => ∃ (a b : Addr) (lo hi lo' hi' : Rat), vs = [.ref a, .ref b] ∧ SpanR K C H a lo hi ∧ SpanR K C H b lo' hi' ∧ Sz 3000 lo ∧ Sz 3000 hi ∧ Sz 3000 lo' ∧ Sz 3000 hi' ∧ Q (r lo hi lo' hi') H
def spSingleR (K : PySem.W.Frag) (C : Addr) : Sp := fun vs H Q _ => ∃ (a : Addr) (lo hi : Rat), vs = [.ref a] ∧ SpanR K C H a lo hi ∧ Q (.bl (decide (lo = hi))) H
def spHasR (K : PySem.W.Frag) (C : Addr) : Sp := fun vs H Q _ => ∃ (a : Addr) (v : V) (lo hi z : Rat), vs = [.ref a, v] ∧ SpanR K C H a lo hi ∧ IsR K H v z ∧ Sz 3000 lo ∧ Sz 3000 hi ∧ Sz 3000 z ∧ Q (.bl (!decide (z < lo) && !decide (hi < z))) H
def truthV (lo hi : Rat) : V := if 0 < lo ∨ hi < 0 then .bl true else if lo = hi then .bl false else .non
def spTruthR (K : PySem.W.Frag) (C : Addr) : Sp := fun vs H Q _ => ∃ (a : Addr) (lo hi : Rat), vs = [.ref a] ∧ SpanR K C H a lo hi ∧ Sz 3000 lo ∧ Sz 3000 hi ∧ Q (truthV lo hi) H
def spPointR (K : PySem.W.Frag) (C : Addr) : Sp := fun vs H Q _ => ∃ (v : V) (z : Rat), vs = [v] ∧ IsR K H v z ∧ Sz 3000 z ∧ ∀ x H', H x = none → Same H H' → SpanR K C H' x z z → Q (.ref x) H'
theorem q_if {Q : VK} {H : Hp} {c c' : Bool} {v w : V} (e : c = c') (q : Q (if c' = true then w else v) H) : Q (if c = true then w else v) H := e ▸ q
section
variable {P : Program} {w : World} {K : PySem.W.Frag} {mg : Str → Option Value} {base : Heap} {f : Addr} {fd : FuncData} {k : Nat} {ps : List Str} {C : Addr}
theorem opR {tp bt : Int → Int → Int → Int → Int} {op : Rat → Rat → Rat} (F : FnOk P w K mg base CX0 k f fd ps (spBin K tp bt)) (h : ∀ a b : Rat, ((tp a.num a.den b.num b.den : Int) : Rat) / ((bt a.num a.den b.num b.den : Int) : Rat) = op a b) : FnOk P w K mg base CX0 k f fd ps (spOpR K op) :=
  F.imp fun vs H Q E ⟨v, w', a, b, e, ha, hb, sa, sb, q⟩ => ⟨v, w', _, _, _, _, e, ha, hb, sa.da, sa.db, sb.da, sb.db, fun r p q' H' W hi s => q r H' (by have := IsR.of W hi; rw [h] at this; exact this) s⟩
theorem plusR (F : FnOk P w K mg base CX0 k f fd ps (spPlus K)) : FnOk P w K mg base CX0 k f fd ps (spOpR K (· + ·)) := opR F plus_rat
theorem minusR (F : FnOk P w K mg base CX0 k f fd ps (spMinus K)) : FnOk P w K mg base CX0 k f fd ps (spOpR K (· - ·)) := opR F minus_rat
theorem productR (F : FnOk P w K mg base CX0 k f fd ps (spProduct K)) : FnOk P w K mg base CX0 k f fd ps (spOpR K (· * ·)) := opR F mul_rat
theorem quotientR (F : FnOk P w K mg base CX0 k f fd ps (spQuotient K)) : FnOk P w K mg base CX0 k f fd ps (spOpR K (· / ·)) := opR F div_rat
theorem worthR (F : FnOk P w K mg base CX0 k f fd ps (spWorth K)) : FnOk P w K mg base CX0 k f fd ps (spWorthR K) :=
  F.imp fun vs H Q E ⟨t, b, e, hb, q⟩ => ⟨t, b, e, hb, fun v x y H' W hi s => q v H' (IsR.of W hi) s⟩
theorem lessR (F : FnOk P w K mg base CX0 k f fd ps (spLess K)) : FnOk P w K mg base CX0 k f fd ps (spLessR K) :=
  F.imp fun vs H Q E ⟨v, w', a, b, e, ha, hb, sa, sb, q⟩ => ⟨v, w', _, _, _, _, e, ha, hb, sa.da, sa.db, sb.da, sb.db, by rw [lt_dec]; exact q⟩
theorem lesserR (F : FnOk P w K mg base CX0 k f fd ps (spLesser K fun x0 x1 y0 y1 => decide (y0 * x1 < x0 * y1))) : FnOk P w K mg base CX0 k f fd ps (spLsrR K fun a b => decide (b < a)) :=
  F.imp fun vs H Q E ⟨v, w', a, b, e, ha, hb, sa, sb, q⟩ => ⟨v, w', _, _, _, _, e, ha, hb, ⟨sa.da, sa.db, sb.da, sb.db⟩, q_if (lt_dec b a) q⟩
theorem greaterR (F : FnOk P w K mg base CX0 k f fd ps (spLesser K fun x0 x1 y0 y1 => decide (x0 * y1 < y0 * x1))) : FnOk P w K mg base CX0 k f fd ps (spLsrR K fun a b => decide (a < b)) :=
  F.imp fun vs H Q E ⟨v, w', a, b, e, ha, hb, sa, sb, q⟩ => ⟨v, w', _, _, _, _, e, ha, hb, ⟨sa.da, sa.db, sb.da, sb.db⟩, q_if (lt_dec a b) q⟩
theorem floorR (F : FnOk P w K mg base CX0 k f fd ps (spFloor K)) : FnOk P w K mg base CX0 k f fd ps (spFloorR K) :=
  F.imp fun vs H Q E ⟨v, a, e, ha, sa, q⟩ => ⟨v, _, _, e, ha, den1 a, sa.db, by rw [Rat.floor_def] at q; exact q⟩
theorem initR (F : FnOk P w K mg base CX0 k f fd ps (spSpanInit K C)) : FnOk P w K mg base CX0 k f fd ps (spInitR K C) :=
  F.imp fun vs H Q E ⟨a, dx, l, h, lo, hi, e, ha, hl, hh, s1, s2, le, q⟩ => ⟨a, dx, l, h, _, _, _, _, e, ha, hl, hh, four_of s1 s2, le_Le le, q⟩
theorem addR (F : FnOk P w K mg base CX0 k f fd ps (spAdd K C)) : FnOk P w K mg base CX0 k f fd ps (spSpR K C (fun lo hi lo' hi' => lo + lo') (fun lo hi lo' hi' => hi + hi')) :=
  F.imp fun vs H Q E ⟨a, b, lo, hi, lo', hi', e, ha, hb, s1, s2, s3, s4, l1, l2, q⟩ => ⟨a, b, _, _, _, _, _, _, _, _, e, ha, hb, ends_of s1 s2, ends_of s3 s4, le_Le l1, le_Le l2, fun x H' p q' p' q'' nx s W1 W2 hx => q x H' nx s (by
    obtain ⟨e1, e2⟩ := W1.rat
    obtain ⟨e3, e4⟩ := W2.rat
    rw [plus_rat] at e1 e2 e3 e4
    unfold SpanR
    rw [← e1, ← e2, ← e3, ← e4]
    exact hx)⟩
theorem subR (F : FnOk P w K mg base CX0 k f fd ps (spSub K C)) : FnOk P w K mg base CX0 k f fd ps (spSpR K C (fun lo hi lo' hi' => lo - hi') (fun lo hi lo' hi' => hi - lo')) :=
  F.imp fun vs H Q E ⟨a, b, lo, hi, lo', hi', e, ha, hb, s1, s2, s3, s4, l1, l2, q⟩ => ⟨a, b, _, _, _, _, _, _, _, _, e, ha, hb, ends_of s1 s2, ends_of s3 s4, le_Le l1, le_Le l2, fun x H' p q' p' q'' nx s W1 W2 hx => q x H' nx s (by
    obtain ⟨e1, e2⟩ := W1.rat
    obtain ⟨e3, e4⟩ := W2.rat
    rw [minus_rat] at e1 e2 e3 e4
    unfold SpanR
    rw [← e1, ← e2, ← e3, ← e4]
    exact hx)⟩
theorem leastR (F : FnOk P w K mg base CX0 k f fd ps (spMm K C mn)) : FnOk P w K mg base CX0 k f fd ps (spSpR K C (fun lo hi lo' hi' => minR lo lo') (fun lo hi lo' hi' => minR hi hi')) :=
  F.imp fun vs H Q E ⟨a, b, lo, hi, lo', hi', e, ha, hb, s1, s2, s3, s4, l1, l2, q⟩ => ⟨a, b, _, _, _, _, _, _, _, _, e, ha, hb, ends_of s1 s2, ends_of s3 s4, le_Le l1, le_Le l2, fun x H' nx s hx => q x H' nx s (by
    rw [mn_rat, mn_rat] at hx
    exact hx)⟩
theorem greatestR (F : FnOk P w K mg base CX0 k f fd ps (spMm K C mx)) : FnOk P w K mg base CX0 k f fd ps (spSpR K C (fun lo hi lo' hi' => maxR lo lo') (fun lo hi lo' hi' => maxR hi hi')) :=
  F.imp fun vs H Q E ⟨a, b, lo, hi, lo', hi', e, ha, hb, s1, s2, s3, s4, l1, l2, q⟩ => ⟨a, b, _, _, _, _, _, _, _, _, e, ha, hb, ends_of s1 s2, ends_of s3 s4, le_Le l1, le_Le l2, fun x H' nx s hx => q x H' nx s (by
    rw [mx_rat, mx_rat] at hx
    exact hx)⟩
def belowV (lo hi lo' hi' : Rat) : V := if hi < lo' then .bl true else if lo < hi' then .non else .bl false
def atmostV (lo hi lo' hi' : Rat) : V := if lo' < hi then (if hi' < lo then .bl false else .non) else .bl true
def sameV (lo hi lo' hi' : Rat) : V := if hi < lo' ∨ hi' < lo then .bl false else if lo = hi ∧ lo' = hi' then .bl true else .non
theorem belowR (F : FnOk P w K mg base CX0 k f fd ps (spCmp K C fun x0 x1 y0 y1 u0 u1 v0 v1 => if decide (y0 * u1 < u0 * y1) = true then .bl true else if decide (x0 * v1 < v0 * x1) = true then .non else .bl false)) : FnOk P w K mg base CX0 k f fd ps (spCmpR K C belowV) :=
  F.imp fun vs H Q E ⟨a, b, lo, hi, lo', hi', e, ha, hb, s1, s2, s3, s4, q⟩ => ⟨a, b, _, _, _, _, _, _, _, _, e, ha, hb, four_of s1 s2, four_of s3 s4, by
    dsimp only
    rw [lt_dec, lt_dec]
    unfold belowV at q
    simpa only [decide_eq_true_eq] using q⟩
theorem atmostR (F : FnOk P w K mg base CX0 k f fd ps (spCmp K C fun x0 x1 y0 y1 u0 u1 v0 v1 => if (!decide (u0 * y1 < y0 * u1)) = true then .bl true else if decide (v0 * x1 < x0 * v1) = true then .bl false else .non)) : FnOk P w K mg base CX0 k f fd ps (spCmpR K C atmostV) :=
  F.imp fun vs H Q E ⟨a, b, lo, hi, lo', hi', e, ha, hb, s1, s2, s3, s4, q⟩ => ⟨a, b, _, _, _, _, _, _, _, _, e, ha, hb, four_of s1 s2, four_of s3 s4, by
    dsimp only
    rw [lt_dec, lt_dec]
    unfold atmostV at q
    by_cases c : lo' < hi
    · rw [if_pos c] at q
      rw [decide_eq_true c, if_neg (by decide)]
      simpa only [decide_eq_true_eq] using q
    · rw [if_neg c] at q
      rw [decide_eq_false c, if_pos (by decide)]
      exact q⟩
theorem sameR (F : FnOk P w K mg base CX0 k f fd ps (spCmp K C fun x0 x1 y0 y1 u0 u1 v0 v1 => if decide (y0 * u1 < u0 * y1) = true ∨ decide (v0 * x1 < x0 * v1) = true then .bl false else if (x0 = y0 ∧ x1 = y1) ∧ u0 = v0 ∧ u1 = v1 then .bl true else .non)) : FnOk P w K mg base CX0 k f fd ps (spCmpR K C sameV) :=
  F.imp fun vs H Q E ⟨a, b, lo, hi, lo', hi', e, ha, hb, s1, s2, s3, s4, q⟩ => ⟨a, b, _, _, _, _, _, _, _, _, e, ha, hb, four_of s1 s2, four_of s3 s4, by
    dsimp only
    rw [lt_dec, lt_dec]
    unfold sameV at q
    simpa only [decide_eq_true_eq, rat_eq] using q⟩
theorem eq_dec (a b : Rat) : (decide (a.num = b.num) && decide ((a.den : Int) = (b.den : Int))) = decide (a = b) := by
  rw [← Bool.decide_and, decide_eq_decide]
  exact rat_eq
theorem singleR (F : FnOk P w K mg base CX0 k f fd ps (spSingle K C)) : FnOk P w K mg base CX0 k f fd ps (spSingleR K C) :=
  F.imp fun vs H Q E ⟨a, lo, hi, e, ha, q⟩ => ⟨a, _, _, _, _, e, ha, by rw [eq_dec]; exact q⟩
theorem hasR (F : FnOk P w K mg base CX0 k f fd ps (spHas K C)) : FnOk P w K mg base CX0 k f fd ps (spHasR K C) :=
  F.imp fun vs H Q E ⟨a, v, lo, hi, z, e, ha, hv, s1, s2, s3, q⟩ => ⟨a, v, _, _, _, _, _, _, e, ha, hv, four_of s1 s2, s3.da, s3.db, by rw [lt_dec, lt_dec]; exact q⟩
theorem truthR (F : FnOk P w K mg base CX0 k f fd ps (spTruth K C)) : FnOk P w K mg base CX0 k f fd ps (spTruthR K C) :=
  F.imp fun vs H Q E ⟨a, lo, hi, e, ha, s1, s2, q⟩ => ⟨a, _, _, _, _, e, ha, four_of s1 s2, by
    unfold hasZ
    have e1 : decide (0 * (lo.den : Int) < lo.num * 1) = decide (0 < lo) := lt_dec 0 lo
    have e2 : decide (hi.num * 1 < 0 * (hi.den : Int)) = decide (hi < 0) := lt_dec hi 0
    rw [e1, e2, eq_dec]
    unfold truthV at q
    by_cases c1 : 0 < lo
    · rw [if_pos (.inl c1)] at q
      rw [decide_eq_true c1]
      exact q
    · by_cases c2 : hi < 0
      · rw [if_pos (.inr c2)] at q
        rw [decide_eq_false c1, decide_eq_true c2]
        exact q
      · rw [if_neg (fun z => z.elim c1 c2)] at q
        rw [decide_eq_false c1, decide_eq_false c2]
        simpa only [Bool.not_false, Bool.and_self, Bool.not_true, Bool.false_eq_true, if_false, decide_eq_true_eq] using q⟩
theorem pointR (F : FnOk P w K mg base CX0 k f fd ps (spPoint K C)) : FnOk P w K mg base CX0 k f fd ps (spPointR K C) :=
  F.imp fun vs H Q E ⟨v, z, e, hv, s, q⟩ => ⟨v, _, _, e, hv, s.da, s.db, q⟩
end
/-- a span that is made -/
theorem new_spanR {K : PySem.W.Frag} {C : Addr} {H : Hp} {l h : V} {lo hi : Rat} {Q : VK} (w1 : IsR K H l lo) (w2 : IsR K H h hi) (s1 : Sz 3000 lo) (s2 : Sz 3000 hi) (le : lo ≤ hi)
    (q : ∀ x H', H x = none → Same H H' → SpanR K C H' x lo hi → Q (.ref x) H') : ∀ x dx, H x = none → H dx = none → dx ≠ x → spInitR K C [.ref x, l, h] (upd (upd H dx (.own x)) x (.ins C dx [])) (fun v H2 => v = .non ∧ Q (.ref x) H2) E0 := by
  intro x dx hx hdx ne
  have s3 : Same H (upd (upd H dx (.own x)) x (.ins C dx [])) := same_updF hx (same_upd hdx)
  refine ⟨x, dx, l, h, lo, hi, rfl, upd_same, w1.same s3, w2.same s3, s1, s2, le, rfl, ?_⟩
  have s4 : Same H (upd (upd (upd H dx (.own x)) x (.ins C dx [])) x (.ins C dx [("low", l), ("high", h)])) := same_updF hx s3
  exact q x _ hx s4 ⟨dx, l, h, upd_same, w1.same s4, w2.same s4⟩
end My

set_option Elab.async false
set_option linter.all false
set_option maxRecDepth 100000
namespace My
open PySem PySem.Spec PyProof.Rows L2 SX
/-! the rounding of four worths to a span; products, quotients -/
abbrev sSpanRound : Stmt := topS 26
theorem scSpanRound : FnScope ["worths", "low", "high", "value"] ["worths"] (defScope sSpanRound) := ⟨rfl, rfl, rfl, by decide +kernel, rfl, by decide +kernel, by decide +kernel⟩
abbrev sSpanMul : Stmt := inClass (topS 24) 3
theorem scSpanMul : FnScope ["self", "other", "a", "b"] ["self", "other"] (defScope sSpanMul) := ⟨rfl, rfl, rfl, by decide +kernel, rfl, by decide +kernel, by decide +kernel⟩
abbrev sSpanOver : Stmt := inClass (topS 24) 4
theorem scSpanOver : FnScope ["self", "other", "a", "b"] ["self", "other"] (defScope sSpanOver) := ⟨rfl, rfl, rfl, by decide +kernel, rfl, by decide +kernel, by decide +kernel⟩
abbrev sSpanFloor : Stmt := inClass (topS 24) 5
theorem scSpanFloor : FnScope ["self"] ["self"] (defScope sSpanFloor) := ⟨rfl, rfl, rfl, by decide +kernel, rfl, by decide +kernel, by decide +kernel⟩
abbrev sSpanEq : Stmt := inClass (topS 24) 14
theorem scSpanEq : FnScope ["self", "other"] ["self", "other"] (defScope sSpanEq) := ⟨rfl, rfl, rfl, by decide +kernel, rfl, by decide +kernel, by decide +kernel⟩
abbrev sSpanStr : Stmt := inClass (topS 24) 15
theorem scSpanStr : FnScope ["self"] ["self"] (defScope sSpanStr) := ⟨rfl, rfl, rfl, by decide +kernel, rfl, by decide +kernel, by decide +kernel⟩
/-- worths in a row -/
def RsL (K : PySem.W.Frag) (H : Hp) : List V → List Rat → Prop
  | [], [] => True
  | v :: vs, q :: qs => IsR K H v q ∧ RsL K H vs qs
  | _, _ => False
theorem RsL.same {K : PySem.W.Frag} {H H' : Hp} (s : Same H H') : ∀ {vs : List V} {qs : List Rat}, RsL K H vs qs → RsL K H' vs qs
  | [], [], _ => True.intro
  | v :: vs, q :: qs, h => ⟨h.1.same s, RsL.same s h.2⟩
  | [], _ :: _, h => h.elim
  | _ :: _, [], h => h.elim
theorem RsL.len {K : PySem.W.Frag} {H : Hp} : ∀ {vs : List V} {qs : List Rat}, RsL K H vs qs → vs.length = qs.length
  | [], [], _ => rfl
  | v :: vs, q :: qs, h => by rw [List.length_cons, List.length_cons, RsL.len h.2]
  | [], _ :: _, h => h.elim
  | _ :: _, [], h => h.elim
theorem RsL.get {K : PySem.W.Frag} {H : Hp} : ∀ {vs : List V} {qs : List Rat} {i : Nat} {v : V}, RsL K H vs qs → vs[i]? = some v → ∃ q, qs[i]? = some q ∧ IsR K H v q
  | [], [], i, v, _, e => by simp at e
  | x :: vs, q :: qs, 0, v, h, e => by
    rw [List.getElem?_cons_zero] at e
    cases e
    exact ⟨q, rfl, h.1⟩
  | x :: vs, q :: qs, i + 1, v, h, e => by
    rw [List.getElem?_cons_succ] at e
    obtain ⟨q', e', r⟩ := RsL.get h.2 e
    exact ⟨q', by rw [List.getElem?_cons_succ]; exact e', r⟩
  | [], _ :: _, _, _, h, _ => h.elim
  | _ :: _, [], _, _, h, _ => h.elim
theorem RsL.snoc {K : PySem.W.Frag} {H : Hp} {v : V} {q : Rat} (r : IsR K H v q) : ∀ {vs : List V} {qs : List Rat}, RsL K H vs qs → RsL K H (vs ++ [v]) (qs ++ [q])
  | [], [], _ => ⟨r, True.intro⟩
  | x :: vs, y :: qs, h => ⟨h.1, RsL.snoc r h.2⟩
  | [], _ :: _, h => h.elim
  | _ :: _, [], h => h.elim
theorem RsL.app {K : PySem.W.Frag} {H : Hp} {us : List V} {ps : List Rat} (r : RsL K H us ps) : ∀ {vs : List V} {qs : List Rat}, RsL K H vs qs → RsL K H (vs ++ us) (qs ++ ps)
  | [], [], _ => r
  | x :: vs, y :: qs, h => ⟨h.1, RsL.app r h.2⟩
  | [], _ :: _, h => h.elim
  | _ :: _, [], h => h.elim
/-- the turns of a walk -/
theorem walk_W {J : It} {n : Nat} {G : Hp → Prop} {Y : Nat → Hp → V → Hp → Prop} (w : Walk J n G Y) {H1 : Hp} {Qd : Hp → Prop} {Z : V → Hp → (Hp → Prop) → Prop} (Pv : Nat → Hp → Prop) (h0 : Pv 0 H1) (hG : ∀ i H, i ≤ n → Pv i H → G H)
    (hs : ∀ i x H H', i < n → Pv i H → Y i H x H' → Z x H' (Pv (i + 1))) (hd : ∀ H, Pv n H → Qd H) :
    ∃ W : Nat → Nat → Hp → Prop, (∃ m, W 0 m H1) ∧ ∀ i m H, W i m H → (J.stop i H ∧ Qd H) ∨ (J.go i H ∧ ∃ Nx : Hp → Prop, (∀ H', Nx H' → ∃ m', m' < m ∧ W (i + 1) m' H') ∧ ∀ x H', J.yld i H x H' → Z x H' Nx) := by
  refine ⟨fun i m H => m = n - i ∧ i ≤ n ∧ Pv i H, ⟨n, by simp, Nat.zero_le _, h0⟩, ?_⟩
  rintro i m H ⟨rfl, hi, p⟩
  by_cases c : i < n
  · exact .inr ⟨w.goes i H c (hG i H hi p), Pv (i + 1), fun H' p' => ⟨n - (i + 1), by omega, rfl, c, p'⟩, fun x H' y => hs i x H H' c p (w.yields i H x H' c (hG i H hi p) y)⟩
  · obtain rfl : i = n := by omega
    exact .inl ⟨w.stops H (hG i H hi p), hd H p⟩
def spRound (K : PySem.W.Frag) (C : Addr) : Sp := fun vs H Q _ => ∃ (a : Addr) (ws : List V) (qs : List Rat), vs = [.ref a] ∧ SqL K H a ws ∧ RsL K H ws qs ∧ qs ≠ [] ∧ (∀ q ∈ qs, Sz 3000 q) ∧ ∀ x H', H x = none → Same H H' → SpanR K C H' x (mnL qs) (mxL qs) → Q (.ref x) H'
def fmn (l : List Rat) (m : Rat) : Rat := l.foldl (fun m q => if q < m then q else m) m
def fmx (l : List Rat) (m : Rat) : Rat := l.foldl (fun m q => if m < q then q else m) m
theorem fmn_snoc (l : List Rat) (m q : Rat) : fmn (l ++ [q]) m = if q < fmn l m then q else fmn l m := by unfold fmn; rw [List.foldl_append]; rfl
theorem fmx_snoc (l : List Rat) (m q : Rat) : fmx (l ++ [q]) m = if fmx l m < q then q else fmx l m := by unfold fmx; rw [List.foldl_append]; rfl
theorem fmn_all {P : Rat → Prop} {l : List Rat} {m : Rat} (h : P m) (hl : ∀ q ∈ l, P q) : P (fmn l m) := by
  rcases (mn_fold l m).1 with e | e
  · unfold fmn; rw [e]; exact h
  · exact hl _ e
theorem fmx_all {P : Rat → Prop} {l : List Rat} {m : Rat} (h : P m) (hl : ∀ q ∈ l, P q) : P (fmx l m) := by
  rcases (mx_fold l m).1 with e | e
  · unfold fmx; rw [e]; exact h
  · exact hl _ e
theorem isr_if {K : PySem.W.Frag} {H : Hp} {v w : V} {a b : Rat} {c : Prop} [Decidable c] (h1 : IsR K H v a) (h2 : IsR K H w b) : IsR K H (if decide c = true then w else v) (if c then b else a) := by
  by_cases h : c
  · rw [if_pos h, if_pos (decide_eq_true h)]; exact h2
  · rw [if_neg h, if_neg (fun z => h (of_decide_eq_true z))]; exact h1
section
variable {P : Program} {w : World} {K : PySem.W.Frag} {mg : Str → Option Value} {base : Heap}
theorem ok_round {C f fI fL fG : Addr} {fd fdI fdL fdG : FuncData} {k : Nat} (F : Fun K "span_round" "span_round" sSpanRound f fd) (MkS : CalC P w K mg base "Span" C (k + 2) ["self", "low", "high"] (spInitR K C) fI fdI)
    (Le : Cal P w K mg base "lesser" (k + 2) ["a", "b"] (spLsrR K fun a b => decide (b < a)) fL fdL) (Gr : Cal P w K mg base "greater" (k + 2) ["a", "b"] (spLsrR K fun a b => decide (a < b)) fG fdG) : FnOk P w K mg base CX0 (k + 4) f fd ["worths"] (spRound K C) := by
  refine F.ok scSpanRound (fun vs H Q E h => ?_) (fun cdv A outer s H vs Q E hr h => ?_)
  · obtain ⟨a, ws, qs, rfl, _⟩ := h
    rfl
  · obtain ⟨a, ws, qs, rfl, hS, hR, hn, hz, q⟩ := h
    refine ⟨_, (pss_cons (ps_set (i := 1) scSpanRound.nd rfl (.inl rfl) (pe_ix ix_list (pv 0) pe_int (fun _ _ => rfl)))
      (pss_cons (ps_set (i := 2) scSpanRound.nd rfl (.inl rfl) (pe_ix ix_list (pv 0) pe_int (fun _ _ => rfl)))
      (pss_cons (ps_for PassesOwn.never rfl (pi_list (pv 0)) (pg_name (i := 3) scSpanRound.nd rfl (.inl rfl))
        (pss_cons (ps_set (i := 1) scSpanRound.nd rfl (.inl rfl) (pe_call Le.ok (hr.mono (by omega)) rfl Le.g Le.kp Le.b .nil pass0 (pa_cons (pv 1) (pa_cons (pv 3) pa_nil))))
        (pss_one (ps_set (i := 2) scSpanRound.nd rfl (.inl rfl) (pe_call Gr.ok (hr.mono (by omega)) rfl Gr.g Gr.kp Gr.b .nil pass0 (pa_cons (pv 2) (pa_cons (pv 3) pa_nil)))))))
      (pss_one (ps_ret (pe_make MkS.m MkS.ok (hr.mono (by omega)) rfl MkS.g MkS.b .nil pass0 (pa_cons (pv 1) (pa_cons (pv 2) pa_nil)))))))), ?_⟩
    obtain ⟨v0, ws', rfl⟩ : ∃ v ws', ws = v :: ws' := by
      cases ws with
      | nil => cases qs with
        | nil => exact absurd rfl hn
        | cons _ _ => exact hR.elim
      | cons v ws' => exact ⟨v, ws', rfl⟩
    obtain ⟨q0, e0, r0⟩ := hR.get (i := 0) (v := v0) rfl
    have m0 : q0 ∈ qs := List.mem_of_getElem? e0
    have e1 : qs.headD 0 = q0 := by
      cases qs with
      | nil => cases e0
      | cons x l => cases e0; rfl
    refine ⟨_, rfl, a, _, 0, _, rfl, rfl, hS, atI_nat (j := 0) rfl, _, rfl, a, _, 0, _, rfl, rfl, hS, atI_nat (j := 0) rfl, ?_⟩
    refine ⟨_, rfl, a, rfl, ⟨_, hS⟩, ?_⟩
    refine for_list (xs := v0 :: ws') (fun i σ' H' => ∃ l h x, σ' = [some (.ref a), some l, some h, x] ∧ Same H H' ∧ IsR K H' l (fmn (qs.take i) q0) ∧ IsR K H' h (fmx (qs.take i) q0)) ⟨v0, v0, none, rfl, Same.refl H, r0, r0⟩ (fun i σ' H' _ ⟨_, _, _, _, s, _⟩ => s.seq hS) ?_ ?_
    · rintro i y σ' H' hy ⟨l, h, x, rfl, s, hl, hh⟩
      obtain ⟨qi, ei, ri⟩ := hR.get hy
      have mi : qi ∈ qs := List.mem_of_getElem? ei
      have t1 : ∀ q ∈ qs.take i, Sz 3000 q := fun q hq => hz q (List.mem_of_mem_take hq)
      refine ⟨_, rfl, _, rfl, l, y, _, qi, rfl, hl, ri.same s, fmn_all (hz _ m0) t1, hz _ mi, ?_⟩
      refine ⟨_, rfl, _, rfl, h, y, _, qi, rfl, hh, ri.same s, fmx_all (hz _ m0) t1, hz _ mi, ?_⟩
      refine ⟨_, _, _, rfl, s, ?_, ?_⟩
      · rw [List.take_add_one, ei]
        show IsR K H' _ (fmn (qs.take i ++ [qi]) q0)
        rw [fmn_snoc]
        exact isr_if hl (ri.same s)
      · rw [List.take_add_one, ei]
        show IsR K H' _ (fmx (qs.take i ++ [qi]) q0)
        rw [fmx_snoc]
        exact isr_if hh (ri.same s)
    · rintro σ' H' ⟨l, h, x, rfl, s, hl, hh⟩
      rw [hR.len, List.take_length] at hl hh
      have em : fmn qs q0 = mnL qs := by unfold fmn mnL; rw [e1]
      have ex : fmx qs q0 = mxL qs := by unfold fmx mxL; rw [e1]
      rw [em] at hl
      rw [ex] at hh
      obtain ⟨a1, a2⟩ := mnL_spec hn
      obtain ⟨b1, b2⟩ := mxL_spec hn
      exact ⟨_, rfl, _, rfl, new_spanR hl hh (hz _ a1) (hz _ b1) (b2 _ a1) fun x H2 nx s2 hx => q x H2 (s.free nx) (s.trans s2) hx⟩
end
end My

set_option Elab.async false
set_option linter.all false
set_option maxRecDepth 100000
namespace My
open PySem PySem.Spec PyProof.Rows L2 SX
theorem SqT.but {K : PySem.W.Frag} {H H' : Hp} {a b : Addr} {xs ys : List V} (hb : H b = some (.lst ys)) (t : But b H H') (h : SqT K H a xs) : SqT K H' a xs := by
  rcases h with (s | ⟨o, s⟩) | s
  · exact .inl (.inl (t _ _ (fun e => by rw [e, hb] at s; cases s) s))
  · exact .inl (.inr ⟨o, t _ _ (fun e => by rw [e, hb] at s; cases s) s⟩)
  · exact .inr s
theorem IsR.but {K : PySem.W.Frag} {H H' : Hp} {b : Addr} {v : V} {q : Rat} {ys : List V} (h : IsR K H v q) (hb : H b = some (.lst ys)) (t : But b H H') : IsR K H' v q := by
  obtain ⟨a, e, h⟩ := h
  exact ⟨a, e, SqT.but hb t h⟩
theorem RsL.but {K : PySem.W.Frag} {H H' : Hp} {b : Addr} {ys : List V} (hb : H b = some (.lst ys)) (t : But b H H') : ∀ {vs : List V} {qs : List Rat}, RsL K H vs qs → RsL K H' vs qs
  | [], [], _ => True.intro
  | v :: vs, q :: qs, h => ⟨h.1.but hb t, RsL.but hb t h.2⟩
  | [], _ :: _, h => h.elim
  | _ :: _, [], h => h.elim
def corners (op : Rat → Rat → Rat) (a b c d : Rat) : List Rat := [op a c, op a d, op b c, op b d]
theorem corners_at (op : Rat → Rat → Rat) (a b c d : Rat) : ∀ q ∈ corners op a b c d, ∃ x y, (x = a ∨ x = b) ∧ (y = c ∨ y = d) ∧ q = op x y := by
  intro q hq
  simp only [corners, List.mem_cons, List.not_mem_nil, or_false] at hq
  rcases hq with h | h | h | h
  · exact ⟨a, c, .inl rfl, .inl rfl, h⟩
  · exact ⟨a, d, .inl rfl, .inr rfl, h⟩
  · exact ⟨b, c, .inr rfl, .inl rfl, h⟩
  · exact ⟨b, d, .inr rfl, .inr rfl, h⟩
def tEnds (K : PySem.W.Frag) (i : Nat) : TI := iTup K (tTup (tCons (tFld K (tVar i) "low") (tCons (tFld K (tVar i) "high") tNil)))
def tCorn (K : PySem.W.Frag) (op : Rat → Rat → Rat) : TE := tLc2 (tEnds K 0) (gName 2) tYes (tEnds K 1) (gName 3) tYes (tCall (spOpR K op) [] E0 (tCons (tVar 2) (tCons (tVar 3) tNil))) [2, 3] [3]
section
variable {K : PySem.W.Frag} {C : Addr}
theorem two_at {l h x : V} {i : Nat} (e : [l, h][i]? = some x) : (i = 0 ∧ x = l) ∨ (i = 1 ∧ x = h) := by
  match i, e with
  | 0, e => cases e; exact .inl ⟨rfl, rfl⟩
  | 1, e => cases e; exact .inr ⟨rfl, rfl⟩
  | n + 2, e => simp at e
theorem corn_ok {op : Rat → Rat → Rat} {H : Hp} {Q : VK} {a b : Addr} {lo hi lo' hi' : Rat} (T : Cls K C) (nL : NoAttr K C "low") (nH : NoAttr K C "high") (ha : SpanR K C H a lo hi) (hb : SpanR K C H b lo' hi') (s1 : Sz 3000 lo) (s2 : Sz 3000 hi) (s3 : Sz 3000 lo') (s4 : Sz 3000 hi')
    (q : ∀ D G vs, Same H G → G D = some (.lst vs) → RsL K G vs (corners op lo hi lo' hi') → Q (.ref D) G) : tCorn K op [some (.ref a), some (.ref b), none, none] H Q := by
  obtain ⟨dx, l, h, ea, w1, w2⟩ := id ha
  obtain ⟨dy, l', h', eb, w3, w4⟩ := id hb
  refine ⟨_, rfl, a, C, dx, _, _, rfl, ea, T, nL, rfl, _, rfl, a, C, dx, _, _, rfl, ea, T, nH, rfl, (by show 2 ≤ sizeLine; decide), fun t nt => ⟨t, rfl, ⟨_, SqT.of upd_same⟩, fun D nD => ?_⟩⟩
  refine walk_W (walk_tup (xs := [l, h])) (fun i G => ∃ vs, Same (upd H t (.tup [l, h])) G ∧ G D = some (.lst vs) ∧ RsL K G vs ((corners op lo hi lo' hi').take (2 * i))) ⟨[], same_upd nD, upd_same, True.intro⟩ (fun i G _ ⟨vs, s, _⟩ => seqT_same s (SqT.of upd_same)) ?_ ?_
  · rintro i x G G1 ilt ⟨vs, s, hD, hR⟩ ⟨rfl, ex⟩
    have sH : Same H G1 := (same_upd nt).trans s
    refine ⟨rfl, ?_⟩
    unfold tYes
    refine iteT ?_
    obtain ⟨dy2, l2, h2, eb2, w3', w4'⟩ := hb.same sH
    obtain ⟨rfl, rfl⟩ : l2 = l' ∧ h2 = h' := by
      rw [sH _ _ eb] at eb2
      cases eb2
      exact ⟨rfl, rfl⟩
    refine ⟨_, rfl, b, C, dy, _, _, rfl, sH _ _ eb, T, nL, rfl, _, rfl, b, C, dy, _, _, rfl, sH _ _ eb, T, nH, rfl, (by show 2 ≤ sizeLine; decide), fun u nu => ⟨u, rfl, ⟨_, SqT.of upd_same⟩, ?_⟩⟩
    obtain ⟨xq, hx0, sxq, hcor⟩ : ∃ xq, (∀ {G' : Hp}, Same (upd H t (.tup [l, h])) G' → IsR K G' x xq) ∧ Sz 3000 xq ∧ (corners op lo hi lo' hi').take (2 * (i + 1)) = ((corners op lo hi lo' hi').take (2 * i) ++ [op xq lo']) ++ [op xq hi'] := by
      rcases two_at ex with ⟨rfl, rfl⟩ | ⟨rfl, rfl⟩
      · exact ⟨lo, fun z => IsR.same ((same_upd nt).trans z) w1, s1, rfl⟩
      · exact ⟨hi, fun z => IsR.same ((same_upd nt).trans z) w2, s2, rfl⟩
    rw [hcor]
    have nuD : u ≠ D := fun e => by rw [e, hD] at nu; cases nu
    refine walk_W (walk_tup (xs := [l2, h2])) (fun j G2 => ∃ ws, Same (upd H t (.tup [l, h])) G2 ∧ G2 D = some (.lst ws) ∧ G2 u = some (.tup [l2, h2]) ∧ RsL K G2 ws ((corners op lo hi lo' hi').take (2 * i) ++ [op xq lo', op xq hi'].take j) ∧ ws.length ≤ 8)
      ⟨vs, s.trans (same_upd nu), by rw [upd_ne nuD.symm]; exact hD, upd_same, ?_, ?_⟩ (fun j G2 _ ⟨ws, _, _, e, _⟩ => SqT.of e) ?_ ?_
    · rw [List.take_zero, List.append_nil]
      exact hR.same (same_upd nu)
    · rw [hR.len, List.length_take]
      show min _ 4 ≤ 8
      omega
    · rintro j y G2 G3 jlt ⟨ws, s', hD', hu, hR', hl⟩ ⟨rfl, ey⟩
      have sH' : Same H G3 := (same_upd nt).trans s'
      refine ⟨rfl, ?_⟩
      refine iteT ?_
      obtain ⟨yq, hyq, syq, hty⟩ : ∃ yq, IsR K G3 y yq ∧ Sz 3000 yq ∧ [op xq lo', op xq hi'].take (j + 1) = [op xq lo', op xq hi'].take j ++ [op xq yq] := by
        rcases two_at ey with ⟨rfl, rfl⟩ | ⟨rfl, rfl⟩
        · exact ⟨lo', IsR.same sH' w3, s3, rfl⟩
        · exact ⟨hi', IsR.same sH' w4, s4, rfl⟩
      have hx3 : IsR K G3 x xq := hx0 s'
      refine ⟨_, rfl, _, rfl, x, y, xq, yq, rfl, hx3, hyq, sxq, syq, fun r G4 hr s4 => ⟨ws, s4 _ _ hD', Nat.lt_of_le_of_lt hl (by decide +kernel), ws ++ [r], same_updF nD (s'.trans s4), upd_same, ?_, ?_, ?_⟩⟩
      · rw [upd_ne nuD]
        exact s4 _ _ hu
      · rw [hty, ← List.append_assoc]
        have hD4 := s4 _ _ hD'
        exact RsL.snoc (hr.but hD4 But.upd) (RsL.but hD4 But.upd (hR'.same s4))
      · have := hR'.len
        rw [List.length_append] at this ⊢
        have l1 : ((corners op lo hi lo' hi').take (2 * i)).length ≤ 4 := by rw [List.length_take]; show min _ 4 ≤ 4; omega
        have l2 : ([op xq lo', op xq hi'].take j).length ≤ 2 := by rw [List.length_take]; show min _ 2 ≤ 2; omega
        show ws.length + 1 ≤ 8
        omega
    · rintro G2 ⟨ws, s', hD', hu, hR', hl⟩
      refine ⟨ws, s', hD', ?_⟩
      rw [List.append_assoc]
      exact hR'
  · rintro G ⟨vs, s, hD, hR⟩
    exact q D G vs ((same_upd nt).trans s) hD hR
end
end My

set_option Elab.async false
set_option linter.all false
set_option maxRecDepth 100000
namespace My
open PySem PySem.Spec PyProof.Rows L2 SX
/-- what is known of the class -/
structure SpT (K : PySem.W.Frag) (mg : Str → Option Value) (C : Addr) : Prop where
  cl : Cls K C
  nL : NoAttr K C "low"
  nH : NoAttr K C "high"
  g : mg "Span" = some (.ref C)
  ha : PySem.W.findIn K (.ref C) "__class__" = some (some (.builtin "object.__class__"))
  hn : PySem.W.specialIn K (.builtin "object.__class__") "__get__" = some (some (.builtin "getset_descriptor.__get__"))
  htk : PySem.W.takesIn K (.builtin "object.__class__") = some true
  hm : PySem.W.mroIn K C (.type "object") = some true
  isc : (PySem.W.clsIn K C).isSome = true
  tyc : PySem.W.typeIn K (.ref C) = some (.type "type")
theorem kit_bt {K : PySem.W.Frag} {mg : Str → Option Value} {C : Addr} {T : String} (h : SpT K mg C) (hs : PySem.W.subIn K (.type T) (.ref C) = some false) : PySem.W.kitOne K (.type T) (.ref C) = some false := by
  unfold PySem.W.kitOne
  rw [if_neg (by intro z; cases z)]
  unfold PySem.W.kitCls
  dsimp only
  rw [h.isc, h.tyc]
  exact hs
theorem SpT.ty {K : PySem.W.Frag} {mg : Str → Option Value} {C : Addr} {H : Hp} {a : Addr} {dx : Addr} {fs : List (Str × V)} (T : SpT K mg C) (h : H a = some (.ins C dx fs)) : TyX K H (.ref a) (.ref C) := .base (.ins h T.cl T.ha T.hn T.htk T.hm)
theorem kit_self {K : PySem.W.Frag} {C : Addr} : PySem.W.kitOne K (.ref C) (.ref C) = some true := by
  unfold PySem.W.kitOne
  rw [if_pos (by simp)]
def mulLo (lo hi lo' hi' : Rat) : Rat := mnL (corners (· * ·) lo hi lo' hi')
def mulHi (lo hi lo' hi' : Rat) : Rat := mxL (corners (· * ·) lo hi lo' hi')
def divLo (lo hi lo' hi' : Rat) : Rat := mnL (corners (· / ·) lo hi lo' hi')
def divHi (lo hi lo' hi' : Rat) : Rat := mxL (corners (· / ·) lo hi lo' hi')
def spOver (K : PySem.W.Frag) (C : Addr) : Sp := fun vs H Q _ => ∃ (a b : Addr) (lo hi lo' hi' : Rat), vs = [.ref a, .ref b] ∧ SpanR K C H a lo hi ∧ SpanR K C H b lo' hi' ∧ Sz 700 lo ∧ Sz 700 hi ∧ Sz 700 lo' ∧ Sz 700 hi' ∧
  (truthV lo' hi' = .non → Q .non H) ∧ (truthV lo' hi' ≠ .non → ∀ x H', H x = none → Same H H' → SpanR K C H' x (divLo lo hi lo' hi') (divHi lo hi lo' hi') → Q (.ref x) H')
def spFloorS (K : PySem.W.Frag) (C : Addr) : Sp := fun vs H Q _ => ∃ (a : Addr) (lo hi : Rat), vs = [.ref a] ∧ SpanR K C H a lo hi ∧ Sz 700 lo ∧ Sz 700 hi ∧ lo ≤ hi ∧ ∀ x H', H x = none → Same H H' → SpanR K C H' x (lo.floor : Rat) (hi.floor : Rat) → Q (.ref x) H'
def spEqS (K : PySem.W.Frag) (C : Addr) : Sp := fun vs H Q _ => ∃ (a : Addr) (v : V) (lo hi : Rat), vs = [.ref a, v] ∧ SpanR K C H a lo hi ∧
  ((∃ b lo' hi', v = .ref b ∧ SpanR K C H b lo' hi' ∧ Q (.bl (decide (lo = lo') && decide (hi = hi'))) H) ∨ ∃ tv, TyX K H v tv ∧ PySem.W.kitOne K tv (.ref C) = some false ∧ Q (.bl false) H)
def txR (q : Rat) : List Nat := wtx q.num q.den
def txS (lo hi : Rat) : List Nat := if lo = hi then txR lo else txR lo ++ 46 :: 46 :: txR hi
def spStrS (K : PySem.W.Frag) (C : Addr) : Sp := fun vs H Q _ => ∃ (a : Addr) (lo hi : Rat), vs = [.ref a] ∧ SpanR K C H a lo hi ∧ Sz 700 lo ∧ Sz 700 hi ∧ ∀ H', Same H H' → Q (.str (S (txS lo hi))) H'
theorem sz_corn {op : Rat → Rat → Rat} (h : ∀ {a b : Rat}, Sz 700 a → Sz 700 b → Sz 3000 (op a b)) {lo hi lo' hi' : Rat} (s1 : Sz 700 lo) (s2 : Sz 700 hi) (s3 : Sz 700 lo') (s4 : Sz 700 hi') : ∀ q ∈ corners op lo hi lo' hi', Sz 3000 q := fun q hq => by
  obtain ⟨x, y, hx, hy, rfl⟩ := corners_at op _ _ _ _ q hq
  rcases hx with rfl | rfl <;> rcases hy with rfl | rfl <;> exact h (by assumption) (by assumption)
theorem sz_mul7 {a b : Rat} (h : Sz 700 a) (h' : Sz 700 b) : Sz 3000 (a * b) := (sz_mul h h').mono (by decide)
theorem sz_quot7 {a b : Rat} (h : Sz 700 a) (h' : Sz 700 b) : Sz 3000 (a / b) := (sz_quot (n := 699) h h').mono (by decide)
theorem one_rat (t : Int) : (t : Rat) / ((1 : Int) : Rat) = (t : Rat) := by
  have := rat_self (t : Rat)
  rw [Rat.den_intCast, Rat.num_intCast] at this
  exact this.symm
theorem sz_int {n : Nat} {t : Int} (h : t.natAbs < 2 ^ (n + 1)) : Sz (n + 1) (t : Rat) := ⟨by rw [Rat.num_intCast]; exact h, by rw [Rat.den_intCast]; exact Nat.one_lt_two_pow (by omega)⟩
theorem sz_floor {n : Nat} {q : Rat} (h : Sz (n + 1) q) : Sz (n + 1) (q.floor : Rat) := by
  refine sz_int ?_
  rw [Rat.floor_def]
  exact Nat.lt_of_le_of_lt (Int.natAbs_ediv_le_natAbs _ _) h.a
theorem p10 {q : Rat} (h : Sz 700 q) : q.num.natAbs < 10 ^ 500 ∧ ((q.den : Int)).natAbs < 10 ^ 500 := by
  have : 2 ^ 700 < 10 ^ 500 := by decide +kernel
  refine ⟨Nat.lt_trans h.a this, ?_⟩
  rw [Int.natAbs_natCast]
  exact Nat.lt_trans h.b this
section
variable {P : Program} {w : World} {K : PySem.W.Frag} {mg : Str → Option Value} {base : Heap}
theorem ok_mul {C f fR fP : Addr} {fd fdR fdP : FuncData} {k : Nat} (F : Fun K "__mul__" "Span.__mul__" sSpanMul f fd) (T : SpT K mg C) (Sr : Cal P w K mg base "span_round" (k + 4) ["worths"] (spRound K C) fR fdR) (Pr : Cal P w K mg base "product" (k + 2) ["a", "b"] (spOpR K (· * ·)) fP fdP) :
    FnOk P w K mg base CX0 (k + 5) f fd ["self", "other"] (spSpR K C mulLo mulHi) := by
  refine F.ok scSpanMul (fun vs H Q E h => ?_) (fun cdv A outer s H vs Q E hr h => ?_)
  · obtain ⟨a, b, lo, hi, lo', hi', rfl, _⟩ := h
    rfl
  · obtain ⟨a, b, lo, hi, lo', hi', rfl, ha, hb, s1, s2, s3, s4, l1, l2, q⟩ := h
    refine ⟨_, (pss_one (ps_ret (pe_call Sr.ok (hr.mono (by omega)) rfl Sr.g Sr.kp Sr.b .nil pass0 (pa_cons (pe_lc2 (own := [("a", 2), ("b", 3)]) (vs1 := [3]) (g := gName 2) (g1 := gName 3) (tt := tYes) (tt1 := tYes) (wi := tEnds K 0) (wi1 := tEnds K 1) (te := tCall (spOpR K (· * ·)) [] E0 (tCons (tVar 2) (tCons (tVar 3) tNil))) rfl scSpanMul.nd (pi_tup (pe_tup (pa_cons (pe_fld (pv 0) rfl) (pa_cons (pe_fld (pv 0) rfl) pa_nil)))) (blkOk_by (own := [("a", 2), ("b", 3)]) (N := ["self", "other", "a", "b"]) (sc := defScope sSpanMul) (by decide +kernel)) (by decide) (fun _ _ _ _ _ => (pg_name (i := 2) scSpanMul.nd rfl (.inl rfl) (.inr rfl))) (fun _ _ _ _ _ => pts_nil) (fun _ _ _ _ _ => pi_tup (pe_tup (pa_cons (pe_fld (pv 1) rfl) (pa_cons (pe_fld (pv 1) rfl) pa_nil)))) (fun _ _ _ _ _ => (pg_name (i := 3) scSpanMul.nd rfl (.inl rfl) (.inr rfl))) (fun _ _ _ _ _ => pts_nil) (fun _ _ _ _ _ => (pe_call Pr.ok (hr.mono (by omega)) rfl Pr.g Pr.kp Pr.b .nil pass0 (pa_cons (pv 2) (pa_cons (pv 3) pa_nil))))) pa_nil)))), ?_⟩
    refine corn_ok (op := fun x1 x2 => x1 * x2) (Q := fun v H1 => spRound K C [v] H1 Q E0) T.cl T.nL T.nH ha hb (s1.mono (by decide)) (s2.mono (by decide)) (s3.mono (by decide)) (s4.mono (by decide)) fun D G vs s hD hR => ?_
    exact ⟨D, vs, _, rfl, SqL.of hD, hR, (fun z => by cases z), sz_corn sz_mul7 s1 s2 s3 s4, fun x H' nx s' hx => q x H' (s.free nx) (s.trans s') hx⟩
theorem ok_over {C f fR fP fT : Addr} {fd fdR fdP fdT : FuncData} {k : Nat} (F : Fun K "over" "Span.over" sSpanOver f fd) (T : SpT K mg C) (Tr : CalM P w K mg base C "truth" (k + 3) ["self"] (spTruthR K C) fT fdT) (Sr : Cal P w K mg base "span_round" (k + 4) ["worths"] (spRound K C) fR fdR) (Qu : Cal P w K mg base "quotient" (k + 2) ["a", "b"] (spOpR K (· / ·)) fP fdP) :
    FnOk P w K mg base CX0 (k + 5) f fd ["self", "other"] (spOver K C) := by
  refine F.ok scSpanOver (fun vs H Q E h => ?_) (fun cdv A outer s H vs Q E hr h => ?_)
  · obtain ⟨a, b, lo, hi, lo', hi', rfl, _⟩ := h
    rfl
  · obtain ⟨a, b, lo, hi, lo', hi', rfl, ha, hb, s1, s2, s3, s4, q1, q2⟩ := h
    refine ⟨_, (pss_cons (ps_if (pt_cmpR op_isN (pe_meth0 (pv 1) Tr.c Tr.m Tr.ok (hr.mono (by omega)) Tr.b .nil pass0) pe_non (nomark _)) (pss_one (ps_ret pe_non)) pss_nil)
      (pss_one (ps_ret (pe_call Sr.ok (hr.mono (by omega)) rfl Sr.g Sr.kp Sr.b .nil pass0 (pa_cons (pe_lc2 (own := [("a", 2), ("b", 3)]) (vs1 := [3]) (g := gName 2) (g1 := gName 3) (tt := tYes) (tt1 := tYes) (wi := tEnds K 0) (wi1 := tEnds K 1) (te := tCall (spOpR K (· / ·)) [] E0 (tCons (tVar 2) (tCons (tVar 3) tNil))) rfl scSpanOver.nd (pi_tup (pe_tup (pa_cons (pe_fld (pv 0) rfl) (pa_cons (pe_fld (pv 0) rfl) pa_nil)))) (blkOk_by (own := [("a", 2), ("b", 3)]) (N := ["self", "other", "a", "b"]) (sc := defScope sSpanOver) (by decide +kernel)) (by decide) (fun _ _ _ _ _ => (pg_name (i := 2) scSpanOver.nd rfl (.inl rfl) (.inr rfl))) (fun _ _ _ _ _ => pts_nil) (fun _ _ _ _ _ => pi_tup (pe_tup (pa_cons (pe_fld (pv 1) rfl) (pa_cons (pe_fld (pv 1) rfl) pa_nil)))) (fun _ _ _ _ _ => (pg_name (i := 3) scSpanOver.nd rfl (.inl rfl) (.inr rfl))) (fun _ _ _ _ _ => pts_nil) (fun _ _ _ _ _ => (pe_call Qu.ok (hr.mono (by omega)) rfl Qu.g Qu.kp Qu.b .nil pass0 (pa_cons (pv 2) (pa_cons (pv 3) pa_nil))))) pa_nil))))), ?_⟩
    obtain ⟨dy, l', h', eb, w3, w4⟩ := id hb
    refine ⟨_, rfl, b, dy, _, rfl, eb, rfl, b, lo', hi', rfl, hb, s3.mono (by decide), s4.mono (by decide), rfl, _, rfl, ite2 (fun e => ?_) (fun e => ?_)⟩
    · exact q1 (of_decide_eq_true e)
    · refine corn_ok (op := fun x1 x2 => x1 / x2) (Q := fun v H1 => spRound K C [v] H1 Q E0) T.cl T.nL T.nH ha hb (s1.mono (by decide)) (s2.mono (by decide)) (s3.mono (by decide)) (s4.mono (by decide)) fun D G vs s hD hR => ?_
      exact ⟨D, vs, _, rfl, SqL.of hD, hR, (fun z => by cases z), sz_corn sz_quot7 s1 s2 s3 s4, fun x H' nx s' hx => q2 (fun z => e (decide_eq_true z)) x H' (s.free nx) (s.trans s') hx⟩
theorem ok_floor {C f fI fW fF : Addr} {fd fdI fdW fdF : FuncData} {k : Nat} (F : Fun K "floor" "Span.floor" sSpanFloor f fd) (T : SpT K mg C) (MkS : CalC P w K mg base "Span" C (k + 2) ["self", "low", "high"] (spInitR K C) fI fdI)
    (W : Cal P w K mg base "worth" (k + 1) ["top", "bottom"] (spWorthR K) fW fdW) (W1 : ∃ ds, Vals [.int 1] ds ∧ Binds K fdW ["top", "bottom"] ds) (Fl : Cal P w K mg base "floor_of" (k + 1) ["a"] (spFloorR K) fF fdF) : FnOk P w K mg base CX0 (k + 4) f fd ["self"] (spFloorS K C) := by
  obtain ⟨ds, r1, b1⟩ := W1
  refine F.ok scSpanFloor (fun vs H Q E h => ?_) (fun cdv A outer s H vs Q E hr h => ?_)
  · obtain ⟨a, lo, hi, rfl, _⟩ := h
    rfl
  · obtain ⟨a, lo, hi, rfl, ha, s1, s2, le, q⟩ := h
    refine ⟨_, (pss_one (ps_ret (pe_make MkS.m MkS.ok (hr.mono (by omega)) rfl MkS.g MkS.b .nil pass0 (pa_cons (pe_call W.ok (hr.mono (by omega)) rfl W.g W.kp b1 r1 pass0 (pa_cons (pe_call Fl.ok (hr.mono (by omega)) rfl Fl.g Fl.kp Fl.b .nil pass0 (pa_cons (pe_fld (pv 0) rfl) pa_nil)) pa_nil)) (pa_cons (pe_call W.ok (hr.mono (by omega)) rfl W.g W.kp b1 r1 pass0 (pa_cons (pe_call Fl.ok (hr.mono (by omega)) rfl Fl.g Fl.kp Fl.b .nil pass0 (pa_cons (pe_fld (pv 0) rfl) pa_nil)) pa_nil)) pa_nil))))), ?_⟩
    obtain ⟨dx, l, h, ea, w1, w2⟩ := id ha
    refine ⟨_, rfl, a, C, dx, _, _, rfl, ea, T.cl, T.nL, rfl, l, lo, rfl, w1, s1.mono (by decide), lo.floor, 1, rfl, by decide +kernel, fun v1 H1 i1 t1 => ?_⟩
    refine ⟨_, rfl, a, C, dx, _, _, rfl, t1 _ _ ea, T.cl, T.nH, rfl, h, hi, rfl, IsR.same t1 w2, s2.mono (by decide), hi.floor, 1, rfl, by decide +kernel, fun v2 H2 i2 t2 => ?_⟩
    rw [one_rat] at i1 i2
    exact new_spanR (i1.same t2) i2 ((sz_floor (n := 699) s1).mono (by decide)) ((sz_floor (n := 699) s2).mono (by decide)) (Rat.intCast_le_intCast.mpr (Rat.floor_monotone le)) fun x H3 nx t3 hx => q x H3 ((t1.trans t2).free nx) ((t1.trans t2).trans t3) hx
theorem ok_eqS {C f : Addr} {fd : FuncData} {k : Nat} (F : Fun K "__eq__" "Span.__eq__" sSpanEq f fd) (T : SpT K mg C) (b_isinstance : mg "isinstance" = none) : FnOk P w K mg base CX0 (k + 1) f fd ["self", "other"] (spEqS K C) := by
  refine F.ok scSpanEq (fun vs H Q E h => ?_) (fun cdv A outer s H vs Q E hr h => ?_)
  · obtain ⟨a, v, lo, hi, rfl, _⟩ := h
    rfl
  · obtain ⟨a, v, lo, hi, rfl, ha, q⟩ := h
    have g_Span := T.g
    refine ⟨_, (pss_one (ps_ret (pe_and (pe_callB call_isi rfl b_isinstance (by decide +kernel) (pa_cons (pv 1) (pa_cons (pe_glob (v := .ref C) rfl g_Span rfl) pa_nil))) (pe_and (pe_cmpR (op_eqD hr.units) (pe_fld (pv 0) rfl) (pe_fld (pv 1) rfl) (nomark _)) (pe_one (pe_cmpR (op_eqD hr.units) (pe_fld (pv 0) rfl) (pe_fld (pv 1) rfl) (nomark _))))))), ?_⟩
    obtain ⟨dx, l, h, ea, ⟨t1, rfl, w1⟩, ⟨t2, rfl, w2⟩⟩ := id ha
    rcases q with ⟨b, lo', hi', rfl, hb, q⟩ | ⟨tv, ty, kk, q⟩
    · obtain ⟨dy, l', h', eb, ⟨t3, rfl, w3⟩, ⟨t4, rfl, w4⟩⟩ := id hb
      refine ⟨_, rfl, _, _, _, _, _, rfl, .own C, T.ty eb, kit_self, _, rfl, iteT ?_⟩
      refine ⟨_, rfl, a, C, dx, _, _, rfl, ea, T.cl, T.nL, rfl, _, rfl, b, C, dy, _, _, rfl, eb, T.cl, T.nL, rfl, _, _, .tup w1 dp_two, .tup w3 dp_two, shaped_two _ _, shaped_two _ _, _, rfl, ?_⟩
      rw [eqv_two, eq_dec]
      by_cases c : lo = lo'
      · rw [decide_eq_true c] at q ⊢
        refine iteT ⟨_, rfl, a, C, dx, _, _, rfl, ea, T.cl, T.nH, rfl, _, rfl, b, C, dy, _, _, rfl, eb, T.cl, T.nH, rfl, _, _, .tup w2 dp_two, .tup w4 dp_two, shaped_two _ _, shaped_two _ _, ?_⟩
        rw [eqv_two, eq_dec]
        exact q
      · rw [decide_eq_false c] at q ⊢
        exact iteF q
    · exact ⟨_, rfl, _, _, _, _, _, rfl, .own C, ty, kk, _, rfl, iteF q⟩
theorem tx_len {q : Rat} (h : Sz 700 q) : (txR q).length ≤ 1003 := wtx_len (p10 h).1 (p10 h).2
theorem ok_strS {C f fW : Addr} {fd fdW : FuncData} {k : Nat} (F : Fun K "__str__" "Span.__str__" sSpanStr f fd) (T : SpT K mg C) (Wt : Cal P w K mg base "worth_text" (k + 2) ["a"] (spWtx K) fW fdW) : FnOk P w K mg base CX0 (k + 3) f fd ["self"] (spStrS K C) := by
  refine F.ok scSpanStr (fun vs H Q E h => ?_) (fun cdv A outer s H vs Q E hr h => ?_)
  · obtain ⟨a, lo, hi, rfl, _⟩ := h
    rfl
  · obtain ⟨a, lo, hi, rfl, ha, s1, s2, q⟩ := h
    refine ⟨_, (pss_cons (ps_if (pt_cmpR (op_eqD hr.units) (pe_fld (pv 0) rfl) (pe_fld (pv 0) rfl) (nomark _)) (pss_one (ps_ret (pe_joined1 (pe_fmt (pe_call Wt.ok (hr.mono (by omega)) rfl Wt.g Wt.kp Wt.b .nil pass0 (pa_cons (pe_fld (pv 0) rfl) pa_nil)))))) pss_nil)
      (pss_one (ps_ret (pe_joined (PJ.cons (pe_fmt (pe_call Wt.ok (hr.mono (by omega)) rfl Wt.g Wt.kp Wt.b .nil pass0 (pa_cons (pe_fld (pv 0) rfl) pa_nil))) (PJ.cons pe_str (PJ.cons (pe_fmt (pe_call Wt.ok (hr.mono (by omega)) rfl Wt.g Wt.kp Wt.b .nil pass0 (pa_cons (pe_fld (pv 0) rfl) pa_nil))) PJ.nil))))))), ?_⟩
    obtain ⟨dx, l, h, ea, w1, w2⟩ := id ha
    obtain ⟨t1, rfl, w1'⟩ := id w1
    obtain ⟨t2, rfl, w2'⟩ := id w2
    have l1 := tx_len s1
    have l2 := tx_len s2
    have e0 : (Str.empty : Str) = S [] := rfl
    have es : Str.ofString ".." = S [46, 46] := by decide +kernel
    refine ⟨_, rfl, a, C, dx, _, _, rfl, ea, T.cl, T.nL, rfl, _, rfl, a, C, dx, _, _, rfl, ea, T.cl, T.nH, rfl, _, _, .tup w1' dp_two, .tup w2' dp_two, shaped_two _ _, shaped_two _ _, _, rfl, ?_⟩
    rw [eqv_two, eq_dec]
    refine ite2 (fun c => ?_) (fun c => ?_)
    · have hc : lo = hi := of_decide_eq_true c
      refine ⟨_, rfl, a, C, dx, _, _, rfl, ea, T.cl, T.nL, rfl, _, _, _, rfl, w1, (p10 s1).1, (p10 s1).2, fun H1 u1 => .inl ⟨_, rfl, line_of (by rw [S_len]; exact Nat.le_trans l1 (by decide)), ?_⟩⟩
      have := q H1 u1
      unfold txS at this
      rw [if_pos hc] at this
      exact this
    · have hc : lo ≠ hi := fun z => c (decide_eq_true z)
      refine ⟨_, rfl, a, C, dx, _, _, rfl, ea, T.cl, T.nL, rfl, _, _, _, rfl, w1, (p10 s1).1, (p10 s1).2, fun H1 u1 => .inl ⟨_, rfl, line_of (by rw [S_len]; exact Nat.le_trans l1 (by decide)), _, rfl, ?_, _, rfl, ?_, ?_⟩⟩
      · rw [e0, S_cat, S_len]
        exact line_of (Nat.le_trans l1 (by decide))
      · rw [e0, es, S_cat, S_cat, S_len]
        refine line_of ?_
        rw [List.length_append]
        have : ([] ++ txR lo).length ≤ 1003 := l1
        show _ + 2 ≤ _
        exact Nat.le_trans (Nat.add_le_add_right this 2) (by decide)
      · refine ⟨_, rfl, a, C, dx, _, _, rfl, u1 _ _ ea, T.cl, T.nH, rfl, _, _, _, rfl, IsR.same u1 w2, (p10 s2).1, (p10 s2).2, fun H2 u2 => .inl ⟨_, rfl, line_of (by rw [S_len]; exact Nat.le_trans l2 (by decide)), _, rfl, ?_, ?_⟩⟩
        · rw [e0, es, S_cat, S_cat, S_cat, S_len]
          refine line_of ?_
          rw [List.length_append, List.length_append]
          have h1 : ([] ++ txR lo).length ≤ 1003 := l1
          have h2 : (txR hi).length ≤ 1003 := l2
          show _ + 2 + _ ≤ _
          exact Nat.le_trans (Nat.add_le_add (Nat.add_le_add_right h1 2) h2) (by decide)
        · have := q H2 (u1.trans u2)
          unfold txS at this
          rw [if_neg hc] at this
          rw [e0, es, S_cat, S_cat, S_cat]
          show Q (.str (S (([] ++ txR lo ++ [46, 46]) ++ txR hi))) H2
          simpa using this
end
end My

set_option Elab.async false
set_option linter.all false
set_option maxRecDepth 100000
namespace My
open PySem PySem.Spec PyProof.Rows L2 SX
/-! the law's own worths -/
abbrev sLawFit : Stmt := topS 32
theorem scLawFit : FnScope ["top", "bottom", "a", "b", "sign"] ["top", "bottom"] (defScope sLawFit) := ⟨rfl, rfl, rfl, by decide +kernel, rfl, by decide +kernel, by decide +kernel⟩
abbrev sLawPlus : Stmt := topS 33
theorem scLawPlus : FnScope ["a", "b"] ["a", "b"] (defScope sLawPlus) := ⟨rfl, rfl, rfl, by decide +kernel, rfl, by decide +kernel, by decide +kernel⟩
abbrev sLawMinus : Stmt := topS 34
theorem scLawMinus : FnScope ["a", "b"] ["a", "b"] (defScope sLawMinus) := ⟨rfl, rfl, rfl, by decide +kernel, rfl, by decide +kernel, by decide +kernel⟩
abbrev sLawTimes : Stmt := topS 35
theorem scLawTimes : FnScope ["a", "b"] ["a", "b"] (defScope sLawTimes) := ⟨rfl, rfl, rfl, by decide +kernel, rfl, by decide +kernel, by decide +kernel⟩
abbrev sLawPart : Stmt := topS 36
theorem scLawPart : FnScope ["a", "b"] ["a", "b"] (defScope sLawPart) := ⟨rfl, rfl, rfl, by decide +kernel, rfl, by decide +kernel, by decide +kernel⟩
abbrev sLawLess : Stmt := topS 37
theorem scLawLess : FnScope ["a", "b"] ["a", "b"] (defScope sLawLess) := ⟨rfl, rfl, rfl, by decide +kernel, rfl, by decide +kernel, by decide +kernel⟩
abbrev sLawText : Stmt := topS 38
theorem scLawText : FnScope ["a"] ["a"] (defScope sLawText) := ⟨rfl, rfl, rfl, by decide +kernel, rfl, by decide +kernel, by decide +kernel⟩
abbrev sLawDown : Stmt := topS 43
theorem scLawDown : FnScope ["a"] ["a"] (defScope sLawDown) := ⟨rfl, rfl, rfl, by decide +kernel, rfl, by decide +kernel, by decide +kernel⟩
theorem fit_math {t b g : Int} (hb : b ≠ 0) (hg : g = ((Nat.gcd t.natAbs b.natAbs : Nat) : Int)) : 0 < g ∧ g.natAbs ≤ b.natAbs ∧ (b > 0 → WR t b ((1 * t).fdiv g) ((1 * b).fdiv g)) ∧ (¬ b > 0 → WR t b ((-1 * t).fdiv g) ((-1 * b).fdiv g)) := by
  obtain ⟨g0, gl, wn, wp⟩ := wr_make hb hg
  refine ⟨g0, gl, fun h => ?_, fun h => ?_⟩
  · rw [Int.one_mul, Int.one_mul]
    exact wp (by omega)
  · have e : ∀ x : Int, (-1 * x).fdiv g = x.fdiv (-g) := fun x => by
      have := Int.neg_fdiv_neg x (-g)
      rw [Int.neg_neg] at this
      rw [← this, show -1 * x = -x by omega]
    rw [e, e]
    exact wn (by omega)
def muFit : L2.St → Hp → Nat := fun σ _ => match σ with | [_, _, _, some (.int b), _] => b.toNat | _ => 0
def spTx (K : PySem.W.Frag) : Sp := fun vs H Q _ => ∃ v q, vs = [v] ∧ IsR K H v q ∧ Sz 700 q ∧ Q (.str (S (txR q))) H
def spDown (K : PySem.W.Frag) : Sp := fun vs H Q _ => ∃ v q, vs = [v] ∧ IsR K H v q ∧ Sz 700 q ∧ ∀ r H', IsR K H' r (q.floor : Rat) → Same H H' → Q r H'
section
variable {P : Program} {w : World} {K : PySem.W.Frag} {mg : Str → Option Value} {base : Heap}
theorem ok_fit {f : Addr} {fd : FuncData} {k : Nat} (F : Fun K "_law_fit" "_law_fit" sLawFit f fd) (b_abs : mg "abs" = none) (b_int : mg "int" = none) : FnOk P w K mg base CX0 (k + 1) f fd ["top", "bottom"] (spWorthR K) := by
  refine worthR ?_
  refine F.ok scLawFit (fun vs H Q E h => ?_) (fun cdv A outer s H vs Q E hr h => ?_)
  · obtain ⟨t, b, rfl, _⟩ := h
    rfl
  · obtain ⟨x, y, rfl, hb9, q⟩ := h
    refine ⟨_, (pss_cons (ps_if (pt_cmpR op_eq (pv 1) pe_int (nomark _)) (pss_one (ps_ret (pe_tup (pa_cons pe_int (pa_cons pe_int pa_nil))))) pss_nil)
      (pss_cons (ps_par (i := 2) (j := 3) rfl scLawFit.nd rfl rfl (by decide) rfl rfl (pa_cons (pe_callB call_abs rfl b_abs (by decide +kernel) (pa_cons (pv 0) pa_nil)) (pa_cons (pe_callB call_abs rfl b_abs (by decide +kernel) (pa_cons (pv 1) pa_nil)) pa_nil)) rfl)
      (pss_cons (ps_while PassesOwn.never (pt_cmpR op_gt (pv 3) pe_int (nomark _)) (pss_one (ps_par (i := 2) (j := 3) rfl scLawFit.nd rfl rfl (by decide) rfl rfl (pa_cons (pv 3) (pa_cons (pe_op op_mod (pe_callTy call_int1 rfl b_int (by decide +kernel) (pa_cons (pv 2) pa_nil)) (pv 3)) pa_nil)) rfl)))
      (pss_cons (ps_set (i := 4) scLawFit.nd rfl (.inl rfl) (pe_ifExp (pt_cmpR op_gt (pv 1) pe_int (nomark _)) pe_int (pe_un un_neg pe_int)))
      (pss_one (ps_ret (pe_tup (pa_cons (pe_op op_divS (pe_op op_mulG (pv 4) (pv 0)) (pv 2)) (pa_cons (pe_op op_divS (pe_op op_mulG (pv 4) (pv 1)) (pv 2)) pa_nil))))))))), ?_⟩
    refine ⟨_, rfl, rfl, _, rfl, ite2 (fun e => ?_) (fun e => ?_)⟩
    · have e0 : y = 0 := V.int.inj (of_decide_eq_true e)
      subst e0
      exact ⟨(by show 2 ≤ sizeLine; decide), fun p np => q _ 0 1 _ wr_zero ⟨p, rfl, SqT.of upd_same⟩ (same_upd np)⟩
    · have hb0 : y ≠ 0 := fun z => e (decide_eq_true (by rw [z]))
      obtain ⟨g0, gl, wp, wn⟩ := fit_math (t := x) hb0 rfl
      revert g0 gl wn wp
      generalize hG : ((Nat.gcd x.natAbs y.natAbs : Nat) : Int) = g
      intro g0 gl wp wn
      refine ⟨_, rfl, _, rfl, _, rfl, _, rfl, _, _, rfl, ?_⟩
      rw [abs_if, abs_if]
      refine while_by (fun σ H' => ∃ a b : Int, σ = [some (.int x), some (.int y), some (.int a), some (.int b), none] ∧ H' = H ∧ 0 ≤ a ∧ 0 ≤ b ∧ Nat.gcd a.natAbs b.natAbs = Nat.gcd x.natAbs y.natAbs) muFit ⟨_, _, rfl, rfl, Int.natCast_nonneg _, Int.natCast_nonneg _, rfl⟩ ?_ ?_
      · rintro σ H' ⟨a, b, rfl, rfl, a0, b0, e⟩
        refine ⟨_, rfl, _, _, rfl, rfl, _, rfl, ite2 (fun c => ?_) (fun c => ?_)⟩
        · have hb : 0 < b := of_decide_eq_true c
          refine ⟨_, rfl, _, rfl, .inl ⟨_, rfl, _, rfl, _, _, rfl, rfl, hb, _, _, rfl, ?_, ?_⟩⟩
          · refine ⟨_, _, rfl, rfl, b0, mod_lo hb, ?_⟩
            rw [← e]
            have h1 : (a % b).natAbs = a.natAbs % b.natAbs := by
              obtain ⟨a', rfl⟩ := Int.eq_ofNat_of_zero_le a0
              obtain ⟨b', rfl⟩ := Int.eq_ofNat_of_zero_le b0
              rfl
            rw [h1, Nat.gcd_comm a.natAbs, Nat.gcd_rec b.natAbs a.natAbs, Nat.gcd_comm]
          · have h2 := mod_hi (a := a) hb
            have h3 := mod_lo (a := a) hb
            show (a % b).toNat < b.toNat
            omega
        · have hb : b = 0 := by
            have : ¬ 0 < b := fun z => c (decide_eq_true z)
            omega
          subst hb
          have e2 : a = g := by
            rw [← hG, ← e]
            simp
            omega
          subst e2
          have hc : ∀ i, CDivS i a := fun i => ⟨by omega, log_of (Nat.lt_of_le_of_lt gl hb9)⟩
          have k1 : ∀ i, IntMulOk 1 i := fun i => IntMulOk.of_left (by decide +kernel)
          have k2 : ∀ i, IntMulOk (-1) i := fun i => IntMulOk.of_left (by decide +kernel)
          refine ⟨_, rfl, _, _, rfl, rfl, _, rfl, ite2 (fun c => ?_) (fun c => ?_)⟩
          · refine ⟨_, rfl, _, rfl, _, _, rfl, rfl, k1 _, _, rfl, _, _, rfl, rfl, hc _, _, rfl, _, rfl, _, _, rfl, rfl, k1 _, _, rfl, _, _, rfl, rfl, hc _, (by show 2 ≤ sizeLine; decide), fun p np => ?_⟩
            exact q _ _ _ _ (wp (of_decide_eq_true c)) ⟨p, rfl, SqT.of upd_same⟩ (same_upd np)
          · refine ⟨_, rfl, ?_⟩
            refine ⟨_, rfl, _, rfl, _, _, rfl, rfl, k2 _, _, rfl, _, _, rfl, rfl, hc _, _, rfl, _, rfl, _, _, rfl, rfl, k2 _, _, rfl, _, _, rfl, rfl, hc _, (by show 2 ≤ sizeLine; decide), fun p np => ?_⟩
            exact q _ _ _ _ (wn (fun z => c (decide_eq_true z))) ⟨p, rfl, SqT.of upd_same⟩ (same_upd np)
      · rintro σ H Q Q' hm ⟨v, e1, i, j, e3, e4, k, e5, z⟩
        exact ⟨v, e1, i, j, e3, e4, k, e5, hm _ _ z⟩
theorem ok_lplus {f fW : Addr} {fd fdW : FuncData} {k : Nat} (F : Fun K "_law_plus" "_law_plus" sLawPlus f fd) (Ft : Cal P w K mg base "_law_fit" (k + 1) ["top", "bottom"] (spWorthR K) fW fdW) : FnOk P w K mg base CX0 (k + 2) f fd ["a", "b"] (spOpR K (· + ·)) := by
  refine F.ok scLawPlus (fun vs H Q E h => ?_) (fun cdv A outer s H vs Q E hr h => ?_)
  · obtain ⟨v, w', x, y, rfl, _⟩ := h
    rfl
  · obtain ⟨v, w', x, y, rfl, ⟨a, rfl, hA⟩, ⟨b, rfl, hB⟩, s0, s1, q⟩ := h
    have z0 := s0.da; have z1 := s0.db; have z2 := s1.da; have z3 := s1.db
    unfold Sml at z0 z1 z2 z3
    refine ⟨_, (pss_one (ps_ret (pe_call Ft.ok (hr.mono (by omega)) rfl Ft.g Ft.kp Ft.b .nil pass0 (pa_cons (pe_op op_add (pe_op op_mulG (pe_ix ix_tup (pv 0) pe_int (fun _ _ => rfl)) (pe_ix ix_tup (pv 1) pe_int (fun _ _ => rfl))) (pe_op op_mulG (pe_ix ix_tup (pv 1) pe_int (fun _ _ => rfl)) (pe_ix ix_tup (pv 0) pe_int (fun _ _ => rfl)))) (pa_cons (pe_op op_mulG (pe_ix ix_tup (pv 0) pe_int (fun _ _ => rfl)) (pe_ix ix_tup (pv 1) pe_int (fun _ _ => rfl))) pa_nil))))), ?_⟩
    exact ⟨_, rfl, a, _, 0, _, rfl, rfl, hA, atI_nat (j := 0) rfl, _, rfl, b, _, 1, _, rfl, rfl, hB, atI_nat (j := 1) rfl, _, _, rfl, rfl, mok (by assumption) (by assumption), _, rfl, b, _, 0, _, rfl, rfl, hB, atI_nat (j := 0) rfl, _, rfl, a, _, 1, _, rfl, rfl, hA, atI_nat (j := 1) rfl, _, _, rfl, rfl, mok (by assumption) (by assumption), _, _, rfl, rfl, _, rfl, a, _, 1, _, rfl, rfl, hA, atI_nat (j := 1) rfl, _, rfl, b, _, 1, _, rfl, rfl, hB, atI_nat (j := 1) rfl, _, _, rfl, rfl, mok (by assumption) (by assumption), _, _, rfl, mlt (by assumption) (by assumption), fun v H' hi hs => q v H' (by rw [plus_rat] at hi; exact hi) hs⟩
theorem ok_lminus {f fW : Addr} {fd fdW : FuncData} {k : Nat} (F : Fun K "_law_minus" "_law_minus" sLawMinus f fd) (Ft : Cal P w K mg base "_law_fit" (k + 1) ["top", "bottom"] (spWorthR K) fW fdW) : FnOk P w K mg base CX0 (k + 2) f fd ["a", "b"] (spOpR K (· - ·)) := by
  refine F.ok scLawMinus (fun vs H Q E h => ?_) (fun cdv A outer s H vs Q E hr h => ?_)
  · obtain ⟨v, w', x, y, rfl, _⟩ := h
    rfl
  · obtain ⟨v, w', x, y, rfl, ⟨a, rfl, hA⟩, ⟨b, rfl, hB⟩, s0, s1, q⟩ := h
    have z0 := s0.da; have z1 := s0.db; have z2 := s1.da; have z3 := s1.db
    unfold Sml at z0 z1 z2 z3
    refine ⟨_, (pss_one (ps_ret (pe_call Ft.ok (hr.mono (by omega)) rfl Ft.g Ft.kp Ft.b .nil pass0 (pa_cons (pe_op op_sub (pe_op op_mulG (pe_ix ix_tup (pv 0) pe_int (fun _ _ => rfl)) (pe_ix ix_tup (pv 1) pe_int (fun _ _ => rfl))) (pe_op op_mulG (pe_ix ix_tup (pv 1) pe_int (fun _ _ => rfl)) (pe_ix ix_tup (pv 0) pe_int (fun _ _ => rfl)))) (pa_cons (pe_op op_mulG (pe_ix ix_tup (pv 0) pe_int (fun _ _ => rfl)) (pe_ix ix_tup (pv 1) pe_int (fun _ _ => rfl))) pa_nil))))), ?_⟩
    exact ⟨_, rfl, a, _, 0, _, rfl, rfl, hA, atI_nat (j := 0) rfl, _, rfl, b, _, 1, _, rfl, rfl, hB, atI_nat (j := 1) rfl, _, _, rfl, rfl, mok (by assumption) (by assumption), _, rfl, b, _, 0, _, rfl, rfl, hB, atI_nat (j := 0) rfl, _, rfl, a, _, 1, _, rfl, rfl, hA, atI_nat (j := 1) rfl, _, _, rfl, rfl, mok (by assumption) (by assumption), _, _, rfl, rfl, _, rfl, a, _, 1, _, rfl, rfl, hA, atI_nat (j := 1) rfl, _, rfl, b, _, 1, _, rfl, rfl, hB, atI_nat (j := 1) rfl, _, _, rfl, rfl, mok (by assumption) (by assumption), _, _, rfl, mlt (by assumption) (by assumption), fun v H' hi hs => q v H' (by rw [minus_rat] at hi; exact hi) hs⟩
theorem ok_ltimes {f fW : Addr} {fd fdW : FuncData} {k : Nat} (F : Fun K "_law_times" "_law_times" sLawTimes f fd) (Ft : Cal P w K mg base "_law_fit" (k + 1) ["top", "bottom"] (spWorthR K) fW fdW) : FnOk P w K mg base CX0 (k + 2) f fd ["a", "b"] (spOpR K (· * ·)) := by
  refine F.ok scLawTimes (fun vs H Q E h => ?_) (fun cdv A outer s H vs Q E hr h => ?_)
  · obtain ⟨v, w', x, y, rfl, _⟩ := h
    rfl
  · obtain ⟨v, w', x, y, rfl, ⟨a, rfl, hA⟩, ⟨b, rfl, hB⟩, s0, s1, q⟩ := h
    have z0 := s0.da; have z1 := s0.db; have z2 := s1.da; have z3 := s1.db
    unfold Sml at z0 z1 z2 z3
    refine ⟨_, (pss_one (ps_ret (pe_call Ft.ok (hr.mono (by omega)) rfl Ft.g Ft.kp Ft.b .nil pass0 (pa_cons (pe_op op_mulG (pe_ix ix_tup (pv 0) pe_int (fun _ _ => rfl)) (pe_ix ix_tup (pv 1) pe_int (fun _ _ => rfl))) (pa_cons (pe_op op_mulG (pe_ix ix_tup (pv 0) pe_int (fun _ _ => rfl)) (pe_ix ix_tup (pv 1) pe_int (fun _ _ => rfl))) pa_nil))))), ?_⟩
    exact ⟨_, rfl, a, _, 0, _, rfl, rfl, hA, atI_nat (j := 0) rfl, _, rfl, b, _, 0, _, rfl, rfl, hB, atI_nat (j := 0) rfl, _, _, rfl, rfl, mok (by assumption) (by assumption), _, rfl, a, _, 1, _, rfl, rfl, hA, atI_nat (j := 1) rfl, _, rfl, b, _, 1, _, rfl, rfl, hB, atI_nat (j := 1) rfl, _, _, rfl, rfl, mok (by assumption) (by assumption), _, _, rfl, mlt (by assumption) (by assumption), fun v H' hi hs => q v H' (by rw [mul_rat] at hi; exact hi) hs⟩
theorem ok_lpart {f fW : Addr} {fd fdW : FuncData} {k : Nat} (F : Fun K "_law_part" "_law_part" sLawPart f fd) (Ft : Cal P w K mg base "_law_fit" (k + 1) ["top", "bottom"] (spWorthR K) fW fdW) : FnOk P w K mg base CX0 (k + 2) f fd ["a", "b"] (spOpR K (· / ·)) := by
  refine F.ok scLawPart (fun vs H Q E h => ?_) (fun cdv A outer s H vs Q E hr h => ?_)
  · obtain ⟨v, w', x, y, rfl, _⟩ := h
    rfl
  · obtain ⟨v, w', x, y, rfl, ⟨a, rfl, hA⟩, ⟨b, rfl, hB⟩, s0, s1, q⟩ := h
    have z0 := s0.da; have z1 := s0.db; have z2 := s1.da; have z3 := s1.db
    unfold Sml at z0 z1 z2 z3
    refine ⟨_, (pss_one (ps_ret (pe_call Ft.ok (hr.mono (by omega)) rfl Ft.g Ft.kp Ft.b .nil pass0 (pa_cons (pe_op op_mulG (pe_ix ix_tup (pv 0) pe_int (fun _ _ => rfl)) (pe_ix ix_tup (pv 1) pe_int (fun _ _ => rfl))) (pa_cons (pe_op op_mulG (pe_ix ix_tup (pv 0) pe_int (fun _ _ => rfl)) (pe_ix ix_tup (pv 1) pe_int (fun _ _ => rfl))) pa_nil))))), ?_⟩
    exact ⟨_, rfl, a, _, 0, _, rfl, rfl, hA, atI_nat (j := 0) rfl, _, rfl, b, _, 1, _, rfl, rfl, hB, atI_nat (j := 1) rfl, _, _, rfl, rfl, mok (by assumption) (by assumption), _, rfl, a, _, 1, _, rfl, rfl, hA, atI_nat (j := 1) rfl, _, rfl, b, _, 0, _, rfl, rfl, hB, atI_nat (j := 0) rfl, _, _, rfl, rfl, mok (by assumption) (by assumption), _, _, rfl, mlt (by assumption) (by assumption), fun v H' hi hs => q v H' (by rw [div_rat] at hi; exact hi) hs⟩
theorem ok_lless {f : Addr} {fd : FuncData} {k : Nat} (F : Fun K "_law_less" "_law_less" sLawLess f fd) : FnOk P w K mg base CX0 (k + 1) f fd ["a", "b"] (spLessR K) := by
  refine F.ok scLawLess (fun vs H Q E h => ?_) (fun cdv A outer s H vs Q E hr h => ?_)
  · obtain ⟨v, w', x, y, rfl, _⟩ := h
    rfl
  · obtain ⟨v, w', x, y, rfl, ⟨a, rfl, hA⟩, ⟨b, rfl, hB⟩, s0, s1, q⟩ := h
    have z0 := s0.da; have z1 := s0.db; have z2 := s1.da; have z3 := s1.db
    unfold Sml at z0 z1 z2 z3
    rw [← lt_dec] at q
    refine ⟨_, (pss_one (ps_ret (pe_cmpR op_lt (pe_op op_mulG (pe_ix ix_tup (pv 0) pe_int (fun _ _ => rfl)) (pe_ix ix_tup (pv 1) pe_int (fun _ _ => rfl))) (pe_op op_mulG (pe_ix ix_tup (pv 1) pe_int (fun _ _ => rfl)) (pe_ix ix_tup (pv 0) pe_int (fun _ _ => rfl))) (nomark _)))), ?_⟩
    exact ⟨_, rfl, a, _, 0, _, rfl, rfl, hA, atI_nat (j := 0) rfl, _, rfl, b, _, 1, _, rfl, rfl, hB, atI_nat (j := 1) rfl, _, _, rfl, rfl, mok (by assumption) (by assumption), _, rfl, b, _, 0, _, rfl, rfl, hB, atI_nat (j := 0) rfl, _, rfl, a, _, 1, _, rfl, rfl, hA, atI_nat (j := 1) rfl, _, _, rfl, rfl, mok (by assumption) (by assumption), _, _, rfl, rfl, q⟩
theorem ok_ltext {f : Addr} {fd : FuncData} {k : Nat} (F : Fun K "_law_text" "_law_text" sLawText f fd) (b_str : mg "str" = none) : FnOk P w K mg base CX0 (k + 1) f fd ["a"] (spTx K) := by
  refine F.ok scLawText (fun vs H Q E h => ?_) (fun cdv A outer s H vs Q E hr h => ?_)
  · obtain ⟨v, x, rfl, _⟩ := h
    rfl
  · obtain ⟨v, x, rfl, ⟨a, rfl, hA⟩, s0, q⟩ := h
    obtain ⟨p1, p2⟩ := p10 s0
    refine ⟨_, (pss_one (ps_ret (pe_ifExp (pt_cmpR op_eq (pe_ix ix_tup (pv 0) pe_int (fun _ _ => rfl)) pe_int (nomark _)) (pe_callTy call_str_int rfl b_str (by decide +kernel) (pa_cons (pe_ix ix_tup (pv 0) pe_int (fun _ _ => rfl)) pa_nil)) (pe_op op_add_str (pe_op op_add_str (pe_callTy call_str_int rfl b_str (by decide +kernel) (pa_cons (pe_ix ix_tup (pv 0) pe_int (fun _ _ => rfl)) pa_nil)) pe_str) (pe_callTy call_str_int rfl b_str (by decide +kernel) (pa_cons (pe_ix ix_tup (pv 0) pe_int (fun _ _ => rfl)) pa_nil)))))), ?_⟩
    have es : Str.ofString "/" = S [47] := by decide +kernel
    have l1 := ntx_len p1
    have l2 := ntx_len p2
    refine ⟨_, rfl, a, _, 1, _, rfl, rfl, hA, atI_nat (j := 1) rfl, rfl, _, rfl, ite2 (fun c => ?_) (fun c => ?_)⟩
    · have hc : (x.den : Int) = 1 := V.int.inj (of_decide_eq_true c)
      refine ⟨_, rfl, a, _, 0, _, rfl, rfl, hA, atI_nat (j := 0) rfl, _, rfl, log500 p1, ?_⟩
      unfold txR wtx at q
      rw [if_pos hc, ← int_text] at q
      exact q
    · have hc : (x.den : Int) ≠ 1 := fun z => c (decide_eq_true (by rw [z]))
      unfold txR wtx at q
      rw [if_neg hc] at q
      have el : Str.ofString (toString x.num) = S (ntx x.num) := int_text _
      have er : Str.ofString (toString (x.den : Int)) = S (ntx x.den) := int_text _
      refine ⟨_, rfl, a, _, 0, _, rfl, rfl, hA, atI_nat (j := 0) rfl, _, rfl, log500 p1, _, _, rfl, rfl, ?_, ?_⟩
      · rw [el, es, S_len]
        exact line_of (by show _ + 1 ≤ _; omega)
      · refine ⟨_, rfl, a, _, 1, _, rfl, rfl, hA, atI_nat (j := 1) rfl, _, rfl, log500 p2, _, _, rfl, rfl, ?_, ?_⟩
        · rw [el, er, es, S_cat, S_len, S_len, List.length_append]
          exact line_of (by show _ + 1 + _ ≤ _; omega)
        · rw [el, er, es, S_cat, S_cat, List.append_assoc]
          exact q
theorem ok_down {f : Addr} {fd : FuncData} {k : Nat} (F : Fun K "_law_down" "_law_down" sLawDown f fd) : FnOk P w K mg base CX0 (k + 1) f fd ["a"] (spDown K) := by
  refine F.ok scLawDown (fun vs H Q E h => ?_) (fun cdv A outer s H vs Q E hr h => ?_)
  · obtain ⟨v, x, rfl, _⟩ := h
    rfl
  · obtain ⟨v, x, rfl, ⟨a, rfl, hA⟩, s0, q⟩ := h
    refine ⟨_, (pss_one (ps_ret (pe_tup (pa_cons (pe_op op_divS (pe_ix ix_tup (pv 0) pe_int (fun _ _ => rfl)) (pe_ix ix_tup (pv 0) pe_int (fun _ _ => rfl))) (pa_cons pe_int pa_nil))))), ?_⟩
    have h1 : (1 : Int) ≤ x.den := den1 x
    refine ⟨_, rfl, a, _, 0, _, rfl, rfl, hA, atI_nat (j := 0) rfl, _, rfl, a, _, 1, _, rfl, rfl, hA, atI_nat (j := 1) rfl, _, _, rfl, rfl, ⟨by omega, log_of (by rw [Int.natAbs_natCast]; exact Nat.lt_trans s0.b (Nat.pow_lt_pow_right (by decide) (by decide)))⟩, (by show 2 ≤ sizeLine; decide), fun p np => ?_⟩
    refine q _ _ ⟨p, rfl, ?_⟩ (same_upd np)
    rw [Rat.num_intCast, Rat.den_intCast, Rat.floor_def]
    have : x.num.fdiv x.den = x.num / x.den := Int.fdiv_eq_ediv_of_nonneg _ (by omega)
    rw [← this]
    exact SqT.of upd_same
end
end My

set_option Elab.async false
set_option linter.all false
set_option maxRecDepth 100000
namespace My
open PySem PySem.Spec PyProof.Rows L2 SX
/-! worths that are drawn; the ends of spans; worths between -/
abbrev sLawWorth : Stmt := topS 39
theorem scLawWorth : FnScope ["bag", "way", "top"] ["bag"] (defScope sLawWorth) := ⟨rfl, rfl, rfl, by decide +kernel, rfl, by decide +kernel, by decide +kernel⟩
abbrev sLawEnds : Stmt := topS 40
theorem scLawEnds : FnScope ["bag", "a", "b"] ["bag"] (defScope sLawEnds) := ⟨rfl, rfl, rfl, by decide +kernel, rfl, by decide +kernel, by decide +kernel⟩
abbrev sLawWithin : Stmt := topS 41
theorem scLawWithin : FnScope ["bag", "ends", "gap", "n", "drawn"] ["bag", "ends"] (defScope sLawWithin) := ⟨rfl, rfl, rfl, by decide +kernel, rfl, by decide +kernel, by decide +kernel⟩
abbrev sLawLeast : Stmt := topS 42
theorem scLawLeast : FnScope ["some", "least", "best", "one"] ["some"] (defScope sLawLeast) := ⟨rfl, rfl, rfl, by decide +kernel, rfl, by decide +kernel, by decide +kernel⟩
theorem BagAt.get {K : PySem.W.Frag} {H : Hp} {b : Addr} (B : BagAt K H b) : ∃ xs, H b = some (.lst xs) := by
  obtain ⟨c, ns, i, g, x, n, B⟩ := B
  exact ⟨_, B.ob⟩
theorem BagAt.ne {K : PySem.W.Frag} {H : Hp} {b l : Addr} (B : BagAt K H b) (n : H l = none) : l ≠ b := fun e => by
  obtain ⟨xs, h⟩ := B.get
  rw [e, h] at n
  cases n
def EndsAt (K : PySem.W.Frag) (H : Hp) (v : V) (lo hi : Rat) : Prop := ∃ t l h, v = .ref t ∧ SqT K H t [l, h] ∧ IsR K H l lo ∧ IsR K H h hi
theorem EndsAt.same {K : PySem.W.Frag} {H H' : Hp} {v : V} {lo hi : Rat} (h : EndsAt K H v lo hi) (s : Same H H') : EndsAt K H' v lo hi := by
  obtain ⟨t, l, h, e, h1, h2, h3⟩ := h
  exact ⟨t, l, h, e, seqT_same s h1, h2.same s, h3.same s⟩
theorem EndsAt.but {K : PySem.W.Frag} {H H' : Hp} {b : Addr} {v : V} {lo hi : Rat} {ys : List V} (h : EndsAt K H v lo hi) (hb : H b = some (.lst ys)) (s : But b H H') : EndsAt K H' v lo hi := by
  obtain ⟨t, l, h, e, h1, h2, h3⟩ := h
  exact ⟨t, l, h, e, SqT.but hb s h1, h2.but hb s, h3.but hb s⟩
theorem IsR.bag {K : PySem.W.Frag} {H H' : Hp} {b : Addr} {v : V} {q : Rat} (h : IsR K H v q) (B : BagAt K H b) (t : But b H H') : IsR K H' v q := by
  obtain ⟨xs, hb⟩ := B.get
  exact h.but hb t
theorem EndsAt.bag {K : PySem.W.Frag} {H H' : Hp} {b : Addr} {v : V} {lo hi : Rat} (h : EndsAt K H v lo hi) (B : BagAt K H b) (t : But b H H') : EndsAt K H' v lo hi := by
  obtain ⟨xs, hb⟩ := B.get
  exact h.but hb t
theorem RsL.bag {K : PySem.W.Frag} {H H' : Hp} {b : Addr} {vs : List V} {qs : List Rat} (h : RsL K H vs qs) (B : BagAt K H b) (t : But b H H') : RsL K H' vs qs := by
  obtain ⟨xs, hb⟩ := B.get
  exact RsL.but hb t h
theorem isr_int {K : PySem.W.Frag} {H : Hp} {p : Addr} {z : Int} (h : SqT K H p [.int z, .int 1]) : IsR K H (.ref p) (z : Rat) := ⟨p, rfl, by rw [Rat.num_intCast, Rat.den_intCast]; exact h⟩
def spLw (K : PySem.W.Frag) : Sp := fun vs H Q _ => ∃ b : Addr, vs = [.ref b] ∧ BagAt K H b ∧ ∀ v q H', IsR K H' v q → Sz 110 q → BagAt K H' b → But b H H' → Q v H'
def spEnds (K : PySem.W.Frag) : Sp := fun vs H Q _ => ∃ b : Addr, vs = [.ref b] ∧ BagAt K H b ∧ ∀ v lo hi H', EndsAt K H' v lo hi → lo ≤ hi → Sz 120 lo → Sz 120 hi → BagAt K H' b → But b H H' → Q v H'
/-- worths held by a span -/
def Held (K : PySem.W.Frag) (H : Hp) (ws : List V) (qs : List Rat) (lo hi : Rat) : Prop := RsL K H ws qs ∧ qs.length = 4 ∧ lo ∈ qs ∧ hi ∈ qs ∧ ∀ q ∈ qs, lo ≤ q ∧ q ≤ hi ∧ Sz 450 q
def spWithin (K : PySem.W.Frag) : Sp := fun vs H Q _ => ∃ (b : Addr) (v : V) (lo hi : Rat), vs = [.ref b, v] ∧ BagAt K H b ∧ EndsAt K H v lo hi ∧ lo ≤ hi ∧ Sz 130 lo ∧ Sz 130 hi ∧
  ∀ l ws qs H', l ≠ b → H' l = some (.lst ws) → H l = none → Held K H' ws qs lo hi → BagAt K H' b → But b H H' → Q (.ref l) H'
def spLeast (K : PySem.W.Frag) : Sp := fun vs H Q _ => ∃ (a : Addr) (ws : List V) (qs : List Rat), vs = [.ref a] ∧ SqL K H a ws ∧ RsL K H ws qs ∧ qs ≠ [] ∧ (∀ q ∈ qs, Sz 3000 q) ∧ ∀ v H', EndsAt K H' v (mnL qs) (mxL qs) → Same H H' → Q v H'
section
variable {P : Program} {w : World} {K : PySem.W.Frag} {mg : Str → Option Value} {base : Heap}
theorem ok_lworth {f fD fO fF : Addr} {fd fdD fdO fdF : FuncData} {k : Nat} (F : Fun K "_law_worth" "_law_worth" sLawWorth f fd) (D : Cal P w K mg base "_law_pull" (k + 1) ["bag", "many"] (spDraw K) fD fdD) (O : Cal P w K mg base "_law_of" (k + 2) ["bag", "some"] (spOf K) fO fdO)
    (Ft : Cal P w K mg base "_law_fit" (k + 1) ["top", "bottom"] (spWorthR K) fF fdF) : FnOk P w K mg base CX0 (k + 3) f fd ["bag"] (spLw K) := by
  refine F.ok scLawWorth (fun vs H Q E h => ?_) (fun cdv A outer s H vs Q E hr h => ?_)
  · obtain ⟨b, rfl, _⟩ := h
    rfl
  · obtain ⟨b, rfl, B, q⟩ := h
    refine ⟨_, (pss_cons (ps_set (i := 1) scLawWorth.nd rfl (.inl rfl) (pe_call D.ok (hr.mono (by omega)) rfl D.g D.kp D.b .nil pass0 (pa_cons (pv 0) (pa_cons pe_int pa_nil))))
      (pss_cons (ps_if (pt_cmpR op_lt (pv 1) pe_int (nomark _)) (pss_one (ps_ret (pe_tup (pa_cons (pe_call O.ok (hr.mono (by omega)) rfl O.g O.kp O.b .nil pass0 (pa_cons (pv 0) (pa_cons (pe_lst (pa_cons pe_int (pa_cons pe_int (pa_cons pe_int (pa_cons (pe_un un_neg pe_int) pa_nil))))) pa_nil))) (pa_cons pe_int pa_nil))))) pss_nil)
      (pss_cons (ps_if (pt_cmpR op_lt (pv 1) pe_int (nomark _)) (pss_one (ps_ret (pe_call Ft.ok (hr.mono (by omega)) rfl Ft.g Ft.kp Ft.b .nil pass0 (pa_cons (pe_op op_sub (pe_call D.ok (hr.mono (by omega)) rfl D.g D.kp D.b .nil pass0 (pa_cons (pv 0) (pa_cons pe_int pa_nil))) pe_int) (pa_cons (pe_op op_add pe_int (pe_call D.ok (hr.mono (by omega)) rfl D.g D.kp D.b .nil pass0 (pa_cons (pv 0) (pa_cons pe_int pa_nil)))) pa_nil))))) pss_nil)
      (pss_cons (ps_set (i := 2) scLawWorth.nd rfl (.inl rfl) (pe_op op_add (pe_op op_mulG (pe_op op_powG pe_int pe_int) (pe_call D.ok (hr.mono (by omega)) rfl D.g D.kp D.b .nil pass0 (pa_cons (pv 0) (pa_cons (pe_op op_powG pe_int pe_int) pa_nil)))) (pe_call D.ok (hr.mono (by omega)) rfl D.g D.kp D.b .nil pass0 (pa_cons (pv 0) (pa_cons (pe_op op_powG pe_int pe_int) pa_nil)))))
      (pss_one (ps_ret (pe_call Ft.ok (hr.mono (by omega)) rfl Ft.g Ft.kp Ft.b .nil pass0 (pa_cons (pe_call O.ok (hr.mono (by omega)) rfl O.g O.kp O.b .nil pass0 (pa_cons (pv 0) (pa_cons (pe_lst (pa_cons (pv 2) (pa_cons (pe_un un_neg (pv 2)) pa_nil))) pa_nil))) (pa_cons (pe_op op_add pe_int (pe_call O.ok (hr.mono (by omega)) rfl O.g O.kp O.b .nil pass0 (pa_cons (pv 0) (pa_cons (pe_lst (pa_cons pe_int (pa_cons (pe_call D.ok (hr.mono (by omega)) rfl D.g D.kp D.b .nil pass0 (pa_cons (pv 0) (pa_cons (pe_op op_powG pe_int pe_int) pa_nil))) pa_nil))) pa_nil)))) pa_nil))))))))), ?_⟩
    refine ⟨_, rfl, b, _, rfl, B, by decide, by decide, fun r H1 r0 r1 B1 t1 => ?_⟩
    refine ⟨_, rfl, _, _, rfl, rfl, _, rfl, ite2 (fun _ => ?_) (fun _ => ?_)⟩
    · refine ⟨_, rfl, _, rfl, (by show 4 ≤ sizeLine; decide), fun l nl => ⟨b, l, _, rfl, B1.same (same_upd nl), B1.ne nl, SqL.of upd_same, by decide, by decide, fun v H2 hv B2 t2 => ?_⟩⟩
      refine ⟨(by show 2 ≤ sizeLine; decide), fun p np => ?_⟩
      have tt : But b H (upd H2 p (.tup [v, .int 1])) := ((t1.trans (But.of (same_upd nl))).trans t2).trans (But.of (same_upd np))
      simp only [List.mem_cons, List.not_mem_nil, or_false] at hv
      rcases hv with rfl | rfl | rfl | rfl
      · exact q _ _ _ (isr_int (SqT.of upd_same)) (sz_int (n := 109) (by decide +kernel)) (B2.same (same_upd np)) tt
      · exact q _ _ _ (isr_int (SqT.of upd_same)) (sz_int (n := 109) (by decide +kernel)) (B2.same (same_upd np)) tt
      · exact q _ _ _ (isr_int (SqT.of upd_same)) (sz_int (n := 109) (by decide +kernel)) (B2.same (same_upd np)) tt
      · exact q _ _ _ (isr_int (SqT.of upd_same)) (sz_int (n := 109) (by decide +kernel)) (B2.same (same_upd np)) tt
    · refine ⟨_, rfl, _, _, rfl, rfl, _, rfl, ite2 (fun _ => ?_) (fun _ => ?_)⟩
      · refine ⟨_, rfl, b, _, rfl, B1, by decide, by decide, fun r2 H2 r20 r21 B2 t2 => ⟨_, _, rfl, rfl, _, rfl, b, _, rfl, B2, by decide, by decide, fun r3 H3 r30 r31 B3 t3 => ⟨_, _, rfl, rfl, _, _, rfl, ?_, fun v H4 hi s4 => ?_⟩⟩⟩
        · exact Nat.lt_of_lt_of_le (show (1 + r3).natAbs < 2 ^ 4 by show _ < 16; omega) (Nat.pow_le_pow_right (by decide) (by decide))
        · exact q _ _ _ hi ((sz_div (n := 5) (by omega) (by show _ < 32; omega) (by show _ < 32; omega)).mono (by decide)) (B3.same s4) (((t1.trans t2).trans t3).trans (But.of s4))
      · have e10 : (10 : Int) ^ (Int.toNat 10) = 10000000000 := by decide +kernel
        have e18 : (10 : Int) ^ (Int.toNat 18) = 1000000000000000000 := by decide +kernel
        have e15 : (10 : Int) ^ (Int.toNat 15) = 1000000000000000 := by decide +kernel
        have e20 : (10 : Int) ^ (Int.toNat 20) = 100000000000000000000 := by decide +kernel
        refine ⟨_, _, rfl, rfl, ⟨by decide, by decide +kernel⟩, _, rfl, _, _, rfl, rfl, ⟨by decide, by decide +kernel⟩, b, _, rfl, B1, by decide +kernel, by decide +kernel, fun r2 H2 r20 r21 B2 t2 => ?_⟩
        rw [e10] at r21
        have b2 : r2.natAbs < 2 ^ 34 := by show _ < 17179869184; omega
        refine ⟨_, _, rfl, rfl, mok (Nat.lt_of_lt_of_le (show _ < 2 ^ 67 by decide +kernel) (Nat.pow_le_pow_right (by decide) (by decide))) (Nat.lt_of_lt_of_le b2 (Nat.pow_le_pow_right (by decide) (by decide))), ?_⟩
        refine ⟨_, rfl, _, _, rfl, rfl, ⟨by decide, by decide +kernel⟩, b, _, rfl, B2, by decide +kernel, by decide +kernel, fun r3 H3 r30 r31 B3 t3 => ?_⟩
        rw [e18] at r31
        obtain ⟨tp, htp, ltp⟩ : ∃ tp : Int, 10 ^ Int.toNat 20 * r2 + r3 = tp ∧ tp.natAbs < 2 ^ 109 := by
          refine ⟨_, rfl, ?_⟩
          rw [e20]
          show _ < 649037107316853453566312041152512
          omega
        refine ⟨_, _, rfl, rfl, ?_⟩
        dsimp only
        rw [htp]
        refine ⟨_, rfl, _, rfl, _, rfl, _, rfl, (by show 2 ≤ sizeLine; decide), fun l nl => ⟨b, l, _, rfl, B3.same (same_upd nl), B3.ne nl, SqL.of upd_same, (by show 0 < 2; decide), (by show 2 < 1000; decide), fun v H4 hv B4 t4 => ?_⟩⟩
        obtain ⟨tq, rfl, ltq⟩ : ∃ tq : Int, v = .int tq ∧ tq.natAbs < 2 ^ 109 := by
          simp only [List.mem_cons, List.not_mem_nil, or_false] at hv
          rcases hv with rfl | rfl
          · exact ⟨_, rfl, ltp⟩
          · exact ⟨_, rfl, by rw [Int.natAbs_neg]; exact ltp⟩
        refine ⟨_, rfl, _, rfl, _, _, rfl, rfl, ⟨by decide, by decide +kernel⟩, b, _, rfl, B4, by decide +kernel, by decide +kernel, fun r4 H5 r40 r41 B5 t5 => ?_⟩
        rw [e15] at r41
        refine ⟨(by show 2 ≤ sizeLine; decide), fun l2 nl2 => ⟨b, l2, _, rfl, B5.same (same_upd nl2), B5.ne nl2, SqL.of upd_same, (by show 0 < 2; decide), (by show 2 < 1000; decide), fun v2 H6 hv2 B6 t6 => ?_⟩⟩
        obtain ⟨bt, rfl, bt0, bt1⟩ : ∃ bt : Int, v2 = .int bt ∧ 0 ≤ bt ∧ bt < 1000000000000000 := by
          simp only [List.mem_cons, List.not_mem_nil, or_false] at hv2
          rcases hv2 with rfl | rfl
          · exact ⟨_, rfl, by decide, by decide⟩
          · exact ⟨_, rfl, r40, r41⟩
        have bb : (1 + bt).natAbs < 2 ^ 50 := by show _ < 1125899906842624; omega
        refine ⟨_, _, rfl, rfl, _, _, rfl, Nat.lt_of_lt_of_le bb (Nat.pow_le_pow_right (by decide) (by decide)), fun v H7 hi s7 => ?_⟩
        exact q _ _ _ hi ((sz_div (n := 109) (by omega) ltq (Nat.lt_of_lt_of_le bb (Nat.pow_le_pow_right (by decide) (by decide)))).mono (by decide)) (B6.same s7) ((((((((t1.trans t2).trans t3).trans (But.of (same_upd nl))).trans t4).trans t5).trans (But.of (same_upd nl2))).trans t6).trans (But.of s7))
theorem ok_lends {f fD fW fP fF fL : Addr} {fd fdD fdW fdP fdF fdL : FuncData} {k : Nat} (F : Fun K "_law_ends" "_law_ends" sLawEnds f fd) (D : Cal P w K mg base "_law_pull" (k + 1) ["bag", "many"] (spDraw K) fD fdD) (Lw : Cal P w K mg base "_law_worth" (k + 3) ["bag"] (spLw K) fW fdW)
    (Lp : Cal P w K mg base "_law_plus" (k + 2) ["a", "b"] (spOpR K (· + ·)) fP fdP) (Ft : Cal P w K mg base "_law_fit" (k + 1) ["top", "bottom"] (spWorthR K) fF fdF) (Ll : Cal P w K mg base "_law_less" (k + 1) ["a", "b"] (spLessR K) fL fdL) : FnOk P w K mg base CX0 (k + 4) f fd ["bag"] (spEnds K) := by
  refine F.ok scLawEnds (fun vs H Q E h => ?_) (fun cdv A outer s H vs Q E hr h => ?_)
  · obtain ⟨b, rfl, _⟩ := h
    rfl
  · obtain ⟨b, rfl, B, q⟩ := h
    refine ⟨_, (pss_cons (ps_set (i := 1) scLawEnds.nd rfl (.inl rfl) (pe_call Lw.ok (hr.mono (by omega)) rfl Lw.g Lw.kp Lw.b .nil pass0 (pa_cons (pv 0) pa_nil)))
      (C8.pss_cut (ps_set (i := 2) scLawEnds.nd rfl (.inl rfl) (pe_ifExp (pt_cmpR op_eq (pe_call D.ok (hr.mono (by omega)) rfl D.g D.kp D.b .nil pass0 (pa_cons (pv 0) (pa_cons pe_int pa_nil))) pe_int (nomark _)) (pv 1) (pe_call Lw.ok (hr.mono (by omega)) rfl Lw.g Lw.kp Lw.b .nil pass0 (pa_cons (pv 0) pa_nil))))
      (C8.pss_cut (ps_if (pt_cmpR op_eq (pe_call D.ok (hr.mono (by omega)) rfl D.g D.kp D.b .nil pass0 (pa_cons (pv 0) (pa_cons pe_int pa_nil))) pe_int (nomark _)) (pss_one (ps_set (i := 2) scLawEnds.nd rfl (.inl rfl) (pe_call Lp.ok (hr.mono (by omega)) rfl Lp.g Lp.kp Lp.b .nil pass0 (pa_cons (pv 1) (pa_cons (pe_call Ft.ok (hr.mono (by omega)) rfl Ft.g Ft.kp Ft.b .nil pass0 (pa_cons (pe_call D.ok (hr.mono (by omega)) rfl D.g D.kp D.b .nil pass0 (pa_cons (pv 0) (pa_cons pe_int pa_nil))) (pa_cons (pe_op op_add pe_int (pe_call D.ok (hr.mono (by omega)) rfl D.g D.kp D.b .nil pass0 (pa_cons (pv 0) (pa_cons pe_int pa_nil)))) pa_nil))) pa_nil))))) pss_nil)
      (pss_one (ps_ret (pe_ifExp (pt_val (pe_call Ll.ok (hr.mono (by omega)) rfl Ll.g Ll.kp Ll.b .nil pass0 (pa_cons (pv 2) (pa_cons (pv 1) pa_nil)))) (pe_tup (pa_cons (pv 2) (pa_cons (pv 1) pa_nil))) (pe_tup (pa_cons (pv 1) (pa_cons (pv 2) pa_nil))))))))), ?_⟩
    refine ⟨_, rfl, b, rfl, B, fun va qa H1 ha sa B1 t1 => ?_⟩
    refine ⟨fun σ' H' => ∃ vb qb, σ' = [some (.ref b), some va, some vb] ∧ IsR K H' va qa ∧ IsR K H' vb qb ∧ Sz 120 qb ∧ BagAt K H' b ∧ But b H H', ?_, ?_⟩
    · refine ⟨_, rfl, b, _, rfl, B1, by decide, by decide, fun r H2 r0 r1 B2 t2 => ?_⟩
      have a2 := ha.bag B1 t2
      refine ⟨rfl, _, rfl, ite2 (fun _ => ?_) (fun _ => ?_)⟩
      · exact ⟨_, rfl, va, qa, rfl, a2, a2, sa.mono (by decide), B2, t1.trans t2⟩
      · exact ⟨_, rfl, b, rfl, B2, fun vb qb H3 hb sb B3 t3 => ⟨vb, qb, rfl, a2.bag B2 t3, hb, sb.mono (by decide), B3, (t1.trans t2).trans t3⟩⟩
    · rintro σ1 H1' ⟨vb, qb, rfl, a1, b1, sb, B1', t1'⟩
      refine ⟨fun σ' H' => ∃ vb qb, σ' = [some (.ref b), some va, some vb] ∧ IsR K H' va qa ∧ IsR K H' vb qb ∧ Sz 120 qb ∧ BagAt K H' b ∧ But b H H', ?_, ?_⟩
      · refine ⟨_, rfl, b, _, rfl, B1', by decide, by decide, fun r H2 r0 r1 B2 t2 => ?_⟩
        have a2 := a1.bag B1' t2
        refine ⟨rfl, _, rfl, ite2 (fun _ => ?_) (fun _ => ?_)⟩
        · refine ⟨_, rfl, _, rfl, b, _, rfl, B2, by decide, by decide, fun r2 H3 r20 r21 B3 t3 => ⟨_, rfl, b, _, rfl, B3, by decide, by decide, fun r3 H4 r30 r31 B4 t4 => ?_⟩⟩
          refine ⟨_, _, rfl, rfl, _, _, rfl, Nat.lt_of_lt_of_le (show (1 + r3).natAbs < 2 ^ 4 by show _ < 16; omega) (Nat.pow_le_pow_right (by decide) (by decide)), fun v H5 hi s5 => ?_⟩
          have sf : Sz 4 ((r2 : Rat) / ((1 + r3 : Int) : Rat)) := sz_div (n := 4) (by omega) (by show _ < 16; omega) (by show _ < 16; omega)
          refine ⟨va, v, qa, _, rfl, ((a2.bag B2 t3).bag B3 t4).same s5, hi, sa.mono (by decide), sf.mono (by decide), fun r' H6 hr6 s6 => ?_⟩
          exact ⟨r', _, rfl, (((a2.bag B2 t3).bag B3 t4).same s5).same s6, hr6, (sz_add sa sf).mono (by decide), (B4.same s5).same s6, ((((t1'.trans t2).trans t3).trans t4).trans (But.of s5)).trans (But.of s6)⟩
        · exact ⟨vb, qb, rfl, a2, b1.bag B1' t2, sb, B2, t1'.trans t2⟩
      · rintro σ2 H2' ⟨vc, qc, rfl, a2, c2, sc, B2, t2⟩
        refine ⟨_, rfl, _, rfl, vc, va, qc, qa, rfl, c2, a2, sc.mono (by decide), sa.mono (by decide), _, rfl, ite2 (fun c => ?_) (fun c => ?_)⟩
        · have c' : qc < qa := of_decide_eq_true c
          exact ⟨_, rfl, _, rfl, (by show 2 ≤ sizeLine; decide), fun p np => q _ qc qa _ ⟨p, vc, va, rfl, SqT.of upd_same, c2.same (same_upd np), a2.same (same_upd np)⟩ (Rat.le_of_lt c') sc (sa.mono (by decide)) (B2.same (same_upd np)) (t2.trans (But.of (same_upd np)))⟩
        · have c' : ¬ qc < qa := fun z => c (decide_eq_true z)
          exact ⟨_, rfl, _, rfl, (by show 2 ≤ sizeLine; decide), fun p np => q _ qa qc _ ⟨p, va, vc, rfl, SqT.of upd_same, a2.same (same_upd np), c2.same (same_upd np)⟩ (Rat.not_lt.mp c') (sa.mono (by decide)) sc (B2.same (same_upd np)) (t2.trans (But.of (same_upd np)))⟩
theorem isr_half {K : PySem.W.Frag} {H : Hp} {p : Addr} (h : SqT K H p [.int 1, .int 2]) : IsR K H (.ref p) (1 / 2) := ⟨p, rfl, by
  rw [show (1 / 2 : Rat).num = 1 by decide +kernel, show (1 / 2 : Rat).den = 2 by decide +kernel]
  exact h⟩
theorem ok_lwithin {f fD fM fP fF fT : Addr} {fd fdD fdM fdP fdF fdT : FuncData} {k : Nat} (F : Fun K "_law_within" "_law_within" sLawWithin f fd) (D : Cal P w K mg base "_law_pull" (k + 1) ["bag", "many"] (spDraw K) fD fdD) (Lm : Cal P w K mg base "_law_minus" (k + 2) ["a", "b"] (spOpR K (· - ·)) fM fdM)
    (Lp : Cal P w K mg base "_law_plus" (k + 2) ["a", "b"] (spOpR K (· + ·)) fP fdP) (Lt : Cal P w K mg base "_law_times" (k + 2) ["a", "b"] (spOpR K (· * ·)) fT fdT) (Ft : Cal P w K mg base "_law_fit" (k + 1) ["top", "bottom"] (spWorthR K) fF fdF) : FnOk P w K mg base CX0 (k + 3) f fd ["bag", "ends"] (spWithin K) := by
  refine F.ok scLawWithin (fun vs H Q E h => ?_) (fun cdv A outer s H vs Q E hr h => ?_)
  · obtain ⟨b, v, lo, hi, rfl, _⟩ := h
    rfl
  · obtain ⟨b, v, lo, hi, rfl, B, ⟨t, l, h, rfl, hT, hl, hh⟩, le, s1, s2, q⟩ := h
    refine ⟨_, (pss_cons (ps_par (i := 2) (j := 3) rfl scLawWithin.nd rfl rfl (by decide) rfl rfl (pa_cons (pe_call Lm.ok (hr.mono (by omega)) rfl Lm.g Lm.kp Lm.b .nil pass0 (pa_cons (pe_ix ix_tup (pv 1) pe_int (fun _ _ => rfl)) (pa_cons (pe_ix ix_tup (pv 1) pe_int (fun _ _ => rfl)) pa_nil))) (pa_cons (pe_op op_add pe_int (pe_call D.ok (hr.mono (by omega)) rfl D.g D.kp D.b .nil pass0 (pa_cons (pv 0) (pa_cons pe_int pa_nil)))) pa_nil)) rfl)
      (pss_cons (ps_set (i := 4) scLawWithin.nd rfl (.inl rfl) (pe_call Lp.ok (hr.mono (by omega)) rfl Lp.g Lp.kp Lp.b .nil pass0 (pa_cons (pe_ix ix_tup (pv 1) pe_int (fun _ _ => rfl)) (pa_cons (pe_call Lt.ok (hr.mono (by omega)) rfl Lt.g Lt.kp Lt.b .nil pass0 (pa_cons (pv 2) (pa_cons (pe_call Ft.ok (hr.mono (by omega)) rfl Ft.g Ft.kp Ft.b .nil pass0 (pa_cons (pe_call D.ok (hr.mono (by omega)) rfl D.g D.kp D.b .nil pass0 (pa_cons (pv 0) (pa_cons (pe_op op_add (pv 3) pe_int) pa_nil))) (pa_cons (pv 3) pa_nil))) pa_nil))) pa_nil))))
      (pss_one (ps_ret (pe_lst (pa_cons (pe_ix ix_tup (pv 1) pe_int (fun _ _ => rfl)) (pa_cons (pe_ix ix_tup (pv 1) pe_int (fun _ _ => rfl)) (pa_cons (pe_call Lp.ok (hr.mono (by omega)) rfl Lp.g Lp.kp Lp.b .nil pass0 (pa_cons (pe_ix ix_tup (pv 1) pe_int (fun _ _ => rfl)) (pa_cons (pe_call Lt.ok (hr.mono (by omega)) rfl Lt.g Lt.kp Lt.b .nil pass0 (pa_cons (pv 2) (pa_cons (pe_tup (pa_cons pe_int (pa_cons pe_int pa_nil))) pa_nil))) pa_nil))) (pa_cons (pv 4) pa_nil))))))))), ?_⟩
    have z1 : Sz 3000 lo := s1.mono (by decide)
    have z2 : Sz 3000 hi := s2.mono (by decide)
    have sg : Sz 261 (hi - lo) := sz_sub s2 s1
    refine ⟨_, rfl, t, _, 1, _, rfl, rfl, hT, atI_nat (j := 1) rfl, _, rfl, t, _, 0, _, rfl, rfl, hT, atI_nat (j := 0) rfl, h, l, hi, lo, rfl, hh, hl, z2, z1, fun vg H1 hg t1 => ?_⟩
    have hT1 := seqT_same t1 hT
    refine ⟨_, rfl, b, _, rfl, B.same t1, by decide, by decide, fun r H2 r0 r1 B2 t2 => ⟨_, _, rfl, rfl, _, _, rfl, ?_⟩⟩
    have hT2 : SqT K H2 t [l, h] := by obtain ⟨xs, hb⟩ := (B.same t1).get; exact SqT.but hb t2 hT1
    have hl2 := (hl.same t1).bag (B.same t1) t2
    have hh2 := (hh.same t1).bag (B.same t1) t2
    have hg2 := hg.bag (B.same t1) t2
    refine ⟨_, rfl, t, _, 0, _, rfl, rfl, hT2, atI_nat (j := 0) rfl, _, rfl, _, rfl, _, rfl, _, _, rfl, rfl, b, _, rfl, B2, by omega, by omega, fun r2 H3 r20 r21 B3 t3 => ?_⟩
    have hT3 : SqT K H3 t [l, h] := by obtain ⟨xs, hb⟩ := B2.get; exact SqT.but hb t3 hT2
    have hl3 := hl2.bag B2 t3
    have hh3 := hh2.bag B2 t3
    have hg3 := hg2.bag B2 t3
    refine ⟨_, rfl, _, _, rfl, Nat.lt_of_lt_of_le (show (1 + r).natAbs < 2 ^ 4 by show _ < 16; omega) (Nat.pow_le_pow_right (by decide) (by decide)), fun vf H4 hf t4 => ?_⟩
    have sf : Sz 4 ((r2 : Rat) / ((1 + r : Int) : Rat)) := sz_div (n := 4) (by omega) (by show _ < 16; omega) (by show _ < 16; omega)
    have st := sz_mul sg sf
    refine ⟨vg, vf, _, _, rfl, hg3.same t4, hf, sg.mono (by decide), sf.mono (by decide), fun vm H5 hm t5 => ?_⟩
    refine ⟨l, vm, _, _, rfl, (hl3.same t4).same t5, hm, z1, st.mono (by decide), fun vd H6 hd t6 => ?_⟩
    have u36 : Same H3 H6 := (t4.trans t5).trans t6
    have hT6 := seqT_same u36 hT3
    have hl6 := hl3.same u36
    have hh6 := hh3.same u36
    have hg6 := hg3.same u36
    refine ⟨_, rfl, t, _, 0, _, rfl, rfl, hT6, atI_nat (j := 0) rfl, _, rfl, t, _, 1, _, rfl, rfl, hT6, atI_nat (j := 1) rfl, _, rfl, t, _, 0, _, rfl, rfl, hT6, atI_nat (j := 0) rfl, _, rfl, (by show 2 ≤ sizeLine; decide), fun p np => ?_⟩
    have t7 : Same H6 (upd H6 p (.tup [.int 1, .int 2])) := same_upd np
    have sh : Sz 2 (1 / 2 : Rat) := ⟨by decide +kernel, by decide +kernel⟩
    have sm := sz_mul sg sh
    refine ⟨vg, .ref p, _, (1 / 2 : Rat), rfl, hg6.same t7, isr_half (SqT.of upd_same), sg.mono (by decide), sh.mono (by decide), fun v8 H8 h8 t8 => ?_⟩
    refine ⟨l, v8, _, _, rfl, (hl6.same t7).same t8, h8, z1, sm.mono (by decide), fun v9 H9 h9 t9 => ⟨_, rfl, (by show 4 ≤ sizeLine; decide), fun L nL => ?_⟩⟩
    have u69 : Same H6 H9 := (t7.trans t8).trans t9
    have t10 : Same H9 (upd H9 L (.lst [l, h, v9, vd])) := same_upd nL
    have uall := u69.trans t10
    have B9 : BagAt K H9 b := (B3.same u36).same u69
    have tb : But b H H9 := ((((But.of t1).trans t2).trans t3).trans (But.of u36)).trans (But.of u69)
    have hnL : H L = none := by
      cases e : H L with
      | none => rfl
      | some o =>
        have := tb L o (B9.ne nL) e
        rw [nL] at this
        cases this
    have g0 : 0 ≤ hi - lo := (Rat.le_iff_sub_nonneg lo hi).mp le
    refine q L _ [lo, hi, lo + (hi - lo) * (1 / 2), lo + (hi - lo) * ((r2 : Rat) / ((1 + r : Int) : Rat))] _ (B9.ne nL) upd_same hnL ⟨⟨hl6.same uall, hh6.same uall, h9.same t10, hd.same uall, True.intro⟩, rfl, by simp, by simp, ?_⟩ (B9.same t10) (tb.trans (But.of t10))
    have f0 : 0 ≤ (r2 : Rat) / ((1 + r : Int) : Rat) ∧ (r2 : Rat) / ((1 + r : Int) : Rat) ≤ 1 := by
      have hp : (0 : Rat) < ((1 + r : Int) : Rat) := Rat.intCast_pos.mpr (by omega)
      have h1 : (0 : Rat) ≤ (r2 : Rat) := Rat.intCast_nonneg.mpr r20
      have h2 : (r2 : Rat) ≤ ((1 + r : Int) : Rat) := Rat.intCast_le_intCast.mpr (by omega)
      have hi' := Rat.inv_pos.mpr hp
      have hc := Rat.mul_inv_cancel ((1 + r : Int) : Rat) (by grind)
      rw [Rat.div_def]
      have a1 := Rat.mul_nonneg h1 (Rat.le_of_lt hi')
      have a2 := Rat.mul_le_mul_of_nonneg_right h2 (Rat.le_of_lt hi')
      rw [hc] at a2
      exact ⟨a1, a2⟩
    have hb : ∀ z : Rat, 0 ≤ z → z ≤ 1 → lo ≤ lo + (hi - lo) * z ∧ lo + (hi - lo) * z ≤ hi := fun z h1 h2 => by
      have a1 := Rat.mul_nonneg g0 h1
      have a2 := Rat.mul_le_mul_of_nonneg_left h2 g0
      rw [Rat.mul_one] at a2
      grind
    intro x hx
    simp only [List.mem_cons, List.not_mem_nil, or_false] at hx
    rcases hx with rfl | rfl | rfl | rfl
    · exact ⟨Rat.le_refl, le, s1.mono (by decide)⟩
    · exact ⟨le, Rat.le_refl, s2.mono (by decide)⟩
    · have := hb (1 / 2) (by decide +kernel) (by decide +kernel)
      exact ⟨this.1, this.2, (sz_add s1 sm).mono (by decide)⟩
    · have := hb _ f0.1 f0.2
      exact ⟨this.1, this.2, (sz_add s1 st).mono (by decide)⟩
theorem ok_lleast {f fL : Addr} {fd fdL : FuncData} {k : Nat} (F : Fun K "_law_least" "_law_least" sLawLeast f fd) (Ll : Cal P w K mg base "_law_less" (k + 1) ["a", "b"] (spLessR K) fL fdL) : FnOk P w K mg base CX0 (k + 2) f fd ["some"] (spLeast K) := by
  refine F.ok scLawLeast (fun vs H Q E h => ?_) (fun cdv A outer s H vs Q E hr h => ?_)
  · obtain ⟨a, ws, qs, rfl, _⟩ := h
    rfl
  · obtain ⟨a, ws, qs, rfl, hS, hR, hn, hz, q⟩ := h
    refine ⟨_, (pss_cons (ps_par (i := 1) (j := 2) rfl scLawLeast.nd rfl rfl (by decide) rfl rfl (pa_cons (pe_ix ix_list (pv 0) pe_int (fun _ _ => rfl)) (pa_cons (pe_ix ix_list (pv 0) pe_int (fun _ _ => rfl)) pa_nil)) rfl)
      (pss_cons (ps_for PassesOwn.never rfl (pi_list (pv 0)) (pg_name (i := 3) scLawLeast.nd rfl (.inl rfl))
        (pss_cons (ps_set (i := 1) scLawLeast.nd rfl (.inl rfl) (pe_ifExp (pt_val (pe_call Ll.ok (hr.mono (by omega)) rfl Ll.g Ll.kp Ll.b .nil pass0 (pa_cons (pv 3) (pa_cons (pv 1) pa_nil)))) (pv 3) (pv 1)))
        (pss_one (ps_set (i := 2) scLawLeast.nd rfl (.inl rfl) (pe_ifExp (pt_val (pe_call Ll.ok (hr.mono (by omega)) rfl Ll.g Ll.kp Ll.b .nil pass0 (pa_cons (pv 2) (pa_cons (pv 3) pa_nil)))) (pv 3) (pv 2))))))
      (pss_one (ps_ret (pe_tup (pa_cons (pv 1) (pa_cons (pv 2) pa_nil))))))), ?_⟩
    obtain ⟨v0, ws', rfl⟩ : ∃ v ws', ws = v :: ws' := by
      cases ws with
      | nil => cases qs with
        | nil => exact absurd rfl hn
        | cons _ _ => exact hR.elim
      | cons v ws' => exact ⟨v, ws', rfl⟩
    obtain ⟨q0, e0, r0⟩ := hR.get (i := 0) (v := v0) rfl
    have m0 : q0 ∈ qs := List.mem_of_getElem? e0
    have e1 : qs.headD 0 = q0 := by
      cases qs with
      | nil => cases e0
      | cons x l => cases e0; rfl
    refine ⟨_, rfl, a, _, 0, _, rfl, rfl, hS, atI_nat (j := 0) rfl, _, rfl, a, _, 0, _, rfl, rfl, hS, atI_nat (j := 0) rfl, _, _, rfl, ?_⟩
    refine ⟨_, rfl, a, rfl, ⟨_, hS⟩, ?_⟩
    refine for_list (xs := v0 :: ws') (fun i σ' H' => ∃ l h x, σ' = [some (.ref a), some l, some h, x] ∧ H' = H ∧ IsR K H l (fmn (qs.take i) q0) ∧ IsR K H h (fmx (qs.take i) q0)) ⟨v0, v0, none, rfl, rfl, r0, r0⟩ (fun i σ' H' _ ⟨_, _, _, _, s, _⟩ => s ▸ hS) ?_ ?_
    · rintro i y σ' H' hy ⟨l, h, x, rfl, rfl, hl, hh⟩
      obtain ⟨qi, ei, ri⟩ := hR.get hy
      have mi : qi ∈ qs := List.mem_of_getElem? ei
      have t1 : ∀ q ∈ qs.take i, Sz 3000 q := fun q hq => hz q (List.mem_of_mem_take hq)
      have em : fmn (qs.take (i + 1)) q0 = if qi < fmn (qs.take i) q0 then qi else fmn (qs.take i) q0 := by rw [List.take_add_one, ei]; exact fmn_snoc _ _ _
      have ex : fmx (qs.take (i + 1)) q0 = if fmx (qs.take i) q0 < qi then qi else fmx (qs.take i) q0 := by rw [List.take_add_one, ei]; exact fmx_snoc _ _ _
      have second : ∀ l' : V, IsR K H' l' (fmn (qs.take (i + 1)) q0) → tCall (spLessR K) [] E0 (tCons (tVar 2) (tCons (tVar 3) tNil)) [some (.ref a), some l', some h, some y] H' fun v H2 => ∃ c, v = .bl c ∧ (if c = true then (∃ z, some (some y) = some (some z) ∧ (∃ l h x, [some (.ref a), some l', some z, some y] = [some (.ref a), some l, some h, x] ∧ H2 = H' ∧ IsR K H' l (fmn (qs.take (i + 1)) q0) ∧ IsR K H' h (fmx (qs.take (i + 1)) q0))) else (∃ z, some (some h) = some (some z) ∧ (∃ l h x, [some (.ref a), some l', some z, some y] = [some (.ref a), some l, some h, x] ∧ H2 = H' ∧ IsR K H' l (fmn (qs.take (i + 1)) q0) ∧ IsR K H' h (fmx (qs.take (i + 1)) q0)))) := by
        intro l' hl'
        refine ⟨_, rfl, _, rfl, h, y, _, qi, rfl, hh, ri, fmx_all (hz _ m0) t1, hz _ mi, _, rfl, ite2 (fun c => ?_) (fun c => ?_)⟩
        · refine ⟨y, rfl, l', y, _, rfl, rfl, hl', ?_⟩
          rw [ex, if_pos (of_decide_eq_true c)]
          exact ri
        · refine ⟨h, rfl, l', h, _, rfl, rfl, hl', ?_⟩
          rw [ex, if_neg (fun z => c (decide_eq_true z))]
          exact hh
      refine ⟨_, rfl, _, rfl, y, l, qi, _, rfl, ri, hl, hz _ mi, fmn_all (hz _ m0) t1, _, rfl, ite2 (fun c => ?_) (fun c => ?_)⟩
      · refine ⟨y, rfl, second y ?_⟩
        rw [em, if_pos (of_decide_eq_true c)]
        exact ri
      · refine ⟨l, rfl, second l ?_⟩
        rw [em, if_neg (fun z => c (decide_eq_true z))]
        exact hl
    · rintro σ' H' ⟨l, h, x, rfl, rfl, hl, hh⟩
      rw [hR.len, List.take_length] at hl hh
      have em : fmn qs q0 = mnL qs := by unfold fmn mnL; rw [e1]
      have ex : fmx qs q0 = mxL qs := by unfold fmx mxL; rw [e1]
      rw [em] at hl
      rw [ex] at hh
      exact ⟨_, rfl, _, rfl, (by show 2 ≤ sizeLine; decide), fun p np => q _ _ ⟨p, l, h, rfl, SqT.of upd_same, hl.same (same_upd np), hh.same (same_upd np)⟩ (same_upd np)⟩
end
end My

set_option Elab.async false
set_option linter.all false
set_option maxRecDepth 100000
namespace My
open PySem PySem.Spec PyProof.Rows L2 SX
/-! what a span holds; the operators by their words -/
abbrev sLawHolds : Stmt := topS 44
theorem scLawHolds : FnScope ["span", "ends", "some", "outer", "one"] ["span", "ends", "some"] (defScope sLawHolds) := ⟨rfl, rfl, rfl, by decide +kernel, rfl, by decide +kernel, by decide +kernel⟩
abbrev sLawWays : Stmt := topS 45
theorem scLawWays : FnScope ["word", "a", "b"] ["word", "a", "b"] (defScope sLawWays) := ⟨rfl, rfl, rfl, by decide +kernel, rfl, by decide +kernel, by decide +kernel⟩
abbrev sLawCalled : Stmt := topS 46
theorem scLawCalled : FnScope ["word", "a", "b"] ["word", "a", "b"] (defScope sLawCalled) := ⟨rfl, rfl, rfl, by decide +kernel, rfl, by decide +kernel, by decide +kernel⟩
theorem lk_worth {K : PySem.W.Frag} {H : Hp} {v w : V} {q : Rat} {n : Nat} (h1 : IsR K H v q) (h2 : IsR K H w q) : Lk K H (n + 1) v w := by
  obtain ⟨a, rfl, h1⟩ := h1
  obtain ⟨b, rfl, h2⟩ := h2
  refine .inr ⟨a, b, _, _, rfl, rfl, .inr ⟨h1, h2⟩, rfl, (by show 2 < 1000; decide), fun i x y hx hy => ?_⟩
  rw [hx] at hy
  cases hy
  match i, hx with
  | 0, hx => cases hx; exact Lk.flat rfl True.intro
  | 1, hx => cases hx; exact Lk.flat rfl True.intro
  | j + 2, hx => simp at hx
def inB (lo hi z : Rat) : Bool := !decide (z < lo) && !decide (hi < z)
theorem inB_yes {lo hi z : Rat} (h1 : lo ≤ z) (h2 : z ≤ hi) : inB lo hi z = true := by
  unfold inB
  rw [decide_eq_false (Rat.not_lt.mpr h1), decide_eq_false (Rat.not_lt.mpr h2)]
  rfl
def spHolds (K : PySem.W.Frag) (C : Addr) : Sp := fun vs H Q _ => ∃ (x l : Addr) (v : V) (ws : List V) (qs : List Rat) (lo hi : Rat), vs = [.ref x, v, .ref l] ∧ SpanR K C H x lo hi ∧ EndsAt K H v lo hi ∧ SqL K H l ws ∧ RsL K H ws qs ∧ Sz 1500 lo ∧ Sz 1500 hi ∧ (∀ q ∈ qs, lo ≤ q ∧ q ≤ hi ∧ Sz 3000 q) ∧ qs.length ≤ 100 ∧
  ∀ H', Same H H' → Q (.bl true) H'
theorem isr_third {K : PySem.W.Frag} {H : Hp} {p : Addr} (h : SqT K H p [.int 1, .int 3]) : IsR K H (.ref p) (1 / 3) := ⟨p, rfl, by
  rw [show (1 / 3 : Rat).num = 1 by decide +kernel, show (1 / 3 : Rat).den = 3 by decide +kernel]
  exact h⟩
theorem isr_tiny {K : PySem.W.Frag} {H : Hp} {p : Addr} (h : SqT K H p [.int 1, .int (10 ^ Int.toNat 9)]) : IsR K H (.ref p) (1 / 1000000000) := ⟨p, rfl, by
  rw [show (1 / 1000000000 : Rat).num = 1 by decide +kernel, show (1 / 1000000000 : Rat).den = 1000000000 by decide +kernel]
  rw [show (10 : Int) ^ Int.toNat 9 = ((1000000000 : Nat) : Int) by decide +kernel] at h
  exact h⟩
section
variable {P : Program} {w : World} {K : PySem.W.Frag} {mg : Str → Option Value} {base : Heap}
/-- [one in span for one in some] -/
theorem in_W {C x l D : Addr} {H1 : Hp} {ws : List V} {qs : List Rat} {lo hi : Rat} {a1 a2 a3 a4 : Option V} {Qd : Hp → Prop} (hx : SpanR K C H1 x lo hi) (hS : SqL K H1 l ws) (hR : RsL K H1 ws qs) (s1 : Sz 3000 lo) (s2 : Sz 3000 hi) (hz : ∀ q ∈ qs, Sz 3000 q) (hl : qs.length ≤ 100) (nD : H1 D = none)
    (q : ∀ G, Same H1 G → G D = some (.lst ((qs.map (inB lo hi)).map V.bl)) → Qd G) :
    ∃ W : Nat → Nat → Hp → Prop, (∃ m, W 0 m (upd H1 D (.lst []))) ∧ ∀ i m H, W i m H →
      ((Itl K l).stop i H ∧ Qd H) ∨ ((Itl K l).go i H ∧ ∃ Nx : Hp → Prop, (∀ H', Nx H' → ∃ m', m' < m ∧ W (i + 1) m' H') ∧ ∀ z H', (Itl K l).yld i H z H' → gName 4 z (wipe [some (.ref x), a1, a2, a3, a4] [4]) H' fun σ2 H2 => wipe σ2 [4] = wipe [some (.ref x), a1, a2, a3, a4] [4] ∧ tYes σ2 H2 fun b H3 =>
        if b = true then tOp (rInOwn C (spHasR K C) false) (tVar 4) (tVar 0) σ2 H3 fun y H4 => ∃ acc, H4 D = some (.lst acc) ∧ acc.length < sizeLine ∧ Nx (upd H4 D (.lst (acc ++ [y]))) else Nx H3) := by
  refine lc_list (xs := ws) (fun i G => Same H1 G ∧ G D = some (.lst (((qs.take i).map (inB lo hi)).map V.bl))) ⟨same_upd nD, upd_same⟩ (fun i G _ h => h.1.seq hS) ?_ ?_
  · rintro i v G hv ⟨s, hD⟩
    obtain ⟨qi, ei, ri⟩ := hR.get hv
    have mi : qi ∈ qs := List.mem_of_getElem? ei
    refine ⟨rfl, ?_⟩
    unfold tYes
    refine iteT ?_
    obtain ⟨dx, l0, h0, ex, w1, w2⟩ := id hx
    refine ⟨_, rfl, _, rfl, x, dx, _, rfl, s _ _ ex, x, v, lo, hi, qi, rfl, hx.same s, ri.same s, s1, s2, hz _ mi, _, rfl, _, hD, ?_, same_updF nD s, ?_⟩
    · rw [List.length_map, List.length_map, List.length_take]
      exact small1000 (by omega)
    · rw [upd_same, List.take_add_one, ei, List.map_append, List.map_append]
      rfl
  · rintro G ⟨s, hD⟩
    rw [hR.len, List.take_length] at hD
    exact q G s hD
theorem ok_holds {C f fC fL fM fP : Addr} {fd fdC fdL fdM fdP : FuncData} {k : Nat} (F : Fun K "_law_holds" "_law_holds" sLawHolds f fd) (T : SpT K mg C) (Co : CalM P w K mg base C "__contains__" (k + 2) ["self", "value"] (spHasR K C) fC fdC) (Li : Cal P w K mg base "_law_like" (k + 3) ["found", "due"] (spLike K 2) fL fdL)
    (Lm : Cal P w K mg base "_law_minus" (k + 2) ["a", "b"] (spOpR K (· - ·)) fM fdM) (Lp : Cal P w K mg base "_law_plus" (k + 2) ["a", "b"] (spOpR K (· + ·)) fP fdP) (b_isinstance : mg "isinstance" = none) (b_all : mg "all" = none) (b_any : mg "any" = none) : FnOk P w K mg base CX0 (k + 4) f fd ["span", "ends", "some"] (spHolds K C) := by
  refine F.ok scLawHolds (fun vs H Q E h => ?_) (fun cdv A outer s H vs Q E hr h => ?_)
  · obtain ⟨x, l, v, ws, qs, lo, hi, rfl, _⟩ := h
    rfl
  · obtain ⟨x, l, v, ws, qs, lo, hi, rfl, hx, hv, hS, hR, s1, s2, hz, hl, q⟩ := h
    have g_Span := T.g
    refine ⟨_, (pss_cons (ps_if (PW.pt (pw_or (pt_not (pt_val (pe_callB call_isi rfl b_isinstance (by decide +kernel) (pa_cons (pv 0) (pa_cons (pe_glob (v := .ref C) rfl g_Span rfl) pa_nil))))) (pw_or (pt_not (pt_val (pe_call Li.ok (hr.mono (by omega)) rfl Li.g Li.kp Li.b .nil pass0 (pa_cons (pe_fld (pv 0) rfl) (pa_cons (pe_ix ix_tup (pv 1) pe_int (fun _ _ => rfl)) pa_nil))))) (pw_or1 (pt_not (pt_val (pe_call Li.ok (hr.mono (by omega)) rfl Li.g Li.kp Li.b .nil pass0 (pa_cons (pe_fld (pv 0) rfl) (pa_cons (pe_ix ix_tup (pv 1) pe_int (fun _ _ => rfl)) pa_nil))))))))) (pss_one (ps_ret pe_bl)) pss_nil)
      (pss_cons (ps_set (i := 3) scLawHolds.nd rfl (.inl rfl) (pe_lst (pa_cons (pe_call Lm.ok (hr.mono (by omega)) rfl Lm.g Lm.kp Lm.b .nil pass0 (pa_cons (pe_ix ix_tup (pv 1) pe_int (fun _ _ => rfl)) (pa_cons (pe_tup (pa_cons pe_int (pa_cons pe_int pa_nil))) pa_nil))) (pa_cons (pe_call Lp.ok (hr.mono (by omega)) rfl Lp.g Lp.kp Lp.b .nil pass0 (pa_cons (pe_ix ix_tup (pv 1) pe_int (fun _ _ => rfl)) (pa_cons (pe_tup (pa_cons pe_int (pa_cons (pe_op op_powG pe_int pe_int) pa_nil))) pa_nil))) pa_nil))))
      (pss_one (ps_ret (pe_and (pe_callB (cr_all rfl) rfl b_all (by decide +kernel) (pa_cons (pe_lc (own := [("one", 4)]) (g := gName 4) (tt := tYes) rfl scLawHolds.nd (pi_list (pv 2)) (blkOk_by (own := [("one", 4)]) (N := ["span", "ends", "some", "outer", "one"]) (sc := defScope sLawHolds) (by decide +kernel)) (fun _ _ _ _ _ => (pg_name (i := 4) scLawHolds.nd rfl (.inl rfl) (.inr rfl))) (fun _ _ _ _ _ => pts_nil) (fun _ _ _ _ _ => (pe_cmpR (op_inOwn Co.ok Co.m.at_ Co.m.fn Co.b (hr.mono (by omega))) (pv 4) (pv 0) rfl))) pa_nil)) (pe_one (pe_not (pe_callB (cr_any rfl) rfl b_any (by decide +kernel) (pa_cons (pe_lc (own := [("one", 4)]) (g := gName 4) (tt := tYes) rfl scLawHolds.nd (pi_list (pv 3)) (blkOk_by (own := [("one", 4)]) (N := ["span", "ends", "some", "outer", "one"]) (sc := defScope sLawHolds) (by decide +kernel)) (fun _ _ _ _ _ => (pg_name (i := 4) scLawHolds.nd rfl (.inl rfl) (.inr rfl))) (fun _ _ _ _ _ => pts_nil) (fun _ _ _ _ _ => (pe_cmpR (op_inOwn Co.ok Co.m.at_ Co.m.fn Co.b (hr.mono (by omega))) (pv 4) (pv 0) rfl))) pa_nil))))))))), ?_⟩
    obtain ⟨dx, l0, h0, ex, w1, w2⟩ := id hx
    obtain ⟨t, l1, h1, rfl, hT, w3, w4⟩ := id hv
    refine ⟨_, rfl, _, _, _, _, _, rfl, .own C, T.ty ex, kit_self, _, rfl, iteF ?_⟩
    refine ⟨_, rfl, x, C, dx, _, _, rfl, ex, T.cl, T.nL, rfl, _, rfl, t, _, 0, _, rfl, rfl, hT, atI_nat (j := 0) rfl, l0, l1, rfl, lk_worth w1 w3, fun H1 t1 => ⟨_, rfl, iteF ?_⟩⟩
    refine ⟨_, rfl, x, C, dx, _, _, rfl, t1 _ _ ex, T.cl, T.nH, rfl, _, rfl, t, _, 1, _, rfl, rfl, seqT_same t1 hT, atI_nat (j := 1) rfl, h0, h1, rfl, lk_worth (IsR.same t1 w2) (w4.same t1), fun H2 t2 => ⟨_, rfl, iteF ?_⟩⟩
    have u2 := t1.trans t2
    refine ⟨_, rfl, t, _, 0, _, rfl, rfl, seqT_same u2 hT, atI_nat (j := 0) rfl, (by show 2 ≤ sizeLine; decide), fun p np => ?_⟩
    have s3' : Sz 2 (1 / 3 : Rat) := ⟨by decide +kernel, by decide +kernel⟩
    have s9' : Sz 30 (1 / 1000000000 : Rat) := ⟨by decide +kernel, by decide +kernel⟩
    have t3 : Same H2 (upd H2 p (.tup [.int 1, .int 3])) := same_upd np
    refine ⟨l1, .ref p, lo, (1 / 3 : Rat), rfl, (w3.same u2).same t3, isr_third (SqT.of upd_same), s1.mono (by decide), s3'.mono (by decide), fun vo H4 ho t4 => ?_⟩
    have u4 := (u2.trans t3).trans t4
    refine ⟨_, rfl, t, _, 1, _, rfl, rfl, seqT_same u4 hT, atI_nat (j := 1) rfl, _, _, rfl, rfl, ⟨by decide, by decide +kernel⟩, (by show 2 ≤ sizeLine; decide), fun p2 np2 => ?_⟩
    have t5 : Same H4 (upd H4 p2 (.tup [.int 1, .int (10 ^ Int.toNat 9)])) := same_upd np2
    refine ⟨h1, .ref p2, hi, (1 / 1000000000 : Rat), rfl, (w4.same u4).same t5, isr_tiny (SqT.of upd_same), s2.mono (by decide), s9'.mono (by decide), fun vp H6 hp t6 => ⟨(by show 2 ≤ sizeLine; decide), fun L nL => ?_⟩⟩
    have u6 := (u4.trans t5).trans t6
    have t7 : Same H6 (upd H6 L (.lst [vo, vp])) := same_upd nL
    have u7 := u6.trans t7
    refine ⟨_, rfl, l, rfl, ⟨_, u7.seq hS⟩, fun D nD => in_W (hx.same u7) (u7.seq hS) (hR.same u7) (s1.mono (by decide)) (s2.mono (by decide)) (fun q hq => (hz q hq).2.2) hl nD fun G sG hD => ?_⟩
    refine ⟨D, _, rfl, SqL.of hD, _, rfl, ?_⟩
    rw [show (qs.map (inB lo hi)).all id = true by
      rw [List.all_map, List.all_eq_true]
      intro z hz'
      exact inB_yes (hz z hz').1 (hz z hz').2.1]
    have u8 := u7.trans sG
    have hLG : G L = some (.lst [vo, vp]) := sG _ _ upd_same
    have hRo : RsL K G [vo, vp] [lo - 1 / 3, hi + 1 / 1000000000] := ⟨((ho.same ((t5.trans t6).trans t7))).same sG, (hp.same t7).same sG, True.intro⟩
    refine iteT ⟨_, rfl, L, rfl, ⟨_, SqL.of hLG⟩, fun D2 nD2 => in_W (hx.same u8) (SqL.of hLG) hRo (s1.mono (by decide)) (s2.mono (by decide)) ?_ (by show 2 ≤ 100; decide) nD2 fun G2 sG2 hD2 => ?_⟩
    · intro z hz'
      simp only [List.mem_cons, List.not_mem_nil, or_false] at hz'
      rcases hz' with rfl | rfl
      · exact (sz_sub s1 s3').mono (by decide)
      · exact (sz_add s2 s9').mono (by decide)
    · refine ⟨D2, _, rfl, SqL.of hD2, _, rfl, ?_⟩
      have e1 : inB lo hi (lo - 1 / 3) = false := by
        unfold inB
        rw [decide_eq_true (show lo - 1 / 3 < lo by grind)]
        rfl
      have e2 : inB lo hi (hi + 1 / 1000000000) = false := by
        unfold inB
        rw [decide_eq_true (show hi < hi + 1 / 1000000000 by grind)]
        exact Bool.and_false _
      rw [show ([lo - 1 / 3, hi + 1 / 1000000000].map (inB lo hi)).any id = false by
        show (inB lo hi (lo - 1 / 3) || (inB lo hi (hi + 1 / 1000000000) || false)) = false
        rw [e1, e2]
        rfl]
      exact q G2 (u8.trans sG2)
end
end My

set_option Elab.async false
set_option linter.all false
set_option maxRecDepth 100000
namespace My
open PySem PySem.Spec PyProof.Rows L2 SX
/-! the six operators -/
inductive Op | add | sub | mul | div | mn | mx
def Op.w : Op → Str
  | .add => "+"
  | .sub => "-"
  | .mul => "*"
  | .div => "/"
  | .mn => "min"
  | .mx => "max"
def Op.fn : Op → Rat → Rat → Rat
  | .add => (· + ·)
  | .sub => (· - ·)
  | .mul => (· * ·)
  | .div => (· / ·)
  | .mn => minR
  | .mx => maxR
def Op.lo : Op → Rat → Rat → Rat → Rat → Rat
  | .add => fun lo hi lo' hi' => lo + lo'
  | .sub => fun lo hi lo' hi' => lo - hi'
  | .mul => mulLo
  | .div => divLo
  | .mn => fun lo hi lo' hi' => minR lo lo'
  | .mx => fun lo hi lo' hi' => maxR lo lo'
def Op.hi : Op → Rat → Rat → Rat → Rat → Rat
  | .add => fun lo hi lo' hi' => hi + hi'
  | .sub => fun lo hi lo' hi' => hi - lo'
  | .mul => mulHi
  | .div => divHi
  | .mn => fun lo hi lo' hi' => minR hi hi'
  | .mx => fun lo hi lo' hi' => maxR hi hi'
theorem corn_mem {op : Rat → Rat → Rat} {a b c d : Rat} : op a c ∈ corners op a b c d ∧ op a d ∈ corners op a b c d ∧ op b c ∈ corners op a b c d ∧ op b d ∈ corners op a b c d := by simp [corners]
theorem corn_eq {op : Rat → Rat → Rat} {lo hi lo' hi' m M : Rat} (h1 : m ∈ corners op lo hi lo' hi') (h2 : M ∈ corners op lo hi lo' hi') (h : ∀ x y, lo ≤ x → x ≤ hi → lo' ≤ y → y ≤ hi' → m ≤ op x y ∧ op x y ≤ M) (le : lo ≤ hi) (le' : lo' ≤ hi') :
    mnL (corners op lo hi lo' hi') = m ∧ mxL (corners op lo hi lo' hi') = M ∧ ∀ x y, lo ≤ x → x ≤ hi → lo' ≤ y → y ≤ hi' → m ≤ op x y ∧ op x y ≤ M := by
  have key : ∀ q ∈ corners op lo hi lo' hi', m ≤ q ∧ q ≤ M := fun q hq => by
    obtain ⟨x, y, hx, hy, rfl⟩ := corners_at op _ _ _ _ q hq
    refine h x y ?_ ?_ ?_ ?_
    · rcases hx with rfl | rfl
      · exact Rat.le_refl
      · exact le
    · rcases hx with rfl | rfl
      · exact le
      · exact Rat.le_refl
    · rcases hy with rfl | rfl
      · exact Rat.le_refl
      · exact le'
    · rcases hy with rfl | rfl
      · exact le'
      · exact Rat.le_refl
  exact ⟨mnL_eq h1 fun q hq => (key q hq).1, mxL_eq h2 fun q hq => (key q hq).2, h⟩
theorem corn_in {op : Rat → Rat → Rat} {lo hi lo' hi' : Rat} {z : Rat} (h : (∃ q ∈ corners op lo hi lo' hi', q ≤ z) ∧ ∃ q ∈ corners op lo hi lo' hi', z ≤ q) : mnL (corners op lo hi lo' hi') ≤ z ∧ z ≤ mxL (corners op lo hi lo' hi') := by
  obtain ⟨⟨q, m, l⟩, ⟨q', m', l'⟩⟩ := h
  have a := (mnL_spec (l := corners op lo hi lo' hi') (fun z => by cases z)).2 q m
  have b := (mxL_spec (l := corners op lo hi lo' hi') (fun z => by cases z)).2 q' m'
  exact ⟨Rat.le_trans a l, Rat.le_trans l' b⟩
theorem truth_ne {lo hi : Rat} (h : truthV lo hi ≠ .non) (le : lo ≤ hi) : 0 < lo ∨ hi < 0 ∨ (lo = 0 ∧ hi = 0) := by
  unfold truthV at h
  by_cases c : 0 < lo ∨ hi < 0
  · rcases c with c | c
    · exact .inl c
    · exact .inr (.inl c)
  · rw [if_neg c] at h
    by_cases d : lo = hi
    · subst d
      have c1 : ¬ 0 < lo := fun z => c (.inl z)
      have c2 : ¬ lo < 0 := fun z => c (.inr z)
      refine .inr (.inr ⟨?_, ?_⟩) <;> grind
    · rw [if_neg d] at h
      exact absurd rfl h
theorem lo_mul {a b c d : Rat} : Op.mul.lo a b c d = mnL (corners Op.mul.fn a b c d) := by
  show mulLo a b c d = mnL (corners (· * ·) a b c d)
  unfold mulLo
  rfl
theorem hi_mul {a b c d : Rat} : Op.mul.hi a b c d = mxL (corners Op.mul.fn a b c d) := by
  show mulHi a b c d = mxL (corners (· * ·) a b c d)
  unfold mulHi
  rfl
theorem lo_div {a b c d : Rat} : Op.div.lo a b c d = mnL (corners Op.div.fn a b c d) := by
  show divLo a b c d = mnL (corners (· / ·) a b c d)
  unfold divLo
  rfl
theorem hi_div {a b c d : Rat} : Op.div.hi a b c d = mxL (corners Op.div.fn a b c d) := by
  show divHi a b c d = mxL (corners (· / ·) a b c d)
  unfold divHi
  rfl
theorem mul_math {a b c d x y : Rat} (h1 : a ≤ x) (h2 : x ≤ b) (h3 : c ≤ y) (h4 : y ≤ d) : Op.mul.lo a b c d ≤ Op.mul.fn x y ∧ Op.mul.fn x y ≤ Op.mul.hi a b c d := by
  have h := mul_in h1 h2 h3 h4
  rw [lo_mul, hi_mul]
  refine corn_in ?_
  show (∃ q ∈ prods a b c d, q ≤ x * y) ∧ ∃ q ∈ prods a b c d, x * y ≤ q
  exact h
theorem div_math {a b c d x y : Rat} (h1 : a ≤ x) (h2 : x ≤ b) (h3 : c ≤ y) (h4 : y ≤ d) (hz : 0 < c ∨ d < 0 ∨ (c = 0 ∧ d = 0)) : Op.div.lo a b c d ≤ Op.div.fn x y ∧ Op.div.fn x y ≤ Op.div.hi a b c d := by
  have h := quot_in h1 h2 h3 h4 hz
  rw [lo_div, hi_div]
  refine corn_in ?_
  show (∃ q ∈ quots a b c d, q ≤ x / y) ∧ ∃ q ∈ quots a b c d, x / y ≤ q
  exact h
theorem op_math (o : Op) {lo hi lo' hi' : Rat} (le : lo ≤ hi) (le' : lo' ≤ hi') (hd : o = .div → truthV lo' hi' ≠ .non) :
    mnL (corners o.fn lo hi lo' hi') = o.lo lo hi lo' hi' ∧ mxL (corners o.fn lo hi lo' hi') = o.hi lo hi lo' hi' ∧ ∀ x y, lo ≤ x → x ≤ hi → lo' ≤ y → y ≤ hi' → o.lo lo hi lo' hi' ≤ o.fn x y ∧ o.fn x y ≤ o.hi lo hi lo' hi' := by
  cases o with
  | add => exact corn_eq (op := (· + ·)) (m := lo + lo') (M := hi + hi') corn_mem.1 corn_mem.2.2.2 (fun x y h1 h2 h3 h4 => ⟨by grind, by grind⟩) le le'
  | sub => exact corn_eq (op := (· - ·)) (m := lo - hi') (M := hi - lo') corn_mem.2.1 corn_mem.2.2.1 (fun x y h1 h2 h3 h4 => ⟨by grind, by grind⟩) le le'
  | mn => exact corn_eq (op := minR) (m := minR lo lo') (M := minR hi hi') corn_mem.1 corn_mem.2.2.2 (fun x y h1 h2 h3 h4 => ⟨by unfold minR; grind, by unfold minR; grind⟩) le le'
  | mx => exact corn_eq (op := maxR) (m := maxR lo lo') (M := maxR hi hi') corn_mem.1 corn_mem.2.2.2 (fun x y h1 h2 h3 h4 => ⟨by unfold maxR; grind, by unfold maxR; grind⟩) le le'
  | mul =>
    refine ⟨lo_mul.symm, hi_mul.symm, fun x y h1 h2 h3 h4 => ?_⟩
    exact mul_math h1 h2 h3 h4
  | div =>
    refine ⟨lo_div.symm, hi_div.symm, fun x y h1 h2 h3 h4 => ?_⟩
    exact div_math h1 h2 h3 h4 (truth_ne (hd rfl) le')
theorem minR_or (a b : Rat) : minR a b = a ∨ minR a b = b := by unfold minR; split <;> simp
theorem maxR_or (a b : Rat) : maxR a b = a ∨ maxR a b = b := by unfold maxR; split <;> simp
theorem op_sz (o : Op) {a b : Rat} {n m : Nat} (h1 : Sz (n + 1) a) (h2 : Sz m b) : Sz (n + 1 + m + 1) (o.fn a b) := by
  cases o with
  | add => exact sz_add h1 h2
  | sub => exact sz_sub h1 h2
  | mul => exact (sz_mul h1 h2).mono (by omega)
  | div => exact (sz_quot h1 h2).mono (by omega)
  | mn =>
    show Sz _ (minR a b)
    rcases minR_or a b with e | e
    · rw [e]; exact h1.mono (by omega)
    · rw [e]; exact h2.mono (by omega)
  | mx =>
    show Sz _ (maxR a b)
    rcases maxR_or a b with e | e
    · rw [e]; exact h1.mono (by omega)
    · rw [e]; exact h2.mono (by omega)
def spWays (K : PySem.W.Frag) : Sp := fun vs H Q _ => ∃ (o : Op) (v w : V) (a b : Rat), vs = [.str o.w, v, w] ∧ IsR K H v a ∧ IsR K H w b ∧ Sz 3000 a ∧ Sz 3000 b ∧ ∀ r H', IsR K H' r (o.fn a b) → Same H H' → Q r H'
def spCalled (K : PySem.W.Frag) (C : Addr) : Sp := fun vs H Q _ => ∃ (o : Op) (a b : Addr) (lo hi lo' hi' : Rat), vs = [.str o.w, .ref a, .ref b] ∧ SpanR K C H a lo hi ∧ SpanR K C H b lo' hi' ∧ Sz 700 lo ∧ Sz 700 hi ∧ Sz 700 lo' ∧ Sz 700 hi' ∧ lo ≤ hi ∧ lo' ≤ hi' ∧
  ((o = .div ∧ truthV lo' hi' = .non) → Q .non H) ∧ (¬ (o = .div ∧ truthV lo' hi' = .non) → ∀ x H', H x = none → Same H H' → SpanR K C H' x (o.lo lo hi lo' hi') (o.hi lo hi lo' hi') → Q (.ref x) H')
section
variable {P : Program} {w : World} {K : PySem.W.Frag} {mg : Str → Option Value} {base : Heap}
theorem least2 (a b : Rat) : mnL [a, b] = minR a b ∧ mxL [a, b] = maxR a b := by
  have h : ¬ a < a := Rat.lt_irrefl
  refine ⟨?_, ?_⟩
  · unfold mnL minR
    simp only [List.headD_cons, List.foldl_cons, List.foldl_nil, if_neg h]
  · unfold mxL maxR
    simp only [List.headD_cons, List.foldl_cons, List.foldl_nil, if_neg h]
theorem two_sz {a b : Rat} {n : Nat} (h1 : Sz n a) (h2 : Sz n b) : ∀ q ∈ [a, b], Sz n q := fun q hq => by
  simp only [List.mem_cons, List.not_mem_nil, or_false] at hq
  rcases hq with rfl | rfl
  · exact h1
  · exact h2
theorem ok_ways {f fP fM fT fD fL : Addr} {fd fdP fdM fdT fdD fdL : FuncData} {k : Nat} (F : Fun K "_law_ways" "_law_ways" sLawWays f fd) (Lp : Cal P w K mg base "_law_plus" (k + 2) ["a", "b"] (spOpR K (· + ·)) fP fdP) (Lm : Cal P w K mg base "_law_minus" (k + 2) ["a", "b"] (spOpR K (· - ·)) fM fdM)
    (Lt : Cal P w K mg base "_law_times" (k + 2) ["a", "b"] (spOpR K (· * ·)) fT fdT) (Ld : Cal P w K mg base "_law_part" (k + 2) ["a", "b"] (spOpR K (· / ·)) fD fdD) (Lle : Cal P w K mg base "_law_least" (k + 2) ["some"] (spLeast K) fL fdL) (b_int : mg "int" = none) : FnOk P w K mg base CX0 (k + 3) f fd ["word", "a", "b"] (spWays K) := by
  refine F.ok scLawWays (fun vs H Q E h => ?_) (fun cdv A outer s H vs Q E hr h => ?_)
  · obtain ⟨o, v, w', a, b, rfl, _⟩ := h
    rfl
  · obtain ⟨o, v, w', a, b, rfl, ha, hb, s1, s2, q⟩ := h
    refine ⟨_, (pss_cons (ps_if (pt_cmpR op_eq (pv 0) pe_str (nomark _)) (pss_one (ps_ret (pe_call Lp.ok (hr.mono (by omega)) rfl Lp.g Lp.kp Lp.b .nil pass0 (pa_cons (pv 1) (pa_cons (pv 2) pa_nil))))) pss_nil)
      (pss_cons (ps_if (pt_cmpR op_eq (pv 0) pe_str (nomark _)) (pss_one (ps_ret (pe_call Lm.ok (hr.mono (by omega)) rfl Lm.g Lm.kp Lm.b .nil pass0 (pa_cons (pv 1) (pa_cons (pv 2) pa_nil))))) pss_nil)
      (pss_cons (ps_if (pt_cmpR op_eq (pv 0) pe_str (nomark _)) (pss_one (ps_ret (pe_call Lt.ok (hr.mono (by omega)) rfl Lt.g Lt.kp Lt.b .nil pass0 (pa_cons (pv 1) (pa_cons (pv 2) pa_nil))))) pss_nil)
      (pss_cons (ps_if (pt_cmpR op_eq (pv 0) pe_str (nomark _)) (pss_one (ps_ret (pe_call Ld.ok (hr.mono (by omega)) rfl Ld.g Ld.kp Ld.b .nil pass0 (pa_cons (pv 1) (pa_cons (pv 2) pa_nil))))) pss_nil)
      (pss_one (ps_ret (pe_ix ix_tup (pe_call Lle.ok (hr.mono (by omega)) rfl Lle.g Lle.kp Lle.b .nil pass0 (pa_cons (pe_lst (pa_cons (pv 1) (pa_cons (pv 2) pa_nil))) pa_nil)) (pe_callTy call_int1 rfl b_int (by decide +kernel) (pa_cons (pe_cmpR op_eq (pv 0) pe_str (nomark _)) pa_nil)) (fun _ _ => rfl)))))))), ?_⟩
    refine ⟨_, rfl, rfl, _, rfl, ?_⟩
    cases o with
    | add => exact iteT ⟨_, rfl, _, rfl, v, w', a, b, rfl, ha, hb, s1, s2, q⟩
    | sub => exact iteF ⟨_, rfl, rfl, _, rfl, iteT ⟨_, rfl, _, rfl, v, w', a, b, rfl, ha, hb, s1, s2, q⟩⟩
    | mul => exact iteF ⟨_, rfl, rfl, _, rfl, iteF ⟨_, rfl, rfl, _, rfl, iteT ⟨_, rfl, _, rfl, v, w', a, b, rfl, ha, hb, s1, s2, q⟩⟩⟩
    | div => exact iteF ⟨_, rfl, rfl, _, rfl, iteF ⟨_, rfl, rfl, _, rfl, iteF ⟨_, rfl, rfl, _, rfl, iteT ⟨_, rfl, _, rfl, v, w', a, b, rfl, ha, hb, s1, s2, q⟩⟩⟩⟩
    | mn =>
      refine iteF ⟨_, rfl, rfl, _, rfl, iteF ⟨_, rfl, rfl, _, rfl, iteF ⟨_, rfl, rfl, _, rfl, iteF ⟨_, rfl, _, rfl, (by show 2 ≤ sizeLine; decide), fun l nl => ?_⟩⟩⟩⟩
      have t1 : Same H (upd H l (.lst [v, w'])) := same_upd nl
      refine ⟨l, _, [a, b], rfl, SqL.of upd_same, ⟨ha.same t1, hb.same t1, True.intro⟩, (fun z => by cases z), two_sz s1 s2, fun u H2 ⟨t, x, y, e, hT, hx, hy⟩ t2 => ?_⟩
      rw [(least2 a b).1] at hx
      refine ⟨_, rfl, rfl, .inr ⟨_, rfl, t, _, 0, _, e, rfl, hT, atI_nat (j := 0) rfl, ?_⟩⟩
      exact q _ _ hx (t1.trans t2)
    | mx =>
      refine iteF ⟨_, rfl, rfl, _, rfl, iteF ⟨_, rfl, rfl, _, rfl, iteF ⟨_, rfl, rfl, _, rfl, iteF ⟨_, rfl, _, rfl, (by show 2 ≤ sizeLine; decide), fun l nl => ?_⟩⟩⟩⟩
      have t1 : Same H (upd H l (.lst [v, w'])) := same_upd nl
      refine ⟨l, _, [a, b], rfl, SqL.of upd_same, ⟨ha.same t1, hb.same t1, True.intro⟩, (fun z => by cases z), two_sz s1 s2, fun u H2 ⟨t, x, y, e, hT, hx, hy⟩ t2 => ?_⟩
      rw [(least2 a b).2] at hy
      refine ⟨_, rfl, rfl, .inr ⟨_, rfl, t, _, 1, _, e, rfl, hT, atI_nat (j := 1) rfl, ?_⟩⟩
      exact q _ _ hy (t1.trans t2)
theorem ok_called {C f fA fS fM fO fL fG : Addr} {fd fdA fdS fdM fdO fdL fdG : FuncData} {k : Nat} (F : Fun K "_law_called" "_law_called" sLawCalled f fd) (hSF : PySem.W.selfFirst K C = true) (Ad : CalM P w K mg base C "__add__" (k + 4) ["self", "other"] (spSpR K C (fun lo hi lo' hi' => lo + lo') (fun lo hi lo' hi' => hi + hi')) fA fdA)
    (Su : CalM P w K mg base C "__sub__" (k + 4) ["self", "other"] (spSpR K C (fun lo hi lo' hi' => lo - hi') (fun lo hi lo' hi' => hi - lo')) fS fdS) (Mu : CalM P w K mg base C "__mul__" (k + 5) ["self", "other"] (spSpR K C mulLo mulHi) fM fdM) (Ov : CalM P w K mg base C "over" (k + 5) ["self", "other"] (spOver K C) fO fdO)
    (Lst : CalM P w K mg base C "least" (k + 4) ["self", "other"] (spSpR K C (fun lo hi lo' hi' => minR lo lo') (fun lo hi lo' hi' => minR hi hi')) fL fdL) (Grt : CalM P w K mg base C "greatest" (k + 4) ["self", "other"] (spSpR K C (fun lo hi lo' hi' => maxR lo lo') (fun lo hi lo' hi' => maxR hi hi')) fG fdG) : FnOk P w K mg base CX0 (k + 6) f fd ["word", "a", "b"] (spCalled K C) := by
  refine F.ok scLawCalled (fun vs H Q E h => ?_) (fun cdv A outer s H vs Q E hr h => ?_)
  · obtain ⟨o, a, b, lo, hi, lo', hi', rfl, _⟩ := h
    rfl
  · obtain ⟨o, a, b, lo, hi, lo', hi', rfl, ha, hb, s1, s2, s3, s4, l1, l2, q0, q⟩ := h
    refine ⟨_, (pss_cons (ps_if (pt_cmpR op_eq (pv 0) pe_str (nomark _)) (pss_one (ps_ret (pe_op (op_binOwn Ad.ok hSF Ad.m.at_ Ad.m.fn Ad.b (hr.mono (by omega))) (pv 1) (pv 2)))) pss_nil)
      (pss_cons (ps_if (pt_cmpR op_eq (pv 0) pe_str (nomark _)) (pss_one (ps_ret (pe_op (op_binOwn Su.ok hSF Su.m.at_ Su.m.fn Su.b (hr.mono (by omega))) (pv 1) (pv 2)))) pss_nil)
      (pss_cons (ps_if (pt_cmpR op_eq (pv 0) pe_str (nomark _)) (pss_one (ps_ret (pe_op (op_binOwn Mu.ok hSF Mu.m.at_ Mu.m.fn Mu.b (hr.mono (by omega))) (pv 1) (pv 2)))) pss_nil)
      (pss_cons (ps_if (pt_cmpR op_eq (pv 0) pe_str (nomark _)) (pss_one (ps_ret (pe_meth (pv 1) Ov.c Ov.m Ov.ok (hr.mono (by omega)) Ov.b .nil pass0 (pa_cons (pv 2) pa_nil)))) pss_nil)
      (pss_one (ps_ret (pe_ifExp (pt_cmpR op_eq (pv 0) pe_str (nomark _)) (pe_meth (pv 1) Lst.c Lst.m Lst.ok (hr.mono (by omega)) Lst.b .nil pass0 (pa_cons (pv 2) pa_nil)) (pe_meth (pv 1) Grt.c Grt.m Grt.ok (hr.mono (by omega)) Grt.b .nil pass0 (pa_cons (pv 2) pa_nil))))))))), ?_⟩
    obtain ⟨dx, la, ha', ea, _⟩ := id ha
    obtain ⟨dy, lb, hb', eb, _⟩ := id hb
    refine ⟨_, rfl, rfl, _, rfl, ?_⟩
    cases o with
    | add => exact iteT ⟨_, rfl, _, rfl, a, b, dx, dy, _, _, rfl, rfl, ea, eb, a, b, lo, hi, lo', hi', rfl, ha, hb, s1, s2, s3, s4, l1, l2, q (fun z => nomatch z.1)⟩
    | sub => exact iteF ⟨_, rfl, rfl, _, rfl, iteT ⟨_, rfl, _, rfl, a, b, dx, dy, _, _, rfl, rfl, ea, eb, a, b, lo, hi, lo', hi', rfl, ha, hb, s1, s2, s3, s4, l1, l2, q (fun z => nomatch z.1)⟩⟩
    | mul => exact iteF ⟨_, rfl, rfl, _, rfl, iteF ⟨_, rfl, rfl, _, rfl, iteT ⟨_, rfl, _, rfl, a, b, dx, dy, _, _, rfl, rfl, ea, eb, a, b, lo, hi, lo', hi', rfl, ha, hb, s1, s2, s3, s4, l1, l2, q (fun z => nomatch z.1)⟩⟩⟩
    | div => exact iteF ⟨_, rfl, rfl, _, rfl, iteF ⟨_, rfl, rfl, _, rfl, iteF ⟨_, rfl, rfl, _, rfl, iteT ⟨_, rfl, a, dx, _, rfl, ea, rfl, _, rfl, a, b, lo, hi, lo', hi', rfl, ha, hb, s1, s2, s3, s4, (fun z => q0 ⟨rfl, z⟩), fun z => q (fun y => z y.2)⟩⟩⟩⟩
    | mn => exact iteF ⟨_, rfl, rfl, _, rfl, iteF ⟨_, rfl, rfl, _, rfl, iteF ⟨_, rfl, rfl, _, rfl, iteF ⟨_, rfl, rfl, _, rfl, iteT ⟨_, rfl, a, dx, _, rfl, ea, rfl, _, rfl, a, b, lo, hi, lo', hi', rfl, ha, hb, s1, s2, s3, s4, l1, l2, q (fun z => nomatch z.1)⟩⟩⟩⟩⟩
    | mx => exact iteF ⟨_, rfl, rfl, _, rfl, iteF ⟨_, rfl, rfl, _, rfl, iteF ⟨_, rfl, rfl, _, rfl, iteF ⟨_, rfl, rfl, _, rfl, iteF ⟨_, rfl, a, dx, _, rfl, ea, rfl, _, rfl, a, b, lo, hi, lo', hi', rfl, ha, hb, s1, s2, s3, s4, l1, l2, q (fun z => nomatch z.1)⟩⟩⟩⟩⟩
end
end My

set_option Elab.async false
set_option linter.all false
set_option maxRecDepth 100000
namespace My
open PySem PySem.Spec PyProof.Rows L2 SX
/-! all operators -/
abbrev sLawOperators : Stmt := topS 47
theorem scLawOperators : FnScope ["first", "other", "a", "b", "some", "rest", "word", "found", "corners", "inner", "x", "y"] ["first", "other", "a", "b", "some", "rest"] (defScope sLawOperators) := ⟨rfl, rfl, rfl, by decide +kernel, rfl, by decide +kernel, by decide +kernel⟩
theorem sz_le {n : Nat} {a : Rat} (m : Nat) (h : Sz n a) (l : n ≤ m) : Sz m a := h.mono l
def spOper (K : PySem.W.Frag) (C : Addr) : Sp := fun vs H Q _ => ∃ (x y l l' : Addr) (a b : V) (ws us : List V) (qs rs : List Rat) (lo hi lo' hi' : Rat), vs = [.ref x, .ref y, a, b, .ref l, .ref l'] ∧ SpanR K C H x lo hi ∧ SpanR K C H y lo' hi' ∧ EndsAt K H a lo hi ∧ EndsAt K H b lo' hi' ∧ lo ≤ hi ∧ lo' ≤ hi' ∧
  Sz 130 lo ∧ Sz 130 hi ∧ Sz 130 lo' ∧ Sz 130 hi' ∧ SqL K H l ws ∧ Held K H ws qs lo hi ∧ SqL K H l' us ∧ Held K H us rs lo' hi' ∧ ∀ H', Same H H' → Q (.bl true) H'
theorem flat_len (l rs : List Rat) (f : Rat → Rat → Rat) : (l.flatMap fun x => rs.map (f x)).length = l.length * rs.length := by
  induction l with
  | nil => simp
  | cons x l ih => rw [List.flatMap_cons, List.length_append, List.length_map, ih, List.length_cons, Nat.succ_mul]; omega
theorem flat_succ {l : List Rat} {i : Nat} {q : Rat} {g : Rat → List Rat} (e : l[i]? = some q) : (l.take (i + 1)).flatMap g = (l.take i).flatMap g ++ g q := by
  rw [List.take_add_one, e, List.flatMap_append]
  simp
theorem PT.imp {X : Cx} {e : Expr} {t t' : TT} (h : PT X e t) (k : ∀ σ H Q, t' σ H Q → t σ H Q) : PT X e t' := ⟨fun pins s σ H Q I q => h.run pins s σ H Q I (k _ _ _ q)⟩
/-- whether it is a quotient that is open -/
def tDiv (K : PySem.W.Frag) : TT := fun σ H k => ∃ (o : Op) (tb : Addr) (va vb : V) (lo hi : Rat), σ[3]? = some (some (.ref tb)) ∧ σ[6]? = some (some (.str o.w)) ∧ SqT K H tb [va, vb] ∧ IsR K H va lo ∧ IsR K H vb hi ∧ Sz 130 lo ∧ Sz 130 hi ∧ lo ≤ hi ∧
  ((o = .div ∧ truthV lo hi = .non) → ∀ H', Same H H' → k true H') ∧ (¬ (o = .div ∧ truthV lo hi = .non) → ∀ H', Same H H' → k false H')
theorem dp_pair {K : PySem.W.Frag} {H : Hp} {v w : V} {a b : Rat} (h1 : IsR K H v a) (h2 : IsR K H w b) : DpAll K H [v, w] [.tuple [.int a.num, .int a.den], .tuple [.int b.num, .int b.den]] := by
  obtain ⟨p, rfl, h1⟩ := h1
  obtain ⟨q, rfl, h2⟩ := h2
  exact .cons (.tup h1 dp_two) (.cons (.tup h2 dp_two) .nil)
theorem eqv_pair (a b c d : Rat) : PyData.eqv (.tuple [.tuple [.int a.num, .int a.den], .tuple [.int b.num, .int b.den]]) (.tuple [.tuple [.int c.num, .int c.den], .tuple [.int d.num, .int d.den]]) = (decide (a = c) && decide (b = d)) := by
  show (PyData.eqv (.tuple [.int a.num, .int a.den]) (.tuple [.int c.num, .int c.den]) && (PyData.eqv (.tuple [.int b.num, .int b.den]) (.tuple [.int d.num, .int d.den]) && true)) = _
  rw [eqv_two, eqv_two, eq_dec, eq_dec, Bool.and_true]
theorem isr_zero {K : PySem.W.Frag} {H : Hp} {p : Addr} (h : SqT K H p [.int 0, .int 1]) : IsR K H (.ref p) 0 := ⟨p, rfl, h⟩
theorem truth_open {lo hi : Rat} (le : lo ≤ hi) : truthV lo hi = .non ↔ ¬ (lo = 0 ∧ hi = 0) ∧ ¬ 0 < lo ∧ ¬ hi < 0 := by
  unfold truthV
  by_cases c1 : 0 < lo
  · simp [c1]
  · by_cases c2 : hi < 0
    · simp [c2]
    · rw [if_neg (fun z => z.elim c1 c2)]
      by_cases c3 : lo = hi
      · subst c3
        have : lo = 0 := by grind
        simp [this]
      · rw [if_neg c3]
        refine ⟨fun _ => ⟨fun z => c3 (by grind), c1, c2⟩, fun _ => rfl⟩
/-- [_law_ways(word, x, y) for y in ..] -/
theorem ways_W {K : PySem.W.Frag} {J : It} {o : Op} {ys : List V} {rs : List Rat} {Gp : Hp → Prop} {H1 : Hp} {D : Addr} {x : V} {xq : Rat} {a0 a1 a2 a3 a4 a5 a7 a8 a9 a11 : Option V} {Qd : Hp → Prop} (w : Walk J ys.length Gp (YAt ys)) (hG : ∀ G, Same H1 G → Gp G) (hR : RsL K H1 ys rs) (hx : IsR K H1 x xq) (sx : Sz 3000 xq) (hz : ∀ q ∈ rs, Sz 3000 q) (hl : rs.length ≤ 8) (nD : H1 D = none)
    (q : ∀ G vs, Same H1 G → G D = some (.lst vs) → RsL K G vs (rs.map (o.fn xq)) → Qd G) :
    ∃ W : Nat → Nat → Hp → Prop, (∃ m, W 0 m (upd H1 D (.lst []))) ∧ ∀ i m H, W i m H →
      (J.stop i H ∧ Qd H) ∨ (J.go i H ∧ ∃ Nx : Hp → Prop, (∀ H', Nx H' → ∃ m', m' < m ∧ W (i + 1) m' H') ∧ ∀ z H', J.yld i H z H' → gName 11 z (wipe [a0, a1, a2, a3, a4, a5, some (.str o.w), a7, a8, a9, some x, a11] [11]) H' fun σ2 H2 => wipe σ2 [11] = wipe [a0, a1, a2, a3, a4, a5, some (.str o.w), a7, a8, a9, some x, a11] [11] ∧ tYes σ2 H2 fun b H3 =>
        if b = true then tCall (spWays K) [] E0 (tCons (tVar 6) (tCons (tVar 10) (tCons (tVar 11) tNil))) σ2 H3 fun y H4 => ∃ acc, H4 D = some (.lst acc) ∧ acc.length < sizeLine ∧ Nx (upd H4 D (.lst (acc ++ [y]))) else Nx H3) := by
  refine lc_it w (fun i G => ∃ vs, Same H1 G ∧ G D = some (.lst vs) ∧ RsL K G vs ((rs.take i).map (o.fn xq))) ⟨[], same_upd nD, upd_same, True.intro⟩ (fun i G _ ⟨_, s, _⟩ => hG G s) ?_ ?_
  · rintro i y G G1 ilt ⟨vs, s, hD, hR'⟩ ⟨rfl, ey⟩
    obtain ⟨qi, ei, ri⟩ := hR.get ey
    have mi : qi ∈ rs := List.mem_of_getElem? ei
    refine ⟨rfl, ?_⟩
    unfold tYes
    refine iteT ?_
    refine ⟨_, rfl, _, rfl, _, rfl, o, x, y, xq, qi, rfl, hx.same s, ri.same s, sx, hz _ mi, fun r G2 hr s2 => ⟨vs, s2 _ _ hD, ?_, vs ++ [r], same_updF nD (s.trans s2), upd_same, ?_⟩⟩
    · rw [hR'.len, List.length_map, List.length_take]
      exact small1000 (by omega)
    · rw [List.take_add_one, ei, List.map_append]
      have hD2 := s2 _ _ hD
      exact RsL.snoc (hr.but hD2 But.upd) (RsL.but hD2 But.upd (hR'.same s2))
  · rintro G ⟨vs, s, hD, hR'⟩
    rw [hR.len, List.take_length] at hR'
    exact q G vs s hD hR'
section
variable {P : Program} {w : World} {K : PySem.W.Frag} {mg : Str → Option Value} {base : Heap}
theorem ok_oper {C f fC fL fW fE fH : Addr} {fd fdC fdL fdW fdE fdH : FuncData} {k : Nat} (F : Fun K "_law_operators" "_law_operators" sLawOperators f fd) (Lc : Cal P w K mg base "_law_called" (k + 6) ["word", "a", "b"] (spCalled K C) fC fdC) (Ll : Cal P w K mg base "_law_less" (k + 1) ["a", "b"] (spLessR K) fL fdL)
    (Lwy : Cal P w K mg base "_law_ways" (k + 3) ["word", "a", "b"] (spWays K) fW fdW) (Lle : Cal P w K mg base "_law_least" (k + 2) ["some"] (spLeast K) fE fdE) (Lh : Cal P w K mg base "_law_holds" (k + 4) ["span", "ends", "some"] (spHolds K C) fH fdH) : FnOk P w K mg base CX0 (k + 7) f fd ["first", "other", "a", "b", "some", "rest"] (spOper K C) := by
  refine F.ok scLawOperators (fun vs H Q E h => ?_) (fun cdv A outer s H vs Q E hr h => ?_)
  · obtain ⟨x, y, l, l', a, b, ws, us, qs, rs, lo, hi, lo', hi', rfl, _⟩ := h
    rfl
  · obtain ⟨x, y, l, l', a, b, ws, us, qs, rs, lo, hi, lo', hi', rfl, hx, hy, ea, eb, l1, l2, s1, s2, s3, s4, hS, ⟨hR, len1, ml, mh, hz⟩, hS', ⟨hR', len2, ml', mh', hz'⟩, q⟩ := h
    refine ⟨_, (pss_cons (ps_for PassesOwn.never rfl (pi_list (pe_lst (pa_cons pe_str (pa_cons pe_str (pa_cons pe_str (pa_cons pe_str (pa_cons pe_str (pa_cons pe_str pa_nil)))))))) (pg_name (i := 6) scLawOperators.nd rfl (.inr rfl))
        (pss_cons (ps_set (i := 7) scLawOperators.nd rfl (.inl rfl) (pe_call Lc.ok (hr.mono (by omega)) rfl Lc.g Lc.kp Lc.b .nil pass0 (pa_cons (pv 6) (pa_cons (pv 0) (pa_cons (pv 1) pa_nil)))))
        (pss_one (ps_if (PT.imp (t' := tDiv K) (PW.pt (pw_and (pt_cmpR op_eq (pv 6) pe_str (nomark _)) (pw_and (pt_cmpR (op_neD hr.units) (pv 3) (pe_tup (pa_cons (pe_tup (pa_cons pe_int (pa_cons pe_int pa_nil))) (pa_cons (pe_tup (pa_cons pe_int (pa_cons pe_int pa_nil))) pa_nil))) (nomark _)) (pw_and (pt_not (pt_val (pe_call Ll.ok (hr.mono (by omega)) rfl Ll.g Ll.kp Ll.b .nil pass0 (pa_cons (pe_tup (pa_cons pe_int (pa_cons pe_int pa_nil))) (pa_cons (pe_ix ix_tup (pv 3) pe_int (fun _ _ => rfl)) pa_nil))))) (pw_and1 (pt_not (pt_val (pe_call Ll.ok (hr.mono (by omega)) rfl Ll.g Ll.kp Ll.b .nil pass0 (pa_cons (pe_ix ix_tup (pv 3) pe_int (fun _ _ => rfl)) (pa_cons (pe_tup (pa_cons pe_int (pa_cons pe_int pa_nil))) pa_nil)))))))))) (fun σ H k q => ?_)) (pss_one (ps_if (pt_cmpR op_notN (pv 7) pe_non (nomark _)) (pss_one (ps_ret pe_bl)) pss_nil)) (pss_cons (ps_par (i := 8) (j := 9) rfl scLawOperators.nd rfl rfl (by decide) rfl rfl (pa_cons (pe_lst pa_nil) (pa_cons (pe_lst pa_nil) pa_nil)) rfl)
          (pss_cons (ps_for PassesOwn.never rfl (pi_tup (pv 2)) (pg_name (i := 10) scLawOperators.nd rfl (.inr rfl))
            (pss_one (ps_set (i := 8) scLawOperators.nd rfl (.inl rfl) (pe_op op_cat (pv 8) (pe_lc (own := [("y", 11)]) (g := gName 11) (tt := tYes) rfl scLawOperators.nd (pi_tup (pv 3)) (blkOk_by (own := [("y", 11)]) (N := ["first", "other", "a", "b", "some", "rest", "word", "found", "corners", "inner", "x", "y"]) (sc := defScope sLawOperators) (by decide +kernel)) (fun _ _ _ _ _ => (pg_name (i := 11) scLawOperators.nd rfl (.inl rfl) (.inr rfl))) (fun _ _ _ _ _ => pts_nil) (fun _ _ _ _ _ => (pe_call Lwy.ok (hr.mono (by omega)) rfl Lwy.g Lwy.kp Lwy.b .nil pass0 (pa_cons (pv 6) (pa_cons (pv 10) (pa_cons (pv 11) pa_nil))))))))))
          (pss_cons (ps_for PassesOwn.never rfl (pi_list (pv 4)) (pg_name (i := 10) scLawOperators.nd rfl (.inr rfl))
            (pss_one (ps_set (i := 9) scLawOperators.nd rfl (.inl rfl) (pe_op op_cat (pv 9) (pe_lc (own := [("y", 11)]) (g := gName 11) (tt := tYes) rfl scLawOperators.nd (pi_list (pv 5)) (blkOk_by (own := [("y", 11)]) (N := ["first", "other", "a", "b", "some", "rest", "word", "found", "corners", "inner", "x", "y"]) (sc := defScope sLawOperators) (by decide +kernel)) (fun _ _ _ _ _ => (pg_name (i := 11) scLawOperators.nd rfl (.inl rfl) (.inr rfl))) (fun _ _ _ _ _ => pts_nil) (fun _ _ _ _ _ => (pe_call Lwy.ok (hr.mono (by omega)) rfl Lwy.g Lwy.kp Lwy.b .nil pass0 (pa_cons (pv 6) (pa_cons (pv 10) (pa_cons (pv 11) pa_nil))))))))))
          (pss_one (ps_if (pt_not (pt_val (pe_call Lh.ok (hr.mono (by omega)) rfl Lh.g Lh.kp Lh.b .nil pass0 (pa_cons (pv 7) (pa_cons (pe_call Lle.ok (hr.mono (by omega)) rfl Lle.g Lle.kp Lle.b .nil pass0 (pa_cons (pv 8) pa_nil)) (pa_cons (pv 9) pa_nil)))))) (pss_one (ps_ret pe_bl)) pss_nil)))))))))
      (pss_one (ps_ret pe_bl))), ?_⟩
    · obtain ⟨o, tb, va, vb, lo, hi, e3, e6, hT, wa, wb, s1, s2, le, q1, q2⟩ := q
      refine ⟨_, e6, rfl, _, rfl, ?_⟩
      cases o with
      | div =>
        refine iteT ⟨_, e3, ?_⟩
        refine ⟨(by show 2 ≤ sizeLine; decide), fun p1 n1 => ⟨(by show 2 ≤ sizeLine; decide), fun p2 n2 => ⟨(by show 2 ≤ sizeLine; decide), fun p3 n3 => ?_⟩⟩⟩
        have t1 := same_upd (o := .tup [.int 0, .int 1]) n1
        have t2 := same_upd (o := .tup [.int 0, .int 1]) n2
        have t3 := same_upd (o := .tup [.ref p1, .ref p2]) n3
        have u3 := (t1.trans t2).trans t3
        have z1 := (isr_zero (K := K) (SqT.of (upd_same (H := H) (a := p1) (o := .tup [.int 0, .int 1])))).same (t2.trans t3)
        have z2 := (isr_zero (K := K) (SqT.of (upd_same (H := upd H p1 (.tup [.int 0, .int 1])) (a := p2) (o := .tup [.int 0, .int 1])))).same t3
        have s0 : Sz 3000 (0 : Rat) := sz_zero (n := 2999)
        refine ⟨_, _, .tup (seqT_same u3 hT) (dp_pair (wa.same u3) (wb.same u3)), .tup (SqT.of upd_same) (dp_pair z1 z2), rfl, rfl, _, rfl, ?_⟩
        rw [eqv_pair]
        have open_ := truth_open le
        by_cases c0 : lo = 0 ∧ hi = 0
        · rw [c0.1, c0.2, decide_eq_true rfl]
          exact iteF (q2 (fun z => (open_.mp z.2).1 c0) _ u3)
        · rw [show (!(decide (lo = 0) && decide (hi = 0))) = true by
            rw [Bool.not_eq_true', Bool.and_eq_false_iff, decide_eq_false_iff_not, decide_eq_false_iff_not]
            exact Classical.byContradiction fun z => c0 ⟨Classical.byContradiction fun y => z (.inl y), Classical.byContradiction fun y => z (.inr y)⟩]
          refine iteT ⟨(by show 2 ≤ sizeLine; decide), fun p4 n4 => ⟨_, e3, tb, _, 0, _, rfl, rfl, seqT_same (u3.trans (same_upd n4)) hT, atI_nat (j := 0) rfl, .ref p4, va, 0, lo, rfl, isr_zero (SqT.of upd_same), wa.same (u3.trans (same_upd n4)), s0, s1.mono (by decide), _, rfl, ?_⟩⟩
          have u4 := u3.trans (same_upd (o := .tup [.int 0, .int 1]) n4)
          by_cases c1 : 0 < lo
          · rw [decide_eq_true c1]
            exact iteF (q2 (fun z => (open_.mp z.2).2.1 c1) _ u4)
          · rw [decide_eq_false c1]
            refine iteT ⟨_, e3, tb, _, 1, _, rfl, rfl, seqT_same u4 hT, atI_nat (j := 1) rfl, (by show 2 ≤ sizeLine; decide), fun p5 n5 => ⟨vb, .ref p5, hi, 0, rfl, wb.same (u4.trans (same_upd n5)), isr_zero (SqT.of upd_same), s2.mono (by decide), s0, _, rfl, ?_⟩⟩
            have u5 := u4.trans (same_upd (o := .tup [.int 0, .int 1]) n5)
            by_cases c2 : hi < 0
            · rw [decide_eq_true c2]
              exact q2 (fun z => (open_.mp z.2).2.2 c2) _ u5
            · rw [decide_eq_false c2]
              exact q1 ⟨rfl, open_.mpr ⟨c0, c1, c2⟩⟩ _ u5
      | add => exact iteF (q2 (fun z => nomatch z.1) _ (Same.refl _))
      | sub => exact iteF (q2 (fun z => nomatch z.1) _ (Same.refl _))
      | mul => exact iteF (q2 (fun z => nomatch z.1) _ (Same.refl _))
      | mn => exact iteF (q2 (fun z => nomatch z.1) _ (Same.refl _))
      | mx => exact iteF (q2 (fun z => nomatch z.1) _ (Same.refl _))
    · obtain ⟨ta, va, vb, rfl, hTa, wa, wb⟩ := id ea
      obtain ⟨tb, va', vb', rfl, hTb, wa', wb'⟩ := id eb
      refine ⟨(by show 6 ≤ sizeLine; decide), fun L nL => ⟨L, rfl, ⟨_, SqL.of upd_same⟩, ?_⟩⟩
      refine for_list (xs := [Op.add, .sub, .mul, .div, .mn, .mx].map fun o => V.str o.w) (fun i σ' H' => ∃ a6 a7 a8 a9 a10 a11, σ' = [some (.ref x), some (.ref y), some (.ref ta), some (.ref tb), some (.ref l), some (.ref l'), a6, a7, a8, a9, a10, a11] ∧ Same H H' ∧ H' L = some (.lst ([Op.add, .sub, .mul, .div, .mn, .mx].map fun o => V.str o.w)))
        ⟨_, _, _, _, _, _, rfl, same_upd nL, upd_same⟩ (fun i σ' H' _ ⟨_, _, _, _, _, _, _, _, e⟩ => SqL.of e) ?_ ?_
      · rintro i wd σ' H0 hwd ⟨a6, a7, a8, a9, a10, a11, rfl, s0, hL0⟩
        obtain ⟨o, rfl⟩ : ∃ o : Op, wd = .str o.w := by
          obtain ⟨o, _, e⟩ := List.mem_map.mp (List.mem_of_getElem? hwd)
          exact ⟨o, e.symm⟩
        refine ⟨_, rfl, _, rfl, _, rfl, o, x, y, lo, hi, lo', hi', rfl, hx.same s0, hy.same s0, s1.mono (by decide), s2.mono (by decide), s3.mono (by decide), s4.mono (by decide), l1, l2, fun hdn => ?_, fun hdn z H1 nz t1 hz1 => ?_⟩
        · refine ⟨o, tb, va', vb', lo', hi', rfl, rfl, seqT_same s0 hTb, wa'.same s0, wb'.same s0, s3, s4, l2, fun _ H2 t2 => ?_, fun z => absurd hdn z⟩
          refine iteT ⟨_, rfl, rfl, _, rfl, iteF ?_⟩
          exact ⟨_, _, _, _, _, _, rfl, s0.trans t2, t2 _ _ hL0⟩
        · refine ⟨o, tb, va', vb', lo', hi', rfl, rfl, seqT_same (s0.trans t1) hTb, wa'.same (s0.trans t1), wb'.same (s0.trans t1), s3, s4, l2, fun z => absurd z hdn, fun _ H2 t2 => ?_⟩
          refine iteF ?_
          have u2 : Same H H2 := (s0.trans t1).trans t2
          have hL2 := t2 _ _ (t1 _ _ hL0)
          have hz2 := hz1.same t2
          refine ⟨Nat.zero_le _, fun c nc => ⟨Nat.zero_le _, fun d nd => ⟨_, _, rfl, ?_⟩⟩⟩
          have ncd : c ≠ d := fun e => by rw [← e, upd_same] at nd; cases nd
          have v2 : Same H2 (upd (upd H2 c (.lst [])) d (.lst [])) := (same_upd nc).trans (same_upd nd)
          obtain ⟨e1, e2, e3⟩ := op_math o l1 l2 (fun e => fun z => hdn ⟨e, z⟩)
          refine ⟨_, rfl, ta, rfl, ⟨_, seqT_same (u2.trans v2) hTa⟩, ?_⟩
          refine for_tup (xs := [va, vb]) (fun i σ' H' => ∃ c vs a10 a11, σ' = [some (.ref x), some (.ref y), some (.ref ta), some (.ref tb), some (.ref l), some (.ref l'), some (.str o.w), some (.ref z), some (.ref c), some (.ref d), a10, a11] ∧ Same H2 H' ∧ H' d = some (.lst []) ∧ H' c = some (.lst vs) ∧ RsL K H' vs (([lo, hi].take i).flatMap fun x => [lo', hi'].map (o.fn x)))
            ⟨c, [], _, _, rfl, v2, upd_same, by rw [upd_ne ncd]; exact upd_same, True.intro⟩ (fun i σ' H' _ ⟨_, _, _, _, _, s', _⟩ => seqT_same (u2.trans s') hTa) ?_ ?_
          · rintro j xv σ' H3 hxv ⟨c', vs, a10', a11', rfl, s', hd', hc', hR3⟩
            obtain ⟨qx, eq, hqx, sqx⟩ : ∃ qx, [lo, hi][j]? = some qx ∧ IsR K H xv qx ∧ Sz 3000 qx := by
              rcases two_at hxv with ⟨rfl, rfl⟩ | ⟨rfl, rfl⟩
              · exact ⟨lo, rfl, wa, s1.mono (by decide)⟩
              · exact ⟨hi, rfl, wb, s2.mono (by decide)⟩
            have u3 := u2.trans s'
            refine ⟨_, rfl, _, rfl, tb, rfl, ⟨_, seqT_same u3 hTb⟩, fun D nD => ?_⟩
            refine ways_W (rs := [lo', hi']) walk_tup (fun G sG => seqT_same (u3.trans sG) hTb) ⟨wa'.same u3, wb'.same u3, True.intro⟩ (hqx.same u3) sqx (two_sz (s3.mono (by decide)) (s4.mono (by decide))) (by show 2 ≤ 8; decide) nD fun G vs2 sG hD2 hR2 => ?_
            have lv := hR3.len
            rw [flat_len] at lv
            have lj : ([lo, hi].take j).length ≤ 2 := by rw [List.length_take]; exact Nat.min_le_right _ _
            have lv2 : vs2.length = 2 := hR2.len
            refine ⟨c', D, vs, vs2, rfl, rfl, sG _ _ hc', hD2, line_of (by have : ([lo', hi'] : List Rat).length = 2 := rfl; rw [this] at lv; omega), fun p np => ?_⟩
            refine ⟨p, _, _, _, rfl, (s'.trans sG).trans (same_upd np), same_upd np _ _ (sG _ _ hd'), upd_same, ?_⟩
            rw [flat_succ eq]
            exact RsL.app (RsL.same (same_upd np) hR2) (RsL.same (same_upd np) (RsL.same sG hR3))
          · rintro σ' H3 ⟨c', vs, a10', a11', rfl, s', hd', hc', hR3⟩
            have u3 := u2.trans s'
            refine ⟨_, rfl, l, rfl, ⟨_, u3.seq hS⟩, ?_⟩
            refine for_list (xs := ws) (fun i σ' H' => ∃ d us2 a10 a11, σ' = [some (.ref x), some (.ref y), some (.ref ta), some (.ref tb), some (.ref l), some (.ref l'), some (.str o.w), some (.ref z), some (.ref c'), some (.ref d), a10, a11] ∧ Same H3 H' ∧ H' d = some (.lst us2) ∧ RsL K H' us2 ((qs.take i).flatMap fun x => rs.map (o.fn x)))
              ⟨d, [], _, _, rfl, Same.refl _, hd', True.intro⟩ (fun i σ' H' _ ⟨_, _, _, _, _, s'', _⟩ => (u3.trans s'').seq hS) ?_ ?_
            · rintro j xv σ' H4 hxv ⟨d', us2, a10', a11', rfl, s'', hd4, hR4⟩
              obtain ⟨qx, eq, hqx⟩ := hR.get hxv
              have mq : qx ∈ qs := List.mem_of_getElem? eq
              have u4 := u3.trans s''
              refine ⟨_, rfl, _, rfl, l', rfl, ⟨_, u4.seq hS'⟩, fun D nD => ?_⟩
              refine ways_W (rs := rs) walk_list (fun G sG => (u4.trans sG).seq hS') (hR'.same u4) (hqx.same u4) ((hz _ mq).2.2.mono (by decide)) (fun q hq => (hz' q hq).2.2.mono (by decide)) (by omega) nD fun G vs2 sG hD2 hR2 => ?_
              have lv := hR4.len
              rw [flat_len, len2] at lv
              have lj : (qs.take j).length ≤ 4 := by rw [List.length_take, len1]; exact Nat.min_le_right _ _
              have lv2 : vs2.length = 4 := by rw [hR2.len, List.length_map, len2]
              refine ⟨d', D, us2, vs2, rfl, rfl, sG _ _ hd4, hD2, line_of (by omega), fun p np => ?_⟩
              refine ⟨p, _, _, _, rfl, (s''.trans sG).trans (same_upd np), upd_same, ?_⟩
              rw [flat_succ eq]
              exact RsL.app (RsL.same (same_upd np) hR2) (RsL.same (same_upd np) (RsL.same sG hR4))
            · rintro σ' H4 ⟨d', us2, a10', a11', rfl, s'', hd4, hR4⟩
              rw [hR.len, List.take_length] at hR4
              have hR3' : RsL K H4 vs (corners o.fn lo hi lo' hi') := RsL.same s'' hR3
              have hsz : ∀ q ∈ corners o.fn lo hi lo' hi', Sz 261 q := fun q hq => by
                obtain ⟨xx, yy, hxx, hyy, rfl⟩ := corners_at o.fn _ _ _ _ q hq
                have sx' : Sz 130 xx := hxx.elim (fun e => e ▸ s1) (fun e => e ▸ s2)
                have sy' : Sz 130 yy := hyy.elim (fun e => e ▸ s3) (fun e => e ▸ s4)
                exact op_sz (n := 129) o sx' sy'
              refine ⟨_, rfl, _, rfl, c', vs, _, rfl, SqL.of (s'' _ _ hc'), hR3', (fun z => by cases z), (fun q hq => (hsz q hq).mono (by decide)), fun ve H5 hE t5 => ?_⟩
              have g1 := hsz _ (mnL_spec (l := corners o.fn lo hi lo' hi') (fun z => by cases z)).1
              have g2 := hsz _ (mxL_spec (l := corners o.fn lo hi lo' hi') (fun z => by cases z)).1
              rw [e1] at hE g1
              rw [e2] at hE g2
              refine ⟨_, rfl, z, d', ve, us2, _, _, _, rfl, hz2.same ((s'.trans s'').trans t5), hE, SqL.of (t5 _ _ hd4), hR4.same t5, g1.mono (by decide), g2.mono (by decide), ?_, ?_, fun H6 t6 => ⟨_, rfl, iteF ?_⟩⟩
              · intro q hq
                obtain ⟨xx, hxx, hq⟩ := List.mem_flatMap.mp hq
                obtain ⟨yy, hyy, rfl⟩ := List.mem_map.mp hq
                have a1 := hz xx hxx
                have a2 := hz' yy hyy
                have a3 := e3 xx yy a1.1 a1.2.1 a2.1 a2.2.1
                exact ⟨a3.1, a3.2, (op_sz (n := 449) o a1.2.2 a2.2.2).mono (by decide)⟩
              · rw [flat_len, len1, len2]
                decide
              · exact ⟨_, _, _, _, _, _, rfl, u2.trans (((s'.trans s'').trans t5).trans t6), t6 _ _ (t5 _ _ (s'' _ _ (s' _ _ hL2)))⟩
      · rintro σ' H' ⟨a6, a7, a8, a9, a10, a11, rfl, s', _⟩
        exact q H' s'
end
end My

set_option Elab.async false
set_option linter.all false
set_option maxRecDepth 100000
namespace My
open PySem PySem.Spec PyProof.Rows L2 SX
/-! comparisons -/
abbrev sLawAgree : Stmt := topS 48
theorem scLawAgree : FnScope ["some"] ["some"] (defScope sLawAgree) := ⟨rfl, rfl, rfl, by decide +kernel, rfl, by decide +kernel, by decide +kernel⟩
abbrev sLawSame : Stmt := topS 49
theorem scLawSame : FnScope ["a", "b"] ["a", "b"] (defScope sLawSame) := ⟨rfl, rfl, rfl, by decide +kernel, rfl, by decide +kernel, by decide +kernel⟩
abbrev sLawCompared : Stmt := topS 50
theorem scLawCompared : FnScope ["first", "other", "a", "b", "some", "rest", "below", "under", "x", "y"] ["first", "other", "a", "b", "some", "rest"] (defScope sLawCompared) := ⟨rfl, rfl, rfl, by decide +kernel, rfl, by decide +kernel, by decide +kernel⟩
def agreeV (bs : List Bool) : V := if bs.all id = true then .bl true else if bs.any id = true then .non else .bl false
def spAgree (K : PySem.W.Frag) : Sp := fun vs H Q _ => ∃ (a : Addr) (bs : List Bool), vs = [.ref a] ∧ SqL K H a (bs.map V.bl) ∧ Q (agreeV bs) H
def spSameL (K : PySem.W.Frag) : Sp := fun vs H Q _ => ∃ (a b : V) (lo hi lo' hi' : Rat), vs = [a, b] ∧ EndsAt K H a lo hi ∧ EndsAt K H b lo' hi' ∧ Sz 3000 lo ∧ Sz 3000 hi ∧ Sz 3000 lo' ∧ Sz 3000 hi' ∧ Q (sameV lo hi lo' hi') H
theorem agree_below {qs rs : List Rat} {lo hi lo' hi' : Rat} (m1 : lo ∈ qs) (m2 : hi ∈ qs) (m3 : lo' ∈ rs) (m4 : hi' ∈ rs) (h : ∀ q ∈ qs, lo ≤ q ∧ q ≤ hi) (h' : ∀ q ∈ rs, lo' ≤ q ∧ q ≤ hi') :
    belowV lo hi lo' hi' = agreeV (qs.flatMap fun x => rs.map fun y => decide (x < y)) := by
  unfold belowV agreeV
  have e1 : (qs.flatMap fun x => rs.map fun y => decide (x < y)).all id = true ↔ hi < lo' := by
    rw [List.all_eq_true]
    constructor
    · intro z
      have := z (decide (hi < lo')) (List.mem_flatMap.mpr ⟨hi, m2, List.mem_map.mpr ⟨lo', m3, rfl⟩⟩)
      simpa using this
    · intro z b hb
      obtain ⟨x, hx, hb⟩ := List.mem_flatMap.mp hb
      obtain ⟨y, hy, rfl⟩ := List.mem_map.mp hb
      have := h x hx
      have := h' y hy
      have : x < y := by grind
      simpa using this
  have e2 : (qs.flatMap fun x => rs.map fun y => decide (x < y)).any id = true ↔ lo < hi' := by
    rw [List.any_eq_true]
    constructor
    · rintro ⟨b, hb, ht⟩
      obtain ⟨x, hx, hb⟩ := List.mem_flatMap.mp hb
      obtain ⟨y, hy, rfl⟩ := List.mem_map.mp hb
      have := h x hx
      have := h' y hy
      have : x < y := by simpa using ht
      grind
    · intro z
      exact ⟨_, List.mem_flatMap.mpr ⟨lo, m1, List.mem_map.mpr ⟨hi', m4, rfl⟩⟩, by simpa using z⟩
  by_cases c1 : hi < lo'
  · rw [if_pos c1, if_pos (e1.mpr c1)]
  · rw [if_neg c1, if_neg (fun z => c1 (e1.mp z))]
    by_cases c2 : lo < hi'
    · rw [if_pos c2, if_pos (e2.mpr c2)]
    · rw [if_neg c2, if_neg (fun z => c2 (e2.mp z))]
theorem agree_under {qs rs : List Rat} {lo hi lo' hi' : Rat} (m1 : lo ∈ qs) (m2 : hi ∈ qs) (m3 : lo' ∈ rs) (m4 : hi' ∈ rs) (h : ∀ q ∈ qs, lo ≤ q ∧ q ≤ hi) (h' : ∀ q ∈ rs, lo' ≤ q ∧ q ≤ hi') :
    atmostV lo hi lo' hi' = agreeV (qs.flatMap fun x => rs.map fun y => !decide (y < x)) := by
  unfold atmostV agreeV
  have e1 : (qs.flatMap fun x => rs.map fun y => !decide (y < x)).all id = true ↔ ¬ lo' < hi := by
    rw [List.all_eq_true]
    constructor
    · intro z
      have := z (!decide (lo' < hi)) (List.mem_flatMap.mpr ⟨hi, m2, List.mem_map.mpr ⟨lo', m3, rfl⟩⟩)
      simpa using this
    · intro z b hb
      obtain ⟨x, hx, hb⟩ := List.mem_flatMap.mp hb
      obtain ⟨y, hy, rfl⟩ := List.mem_map.mp hb
      have := h x hx
      have := h' y hy
      have : ¬ y < x := by grind
      simpa using this
  have e2 : (qs.flatMap fun x => rs.map fun y => !decide (y < x)).any id = true ↔ ¬ hi' < lo := by
    rw [List.any_eq_true]
    constructor
    · rintro ⟨b, hb, ht⟩
      obtain ⟨x, hx, hb⟩ := List.mem_flatMap.mp hb
      obtain ⟨y, hy, rfl⟩ := List.mem_map.mp hb
      have := h x hx
      have := h' y hy
      have : ¬ y < x := by simpa using ht
      grind
    · intro z
      exact ⟨_, List.mem_flatMap.mpr ⟨lo, m1, List.mem_map.mpr ⟨hi', m4, rfl⟩⟩, by simpa using z⟩
  by_cases c1 : lo' < hi
  · rw [if_pos c1, if_neg (fun z => e1.mp z c1)]
    by_cases c2 : hi' < lo
    · rw [if_pos c2, if_neg (fun z => e2.mp z c2)]
    · rw [if_neg c2, if_pos (e2.mpr c2)]
  · rw [if_neg c1, if_pos (e1.mpr c1)]
theorem same_sym (lo hi lo' hi' : Rat) : sameV lo' hi' lo hi = sameV lo hi lo' hi' := by
  unfold sameV
  by_cases c1 : hi < lo'
  · by_cases c2 : hi' < lo
    · simp [c1, c2]
    · simp [c1, c2]
  · by_cases c2 : hi' < lo
    · simp [c1, c2]
    · simp [c1, c2, and_comm]
theorem flat_V {v : V} (h : v = .bl true ∨ v = .bl false ∨ v = .non) : flat0 v := by
  rcases h with rfl | rfl | rfl <;> exact True.intro
theorem below_flat (lo hi lo' hi' : Rat) : flat0 (belowV lo hi lo' hi') := by
  unfold belowV
  split
  · exact True.intro
  · split <;> exact True.intro
theorem atmost_flat (lo hi lo' hi' : Rat) : flat0 (atmostV lo hi lo' hi') := by
  unfold atmostV
  split
  · split <;> exact True.intro
  · exact True.intro
theorem same_flat (lo hi lo' hi' : Rat) : flat0 (sameV lo hi lo' hi') := by
  unfold sameV
  split
  · exact True.intro
  · split <;> exact True.intro
theorem flatB_len (l rs : List Rat) (f : Rat → Rat → Bool) : (l.flatMap fun x => rs.map (f x)).length = l.length * rs.length := by
  induction l with
  | nil => simp
  | cons x l ih => rw [List.flatMap_cons, List.length_append, List.length_map, ih, List.length_cons, Nat.succ_mul]; omega
theorem flatB_succ {l : List Rat} {i : Nat} {q : Rat} {g : Rat → List Bool} (e : l[i]? = some q) : (l.take (i + 1)).flatMap g = (l.take i).flatMap g ++ g q := by
  rw [List.take_add_one, e, List.flatMap_append]
  simp
/-- [.. for y in rest], the block gives f y -/
theorem bools_W {K : PySem.W.Frag} {l D : Addr} {te : TE} {us : List V} {rs : List Rat} {g : Rat → Bool} {H1 : Hp} {σ : L2.St} {Qd : Hp → Prop} (hS : SqL K H1 l us) (hR : RsL K H1 us rs) (hl : rs.length ≤ 8) (nD : H1 D = none) (hσ : ∀ y : V, wipe ((wipe σ [9]).set 9 (some y)) [9] = wipe σ [9])
    (ht : ∀ (y : V) (q : Rat) (G : Hp) (k : V → Hp → Prop), Same H1 G → IsR K G y q → q ∈ rs → k (.bl (g q)) G → te ((wipe σ [9]).set 9 (some y)) G k) (q : ∀ G, Same H1 G → G D = some (.lst ((rs.map g).map V.bl)) → Qd G) :
    ∃ W : Nat → Nat → Hp → Prop, (∃ m, W 0 m (upd H1 D (.lst []))) ∧ ∀ i m H, W i m H →
      ((Itl K l).stop i H ∧ Qd H) ∨ ((Itl K l).go i H ∧ ∃ Nx : Hp → Prop, (∀ H', Nx H' → ∃ m', m' < m ∧ W (i + 1) m' H') ∧ ∀ z H', (Itl K l).yld i H z H' → gName 9 z (wipe σ [9]) H' fun σ2 H2 => wipe σ2 [9] = wipe σ [9] ∧ tYes σ2 H2 fun b H3 =>
        if b = true then te σ2 H3 fun y H4 => ∃ acc, H4 D = some (.lst acc) ∧ acc.length < sizeLine ∧ Nx (upd H4 D (.lst (acc ++ [y]))) else Nx H3) := by
  refine lc_list (xs := us) (fun i G => Same H1 G ∧ G D = some (.lst (((rs.take i).map g).map V.bl))) ⟨same_upd nD, upd_same⟩ (fun i G _ h => h.1.seq hS) ?_ ?_
  · rintro i v G hv ⟨s, hD⟩
    obtain ⟨qi, ei, ri⟩ := hR.get hv
    refine ⟨hσ v, ?_⟩
    unfold tYes
    refine iteT (ht v qi G _ s (ri.same s) (List.mem_of_getElem? ei) ⟨_, hD, ?_, same_updF nD s, ?_⟩)
    · rw [List.length_map, List.length_map, List.length_take]
      exact small1000 (by omega)
    · rw [upd_same, List.take_add_one, ei, List.map_append, List.map_append]
      rfl
  · rintro G ⟨s, hD⟩
    rw [hR.len, List.take_length] at hD
    exact q G s hD
section
variable {P : Program} {w : World} {K : PySem.W.Frag} {mg : Str → Option Value} {base : Heap}
theorem ok_agree {f : Addr} {fd : FuncData} {k : Nat} (F : Fun K "_law_agree" "_law_agree" sLawAgree f fd) (b_all : mg "all" = none) (b_any : mg "any" = none) : FnOk P w K mg base CX0 (k + 1) f fd ["some"] (spAgree K) := by
  refine F.ok scLawAgree (fun vs H Q E h => ?_) (fun cdv A outer s H vs Q E hr h => ?_)
  · obtain ⟨a, bs, rfl, _⟩ := h
    rfl
  · obtain ⟨a, bs, rfl, hS, q⟩ := h
    refine ⟨_, (pss_cons (ps_if (pt_val (pe_callB (cr_all rfl) rfl b_all (by decide +kernel) (pa_cons (pv 0) pa_nil))) (pss_one (ps_ret pe_bl)) pss_nil)
      (pss_one (ps_ret (pe_ifExp (pt_val (pe_callB (cr_any rfl) rfl b_any (by decide +kernel) (pa_cons (pv 0) pa_nil))) pe_non pe_bl)))), ?_⟩
    unfold agreeV at q
    refine ⟨_, rfl, a, bs, rfl, hS, _, rfl, ite2 (fun c => ?_) (fun c => ?_)⟩
    · rw [if_pos c] at q
      exact q
    · rw [if_neg c] at q
      refine ⟨_, rfl, a, bs, rfl, hS, _, rfl, ite2 (fun c => ?_) (fun c => ?_)⟩
      · rw [if_pos c] at q
        exact q
      · rw [if_neg c] at q
        exact q
theorem ok_lsame {f fL : Addr} {fd fdL : FuncData} {k : Nat} (F : Fun K "_law_same" "_law_same" sLawSame f fd) (Ll : Cal P w K mg base "_law_less" (k + 1) ["a", "b"] (spLessR K) fL fdL) : FnOk P w K mg base CX0 (k + 2) f fd ["a", "b"] (spSameL K) := by
  refine F.ok scLawSame (fun vs H Q E h => ?_) (fun cdv A outer s H vs Q E hr h => ?_)
  · obtain ⟨a, b, lo, hi, lo', hi', rfl, _⟩ := h
    rfl
  · obtain ⟨a, b, lo, hi, lo', hi', rfl, ⟨ta, va, vb, rfl, hTa, wa, wb⟩, ⟨tb, va', vb', rfl, hTb, wa', wb'⟩, s1, s2, s3, s4, q⟩ := h
    refine ⟨_, (pss_cons (ps_if (PW.pt (pw_or (pt_val (pe_call Ll.ok (hr.mono (by omega)) rfl Ll.g Ll.kp Ll.b .nil pass0 (pa_cons (pe_ix ix_tup (pv 0) pe_int (fun _ _ => rfl)) (pa_cons (pe_ix ix_tup (pv 1) pe_int (fun _ _ => rfl)) pa_nil)))) (pw_or1 (pt_val (pe_call Ll.ok (hr.mono (by omega)) rfl Ll.g Ll.kp Ll.b .nil pass0 (pa_cons (pe_ix ix_tup (pv 1) pe_int (fun _ _ => rfl)) (pa_cons (pe_ix ix_tup (pv 0) pe_int (fun _ _ => rfl)) pa_nil))))))) (pss_one (ps_ret pe_bl)) pss_nil)
      (pss_one (ps_ret (pe_ifExp (PW.pt (pw_and (pt_cmpR (op_eqD hr.units) (pe_ix ix_tup (pv 0) pe_int (fun _ _ => rfl)) (pe_ix ix_tup (pv 0) pe_int (fun _ _ => rfl)) (nomark _)) (pw_and1 (pt_cmpR (op_eqD hr.units) (pe_ix ix_tup (pv 1) pe_int (fun _ _ => rfl)) (pe_ix ix_tup (pv 1) pe_int (fun _ _ => rfl)) (nomark _))))) pe_bl pe_non)))), ?_⟩
    unfold sameV at q
    obtain ⟨p1, rfl, h1⟩ := id wa
    obtain ⟨p2, rfl, h2⟩ := id wb
    obtain ⟨p3, rfl, h3⟩ := id wa'
    obtain ⟨p4, rfl, h4⟩ := id wb'
    have fin : ¬ (hi < lo' ∨ hi' < lo) → tOp (rIxT K) (tVar 0) (tC (.int 0)) [some (.ref ta), some (.ref tb)] H (fun x H1 => True) := fun _ => ⟨_, rfl, ta, _, 0, _, rfl, rfl, hTa, atI_nat (j := 0) rfl, True.intro⟩
    clear fin
    refine ⟨_, rfl, ta, _, 1, _, rfl, rfl, hTa, atI_nat (j := 1) rfl, _, rfl, tb, _, 0, _, rfl, rfl, hTb, atI_nat (j := 0) rfl, _, _, hi, lo', rfl, wb, wa', s2, s3, _, rfl, ?_⟩
    by_cases c1 : hi < lo'
    · rw [if_pos (.inl c1)] at q
      rw [decide_eq_true c1]
      exact iteT (iteT q)
    · rw [decide_eq_false c1]
      refine iteF ⟨_, rfl, tb, _, 1, _, rfl, rfl, hTb, atI_nat (j := 1) rfl, _, rfl, ta, _, 0, _, rfl, rfl, hTa, atI_nat (j := 0) rfl, _, _, hi', lo, rfl, wb', wa, s4, s1, _, rfl, ?_⟩
      by_cases c2 : hi' < lo
      · rw [if_pos (.inr c2)] at q
        rw [decide_eq_true c2]
        exact iteT q
      · rw [if_neg (fun z => z.elim c1 c2)] at q
        rw [decide_eq_false c2]
        refine iteF ⟨_, rfl, ta, _, 0, _, rfl, rfl, hTa, atI_nat (j := 0) rfl, _, rfl, ta, _, 1, _, rfl, rfl, hTa, atI_nat (j := 1) rfl, _, _, .tup h1 dp_two, .tup h2 dp_two, shaped_two _ _, shaped_two _ _, _, rfl, ?_⟩
        rw [eqv_two, eq_dec]
        by_cases c3 : lo = hi
        · rw [decide_eq_true c3]
          refine iteT ⟨_, rfl, tb, _, 0, _, rfl, rfl, hTb, atI_nat (j := 0) rfl, _, rfl, tb, _, 1, _, rfl, rfl, hTb, atI_nat (j := 1) rfl, _, _, .tup h3 dp_two, .tup h4 dp_two, shaped_two _ _, shaped_two _ _, _, rfl, ?_⟩
          rw [eqv_two, eq_dec]
          by_cases c4 : lo' = hi'
          · rw [if_pos ⟨c3, c4⟩] at q
            rw [decide_eq_true c4]
            exact iteT q
          · rw [if_neg (fun z => c4 z.2)] at q
            rw [decide_eq_false c4]
            exact iteF q
        · rw [if_neg (fun z => c3 z.1)] at q
          rw [decide_eq_false c3]
          exact iteF (iteF q)
theorem ok_compared {C f fL fI fA fS fB fM fE : Addr} {fd fdL fdI fdA fdS fdB fdM fdE : FuncData} {k : Nat} (F : Fun K "_law_compared" "_law_compared" sLawCompared f fd) (Ll : Cal P w K mg base "_law_less" (k + 1) ["a", "b"] (spLessR K) fL fdL) (Li : Cal P w K mg base "_law_like" (k + 3) ["found", "due"] (spLike K 2) fI fdI)
    (La : Cal P w K mg base "_law_agree" (k + 1) ["some"] (spAgree K) fA fdA) (Lsa : Cal P w K mg base "_law_same" (k + 2) ["a", "b"] (spSameL K) fS fdS) (Bel : CalM P w K mg base C "below" (k + 2) ["self", "other"] (spCmpR K C belowV) fB fdB) (Atm : CalM P w K mg base C "at_most" (k + 2) ["self", "other"] (spCmpR K C atmostV) fM fdM)
    (Sam : CalM P w K mg base C "same" (k + 2) ["self", "other"] (spCmpR K C sameV) fE fdE) : FnOk P w K mg base CX0 (k + 4) f fd ["first", "other", "a", "b", "some", "rest"] (spOper K C) := by
  refine F.ok scLawCompared (fun vs H Q E h => ?_) (fun cdv A outer s H vs Q E hr h => ?_)
  · obtain ⟨x, y, l, l', a, b, ws, us, qs, rs, lo, hi, lo', hi', rfl, _⟩ := h
    rfl
  · obtain ⟨x, y, l, l', a, b, ws, us, qs, rs, lo, hi, lo', hi', rfl, hx, hy, ea, eb, l1, l2, s1, s2, s3, s4, hS, ⟨hR, len1, ml, mh, hz⟩, hS', ⟨hR', len2, ml', mh', hz'⟩, q⟩ := h
    refine ⟨_, (pss_cons (ps_par (i := 6) (j := 7) rfl scLawCompared.nd rfl rfl (by decide) rfl rfl (pa_cons (pe_lst pa_nil) (pa_cons (pe_lst pa_nil) pa_nil)) rfl)
      (pss_cons (ps_for PassesOwn.never rfl (pi_list (pv 4)) (pg_name (i := 8) scLawCompared.nd rfl (.inr rfl))
        (pss_cons (ps_set (i := 6) scLawCompared.nd rfl (.inl rfl) (pe_op op_cat (pv 6) (pe_lc (own := [("y", 9)]) (g := gName 9) (tt := tYes) rfl scLawCompared.nd (pi_list (pv 5)) (blkOk_by (own := [("y", 9)]) (N := ["first", "other", "a", "b", "some", "rest", "below", "under", "x", "y"]) (sc := defScope sLawCompared) (by decide +kernel)) (fun _ _ _ _ _ => (pg_name (i := 9) scLawCompared.nd rfl (.inl rfl) (.inr rfl))) (fun _ _ _ _ _ => pts_nil) (fun _ _ _ _ _ => (pe_call Ll.ok (hr.mono (by omega)) rfl Ll.g Ll.kp Ll.b .nil pass0 (pa_cons (pv 8) (pa_cons (pv 9) pa_nil)))))))
        (pss_one (ps_set (i := 7) scLawCompared.nd rfl (.inl rfl) (pe_op op_cat (pv 7) (pe_lc (own := [("y", 9)]) (g := gName 9) (tt := tYes) rfl scLawCompared.nd (pi_list (pv 5)) (blkOk_by (own := [("y", 9)]) (N := ["first", "other", "a", "b", "some", "rest", "below", "under", "x", "y"]) (sc := defScope sLawCompared) (by decide +kernel)) (fun _ _ _ _ _ => (pg_name (i := 9) scLawCompared.nd rfl (.inl rfl) (.inr rfl))) (fun _ _ _ _ _ => pts_nil) (fun _ _ _ _ _ => (pe_not (pe_call Ll.ok (hr.mono (by omega)) rfl Ll.g Ll.kp Ll.b .nil pass0 (pa_cons (pv 9) (pa_cons (pv 8) pa_nil)))))))))))
      (pss_cons (ps_if (PW.pt (pw_or (pt_not (pt_val (pe_call Li.ok (hr.mono (by omega)) rfl Li.g Li.kp Li.b .nil pass0 (pa_cons (pe_meth (pv 0) Bel.c Bel.m Bel.ok (hr.mono (by omega)) Bel.b .nil pass0 (pa_cons (pv 1) pa_nil)) (pa_cons (pe_call La.ok (hr.mono (by omega)) rfl La.g La.kp La.b .nil pass0 (pa_cons (pv 6) pa_nil)) pa_nil))))) (pw_or1 (pt_not (pt_val (pe_call Li.ok (hr.mono (by omega)) rfl Li.g Li.kp Li.b .nil pass0 (pa_cons (pe_meth (pv 0) Atm.c Atm.m Atm.ok (hr.mono (by omega)) Atm.b .nil pass0 (pa_cons (pv 1) pa_nil)) (pa_cons (pe_call La.ok (hr.mono (by omega)) rfl La.g La.kp La.b .nil pass0 (pa_cons (pv 7) pa_nil)) pa_nil)))))))) (pss_one (ps_ret pe_bl)) pss_nil)
      (pss_one (ps_ret (pe_and (pe_call Li.ok (hr.mono (by omega)) rfl Li.g Li.kp Li.b .nil pass0 (pa_cons (pe_meth (pv 0) Sam.c Sam.m Sam.ok (hr.mono (by omega)) Sam.b .nil pass0 (pa_cons (pv 1) pa_nil)) (pa_cons (pe_call Lsa.ok (hr.mono (by omega)) rfl Lsa.g Lsa.kp Lsa.b .nil pass0 (pa_cons (pv 2) (pa_cons (pv 3) pa_nil))) pa_nil))) (pe_one (pe_call Li.ok (hr.mono (by omega)) rfl Li.g Li.kp Li.b .nil pass0 (pa_cons (pe_meth (pv 1) Sam.c Sam.m Sam.ok (hr.mono (by omega)) Sam.b .nil pass0 (pa_cons (pv 0) pa_nil)) (pa_cons (pe_call Lsa.ok (hr.mono (by omega)) rfl Lsa.g Lsa.kp Lsa.b .nil pass0 (pa_cons (pv 2) (pa_cons (pv 3) pa_nil))) pa_nil)))))))))), ?_⟩
    refine ⟨Nat.zero_le _, fun c nc => ⟨Nat.zero_le _, fun d nd => ⟨_, _, rfl, ?_⟩⟩⟩
    have ncd : c ≠ d := fun e => by rw [← e, upd_same] at nd; cases nd
    have v2 : Same H (upd (upd H c (.lst [])) d (.lst [])) := (same_upd nc).trans (same_upd nd)
    refine ⟨_, rfl, l, rfl, ⟨_, v2.seq hS⟩, ?_⟩
    refine for_list (xs := ws) (fun i σ' H' => ∃ c d a8 a9, σ' = [some (.ref x), some (.ref y), some a, some b, some (.ref l), some (.ref l'), some (.ref c), some (.ref d), a8, a9] ∧ Same H H' ∧ H' c = some (.lst (((qs.take i).flatMap fun x => rs.map fun y => decide (x < y)).map V.bl)) ∧ H' d = some (.lst (((qs.take i).flatMap fun x => rs.map fun y => !decide (y < x)).map V.bl)))
      ⟨c, d, _, _, rfl, v2, by rw [upd_ne ncd]; exact upd_same, upd_same⟩ (fun i σ' H' _ ⟨_, _, _, _, _, s', _⟩ => s'.seq hS) ?_ ?_
    · rintro j xv σ' H1 hxv ⟨c', d', a8, a9, rfl, s', hc', hd'⟩
      obtain ⟨qx, eq, hqx⟩ := hR.get hxv
      have mq : qx ∈ qs := List.mem_of_getElem? eq
      have lj : (qs.take j).length ≤ 4 := by rw [List.length_take, len1]; exact Nat.min_le_right _ _
      have sx : Sz 3000 qx := (hz _ mq).2.2.mono (by decide)
      have hr0 : hr = hr := rfl
      refine ⟨_, rfl, _, rfl, l', rfl, ⟨_, s'.seq hS'⟩, fun D nD => ?_⟩
      refine bools_W (g := fun y => decide (qx < y)) (s'.seq hS') (hR'.same s') (by omega) nD (fun _ => rfl) (fun yv qy G k' sG hy' my hk => ⟨_, rfl, _, rfl, xv, yv, qx, qy, rfl, (hqx.same s').same sG, hy', sx, (hz' _ my).2.2.mono (by decide), hk⟩) fun G sG hD => ?_
      refine ⟨c', D, _, _, rfl, rfl, sG _ _ hc', hD, line_of ?_, fun p np => ?_⟩
      · rw [List.length_map, List.length_map, List.length_map, flatB_len, len2]
        omega
      have t3 : Same H1 (upd G p (.lst ((((qs.take j).flatMap fun x => rs.map fun y => decide (x < y)).map V.bl) ++ ((rs.map fun y => decide (qx < y)).map V.bl)))) := sG.trans (same_upd np)
      have s3' := s'.trans t3
      refine ⟨_, rfl, _, rfl, l', rfl, ⟨_, s3'.seq hS'⟩, fun D2 nD2 => ?_⟩
      refine bools_W (g := fun y => !decide (y < qx)) (s3'.seq hS') (hR'.same s3') (by omega) nD2 (fun _ => rfl) (fun yv qy G k' sG hy' my hk => ⟨_, rfl, _, rfl, yv, xv, qy, qx, rfl, hy', (hqx.same s3').same sG, (hz' _ my).2.2.mono (by decide), sx, _, rfl, hk⟩) fun G2 sG2 hD2 => ?_
      refine ⟨d', D2, _, _, rfl, rfl, sG2 _ _ (t3 _ _ hd'), hD2, line_of ?_, fun p2 np2 => ?_⟩
      · rw [List.length_map, List.length_map, List.length_map, flatB_len, len2]
        omega
      refine ⟨p, p2, _, _, rfl, (s3'.trans sG2).trans (same_upd np2), same_upd np2 _ _ (sG2 _ _ ?_), ?_⟩
      · rw [upd_same, flatB_succ eq, List.map_append]
      · rw [upd_same, flatB_succ eq, List.map_append]
    · rintro σ' H1 ⟨c', d', a8, a9, rfl, s', hc', hd'⟩
      rw [hR.len, List.take_length] at hc' hd'
      obtain ⟨dx, _, _, ex, _⟩ := id hx
      obtain ⟨dy, _, _, ey, _⟩ := id hy
      have b1 := agree_below ml mh ml' mh' (fun q hq => ⟨(hz q hq).1, (hz q hq).2.1⟩) (fun q hq => ⟨(hz' q hq).1, (hz' q hq).2.1⟩)
      have b2 := agree_under ml mh ml' mh' (fun q hq => ⟨(hz q hq).1, (hz q hq).2.1⟩) (fun q hq => ⟨(hz' q hq).1, (hz' q hq).2.1⟩)
      have z1 : Sz 3000 lo := s1.mono (by decide)
      have z2 : Sz 3000 hi := s2.mono (by decide)
      have z3 : Sz 3000 lo' := s3.mono (by decide)
      have z4 : Sz 3000 hi' := s4.mono (by decide)
      refine ⟨_, rfl, x, dx, _, rfl, s' _ _ ex, rfl, _, rfl, x, y, lo, hi, lo', hi', rfl, hx.same s', hy.same s', z1, z2, z3, z4, _, rfl, c', _, rfl, SqL.of hc', _, _, rfl, Lk.flat b1 (below_flat _ _ _ _), fun H2 t2 => ⟨_, rfl, iteF ?_⟩⟩
      have u2 := s'.trans t2
      refine ⟨_, rfl, x, dx, _, rfl, u2 _ _ ex, rfl, _, rfl, x, y, lo, hi, lo', hi', rfl, hx.same u2, hy.same u2, z1, z2, z3, z4, _, rfl, d', _, rfl, SqL.of (t2 _ _ hd'), _, _, rfl, Lk.flat b2 (atmost_flat _ _ _ _), fun H3 t3 => ⟨_, rfl, iteF ?_⟩⟩
      have u3 := u2.trans t3
      refine ⟨_, rfl, x, dx, _, rfl, u3 _ _ ex, rfl, _, rfl, x, y, lo, hi, lo', hi', rfl, hx.same u3, hy.same u3, z1, z2, z3, z4, _, rfl, _, rfl, a, b, lo, hi, lo', hi', rfl, ea.same u3, eb.same u3, z1, z2, z3, z4, _, _, rfl, Lk.flat rfl (same_flat _ _ _ _), fun H4 t4 => ⟨_, rfl, iteT ?_⟩⟩
      have u4 := u3.trans t4
      exact ⟨_, rfl, y, dy, _, rfl, u4 _ _ ey, rfl, _, rfl, y, x, lo', hi', lo, hi, rfl, hy.same u4, hx.same u4, z3, z4, z1, z2, _, rfl, _, rfl, a, b, lo, hi, lo', hi', rfl, ea.same u4, eb.same u4, z1, z2, z3, z4, _, _, rfl, Lk.flat (same_sym _ _ _ _) (same_flat _ _ _ _), fun H5 t5 => q H5 (u4.trans t5)⟩
end
end My

set_option Elab.async false
set_option linter.all false
set_option maxRecDepth 100000
/-! == by an own __eq__ beside anything; C(..) that may raise, in a try; isinstance of an error with fields -/
namespace My
open PySem PySem.Spec PyProof.Rows L2
section
variable {X : Cx}
def rEqAny (K : PySem.W.Frag) (C : Addr) (sp : Sp) : R2 := fun x y H Q => ∃ a dx fs tv, x = .ref a ∧ H a = some (.ins C dx fs) ∧ TyX K H y tv ∧ PySem.W.notFirst K C tv = true ∧ sp [x, y] H Q E0
theorem op_eqAny {C f : Addr} {fd : FuncData} {ps : List Str} {n : Nat} {sp : Sp} (F : FnOk X.prog X.w X.K X.mg X.base CX0 n f fd ps sp)
    (hs : PySem.W.findIn X.K (.ref C) "__eq__" = some (some (.ref f))) (hf : PySem.W.isFn X.K (.ref f) = true) (hb : Binds X.K fd ps []) (hr : Room n X.A) : OpR X (compareOp .Eq) (rEqAny X.K C sp) := by
  intro pins s σ H x y u v Q I rx ry d
  obtain ⟨a, dx, fs, tv, rfl, ha, ty, hn, hsp⟩ := d
  cases rx
  show wpAny (model X.prog X.w) X.A (richCompare .Eq (.ref a) v) (EP X pins σ Q) X.xe s
  obtain ⟨mA, J, _⟩ := ins_get I.hok ha
  obtain ⟨od, J, _⟩ := J.look
  obtain ⟨P, Z, p, _⟩ := kit_of I ry ty
  obtain ⟨m, hF⟩ := I.fr
  refine PySem.W.cmp_K (op := .Eq) hr.units0 hF I.ok.mod.kin J (Z.ty _ _ I.kIn p) hn hs hf ?_
  have hl := F.len _ _ _ _ hsp
  have r2 : Vals [V.ref a, y] [Value.ref a, v] := .cons rfl (.cons ry .nil)
  refine wpAny_call (codeAny_mono (F.run X.A X.stack s H ⟨[.ref a, v], []⟩ [.ref a, v] [.ref a, y] _ E0 hr I.env0 (by
    have := hb s [.ref a, v] I.kIn (by simpa using hl)
    simpa using this) r2 hsp) fun r s' hq => ?_)
  cases r with
  | error e => exact (show False from hq).elim
  | ok fl =>
    cases fl with
    | ret w =>
      obtain ⟨v, H', I', rv, q⟩ := I.after hq
      show PySem.W.CmpBack (EP X pins σ Q) w s'
      have g : EP X pins σ Q w s' := ⟨v, H', I', rv, q⟩
      cases v with
      | non => cases rv; exact g
      | bl b => cases rv; exact g
      | int i => obtain ⟨t, rfl⟩ := rv; exact g
      | str i => obtain ⟨t, rfl⟩ := rv; exact g
      | byt i => obtain ⟨t, rfl⟩ := rv; exact g
      | flt i => obtain ⟨t, rfl⟩ := rv; exact g
      | ref i => cases rv; exact g
      | ty i => cases rv; exact g
    | next => exact False.elim hq
    | brk => exact False.elim hq
    | cont => exact False.elim hq
end
/-! ### C(e, ..) that may raise: what is raised is wished for at the slots -/
section
variable {X : Cx} {CX : CXT} {k : Nat} {f C : Addr} {fd : FuncData} {ps : List Str} {sp : Sp} {x : Str} {p pos : Pos} {e : Expr} {es : List Expr} {t : TA}
def tMakeS (C : Addr) (sp : Sp) (E : L2.St → XK) (t : TA) : TE := fun σ H Q => t σ H fun vs H1 => ∀ x dx, H1 x = none → H1 dx = none → dx ≠ x →
  sp (.ref x :: vs) (upd (upd H1 dx (.own x)) x (.ins C dx [])) (fun v H2 => v = .non ∧ Q (.ref x) H2) (E σ)
theorem pe_makeS {E : L2.St → XK} (M : Mk X.K C f) (F : FnOk X.prog X.w X.K X.mg X.base CX k f fd ps sp) (hr : Room (k + 1) X.A) (hg : Gl X x) (hm : X.mg x = some (.ref C)) (hb : Binds X.K fd ps []) (hx : ∀ σ, PassesAt CX X σ (E σ))
    (ha : PA X (e :: es) t) (hdb : (x == ("__debug__" : Str)) = false := by decide) (he : starEach (e :: es) X.env = (false, eval e X.env) :: starEach es X.env := by rfl) (hpl : (backTo pos (starEach es X.env)).any (·.1) = false := by rfl) :
    PE X (.Call (.Name x p) (e :: es) [] pos) (tMakeS C sp E t) := by
  refine ⟨fun pins s σ H Q I h => ?_⟩
  refine wpAny_Call_Name_kw (ld_glob I hg hm ?_ hdb)
  refine PySem.W.callWith_K (h₀ := X.base) I.ok.mod.kin M.kp (thn (ha.run pos pins s σ H _ I h) fun us s1 ⟨vs, H1, I1, r, q1⟩ => ⟨I1.kIn, ?_⟩) he hpl
  show wpAny _ _ (call (.ref C) us) _ _ _
  have hq := q1 (s1.heap.objs.size + 1) s1.heap.objs.size (I1.hok.fresh (Nat.le_succ _)) (I1.hok.fresh (Nat.le_refl _)) (Nat.ne_of_lt (Nat.lt_succ_self _))
  have I2 := Inv.made (C := C) I1
  have r2 : Vals (V.ref (s1.heap.objs.size + 1) :: vs) (Value.ref (s1.heap.objs.size + 1) :: us) := .cons rfl r
  have hl : (Value.ref (s1.heap.objs.size + 1) :: us ++ []).length = ps.length := by
    have e := r2.length
    rw [F.len _ _ _ _ hq] at e
    rw [List.append_nil]
    exact e.symm
  have hbd := hb _ (Value.ref (s1.heap.objs.size + 1) :: us) I2.kIn hl
  rw [List.append_nil] at hbd
  refine wpAny_call (make_map (f := f) I1.kIn M.makes M.init (beq_iff_eq.mp M.fn) (codeAny_mono (F.run _ X.stack _ _ ⟨Value.ref (s1.heap.objs.size + 1) :: us, []⟩ (Value.ref (s1.heap.objs.size + 1) :: us) _ _ (E σ) (hr.make C us [])
    (I2.env0.make C us []) hbd r2 hq) fun r s' hq' => ?_))
  cases r with
  | error e => exact hx σ pins _ _ e s' I2 hq'
  | ok fl =>
    cases fl with
    | ret u =>
      obtain ⟨v, H', I3, rv, ev, q3⟩ := I2.after hq'
      subst ev
      exact ⟨rv, ⟨V.ref (s1.heap.objs.size + 1), H', I3, rfl, q3⟩⟩
    | next => exact False.elim hq'
    | brk => exact False.elim hq'
    | cont => exact False.elim hq'
end
/-! ### isinstance of an error that has its own dict -/
section
open PySem.W PySem.Calls
variable {prog : Program} {w : World} {A : Around} {E : Value → Shared → Prop} {s : Shared} {K : Frag} {x D : Addr} {ox : Obj} {od : Obj}
theorem exc_class (T : L2.ExcC K D) {Q : Option Value → Shared → Prop} (X : K.In s.heap) (J : InstAt s.heap x ox D (some od)) (h : Q (some (.ref D)) { s with toks := s.toks + 1 }) :
    wpAny (model prog w) A (getAttr? (.ref x) "__class__") Q E s := by
  have found : findObj K D (some od) "__class__" = some (.bind (.builtin "getset_descriptor.__get__") (.builtin "object.__class__")) :=
    findObj_data (by obtain ⟨c, e, _⟩ := any_some T.hd; rw [e]; rfl) T.ha T.hn T.ht
  obtain ⟨hp, g, dr, tk, os⟩ := s
  have a0 := J.type (M := model prog w)
  have a1 := looks_findIn (M := model prog w) X T.hg
  have a2 := looks_findIn (M := model prog w) X T.hk
  have a3 := looks_find (M := model prog w) X J found
  have a4 : Looks (model prog w) hp (isInstance (.ref x) (.type "BaseException")) true := a0.andThen (looks_subIn X T.hs)
  have n0 : (false && onTheHeap (Value.builtin "BaseException.__getattribute__")) = false := rfl
  have n2 : (Value.builtin "BaseException.__getattribute__" == Value.builtin "object.__getattribute__") = false := by decide +kernel
  have n1 : (onTheHeap (Value.ref D) && Value.builtin "BaseException.__getattribute__" == Value.builtin "object.__getattribute__") = false := by rw [n2]; rfl
  unfold getAttr? getAttrBy? getAttrBy
  refine wpAny_bind (wpAny_mkText (wpAny_bind (wpAny_attempt (wpAny_holding (wpAny_bind (a0.at (wpAny_bind (a1.at ?_))))))))
  show wpAny _ _ (if (onTheHeap (Value.ref D) && Value.builtin "BaseException.__getattribute__" == Value.builtin "object.__getattribute__") = true then _ else _) _ _ _
  rw [n1, if_neg Bool.false_ne_true]
  unfold getAttrByItsOwn hookBefore
  refine wpAny_bind ?_
  rw [if_pos (show onTheHeap (Value.ref D) = true from rfl)]
  refine a2.at (wpAny_bind (wpAny_attempt (wpAny_holding ?_)))
  unfold callGetattribute
  rw [n0, if_neg Bool.false_ne_true]
  unfold boundAndCalled
  rw [PySem.F.excAttr_ValueError.ga.bind (.ref x)]
  refine wpAny_bind (wpAny_pure ?_)
  show wpAny _ _ (call (.builtin "BaseException.__getattribute__") [.ref x, .str "__class__" tk]) _ _ _
  refine wpAny_call (codeAny_call_builtin PySem.F.excAttr_ValueError.ga.plain PySem.F.entry_bexc_ga ?_)
  refine @check_slot (model prog w) _ _ ⟨hp, g, dr, tk + 1, os⟩ "BaseException.__getattribute__" "BaseException" "__getattribute__" (.ref x) [.str "__class__" tk] [] _ (by decide +kernel) (by decide +kernel) a4 (PySem.F.args_bexc_ga (.ref x) (.str "__class__" tk)) ?_
  unfold Builtin.«object.__getattribute__»
  refine wpAny_bind (wpAny_of_eq (a := ((Value.ref x : Value), [Value.str "__class__" tk])) (by first | rfl | (simp only [slotArgs]; rfl)) ?_)
  refine wpAny_bind (wpAny_pure (wpAny_bind (a0.at (wpAny_bind (a3.at ?_)))))
  show wpAny _ _ (holding [Value.builtin "object.__class__"] (call (.builtin "getset_descriptor.__get__") [.builtin "object.__class__", .ref x, .ref D]) >>= ret) _ _ _
  refine wpAny_bind (wpAny_holding (wpAny_call (class_get (s := ⟨hp, g, dr, tk + 1, os⟩) (ox := ox) (od := some od) X J T.hm ?_)))
  refine wpAny_pure ?_
  show wpAny _ _ (handedOut (.ref D)) _ _ _
  rw [handedOut_of (v := .ref D) rfl]
  first
    | exact wpAny_pure (wpAny_pure h)
    | exact wpAny_pure h
    | exact wpAny_pure (wpAny_bind (wpAny_pure (wpAny_pure h)))
theorem exc_kit (T : L2.ExcC K D) : KitX K (.ref x) (.ref D) (fun h => InstAt h x ox D (some od)) where
  ty := fun _ _ _ J => J.type
  it := fun _ _ X _ => by
    obtain ⟨cd, hc, _⟩ := any_some T.hd
    unfold clsIn at hc
    split at hc
    · rename_i c' d' cd' sl' ho
      intro A' Q' E' s' k q
      unfold isType loadHead
      exact wpAny_bind (wpAny_loadPart (k _ _ (X _ _ ho)) (wpAny_pure q))
    · cases hc
  ne := fun h tp dd its n sl X htp => by
    obtain ⟨cd, hc, _⟩ := any_some T.hd
    refine Bool.eq_false_iff.mpr fun q => ?_
    obtain rfl : D = tp := Value.ref.inj (beq_iff_eq.mp q)
    unfold clsIn at hc
    split at hc
    · rename_i c' d' cd' sl' ho
      have z := (X _ _ ho).symm.trans htp
      cases z
    · cases hc
  ca := fun X J k => exc_class T X J k
end
/-- isinstance(e, c), e the error that the suite holds, its dict at d -/
def rIsD (K : PySem.W.Frag) (cls : Value) (d : Option Addr) (a : Addr) : List V → Hp → VK → Prop := fun xs H Q => ∃ (D dd : Addr) (fs : List (Str × V)) (c : V) (cv : Value) (b : Bool), cls = .ref D ∧ d = some dd ∧ H dd = some (.xd fs) ∧ ExcC K D ∧ xs = [.ref a, c] ∧ (∀ u, RelV c u → u = cv) ∧ PySem.W.kitOne K (.ref D) cv = some b ∧ Q (.bl b) H
theorem call_isD {X : Cx} {a : Addr} {cls : Value} {d : Option Addr} {oe : Obj} {pn : List (Addr × Obj)} (hz : Zc cls d oe) (hf : ∃ vs, oe.data = .fields vs) : CallR (X.suite a ((a, oe) :: pn)) (.builtin "isinstance") (rIsD X.K cls d a) := by
  intro pins s σ H xs us Q I r h
  obtain ⟨D, dd, fs, c, cv, b, rfl, rfl, hd, T, rfl, hcv, e, q⟩ := h
  cases r with
  | cons rx rr =>
    cases rr with
    | cons rt rr =>
      cases rr
      cases rx
      have ec := hcv _ rt
      subst ec
      obtain ⟨hget, _⟩ := I.pin (a, oe) (List.mem_append.mpr (.inl List.mem_cons_self))
      obtain ⟨vs, hv⟩ := hf
      have hx : ObjOk X.prog X.w H s.heap dd (.xd fs) := I.hok dd _ hd
      obtain ⟨mA, hns, hr⟩ := hx
      obtain ⟨od, ho, hl⟩ := lookIn_ns hns
      have J : PySem.W.InstAt s.heap a oe D (some od) := ⟨hget, hz.1, by unfold PySem.W.notCls; rw [hv] <;> rfl, by rw [hz.2]; exact ho⟩
      exact PySem.W.kia_one (exc_kit T) I.kIn J e (fun z => nomatch z) fun tk => ⟨.bl b, H, I.kept (t' := tk) fun _ _ z => z, rfl, q⟩
end My

set_option Elab.async false
set_option linter.all false
set_option maxRecDepth 100000
namespace My
open PySem PySem.Spec PyProof.Rows L2 SX
/-! one span by itself -/
abbrev sLawAlone : Stmt := topS 52
theorem scLawAlone : FnScope ["span", "ends", "due", "text"] ["span", "ends"] (defScope sLawAlone) := ⟨rfl, rfl, rfl, by decide +kernel, rfl, by decide +kernel, by decide +kernel⟩
def spAlone (K : PySem.W.Frag) (C : Addr) : Sp := fun vs H Q _ => ∃ (x : Addr) (v : V) (lo hi : Rat), vs = [.ref x, v] ∧ SpanR K C H x lo hi ∧ EndsAt K H v lo hi ∧ lo ≤ hi ∧ Sz 450 lo ∧ Sz 450 hi ∧ ∀ H', Same H H' → Q (.bl true) H'
theorem truth_flat (lo hi : Rat) : flat0 (truthV lo hi) := by
  unfold truthV
  split
  · exact True.intro
  · split <;> exact True.intro
theorem sub_tup {K : PySem.W.Frag} {C : Addr} : PySem.W.subIn K (.type "tuple") (.ref C) = some false := by rfl
theorem sub_non {K : PySem.W.Frag} {C : Addr} : PySem.W.subIn K (.type "NoneType") (.ref C) = some false := by rfl
theorem sub_str {K : PySem.W.Frag} {C : Addr} : PySem.W.subIn K (.type "str") (.ref C) = some false := by rfl
theorem nf_of {K : PySem.W.Frag} {C : Addr} {T : String} (h : PySem.W.subIn K (.type T) (.ref C) = some false) : PySem.W.notFirst K C (.type T) = true := by
  unfold PySem.W.notFirst
  rw [h]
  rfl
theorem nf_self {K : PySem.W.Frag} {C : Addr} : PySem.W.notFirst K C (.ref C) = true := by simp [PySem.W.notFirst]
theorem isr_sev {K : PySem.W.Frag} {H : Hp} {p : Addr} (h : SqT K H p [.int 1, .int 7]) : IsR K H (.ref p) (1 / 7) := ⟨p, rfl, by
  rw [show (1 / 7 : Rat).num = 1 by decide +kernel, show (1 / 7 : Rat).den = 7 by decide +kernel]
  exact h⟩
theorem IsR.ty {K : PySem.W.Frag} {H : Hp} {v : V} {q : Rat} (h : IsR K H v q) : TyX K H v (.type "tuple") := by
  obtain ⟨a, rfl, h⟩ := h
  exact ty_tup h
/-- a span that is made, whatever follows -/
theorem new_spanA {K : PySem.W.Frag} {C : Addr} {H : Hp} {l h : V} {lo hi : Rat} {R : Addr → Hp → Prop} (w1 : IsR K H l lo) (w2 : IsR K H h hi) (s1 : Sz 3000 lo) (s2 : Sz 3000 hi) (le : lo ≤ hi)
    (q : ∀ x H', H x = none → Same H H' → SpanR K C H' x lo hi → R x H') : ∀ x dx, H x = none → H dx = none → dx ≠ x → spInitR K C [.ref x, l, h] (upd (upd H dx (.own x)) x (.ins C dx [])) (fun v H2 => v = .non ∧ R x H2) E0 := by
  intro x dx hx hdx ne
  have s3 : Same H (upd (upd H dx (.own x)) x (.ins C dx [])) := same_updF hx (same_upd hdx)
  refine ⟨x, dx, l, h, lo, hi, rfl, upd_same, w1.same s3, w2.same s3, s1, s2, le, rfl, ?_⟩
  have s4 : Same H (upd (upd (upd H dx (.own x)) x (.ins C dx [])) x (.ins C dx [("low", l), ("high", h)])) := same_updF hx s3
  exact q x _ hx s4 ⟨dx, l, h, upd_same, w1.same s4, w2.same s4⟩
section
variable {P : Program} {w : World} {K : PySem.W.Frag} {mg : Str → Option Value} {base : Heap}
theorem ok_alone {C f fL fX fI fT fS fR fH fF fD fE fM fP : Addr} {fd fdL fdX fdI fdT fdS fdR fdH fdF fdD fdE fdM fdP : FuncData} {k : Nat} (F : Fun K "_law_alone" "_law_alone" sLawAlone f fd) (T : SpT K mg C) (Ll : Cal P w K mg base "_law_less" (k + 1) ["a", "b"] (spLessR K) fL fdL) (Lx : Cal P w K mg base "_law_text" (k + 1) ["a"] (spTx K) fX fdX)
    (Li : Cal P w K mg base "_law_like" (k + 3) ["found", "due"] (spLike K 2) fI fdI) (Tr : CalM P w K mg base C "truth" (k + 3) ["self"] (spTruthR K C) fT fdT) (Si : CalM P w K mg base C "single" (k + 1) ["self"] (spSingleR K C) fS fdS) (St : CalM P w K mg base C "__str__" (k + 3) ["self"] (spStrS K C) fR fdR)
    (Lh : Cal P w K mg base "_law_holds" (k + 4) ["span", "ends", "some"] (spHolds K C) fH fdH) (Flo : CalM P w K mg base C "floor" (k + 4) ["self"] (spFloorS K C) fF fdF) (Ldn : Cal P w K mg base "_law_down" (k + 1) ["a"] (spDown K) fD fdD) (Eq : CalM P w K mg base C "__eq__" (k + 1) ["self", "other"] (spEqS K C) fE fdE)
    (MkS : CalC P w K mg base "Span" C (k + 2) ["self", "low", "high"] (spInitR K C) fM fdM) (Lp : Cal P w K mg base "_law_plus" (k + 2) ["a", "b"] (spOpR K (· + ·)) fP fdP) (b_str : mg "str" = none) : FnOk P w K mg base CX0 (k + 6) f fd ["span", "ends"] (spAlone K C) := by
  refine F.ok scLawAlone (fun vs H Q E h => ?_) (fun cdv A outer s H vs Q E hr h => ?_)
  · obtain ⟨x, v, lo, hi, rfl, _⟩ := h
    rfl
  · obtain ⟨x, v, lo, hi, rfl, hx, he, le, s1, s2, q⟩ := h
    refine ⟨_, (pss_cons (ps_set (i := 2) scLawAlone.nd rfl (.inl rfl) pe_non)
      (C8.pss_cut (ps_if (pt_cmpR (op_eqD hr.units) (pv 1) (pe_tup (pa_cons (pe_tup (pa_cons pe_int (pa_cons pe_int pa_nil))) (pa_cons (pe_tup (pa_cons pe_int (pa_cons pe_int pa_nil))) pa_nil))) (nomark _)) (pss_one (ps_set (i := 2) scLawAlone.nd rfl (.inl rfl) pe_bl)) (pss_one (ps_if (PW.pt (pw_or (pt_val (pe_call Ll.ok (hr.mono (by omega)) rfl Ll.g Ll.kp Ll.b .nil pass0 (pa_cons (pe_tup (pa_cons pe_int (pa_cons pe_int pa_nil))) (pa_cons (pe_ix ix_tup (pv 1) pe_int (fun _ _ => rfl)) pa_nil)))) (pw_or1 (pt_val (pe_call Ll.ok (hr.mono (by omega)) rfl Ll.g Ll.kp Ll.b .nil pass0 (pa_cons (pe_ix ix_tup (pv 1) pe_int (fun _ _ => rfl)) (pa_cons (pe_tup (pa_cons pe_int (pa_cons pe_int pa_nil))) pa_nil))))))) (pss_one (ps_set (i := 2) scLawAlone.nd rfl (.inl rfl) pe_bl)) pss_nil)))
      (C8.pss_cut (ps_set (i := 3) scLawAlone.nd rfl (.inl rfl) (pe_ifExp (pt_cmpR (op_eqD hr.units) (pe_ix ix_tup (pv 1) pe_int (fun _ _ => rfl)) (pe_ix ix_tup (pv 1) pe_int (fun _ _ => rfl)) (nomark _)) (pe_call Lx.ok (hr.mono (by omega)) rfl Lx.g Lx.kp Lx.b .nil pass0 (pa_cons (pe_ix ix_tup (pv 1) pe_int (fun _ _ => rfl)) pa_nil)) (pe_op op_add_str (pe_op op_add_str (pe_call Lx.ok (hr.mono (by omega)) rfl Lx.g Lx.kp Lx.b .nil pass0 (pa_cons (pe_ix ix_tup (pv 1) pe_int (fun _ _ => rfl)) pa_nil)) pe_str) (pe_call Lx.ok (hr.mono (by omega)) rfl Lx.g Lx.kp Lx.b .nil pass0 (pa_cons (pe_ix ix_tup (pv 1) pe_int (fun _ _ => rfl)) pa_nil)))))
      (pss_cons (ps_if (PW.pt (pw_or (pt_not (pt_val (pe_call Li.ok (hr.mono (by omega)) rfl Li.g Li.kp Li.b .nil pass0 (pa_cons (pe_meth0 (pv 0) Tr.c Tr.m Tr.ok (hr.mono (by omega)) Tr.b .nil pass0) (pa_cons (pv 2) pa_nil))))) (pw_or (pt_not (pt_val (pe_call Li.ok (hr.mono (by omega)) rfl Li.g Li.kp Li.b .nil pass0 (pa_cons (pe_meth0 (pv 0) Si.c Si.m Si.ok (hr.mono (by omega)) Si.b .nil pass0) (pa_cons (pe_cmpR (op_eqD hr.units) (pe_ix ix_tup (pv 1) pe_int (fun _ _ => rfl)) (pe_ix ix_tup (pv 1) pe_int (fun _ _ => rfl)) (nomark _)) pa_nil))))) (pw_or1 (pt_cmpR op_ne (pe_callTy (call_strOwn St.ok St.m.at_ St.m.fn St.b (hr.mono (by omega))) rfl b_str (by decide +kernel) (pa_cons (pv 0) pa_nil)) (pv 3) (nomark _)))))) (pss_one (ps_ret pe_bl)) pss_nil)
      (pss_cons (ps_if (pt_not (pt_val (pe_call Lh.ok (hr.mono (by omega)) rfl Lh.g Lh.kp Lh.b .nil pass0 (pa_cons (pe_meth0 (pv 0) Flo.c Flo.m Flo.ok (hr.mono (by omega)) Flo.b .nil pass0) (pa_cons (pe_tup (pa_cons (pe_call Ldn.ok (hr.mono (by omega)) rfl Ldn.g Ldn.kp Ldn.b .nil pass0 (pa_cons (pe_ix ix_tup (pv 1) pe_int (fun _ _ => rfl)) pa_nil)) (pa_cons (pe_call Ldn.ok (hr.mono (by omega)) rfl Ldn.g Ldn.kp Ldn.b .nil pass0 (pa_cons (pe_ix ix_tup (pv 1) pe_int (fun _ _ => rfl)) pa_nil)) pa_nil))) (pa_cons (pe_lst (pa_cons (pe_call Ldn.ok (hr.mono (by omega)) rfl Ldn.g Ldn.kp Ldn.b .nil pass0 (pa_cons (pe_ix ix_tup (pv 1) pe_int (fun _ _ => rfl)) pa_nil)) pa_nil)) pa_nil)))))) (pss_one (ps_ret pe_bl)) pss_nil)
      (pss_cons (ps_if (PW.pt (pw_or (pt_cmpR (op_eqAny Eq.ok Eq.m.at_ Eq.m.fn Eq.b (hr.mono (by omega))) (pv 0) (pv 1) (nomark _)) (pw_or (pt_cmpR (op_eqAny Eq.ok Eq.m.at_ Eq.m.fn Eq.b (hr.mono (by omega))) (pv 0) (pe_ix ix_tup (pv 1) pe_int (fun _ _ => rfl)) (nomark _)) (pw_or (pt_cmpR (op_eqAny Eq.ok Eq.m.at_ Eq.m.fn Eq.b (hr.mono (by omega))) (pv 0) pe_non (nomark _)) (pw_or1 (pt_cmpR (op_eqAny Eq.ok Eq.m.at_ Eq.m.fn Eq.b (hr.mono (by omega))) (pv 0) (pv 3) (nomark _))))))) (pss_one (ps_ret pe_bl)) pss_nil)
      (pss_one (ps_ret (pe_and (pe_cmpR (op_eqAny Eq.ok Eq.m.at_ Eq.m.fn Eq.b (hr.mono (by omega))) (pv 0) (pe_make MkS.m MkS.ok (hr.mono (by omega)) rfl MkS.g MkS.b .nil pass0 (pa_cons (pe_ix ix_tup (pv 1) pe_int (fun _ _ => rfl)) (pa_cons (pe_ix ix_tup (pv 1) pe_int (fun _ _ => rfl)) pa_nil))) (nomark _)) (pe_one (pe_not (pe_cmpR (op_eqAny Eq.ok Eq.m.at_ Eq.m.fn Eq.b (hr.mono (by omega))) (pv 0) (pe_make MkS.m MkS.ok (hr.mono (by omega)) rfl MkS.g MkS.b .nil pass0 (pa_cons (pe_ix ix_tup (pv 1) pe_int (fun _ _ => rfl)) (pa_cons (pe_call Lp.ok (hr.mono (by omega)) rfl Lp.g Lp.kp Lp.b .nil pass0 (pa_cons (pe_ix ix_tup (pv 1) pe_int (fun _ _ => rfl)) (pa_cons (pe_tup (pa_cons pe_int (pa_cons pe_int pa_nil))) pa_nil))) pa_nil))) (nomark _))))))))))))), ?_⟩
    obtain ⟨t, va, vb, rfl, hT, wa, wb⟩ := id he
    obtain ⟨dx, _, _, ex, _⟩ := id hx
    have z0 : Sz 3000 (0 : Rat) := sz_zero (n := 2999)
    have z1 : Sz 3000 lo := s1.mono (by decide)
    have z2 : Sz 3000 hi := s2.mono (by decide)
    have y1 : Sz 700 lo := s1.mono (by decide)
    have y2 : Sz 700 hi := s2.mono (by decide)
    refine ⟨fun σ' H' => σ' = [some (.ref x), some (.ref t), some (truthV lo hi), none] ∧ Same H H', ?_, ?_⟩
    · refine ⟨_, rfl, (by show 2 ≤ sizeLine; decide), fun p1 n1 => ⟨(by show 2 ≤ sizeLine; decide), fun p2 n2 => ⟨(by show 2 ≤ sizeLine; decide), fun p3 n3 => ?_⟩⟩⟩
      have t1 := same_upd (o := .tup [.int 0, .int 1]) n1
      have t2 := same_upd (o := .tup [.int 0, .int 1]) n2
      have t3 := same_upd (o := .tup [.ref p1, .ref p2]) n3
      have u3 := (t1.trans t2).trans t3
      have i1 := (isr_zero (K := K) (SqT.of (upd_same (H := H) (a := p1) (o := .tup [.int 0, .int 1])))).same (t2.trans t3)
      have i2 := (isr_zero (K := K) (SqT.of (upd_same (H := upd H p1 (.tup [.int 0, .int 1])) (a := p2) (o := .tup [.int 0, .int 1])))).same t3
      refine ⟨_, _, .tup (seqT_same u3 hT) (dp_pair (wa.same u3) (wb.same u3)), .tup (SqT.of upd_same) (dp_pair i1 i2), rfl, rfl, _, rfl, ?_⟩
      rw [eqv_pair]
      refine ite2 (fun c => ?_) (fun c => ?_)
      · rw [Bool.and_eq_true, decide_eq_true_eq, decide_eq_true_eq] at c
        refine ⟨?_, u3⟩
        rw [c.1, c.2]
        rfl
      · have c' : ¬ (lo = 0 ∧ hi = 0) := fun z => c (by rw [z.1, z.2]; rfl)
        have hno : ¬ 0 < lo → ¬ hi < 0 → truthV lo hi = .non := fun a b => (truth_open le).mpr ⟨c', a, b⟩
        have hye : (0 < lo ∨ hi < 0) → truthV lo hi = .bl true := fun z => by unfold truthV; rw [if_pos z]
        refine ⟨(by show 2 ≤ sizeLine; decide), fun p4 n4 => ⟨_, rfl, t, _, 0, _, rfl, rfl, seqT_same (u3.trans (same_upd n4)) hT, atI_nat (j := 0) rfl, .ref p4, va, 0, lo, rfl, isr_zero (SqT.of upd_same), wa.same (u3.trans (same_upd n4)), z0, z1, _, rfl, ?_⟩⟩
        have u4 := u3.trans (same_upd (o := .tup [.int 0, .int 1]) n4)
        by_cases c1 : 0 < lo
        · rw [decide_eq_true c1]
          refine iteT (iteT ⟨?_, u4⟩)
          rw [hye (.inl c1)]
          rfl
        · rw [decide_eq_false c1]
          refine iteF ⟨_, rfl, t, _, 1, _, rfl, rfl, seqT_same u4 hT, atI_nat (j := 1) rfl, (by show 2 ≤ sizeLine; decide), fun p5 n5 => ⟨vb, .ref p5, hi, 0, rfl, wb.same (u4.trans (same_upd n5)), isr_zero (SqT.of upd_same), z2, z0, _, rfl, ?_⟩⟩
          have u5 := u4.trans (same_upd (o := .tup [.int 0, .int 1]) n5)
          by_cases c2 : hi < 0
          · rw [decide_eq_true c2]
            refine iteT ⟨?_, u5⟩
            rw [hye (.inr c2)]
            rfl
          · rw [decide_eq_false c2]
            refine iteF ⟨?_, u5⟩
            rw [hno c1 c2]
            rfl
    · rintro σ1 H1 ⟨rfl, u1⟩
      refine ⟨fun σ' H' => σ' = [some (.ref x), some (.ref t), some (truthV lo hi), some (.str (S (txS lo hi)))] ∧ Same H H', ?_, ?_⟩
      · have hT1 := seqT_same u1 hT
        obtain ⟨pa, rfl, ha⟩ := wa.same u1
        obtain ⟨pb, rfl, hb⟩ := wb.same u1
        refine ⟨_, rfl, t, _, 0, _, rfl, rfl, hT1, atI_nat (j := 0) rfl, _, rfl, t, _, 1, _, rfl, rfl, hT1, atI_nat (j := 1) rfl, _, _, .tup ha dp_two, .tup hb dp_two, shaped_two _ _, shaped_two _ _, _, rfl, ?_⟩
        rw [eqv_two, eq_dec]
        have i1 : IsR K H1 (.ref pa) lo := ⟨pa, rfl, ha⟩
        have i2 : IsR K H1 (.ref pb) hi := ⟨pb, rfl, hb⟩
        refine ite2 (fun c => ?_) (fun c => ?_)
        · refine ⟨_, rfl, t, _, 0, _, rfl, rfl, hT1, atI_nat (j := 0) rfl, _, lo, rfl, i1, y1, ?_, u1⟩
          unfold txS
          rw [if_pos (of_decide_eq_true c)]
          rfl
        · have es : Str.ofString ".." = S [46, 46] := by decide +kernel
          have l1 := tx_len y1
          have l2 := tx_len y2
          refine ⟨_, rfl, t, _, 0, _, rfl, rfl, hT1, atI_nat (j := 0) rfl, _, lo, rfl, i1, y1, _, _, rfl, rfl, ?_, ?_⟩
          · rw [es, S_len]
            exact line_of (by show _ + 2 ≤ _; omega)
          · refine ⟨_, rfl, t, _, 1, _, rfl, rfl, hT1, atI_nat (j := 1) rfl, _, hi, rfl, i2, y2, _, _, rfl, rfl, ?_, ?_, u1⟩
            · rw [es, S_cat, S_len, S_len, List.length_append]
              exact line_of (by show _ + 2 + _ ≤ _; omega)
            · unfold txS
              rw [if_neg (fun z => c (decide_eq_true z)), es, S_cat, S_cat, List.append_assoc]
              rfl
      · rintro σ2 H2 ⟨rfl, u2⟩
        obtain ⟨pa, rfl, ha⟩ := id wa
        obtain ⟨pb, rfl, hb⟩ := id wb
        have hT2 := seqT_same u2 hT
        refine ⟨_, rfl, x, dx, _, rfl, u2 _ _ ex, rfl, x, lo, hi, rfl, hx.same u2, z1, z2, _, rfl, _, _, rfl, Lk.flat rfl (truth_flat _ _), fun H3 t3 => ⟨_, rfl, iteF ?_⟩⟩
        have u3 := u2.trans t3
        refine ⟨_, rfl, x, dx, _, rfl, u3 _ _ ex, rfl, x, lo, hi, rfl, hx.same u3, _, rfl, t, _, 0, _, rfl, rfl, seqT_same u3 hT, atI_nat (j := 0) rfl, _, rfl, t, _, 1, _, rfl, rfl, seqT_same u3 hT, atI_nat (j := 1) rfl, _, _, .tup (seqT_same u3 ha) dp_two, .tup (seqT_same u3 hb) dp_two, shaped_two _ _, shaped_two _ _, ?_⟩
        rw [eqv_two, eq_dec]
        refine ⟨_, _, rfl, Lk.flat rfl True.intro, fun H4 t4 => ⟨_, rfl, iteF ?_⟩⟩
        have u4 := u3.trans t4
        refine ⟨_, rfl, x, dx, _, rfl, u4 _ _ ex, x, lo, hi, rfl, hx.same u4, y1, y2, fun H5 t5 => ⟨_, rfl, _, rfl, rfl, _, rfl, ?_⟩⟩
        have u5 := u4.trans t5
        rw [show (!decide (V.str (S (txS lo hi)) = V.str (S (txS lo hi)))) = false by rw [decide_eq_true rfl]; rfl]
        refine iteF ?_
        have w5a : IsR K H5 (.ref pa) lo := IsR.same u5 ⟨pa, rfl, ha⟩
        have w5b : IsR K H5 (.ref pb) hi := IsR.same u5 ⟨pb, rfl, hb⟩
        refine ⟨_, rfl, x, dx, _, rfl, u5 _ _ ex, rfl, x, lo, hi, rfl, hx.same u5, y1, y2, le, fun z H6 nz t6 hz => ?_⟩
        have u6 := u5.trans t6
        refine ⟨_, rfl, t, _, 0, _, rfl, rfl, seqT_same u6 hT, atI_nat (j := 0) rfl, _, lo, rfl, w5a.same t6, y1, fun r7 H7 i7 t7 => ?_⟩
        have u7 := u6.trans t7
        refine ⟨_, rfl, t, _, 1, _, rfl, rfl, seqT_same u7 hT, atI_nat (j := 1) rfl, _, hi, rfl, (w5b.same t6).same t7, y2, fun r8 H8 i8 t8 => ⟨(by show 2 ≤ sizeLine; decide), fun p9 n9 => ?_⟩⟩
        have t9 := same_upd (o := .tup [r7, r8]) n9
        have u9 := (u7.trans t8).trans t9
        refine ⟨_, rfl, t, _, 0, _, rfl, rfl, seqT_same u9 hT, atI_nat (j := 0) rfl, _, lo, rfl, (((w5a.same t6).same t7).same t8).same t9, y1, fun r10 H10 i10 t10 => ⟨(by show 1 ≤ sizeLine; decide), fun L nL => ?_⟩⟩
        have t11 := same_upd (o := .lst [r10]) nL
        have v910 := t9.trans (t10.trans t11)
        have u11 := (u9.trans t10).trans t11
        have f1 := sz_floor (n := 449) s1
        have f2 := sz_floor (n := 449) s2
        refine ⟨z, L, .ref p9, [r10], [(lo.floor : Rat)], (lo.floor : Rat), (hi.floor : Rat), rfl, hz.same (((t7.trans t8).trans t9).trans (t10.trans t11)), ⟨p9, r7, r8, rfl, seqT_same (t10.trans t11) (SqT.of upd_same), i7.same (t8.trans v910), i8.same v910⟩, SqL.of upd_same, ⟨i10.same t11, True.intro⟩, f1.mono (by decide), f2.mono (by decide), ?_, by show 1 ≤ 100; decide, fun H12 t12 => ⟨_, rfl, iteF ?_⟩⟩
        · intro q hq
          rw [List.mem_singleton] at hq
          subst hq
          exact ⟨Rat.le_refl, Rat.intCast_le_intCast.mpr (Rat.floor_monotone le), f1.mono (by decide)⟩
        have u12 := u11.trans t12
        have hx12 := hx.same u12
        have hT12 := seqT_same u12 hT
        have wa12 : IsR K H12 (.ref pa) lo := IsR.same u12 ⟨pa, rfl, ha⟩
        have wb12 : IsR K H12 (.ref pb) hi := IsR.same u12 ⟨pb, rfl, hb⟩
        have e12 := u12 _ _ ex
        refine ⟨_, rfl, _, rfl, x, dx, _, _, rfl, e12, ty_tup hT12, nf_of sub_tup, x, _, lo, hi, rfl, hx12, .inr ⟨_, ty_tup hT12, kit_bt T sub_tup, _, rfl, iteF ?_⟩⟩
        refine ⟨_, rfl, _, rfl, t, _, 0, _, rfl, rfl, hT12, atI_nat (j := 0) rfl, x, dx, _, _, rfl, e12, wa12.ty, nf_of sub_tup, x, _, lo, hi, rfl, hx12, .inr ⟨_, wa12.ty, kit_bt T sub_tup, _, rfl, iteF ?_⟩⟩
        refine ⟨_, rfl, x, dx, _, _, rfl, e12, .base .non, nf_of sub_non, x, _, lo, hi, rfl, hx12, .inr ⟨_, .base .non, kit_bt T sub_non, _, rfl, iteF ?_⟩⟩
        refine ⟨_, rfl, _, rfl, x, dx, _, _, rfl, e12, .base (.str _), nf_of sub_str, x, _, lo, hi, rfl, hx12, .inr ⟨_, .base (.str _), kit_bt T sub_str, _, rfl, iteF ?_⟩⟩
        refine ⟨_, rfl, _, rfl, t, _, 0, _, rfl, rfl, hT12, atI_nat (j := 0) rfl, _, rfl, t, _, 1, _, rfl, rfl, hT12, atI_nat (j := 1) rfl, new_spanA (C := C) wa12 wb12 z1 z2 le fun y H13 ny t13 hy => ?_⟩
        obtain ⟨dy, _, _, ey, _⟩ := id hy
        refine ⟨x, dx, _, _, rfl, t13 _ _ e12, T.ty ey, nf_self, x, _, lo, hi, rfl, hx12.same t13, .inl ⟨y, lo, hi, rfl, hy, ?_⟩⟩
        rw [decide_eq_true rfl, decide_eq_true rfl]
        have u13 := u12.trans t13
        refine ⟨_, rfl, iteT ⟨_, rfl, _, rfl, t, _, 0, _, rfl, rfl, seqT_same u13 hT, atI_nat (j := 0) rfl, _, rfl, t, _, 1, _, rfl, rfl, seqT_same u13 hT, atI_nat (j := 1) rfl, (by show 2 ≤ sizeLine; decide), fun p14 n14 => ?_⟩⟩
        have t14 := same_upd (o := .tup [.int 1, .int 7]) n14
        have s7 : Sz 3 (1 / 7 : Rat) := ⟨by decide +kernel, by decide +kernel⟩
        refine ⟨_, .ref p14, hi, (1 / 7 : Rat), rfl, (wb12.same t13).same t14, isr_sev (SqT.of upd_same), z2, s7.mono (by decide), fun r15 H15 i15 t15 => ?_⟩
        refine new_spanA (C := C) (((wa12.same t13).same t14).same t15) i15 z1 ((sz_add s2 s7).mono (by decide)) (by grind) fun y2' H16 ny2 t16 hy2 => ?_
        obtain ⟨dy2, _, _, ey2, _⟩ := id hy2
        have u16 := ((u13.trans t14).trans t15).trans t16
        refine ⟨x, dx, _, _, rfl, u16 _ _ ex, T.ty ey2, nf_self, x, _, lo, hi, rfl, hx.same u16, .inl ⟨y2', lo, hi + 1 / 7, rfl, hy2, ?_⟩⟩
        rw [show decide (hi = hi + 1 / 7) = false by rw [decide_eq_false_iff_not]; grind, Bool.and_false]
        exact ⟨_, rfl, q _ u16⟩
end
end My

set_option Elab.async false
set_option linter.all false
set_option maxRecDepth 100000
set_option maxHeartbeats 2000000
/-! loops, blocks and zip while an error is handled -/
namespace HotY
open PySem PySem.Spec PyProof.Rows HotX
open PySem.Sem (wp)
section
variable {prog : Program} {w : World} {A : Around} {E : Value → Shared → Prop} {s : Shared} {x1 : Addr}
/-- what is handled stands on where its place stands on -/
theorem hot_keep {h h' : Heap} (hot : HotAt A x1 h) (k : ∀ o, h.get? x1 = some o → h'.get? x1 = some o) : HotAt A x1 h' := by
  obtain ⟨hh, o, vs, e, d, c⟩ := hot
  exact ⟨hh, o, vs, k o e, d, c⟩
/-- StopIteration is made and raised -/
theorem stop_hot {α : Type} {Q : α → Shared → Prop} (hot : HotAt A x1 s.heap)
    (k : ∀ h' e, (∀ b o, s.heap.get? b = some o → h'.get? b = some o) → (∃ o, h'.get? e = some o ∧ o.cls = .type "StopIteration") → E (.ref e) { s with heap := h' }) :
    wpAny (model prog w) A (newExc (.type "StopIteration") [] >>= fun e => (raiseNew e : Sem α)) Q E s := by
  obtain ⟨hh, o1, vs1, h1, d1, c1⟩ := hot
  refine wpAny_bind ?_
  simp only [newExc, newTuple]
  refine wpAny_bind (wpAny_newObj_type ?_ (by size_fits))
  refine wpAny_bind (m := firstArgMember _ _) (wpAny_of_eq (a := Value.none) (by first | rfl | (simp only [firstArgMember]; rfl)) ?_)
  refine wpAny_newObj_type ?_ (by size_fits)
  refine raiseNew_hot ⟨hh, o1, vs1, Heap.get?_push_of_some _ (Heap.get?_push_of_some _ h1), d1, c1⟩ (Nat.ne_of_lt (Heap.lt_size (Heap.get?_push_of_some _ h1))) (Heap.get?_push_size _ rfl) rfl (by first | (simp; done) | (simp; omega) | (simp only [Array.size_append]; simp; omega)) ?_
  refine k _ _ (fun b o e => ?_) ⟨_, Heap.get?_update_self _ (Heap.get?_push_size _ rfl) rfl, rfl⟩
  rw [Heap.get?_update_other _ _ (Nat.ne_of_gt (Heap.lt_size (Heap.get?_push_of_some _ e)))]
  exact Heap.get?_push_of_some _ (Heap.get?_push_of_some _ e)
theorem hot_ne {a : Addr} {o : Obj} (hot : HotAt A x1 s.heap) (ha : s.heap.get? a = some o) (hn : ∀ vs : Array Value, o.data = .fields vs → vs[2]? ≠ some .none) : x1 ≠ a := fun e => by
  obtain ⟨hh, o1, vs, h1, d, c⟩ := hot
  rw [e, ha] at h1
  cases h1
  exact hn vs d c
theorem tup_end_hot {it t : Addr} {i : Nat} {items : Array Value} {Q : Option Value → Shared → Prop} (hot : HotAt A x1 s.heap) (hit : s.heap.IsTupleIter it t i) (ht : s.heap.IsTuple t items) (hx : items[i]? = none)
    (hQ : ∀ h', Heap.ExtBut it s.heap h' → Q none { s with heap := h' }) : wpAny (model prog w) A (pyNext (.ref it)) Q E s := by
  obtain ⟨o, ho, hc, hd⟩ := id hit
  obtain ⟨ol, hol, _, nl, hdl⟩ := ht
  have ne : x1 ≠ it := hot_ne hot ho fun vs e z => by rw [hd] at e; cases e; simp at z
  unfold pyNext
  refine wpAny_bind (wpAny_attempt (wpAny_callSpecial?_slot (name := Str.ofString "__next__") hit.typeIs F.slot_tuple_iterator_next
    (wpAny_call_entry F.slot_tuple_iterator_next hit.typeIs F.entry_tuple_iterator_next ?_ (F.args_tuple_iterator_next_1 _))))
  show wpAny _ _ (field (.ref it) 0 >>= _) _ _ s
  refine wpAny_bind (wpAny_field ho hd (x := .ref t) rfl ?_)
  show wpAny _ _ (if (Value.ref t == Value.none) = true then _ else _) _ _ s
  rw [if_neg (show ¬ ((Value.ref t == Value.none) = true) from Bool.false_ne_true)]
  show wpAny _ _ (field (.ref it) 1 >>= _) _ _ s
  refine wpAny_bind (wpAny_field ho hd (x := .int i 0) rfl ?_)
  show wpAny _ _ (seqItems? (.ref t) >>= _) _ _ s
  refine wpAny_bind (wpAny_seqItems hol hdl ?_)
  simp only [Int.toNat_natCast, hx]
  refine wpAny_bind (wpAny_rule (wpAny_bind (wpAny_setField ho hd (by simp) ?_)))
  refine stop_hot (x1 := x1) (hot_keep (A := A.in1) (h := s.heap) hot fun o1 e => ?_) fun h' e k ⟨oe, e1, e2⟩ => ?_
  · rw [Heap.get?_update_other _ _ ne.symm]
    exact e
  · refine wpAny_bind (wpAny_isInstance (T := "StopIteration") (b := true) ⟨oe, e1, e2⟩ isSubtype_stop ?_)
    refine wpAny_pure (hQ _ fun b o' hb eb => k b o' ?_)
    rw [Heap.get?_update_other _ _ hb.symm]
    exact eb
theorem lst_end_hot {it t : Addr} {i : Nat} {items : Array Value} {Q : Option Value → Shared → Prop} (hot : HotAt A x1 s.heap) (hit : s.heap.IsListIter it t i) (ht : s.heap.IsList t items) (hx : items[i]? = none)
    (hQ : ∀ h', Heap.ExtBut it s.heap h' → Q none { s with heap := h' }) : wpAny (model prog w) A (pyNext (.ref it)) Q E s := by
  obtain ⟨o, ho, hc, hd⟩ := id hit
  obtain ⟨ol, hol, _, nl, hdl⟩ := ht
  have ne : x1 ≠ it := hot_ne hot ho fun vs e z => by rw [hd] at e; cases e; simp at z
  unfold pyNext
  refine wpAny_bind (wpAny_attempt (wpAny_callSpecial?_slot (name := Str.ofString "__next__") hit.typeIs slot_listiter_next
    (wpAny_call_entry slot_listiter_next hit.typeIs entry_listiter_next ?_ (args_listiter_next _))))
  show wpAny _ _ (field (.ref it) 0 >>= _) _ _ s
  refine wpAny_bind (wpAny_field ho hd (x := .ref t) rfl ?_)
  show wpAny _ _ (if (Value.ref t == Value.none) = true then _ else _) _ _ s
  rw [if_neg (show ¬ ((Value.ref t == Value.none) = true) from Bool.false_ne_true)]
  show wpAny _ _ (field (.ref it) 1 >>= _) _ _ s
  refine wpAny_bind (wpAny_field ho hd (x := .int i 0) rfl ?_)
  show wpAny _ _ (seqItems? (.ref t) >>= _) _ _ s
  refine wpAny_bind (wpAny_seqItems hol hdl ?_)
  simp only [Int.toNat_natCast, hx]
  refine wpAny_bind (wpAny_rule (wpAny_bind (wpAny_setField ho hd (by simp) ?_)))
  refine stop_hot (x1 := x1) (hot_keep (A := A.in1) (h := s.heap) hot fun o1 e => ?_) fun h' e k ⟨oe, e1, e2⟩ => ?_
  · rw [Heap.get?_update_other _ _ ne.symm]
    exact e
  · refine wpAny_bind (wpAny_isInstance (T := "StopIteration") (b := true) ⟨oe, e1, e2⟩ isSubtype_stop ?_)
    refine wpAny_pure (hQ _ fun b o' hb eb => k b o' ?_)
    rw [Heap.get?_update_other _ _ hb.symm]
    exact eb
theorem tup_of_hot {it t : Addr} {i : Nat} {items : Array Value} {Q : Value → Shared → Prop} (hot : HotAt A x1 s.heap) (hit : s.heap.IsTupleIter it t i) (ht : s.heap.IsTuple t items) (hx : items[i]? = none)
    (hE : ∀ h' e, Heap.ExtBut it s.heap h' → (∃ o, h'.get? e = some o ∧ o.cls = .type "StopIteration") → E (.ref e) { s with heap := h' }) : wpAny (model prog w) A (Builtin.SmallTypes.nextOf (.ref it)) Q E s := by
  obtain ⟨o, ho, hc, hd⟩ := id hit
  obtain ⟨ol, hol, _, nl, hdl⟩ := ht
  have ne : x1 ≠ it := hot_ne hot ho fun vs e z => by rw [hd] at e; cases e; simp at z
  unfold Builtin.SmallTypes.nextOf
  refine wpAny_bind (wpAny_callSpecial?_slot (name := Str.ofString "__next__") hit.typeIs F.slot_tuple_iterator_next
    (wpAny_call_entry F.slot_tuple_iterator_next hit.typeIs F.entry_tuple_iterator_next ?_ (F.args_tuple_iterator_next_1 _)))
  show wpAny _ _ (field (.ref it) 0 >>= _) _ _ s
  refine wpAny_bind (wpAny_field ho hd (x := .ref t) rfl ?_)
  show wpAny _ _ (if (Value.ref t == Value.none) = true then _ else _) _ _ s
  rw [if_neg (show ¬ ((Value.ref t == Value.none) = true) from Bool.false_ne_true)]
  show wpAny _ _ (field (.ref it) 1 >>= _) _ _ s
  refine wpAny_bind (wpAny_field ho hd (x := .int i 0) rfl ?_)
  show wpAny _ _ (seqItems? (.ref t) >>= _) _ _ s
  refine wpAny_bind (wpAny_seqItems hol hdl ?_)
  simp only [Int.toNat_natCast, hx]
  refine wpAny_bind (wpAny_rule (wpAny_bind (wpAny_setField ho hd (by simp) ?_)))
  refine stop_hot (x1 := x1) (hot_keep (A := A.in1) (h := s.heap) hot fun o1 e => ?_) fun h' e k q => ?_
  · rw [Heap.get?_update_other _ _ ne.symm]
    exact e
  · refine hE h' e (fun b o' hb eb => k b o' ?_) q
    rw [Heap.get?_update_other _ _ hb.symm]
    exact eb
theorem lst_of_hot {it t : Addr} {i : Nat} {items : Array Value} {Q : Value → Shared → Prop} (hot : HotAt A x1 s.heap) (hit : s.heap.IsListIter it t i) (ht : s.heap.IsList t items) (hx : items[i]? = none)
    (hE : ∀ h' e, Heap.ExtBut it s.heap h' → (∃ o, h'.get? e = some o ∧ o.cls = .type "StopIteration") → E (.ref e) { s with heap := h' }) : wpAny (model prog w) A (Builtin.SmallTypes.nextOf (.ref it)) Q E s := by
  obtain ⟨o, ho, hc, hd⟩ := id hit
  obtain ⟨ol, hol, _, nl, hdl⟩ := ht
  have ne : x1 ≠ it := hot_ne hot ho fun vs e z => by rw [hd] at e; cases e; simp at z
  unfold Builtin.SmallTypes.nextOf
  refine wpAny_bind (wpAny_callSpecial?_slot (name := Str.ofString "__next__") hit.typeIs slot_listiter_next
    (wpAny_call_entry slot_listiter_next hit.typeIs entry_listiter_next ?_ (args_listiter_next _)))
  show wpAny _ _ (field (.ref it) 0 >>= _) _ _ s
  refine wpAny_bind (wpAny_field ho hd (x := .ref t) rfl ?_)
  show wpAny _ _ (if (Value.ref t == Value.none) = true then _ else _) _ _ s
  rw [if_neg (show ¬ ((Value.ref t == Value.none) = true) from Bool.false_ne_true)]
  show wpAny _ _ (field (.ref it) 1 >>= _) _ _ s
  refine wpAny_bind (wpAny_field ho hd (x := .int i 0) rfl ?_)
  show wpAny _ _ (seqItems? (.ref t) >>= _) _ _ s
  refine wpAny_bind (wpAny_seqItems hol hdl ?_)
  simp only [Int.toNat_natCast, hx]
  refine wpAny_bind (wpAny_rule (wpAny_bind (wpAny_setField ho hd (by simp) ?_)))
  refine stop_hot (x1 := x1) (hot_keep (A := A.in1) (h := s.heap) hot fun o1 e => ?_) fun h' e k q => ?_
  · rw [Heap.get?_update_other _ _ ne.symm]
    exact e
  · refine hE h' e (fun b o' hb eb => k b o' ?_) q
    rw [Heap.get?_update_other _ _ hb.symm]
    exact eb
/-- how the two iterators stand at the zip's end -/
def Stops (prog : Program) (w : World) (A : Around) (x1 : Addr) (s : Shared) (it : Addr) (L : List Addr) : Prop := ∀ (s' : Shared) (Q' : Value → Shared → Prop) (E' : Value → Shared → Prop), HotAt A x1 s'.heap → (∀ b ∈ L, ∀ o, s.heap.get? b = some o → s'.heap.get? b = some o) →
  (∀ h' e, Heap.ExtBut it s'.heap h' → (∃ o, h'.get? e = some o ∧ o.cls = .type "StopIteration") → E' (.ref e) { s' with heap := h' }) → wpAny (model prog w) A (Builtin.SmallTypes.nextOf (.ref it)) Q' E' s'
def Gives (prog : Program) (w : World) (A : Around) (s : Shared) (it : Addr) (L : List Addr) : Prop := ∃ x : Value, ∀ (s' : Shared) (Q' : Value → Shared → Prop) (E' : Value → Shared → Prop), (∀ b ∈ L, ∀ o, s.heap.get? b = some o → s'.heap.get? b = some o) →
  (∀ h', Heap.ExtBut it s'.heap h' → Q' x { s' with heap := h' }) → wpAny (model prog w) A (Builtin.SmallTypes.nextOf (.ref it)) Q' E' s'
theorem zip_end_hot {z TI TO i1 i2 l1 l2 : Addr} {a b : Value} {Q : Option Value → Shared → Prop} (hot : HotAt A x1 s.heap) (D : ZipApart z TI TO i1 i2 l1 l2)
    (hz : IsZip s.heap z TI TO .none) (hTI : IsPair s.heap TI (.ref i1) (.ref i2)) (hTO : IsPair s.heap TO a b) (n1 : x1 ≠ i1)
    (hend : Stops prog w A.in1 x1 s i1 [i1, l1] ∨ (Gives prog w A.in1 s i1 [i1, l1] ∧ Stops prog w A.in1 x1 s i2 [i2, l2]))
    (hQ : ∀ h', (∀ c o, c ≠ z → c ≠ TO → c ≠ i1 → c ≠ i2 → s.heap.get? c = some o → h'.get? c = some o) → Q none { s with heap := h' }) : wpAny (model prog w) A (pyNext (.ref z)) Q E s := by
  have hT : s.TypeIs (.ref z) "zip" := ⟨_, hz, rfl⟩
  have nz : x1 ≠ z := hot_ne hot hz fun vs e q => by cases e; cases q
  have nTO : x1 ≠ TO := hot_ne hot hTO fun vs e q => by cases e
  unfold pyNext
  refine wpAny_bind (wpAny_attempt (wpAny_callSpecial?_slot (name := Str.ofString "__next__") hT F.slot_zip_next
    (wpAny_call_entry F.slot_zip_next hT F.entry_zip_next ?_ (F.args_zip_next_1 _))))
  have fin : ∀ h' e, (∀ c o, c ≠ z → c ≠ TO → c ≠ i1 → c ≠ i2 → s.heap.get? c = some o → h'.get? c = some o) → (∃ o, h'.get? e = some o ∧ o.cls = .type "StopIteration") →
      wpAny (model prog w) A (do if ← isInstance (.ref e) (.type "StopIteration") then pure none else throw (.ref e)) Q E { s with heap := h' } := fun h' e k ⟨o, e1, e2⟩ =>
    wpAny_bind (wpAny_isInstance (T := "StopIteration") (b := true) ⟨o, e1, e2⟩ isSubtype_stop (wpAny_pure (hQ _ k)))
  show wpAny _ _ (field (.ref z) 2 >>= _) _ _ _
  refine wpAny_bind (wpAny_field hz rfl (x := .bool false) rfl ?_)
  show wpAny _ _ (field (.ref z) 3 >>= _) _ _ _
  refine wpAny_bind (wpAny_field hz rfl (x := .ref TI) rfl ?_)
  refine wpAny_bind (wpAny_seqItems hTI rfl ?_)
  show wpAny _ _ (Builtin.SmallTypes.ownedTupleIsFree (.ref z) >>= _) _ _ _
  refine wpAny_bind ?_
  unfold Builtin.SmallTypes.ownedTupleIsFree
  refine wpAny_bind (wpAny_field hz rfl (x := .none) rfl (wpAny_pure ?_))
  simp only [if_true]
  refine wpAny_bind (wpAny_rule ?_)
  refine wpAny_bind (wpAny_field hz rfl (x := .ref TO) rfl ?_)
  refine wpAny_bind (wpAny_setField_rec hz (by simp) fun ha za sa => ?_)
  replace za : IsZip ha z TI TO .ellipsis := za
  have ka : ∀ b o, b ≠ z → s.heap.get? b = some o → ha.get? b = some o := fun b o nb e => sa.extBut _ _ nb e
  have hota : HotAt A.in1 x1 ha := hot_keep (A := A.in1) (h := s.heap) hot fun o e => ka _ _ nz e
  refine wpAny_bind ?_
  simp only [List.zipIdx_cons, List.zipIdx_nil, List.forIn_cons, List.forIn_nil]
  refine wpAny_bind (wpAny_bind (wpAny_onRaise ?_))
  show wpAny _ _ (Builtin.SmallTypes.nextOf (.ref i1) >>= _) _ _ _
  rcases hend with hend | ⟨⟨x, hx⟩, hend⟩
  · refine wpAny_bind (hend { s with heap := ha } _ _ hota (fun b hb o e => ka b o ?_ e) fun hb e sb he => ?_)
    · rcases List.mem_cons.mp hb with rfl | hb
      · exact D.i1z
      · rw [List.mem_singleton.mp hb]; exact D.l1z
    obtain ⟨oe, hoe, hce⟩ := he
    have zb : IsZip hb z TI TO .ellipsis := sb _ _ D.i1z.symm za
    have hez : e ≠ z := fun q => by subst q; rw [zb] at hoe; cases hoe; simp at hce
    exact wpAny_setField_rec zb (by simp) fun hc _ sc => fin hc e (fun c o c1 _ c3 _ q => sc.extBut _ _ c1 (sb _ _ c3 (ka _ _ c1 q))) ⟨oe, sc.extBut _ _ hez hoe, hce⟩
  · refine wpAny_bind (hx { s with heap := ha } _ _ (fun b hb o e => ka b o ?_ e) fun hb sb => wpAny_pure ?_)
    · rcases List.mem_cons.mp hb with rfl | hb
      · exact D.i1z
      · rw [List.mem_singleton.mp hb]; exact D.l1z
    have pb : IsPair hb TO a b := sb _ _ D.TOi1 (ka _ _ D.TOz hTO)
    refine wpAny_bind (wpAny_seqItems pb rfl ?_)
    refine wpAny_bind (wpAny_updateSeq_pair pb fun hc pc sc => ?_)
    refine wpAny_bind (wpAny_letGo (wpAny_pure ?_))
    refine wpAny_bind (wpAny_bind (wpAny_onRaise ?_))
    show wpAny _ _ (Builtin.SmallTypes.nextOf (.ref i2) >>= _) _ _ _
    have kc : ∀ q o, q ≠ z → q ≠ i1 → q ≠ TO → s.heap.get? q = some o → hc.get? q = some o := fun q o n1 n2 n3 e => sc.extBut _ _ n3 (sb _ _ n2 (ka _ _ n1 e))
    refine wpAny_bind (hend { s with heap := hc } _ _ (hot_keep (A := A.in1) (h := s.heap) hot fun o e => kc _ _ nz n1 nTO e) (fun q hq o e => ?_) fun hd e sd he => ?_)
    · rcases List.mem_cons.mp hq with rfl | hq
      · exact kc _ _ D.i2z D.i12.symm D.TOi2.symm e
      · rw [List.mem_singleton.mp hq] at e ⊢
        exact kc _ _ D.l2z D.l2i1 D.l2TO e
    obtain ⟨oe, hoe, hce⟩ := he
    have zd : IsZip hd z TI TO .ellipsis := sd _ _ D.i2z.symm (sc.extBut _ _ D.TOz.symm (sb _ _ D.i1z.symm za))
    have hez : e ≠ z := fun q => by subst q; rw [zd] at hoe; cases hoe; simp at hce
    exact wpAny_setField_rec zd (by simp) fun hf _ sf => fin hf e (fun c o c1 c2 c3 c4 q => sf.extBut _ _ c1 (sd _ _ c4 (kc _ _ c1 c3 c2 q))) ⟨oe, sf.extBut _ _ hez hoe, hce⟩
end
end HotY

set_option Elab.async false
set_option linter.all false
set_option maxRecDepth 100000
set_option maxHeartbeats 2000000
/-! zip, unpacking, blocks and all() while an error is handled -/
namespace HotY
open PySem PySem.Spec PyProof.Rows L2 L2H HotX
theorem turn_zipTH {P : Program} {w : World} {K : PySem.W.Frag} {elts : List Expr} {kk : Nat} {tpos : Pos} {a b z TI TO i1 i2 : Addr} (D : ZipApart z TI TO i1 i2 a b) :
    TurnH P w K (.Tuple elts kk tpos) (RZ.ItzT K a b) [z, TI, TO, i1, i2] z (fun i h => IsZip h z TI TO .none ∧ IsPair h TI (.ref i1) (.ref i2) ∧ (∃ x y, IsPair h TO x y) ∧ h.IsTupleIter i1 a i ∧ h.IsTupleIter i2 b i) where
  mem := (RZ.turn_zipT (P := P) (w := w) (K := K) (elts := elts) (kk := kk) (tpos := tpos) D).mem
  obj := (RZ.turn_zipT (P := P) (w := w) (K := K) (elts := elts) (kk := kk) (tpos := tpos) D).obj
  keep := (RZ.turn_zipT (P := P) (w := w) (K := K) (elts := elts) (kk := kk) (tpos := tpos) D).keep
  self := (RZ.turn_zipT (P := P) (w := w) (K := K) (elts := elts) (kk := kk) (tpos := tpos) D).self
  item := by
    intro X hP hw hK _ i pins s σ H E I hf st hg
    subst hP hw hK
    obtain ⟨hz, hTI, ⟨x0, y0, hTO⟩, h1, h2⟩ := st
    obtain ⟨xs, ys, x, y, hqx, hqy, hx, hy⟩ := hg
    obtain ⟨its, rv, p, _⟩ := I.tuple hqx
    obtain ⟨its2, rv2, p2, _⟩ := I.tuple hqy
    obtain ⟨u, hu, ru⟩ := rv.get hx
    obtain ⟨v, hv, rv'⟩ := rv2.get hy
    have zl : z < s.heap.objs.size := Heap.lt_size hz
    have off : ∀ {c h' h''} {o : Obj}, c ∉ [z, TI, TO, i1, i2] → (∀ c o, c ≠ z → c ≠ TO → c ≠ i1 → c ≠ i2 → s.heap.get? c = some o → h'.get? c = some o) → Heap.SameBut z h' h'' → s.heap.get? c = some o → h''.get? c = some o := fun {c h' h'' o} nc k sb e => by
      simp only [List.mem_cons, List.not_mem_nil, or_false, not_or] at nc
      exact (sb.2 c nc.1).trans (k c o nc.1 nc.2.2.1 nc.2.2.2.1 nc.2.2.2.2 e)
    refine RZ.pyNext_zipT_item D hz hTI hTO h1 h2 p p2 (x := u) (y := v) (by simpa using hu) (by simpa using hv) fun h' zn TOn h1n h2n hT hsz hk => ?_
    refine ⟨_, rfl, wpAny_letOwnedTupleGo_zip (s := { s with heap := h' }) zn fun h'' zm sb => ?_⟩
    have hT2 : h''.get? s.heap.objs.size = some { cls := .type "tuple", data := .seq #[u, v] } := (sb.2 _ (Nat.ne_of_gt zl)).trans hT
    have new : ObjOk X.prog X.w (upd H s.heap.objs.size (.tup [x, y])) h'' s.heap.objs.size (.tup [x, y]) := ⟨by show 2 ≤ sizeLine; decide, [u, v], .cons ru (.cons rv' .nil), ⟨_, hT2, rfl, _, rfl⟩⟩
    have J : Inv X pins σ (upd H s.heap.objs.size (.tup [x, y])) { s with heap := h'' } := I.turnedNew (t' := s.toks) (ch := [z, TI, TO, i1, i2]) (fun c o nc e => off nc hk sb e) hf (Nat.le_refl _) new
    refine ⟨.ref s.heap.objs.size, _, J, rfl, ⟨_, x, y, rfl, I.hok.fresh (Nat.le_refl _), rfl, fun l hl => by rw [I.tuple_inj hl hqx]; exact hx, fun l hl => by rw [I.tuple_inj hl hqy]; exact hy⟩,
      ⟨zm, (sb.2 _ D.TIz).trans (hk _ _ D.TIz D.TITO D.TIi1 D.TIi2 hTI), ⟨u, v, (sb.2 _ D.TOz).trans TOn⟩, h1n.at fun o e => (sb.2 _ D.i1z).trans e, h2n.at fun o e => (sb.2 _ D.i2z).trans e⟩, fun c hcm => ?_⟩
    have hlt : c < s.heap.objs.size := by
      obtain ⟨_, e1, _⟩ := h1
      obtain ⟨_, e2, _⟩ := h2
      simp only [List.mem_cons, List.not_mem_nil, or_false] at hcm
      rcases hcm with q | q | q | q | q <;> rw [q] <;> exact Heap.lt_size (by assumption)
    rw [upd_ne (Nat.ne_of_lt hlt)]
    exact (hf c hcm).1
  done := by
    intro X hP hw hK hc i pins s σ H E I hf st hg
    subst hP hw hK
    obtain ⟨hz, hTI, ⟨x0, y0, hTO⟩, h1, h2⟩ := st
    obtain ⟨xs, ys, hqx, hqy, hend⟩ := hg
    obtain ⟨its, rv, p, _⟩ := I.tuple hqx
    obtain ⟨its2, rv2, p2, _⟩ := I.tuple hqy
    obtain ⟨x1, hot⟩ := hc.at I
    have n1 : x1 ≠ i1 := by
      obtain ⟨o, e, _, d⟩ := id h1
      exact hot_ne hot e fun vs q r => by rw [d] at q; cases q; simp at r
    have l1 := rv.length
    have l2 := rv2.length
    have stop1 : its.toArray[i]? = none → Stops X.prog X.w X.A.in1 x1 s i1 [i1, a] := fun e s' Q' E' hot' k hE => tup_of_hot hot' (h1.at fun o q => k _ (by simp) o q) (let ⟨o, e', r⟩ := p; ⟨o, k _ (by simp) _ e', r⟩) e hE
    have stop2 : its2.toArray[i]? = none → Stops X.prog X.w X.A.in1 x1 s i2 [i2, b] := fun e s' Q' E' hot' k hE => tup_of_hot hot' (h2.at fun o q => k _ (by simp) o q) (let ⟨o, e', r⟩ := p2; ⟨o, k _ (by simp) _ e', r⟩) e hE
    have ends : Stops X.prog X.w X.A.in1 x1 s i1 [i1, a] ∨ (Gives X.prog X.w X.A.in1 s i1 [i1, a] ∧ Stops X.prog X.w X.A.in1 x1 s i2 [i2, b]) := by
      cases e : its.toArray[i]? with
      | none => exact .inl (stop1 e)
      | some u =>
        have lt : i < its.toArray.size := (Array.getElem?_eq_some_iff.mp e).1
        refine .inr ⟨⟨u, fun s' Q' E' k q => RZ.nextOf_tuple_item (h1.at fun o z => k _ (by simp) o z) (let ⟨o, e', r⟩ := p; ⟨o, k _ (by simp) _ e', r⟩) e fun h' _ sb => q h' sb.extBut⟩, stop2 ?_⟩
        rcases hend with q | q
        · rw [List.size_toArray] at lt
          omega
        · simp
          omega
    exact zip_end_hot hot D hz hTI hTO n1 ends fun h' hk => ⟨rfl, I.turnedL (t' := s.toks) (ch := [z, TI, TO, i1, i2]) (fun c o nc e => by
      simp only [List.mem_cons, List.not_mem_nil, or_false, not_or] at nc
      exact hk c o nc.1 nc.2.2.1 nc.2.2.2.1 nc.2.2.2.2 e) hf⟩
theorem turn_zipLH {P : Program} {w : World} {K : PySem.W.Frag} {elts : List Expr} {kk : Nat} {tpos : Pos} {a b z TI TO i1 i2 : Addr} (D : ZipApart z TI TO i1 i2 a b) :
    TurnH P w K (.Tuple elts kk tpos) (Itz K a b) [z, TI, TO, i1, i2] z (fun i h => IsZip h z TI TO .none ∧ IsPair h TI (.ref i1) (.ref i2) ∧ (∃ x y, IsPair h TO x y) ∧ h.IsListIter i1 a i ∧ h.IsListIter i2 b i) where
  mem := (turn_zip (P := P) (w := w) (K := K) (elts := elts) (kk := kk) (tpos := tpos) D).mem
  obj := (turn_zip (P := P) (w := w) (K := K) (elts := elts) (kk := kk) (tpos := tpos) D).obj
  keep := (turn_zip (P := P) (w := w) (K := K) (elts := elts) (kk := kk) (tpos := tpos) D).keep
  self := (turn_zip (P := P) (w := w) (K := K) (elts := elts) (kk := kk) (tpos := tpos) D).self
  item := by
    intro X hP hw hK _ i pins s σ H E I hf st hg
    subst hP hw hK
    obtain ⟨hz, hTI, ⟨x0, y0, hTO⟩, h1, h2⟩ := st
    obtain ⟨xs, ys, x, y, hqx, hqy, hx, hy⟩ := hg
    obtain ⟨its, rv, p, _⟩ := I.list hqx
    obtain ⟨its2, rv2, p2, _⟩ := I.list hqy
    obtain ⟨u, hu, ru⟩ := rv.get hx
    obtain ⟨v, hv, rv'⟩ := rv2.get hy
    have zl : z < s.heap.objs.size := Heap.lt_size hz
    have off : ∀ {c h' h''} {o : Obj}, c ∉ [z, TI, TO, i1, i2] → (∀ c o, c ≠ z → c ≠ TO → c ≠ i1 → c ≠ i2 → s.heap.get? c = some o → h'.get? c = some o) → Heap.SameBut z h' h'' → s.heap.get? c = some o → h''.get? c = some o := fun {c h' h'' o} nc k sb e => by
      simp only [List.mem_cons, List.not_mem_nil, or_false, not_or] at nc
      exact (sb.2 c nc.1).trans (k c o nc.1 nc.2.2.1 nc.2.2.2.1 nc.2.2.2.2 e)
    refine wpAny_pyNext_zip_item D hz hTI hTO h1 h2 p.isList p2.isList (x := u) (y := v) (by simpa using hu) (by simpa using hv) fun h' zn TOn h1n h2n hT hsz hk => ?_
    refine ⟨_, rfl, wpAny_letOwnedTupleGo_zip (s := { s with heap := h' }) zn fun h'' zm sb => ?_⟩
    have hT2 : h''.get? s.heap.objs.size = some { cls := .type "tuple", data := .seq #[u, v] } := (sb.2 _ (Nat.ne_of_gt zl)).trans hT
    have new : ObjOk X.prog X.w (upd H s.heap.objs.size (.tup [x, y])) h'' s.heap.objs.size (.tup [x, y]) := ⟨by show 2 ≤ sizeLine; decide, [u, v], .cons ru (.cons rv' .nil), ⟨_, hT2, rfl, _, rfl⟩⟩
    have J : Inv X pins σ (upd H s.heap.objs.size (.tup [x, y])) { s with heap := h'' } := I.turnedNew (t' := s.toks) (ch := [z, TI, TO, i1, i2]) (fun c o nc e => off nc hk sb e) hf (Nat.le_refl _) new
    refine ⟨.ref s.heap.objs.size, _, J, rfl, ⟨_, x, y, rfl, I.hok.fresh (Nat.le_refl _), rfl, fun l hl => by rw [I.list_inj hl hqx]; exact hx, fun l hl => by rw [I.list_inj hl hqy]; exact hy⟩,
      ⟨zm, (sb.2 _ D.TIz).trans (hk _ _ D.TIz D.TITO D.TIi1 D.TIi2 hTI), ⟨u, v, (sb.2 _ D.TOz).trans TOn⟩, h1n.at fun o e => (sb.2 _ D.i1z).trans e, h2n.at fun o e => (sb.2 _ D.i2z).trans e⟩, fun c hcm => ?_⟩
    have hlt : c < s.heap.objs.size := by
      obtain ⟨_, e1, _⟩ := h1
      obtain ⟨_, e2, _⟩ := h2
      simp only [List.mem_cons, List.not_mem_nil, or_false] at hcm
      rcases hcm with q | q | q | q | q <;> rw [q] <;> exact Heap.lt_size (by assumption)
    rw [upd_ne (Nat.ne_of_lt hlt)]
    exact (hf c hcm).1
  done := by
    intro X hP hw hK hc i pins s σ H E I hf st hg
    subst hP hw hK
    obtain ⟨hz, hTI, ⟨x0, y0, hTO⟩, h1, h2⟩ := st
    obtain ⟨xs, ys, hqx, hqy, hend⟩ := hg
    obtain ⟨its, rv, p, _⟩ := I.list hqx
    obtain ⟨its2, rv2, p2, _⟩ := I.list hqy
    obtain ⟨x1, hot⟩ := hc.at I
    have n1 : x1 ≠ i1 := by
      obtain ⟨o, e, _, d⟩ := id h1
      exact hot_ne hot e fun vs q r => by rw [d] at q; cases q; simp at r
    have l1 := rv.length
    have l2 := rv2.length
    have stop1 : its.toArray[i]? = none → Stops X.prog X.w X.A.in1 x1 s i1 [i1, a] := fun e s' Q' E' hot' k hE => lst_of_hot hot' (h1.at fun o q => k _ (by simp) o q) ((p.isList : s.heap.IsList a its.toArray).at fun o q => k _ (by simp) o q) e hE
    have stop2 : its2.toArray[i]? = none → Stops X.prog X.w X.A.in1 x1 s i2 [i2, b] := fun e s' Q' E' hot' k hE => lst_of_hot hot' (h2.at fun o q => k _ (by simp) o q) ((p2.isList : s.heap.IsList b its2.toArray).at fun o q => k _ (by simp) o q) e hE
    have ends : Stops X.prog X.w X.A.in1 x1 s i1 [i1, a] ∨ (Gives X.prog X.w X.A.in1 s i1 [i1, a] ∧ Stops X.prog X.w X.A.in1 x1 s i2 [i2, b]) := by
      cases e : its.toArray[i]? with
      | none => exact .inl (stop1 e)
      | some u =>
        have lt : i < its.toArray.size := (Array.getElem?_eq_some_iff.mp e).1
        refine .inr ⟨⟨u, fun s' Q' E' k q => wpAny_nextOf_list_item (h1.at fun o z => k _ (by simp) o z) ((p.isList : s.heap.IsList a its.toArray).at fun o z => k _ (by simp) o z) e fun h' _ sb => q h' sb.extBut⟩, stop2 ?_⟩
        rcases hend with q | q
        · rw [List.size_toArray] at lt
          omega
        · simp
          omega
    exact zip_end_hot hot D hz hTI hTO n1 ends fun h' hk => ⟨rfl, I.turnedL (t' := s.toks) (ch := [z, TI, TO, i1, i2]) (fun c o nc e => by
      simp only [List.mem_cons, List.not_mem_nil, or_false, not_or] at nc
      exact hk c o nc.1 nc.2.2.1 nc.2.2.2.1 nc.2.2.2.2 e) hf⟩

end HotY

set_option Elab.async false
set_option linter.all false
set_option maxRecDepth 100000
set_option maxHeartbeats 4000000
/-! zip, unpacking and all() while an error is handled; the blocks of comprehensions there -/
namespace HotY
open PySem PySem.Spec PyProof.Rows L2 L2H HotX
section
variable {X : Cx}
theorem pi_zipH {e e2 : Expr} {ta : TA} {p pos tpos : Pos} {elts : List Expr} {kk : Nat} (hg : Gl X "zip") (hm : X.mg "zip" = none) (ha : PA X [e, e2] ta)
    (hs : starEach [e, e2] X.env = (false, eval e X.env) :: starEach [e2] X.env := by rfl) (hpl : (backTo pos (starEach [e2] X.env)).any (·.1) = false := by rfl) :
    PIH X (.Tuple elts kk tpos) (.Call (.Name "zip" p) [e, e2] [] pos) (RZ.iZipA X.K ta) := by
  refine ⟨fun pins s σ H R I h => ?_⟩
  refine Call_ (ld_blt I hg hm PyProof.Rows.boot_zip (PyProof.Rows.callWith_type1 (thn (ha.run pos pins s σ H _ I h) fun us s1 ⟨vs, H1, I1, r1, q1⟩ => ?_) hs hpl))
  obtain ⟨a, b, xs, ys, rfl, q1⟩ := q1
  obtain ⟨u, v, rfl, ru, rv'⟩ := vals2 r1
  cases ru
  cases rv'
  have fresh : ∀ c, c ∈ [s1.heap.objs.size + 4, s1.heap.objs.size + 2, s1.heap.objs.size + 3, s1.heap.objs.size, s1.heap.objs.size + 1] → FpOk X pins H1 c := fun c hc => by
    have le : s1.heap.objs.size ≤ c := by
      simp only [List.mem_cons, List.not_mem_nil, or_false] at hc
      omega
    exact I1.fpOk le (I1.hok.fresh le)
  rcases q1 with ⟨hx, hy, q⟩ | ⟨hx, hy, q⟩
  · obtain ⟨its, rv, p1, _⟩ := I1.list hx
    obtain ⟨its2, rv2, p2, _⟩ := I1.list hy
    refine call_zip_2 p1.isList p2.isList fun h' hz hTI hTO h1 h2 _ hk => wpAny_pyIter_zip hz ?_
    exact ⟨s1.heap.objs.size + 4, [s1.heap.objs.size + 4, s1.heap.objs.size + 2, s1.heap.objs.size + 3, s1.heap.objs.size, s1.heap.objs.size + 1], _, _, H1, rfl, I1.kept (t' := s1.toks) hk, turn_zipLH (PySem.W.ktu_apart s1.heap.objs.size a b p1.lt p2.lt), ⟨hz, hTI, ⟨_, _, hTO⟩, h1, h2⟩, fresh, q⟩
  · obtain ⟨its, rv, p1, _⟩ := I1.tuple hx
    obtain ⟨its2, rv2, p2, _⟩ := I1.tuple hy
    obtain ⟨o1, ho1, _⟩ := id p1
    obtain ⟨o2, ho2, _⟩ := id p2
    refine RZ.call_zipT (show s1.heap.IsTuple a its.toArray from p1) (show s1.heap.IsTuple b its2.toArray from p2) fun h' hz hTI hTO h1 h2 _ hk => wpAny_pyIter_zip hz ?_
    exact ⟨s1.heap.objs.size + 4, [s1.heap.objs.size + 4, s1.heap.objs.size + 2, s1.heap.objs.size + 3, s1.heap.objs.size, s1.heap.objs.size + 1], _, _, H1, rfl, I1.kept (t' := s1.toks) hk, turn_zipTH (PySem.W.ktu_apart s1.heap.objs.size a b (Heap.lt_size ho1) (Heap.lt_size ho2)), ⟨hz, hTI, ⟨_, _, hTO⟩, h1, h2⟩, fresh, q⟩
/-- a, b = a tuple -/
theorem pg_tupH {es : List Expr} {k : Nat} {t : TGs} {n : Nat} {pos : Pos} (hc : HotC X) (h : PGs X es t)
    (hn : (assignEach es X.env).length = n := by rfl) (hst : (assignEach es X.env).findIdx? (·.1) = none := by rfl) : PG X (.Tuple es k pos) (gTup X.K n t) := by
  refine ⟨fun pins s σ H v u Q I r hw => ?_⟩
  obtain ⟨a, xs, rfl, hq, hl, hw⟩ := hw
  cases r
  obtain ⟨its, rv, ht, hz⟩ := I.tuple hq
  obtain ⟨x1, hot⟩ := hc.at I
  have hsz : (assignEach es X.env).length = its.toArray.size := by simp [hn, ← hl, rv.length]
  have alt : a ≠ s.heap.objs.size := by obtain ⟨o, ho, _⟩ := ht; exact Nat.ne_of_lt (Heap.lt_size ho)
  rw [PyProof.Rows.assign_Tuple]
  refine wpAny_bind (wpAny_standAt ?_)
  unfold unpack
  rw [hsz, hst]
  refine wpAny_bind (wpAny_holding ?_)
  unfold unpackItems
  refine wpAny_bind ?_
  unfold notIterableAtAll
  refine wpAny_bind (wpAny_specialOf ht.typeIs slot_tuple_iter.lookup (wpAny_pure ?_))
  simp only [Bool.false_eq_true, if_false]
  refine wpAny_bind (wpAny_holding (iter_tuple ht ?_))
  refine wpAny_bind (wpAny_holding (draw_tuple alt its.toArray.size 0 _ _ ⟨_, Heap.get?_push_size _ rfl, rfl, rfl⟩ (ht.push _) (by omega) fun h1 hit1 hs1 => ?_))
  rw [show List.take its.toArray.size (List.drop 0 its.toArray.toList) = its.toArray.toList by rw [List.drop_zero]; exact List.take_of_length_le (by simp), if_neg (by simp)]
  have ht1 : IsTup h1 a its.toArray := (ht.push _).extBut hs1.extBut alt
  have hx1 : x1 ≠ s.heap.objs.size := by
    obtain ⟨_, o1, _, e1, _⟩ := hot
    exact Nat.ne_of_lt (Heap.lt_size e1)
  refine wpAny_bind (wpAny_holding (tup_end_hot (x1 := x1) (hot_keep hot fun o e => hs1.extBut _ _ hx1 (Heap.get?_push_of_some _ e)) hit1 ht1 (by simp) fun h2 he2 => ?_))
  simp only [Option.isSome_none, Bool.false_eq_true, if_false]
  refine wpAny_pure ?_
  have I1 : Inv X pins σ H { s with heap := h2 } := I.kept (t' := s.toks) fun b o e => he2 b o (Nat.ne_of_lt (Heap.lt_size e)) (hs1.extBut b o (Nat.ne_of_lt (Heap.lt_size e)) (Heap.get?_push_of_some _ e))
  exact h.run pins _ σ H xs _ Q I1 (by simpa using rv) hw
theorem walks_hot {prog : Program} {w : World} {A : Around} {x1 : Addr} (I ax : Addr) (hne : ax ≠ I) (hx : x1 ≠ I) (items : Array Value) :
    Walks prog w A I [I, ax, x1] [I] items.size (fun i v => items[i]? = some v) (fun i h => h.IsListIter I ax i ∧ h.IsList ax items ∧ HotAt A x1 h) where
  sub := fun b hb => by simp at hb; simp [hb]
  frame := fun _ _ _ st hk => ⟨st.1.at fun o e => hk I (by simp) o e, st.2.1.at fun o e => hk ax (by simp) o e, hot_keep st.2.2 fun o e => hk x1 (by simp) o e⟩
  item := fun i s Q E hi st hQ => by
    refine wpAny_pyNext_list_item st.1 st.2.1 (x := items[i]) (by simp [hi]) fun h' hit' hs' => ?_
    exact hQ _ h' s.toks (by simp [hi]) ⟨hit', st.2.1.extBut hs'.extBut hne, hot_keep st.2.2 fun o e => hs'.extBut _ _ hx e⟩ fun b o hb e => hs'.extBut b o (fun h => hb (by simp [h])) e
  done := fun s Q E st hQ => lst_end_hot st.2.2 st.1 st.2.1 (by simp) fun h' he' => hQ h' s.toks fun b o hb e => he' b o (fun h => hb (by simp [h])) e
  self := fun _ _ _ _ st hQ => wpAny_pyIter_listiter st.1 hQ
/-- all(a list of bools) -/
theorem cr_allH (hc : HotC X) : CallR X (.builtin "all") (rAll X.K) := by
  intro pins s σ H vs us Q I r h
  obtain ⟨a, bs, rfl, hs, q⟩ := h
  obtain ⟨its, rv, hl, _⟩ := I.list hs
  obtain ⟨x1, hot⟩ := hc.at I
  rw [Vals.ref1 r]
  have hb := rv.bls
  have hx1 : x1 ≠ s.heap.objs.size := by
    obtain ⟨_, o1, _, e1, _⟩ := hot
    exact Nat.ne_of_lt (Heap.lt_size e1)
  refine call_all_walk (iter_any hl.isList fun s₂ e2 st hne => ?_)
  subst e2
  refine ⟨_, _, _, _, _, _, _, rfl, walks_hot (A := X.A.in1) (x1 := x1) _ a hne hx1 its.toArray, ⟨st.1, st.2, hot_keep (A := X.A.in1) (h := s.heap) hot fun o e => Heap.get?_push_of_some _ e⟩, truth_bools hb, fun h' tk hk => ?_⟩
  refine ⟨.bl _, H, I.kept fun b o eo => hk b o (fun hm => absurd ((List.mem_singleton.mp hm) ▸ Heap.lt_size eo) (Nat.lt_irrefl _)) (Heap.get?_push_of_some _ eo), ?_, q⟩
  show Value.bool _ = Value.bool _
  rw [← L2.all_range, hb, List.size_toArray, List.length_map]
end
end HotY

set_option Elab.async false
set_option linter.all false
set_option maxRecDepth 100000
set_option maxHeartbeats 4000000
/-! a comprehension's block while an error is handled: the block bears the def's pins -/
namespace HotY
open PySem PySem.Spec PyProof.Rows L2 L2H HotX
/-- the block's context, the pins with it -/
abbrev blkH (X : Cx) (s : Shared) (H : Hp) (scope : Scope) (cenv : Env) (fp : List Addr) : Cx := { X.blk s H scope cenv fp with pn := X.pn }
theorem inv_pn {X : Cx} {pn pins : List (Addr × Obj)} {σ : L2.St} {H : Hp} {s : Shared} (I : Inv X pins σ H s) (hp : ∀ p ∈ pn ++ pins, s.heap.get? p.1 = some p.2 ∧ H p.1 = none ∧ p.1 ≠ X.env.locals ∧ p.1 ∉ X.fs ∧ ∀ v, p.2.data ≠ .cell v) : Inv { X with pn := pn } pins σ H s :=
  ⟨⟨I.ok.mod, I.ok.kind, I.ok.glob, I.ok.blt, I.ok.above, I.ok.inj, I.ok.has, I.ok.cab, I.ok.hd, I.ok.frames, I.ok.stk, I.ok.exf, I.ok.bs, I.ok.bsz, I.ok.noex, I.ok.exfs, I.ok.funs, I.ok.frf⟩, I.os, I.bare, I.base, I.loc, I.cell, I.free, I.freeC, hp, I.hok, I.len⟩
section
variable {X : Cx}
theorem lc_coreH {pins : List (Addr × Obj)} {s : Shared} {σ : L2.St} {H : Hp} {Q : VK} {elt tg iter : Expr} {ifs : List Expr} {scope : Scope} {own : List (Str × Nat)} {pos pos' : Pos} {wi : TI} {g : TG} {tt : TT} {te : TE} {use : Option (Value → Sem Unit)} {Qf : Value → Shared → Prop}
    (hc : HotC X) (hN : X.N.Nodup) (I : Inv X pins σ H s) (hi : PIH X tg iter wi) (ok : BlkOk X.N X.env.scope scope own)
    (hg : ∀ (s : Shared) (H : Hp) (C : Addr) (cl : List (Str × Addr)) (fp : List Addr), PG (blkH X s H scope (compEnvC scope cl C X.env) fp) tg g) (ht : ∀ (s : Shared) (H : Hp) (C : Addr) (cl : List (Str × Addr)) (fp : List Addr), PTs (blkH X s H scope (compEnvC scope cl C X.env) fp) ifs tt)
    (he : ∀ (s : Shared) (H : Hp) (C : Addr) (cl : List (Str × Addr)) (fp : List Addr), PE (blkH X s H scope (compEnvC scope cl C X.env) fp) elt te) (hs : ∀ x, foldedSetIterable iter X.env x = pure x)
    (h : tLc wi g tt te (own.map (·.2)) σ H Q)
    (hRR : ∀ D C s' m H', Inv X pins σ H' s' → Q (.ref D) H' → s'.heap.Ns C m → FpOk X pins H' C → compPost (model X.prog X.w) X.A X.xe use Qf (.ref D) C (.ok .next) s') :
    wpAny (model X.prog X.w) X.A (comprehension (.ListComp elt [⟨tg, iter, ifs, 0⟩] scope pos) scope X.env pos' (newList []) false (eval iter X.env) use) Qf X.xe s := by
  have hfree : ∀ y ∈ scope.names, y.2 = .free → ∃ c, X.env.cells.lookup y.1 = some c := fun y hy e => by
    rcases ok.free y hy e with k | k
    · exact I.ok.has _ (.inl k)
    · exact I.ok.has _ (.inr k)
  refine wpAny_comprehension_free (use := use) rfl hs (closure_ok hfree) ok.kind (fun y hy e => by rw [ok.uniq y hy, e])
    (thn (hi.run pins s σ H _ I h) fun xv s1 hx => thn hx fun itv s2 h2 => ?_)
  obtain ⟨it, fp, tn, J, H2, e, I2, T, st2, f2, q⟩ := h2
  subst e
  refine wpAny_newObj_type (newEnv_comp ?_) (by show 0 ≤ sizeLine; decide)
  generalize hD : s2.heap.objs.size = D
  have hDn : H2 D = none := I2.hok.fresh (Nat.le_of_eq hD)
  obtain ⟨W, ⟨m0, w0⟩, turn⟩ := q D hDn
  generalize hs3 : ({ s2 with heap := s2.heap.push { cls := .type "list", data := .seq ([] : List Value).toArray } } : Shared) = s3
  have I3 : Inv X pins σ (upd H2 D (.lst [])) s3 := by
    rw [← hs3]
    refine I2.laid (t' := s2.toks) (fun b o e => Heap.get?_push_of_some _ e) (Nat.le_of_eq hD) ⟨Nat.zero_le _, [], 0, .nil, ?_⟩
    rw [← hD]
    exact Heap.get?_push_size _ rfl
  have h3 : s3.heap = s2.heap.push { cls := .type "list", data := .seq ([] : List Value).toArray } := by rw [← hs3]
  have sz : ∀ b ∈ fp, b < s2.heap.objs.size := fun b hb => by
    obtain ⟨o, e, _⟩ := T.obj _ _ st2 b hb
    exact Heap.lt_size e
  have f3 : ∀ b ∈ fp, FpOk X pins (upd H2 D (.lst [])) b ∧ b < s3.heap.objs.size := fun b hb => by
    have hlt := sz b hb
    refine ⟨⟨?_, (f2 b hb).2⟩, by rw [h3, Heap.size_push]; exact Nat.lt_succ_of_lt hlt⟩
    rw [upd_ne (by rw [← hD]; exact Nat.ne_of_lt hlt)]
    exact (f2 b hb).1
  have st3 : tn 0 s3.heap := T.keep _ _ _ st2 fun b _ o e => by rw [h3]; exact Heap.get?_push_of_some _ e
  have Ib := block_start I3 ok hN f3
  have pg := hg s3 (upd H2 D (.lst [])) s3.heap.objs.size (cellsFrom (s3.heap.objs.size + 1) scope.names (cloFrom X.env.cells scope.names [])) fp
  have pt := ht s3 (upd H2 D (.lst [])) s3.heap.objs.size (cellsFrom (s3.heap.objs.size + 1) scope.names (cloFrom X.env.cells scope.names [])) fp
  have pe := he s3 (upd H2 D (.lst [])) s3.heap.objs.size (cellsFrom (s3.heap.objs.size + 1) scope.names (cloFrom X.env.cells scope.names [])) fp
  show codeAny _ _ (.compStart (.ListComp elt [⟨tg, iter, ifs, 0⟩] scope pos) 0 (.ref it) (.ref D) (compEnvC scope (cellsFrom (s3.heap.objs.size + 1) scope.names (cloFrom X.env.cells scope.names [])) s3.heap.objs.size X.env)) (compPost (model X.prog X.w) X.A X.xe use Qf (.ref D) s3.heap.objs.size) { s3 with heap := pushCells (s3.heap.push { cls := .type "dict", data := .dict #[] }) scope.names }
  have nfp : ∀ b ∈ fp, (upd H2 D (.lst [])) b = none := fun b hb => (f3 b hb).1.1
  generalize hce : compEnvC scope (cellsFrom (s3.heap.objs.size + 1) scope.names (cloFrom X.env.cells scope.names [])) s3.heap.objs.size X.env = ce at Ib pg pt pe ⊢
  have cL : ce.locals = s3.heap.objs.size := by subst hce; rfl
  generalize hH3 : upd H2 D (.lst []) = H3 at I3 Ib pg pt pe w0 nfp f3
  generalize hs4 : ({ s3 with heap := pushCells (s3.heap.push { cls := .type "dict", data := .dict #[] }) scope.names } : Shared) = s4 at Ib ⊢
  have up : ∀ {b : Addr} {o : Obj}, s3.heap.get? b = some o → s4.heap.get? b = some o := fun {b o} e => by rw [← hs4]; exact pushCells_keeps _ _ _ _ (Heap.get?_push_of_some _ e)
  have I4 : Inv (blkH X s3 H3 scope ce fp) [] (wipe σ (own.map (·.2))) H3 s4 := inv_pn (X := X.blk s3 H3 scope ce fp) Ib fun p hp => by
    rw [List.append_nil] at hp
    obtain ⟨a1, a2, a3, a4, a5⟩ := I3.pin p (List.mem_append_left _ hp)
    refine ⟨up a1, a2, ?_, fun hm => (List.mem_cons.mp (I3.stkSub p.1 hm)).elim a3 a4, a5⟩
    show p.1 ≠ ce.locals
    rw [cL]
    exact Nat.ne_of_lt (Heap.lt_size a1)
  have st4 : tn 0 s4.heap := T.keep _ _ _ st3 fun b _ o e => up e
  have hcB : HotC (blkH X s3 H3 scope ce fp) := hc
  have stat : ∀ {σ' : L2.St} {H' : Hp} {s' : Shared}, Inv (blkH X s3 H3 scope ce fp) [] σ' H' s' → (∀ b ∈ fp, H' b = none) → ∀ b ∈ fp, FpOk (blkH X s3 H3 scope ce fp) [] H' b := fun {σ' H' s'} I' hn b hb =>
    ⟨hn b hb, (I'.ok.exf b hb).1, I'.ok.exfs b hb, .inl hb, fun x c e => (I'.ok.exf b hb).2 x c e, fun p hp => (f3 b hb).1.2.2.2.2.2 p (List.mem_append_left _ (by rw [List.append_nil] at hp; exact hp))⟩
  have loop : codeAny (model X.prog X.w) X.A (.compLoop (.ListComp elt [⟨tg, iter, ifs, 0⟩] scope pos) 0 (.ref it) (.ref D) ce) (compPost (model X.prog X.w) X.A X.xe use Qf (.ref D) s3.heap.objs.size) s4 := by
    refine compLoop_any (fun n s' => ∃ i H', Inv (blkH X s3 H3 scope ce fp) [] (wipe σ (own.map (·.2))) H' s' ∧ tn i s'.heap ∧ (∀ b ∈ fp, H' b = none) ∧ W i n H') ?_ m0 ⟨0, H3, I4, st4, nfp, w0⟩
    rintro n s5 ⟨i, H5, I5, st5, n5, w5⟩
    rcases turn i n H5 w5 with ⟨stop, qq⟩ | ⟨go, Nx, hNx, step⟩
    · refine thnF (T.done (blkH X s3 H3 scope ce fp) rfl rfl rfl hcB i [] s5 _ H5 (fun _ _ => False) I5 (stat I5 n5) st5 stop) fun r s6 ⟨hr, I6⟩ => ?_
      subst hr
      have I7 : Inv X pins σ H5 s6 := I3.call' (ch := fp) I6.os I6.base I6.hok I6.bare fun b hb => ⟨(f3 b hb).1.2.2.2.1, (f3 b hb).1.2.1, (f3 b hb).1.2.2.2.2.1, (f3 b hb).1.2.2.2.2.2⟩
      have nC : H5 s3.heap.objs.size = none := by
        have z : H5 ce.locals = none := I6.free
        rw [cL] at z
        exact z
      obtain ⟨m, hn, _⟩ := I6.loc
      have hn : s6.heap.Ns ce.locals m := hn
      rw [cL] at hn
      exact hRR D s3.heap.objs.size s6 m H5 I7 qq hn (I3.fpOk (Nat.le_refl _) nC)
    · refine thnF (T.item (blkH X s3 H3 scope ce fp) rfl rfl rfl hcB i [] s5 _ H5 (fun _ _ => False) I5 (stat I5 n5) st5 go) fun r s6 ⟨u, hr, h6⟩ => ?_
      subst hr
      refine thnF h6 fun _ s7 ⟨x, H7, I7, r7, y7, st7, n7⟩ => ?_
      have I7' := I7.pinned (stat I7 n7) (T.obj _ _ st7)
      refine thnF (pg.run _ s7 _ H7 x u _ I7' r7 (step x H7 y7)) fun _ s8 ⟨σ8, H8, I8, hw8, q8⟩ => ?_
      refine thnF (pt.run _ s8 σ8 H8 _ I8 q8) fun b s9 ⟨H9, I9, q9⟩ => ?_
      have fin : ∀ {s' : Shared} {H' : Hp}, Inv (blkH X s3 H3 scope ce fp) ([] ++ pinsAt fp s7.heap) σ8 H' s' → Nx H' → ∃ m, m < n ∧ ∃ i H', Inv (blkH X s3 H3 scope ce fp) [] (wipe σ (own.map (·.2))) H' s' ∧ tn i s'.heap ∧ (∀ b ∈ fp, H' b = none) ∧ W i m H' := fun {s' H'} I' nx => by
        obtain ⟨m', hm, w'⟩ := hNx H' nx
        have pin' : ∀ b ∈ fp, ∀ o, s7.heap.get? b = some o → s'.heap.get? b = some o ∧ H' b = none := fun b hb o e =>
          let z := I'.pin (b, o) (List.mem_append_right _ (List.mem_append_right _ (mem_pinsAt hb e)))
          ⟨z.1, z.2.1⟩
        have hl : (wipe σ (own.map (·.2))).length = σ8.length := by rw [← hw8, wipe_length]
        refine ⟨m', hm, i + 1, H', (I'.unpinned (pins := [])).weak hl (fun j v e => ?_), T.keep _ _ _ st7 fun b hb o e => (pin' b hb o e).1, fun b hb => ?_, w'⟩
        · rw [← hw8] at e
          exact (wipe_some e).1
        · obtain ⟨o, e, _⟩ := T.obj _ _ st7 b hb
          exact (pin' b hb o e).2
      cases b with
      | false =>
        simp only [Bool.false_eq_true, if_false] at q9 ⊢
        exact fin I9 q9
      | true =>
        simp only [if_true] at q9 ⊢
        refine thnF (pe.run _ s9 σ8 H9 _ I9 q9) fun z s10 ⟨yv, H10, I10, r10, acc, hD10, hz10, nx⟩ => ?_
        exact app_ok (X := blkH X s3 H3 scope ce fp) I10 hD10 hz10 r10 fun s11 I11 => fin I11 nx
  exact codeAny_compStart_list loop (T.self X.A 0 _ _ _ st4 loop)
/-- a comprehension as a value -/
theorem pe_lcH {elt tg iter : Expr} {ifs : List Expr} {scope : Scope} {own : List (Str × Nat)} {pos : Pos} {wi : TI} {g : TG} {tt : TT} {te : TE} (hc : HotC X) (hN : X.N.Nodup) (hi : PIH X tg iter wi) (ok : BlkOk X.N X.env.scope scope own)
    (hg : ∀ (s : Shared) (H : Hp) (C : Addr) (cl : List (Str × Addr)) (fp : List Addr), PG (blkH X s H scope (compEnvC scope cl C X.env) fp) tg g) (ht : ∀ (s : Shared) (H : Hp) (C : Addr) (cl : List (Str × Addr)) (fp : List Addr), PTs (blkH X s H scope (compEnvC scope cl C X.env) fp) ifs tt)
    (he : ∀ (s : Shared) (H : Hp) (C : Addr) (cl : List (Str × Addr)) (fp : List Addr), PE (blkH X s H scope (compEnvC scope cl C X.env) fp) elt te) (hs : ∀ x, foldedSetIterable iter X.env x = pure x := by intro _; rfl) :
    PE X (.ListComp elt [⟨tg, iter, ifs, 0⟩] scope pos) (tLc wi g tt te (own.map (·.2))) := by
  refine ⟨fun pins s σ H Q I h => ?_⟩
  rw [eval_ListComp]
  refine lc_coreH hc hN I hi ok hg ht he hs h fun D C s' m H' I' q hn f => ⟨m, hn, fun h'' sb => ?_⟩
  obtain ⟨f0, f1, f2, f3, f4, f5⟩ := f
  exact ⟨.ref D, H', I'.turned (t' := s'.toks) (fun b o hb e => (sb.2 b hb).trans e) f0 f1 f3 f4 f5, rfl, q⟩
end
end HotY

set_option Elab.async false
set_option linter.all false
set_option maxRecDepth 100000
namespace My
open PySem PySem.Spec PyProof.Rows L2 L2H
/-! _law_like while an error is handled -/
section
variable {P : Program} {w : World} {K : PySem.W.Frag} {mg : Str → Option Value} {base : Heap}
theorem passAt0 {X : Cx} : ∀ σ, PassesAt CX0 X σ ((fun _ => E0) σ) := fun _ _ _ _ _ _ _ h => h.elim
theorem hotC {X : Cx} {p : Addr × Obj} (h : Hot1 X.A p) (m : p ∈ X.pn) : HotC X := ⟨p, h, m⟩
theorem okH {CX : CXT} {x qual : Str} {st : Stmt} {f : Addr} {fd : FuncData} {N ps : List Str} {k : Nat} {sp : Sp} (F : Fun K x qual st f fd) (S : FnScope N ps (defScope st)) (len : ∀ vs H Q E, sp vs H Q E → vs.length = ps.length)
    (hbody : ∀ (cdv : Value) (A : Around) (outer : List Env) (s : Shared) (H : Hp) (vs : List V) (Q : VK) (E : XK) (p : Addr × Obj), Hot1 A p → RoomH k (A.deeper (envOfC qual (defScope st) s.heap.objs.size f cdv)) → sp vs H Q E →
      ∃ t, PSs (cxH CX P w K mg base N qual (defScope st) f cdv A outer s H E p) (defBody st) t ∧ t { nx := fun _ H' => Q .non H', rt := Q } (start N vs) H) : FnH P w K mg base CX (k + 1) f fd ps sp := by
  obtain ⟨oc, od, kV, doc, pm, an, cdv, ct, osl, rfl, lk, hcd⟩ := F.ex
  exact fn_ofH lk hcd S len fun A outer s H vs Q E p hot hr hsp => hbody cdv A outer s H vs Q E p hot hr hsp
theorem impH {CX : CXT} {k : Nat} {f : Addr} {fd : FuncData} {ps : List Str} {sp sp' : Sp} (F : FnH P w K mg base CX k f fd ps sp) (h : ∀ vs H Q E, sp' vs H Q E → sp vs H Q E) : FnH P w K mg base CX k f fd ps sp' :=
  ⟨fun vs H Q E q => F.len vs H Q E (h _ _ _ _ q), fun A outer s H args us vs Q E p hr hot hp he hb hv hs => F.run A outer s H args us vs Q E p hr hot hp he hb hv (h _ _ _ _ hs)⟩
theorem neverH {CX : CXT} {k : Nat} {f : Addr} {fd : FuncData} {ps : List Str} : FnH P w K mg base CX k f fd ps (fun _ _ _ _ => False) := ⟨fun _ _ _ _ h => h.elim, fun _ _ _ _ _ _ _ _ _ _ _ _ _ _ _ _ h => h.elim⟩
theorem like_stepH {f : Addr} {fd : FuncData} {k : Nat} {R : Sp} {M : Hp → V → V → Prop} (F : Fun K "_law_like" "_law_like" sLawLike f fd) (g : mg "_law_like" = some (.ref f)) (b : Binds K fd ["found", "due"] [])
    (b_isinstance : mg "isinstance" = none) (b_list : mg "list" = none) (b_tuple : mg "tuple" = none) (b_bool : mg "bool" = none) (b_str : mg "str" = none) (b_int : mg "int" = none) (b_len : mg "len" = none) (b_all : mg "all" = none) (b_zip : mg "zip" = none)
    (G : L2H.FnH P w K mg base CX0 k f fd ["found", "due"] R) (hM : ∀ v w H Q E, M H v w → (∀ H', Same H H' → Q (.bl true) H') → R [v, w] H Q E) (hS : ∀ H H' v w, Same H H' → M H v w → M H' v w) : L2H.FnH P w K mg base CX0 (k + 1) f fd ["found", "due"] (spLikeM K M) := by
  refine okH F scLawLike (fun vs H Q E h => ?_) (fun cdv A outer s H vs Q E pp hot hr h => ?_)
  · obtain ⟨v, w', rfl, _⟩ := h
    rfl
  · obtain ⟨v, w', rfl, L, q⟩ := h
    refine ⟨_, (pss_cons (ps_if (PW.pt (pw_or (pt_cmpR op_isN (pv 1) pe_non (nomark _)) (pw_or1 (pt_cmpR op_isN (pv 0) pe_non (nomark _))))) (pss_one (ps_ret (pe_and (pe_cmpR op_isN (pv 1) pe_non (nomark _)) (pe_one (pe_cmpR op_isN (pv 0) pe_non (nomark _)))))) pss_nil)
      (pss_cons (ps_if (pt_val (pe_callB call_isiT rfl b_isinstance (by decide +kernel) (pa_cons (pv 1) (pa_cons (pe_tup (pa_cons (pe_ty "list" rfl b_list (by decide +kernel)) (pa_cons (pe_ty "tuple" rfl b_tuple (by decide +kernel)) pa_nil))) pa_nil)))) (pss_cons (ps_if (PW.pt (pw_or (pt_cmpR op_ne (pe_callB call_isi rfl b_isinstance (by decide +kernel) (pa_cons (pv 0) (pa_cons (pe_ty "list" rfl b_list (by decide +kernel)) pa_nil))) (pe_callB call_isi rfl b_isinstance (by decide +kernel) (pa_cons (pv 1) (pa_cons (pe_ty "list" rfl b_list (by decide +kernel)) pa_nil))) (nomark _)) (pw_or1 (pt_cmpR op_ne (pe_callB call_isi rfl b_isinstance (by decide +kernel) (pa_cons (pv 0) (pa_cons (pe_ty "tuple" rfl b_tuple (by decide +kernel)) pa_nil))) (pe_callB call_isi rfl b_isinstance (by decide +kernel) (pa_cons (pv 1) (pa_cons (pe_ty "tuple" rfl b_tuple (by decide +kernel)) pa_nil))) (nomark _))))) (pss_one (ps_ret pe_bl)) pss_nil)
        (pss_one (ps_ret (pe_and (pe_cmpR op_eq (pe_callB call_len rfl b_len (by decide +kernel) (pa_cons (pv 0) pa_nil)) (pe_callB call_len rfl b_len (by decide +kernel) (pa_cons (pv 1) pa_nil)) (nomark _)) (pe_one (pe_callB (HotY.cr_allH (hotC (p := pp) hot (List.mem_singleton.mpr rfl))) rfl b_all (by decide +kernel) (pa_cons (HotY.pe_lcH (own := [("a", 2), ("b", 3)]) (g := gTup K 2 (gCons (gName 2) (gCons (gName 3) gNil))) (tt := tYes) (hotC (p := pp) hot (List.mem_singleton.mpr rfl)) scLawLike.nd (HotY.pi_zipH rfl b_zip (pa_cons (pv 0) (pa_cons (pv 1) pa_nil))) (blkOk_by (own := [("a", 2), ("b", 3)]) (N := ["found", "due", "a", "b"]) (sc := defScope sLawLike) (by decide +kernel)) (fun _ _ _ _ _ => (HotY.pg_tupH (hotC (p := pp) hot (List.mem_singleton.mpr rfl)) (pgs_cons (pg_name (i := 2) scLawLike.nd rfl (.inl rfl) (.inr rfl)) (pgs_cons (pg_name (i := 3) scLawLike.nd rfl (.inl rfl) (.inr rfl)) pgs_nil)))) (fun _ _ _ _ _ => pts_nil) (fun _ _ _ _ _ => (L2H.pe_callH (E := fun _ => E0) G hr (hotC (p := pp) hot (List.mem_singleton.mpr rfl)) rfl g F.kp b passAt0 (pa_cons (pv 2) (pa_cons (pv 3) pa_nil))))) pa_nil))))))) pss_nil)
      (pss_cons (ps_if (PW.pt (pw_or (pt_cmpR op_ne (pe_callB call_isi rfl b_isinstance (by decide +kernel) (pa_cons (pv 1) (pa_cons (pe_ty "bool" rfl b_bool (by decide +kernel)) pa_nil))) (pe_callB call_isi rfl b_isinstance (by decide +kernel) (pa_cons (pv 0) (pa_cons (pe_ty "bool" rfl b_bool (by decide +kernel)) pa_nil))) (nomark _)) (pw_or1 (pt_cmpR op_ne (pe_callB call_isi rfl b_isinstance (by decide +kernel) (pa_cons (pv 1) (pa_cons (pe_ty "int" rfl b_int (by decide +kernel)) pa_nil))) (pe_callB call_isi rfl b_isinstance (by decide +kernel) (pa_cons (pv 0) (pa_cons (pe_ty "int" rfl b_int (by decide +kernel)) pa_nil))) (nomark _))))) (pss_one (ps_ret pe_bl)) pss_nil)
      (pss_one (ps_ret (pe_and (pe_cmpR op_eq (pe_callB call_isi rfl b_isinstance (by decide +kernel) (pa_cons (pv 0) (pa_cons (pe_ty "str" rfl b_str (by decide +kernel)) pa_nil))) (pe_callB call_isi rfl b_isinstance (by decide +kernel) (pa_cons (pv 1) (pa_cons (pe_ty "str" rfl b_str (by decide +kernel)) pa_nil))) (nomark _)) (pe_one (pe_cmpR op_eq (pv 0) (pv 1) (nomark _))))))))), ?_⟩
    rcases L with ⟨rfl, fl⟩ | ⟨a, c, xs, ys, rfl, rfl, hs, hl, hb, hi⟩
    · have hf : flat0 v := fl
      refine ⟨v, rfl, rfl, _, rfl, ite2 (fun e => iteT ?_) (fun e => ⟨v, rfl, rfl, _, rfl, ite2 (fun e' => absurd e' e) (fun _ => ?_)⟩)⟩
      · refine ⟨v, rfl, rfl, _, rfl, ?_⟩
        rw [e]
        refine iteT ⟨v, rfl, rfl, ?_⟩
        rw [e]
        exact q _ (Same.refl H)
      · refine ⟨_, rfl, (by show 2 ≤ sizeLine; decide), fun p np => ⟨_, p, _, _, _, _, rfl, upd_same, cls2, ty_flat hf, kit_flat hf, _, rfl, iteF ?_⟩⟩
        have s1 := same_upd (o := .tup [.ty "list", .ty "tuple"]) np
        obtain ⟨k1, e1⟩ := k1_flat (K := K) hf "bool" (.inl rfl)
        obtain ⟨k2, e2⟩ := k1_flat (K := K) hf "str" (.inr (.inl rfl))
        obtain ⟨k3, e3⟩ := k1_flat (K := K) hf "int" (.inr (.inr rfl))
        refine ⟨_, rfl, _, _, _, _, _, rfl, .ty _, ty_flat hf, e1, _, rfl, _, _, _, _, _, rfl, .ty _, ty_flat hf, e1, rfl, _, rfl, ?_⟩
        rw [decide_eq_true rfl]
        refine iteF ⟨_, rfl, _, _, _, _, _, rfl, .ty _, ty_flat hf, e3, _, rfl, _, _, _, _, _, rfl, .ty _, ty_flat hf, e3, rfl, _, rfl, ?_⟩
        rw [decide_eq_true rfl]
        refine iteF ⟨_, rfl, _, _, _, _, _, rfl, .ty _, ty_flat hf, e2, _, rfl, _, _, _, _, _, rfl, .ty _, ty_flat hf, e2, rfl, _, rfl, ?_⟩
        rw [decide_eq_true rfl]
        refine iteT ⟨_, rfl, _, rfl, ?_, ?_⟩
        · cases v <;> first | rfl | exact hf.elim
        · rw [decide_eq_true rfl]
          exact q _ s1
    · -- lists or tuples
      have hr1 : ∀ (i : Nat) x y, xs[i]? = some x → ys[i]? = some y → M H x y := hi
      obtain ⟨T, kt, k1, k2, tya, tyc, hlen, hlen'⟩ : ∃ T, PySem.W.kitAny K (.type T) [.type "list", .type "tuple"] = some true ∧ (∃ k1, PySem.W.kitOne K (.type T) (.type "list") = some k1) ∧ (∃ k2, PySem.W.kitOne K (.type T) (.type "tuple") = some k2) ∧ (∀ H', Same H H' → TyX K H' (.ref a) (.type T)) ∧ (∀ H', Same H H' → TyX K H' (.ref c) (.type T)) ∧ (∀ H', Same H H' → LenV K (.ref a) H' xs.length) ∧ (∀ H', Same H H' → LenV K (.ref c) H' ys.length) := by
        rcases hs with ⟨p, q⟩ | ⟨p, q⟩
        · exact ⟨"list", kit_ll, ⟨_, k1_ll⟩, ⟨_, k1_lt⟩, fun _ s => ty_list (s.seq p), fun _ s => ty_list (s.seq q), fun _ s => .inl ⟨_, s.seq p, rfl⟩, fun _ s => .inl ⟨_, s.seq q, rfl⟩⟩
        · exact ⟨"tuple", kit_tl, ⟨_, k1_tl⟩, ⟨_, k1_tt⟩, fun _ s => ty_tup (seqT_same s p), fun _ s => ty_tup (seqT_same s q), fun _ s => .inr ⟨_, seqT_same s p, rfl⟩, fun _ s => .inr ⟨_, seqT_same s q, rfl⟩⟩
      obtain ⟨k1, e1⟩ := k1
      obtain ⟨k2, e2⟩ := k2
      refine ⟨_, rfl, rfl, _, rfl, ite2 (fun e => absurd (of_decide_eq_true e) (fun z => by cases z)) (fun _ => ⟨_, rfl, rfl, _, rfl, ite2 (fun e => absurd (of_decide_eq_true e) (fun z => by cases z)) (fun _ => ?_)⟩)⟩
      refine ⟨_, rfl, (by show 2 ≤ sizeLine; decide), fun p0 np => ⟨_, p0, _, _, _, _, rfl, upd_same, cls2, tyc _ (same_upd np), kt, _, rfl, iteT ?_⟩⟩
      have s1 : Same H (upd H p0 (.tup [.ty "list", .ty "tuple"])) := same_upd np
      refine ⟨_, rfl, _, _, _, _, _, rfl, .ty _, tya _ s1, e1, _, rfl, _, _, _, _, _, rfl, .ty _, tyc _ s1, e1, rfl, _, rfl, ?_⟩
      rw [decide_eq_true rfl]
      refine iteF ⟨_, rfl, _, _, _, _, _, rfl, .ty _, tya _ s1, e2, _, rfl, _, _, _, _, _, rfl, .ty _, tyc _ s1, e2, rfl, _, rfl, ?_⟩
      rw [decide_eq_true rfl]
      refine iteF ⟨_, rfl, _, _, rfl, hlen _ s1, _, rfl, _, _, rfl, hlen' _ s1, rfl, _, rfl, ?_⟩
      rw [hl, decide_eq_true rfl]
      refine iteT ⟨_, rfl, _, rfl, a, c, xs, ys, rfl, ?_⟩
      rcases hs with ⟨p, q'⟩ | ⟨p, q'⟩
      ·
        refine .inl ⟨Same.seq s1 p, Same.seq s1 q', fun D nD => lc_it (walk_zip (K := K) (a := a) (b := c) (by omega : xs.length = min xs.length ys.length)) (fun i H2 => Same (upd H p0 (.tup [.ty "list", .ty "tuple"])) H2 ∧ H2 D = some (.lst ((List.replicate i true).map V.bl))) ⟨same_upd nD, upd_same⟩ (fun i H2 _ h => ⟨Same.seq (s1.trans h.1) p, Same.seq (s1.trans h.1) q'⟩) ?_ ?_⟩
        · rintro i z H2 H3 hlt ⟨s2, hD⟩ ⟨T, x, y, rfl, nT, rfl, hx, hy⟩
          have nTD : D ≠ T := ne_of_none hD nT
          refine ⟨T, [x, y], rfl, SqT.of upd_same, rfl, x, [y], rfl, y, [], rfl, rfl, rfl, ?_⟩
          unfold tYes
          refine iteT ?_
          refine ⟨x, rfl, y, rfl, hM x y _ _ _ (hS _ _ _ _ ((s1.trans s2).trans (same_upd nT)) (hr1 i x y hx hy)) fun H4 s4 => ?_⟩
          have hD4 : H4 D = some (.lst ((List.replicate i true).map V.bl)) := s4 _ _ (by rw [upd_ne nTD]; exact hD)
          refine ⟨_, hD4, ?_, ?_, ?_⟩
          · rw [List.length_map, List.length_replicate]
            exact small1000 (by omega)
          · intro p' o' h'
            have nq : p' ≠ D := ne_of_none h' nD
            rw [upd_ne nq]
            exact s4 _ _ (same_upd nT _ _ (s2 _ _ h'))
          · rw [upd_same, List.replicate_succ', List.map_append]
            rfl
        · rintro H2 ⟨s2, hD⟩
          refine ⟨D, _, rfl, SqL.of hD, ?_⟩
          rw [all_true]
          exact q _ (s1.trans s2)
      ·
        refine .inr ⟨seqT_same s1 p, seqT_same s1 q', fun D nD => lc_it (walk_zipT (K := K) (a := a) (b := c) (by omega : xs.length = min xs.length ys.length)) (fun i H2 => Same (upd H p0 (.tup [.ty "list", .ty "tuple"])) H2 ∧ H2 D = some (.lst ((List.replicate i true).map V.bl))) ⟨same_upd nD, upd_same⟩ (fun i H2 _ h => ⟨seqT_same (s1.trans h.1) p, seqT_same (s1.trans h.1) q'⟩) ?_ ?_⟩
        · rintro i z H2 H3 hlt ⟨s2, hD⟩ ⟨T, x, y, rfl, nT, rfl, hx, hy⟩
          have nTD : D ≠ T := ne_of_none hD nT
          refine ⟨T, [x, y], rfl, SqT.of upd_same, rfl, x, [y], rfl, y, [], rfl, rfl, rfl, ?_⟩
          unfold tYes
          refine iteT ?_
          refine ⟨x, rfl, y, rfl, hM x y _ _ _ (hS _ _ _ _ ((s1.trans s2).trans (same_upd nT)) (hr1 i x y hx hy)) fun H4 s4 => ?_⟩
          have hD4 : H4 D = some (.lst ((List.replicate i true).map V.bl)) := s4 _ _ (by rw [upd_ne nTD]; exact hD)
          refine ⟨_, hD4, ?_, ?_, ?_⟩
          · rw [List.length_map, List.length_replicate]
            exact small1000 (by omega)
          · intro p' o' h'
            have nq : p' ≠ D := ne_of_none h' nD
            rw [upd_ne nq]
            exact s4 _ _ (same_upd nT _ _ (s2 _ _ h'))
          · rw [upd_same, List.replicate_succ', List.map_append]
            rfl
        · rintro H2 ⟨s2, hD⟩
          refine ⟨D, _, rfl, SqL.of hD, ?_⟩
          rw [all_true]
          exact q _ (s1.trans s2)

theorem ok_likeH {f : Addr} {fd : FuncData} (F : Fun K "_law_like" "_law_like" sLawLike f fd) (g : mg "_law_like" = some (.ref f)) (b : Binds K fd ["found", "due"] [])
    (b_isinstance : mg "isinstance" = none) (b_list : mg "list" = none) (b_tuple : mg "tuple" = none) (b_bool : mg "bool" = none) (b_str : mg "str" = none) (b_int : mg "int" = none) (b_len : mg "len" = none) (b_all : mg "all" = none) (b_zip : mg "zip" = none) :
    ∀ n : Nat, L2H.FnH P w K mg base CX0 (n + 1) f fd ["found", "due"] (spLike K n) := by
  intro n
  induction n with
  | zero =>
    exact impH (like_stepH (M := fun _ _ _ => False) (R := fun _ _ _ _ => False) F g b b_isinstance b_list b_tuple b_bool b_str b_int b_len b_all b_zip neverH (fun _ _ _ _ _ h _ => h) (fun _ _ _ _ _ h => h))
      fun vs H Q E ⟨v, w', e, L, q⟩ => ⟨v, w', e, .inl L, q⟩
  | succ n ih =>
    exact impH (like_stepH (M := fun H v w => Lk K H n v w) F g b b_isinstance b_list b_tuple b_bool b_str b_int b_len b_all b_zip ih (fun v w H Q E h q => ⟨v, w, rfl, h, q⟩) (fun _ _ _ _ s h => h.same s))
      fun vs H Q E ⟨v, w', e, L, q⟩ => ⟨v, w', e, L, q⟩
end
end My

set_option Elab.async false
set_option linter.all false
set_option maxRecDepth 100000
set_option maxHeartbeats 2000000
/-! an own error with its own __init__, its context told to be None; defs that may raise it -/
namespace My
open PySem PySem.Spec PyProof.Rows L2
section
variable {P : Program} {w : World} {K : PySem.W.Frag} {mg : Str → Option Value} {base : Heap}
/-- a def that may raise -/
theorem okN {x qual : Str} {st : Stmt} {f : Addr} {fd : FuncData} {N ps : List Str} {k : Nat} {sp : Sp} (F : Fun K x qual st f fd) (S : FnScope N ps (defScope st)) (len : ∀ vs H Q E, sp vs H Q E → vs.length = ps.length)
    (hbody : ∀ (cdv : Value) (A : Around) (outer : List Env) (s : Shared) (H : Hp) (vs : List V) (Q : VK) (E : XK), Room k (A.deeper (envOfC qual (defScope st) s.heap.objs.size f cdv)) → sp vs H Q E →
      ∃ t, PSs (cxOf (L2N.CX P w) P w K mg base N qual (defScope st) f cdv A outer s H E) (defBody st) t ∧ t { nx := fun _ H' => Q .non H', rt := Q } (start N vs) H) : FnOk P w K mg base (L2N.CX P w) (k + 1) f fd ps sp := by
  obtain ⟨oc, od, kV, doc, pm, an, cdv, ct, osl, rfl, lk, hcd⟩ := F.ex
  exact fn_of lk hcd S len fun A outer s H vs Q E hr hsp => hbody cdv A outer s H vs Q E hr hsp
end
/-- C(e, ..), the error's object with no context -/
theorem pmk_init {X : Cx} {CX : CXT} {x : Str} {e : Expr} {es : List Expr} {ta : TA} {p pos : Pos} {C fI : Addr} {k : Nat} {fd : FuncData} {ps : List Str} {sp : Sp} (T : OexC X.K C) (iC : PySem.W.findIn X.K (.ref C) "__init__" = some (some (.ref fI))) (tI : PySem.W.typeIn X.K (.ref fI) = some (.type "function"))
    (F1 : FnOk X.prog X.w X.K X.mg X.base CX k fI fd ps sp) (hr : Room (k + 1) X.A) (hb : Binds X.K fd ps []) (hx : Passes CX X (fun _ _ _ => False)) (hg : Gl X x) (hm : X.mg x = some (.ref C)) (ha : PA X (e :: es) ta)
    (hdb : (x == ("__debug__" : Str)) = false := by decide) (he : starEach (e :: es) X.env = (false, eval e X.env) :: starEach es X.env := by rfl) (hpl : (backTo pos (starEach es X.env)).any (·.1) = false := by rfl) :
    L2N.PMk X (.Call (.Name x p) (e :: es) [] pos) (tMkO C sp [] ta) := by
  intro pins s σ H Q I h
  obtain ⟨nm, q, N, bs, bm, sn, sub, ab, col, dd, k0, k1, k2, k3, k5, hC, hbm⟩ := T.cls
  refine wpAny_Call_Name_kw (ld_glob I hg hm ?_ hdb)
  refine PySem.W.callWith_K (h₀ := X.base) I.ok.mod.kin T.kC (thn (ha.run pos pins s σ H _ I h) fun us s1 ⟨vs, H1, I1, r1, hz, q1⟩ => ⟨I1.kIn, ?_⟩) he hpl
  show wpAny _ _ (call (.ref C) us) _ _ _
  obtain ⟨hp, g, dr, tk, os⟩ := s1
  have hsz : hp.objs.size ≤ hp.objs.size + 1 := Nat.le_succ _
  have hn : H1 (hp.objs.size + 1) = none := I1.hok.fresh hsz
  have hq := q1 (hp.objs.size + 1) hn
  rw [List.append_nil] at hq
  have up : ∀ b o, hp.get? b = some o → ((hp.push (PySem.W.kdv_tup us)).push (PySem.HandSPX.excO C hp.objs.size)).get? b = some o := fun b o e => Heap.get?_push_of_some _ (Heap.get?_push_of_some _ e)
  have at1 : ((hp.push (PySem.W.kdv_tup us)).push (PySem.HandSPX.excO C hp.objs.size)).get? (hp.objs.size + 1) = some (PySem.HandSPX.excO C hp.objs.size) := by heap_get
  have I2 : Inv X pins σ (upd H1 (hp.objs.size + 1) (exo (hp.objs.size + 1) C none)) ⟨(hp.push (PySem.W.kdv_tup us)).push (PySem.HandSPX.excO C hp.objs.size), g, dr, tk, os⟩ := I1.laid (t' := tk) up hsz (exo_ok at1)
  have r2 : Vals (V.ref (hp.objs.size + 1) :: vs) (Value.ref (hp.objs.size + 1) :: us) := .cons rfl r1
  have hl : (Value.ref (hp.objs.size + 1) :: us ++ []).length = ps.length := by
    have e := r2.length
    rw [F1.len _ _ _ _ hq] at e
    rw [List.append_nil]
    exact e.symm
  have b2 := hb _ (Value.ref (hp.objs.size + 1) :: us) I2.kIn hl
  rw [List.append_nil] at b2
  refine wpAny_call (PySem.HandSPX.call_own F.excBase_ValueError (fun Y => PySem.HandSPX.refsVE_contains Y bm hbm) (I1.kIn _ _ hC) (PySem.W.looks_findIn I1.kIn iC) (fun self => PySem.W.bind_fn I1.kIn self tI) (by rw [← Paired.length r1, sizeLine_eq]; omega)
    (codeAny_mono (F1.run _ X.stack _ _ ⟨Value.ref (hp.objs.size + 1) :: us, []⟩ (Value.ref (hp.objs.size + 1) :: us) _ _ (fun _ _ _ => False) (hr.make C us []) (I2.env0.make C us []) b2 r2 hq) fun r s' hq' => ?_))
  cases r with
  | error er => exact hx pins σ _ _ er s' I2 hq'
  | ok fl =>
    cases fl with
    | ret u =>
      obtain ⟨v, H2, os2, bare2, un2, hok2, rv, ev, d, fs, ea, ed, hd1, q2⟩ := hq'
      subst ev
      obtain ⟨h2, g2, d2, t2, os'⟩ := s'
      obtain ⟨t0, G, J, kG, ge, hoe, na⟩ := mk_end0 (d2 := d2) (t2 := t2) I1 hsz up un2 hok2 os2 bare2 ea ed hd1
      exact ⟨rv, hp.objs.size + 1, _, _, ⟨G, g2, d2, t2, os'⟩, _, .ref C, some d, rfl, J, kG, ge, hoe, ⟨rfl, rfl, fun vs hv => by cases hv; rfl⟩, rfl, rfl, na, rfl, bare2, raises_own T.exC T.tyC, q2⟩
    | next => exact False.elim hq'
    | brk => exact False.elim hq'
    | cont => exact False.elim hq'
end My

set_option Elab.async false
set_option linter.all false
set_option maxRecDepth 100000
namespace My
open PySem PySem.Spec PyProof.Rows L2 SX
/-! a span that is refused -/
abbrev sKept : Stmt := topS 2
theorem scKept : FnScope ["value", "item"] ["value"] (defScope sKept) := ⟨rfl, rfl, rfl, by decide +kernel, rfl, by decide +kernel, by decide +kernel⟩
abbrev sInvalidNumberInit : Stmt := inClass (topS 5) 0
theorem scInvalidNumberInit : FnScope ["self", "value"] ["self", "value"] (defScope sInvalidNumberInit) := ⟨rfl, rfl, rfl, by decide +kernel, rfl, by decide +kernel, by decide +kernel⟩
abbrev sLawRefused : Stmt := topS 51
theorem scLawRefused : FnScope ["above", "below", "e"] ["above", "below"] (defScope sLawRefused) := ⟨rfl, rfl, rfl, by decide +kernel, rfl, by decide +kernel, by decide +kernel⟩
def spKeptI : Sp := fun vs H Q _ => ∃ i : Int, vs = [.int i] ∧ Q (.int i) H
def spKeptW (K : PySem.W.Frag) : Sp := fun vs H Q _ => ∃ v q, vs = [v] ∧ IsR K H v q ∧ ∀ v' H', Same H H' → IsR K H' v' q → Q v' H'
def spErr (K : PySem.W.Frag) (C : Addr) : Sp := fun vs H Q _ => ∃ (a : Addr) (v : V) (q : Rat), vs = [.ref a, v] ∧ H a = some (exo a C none) ∧ IsR K H v q ∧
  ∀ H' d v', H d = none → (∀ p o, p ≠ a → H p = some o → H' p = some o) → H' a = some (exo a C (some d)) → H' d = some (exd d [("code", .str "InvalidNumber"), ("value", v')]) → IsR K H' v' q → Q .non H'
/-- what is known of the error's class -/
structure ErrT (K : PySem.W.Frag) (C : Addr) : Prop where
  o : OexC K C
  nV : PySem.W.findIn K (.ref C) "value" = some none
  nC : PySem.W.findIn K (.ref C) "code" = some none
  x : XfC K C
  e : ExcC K C
  te : PySem.W.exmOne K (.ref C) (.ref C) = some true
theorem kit_li {K : PySem.W.Frag} : PySem.W.kitOne K (.type "int") (.type "list") = some false := by rfl
theorem kit_ti {K : PySem.W.Frag} : PySem.W.kitOne K (.type "int") (.type "tuple") = some false := by rfl
theorem exc_keep {K : PySem.W.Frag} {H H' : Hp} {e d C : Addr} {dd : Option Addr} {o : Option HO} {v : V} {q : Rat} (he : ∀ xs, H e ≠ some (.tup xs)) (he' : ∀ o u, H e ≠ some (.frz o u)) (hd : ∀ xs, H d ≠ some (.tup xs)) (hd' : ∀ o u, H d ≠ some (.frz o u)) (k : ∀ p o, p ≠ e → p ≠ d → H p = some o → H' p = some o) (h : IsR K H v q) : IsR K H' v q := by
  obtain ⟨a, rfl, h⟩ := h
  refine ⟨a, rfl, ?_⟩
  rcases h with (s | ⟨o, s⟩) | s
  · exact .inl (.inl (k _ _ (fun z => he _ (z ▸ s)) (fun z => hd _ (z ▸ s)) s))
  · exact .inl (.inr ⟨o, k _ _ (fun z => he' _ _ (z ▸ s)) (fun z => hd' _ _ (z ▸ s)) s⟩)
  · exact .inr s
theorem exo_nt {H : Hp} {e C : Addr} {d : Option Addr} (h : H e = some (exo e C d)) : (∀ xs, H e ≠ some (.tup xs)) ∧ ∀ o u, H e ≠ some (.frz o u) :=
  ⟨fun xs z => by rw [h] at z; exact exo_tup (Option.some.inj z), fun o u z => by rw [h] at z; exact exo_frz (Option.some.inj z)⟩
theorem none_nt {H : Hp} {d : Addr} (h : H d = none) : (∀ xs, H d ≠ some (.tup xs)) ∧ ∀ o u, H d ≠ some (.frz o u) :=
  ⟨fun xs z => (by rw [h] at z; cases z), fun o u z => (by rw [h] at z; cases z)⟩
theorem exd_frz {e : Addr} {fs : List (Str × V)} {o : Obj} {u : HO} : exd e fs ≠ .frz o u := fun z => by
  have z' : HO.ext _ = HO.frz o u := z
  cases z'
theorem exd_nt {H : Hp} {d : Addr} {fs : List (Str × V)} (h : H d = some (exd d fs)) : (∀ xs, H d ≠ some (.tup xs)) ∧ ∀ o u, H d ≠ some (.frz o u) :=
  ⟨fun xs z => by rw [h] at z; exact exd_tup (Option.some.inj z), fun o u z => by rw [h] at z; exact exd_frz (Option.some.inj z)⟩
section
variable {P : Program} {w : World} {K : PySem.W.Frag} {mg : Str → Option Value} {base : Heap}
theorem ok_keptI {f : Addr} {fd : FuncData} {k : Nat} (F : Fun K "kept" "kept" sKept f fd) (b_isinstance : mg "isinstance" = none) (b_list : mg "list" = none) (b_tuple : mg "tuple" = none) : FnOk P w K mg base CX0 (k + 1) f fd ["value"] spKeptI := by
  refine F.ok scKept (fun vs H Q E h => ?_) (fun cdv A outer s H vs Q E hr h => ?_)
  · obtain ⟨i, rfl, _⟩ := h
    rfl
  · obtain ⟨i, rfl, q⟩ := h
    refine ⟨_, (pss_cons (ps_if (pt_val (pe_callB call_isi rfl b_isinstance (by decide +kernel) (pa_cons (pv 0) (pa_cons (pe_ty "list" rfl b_list (by decide +kernel)) pa_nil)))) (pss_one ps_never) pss_nil)
      (pss_cons (ps_if (pt_val (pe_callB call_isi rfl b_isinstance (by decide +kernel) (pa_cons (pv 0) (pa_cons (pe_ty "tuple" rfl b_tuple (by decide +kernel)) pa_nil)))) (pss_one ps_never) pss_nil)
      (pss_one (ps_ret (pv 0))))), ?_⟩
    exact ⟨_, rfl, _, _, _, _, _, rfl, .ty _, .base (.int _), kit_li, _, rfl, iteF ⟨_, rfl, _, _, _, _, _, rfl, .ty _, .base (.int _), kit_ti, _, rfl, iteF ⟨_, rfl, q⟩⟩⟩
theorem ok_keptW {f : Addr} {fd : FuncData} {k : Nat} (F : Fun K "kept" "kept" sKept f fd) (Kp : Cal P w K mg base "kept" (k + 1) ["value"] spKeptI f fd) (b_isinstance : mg "isinstance" = none) (b_list : mg "list" = none) (b_tuple : mg "tuple" = none) : FnOk P w K mg base CX0 (k + 2) f fd ["value"] (spKeptW K) := by
  refine F.ok scKept (fun vs H Q E h => ?_) (fun cdv A outer s H vs Q E hr h => ?_)
  · obtain ⟨v, q, rfl, _⟩ := h
    rfl
  · obtain ⟨v, z, rfl, ⟨a, rfl, hA⟩, q⟩ := h
    refine ⟨_, (pss_cons (ps_if (pt_val (pe_callB call_isi rfl b_isinstance (by decide +kernel) (pa_cons (pv 0) (pa_cons (pe_ty "list" rfl b_list (by decide +kernel)) pa_nil)))) (pss_one ps_never) pss_nil)
      (pss_cons (ps_if (pt_val (pe_callB call_isi rfl b_isinstance (by decide +kernel) (pa_cons (pv 0) (pa_cons (pe_ty "tuple" rfl b_tuple (by decide +kernel)) pa_nil)))) (pss_one (ps_ret (pe_callTy call_tuple_of rfl b_tuple (by decide +kernel) (pa_cons (pe_lc (own := [("item", 1)]) (g := gName 1) (tt := tYes) (te := tCall spKeptI [] E0 (tCons (tVar 1) tNil)) rfl scKept.nd (pi_tup (pv 0)) (blkOk_by (own := [("item", 1)]) (N := ["value", "item"]) (sc := defScope sKept) (by decide +kernel)) (fun _ _ _ _ _ => (pg_name (i := 1) scKept.nd rfl (.inl rfl) (.inr rfl))) (fun _ _ _ _ _ => pts_nil) (fun _ _ _ _ _ => (pe_call Kp.ok (hr.mono (by omega)) rfl Kp.g Kp.kp Kp.b .nil pass0 (pa_cons (pv 1) pa_nil)))) pa_nil)))) pss_nil)
      (pss_one (ps_ret (pv 0))))), ?_⟩
    refine ⟨_, rfl, _, _, _, _, _, rfl, .ty _, ty_tup hA, k1_tl, _, rfl, iteF ⟨_, rfl, _, _, _, _, _, rfl, .ty _, ty_tup hA, k1_tt, _, rfl, iteT ?_⟩⟩
    refine ⟨_, rfl, a, rfl, ⟨_, hA⟩, fun D nD => ?_⟩
    refine lc_tup (xs := [.int z.num, .int z.den]) (fun i G => Same H G ∧ G D = some (.lst ([.int z.num, .int z.den].take i))) ⟨same_upd nD, upd_same⟩ (fun i G _ h => seqT_same h.1 hA) ?_ ?_
    · rintro i x G hx ⟨s1, hD⟩
      refine ⟨rfl, ?_⟩
      unfold tYes
      refine iteT ?_
      obtain ⟨j, rfl⟩ : ∃ j : Int, x = .int j := by
        rcases two_at hx with ⟨_, rfl⟩ | ⟨_, rfl⟩ <;> exact ⟨_, rfl⟩
      refine ⟨_, rfl, j, rfl, _, hD, ?_, same_updF nD s1, ?_⟩
      · rw [List.length_take]
        exact small1000 (by show min _ 2 ≤ 1000; omega)
      · rw [upd_same, List.take_add_one, hx]
        rfl
    · rintro G ⟨s1, hD⟩
      refine ⟨D, _, rfl, .inl ⟨SqL.of hD, fun l nl => q _ _ (s1.trans (same_upd nl)) ⟨l, rfl, SqT.of upd_same⟩⟩⟩
theorem ok_err {C f fK : Addr} {fd fdK : FuncData} {k : Nat} (F : Fun K "__init__" "InvalidNumber.__init__" sInvalidNumberInit f fd) (T : ErrT K C) (Kp : Cal P w K mg base "kept" (k + 2) ["value"] (spKeptW K) fK fdK) : FnOk P w K mg base CX0 (k + 3) f fd ["self", "value"] (spErr K C) := by
  refine F.ok scInvalidNumberInit (fun vs H Q E h => ?_) (fun cdv A outer s H vs Q E hr h => ?_)
  · obtain ⟨a, v, q, rfl, _⟩ := h
    rfl
  · obtain ⟨a, v, z, rfl, ha, hv, q⟩ := h
    refine ⟨_, (pss_cons (ps_ost (pv 0) (pe_call Kp.ok (hr.mono (by omega)) rfl Kp.g Kp.kp Kp.b .nil pass0 (pa_cons (pv 1) pa_nil))) (pss_one (ps_ost (pv 0) pe_str))), ?_⟩
    refine ⟨_, rfl, v, z, rfl, hv, fun v' H1 s1 hv1 => ⟨_, rfl, a, C, rfl, T.o, T.nV, .inl ⟨s1 _ _ ha, fun dx nd ne => ?_⟩⟩⟩
    have hda : upd (upd H1 dx (exd dx [("value", v')])) a (exo a C (some dx)) dx = some (exd dx [("value", v')]) := by rw [upd_ne ne, upd_same]
    refine ⟨_, rfl, a, C, rfl, T.o, T.nC, .inr ⟨dx, _, upd_same, hda, (by show 1 ≤ 900; decide), ?_⟩⟩
    refine q _ dx v' (s1.free nd) (fun p o np hp => ?_) (by rw [upd_ne (Ne.symm ne), upd_same]) upd_same ?_
    · have h1 := s1 _ _ hp
      rw [upd_ne (ne_of_none h1 nd), upd_ne np, upd_ne (ne_of_none h1 nd)]
      exact h1
    · have e1 := exo_nt (s1 _ _ ha)
      have e2 := none_nt nd
      exact exc_keep (C := C) (dd := none) (o := none) e1.1 e1.2 e2.1 e2.2 (fun p o n1 n2 hp => by rw [upd_ne n2, upd_ne n1, upd_ne n2]; exact hp) hv1
def spInitX (K : PySem.W.Frag) (C CI : Addr) : Sp := fun vs H _ E => ∃ (a dx : Addr) (l h : V) (lo hi : Rat), vs = [.ref a, l, h] ∧ H a = some (.ins C dx []) ∧ IsR K H l lo ∧ IsR K H h hi ∧ Sz 3000 lo ∧ Sz 3000 hi ∧ hi < lo ∧
  ∀ H' d v', Same H H' → H' d = some (.xd [("code", .str "InvalidNumber"), ("value", v')]) → IsR K H' v' hi → E (.ref CI) (some d) H'
theorem ok_initX {C CI f fL fE : Addr} {fd fdL fdE : FuncData} {k : Nat} (F : Fun K "__init__" "Span.__init__" sSpanInit f fd) (Ls : Cal P w K mg base "is_less" (k + 1) ["a", "b"] (spLessR K) fL fdL) (T : ErrT K CI) (iC : PySem.W.findIn K (.ref CI) "__init__" = some (some (.ref fE))) (tI : PySem.W.typeIn K (.ref fE) = some (.type "function"))
    (gI : mg "InvalidNumber" = some (.ref CI)) (Er : FnOk P w K mg base CX0 (k + 3) fE fdE ["self", "value"] (spErr K CI)) (bE : Binds K fdE ["self", "value"] []) : FnOk P w K mg base (L2N.CX P w) (k + 5) f fd ["self", "low", "high"] (spInitX K C CI) := by
  refine okN F scSpanInit (fun vs H Q E h => ?_) (fun cdv A outer s H vs Q E hr h => ?_)
  · obtain ⟨a, dx, l, h, lo, hi, rfl, _⟩ := h
    rfl
  · obtain ⟨a, dx, l, h, lo, hi, rfl, ha, hl, hh, s1, s2, lt, q⟩ := h
    refine ⟨_, (pss_cons (ps_if (pt_val (pe_call Ls.ok (hr.mono (by omega)) rfl Ls.g Ls.kp Ls.b .nil pass0 (pa_cons (pv 2) (pa_cons (pv 1) pa_nil)))) (pss_one (L2N.ps_raise rfl (L2N.takes_of rfl rfl rfl rfl) (pmk_init T.o iC tI Er hr bE pass0 rfl gI (pa_cons (pv 2) pa_nil)))) pss_nil)
      (pss_cons ps_never (pss_one ps_never))), ?_⟩
    refine ⟨_, rfl, _, rfl, h, l, hi, lo, rfl, hh, hl, s2, s1, _, rfl, ?_⟩
    rw [decide_eq_true lt]
    refine iteT ⟨_, rfl, (by show 1 ≤ 1000; decide), fun e ne => ?_⟩
    have ke : ∀ p o, H p = some o → upd H e (exo e CI none) p = some o := fun p o hp => by rw [upd_ne (ne_of_none hp ne)]; exact hp
    refine ⟨e, h, hi, rfl, upd_same, ?_, fun H2 d v' nd keep e1 e2 hv => ⟨rfl, d, _, e1, e2, ?_, ?_⟩⟩
    · obtain ⟨p, rfl, hp⟩ := hh
      exact ⟨p, rfl, seqT_same (fun b o hb => ke b o hb) hp⟩
    · have de : d ≠ e := fun z => by rw [z, upd_same] at nd; cases nd
      rw [upd_ne de] at nd
      exact nd
    · have de : d ≠ e := fun z => by rw [z, upd_same] at nd; cases nd
      rw [upd_ne de] at nd
      have x1 := exo_nt e1
      have x2 := exd_nt e2
      refine q _ d v' (fun p o hp => ?_) upd_same (exc_keep (C := CI) (dd := none) (o := none) x1.1 x1.2 x2.1 x2.2 (fun p o n1 n2 hp => by rw [upd_ne n2, del_ne n1]; exact hp) hv)
      have n1 : p ≠ e := ne_of_none hp ne
      have n2 : p ≠ d := ne_of_none hp nd
      rw [upd_ne n2, del_ne n1]
      exact keep p o n1 (ke p o hp)
theorem takesN0 {X : Cx} : L2N.Takes X (fun _ _ _ _ => False) := fun _ _ x => by
  obtain ⟨_, _, _, _, _, _, _, _, _, _, _, _, _, _, _, _, z⟩ := x
  exact z.elim
theorem hotS {X : Cx} {a : Addr} {oe : Obj} {cls : Value} {d : Option Addr} {pn : List (Addr × Obj)} (hz : L2N.Zn cls d oe) (hf : ∃ vs, oe.data = .fields vs) : L2H.HotC (X.suite a ((a, oe) :: pn)) :=
  let ⟨vs, e⟩ := hf
  ⟨(a, oe), ⟨rfl, vs, e, hz.2.2 vs e⟩, List.mem_cons_self⟩
def spRef (K : PySem.W.Frag) : Sp := fun vs H Q _ => ∃ (v w : V) (lo hi : Rat), vs = [v, w] ∧ IsR K H v lo ∧ IsR K H w hi ∧ Sz 3000 lo ∧ Sz 3000 hi ∧ hi < lo ∧ ∀ H', Same H H' → Q (.bl true) H'
theorem ok_refused {C CI CE CN f fX fL : Addr} {fd fdX fdL : FuncData} {k : Nat} (F : Fun K "_law_refused" "_law_refused" sLawRefused f fd) (M : Mk K C fX) (gS : mg "Span" = some (.ref C)) (X1 : FnOk P w K mg base (L2N.CX P w) (k + 5) fX fdX ["self", "low", "high"] (spInitX K C CI)) (bX : Binds K fdX ["self", "low", "high"] [])
    (T : ErrT K CI) (gI : mg "InvalidNumber" = some (.ref CI)) (gE : mg "CountError" = some (.ref CE)) (gN : mg "InvalidNames" = some (.ref CN)) (kE : PySem.W.kitOne K (.ref CI) (.ref CE) = some true) (kN : PySem.W.kitOne K (.ref CI) (.ref CN) = some false)
    (Li : L2H.FnH P w K mg base CX0 (k + 3) fL fdL ["found", "due"] (spLike K 2)) (gL : mg "_law_like" = some (.ref fL)) (kL : PySem.W.keepIn K (.ref fL) = true) (bL : Binds K fdL ["found", "due"] []) (b_isinstance : mg "isinstance" = none) : FnOk P w K mg base CX0 (k + 7) f fd ["above", "below"] (spRef K) := by
  refine F.ok scLawRefused (fun vs H Q E h => ?_) (fun cdv A outer s H vs Q E hr h => ?_)
  · obtain ⟨v, w', lo, hi, rfl, _⟩ := h
    rfl
  · obtain ⟨v, w', lo, hi, rfl, hv, hw, s1, s2, lt, q⟩ := h
    refine ⟨_, (pss_cons (L2N.ps_try_as (i := 2) rfl rfl scLawRefused.nd rfl rfl ⟨rfl, by decide, .inl gI⟩ takesN0 (fun W pn xe tk _ => (pss_one (ps_expr (pe_makeS (E := L2.WE W) M X1 hr rfl gS bX (fun σ => L2N.passAt tk σ) (pa_cons (pv 0) (pa_cons (pv 1) pa_nil))))))
      (fun a oe cls d pn hz hf => (pss_one (ps_ret (pe_and (L2H.pe_callH (E := fun _ => E0) Li (L2H.roomH_mark (hr.mono (by omega)) _) (hotS hz hf) rfl gL kL bL passAt0 (pa_cons (pe_xf T.x T.nV hz.zc hf (pv 2)) (pa_cons (pv 1) pa_nil)))
        (pe_and (pe_cmpR op_eq (pe_xf T.x T.nC hz.zc hf (pv 2)) pe_str (nomark _)) (pe_and (pe_callB (call_isD hz.zc hf) rfl b_isinstance (by decide +kernel) (pa_cons (pv 2) (pa_cons (pe_glob (v := .ref CE) rfl gE rfl) pa_nil)))
          (pe_one (pe_not (pe_callB (call_isD hz.zc hf) rfl b_isinstance (by decide +kernel) (pa_cons (pv 2) (pa_cons (pe_glob (v := .ref CN) rfl gN rfl) pa_nil)))))))))))) (pss_one (ps_ret pe_bl))), ?_⟩
    refine ⟨_, rfl, _, rfl, fun x dx nx ndx ne => ?_⟩
    have t1 : Same H (upd (upd H dx (.own x)) x (.ins C dx [])) := same_updF nx (same_upd ndx)
    refine ⟨x, dx, v, w', lo, hi, rfl, upd_same, hv.same t1, hw.same t1, s1, s2, lt, fun H1 d v' t2 hd hv' => ⟨true, T.te, fun _ a na => ?_, fun z => nomatch z⟩⟩
    have u2 := t1.trans t2
    refine ⟨_, rfl, rfl, rfl, d, _, v', rfl, hd, rfl, _, rfl, v', w', rfl, lk_worth hv' (hw.same u2), fun H2 t3 => ⟨_, rfl, iteT ?_⟩⟩
    refine ⟨_, rfl, rfl, rfl, d, _, _, rfl, t3 _ _ hd, rfl, rfl, _, rfl, ?_⟩
    rw [decide_eq_true rfl]
    refine iteT ⟨_, rfl, CI, d, _, _, _, true, rfl, rfl, t3 _ _ hd, T.e, rfl, fun _ r => r, kE, _, rfl, iteT ?_⟩
    exact ⟨_, rfl, CI, d, _, _, _, false, rfl, rfl, t3 _ _ hd, T.e, rfl, fun _ r => r, kN, _, rfl, q _ (u2.trans t3)⟩
end
end My

set_option Elab.async false
set_option linter.all false
set_option maxRecDepth 100000
namespace My
open PySem PySem.Spec PyProof.Rows L2 SX
/-! the law -/
abbrev sLaw : Stmt := topS 53
theorem scLaw : FnScope ["script", "bag", "a", "b", "first", "other", "some", "rest", "span", "ends", "held"] ["script"] (defScope sLaw) := ⟨rfl, rfl, rfl, by decide +kernel, rfl, by decide +kernel, by decide +kernel⟩
def spLaw (K : PySem.W.Frag) : Sp := fun vs H Q _ => ∃ (a : Addr) (ns : List Int), vs = [.ref a] ∧ SqL K H a (ns.map V.int) ∧ ns.length ≤ 63 ∧ ∀ H', Q (.bl true) H'
theorem bindLH {K : PySem.W.Frag} {f : Addr} {fd : FuncData} (F : Fun K "__init__" "Span.__init__" sSpanInit f fd) : KBn K fd ["self", "low", "high"] 1 ["low", "high"] (fun us ws => us ++ ws) (fun vs zs => vs ++ zs) := by
  obtain ⟨oc, od, kV, doc, pm, an, cdv, ct, osl, rfl, lk, hcd⟩ := F.ex
  refine ⟨fun s us ws X l1 l2 => ?_, fun r1 r2 => r1.append r2⟩
  match us, l1, ws, l2 with
  | [u0], _, [w0, w1], _ => exact .of_eq rfl
theorem SpanR.bag {K : PySem.W.Frag} {C : Addr} {H H' : Hp} {b x : Addr} {lo hi : Rat} (h : SpanR K C H x lo hi) (B : BagAt K H b) (t : But b H H') : SpanR K C H' x lo hi := by
  obtain ⟨xs, hb⟩ := B.get
  obtain ⟨dx, l, h', e, w1, w2⟩ := h
  have r1 : IsR K H l lo := w1
  have r2 : IsR K H h' hi := w2
  exact ⟨dx, l, h', t _ _ (fun z => by rw [z, hb] at e; cases e) e, r1.bag B t, r2.bag B t⟩
theorem SqT.bag {K : PySem.W.Frag} {H H' : Hp} {b p : Addr} {xs : List V} (h : SqT K H p xs) (B : BagAt K H b) (t : But b H H') : SqT K H' p xs := by
  obtain ⟨ys, hb⟩ := B.get
  exact SqT.but hb t h
theorem Held.bag {K : PySem.W.Frag} {H H' : Hp} {b : Addr} {ws : List V} {qs : List Rat} {lo hi : Rat} (h : Held K H ws qs lo hi) (B : BagAt K H b) (t : But b H H') : Held K H' ws qs lo hi := ⟨RsL.bag h.1 B t, h.2⟩
theorem Held.same {K : PySem.W.Frag} {H H' : Hp} {ws : List V} {qs : List Rat} {lo hi : Rat} (h : Held K H ws qs lo hi) (t : Same H H') : Held K H' ws qs lo hi := ⟨RsL.same t h.1, h.2⟩
theorem isr_least {K : PySem.W.Frag} {H : Hp} {p : Addr} (h : SqT K H p [.int 1, .int (10 ^ Int.toNat 20)]) : IsR K H (.ref p) (1 / 100000000000000000000) := ⟨p, rfl, by
  rw [show (1 / 100000000000000000000 : Rat).num = 1 by decide +kernel, show (((1 / 100000000000000000000 : Rat).den : Nat) : Int) = 10 ^ Int.toNat 20 by decide +kernel]
  exact h⟩
theorem half_up {q : Rat} {r : Int} (h : 0 ≤ r) : q ≤ q + (r : Rat) / ((2 : Int) : Rat) := by
  have h1 : (0 : Rat) ≤ (r : Rat) := Rat.intCast_nonneg.mpr h
  have h2 : (0 : Rat) ≤ ((2 : Int) : Rat)⁻¹ := by decide +kernel
  have h3 := Rat.mul_nonneg h1 h2
  rw [Rat.div_def]
  grind
/-- both spans, their ends and what they hold -/
structure Both (K : PySem.W.Frag) (C : Addr) (H : Hp) (x y l l' : Addr) (va vb : V) (ws us : List V) (qs rs : List Rat) (lo hi lo' hi' : Rat) : Prop where
  hx : SpanR K C H x lo hi
  hy : SpanR K C H y lo' hi'
  a : EndsAt K H va lo hi
  b : EndsAt K H vb lo' hi'
  s : SqL K H l ws
  s' : SqL K H l' us
  h : Held K H ws qs lo hi
  h' : Held K H us rs lo' hi'
theorem Both.same {K : PySem.W.Frag} {C : Addr} {H H' : Hp} {x y l l' : Addr} {va vb : V} {ws us : List V} {qs rs : List Rat} {lo hi lo' hi' : Rat} (B : Both K C H x y l l' va vb ws us qs rs lo hi lo' hi') (t : Same H H') : Both K C H' x y l l' va vb ws us qs rs lo hi lo' hi' :=
  ⟨B.hx.same t, B.hy.same t, B.a.same t, B.b.same t, t.seq B.s, t.seq B.s', B.h.same t, B.h'.same t⟩
/-- one row of the loop -/
def Row (K : PySem.W.Frag) (C : Addr) (H : Hp) (v : V) : Prop := ∃ (p z ll : Addr) (w : V) (ws : List V) (qs : List Rat) (lo hi : Rat), v = .ref p ∧ SqT K H p [.ref z, w, .ref ll] ∧ SpanR K C H z lo hi ∧ EndsAt K H w lo hi ∧ lo ≤ hi ∧ Sz 130 lo ∧ Sz 130 hi ∧ SqL K H ll ws ∧ Held K H ws qs lo hi
theorem Row.same {K : PySem.W.Frag} {C : Addr} {H H' : Hp} {v : V} (R : Row K C H v) (t : Same H H') : Row K C H' v := by
  obtain ⟨p, z, ll, w, ws, qs, lo, hi, e, hT, hz, hw, le, s1, s2, hS, hH⟩ := R
  exact ⟨p, z, ll, w, ws, qs, lo, hi, e, seqT_same t hT, hz.same t, hw.same t, le, s1, s2, t.seq hS, hH.same t⟩
section
variable {P : Program} {w : World} {K : PySem.W.Frag} {mg : Str → Option Value} {base : Heap}
theorem ok_law {C f fB fD fE fP fF fM fW fH fA fO fL fR fU fN fC fQ : Addr} {fd fdB fdD fdE fdP fdF fdM fdW fdH fdA fdO fdL fdR fdU fdN fdC fdQ : FuncData} (F : Fun K "law" "law" sLaw f fd)
    (Ba : Cal P w K mg base "_law_bag" 1 ["script"] (spBag K) fB fdB) (D : Cal P w K mg base "_law_pull" 1 ["bag", "many"] (spDraw K) fD fdD) (Len : Cal P w K mg base "_law_ends" 4 ["bag"] (spEnds K) fE fdE)
    (Lp : Cal P w K mg base "_law_plus" 2 ["a", "b"] (spOpR K (· + ·)) fP fdP) (Ft : Cal P w K mg base "_law_fit" 1 ["top", "bottom"] (spWorthR K) fF fdF) (MkS : CalC P w K mg base "Span" C 2 ["self", "low", "high"] (spInitR K C) fM fdM) (KS : KBn K fdM ["self", "low", "high"] 1 ["low", "high"] (fun us ws => us ++ ws) (fun vs zs => vs ++ zs))
    (Lwi : Cal P w K mg base "_law_within" 3 ["bag", "ends"] (spWithin K) fW fdW) (Lh : Cal P w K mg base "_law_holds" 4 ["span", "ends", "some"] (spHolds K C) fH fdH) (Lal : Cal P w K mg base "_law_alone" 6 ["span", "ends"] (spAlone K C) fA fdA) (Po : Cal P w K mg base "point" 4 ["value"] (spPointR K C) fO fdO)
    (Ll : Cal P w K mg base "_law_less" 1 ["a", "b"] (spLessR K) fL fdL) (Lr : Cal P w K mg base "_law_refused" 7 ["above", "below"] (spRef K) fR fdR) (Lm : Cal P w K mg base "_law_minus" 2 ["a", "b"] (spOpR K (· - ·)) fN fdN)
    (Lop : Cal P w K mg base "_law_operators" 7 ["first", "other", "a", "b", "some", "rest"] (spOper K C) fU fdU) (Lcm : Cal P w K mg base "_law_compared" 4 ["first", "other", "a", "b", "some", "rest"] (spOper K C) fC fdC) (T : SpT K mg C) (Eq : CalM P w K mg base C "__eq__" 1 ["self", "other"] (spEqS K C) fQ fdQ) :
    FnOk P w K mg base CX0 8 f fd ["script"] (spLaw K) := by
  refine F.ok scLaw (fun vs H Q E h => ?_) (fun cdv A outer s H vs Q E hr h => ?_)
  · obtain ⟨a, ns, rfl, _⟩ := h
    rfl
  · obtain ⟨sc, ns, rfl, hS, hl, q⟩ := h
    refine ⟨_, (pss_cons (ps_set (i := 1) scLaw.nd rfl (.inl rfl) (pe_call Ba.ok (hr.mono (by omega)) rfl Ba.g Ba.kp Ba.b .nil pass0 (pa_cons (pv 0) pa_nil)))
      (pss_cons (ps_set (i := 2) scLaw.nd rfl (.inl rfl) (pe_call Len.ok (hr.mono (by omega)) rfl Len.g Len.kp Len.b .nil pass0 (pa_cons (pv 1) pa_nil)))
      (C8.pss_cut (ps_set (i := 3) scLaw.nd rfl (.inl rfl) (pe_ifExp (pt_cmpR op_eq (pe_call D.ok (hr.mono (by omega)) rfl D.g D.kp D.b .nil pass0 (pa_cons (pv 1) (pa_cons pe_int pa_nil))) pe_int (nomark _)) (pv 2) (pe_call Len.ok (hr.mono (by omega)) rfl Len.g Len.kp Len.b .nil pass0 (pa_cons (pv 1) pa_nil))))
      (C8.pss_cut (ps_if (pt_cmpR op_eq (pe_call D.ok (hr.mono (by omega)) rfl D.g D.kp D.b .nil pass0 (pa_cons (pv 1) (pa_cons pe_int pa_nil))) pe_int (nomark _)) (pss_one (ps_set (i := 3) scLaw.nd rfl (.inl rfl) (pe_tup (pa_cons (pe_ix ix_tup (pv 2) pe_int (fun _ _ => rfl)) (pa_cons (pe_call Lp.ok (hr.mono (by omega)) rfl Lp.g Lp.kp Lp.b .nil pass0 (pa_cons (pe_ix ix_tup (pv 2) pe_int (fun _ _ => rfl)) (pa_cons (pe_call Ft.ok (hr.mono (by omega)) rfl Ft.g Ft.kp Ft.b .nil pass0 (pa_cons (pe_call D.ok (hr.mono (by omega)) rfl D.g D.kp D.b .nil pass0 (pa_cons (pv 1) (pa_cons pe_int pa_nil))) (pa_cons pe_int pa_nil))) pa_nil))) pa_nil))))) pss_nil)
      (pss_cons (ps_par (i := 4) (j := 5) rfl scLaw.nd rfl rfl (by decide) rfl rfl (pa_cons (pe_make MkS.m MkS.ok (hr.mono (by omega)) rfl MkS.g MkS.b .nil pass0 (pa_cons (pe_ix ix_tup (pv 2) pe_int (fun _ _ => rfl)) (pa_cons (pe_ix ix_tup (pv 2) pe_int (fun _ _ => rfl)) pa_nil))) (pa_cons (pe_makeK0 MkS.m MkS.ok (hr.mono (by omega)) rfl MkS.g KS pass0 (pk_cons (pe_ix ix_tup (pv 3) pe_int (fun _ _ => rfl)) (pk_cons (pe_ix ix_tup (pv 3) pe_int (fun _ _ => rfl)) pk_nil))) pa_nil)) rfl)
      (pss_cons (ps_par (i := 6) (j := 7) rfl scLaw.nd rfl rfl (by decide) rfl rfl (pa_cons (pe_call Lwi.ok (hr.mono (by omega)) rfl Lwi.g Lwi.kp Lwi.b .nil pass0 (pa_cons (pv 1) (pa_cons (pv 2) pa_nil))) (pa_cons (pe_call Lwi.ok (hr.mono (by omega)) rfl Lwi.g Lwi.kp Lwi.b .nil pass0 (pa_cons (pv 1) (pa_cons (pv 3) pa_nil))) pa_nil)) rfl)
      (pss_cons (ps_for PassesOwn.never rfl (pi_list (pe_lst (pa_cons (pe_tup (pa_cons (pv 4) (pa_cons (pv 2) (pa_cons (pv 6) pa_nil)))) (pa_cons (pe_tup (pa_cons (pv 5) (pa_cons (pv 3) (pa_cons (pv 7) pa_nil)))) pa_nil)))) (pg_tup rfl (pgs_cons (pg_name (i := 8) scLaw.nd rfl (.inl rfl)) (pgs_cons (pg_name (i := 9) scLaw.nd rfl (.inl rfl)) (pgs_cons (pg_name (i := 10) scLaw.nd rfl (.inl rfl)) pgs_nil))))
        (pss_cons (ps_if (PW.pt (pw_or (pt_not (pt_val (pe_call Lh.ok (hr.mono (by omega)) rfl Lh.g Lh.kp Lh.b .nil pass0 (pa_cons (pv 8) (pa_cons (pv 9) (pa_cons (pv 10) pa_nil)))))) (pw_or1 (pt_not (pt_val (pe_call Lal.ok (hr.mono (by omega)) rfl Lal.g Lal.kp Lal.b .nil pass0 (pa_cons (pv 8) (pa_cons (pv 9) pa_nil)))))))) (pss_one (ps_ret pe_bl)) pss_nil)
        (pss_one (ps_if (PW.pt (pw_or (pt_not (pt_val (pe_call Lh.ok (hr.mono (by omega)) rfl Lh.g Lh.kp Lh.b .nil pass0 (pa_cons (pe_call Po.ok (hr.mono (by omega)) rfl Po.g Po.kp Po.b .nil pass0 (pa_cons (pe_ix ix_list (pv 10) (pe_un un_neg pe_int) (fun _ _ => rfl)) pa_nil)) (pa_cons (pe_tup (pa_cons (pe_ix ix_list (pv 10) (pe_un un_neg pe_int) (fun _ _ => rfl)) (pa_cons (pe_ix ix_list (pv 10) (pe_un un_neg pe_int) (fun _ _ => rfl)) pa_nil))) (pa_cons (pe_lst (pa_cons (pe_ix ix_list (pv 10) (pe_un un_neg pe_int) (fun _ _ => rfl)) pa_nil)) pa_nil)))))) (pw_or1 (pt_not (pt_val (pe_call Lal.ok (hr.mono (by omega)) rfl Lal.g Lal.kp Lal.b .nil pass0 (pa_cons (pe_call Po.ok (hr.mono (by omega)) rfl Po.g Po.kp Po.b .nil pass0 (pa_cons (pe_ix ix_tup (pv 9) pe_int (fun _ _ => rfl)) pa_nil)) (pa_cons (pe_tup (pa_cons (pe_ix ix_tup (pv 9) pe_int (fun _ _ => rfl)) (pa_cons (pe_ix ix_tup (pv 9) pe_int (fun _ _ => rfl)) pa_nil))) pa_nil)))))))) (pss_one (ps_ret pe_bl)) pss_nil))))
      (C8.pss_cut (ps_if (PW.pt (pw_and (pt_val (pe_call Ll.ok (hr.mono (by omega)) rfl Ll.g Ll.kp Ll.b .nil pass0 (pa_cons (pe_ix ix_tup (pv 2) pe_int (fun _ _ => rfl)) (pa_cons (pe_ix ix_tup (pv 2) pe_int (fun _ _ => rfl)) pa_nil)))) (pw_and1 (pt_not (pt_val (pe_call Lr.ok (hr.mono (by omega)) rfl Lr.g Lr.kp Lr.b .nil pass0 (pa_cons (pe_ix ix_tup (pv 2) pe_int (fun _ _ => rfl)) (pa_cons (pe_ix ix_tup (pv 2) pe_int (fun _ _ => rfl)) pa_nil)))))))) (pss_one (ps_ret pe_bl)) pss_nil)
      (pss_cons (ps_if (pt_not (pt_val (pe_call Lr.ok (hr.mono (by omega)) rfl Lr.g Lr.kp Lr.b .nil pass0 (pa_cons (pe_ix ix_tup (pv 3) pe_int (fun _ _ => rfl)) (pa_cons (pe_call Lm.ok (hr.mono (by omega)) rfl Lm.g Lm.kp Lm.b .nil pass0 (pa_cons (pe_ix ix_tup (pv 3) pe_int (fun _ _ => rfl)) (pa_cons (pe_tup (pa_cons pe_int (pa_cons (pe_op op_powG pe_int pe_int) pa_nil))) pa_nil))) pa_nil))))) (pss_one (ps_ret pe_bl)) pss_nil)
      (pss_cons (ps_if (PW.pt (pw_or (pt_not (pt_val (pe_call Lop.ok (hr.mono (by omega)) rfl Lop.g Lop.kp Lop.b .nil pass0 (pa_cons (pv 4) (pa_cons (pv 5) (pa_cons (pv 2) (pa_cons (pv 3) (pa_cons (pv 6) (pa_cons (pv 7) pa_nil))))))))) (pw_or1 (pt_not (pt_val (pe_call Lop.ok (hr.mono (by omega)) rfl Lop.g Lop.kp Lop.b .nil pass0 (pa_cons (pv 5) (pa_cons (pv 4) (pa_cons (pv 3) (pa_cons (pv 2) (pa_cons (pv 7) (pa_cons (pv 6) pa_nil)))))))))))) (pss_one (ps_ret pe_bl)) pss_nil)
      (pss_cons (ps_if (PW.pt (pw_or (pt_not (pt_val (pe_call Lcm.ok (hr.mono (by omega)) rfl Lcm.g Lcm.kp Lcm.b .nil pass0 (pa_cons (pv 4) (pa_cons (pv 5) (pa_cons (pv 2) (pa_cons (pv 3) (pa_cons (pv 6) (pa_cons (pv 7) pa_nil))))))))) (pw_or1 (pt_not (pt_val (pe_call Lcm.ok (hr.mono (by omega)) rfl Lcm.g Lcm.kp Lcm.b .nil pass0 (pa_cons (pv 5) (pa_cons (pv 4) (pa_cons (pv 3) (pa_cons (pv 2) (pa_cons (pv 7) (pa_cons (pv 6) pa_nil)))))))))))) (pss_one (ps_ret pe_bl)) pss_nil)
      (pss_one (ps_ret (pe_and (pe_call Lop.ok (hr.mono (by omega)) rfl Lop.g Lop.kp Lop.b .nil pass0 (pa_cons (pv 4) (pa_cons (pv 4) (pa_cons (pv 2) (pa_cons (pv 2) (pa_cons (pv 6) (pa_cons (pv 6) pa_nil))))))) (pe_and (pe_call Lh.ok (hr.mono (by omega)) rfl Lh.g Lh.kp Lh.b .nil pass0 (pa_cons (pv 4) (pa_cons (pv 2) (pa_cons (pv 6) pa_nil)))) (pe_one (pe_cmpR op_eq (pe_cmpR (op_eqAny Eq.ok Eq.m.at_ Eq.m.fn Eq.b (hr.mono (by omega))) (pv 4) (pv 5) (nomark _)) (pe_cmpR (op_eqD hr.units) (pv 2) (pv 3) (nomark _)) (nomark _)))))))))))))))))), ?_⟩
    refine ⟨_, rfl, sc, ns, rfl, hS, fun b H1 s1 B1 _ => ?_⟩
    refine ⟨_, rfl, b, rfl, B1, fun va lo hi H2 ha le sl sh B2 t2 => ?_⟩
    refine ⟨fun σ' H' => ∃ vb lo' hi', σ' = [some (.ref sc), some (.ref b), some va, some vb, none, none, none, none, none, none, none] ∧ EndsAt K H' va lo hi ∧ EndsAt K H' vb lo' hi' ∧ lo' ≤ hi' ∧ Sz 120 lo' ∧ Sz 120 hi' ∧ BagAt K H' b, ?_, ?_⟩
    · refine ⟨_, rfl, b, _, rfl, B2, by decide, by decide, fun r H3 r0 r1 B3 t3 => ?_⟩
      have a3 := ha.bag B2 t3
      refine ⟨rfl, _, rfl, ite2 (fun _ => ?_) (fun _ => ?_)⟩
      · exact ⟨_, rfl, va, lo, hi, rfl, a3, a3, le, sl, sh, B3⟩
      · exact ⟨_, rfl, b, rfl, B3, fun vb lo' hi' H4 hb le' sl' sh' B4 t4 => ⟨vb, lo', hi', rfl, a3.bag B3 t4, hb, le', sl', sh', B4⟩⟩
    · rintro σ1 H3 ⟨vb0, lo0, hi0, rfl, a3, b3, le0, sl0, sh0, B3⟩
      have zl : Sz 130 lo := sl.mono (by decide)
      have zh : Sz 130 hi := sh.mono (by decide)
      refine ⟨fun σ' H' => ∃ vb lo' hi', σ' = [some (.ref sc), some (.ref b), some va, some vb, none, none, none, none, none, none, none] ∧ EndsAt K H' va lo hi ∧ EndsAt K H' vb lo' hi' ∧ lo' ≤ hi' ∧ Sz 130 lo' ∧ Sz 130 hi' ∧ BagAt K H' b, ?_, ?_⟩
      · refine ⟨_, rfl, b, _, rfl, B3, by decide, by decide, fun r H4 r0 r1 B4 t4 => ?_⟩
        have a4 := a3.bag B3 t4
        refine ⟨rfl, _, rfl, ite2 (fun _ => ?_) (fun _ => ?_)⟩
        · obtain ⟨t, l, h, rfl, hT, wl, wh⟩ := id a4
          refine ⟨_, rfl, t, _, 1, _, rfl, rfl, hT, atI_nat (j := 1) rfl, _, rfl, t, _, 1, _, rfl, rfl, hT, atI_nat (j := 1) rfl, _, rfl, b, _, rfl, B4, by decide, by decide, fun r2 H5 r20 r21 B5 t5 => ?_⟩
          refine ⟨_, _, rfl, Nat.lt_of_lt_of_le (show (2 : Int).natAbs < 2 ^ 4 by decide) (Nat.pow_le_pow_right (by decide) (by decide)), fun v H6 hv t6 => ?_⟩
          have sv : Sz 2 ((r2 : Rat) / ((2 : Int) : Rat)) := sz_div (n := 2) (by decide) (by show _ < 4; omega) (by decide)
          have u := (wh.bag B4 t5).same t6
          refine ⟨h, v, hi, _, rfl, u, hv, sh.mono (by decide), sv.mono (by decide), fun r' H7 hr7 t7 => ⟨(by show 2 ≤ sizeLine; decide), fun p np => ?_⟩⟩
          have t8 := same_upd (o := .tup [h, r']) np
          have u8 := (t6.trans t7).trans t8
          exact ⟨.ref p, hi, hi + (r2 : Rat) / ((2 : Int) : Rat), rfl, (a4.bag B4 t5).same u8, ⟨p, h, r', rfl, SqT.of upd_same, (u.same t7).same t8, hr7.same t8⟩, half_up r20, zh, (sz_add sh sv).mono (by decide), B5.same u8⟩
        · exact ⟨vb0, lo0, hi0, rfl, a4, b3.bag B3 t4, le0, sl0.mono (by decide), sh0.mono (by decide), B4⟩
      · rintro σ2 H4 ⟨vb, lo', hi', rfl, a4, b4, le', zl', zh', B4⟩
        obtain ⟨ta, la, ha', rfl, hTa, wla, wha⟩ := id a4
        obtain ⟨tb, lb, hb', rfl, hTb, wlb, whb⟩ := id b4
        have yl : Sz 3000 lo := zl.mono (by decide)
        have yh : Sz 3000 hi := zh.mono (by decide)
        have yl' : Sz 3000 lo' := zl'.mono (by decide)
        have yh' : Sz 3000 hi' := zh'.mono (by decide)
        refine ⟨_, rfl, ta, _, 0, _, rfl, rfl, hTa, atI_nat (j := 0) rfl, _, rfl, ta, _, 1, _, rfl, rfl, hTa, atI_nat (j := 1) rfl, new_spanA (C := C) wla wha yl yh le fun x H5 nx t5 hx => ?_⟩
        refine ⟨_, rfl, tb, _, 0, _, rfl, rfl, seqT_same t5 hTb, atI_nat (j := 0) rfl, _, rfl, tb, _, 1, _, rfl, rfl, seqT_same t5 hTb, atI_nat (j := 1) rfl, rfl, rfl, new_spanA (C := C) (wlb.same t5) (whb.same t5) yl' yh' le' fun y H6 ny t6 hy => ?_⟩
        have t46 := t5.trans t6
        have B6 := B4.same t46
        refine ⟨_, _, rfl, _, rfl, _, rfl, b, .ref ta, lo, hi, rfl, B6, a4.same t46, le, zl, zh, fun l1 ws qs H7 n1 e1 f1 hd1 B7 t7 => ?_⟩
        refine ⟨_, rfl, _, rfl, b, .ref tb, lo', hi', rfl, B7, (b4.same t46).bag B6 t7, le', zl', zh', fun l2 us rs H8 n2 e2 f2 hd2 B8 t8 => ⟨_, _, rfl, ?_⟩⟩
        have G8 : Both K C H8 x y l1 l2 (.ref ta) (.ref tb) ws us qs rs lo hi lo' hi' :=
          ⟨((hx.same t6).bag B6 t7).bag B7 t8, (hy.bag B6 t7).bag B7 t8, ((a4.same t46).bag B6 t7).bag B7 t8, ((b4.same t46).bag B6 t7).bag B7 t8, SqL.of (t8 _ _ n1 e1), SqL.of e2, hd1.bag B7 t8, hd2⟩
        clear hx hy a4 b4 hTa hTb wla wha wlb whb B4 B6 B7 B8 t5 t6 t46 t7 t8 e1 e2 hd1 hd2 n1 n2 f1 f2 nx ny a3 b3 B3 ha B1 B2 t2
        refine ⟨_, rfl, _, rfl, _, rfl, (by show 3 ≤ sizeLine; decide), fun p1 m1 => ⟨_, rfl, _, rfl, _, rfl, (by show 3 ≤ sizeLine; decide), fun p2 m2 => ⟨(by show 2 ≤ sizeLine; decide), fun L nL => ⟨L, rfl, ⟨_, SqL.of upd_same⟩, ?_⟩⟩⟩⟩
        have t9 := same_upd (o := .tup [.ref x, .ref ta, .ref l1]) m1
        have t10 := same_upd (o := .tup [.ref y, .ref tb, .ref l2]) m2
        have t11 := same_upd (o := .lst [.ref p1, .ref p2]) nL
        have t12 := (t9.trans t10).trans t11
        have G12 := G8.same t12
        have row1 : Row K C (upd (upd (upd H8 p1 (.tup [.ref x, .ref ta, .ref l1])) p2 (.tup [.ref y, .ref tb, .ref l2])) L (.lst [.ref p1, .ref p2])) (.ref p1) := ⟨p1, x, l1, _, ws, qs, lo, hi, rfl, seqT_same (t10.trans t11) (SqT.of upd_same), G12.hx, G12.a, le, zl, zh, G12.s, G12.h⟩
        have row2 : Row K C (upd (upd (upd H8 p1 (.tup [.ref x, .ref ta, .ref l1])) p2 (.tup [.ref y, .ref tb, .ref l2])) L (.lst [.ref p1, .ref p2])) (.ref p2) := ⟨p2, y, l2, _, us, rs, lo', hi', rfl, seqT_same t11 (SqT.of upd_same), G12.hy, G12.b, le', zl', zh', G12.s', G12.h'⟩
        have hL : SqL K (upd (upd (upd H8 p1 (.tup [.ref x, .ref ta, .ref l1])) p2 (.tup [.ref y, .ref tb, .ref l2])) L (.lst [.ref p1, .ref p2])) L [.ref p1, .ref p2] := SqL.of upd_same
        generalize (upd (upd (upd H8 p1 (.tup [.ref x, .ref ta, .ref l1])) p2 (.tup [.ref y, .ref tb, .ref l2])) L (.lst [.ref p1, .ref p2])) = H12 at G12 row1 row2 hL ⊢
        clear t9 t10 t11 t12 m1 m2 nL G8
        refine for_list (xs := [.ref p1, .ref p2]) (fun i σ' H' => ∃ a8 a9 a10, σ' = [some (.ref sc), some (.ref b), some (.ref ta), some (.ref tb), some (.ref x), some (.ref y), some (.ref l1), some (.ref l2), a8, a9, a10] ∧ Same H12 H') ⟨_, _, _, rfl, Same.refl _⟩ (fun i σ' H' _ ⟨_, _, _, _, s⟩ => s.seq hL) ?_ ?_
        · rintro i v σ' H' hv ⟨a8, a9, a10, rfl, u1⟩
          have hR : Row K C H12 v := by
            have := List.mem_of_getElem? hv
            simp only [List.mem_cons, List.not_mem_nil, or_false] at this
            rcases this with rfl | rfl
            · exact row1
            · exact row2
          obtain ⟨p, z, ll, w', vs, ks, l, h, rfl, hT, hz, hw, lh, y1, y2, hS', hH⟩ := hR.same u1
          refine ⟨p, _, rfl, hT, rfl, _, _, rfl, _, _, rfl, _, _, rfl, rfl, ?_⟩
          obtain ⟨hr4, len4, ml, mh, hq4⟩ := id hH
          have hq1 : ∀ q ∈ ks, l ≤ q ∧ q ≤ h ∧ Sz 3000 q := fun q hq => ⟨(hq4 q hq).1, (hq4 q hq).2.1, (hq4 q hq).2.2.mono (by decide)⟩
          refine ⟨_, rfl, _, rfl, _, rfl, z, ll, w', vs, ks, l, h, rfl, hz, hw, hS', hr4, y1.mono (by decide), y2.mono (by decide), hq1, by omega, fun Ha ta' => ?_⟩
          refine ⟨_, rfl, iteF ⟨_, rfl, _, rfl, z, w', l, h, rfl, hz.same ta', hw.same ta', lh, y1.mono (by decide), y2.mono (by decide), fun Hb tb' => ⟨_, rfl, iteF ?_⟩⟩⟩
          have ub := ta'.trans tb'
          obtain ⟨v0, v1, v2, v3, rfl⟩ : ∃ v0 v1 v2 v3, vs = [v0, v1, v2, v3] := by
            have e := hr4.len
            rw [len4] at e
            match vs, e with
            | [v0, v1, v2, v3], _ => exact ⟨_, _, _, _, rfl⟩
          obtain ⟨k3, e3, r3⟩ := hr4.get (i := 3) (v := v3) rfl
          have m3 := List.mem_of_getElem? e3
          have z3 := (hq4 _ m3).2.2
          have i3 : ∀ G, Same H' G → IsR K G v3 k3 := fun G s => r3.same s
          have e31 : atI [v0, v1, v2, v3] (-1) = some v3 := atI_last [v0, v1, v2] v3
          refine ⟨_, rfl, _, rfl, ll, _, -1, _, rfl, rfl, ub.seq hS', e31, v3, k3, rfl, i3 _ ub, z3.mono (by decide), fun o Hc no tc ho => ?_⟩
          have uc := ub.trans tc
          refine ⟨_, rfl, _, rfl, ll, _, -1, _, rfl, rfl, uc.seq hS', e31, _, rfl, _, rfl, ll, _, -1, _, rfl, rfl, uc.seq hS', e31, (by show 2 ≤ sizeLine; decide), fun pd nd => ?_⟩
          have td := same_upd (o := .tup [v3, v3]) nd
          have ud := uc.trans td
          refine ⟨_, rfl, _, rfl, ll, _, -1, _, rfl, rfl, ud.seq hS', e31, (by show 1 ≤ sizeLine; decide), fun pe ne => ?_⟩
          have te := same_upd (o := .lst [v3]) ne
          have ue := ud.trans te
          refine ⟨o, pe, .ref pd, [v3], [k3], k3, k3, rfl, (ho.same td).same te, ⟨pd, v3, v3, rfl, seqT_same te (SqT.of upd_same), i3 _ ue, i3 _ ue⟩, SqL.of upd_same, ⟨i3 _ ue, True.intro⟩, z3.mono (by decide), z3.mono (by decide), ?_, by show 1 ≤ 100; decide, fun Hf tf => ?_⟩
          · intro q hq
            rw [List.mem_singleton] at hq
            subst hq
            exact ⟨Rat.le_refl, Rat.le_refl, z3.mono (by decide)⟩
          · have uf := ue.trans tf
            refine ⟨_, rfl, iteF ?_⟩
            obtain ⟨tw, w0, w1, rfl, hTw, iw0, iw1⟩ := id hw
            refine ⟨_, rfl, tw, _, 1, _, rfl, rfl, seqT_same uf hTw, atI_nat (j := 1) rfl, w1, h, rfl, iw1.same uf, y2.mono (by decide), fun o2 Hg no2 tg ho2 => ?_⟩
            have ug := uf.trans tg
            refine ⟨_, rfl, tw, _, 1, _, rfl, rfl, seqT_same ug hTw, atI_nat (j := 1) rfl, _, rfl, tw, _, 1, _, rfl, rfl, seqT_same ug hTw, atI_nat (j := 1) rfl, (by show 2 ≤ sizeLine; decide), fun ph nh => ?_⟩
            have th := same_upd (o := .tup [w1, w1]) nh
            have uh := ug.trans th
            refine ⟨o2, .ref ph, h, h, rfl, ho2.same th, ⟨ph, w1, w1, rfl, SqT.of upd_same, iw1.same uh, iw1.same uh⟩, Rat.le_refl, y2.mono (by decide), y2.mono (by decide), fun Hi ti => ⟨_, rfl, iteF ?_⟩⟩
            exact ⟨_, _, _, rfl, (u1.trans uh).trans ti⟩
        · rintro σ' H13 ⟨a8, a9, a10, rfl, u1⟩
          have G13 := G12.same u1
          refine ⟨fun σ' H' => σ' = [some (.ref sc), some (.ref b), some (.ref ta), some (.ref tb), some (.ref x), some (.ref y), some (.ref l1), some (.ref l2), a8, a9, a10] ∧ Same H13 H', ?_, ?_⟩
          · obtain ⟨t', la, ha, e, hTa, wla, wha⟩ := id G13.a
            cases e
            refine ⟨_, rfl, ta, _, 0, _, rfl, rfl, hTa, atI_nat (j := 0) rfl, _, rfl, ta, _, 1, _, rfl, rfl, hTa, atI_nat (j := 1) rfl, la, ha, lo, hi, rfl, wla, wha, yl, yh, _, rfl, ite2 (fun c => ?_) (fun c => ?_)⟩
            · exact ⟨_, rfl, ta, _, 1, _, rfl, rfl, hTa, atI_nat (j := 1) rfl, _, rfl, ta, _, 0, _, rfl, rfl, hTa, atI_nat (j := 0) rfl, ha, la, hi, lo, rfl, wha, wla, yh, yl, of_decide_eq_true c, fun Ha t1 => ⟨_, rfl, iteF ⟨rfl, t1⟩⟩⟩
            · exact ⟨rfl, Same.refl _⟩
          · rintro σ2 H14 ⟨rfl, u2⟩
            have G14 := G13.same u2
            obtain ⟨t', lb, hb, e, hTb, wlb, whb⟩ := id G14.b
            cases e
            refine ⟨_, rfl, tb, _, 0, _, rfl, rfl, hTb, atI_nat (j := 0) rfl, _, rfl, tb, _, 0, _, rfl, rfl, hTb, atI_nat (j := 0) rfl, ?_⟩
            refine ⟨_, _, rfl, rfl, ⟨by decide, by decide +kernel⟩, (by show 2 ≤ sizeLine; decide), fun p np => ?_⟩
            have t1 := same_upd (o := .tup [.int 1, .int (10 ^ Int.toNat 20)]) np
            have sz20 : Sz 67 (1 / 100000000000000000000 : Rat) := ⟨by decide +kernel, by decide +kernel⟩
            refine ⟨lb, .ref p, lo', (1 / 100000000000000000000 : Rat), rfl, wlb.same t1, isr_least (SqT.of upd_same), yl', sz20.mono (by decide), fun r H15 hr t2 => ?_⟩
            have u15 := t1.trans t2
            refine ⟨lb, r, lo', _, rfl, wlb.same u15, hr, yl', (sz_sub zl' sz20).mono (by decide), ?_, fun H16 t3 => ⟨_, rfl, iteF ?_⟩⟩
            · have : (0 : Rat) < 1 / 100000000000000000000 := by decide +kernel
              grind
            · have G16 := (G14.same u15).same t3
              refine ⟨_, rfl, _, rfl, _, rfl, _, rfl, _, rfl, _, rfl, x, y, l1, l2, .ref ta, .ref tb, ws, us, qs, rs, lo, hi, lo', hi', rfl, G16.hx, G16.hy, G16.a, G16.b, le, le', zl, zh, zl', zh', G16.s, G16.h, G16.s', G16.h', fun H17 t17 => ⟨_, rfl, iteF ?_⟩⟩
              have G17 := G16.same t17
              refine ⟨_, rfl, _, rfl, _, rfl, _, rfl, _, rfl, _, rfl, y, x, l2, l1, .ref tb, .ref ta, us, ws, rs, qs, lo', hi', lo, hi, rfl, G17.hy, G17.hx, G17.b, G17.a, le', le, zl', zh', zl, zh, G17.s', G17.h', G17.s, G17.h, fun H18 t18 => ⟨_, rfl, iteF ?_⟩⟩
              have G18 := G17.same t18
              refine ⟨_, rfl, _, rfl, _, rfl, _, rfl, _, rfl, _, rfl, x, y, l1, l2, .ref ta, .ref tb, ws, us, qs, rs, lo, hi, lo', hi', rfl, G18.hx, G18.hy, G18.a, G18.b, le, le', zl, zh, zl', zh', G18.s, G18.h, G18.s', G18.h', fun H19 t19 => ⟨_, rfl, iteF ?_⟩⟩
              have G19 := G18.same t19
              refine ⟨_, rfl, _, rfl, _, rfl, _, rfl, _, rfl, _, rfl, y, x, l2, l1, .ref tb, .ref ta, us, ws, rs, qs, lo', hi', lo, hi, rfl, G19.hy, G19.hx, G19.b, G19.a, le', le, zl', zh', zl, zh, G19.s', G19.h', G19.s, G19.h, fun H20 t20 => ⟨_, rfl, iteF ?_⟩⟩
              have G20 := G19.same t20
              refine ⟨_, rfl, _, rfl, _, rfl, _, rfl, _, rfl, _, rfl, x, x, l1, l1, .ref ta, .ref ta, ws, ws, qs, qs, lo, hi, lo, hi, rfl, G20.hx, G20.hx, G20.a, G20.a, le, le, zl, zh, zl, zh, G20.s, G20.h, G20.s, G20.h, fun H21 t21 => ?_⟩
              have G21 := G20.same t21
              refine ⟨_, rfl, iteT ?_⟩
              refine ⟨_, rfl, _, rfl, _, rfl, x, l1, .ref ta, ws, qs, lo, hi, rfl, G21.hx, G21.a, G21.s, G21.h.1, zl.mono (by decide), zh.mono (by decide), fun q hq => ⟨(G21.h.2.2.2.2 q hq).1, (G21.h.2.2.2.2 q hq).2.1, (G21.h.2.2.2.2 q hq).2.2.mono (by decide)⟩, by have := G21.h.2.1; omega, fun H22 t22 => ?_⟩
              have G22 := G21.same t22
              refine ⟨_, rfl, iteT ?_⟩
              obtain ⟨dx, _, _, ex, _⟩ := id G22.hx
              obtain ⟨dy, _, _, ey, _⟩ := id G22.hy
              obtain ⟨ta', la, ha, e, hTa, wla, wha⟩ := id G22.a
              cases e
              obtain ⟨tb', lb2, hb2, e, hTb2, wlb2, whb2⟩ := id G22.b
              cases e
              refine ⟨_, rfl, _, rfl, x, dx, _, _, rfl, ex, T.ty ey, nf_self, x, _, lo, hi, rfl, G22.hx, .inl ⟨y, lo', hi', rfl, G22.hy, ?_⟩⟩
              refine ⟨_, rfl, _, rfl, _, _, .tup hTa (dp_pair wla wha), .tup hTb2 (dp_pair wlb2 whb2), rfl, rfl, ?_⟩
              rw [eqv_pair]
              refine ⟨by cases decide (lo = lo') && decide (hi = hi') <;> rfl, ?_⟩
              rw [decide_eq_true rfl]
              exact q _
end
end My

set_option Elab.async false
set_option linter.all false
set_option maxRecDepth 100000
namespace My
open PySem PySem.Spec PyProof.Rows L2
theorem isc_of {K : PySem.W.Frag} {C : Addr} (h : PySem.W.hasDictIn K C = true) : (PySem.W.clsIn K C).isSome = true := by
  obtain ⟨cd, hc, _⟩ := PySem.W.any_some h
  rw [hc]
  rfl
theorem kit_cl {K : PySem.W.Frag} {C : Addr} {v : Value} {b : Bool} (h : PySem.W.hasDictIn K C = true) (t : PySem.W.typeIn K (.ref C) = some (.type "type")) (s : PySem.W.subIn K v (.ref C) = some b) : PySem.W.kitCls K v (.ref C) = some b := by
  unfold PySem.W.kitCls
  dsimp only
  rw [isc_of h, t]
  exact s
theorem kit_sub {K : PySem.W.Frag} {C : Addr} {v : Value} (h : PySem.W.hasDictIn K C = true) (t : PySem.W.typeIn K (.ref C) = some (.type "type")) (s : PySem.W.subIn K v (.ref C) = some true) : PySem.W.kitOne K v (.ref C) = some true := by
  unfold PySem.W.kitOne
  split
  · rfl
  · exact kit_cl h t s
theorem kit_no {K : PySem.W.Frag} {C D : Addr} (z : PySem.W.subIn K (.ref D) (.ref D) = some true) (h : PySem.W.hasDictIn K C = true) (t : PySem.W.typeIn K (.ref C) = some (.type "type")) (s : PySem.W.subIn K (.ref D) (.ref C) = some false) : PySem.W.kitOne K (.ref D) (.ref C) = some false := by
  unfold PySem.W.kitOne
  split
  · rename_i e
    rw [← beq_iff_eq.mp e, z] at s
    cases s
  · exact kit_cl h t s
set_option maxHeartbeats 1000000 in
theorem all_mk {l : PySem.W.OpenLaw} {w : World} {K : PySem.W.Frag} {h : Heap} {mg : Str → Option Value} {fa : Addr} (X : K.In h) (G : h.Ns mainGlobals mg) (hfa : mg "law" = some (.ref fa))
    {CSpan CI CE CN : Addr}
    {f0 : Addr} {od0 an0 : Option Addr} {sl0 : Array (Option Value)} {oc0 kV0 dc0 pm0 cd0 ct0 : Value}
    {f1 : Addr} {od1 an1 : Option Addr} {sl1 : Array (Option Value)} {oc1 kV1 dc1 pm1 cd1 ct1 : Value}
    {f2 : Addr} {od2 an2 : Option Addr} {sl2 : Array (Option Value)} {oc2 kV2 dc2 pm2 cd2 ct2 : Value}
    {f3 : Addr} {od3 an3 : Option Addr} {sl3 : Array (Option Value)} {oc3 kV3 dc3 pm3 cd3 ct3 : Value}
    {f4 : Addr} {od4 an4 : Option Addr} {sl4 : Array (Option Value)} {oc4 kV4 dc4 pm4 cd4 ct4 : Value}
    {f5 : Addr} {od5 an5 : Option Addr} {sl5 : Array (Option Value)} {oc5 kV5 dc5 pm5 cd5 ct5 : Value}
    {f6 : Addr} {od6 an6 : Option Addr} {sl6 : Array (Option Value)} {oc6 kV6 dc6 pm6 cd6 ct6 : Value}
    {f7 : Addr} {od7 an7 : Option Addr} {sl7 : Array (Option Value)} {oc7 kV7 dc7 pm7 cd7 ct7 : Value}
    {f8 : Addr} {od8 an8 : Option Addr} {sl8 : Array (Option Value)} {oc8 kV8 dc8 pm8 cd8 ct8 : Value}
    {f9 : Addr} {od9 an9 : Option Addr} {sl9 : Array (Option Value)} {oc9 kV9 dc9 pm9 cd9 ct9 : Value}
    {f10 : Addr} {od10 an10 : Option Addr} {sl10 : Array (Option Value)} {oc10 kV10 dc10 pm10 cd10 ct10 : Value}
    {f11 : Addr} {od11 an11 : Option Addr} {sl11 : Array (Option Value)} {oc11 kV11 dc11 pm11 cd11 ct11 : Value}
    {f12 : Addr} {od12 an12 : Option Addr} {sl12 : Array (Option Value)} {oc12 kV12 dc12 pm12 cd12 ct12 : Value}
    {f13 : Addr} {od13 an13 : Option Addr} {sl13 : Array (Option Value)} {oc13 kV13 dc13 pm13 cd13 ct13 : Value}
    {f14 : Addr} {od14 an14 : Option Addr} {sl14 : Array (Option Value)} {oc14 kV14 dc14 pm14 cd14 ct14 : Value}
    {f15 : Addr} {od15 an15 : Option Addr} {sl15 : Array (Option Value)} {oc15 kV15 dc15 pm15 cd15 ct15 : Value}
    {f16 : Addr} {od16 an16 : Option Addr} {sl16 : Array (Option Value)} {oc16 kV16 dc16 pm16 cd16 ct16 : Value}
    {f17 : Addr} {od17 an17 : Option Addr} {sl17 : Array (Option Value)} {oc17 kV17 dc17 pm17 cd17 ct17 : Value}
    {f18 : Addr} {od18 an18 : Option Addr} {sl18 : Array (Option Value)} {oc18 kV18 dc18 pm18 cd18 ct18 : Value}
    {f19 : Addr} {od19 an19 : Option Addr} {sl19 : Array (Option Value)} {oc19 kV19 dc19 pm19 cd19 ct19 : Value}
    {f20 : Addr} {od20 an20 : Option Addr} {sl20 : Array (Option Value)} {oc20 kV20 dc20 pm20 cd20 ct20 : Value}
    {f21 : Addr} {od21 an21 : Option Addr} {sl21 : Array (Option Value)} {oc21 kV21 dc21 pm21 cd21 ct21 : Value}
    {f22 : Addr} {od22 an22 : Option Addr} {sl22 : Array (Option Value)} {oc22 kV22 dc22 pm22 cd22 ct22 : Value}
    {f23 : Addr} {od23 an23 : Option Addr} {sl23 : Array (Option Value)} {oc23 kV23 dc23 pm23 cd23 ct23 : Value}
    {f24 : Addr} {od24 an24 : Option Addr} {sl24 : Array (Option Value)} {oc24 kV24 dc24 pm24 cd24 ct24 : Value}
    {f25 : Addr} {od25 an25 : Option Addr} {sl25 : Array (Option Value)} {oc25 kV25 dc25 pm25 cd25 ct25 : Value}
    {f26 : Addr} {od26 an26 : Option Addr} {sl26 : Array (Option Value)} {oc26 kV26 dc26 pm26 cd26 ct26 : Value}
    {f27 : Addr} {od27 an27 : Option Addr} {sl27 : Array (Option Value)} {oc27 kV27 dc27 pm27 cd27 ct27 : Value}
    {f28 : Addr} {od28 an28 : Option Addr} {sl28 : Array (Option Value)} {oc28 kV28 dc28 pm28 cd28 ct28 : Value}
    {f29 : Addr} {od29 an29 : Option Addr} {sl29 : Array (Option Value)} {oc29 kV29 dc29 pm29 cd29 ct29 : Value}
    {f30 : Addr} {od30 an30 : Option Addr} {sl30 : Array (Option Value)} {oc30 kV30 dc30 pm30 cd30 ct30 : Value}
    {f31 : Addr} {od31 an31 : Option Addr} {sl31 : Array (Option Value)} {oc31 kV31 dc31 pm31 cd31 ct31 : Value}
    {f32 : Addr} {od32 an32 : Option Addr} {sl32 : Array (Option Value)} {oc32 kV32 dc32 pm32 cd32 ct32 : Value}
    {f33 : Addr} {od33 an33 : Option Addr} {sl33 : Array (Option Value)} {oc33 kV33 dc33 pm33 cd33 ct33 : Value}
    {f34 : Addr} {od34 an34 : Option Addr} {sl34 : Array (Option Value)} {oc34 kV34 dc34 pm34 cd34 ct34 : Value}
    {f35 : Addr} {od35 an35 : Option Addr} {sl35 : Array (Option Value)} {oc35 kV35 dc35 pm35 cd35 ct35 : Value}
    {f36 : Addr} {od36 an36 : Option Addr} {sl36 : Array (Option Value)} {oc36 kV36 dc36 pm36 cd36 ct36 : Value}
    {f37 : Addr} {od37 an37 : Option Addr} {sl37 : Array (Option Value)} {oc37 kV37 dc37 pm37 cd37 ct37 : Value}
    {f38 : Addr} {od38 an38 : Option Addr} {sl38 : Array (Option Value)} {oc38 kV38 dc38 pm38 cd38 ct38 : Value}
    {f39 : Addr} {od39 an39 : Option Addr} {sl39 : Array (Option Value)} {oc39 kV39 dc39 pm39 cd39 ct39 : Value}
    {f40 : Addr} {od40 an40 : Option Addr} {sl40 : Array (Option Value)} {oc40 kV40 dc40 pm40 cd40 ct40 : Value}
    {f41 : Addr} {od41 an41 : Option Addr} {sl41 : Array (Option Value)} {oc41 kV41 dc41 pm41 cd41 ct41 : Value}
    {f42 : Addr} {od42 an42 : Option Addr} {sl42 : Array (Option Value)} {oc42 kV42 dc42 pm42 cd42 ct42 : Value}
    {f43 : Addr} {od43 an43 : Option Addr} {sl43 : Array (Option Value)} {oc43 kV43 dc43 pm43 cd43 ct43 : Value}
    {f44 : Addr} {od44 an44 : Option Addr} {sl44 : Array (Option Value)} {oc44 kV44 dc44 pm44 cd44 ct44 : Value}
    {f45 : Addr} {od45 an45 : Option Addr} {sl45 : Array (Option Value)} {oc45 kV45 dc45 pm45 cd45 ct45 : Value}
    {f46 : Addr} {od46 an46 : Option Addr} {sl46 : Array (Option Value)} {oc46 kV46 dc46 pm46 cd46 ct46 : Value}
    {f47 : Addr} {od47 an47 : Option Addr} {sl47 : Array (Option Value)} {oc47 kV47 dc47 pm47 cd47 ct47 : Value}
    {f48 : Addr} {od48 an48 : Option Addr} {sl48 : Array (Option Value)} {oc48 kV48 dc48 pm48 cd48 ct48 : Value}
    {f49 : Addr} {od49 an49 : Option Addr} {sl49 : Array (Option Value)} {oc49 kV49 dc49 pm49 cd49 ct49 : Value}
    {f50 : Addr} {od50 an50 : Option Addr} {sl50 : Array (Option Value)} {oc50 kV50 dc50 pm50 cd50 ct50 : Value}
    {f51 : Addr} {od51 an51 : Option Addr} {sl51 : Array (Option Value)} {oc51 kV51 dc51 pm51 cd51 ct51 : Value}
    {f52 : Addr} {od52 an52 : Option Addr} {sl52 : Array (Option Value)} {oc52 kV52 dc52 pm52 cd52 ct52 : Value}
    {f53 : Addr} {od53 an53 : Option Addr} {sl53 : Array (Option Value)} {oc53 kV53 dc53 pm53 cd53 ct53 : Value}
    {f54 : Addr} {od54 an54 : Option Addr} {sl54 : Array (Option Value)} {oc54 kV54 dc54 pm54 cd54 ct54 : Value}
    {f55 : Addr} {od55 an55 : Option Addr} {sl55 : Array (Option Value)} {oc55 kV55 dc55 pm55 cd55 ct55 : Value}
    {f56 : Addr} {od56 an56 : Option Addr} {sl56 : Array (Option Value)} {oc56 kV56 dc56 pm56 cd56 ct56 : Value}
    {Lv : Int} {tkL tz0 tz1 tt tkF : Tok} {aZ aT : Addr} {odZ odT : Option Addr} {nZ nT : Nat} {slZ slT : Array (Option Value)} {ocT : Value}
    (a0 : PySem.W.nsIn K mainGlobals "is_less" = some (some (.ref f0)))
    (l0 : K.lookup f0 = some ⟨oc0, od0, .func (PySem.W.fnOf "is_less" "is_less" (defArgs sIsLess) (defBody sIsLess) (defScope sIsLess) .none kV0 dc0 pm0 an0 cd0 ct0), sl0⟩) (c0 : PySem.W.codeIn K cd0 "is_less" = true) (k0 : PySem.W.keepIn K (.ref f0) = true)
    (a1 : PySem.W.nsIn K mainGlobals "worth" = some (some (.ref f1)))
    (l1 : K.lookup f1 = some ⟨oc1, od1, .func (PySem.W.fnOf "worth" "worth" (defArgs sWorth) (defBody sWorth) (defScope sWorth) (.ref aT) kV1 dc1 pm1 an1 cd1 ct1), sl1⟩) (c1 : PySem.W.codeIn K cd1 "worth" = true) (k1 : PySem.W.keepIn K (.ref f1) = true)
    (a2 : PySem.W.nsIn K mainGlobals "plus" = some (some (.ref f2)))
    (l2 : K.lookup f2 = some ⟨oc2, od2, .func (PySem.W.fnOf "plus" "plus" (defArgs sPlus) (defBody sPlus) (defScope sPlus) .none kV2 dc2 pm2 an2 cd2 ct2), sl2⟩) (c2 : PySem.W.codeIn K cd2 "plus" = true) (k2 : PySem.W.keepIn K (.ref f2) = true)
    (a3 : PySem.W.nsIn K mainGlobals "minus" = some (some (.ref f3)))
    (l3 : K.lookup f3 = some ⟨oc3, od3, .func (PySem.W.fnOf "minus" "minus" (defArgs sMinus) (defBody sMinus) (defScope sMinus) .none kV3 dc3 pm3 an3 cd3 ct3), sl3⟩) (c3 : PySem.W.codeIn K cd3 "minus" = true) (k3 : PySem.W.keepIn K (.ref f3) = true)
    (a4 : PySem.W.nsIn K mainGlobals "product" = some (some (.ref f4)))
    (l4 : K.lookup f4 = some ⟨oc4, od4, .func (PySem.W.fnOf "product" "product" (defArgs sProduct) (defBody sProduct) (defScope sProduct) .none kV4 dc4 pm4 an4 cd4 ct4), sl4⟩) (c4 : PySem.W.codeIn K cd4 "product" = true) (k4 : PySem.W.keepIn K (.ref f4) = true)
    (a5 : PySem.W.nsIn K mainGlobals "quotient" = some (some (.ref f5)))
    (l5 : K.lookup f5 = some ⟨oc5, od5, .func (PySem.W.fnOf "quotient" "quotient" (defArgs sQuotient) (defBody sQuotient) (defScope sQuotient) .none kV5 dc5 pm5 an5 cd5 ct5), sl5⟩) (c5 : PySem.W.codeIn K cd5 "quotient" = true) (k5 : PySem.W.keepIn K (.ref f5) = true)
    (a6 : PySem.W.nsIn K mainGlobals "floor_of" = some (some (.ref f6)))
    (l6 : K.lookup f6 = some ⟨oc6, od6, .func (PySem.W.fnOf "floor_of" "floor_of" (defArgs sFloorOf) (defBody sFloorOf) (defScope sFloorOf) .none kV6 dc6 pm6 an6 cd6 ct6), sl6⟩) (c6 : PySem.W.codeIn K cd6 "floor_of" = true) (k6 : PySem.W.keepIn K (.ref f6) = true)
    (a7 : PySem.W.nsIn K mainGlobals "lesser" = some (some (.ref f7)))
    (l7 : K.lookup f7 = some ⟨oc7, od7, .func (PySem.W.fnOf "lesser" "lesser" (defArgs sLesser) (defBody sLesser) (defScope sLesser) .none kV7 dc7 pm7 an7 cd7 ct7), sl7⟩) (c7 : PySem.W.codeIn K cd7 "lesser" = true) (k7 : PySem.W.keepIn K (.ref f7) = true)
    (a8 : PySem.W.nsIn K mainGlobals "greater" = some (some (.ref f8)))
    (l8 : K.lookup f8 = some ⟨oc8, od8, .func (PySem.W.fnOf "greater" "greater" (defArgs sGreater) (defBody sGreater) (defScope sGreater) .none kV8 dc8 pm8 an8 cd8 ct8), sl8⟩) (c8 : PySem.W.codeIn K cd8 "greater" = true) (k8 : PySem.W.keepIn K (.ref f8) = true)
    (a9 : PySem.W.nsIn K mainGlobals "number_text" = some (some (.ref f9)))
    (l9 : K.lookup f9 = some ⟨oc9, od9, .func (PySem.W.fnOf "number_text" "number_text" (defArgs sNumberText) (defBody sNumberText) (defScope sNumberText) .none kV9 dc9 pm9 an9 cd9 ct9), sl9⟩) (c9 : PySem.W.codeIn K cd9 "number_text" = true) (k9 : PySem.W.keepIn K (.ref f9) = true)
    (a10 : PySem.W.nsIn K mainGlobals "worth_text" = some (some (.ref f10)))
    (l10 : K.lookup f10 = some ⟨oc10, od10, .func (PySem.W.fnOf "worth_text" "worth_text" (defArgs sWorthText) (defBody sWorthText) (defScope sWorthText) .none kV10 dc10 pm10 an10 cd10 ct10), sl10⟩) (c10 : PySem.W.codeIn K cd10 "worth_text" = true) (k10 : PySem.W.keepIn K (.ref f10) = true)
    (a11 : PySem.W.nsIn K mainGlobals "kept" = some (some (.ref f11)))
    (l11 : K.lookup f11 = some ⟨oc11, od11, .func (PySem.W.fnOf "kept" "kept" (defArgs sKept) (defBody sKept) (defScope sKept) .none kV11 dc11 pm11 an11 cd11 ct11), sl11⟩) (c11 : PySem.W.codeIn K cd11 "kept" = true) (k11 : PySem.W.keepIn K (.ref f11) = true)
    (a12 : PySem.W.nsIn K mainGlobals "point" = some (some (.ref f12)))
    (l12 : K.lookup f12 = some ⟨oc12, od12, .func (PySem.W.fnOf "point" "point" (defArgs sPoint) (defBody sPoint) (defScope sPoint) .none kV12 dc12 pm12 an12 cd12 ct12), sl12⟩) (c12 : PySem.W.codeIn K cd12 "point" = true) (k12 : PySem.W.keepIn K (.ref f12) = true)
    (a13 : PySem.W.nsIn K mainGlobals "span_round" = some (some (.ref f13)))
    (l13 : K.lookup f13 = some ⟨oc13, od13, .func (PySem.W.fnOf "span_round" "span_round" (defArgs sSpanRound) (defBody sSpanRound) (defScope sSpanRound) .none kV13 dc13 pm13 an13 cd13 ct13), sl13⟩) (c13 : PySem.W.codeIn K cd13 "span_round" = true) (k13 : PySem.W.keepIn K (.ref f13) = true)
    (a14 : PySem.W.findIn K (.ref CI) "__init__" = some (some (.ref f14))) (i14 : PySem.W.isFn K (.ref f14) = true)
    (l14 : K.lookup f14 = some ⟨oc14, od14, .func (PySem.W.fnOf "__init__" "InvalidNumber.__init__" (defArgs sInvalidNumberInit) (defBody sInvalidNumberInit) (defScope sInvalidNumberInit) .none kV14 dc14 pm14 an14 cd14 ct14), sl14⟩) (c14 : PySem.W.codeIn K cd14 "InvalidNumber.__init__" = true) (k14 : PySem.W.keepIn K (.ref f14) = true)
    (a15 : PySem.W.findIn K (.ref CSpan) "__init__" = some (some (.ref f15))) (i15 : PySem.W.isFn K (.ref f15) = true)
    (l15 : K.lookup f15 = some ⟨oc15, od15, .func (PySem.W.fnOf "__init__" "Span.__init__" (defArgs sSpanInit) (defBody sSpanInit) (defScope sSpanInit) .none kV15 dc15 pm15 an15 cd15 ct15), sl15⟩) (c15 : PySem.W.codeIn K cd15 "Span.__init__" = true) (k15 : PySem.W.keepIn K (.ref f15) = true)
    (a16 : PySem.W.findIn K (.ref CSpan) "__add__" = some (some (.ref f16))) (i16 : PySem.W.isFn K (.ref f16) = true)
    (l16 : K.lookup f16 = some ⟨oc16, od16, .func (PySem.W.fnOf "__add__" "Span.__add__" (defArgs sSpanAdd) (defBody sSpanAdd) (defScope sSpanAdd) .none kV16 dc16 pm16 an16 cd16 ct16), sl16⟩) (c16 : PySem.W.codeIn K cd16 "Span.__add__" = true) (k16 : PySem.W.keepIn K (.ref f16) = true)
    (a17 : PySem.W.findIn K (.ref CSpan) "__sub__" = some (some (.ref f17))) (i17 : PySem.W.isFn K (.ref f17) = true)
    (l17 : K.lookup f17 = some ⟨oc17, od17, .func (PySem.W.fnOf "__sub__" "Span.__sub__" (defArgs sSpanSub) (defBody sSpanSub) (defScope sSpanSub) .none kV17 dc17 pm17 an17 cd17 ct17), sl17⟩) (c17 : PySem.W.codeIn K cd17 "Span.__sub__" = true) (k17 : PySem.W.keepIn K (.ref f17) = true)
    (a18 : PySem.W.findIn K (.ref CSpan) "__mul__" = some (some (.ref f18))) (i18 : PySem.W.isFn K (.ref f18) = true)
    (l18 : K.lookup f18 = some ⟨oc18, od18, .func (PySem.W.fnOf "__mul__" "Span.__mul__" (defArgs sSpanMul) (defBody sSpanMul) (defScope sSpanMul) .none kV18 dc18 pm18 an18 cd18 ct18), sl18⟩) (c18 : PySem.W.codeIn K cd18 "Span.__mul__" = true) (k18 : PySem.W.keepIn K (.ref f18) = true)
    (a19 : PySem.W.findIn K (.ref CSpan) "over" = some (some (.ref f19))) (i19 : PySem.W.isFn K (.ref f19) = true)
    (l19 : K.lookup f19 = some ⟨oc19, od19, .func (PySem.W.fnOf "over" "Span.over" (defArgs sSpanOver) (defBody sSpanOver) (defScope sSpanOver) .none kV19 dc19 pm19 an19 cd19 ct19), sl19⟩) (c19 : PySem.W.codeIn K cd19 "Span.over" = true) (k19 : PySem.W.keepIn K (.ref f19) = true)
    (a20 : PySem.W.findIn K (.ref CSpan) "floor" = some (some (.ref f20))) (i20 : PySem.W.isFn K (.ref f20) = true)
    (l20 : K.lookup f20 = some ⟨oc20, od20, .func (PySem.W.fnOf "floor" "Span.floor" (defArgs sSpanFloor) (defBody sSpanFloor) (defScope sSpanFloor) .none kV20 dc20 pm20 an20 cd20 ct20), sl20⟩) (c20 : PySem.W.codeIn K cd20 "Span.floor" = true) (k20 : PySem.W.keepIn K (.ref f20) = true)
    (a21 : PySem.W.findIn K (.ref CSpan) "least" = some (some (.ref f21))) (i21 : PySem.W.isFn K (.ref f21) = true)
    (l21 : K.lookup f21 = some ⟨oc21, od21, .func (PySem.W.fnOf "least" "Span.least" (defArgs sSpanLeast) (defBody sSpanLeast) (defScope sSpanLeast) .none kV21 dc21 pm21 an21 cd21 ct21), sl21⟩) (c21 : PySem.W.codeIn K cd21 "Span.least" = true) (k21 : PySem.W.keepIn K (.ref f21) = true)
    (a22 : PySem.W.findIn K (.ref CSpan) "greatest" = some (some (.ref f22))) (i22 : PySem.W.isFn K (.ref f22) = true)
    (l22 : K.lookup f22 = some ⟨oc22, od22, .func (PySem.W.fnOf "greatest" "Span.greatest" (defArgs sSpanGreatest) (defBody sSpanGreatest) (defScope sSpanGreatest) .none kV22 dc22 pm22 an22 cd22 ct22), sl22⟩) (c22 : PySem.W.codeIn K cd22 "Span.greatest" = true) (k22 : PySem.W.keepIn K (.ref f22) = true)
    (a23 : PySem.W.findIn K (.ref CSpan) "below" = some (some (.ref f23))) (i23 : PySem.W.isFn K (.ref f23) = true)
    (l23 : K.lookup f23 = some ⟨oc23, od23, .func (PySem.W.fnOf "below" "Span.below" (defArgs sSpanBelow) (defBody sSpanBelow) (defScope sSpanBelow) .none kV23 dc23 pm23 an23 cd23 ct23), sl23⟩) (c23 : PySem.W.codeIn K cd23 "Span.below" = true) (k23 : PySem.W.keepIn K (.ref f23) = true)
    (a24 : PySem.W.findIn K (.ref CSpan) "at_most" = some (some (.ref f24))) (i24 : PySem.W.isFn K (.ref f24) = true)
    (l24 : K.lookup f24 = some ⟨oc24, od24, .func (PySem.W.fnOf "at_most" "Span.at_most" (defArgs sSpanAtMost) (defBody sSpanAtMost) (defScope sSpanAtMost) .none kV24 dc24 pm24 an24 cd24 ct24), sl24⟩) (c24 : PySem.W.codeIn K cd24 "Span.at_most" = true) (k24 : PySem.W.keepIn K (.ref f24) = true)
    (a25 : PySem.W.findIn K (.ref CSpan) "same" = some (some (.ref f25))) (i25 : PySem.W.isFn K (.ref f25) = true)
    (l25 : K.lookup f25 = some ⟨oc25, od25, .func (PySem.W.fnOf "same" "Span.same" (defArgs sSpanSame) (defBody sSpanSame) (defScope sSpanSame) .none kV25 dc25 pm25 an25 cd25 ct25), sl25⟩) (c25 : PySem.W.codeIn K cd25 "Span.same" = true) (k25 : PySem.W.keepIn K (.ref f25) = true)
    (a26 : PySem.W.findIn K (.ref CSpan) "truth" = some (some (.ref f26))) (i26 : PySem.W.isFn K (.ref f26) = true)
    (l26 : K.lookup f26 = some ⟨oc26, od26, .func (PySem.W.fnOf "truth" "Span.truth" (defArgs sSpanTruth) (defBody sSpanTruth) (defScope sSpanTruth) .none kV26 dc26 pm26 an26 cd26 ct26), sl26⟩) (c26 : PySem.W.codeIn K cd26 "Span.truth" = true) (k26 : PySem.W.keepIn K (.ref f26) = true)
    (a27 : PySem.W.findIn K (.ref CSpan) "single" = some (some (.ref f27))) (i27 : PySem.W.isFn K (.ref f27) = true)
    (l27 : K.lookup f27 = some ⟨oc27, od27, .func (PySem.W.fnOf "single" "Span.single" (defArgs sSpanSingle) (defBody sSpanSingle) (defScope sSpanSingle) .none kV27 dc27 pm27 an27 cd27 ct27), sl27⟩) (c27 : PySem.W.codeIn K cd27 "Span.single" = true) (k27 : PySem.W.keepIn K (.ref f27) = true)
    (a28 : PySem.W.findIn K (.ref CSpan) "__contains__" = some (some (.ref f28))) (i28 : PySem.W.isFn K (.ref f28) = true)
    (l28 : K.lookup f28 = some ⟨oc28, od28, .func (PySem.W.fnOf "__contains__" "Span.__contains__" (defArgs sSpanContains) (defBody sSpanContains) (defScope sSpanContains) .none kV28 dc28 pm28 an28 cd28 ct28), sl28⟩) (c28 : PySem.W.codeIn K cd28 "Span.__contains__" = true) (k28 : PySem.W.keepIn K (.ref f28) = true)
    (a29 : PySem.W.findIn K (.ref CSpan) "__eq__" = some (some (.ref f29))) (i29 : PySem.W.isFn K (.ref f29) = true)
    (l29 : K.lookup f29 = some ⟨oc29, od29, .func (PySem.W.fnOf "__eq__" "Span.__eq__" (defArgs sSpanEq) (defBody sSpanEq) (defScope sSpanEq) .none kV29 dc29 pm29 an29 cd29 ct29), sl29⟩) (c29 : PySem.W.codeIn K cd29 "Span.__eq__" = true) (k29 : PySem.W.keepIn K (.ref f29) = true)
    (a30 : PySem.W.findIn K (.ref CSpan) "__str__" = some (some (.ref f30))) (i30 : PySem.W.isFn K (.ref f30) = true)
    (l30 : K.lookup f30 = some ⟨oc30, od30, .func (PySem.W.fnOf "__str__" "Span.__str__" (defArgs sSpanStr) (defBody sSpanStr) (defScope sSpanStr) .none kV30 dc30 pm30 an30 cd30 ct30), sl30⟩) (c30 : PySem.W.codeIn K cd30 "Span.__str__" = true) (k30 : PySem.W.keepIn K (.ref f30) = true)
    (a31 : PySem.W.nsIn K mainGlobals "_law_bag" = some (some (.ref f31)))
    (l31 : K.lookup f31 = some ⟨oc31, od31, .func (PySem.W.fnOf "_law_bag" "_law_bag" (defArgs sLawBag) (defBody sLawBag) (defScope sLawBag) .none kV31 dc31 pm31 an31 cd31 ct31), sl31⟩) (c31 : PySem.W.codeIn K cd31 "_law_bag" = true) (k31 : PySem.W.keepIn K (.ref f31) = true)
    (a32 : PySem.W.nsIn K mainGlobals "_law_pull" = some (some (.ref f32)))
    (l32 : K.lookup f32 = some ⟨oc32, od32, .func (PySem.W.fnOf "_law_pull" "_law_pull" (defArgs sLawPull) (defBody sLawPull) (defScope sLawPull) .none kV32 dc32 pm32 an32 cd32 ct32), sl32⟩) (c32 : PySem.W.codeIn K cd32 "_law_pull" = true) (k32 : PySem.W.keepIn K (.ref f32) = true)
    (a33 : PySem.W.nsIn K mainGlobals "_law_of" = some (some (.ref f33)))
    (l33 : K.lookup f33 = some ⟨oc33, od33, .func (PySem.W.fnOf "_law_of" "_law_of" (defArgs sLawOf) (defBody sLawOf) (defScope sLawOf) .none kV33 dc33 pm33 an33 cd33 ct33), sl33⟩) (c33 : PySem.W.codeIn K cd33 "_law_of" = true) (k33 : PySem.W.keepIn K (.ref f33) = true)
    (a34 : PySem.W.nsIn K mainGlobals "_law_like" = some (some (.ref f34)))
    (l34 : K.lookup f34 = some ⟨oc34, od34, .func (PySem.W.fnOf "_law_like" "_law_like" (defArgs sLawLike) (defBody sLawLike) (defScope sLawLike) .none kV34 dc34 pm34 an34 cd34 ct34), sl34⟩) (c34 : PySem.W.codeIn K cd34 "_law_like" = true) (k34 : PySem.W.keepIn K (.ref f34) = true)
    (a35 : PySem.W.nsIn K mainGlobals "_law_fit" = some (some (.ref f35)))
    (l35 : K.lookup f35 = some ⟨oc35, od35, .func (PySem.W.fnOf "_law_fit" "_law_fit" (defArgs sLawFit) (defBody sLawFit) (defScope sLawFit) .none kV35 dc35 pm35 an35 cd35 ct35), sl35⟩) (c35 : PySem.W.codeIn K cd35 "_law_fit" = true) (k35 : PySem.W.keepIn K (.ref f35) = true)
    (a36 : PySem.W.nsIn K mainGlobals "_law_plus" = some (some (.ref f36)))
    (l36 : K.lookup f36 = some ⟨oc36, od36, .func (PySem.W.fnOf "_law_plus" "_law_plus" (defArgs sLawPlus) (defBody sLawPlus) (defScope sLawPlus) .none kV36 dc36 pm36 an36 cd36 ct36), sl36⟩) (c36 : PySem.W.codeIn K cd36 "_law_plus" = true) (k36 : PySem.W.keepIn K (.ref f36) = true)
    (a37 : PySem.W.nsIn K mainGlobals "_law_minus" = some (some (.ref f37)))
    (l37 : K.lookup f37 = some ⟨oc37, od37, .func (PySem.W.fnOf "_law_minus" "_law_minus" (defArgs sLawMinus) (defBody sLawMinus) (defScope sLawMinus) .none kV37 dc37 pm37 an37 cd37 ct37), sl37⟩) (c37 : PySem.W.codeIn K cd37 "_law_minus" = true) (k37 : PySem.W.keepIn K (.ref f37) = true)
    (a38 : PySem.W.nsIn K mainGlobals "_law_times" = some (some (.ref f38)))
    (l38 : K.lookup f38 = some ⟨oc38, od38, .func (PySem.W.fnOf "_law_times" "_law_times" (defArgs sLawTimes) (defBody sLawTimes) (defScope sLawTimes) .none kV38 dc38 pm38 an38 cd38 ct38), sl38⟩) (c38 : PySem.W.codeIn K cd38 "_law_times" = true) (k38 : PySem.W.keepIn K (.ref f38) = true)
    (a39 : PySem.W.nsIn K mainGlobals "_law_part" = some (some (.ref f39)))
    (l39 : K.lookup f39 = some ⟨oc39, od39, .func (PySem.W.fnOf "_law_part" "_law_part" (defArgs sLawPart) (defBody sLawPart) (defScope sLawPart) .none kV39 dc39 pm39 an39 cd39 ct39), sl39⟩) (c39 : PySem.W.codeIn K cd39 "_law_part" = true) (k39 : PySem.W.keepIn K (.ref f39) = true)
    (a40 : PySem.W.nsIn K mainGlobals "_law_less" = some (some (.ref f40)))
    (l40 : K.lookup f40 = some ⟨oc40, od40, .func (PySem.W.fnOf "_law_less" "_law_less" (defArgs sLawLess) (defBody sLawLess) (defScope sLawLess) .none kV40 dc40 pm40 an40 cd40 ct40), sl40⟩) (c40 : PySem.W.codeIn K cd40 "_law_less" = true) (k40 : PySem.W.keepIn K (.ref f40) = true)
    (a41 : PySem.W.nsIn K mainGlobals "_law_text" = some (some (.ref f41)))
    (l41 : K.lookup f41 = some ⟨oc41, od41, .func (PySem.W.fnOf "_law_text" "_law_text" (defArgs sLawText) (defBody sLawText) (defScope sLawText) .none kV41 dc41 pm41 an41 cd41 ct41), sl41⟩) (c41 : PySem.W.codeIn K cd41 "_law_text" = true) (k41 : PySem.W.keepIn K (.ref f41) = true)
    (a42 : PySem.W.nsIn K mainGlobals "_law_worth" = some (some (.ref f42)))
    (l42 : K.lookup f42 = some ⟨oc42, od42, .func (PySem.W.fnOf "_law_worth" "_law_worth" (defArgs sLawWorth) (defBody sLawWorth) (defScope sLawWorth) .none kV42 dc42 pm42 an42 cd42 ct42), sl42⟩) (c42 : PySem.W.codeIn K cd42 "_law_worth" = true) (k42 : PySem.W.keepIn K (.ref f42) = true)
    (a43 : PySem.W.nsIn K mainGlobals "_law_ends" = some (some (.ref f43)))
    (l43 : K.lookup f43 = some ⟨oc43, od43, .func (PySem.W.fnOf "_law_ends" "_law_ends" (defArgs sLawEnds) (defBody sLawEnds) (defScope sLawEnds) .none kV43 dc43 pm43 an43 cd43 ct43), sl43⟩) (c43 : PySem.W.codeIn K cd43 "_law_ends" = true) (k43 : PySem.W.keepIn K (.ref f43) = true)
    (a44 : PySem.W.nsIn K mainGlobals "_law_within" = some (some (.ref f44)))
    (l44 : K.lookup f44 = some ⟨oc44, od44, .func (PySem.W.fnOf "_law_within" "_law_within" (defArgs sLawWithin) (defBody sLawWithin) (defScope sLawWithin) .none kV44 dc44 pm44 an44 cd44 ct44), sl44⟩) (c44 : PySem.W.codeIn K cd44 "_law_within" = true) (k44 : PySem.W.keepIn K (.ref f44) = true)
    (a45 : PySem.W.nsIn K mainGlobals "_law_least" = some (some (.ref f45)))
    (l45 : K.lookup f45 = some ⟨oc45, od45, .func (PySem.W.fnOf "_law_least" "_law_least" (defArgs sLawLeast) (defBody sLawLeast) (defScope sLawLeast) .none kV45 dc45 pm45 an45 cd45 ct45), sl45⟩) (c45 : PySem.W.codeIn K cd45 "_law_least" = true) (k45 : PySem.W.keepIn K (.ref f45) = true)
    (a46 : PySem.W.nsIn K mainGlobals "_law_down" = some (some (.ref f46)))
    (l46 : K.lookup f46 = some ⟨oc46, od46, .func (PySem.W.fnOf "_law_down" "_law_down" (defArgs sLawDown) (defBody sLawDown) (defScope sLawDown) .none kV46 dc46 pm46 an46 cd46 ct46), sl46⟩) (c46 : PySem.W.codeIn K cd46 "_law_down" = true) (k46 : PySem.W.keepIn K (.ref f46) = true)
    (a47 : PySem.W.nsIn K mainGlobals "_law_holds" = some (some (.ref f47)))
    (l47 : K.lookup f47 = some ⟨oc47, od47, .func (PySem.W.fnOf "_law_holds" "_law_holds" (defArgs sLawHolds) (defBody sLawHolds) (defScope sLawHolds) .none kV47 dc47 pm47 an47 cd47 ct47), sl47⟩) (c47 : PySem.W.codeIn K cd47 "_law_holds" = true) (k47 : PySem.W.keepIn K (.ref f47) = true)
    (a48 : PySem.W.nsIn K mainGlobals "_law_ways" = some (some (.ref f48)))
    (l48 : K.lookup f48 = some ⟨oc48, od48, .func (PySem.W.fnOf "_law_ways" "_law_ways" (defArgs sLawWays) (defBody sLawWays) (defScope sLawWays) .none kV48 dc48 pm48 an48 cd48 ct48), sl48⟩) (c48 : PySem.W.codeIn K cd48 "_law_ways" = true) (k48 : PySem.W.keepIn K (.ref f48) = true)
    (a49 : PySem.W.nsIn K mainGlobals "_law_called" = some (some (.ref f49)))
    (l49 : K.lookup f49 = some ⟨oc49, od49, .func (PySem.W.fnOf "_law_called" "_law_called" (defArgs sLawCalled) (defBody sLawCalled) (defScope sLawCalled) .none kV49 dc49 pm49 an49 cd49 ct49), sl49⟩) (c49 : PySem.W.codeIn K cd49 "_law_called" = true) (k49 : PySem.W.keepIn K (.ref f49) = true)
    (a50 : PySem.W.nsIn K mainGlobals "_law_operators" = some (some (.ref f50)))
    (l50 : K.lookup f50 = some ⟨oc50, od50, .func (PySem.W.fnOf "_law_operators" "_law_operators" (defArgs sLawOperators) (defBody sLawOperators) (defScope sLawOperators) .none kV50 dc50 pm50 an50 cd50 ct50), sl50⟩) (c50 : PySem.W.codeIn K cd50 "_law_operators" = true) (k50 : PySem.W.keepIn K (.ref f50) = true)
    (a51 : PySem.W.nsIn K mainGlobals "_law_agree" = some (some (.ref f51)))
    (l51 : K.lookup f51 = some ⟨oc51, od51, .func (PySem.W.fnOf "_law_agree" "_law_agree" (defArgs sLawAgree) (defBody sLawAgree) (defScope sLawAgree) .none kV51 dc51 pm51 an51 cd51 ct51), sl51⟩) (c51 : PySem.W.codeIn K cd51 "_law_agree" = true) (k51 : PySem.W.keepIn K (.ref f51) = true)
    (a52 : PySem.W.nsIn K mainGlobals "_law_same" = some (some (.ref f52)))
    (l52 : K.lookup f52 = some ⟨oc52, od52, .func (PySem.W.fnOf "_law_same" "_law_same" (defArgs sLawSame) (defBody sLawSame) (defScope sLawSame) .none kV52 dc52 pm52 an52 cd52 ct52), sl52⟩) (c52 : PySem.W.codeIn K cd52 "_law_same" = true) (k52 : PySem.W.keepIn K (.ref f52) = true)
    (a53 : PySem.W.nsIn K mainGlobals "_law_compared" = some (some (.ref f53)))
    (l53 : K.lookup f53 = some ⟨oc53, od53, .func (PySem.W.fnOf "_law_compared" "_law_compared" (defArgs sLawCompared) (defBody sLawCompared) (defScope sLawCompared) .none kV53 dc53 pm53 an53 cd53 ct53), sl53⟩) (c53 : PySem.W.codeIn K cd53 "_law_compared" = true) (k53 : PySem.W.keepIn K (.ref f53) = true)
    (a54 : PySem.W.nsIn K mainGlobals "_law_refused" = some (some (.ref f54)))
    (l54 : K.lookup f54 = some ⟨oc54, od54, .func (PySem.W.fnOf "_law_refused" "_law_refused" (defArgs sLawRefused) (defBody sLawRefused) (defScope sLawRefused) .none kV54 dc54 pm54 an54 cd54 ct54), sl54⟩) (c54 : PySem.W.codeIn K cd54 "_law_refused" = true) (k54 : PySem.W.keepIn K (.ref f54) = true)
    (a55 : PySem.W.nsIn K mainGlobals "_law_alone" = some (some (.ref f55)))
    (l55 : K.lookup f55 = some ⟨oc55, od55, .func (PySem.W.fnOf "_law_alone" "_law_alone" (defArgs sLawAlone) (defBody sLawAlone) (defScope sLawAlone) .none kV55 dc55 pm55 an55 cd55 ct55), sl55⟩) (c55 : PySem.W.codeIn K cd55 "_law_alone" = true) (k55 : PySem.W.keepIn K (.ref f55) = true)
    (a56 : PySem.W.nsIn K mainGlobals "law" = some (some (.ref f56)))
    (l56 : K.lookup f56 = some ⟨oc56, od56, .func (PySem.W.fnOf "law" "law" (defArgs sLaw) (defBody sLaw) (defScope sLaw) .none kV56 dc56 pm56 an56 cd56 ct56), sl56⟩) (c56 : PySem.W.codeIn K cd56 "law" = true) (k56 : PySem.W.keepIn K (.ref f56) = true)
    (aCSpan : PySem.W.nsIn K mainGlobals "Span" = some (some (.ref CSpan))) (aCI : PySem.W.nsIn K mainGlobals "InvalidNumber" = some (some (.ref CI))) (aCE : PySem.W.nsIn K mainGlobals "CountError" = some (some (.ref CE))) (aCN : PySem.W.nsIn K mainGlobals "InvalidNames" = some (some (.ref CN)))
    (pgS : PySem.W.plainGet K CSpan Str.empty = true) (hdS : PySem.W.hasDictIn K CSpan = true) (poS : PySem.W.plainOver K CSpan = true) (saS : PySem.W.findIn K (.ref CSpan) "__setattr__" = some (some (.builtin "object.__setattr__"))) (mkS : PySem.W.makesIn K CSpan = true) (kcS : PySem.W.keepIn K (.ref CSpan) = true)
    (nLo : PySem.W.findIn K (.ref CSpan) "low" = some none) (nHi : PySem.W.findIn K (.ref CSpan) "high" = some none) (tycS : PySem.W.typeIn K (.ref CSpan) = some (.type "type")) (sfS : PySem.W.selfFirst K CSpan = true)
    (ha : PySem.W.findIn K (.ref CSpan) "__class__" = some (some (.builtin "object.__class__"))) (hn : PySem.W.specialIn K (.builtin "object.__class__") "__get__" = some (some (.builtin "getset_descriptor.__get__"))) (htk : PySem.W.takesIn K (.builtin "object.__class__") = some true) (hm : PySem.W.mroIn K CSpan (.type "object") = some true)
    (oxI : ∃ nm q N bs bm sn sub ab col dd k0 k1 k2 k3 k5, K.lookup CI = some (excClassObj nm q CI N bs bm true sn sub ab col dd k0 k1 k2 k3 k5 "ValueError.__new__") ∧ PySem.HandSPX.refsVE bm = true)
    (saI : PySem.W.findIn K (.ref CI) "__setattr__" = some (some (.builtin "object.__setattr__"))) (exI : PySem.W.subIn K (.ref CI) (.type "BaseException") = some true) (tyI : PySem.W.typeIn K (.ref CI) = some (.type "type")) (kI : PySem.W.keepIn K (.ref CI) = true)
    (nV : PySem.W.findIn K (.ref CI) "value" = some none) (nC : PySem.W.findIn K (.ref CI) "code" = some none) (gaI : PySem.W.findIn K (.ref CI) "__getattribute__" = some (some (.builtin "BaseException.__getattribute__"))) (ggI : PySem.W.findIn K (.ref CI) "__getattr__" = some none) (hdI : PySem.W.hasDictIn K CI = true)
    (haI : PySem.W.findIn K (.ref CI) "__class__" = some (some (.builtin "object.__class__"))) (hmI : PySem.W.mroIn K CI (.type "object") = some true) (suI : PySem.W.subIn K (.ref CI) (.ref CI) = some true) (hdE : PySem.W.hasDictIn K CE = true) (tyE : PySem.W.typeIn K (.ref CE) = some (.type "type")) (suE : PySem.W.subIn K (.ref CI) (.ref CE) = some true) (hdN : PySem.W.hasDictIn K CN = true) (tyN : PySem.W.typeIn K (.ref CN) = some (.type "type")) (suN : PySem.W.subIn K (.ref CI) (.ref CN) = some false)
    (tfI : PySem.W.typeIn K (.ref f14) = some (.type "function"))
    (b_int : PySem.W.nsIn K mainGlobals "int" = some none)
    (b_list : PySem.W.nsIn K mainGlobals "list" = some none)
    (b_len : PySem.W.nsIn K mainGlobals "len" = some none)
    (b_abs : PySem.W.nsIn K mainGlobals "abs" = some none)
    (b_sum : PySem.W.nsIn K mainGlobals "sum" = some none)
    (b_isinstance : PySem.W.nsIn K mainGlobals "isinstance" = some none)
    (b_tuple : PySem.W.nsIn K mainGlobals "tuple" = some none)
    (b_bool : PySem.W.nsIn K mainGlobals "bool" = some none)
    (b_str : PySem.W.nsIn K mainGlobals "str" = some none)
    (b_all : PySem.W.nsIn K mainGlobals "all" = some none)
    (b_any : PySem.W.nsIn K mainGlobals "any" = some none)
    (b_zip : PySem.W.nsIn K mainGlobals "zip" = some none)
    (gG : PySem.W.nsIn K mainGlobals "gcd" = some (some (.builtin "math.gcd")))
    (gL : PySem.W.nsIn K mainGlobals "LIMIT" = some (some (.int Lv tkL))) (eL : Lv = LIM)
    (gF : PySem.W.nsIn K mainGlobals "LIMIT_FIGURES" = some (some (.int 200 tkF)))
    (gZ : PySem.W.nsIn K mainGlobals "ZERO" = some (some (.ref aZ))) (lZ : K.lookup aZ = some ⟨.type "tuple", odZ, .seq #[.int 0 tz0, .int 1 tz1] nZ, slZ⟩)
    (lT : K.lookup aT = some ⟨ocT, odT, .seq #[.int 1 tt] nT, slT⟩) :
    ∃ fd : FuncData, (∀ (s : Shared) (v : Value), BindsTo s fd ⟨[v], []⟩ [("script", v)]) ∧ ∀ base : Heap, K.In base → base.Ns mainGlobals mg → FnOk l.prog w K mg base CX0 8 fa fd ["script"] (spLaw K) := by
  have e := hfa.symm.trans (PySem.W.mg_of X G a56)
  cases e
  have F0 := fun_mk (st := sIsLess) l0 c0 k0
  have B0 := F0.binds (ps := ["a", "b"]) fun _ _ _ _ _ _ us hl => match us, hl with | [_, _], _ => rfl
  have F2 := fun_mk (st := sPlus) l2 c2 k2
  have B2 := F2.binds (ps := ["a", "b"]) fun _ _ _ _ _ _ us hl => match us, hl with | [_, _], _ => rfl
  have F3 := fun_mk (st := sMinus) l3 c3 k3
  have B3 := F3.binds (ps := ["a", "b"]) fun _ _ _ _ _ _ us hl => match us, hl with | [_, _], _ => rfl
  have F4 := fun_mk (st := sProduct) l4 c4 k4
  have B4 := F4.binds (ps := ["a", "b"]) fun _ _ _ _ _ _ us hl => match us, hl with | [_, _], _ => rfl
  have F5 := fun_mk (st := sQuotient) l5 c5 k5
  have B5 := F5.binds (ps := ["a", "b"]) fun _ _ _ _ _ _ us hl => match us, hl with | [_, _], _ => rfl
  have F6 := fun_mk (st := sFloorOf) l6 c6 k6
  have B6 := F6.binds (ps := ["a"]) fun _ _ _ _ _ _ us hl => match us, hl with | [_], _ => rfl
  have F7 := fun_mk (st := sLesser) l7 c7 k7
  have B7 := F7.binds (ps := ["a", "b"]) fun _ _ _ _ _ _ us hl => match us, hl with | [_, _], _ => rfl
  have F8 := fun_mk (st := sGreater) l8 c8 k8
  have B8 := F8.binds (ps := ["a", "b"]) fun _ _ _ _ _ _ us hl => match us, hl with | [_, _], _ => rfl
  have F9 := fun_mk (st := sNumberText) l9 c9 k9
  have B9 := F9.binds (ps := ["number"]) fun _ _ _ _ _ _ us hl => match us, hl with | [_], _ => rfl
  have F10 := fun_mk (st := sWorthText) l10 c10 k10
  have B10 := F10.binds (ps := ["a"]) fun _ _ _ _ _ _ us hl => match us, hl with | [_], _ => rfl
  have F11 := fun_mk (st := sKept) l11 c11 k11
  have B11 := F11.binds (ps := ["value"]) fun _ _ _ _ _ _ us hl => match us, hl with | [_], _ => rfl
  have F12 := fun_mk (st := sPoint) l12 c12 k12
  have B12 := F12.binds (ps := ["value"]) fun _ _ _ _ _ _ us hl => match us, hl with | [_], _ => rfl
  have F13 := fun_mk (st := sSpanRound) l13 c13 k13
  have B13 := F13.binds (ps := ["worths"]) fun _ _ _ _ _ _ us hl => match us, hl with | [_], _ => rfl
  have F14 := fun_mk (st := sInvalidNumberInit) l14 c14 k14
  have B14 := F14.binds (ps := ["self", "value"]) fun _ _ _ _ _ _ us hl => match us, hl with | [_, _], _ => rfl
  have F15 := fun_mk (st := sSpanInit) l15 c15 k15
  have B15 := F15.binds (ps := ["self", "low", "high"]) fun _ _ _ _ _ _ us hl => match us, hl with | [_, _, _], _ => rfl
  have F16 := fun_mk (st := sSpanAdd) l16 c16 k16
  have B16 := F16.binds (ps := ["self", "other"]) fun _ _ _ _ _ _ us hl => match us, hl with | [_, _], _ => rfl
  have F17 := fun_mk (st := sSpanSub) l17 c17 k17
  have B17 := F17.binds (ps := ["self", "other"]) fun _ _ _ _ _ _ us hl => match us, hl with | [_, _], _ => rfl
  have F18 := fun_mk (st := sSpanMul) l18 c18 k18
  have B18 := F18.binds (ps := ["self", "other"]) fun _ _ _ _ _ _ us hl => match us, hl with | [_, _], _ => rfl
  have F19 := fun_mk (st := sSpanOver) l19 c19 k19
  have B19 := F19.binds (ps := ["self", "other"]) fun _ _ _ _ _ _ us hl => match us, hl with | [_, _], _ => rfl
  have F20 := fun_mk (st := sSpanFloor) l20 c20 k20
  have B20 := F20.binds (ps := ["self"]) fun _ _ _ _ _ _ us hl => match us, hl with | [_], _ => rfl
  have F21 := fun_mk (st := sSpanLeast) l21 c21 k21
  have B21 := F21.binds (ps := ["self", "other"]) fun _ _ _ _ _ _ us hl => match us, hl with | [_, _], _ => rfl
  have F22 := fun_mk (st := sSpanGreatest) l22 c22 k22
  have B22 := F22.binds (ps := ["self", "other"]) fun _ _ _ _ _ _ us hl => match us, hl with | [_, _], _ => rfl
  have F23 := fun_mk (st := sSpanBelow) l23 c23 k23
  have B23 := F23.binds (ps := ["self", "other"]) fun _ _ _ _ _ _ us hl => match us, hl with | [_, _], _ => rfl
  have F24 := fun_mk (st := sSpanAtMost) l24 c24 k24
  have B24 := F24.binds (ps := ["self", "other"]) fun _ _ _ _ _ _ us hl => match us, hl with | [_, _], _ => rfl
  have F25 := fun_mk (st := sSpanSame) l25 c25 k25
  have B25 := F25.binds (ps := ["self", "other"]) fun _ _ _ _ _ _ us hl => match us, hl with | [_, _], _ => rfl
  have F26 := fun_mk (st := sSpanTruth) l26 c26 k26
  have B26 := F26.binds (ps := ["self"]) fun _ _ _ _ _ _ us hl => match us, hl with | [_], _ => rfl
  have F27 := fun_mk (st := sSpanSingle) l27 c27 k27
  have B27 := F27.binds (ps := ["self"]) fun _ _ _ _ _ _ us hl => match us, hl with | [_], _ => rfl
  have F28 := fun_mk (st := sSpanContains) l28 c28 k28
  have B28 := F28.binds (ps := ["self", "value"]) fun _ _ _ _ _ _ us hl => match us, hl with | [_, _], _ => rfl
  have F29 := fun_mk (st := sSpanEq) l29 c29 k29
  have B29 := F29.binds (ps := ["self", "other"]) fun _ _ _ _ _ _ us hl => match us, hl with | [_, _], _ => rfl
  have F30 := fun_mk (st := sSpanStr) l30 c30 k30
  have B30 := F30.binds (ps := ["self"]) fun _ _ _ _ _ _ us hl => match us, hl with | [_], _ => rfl
  have F31 := fun_mk (st := sLawBag) l31 c31 k31
  have B31 := F31.binds (ps := ["script"]) fun _ _ _ _ _ _ us hl => match us, hl with | [_], _ => rfl
  have F32 := fun_mk (st := sLawPull) l32 c32 k32
  have B32 := F32.binds (ps := ["bag", "many"]) fun _ _ _ _ _ _ us hl => match us, hl with | [_, _], _ => rfl
  have F33 := fun_mk (st := sLawOf) l33 c33 k33
  have B33 := F33.binds (ps := ["bag", "some"]) fun _ _ _ _ _ _ us hl => match us, hl with | [_, _], _ => rfl
  have F34 := fun_mk (st := sLawLike) l34 c34 k34
  have B34 := F34.binds (ps := ["found", "due"]) fun _ _ _ _ _ _ us hl => match us, hl with | [_, _], _ => rfl
  have F35 := fun_mk (st := sLawFit) l35 c35 k35
  have B35 := F35.binds (ps := ["top", "bottom"]) fun _ _ _ _ _ _ us hl => match us, hl with | [_, _], _ => rfl
  have F36 := fun_mk (st := sLawPlus) l36 c36 k36
  have B36 := F36.binds (ps := ["a", "b"]) fun _ _ _ _ _ _ us hl => match us, hl with | [_, _], _ => rfl
  have F37 := fun_mk (st := sLawMinus) l37 c37 k37
  have B37 := F37.binds (ps := ["a", "b"]) fun _ _ _ _ _ _ us hl => match us, hl with | [_, _], _ => rfl
  have F38 := fun_mk (st := sLawTimes) l38 c38 k38
  have B38 := F38.binds (ps := ["a", "b"]) fun _ _ _ _ _ _ us hl => match us, hl with | [_, _], _ => rfl
  have F39 := fun_mk (st := sLawPart) l39 c39 k39
  have B39 := F39.binds (ps := ["a", "b"]) fun _ _ _ _ _ _ us hl => match us, hl with | [_, _], _ => rfl
  have F40 := fun_mk (st := sLawLess) l40 c40 k40
  have B40 := F40.binds (ps := ["a", "b"]) fun _ _ _ _ _ _ us hl => match us, hl with | [_, _], _ => rfl
  have F41 := fun_mk (st := sLawText) l41 c41 k41
  have B41 := F41.binds (ps := ["a"]) fun _ _ _ _ _ _ us hl => match us, hl with | [_], _ => rfl
  have F42 := fun_mk (st := sLawWorth) l42 c42 k42
  have B42 := F42.binds (ps := ["bag"]) fun _ _ _ _ _ _ us hl => match us, hl with | [_], _ => rfl
  have F43 := fun_mk (st := sLawEnds) l43 c43 k43
  have B43 := F43.binds (ps := ["bag"]) fun _ _ _ _ _ _ us hl => match us, hl with | [_], _ => rfl
  have F44 := fun_mk (st := sLawWithin) l44 c44 k44
  have B44 := F44.binds (ps := ["bag", "ends"]) fun _ _ _ _ _ _ us hl => match us, hl with | [_, _], _ => rfl
  have F45 := fun_mk (st := sLawLeast) l45 c45 k45
  have B45 := F45.binds (ps := ["some"]) fun _ _ _ _ _ _ us hl => match us, hl with | [_], _ => rfl
  have F46 := fun_mk (st := sLawDown) l46 c46 k46
  have B46 := F46.binds (ps := ["a"]) fun _ _ _ _ _ _ us hl => match us, hl with | [_], _ => rfl
  have F47 := fun_mk (st := sLawHolds) l47 c47 k47
  have B47 := F47.binds (ps := ["span", "ends", "some"]) fun _ _ _ _ _ _ us hl => match us, hl with | [_, _, _], _ => rfl
  have F48 := fun_mk (st := sLawWays) l48 c48 k48
  have B48 := F48.binds (ps := ["word", "a", "b"]) fun _ _ _ _ _ _ us hl => match us, hl with | [_, _, _], _ => rfl
  have F49 := fun_mk (st := sLawCalled) l49 c49 k49
  have B49 := F49.binds (ps := ["word", "a", "b"]) fun _ _ _ _ _ _ us hl => match us, hl with | [_, _, _], _ => rfl
  have F50 := fun_mk (st := sLawOperators) l50 c50 k50
  have B50 := F50.binds (ps := ["first", "other", "a", "b", "some", "rest"]) fun _ _ _ _ _ _ us hl => match us, hl with | [_, _, _, _, _, _], _ => rfl
  have F51 := fun_mk (st := sLawAgree) l51 c51 k51
  have B51 := F51.binds (ps := ["some"]) fun _ _ _ _ _ _ us hl => match us, hl with | [_], _ => rfl
  have F52 := fun_mk (st := sLawSame) l52 c52 k52
  have B52 := F52.binds (ps := ["a", "b"]) fun _ _ _ _ _ _ us hl => match us, hl with | [_, _], _ => rfl
  have F53 := fun_mk (st := sLawCompared) l53 c53 k53
  have B53 := F53.binds (ps := ["first", "other", "a", "b", "some", "rest"]) fun _ _ _ _ _ _ us hl => match us, hl with | [_, _, _, _, _, _], _ => rfl
  have F54 := fun_mk (st := sLawRefused) l54 c54 k54
  have B54 := F54.binds (ps := ["above", "below"]) fun _ _ _ _ _ _ us hl => match us, hl with | [_, _], _ => rfl
  have F55 := fun_mk (st := sLawAlone) l55 c55 k55
  have B55 := F55.binds (ps := ["span", "ends"]) fun _ _ _ _ _ _ us hl => match us, hl with | [_, _], _ => rfl
  have F56 := fun_mk (st := sLaw) l56 c56 k56
  have B56 := F56.binds (ps := ["script"]) fun _ _ _ _ _ _ us hl => match us, hl with | [_], _ => rfl
  have m_int := PySem.W.mg_none_of X G b_int
  have m_list := PySem.W.mg_none_of X G b_list
  have m_len := PySem.W.mg_none_of X G b_len
  have m_abs := PySem.W.mg_none_of X G b_abs
  have m_sum := PySem.W.mg_none_of X G b_sum
  have m_isinstance := PySem.W.mg_none_of X G b_isinstance
  have m_tuple := PySem.W.mg_none_of X G b_tuple
  have m_bool := PySem.W.mg_none_of X G b_bool
  have m_str := PySem.W.mg_none_of X G b_str
  have m_all := PySem.W.mg_none_of X G b_all
  have m_any := PySem.W.mg_none_of X G b_any
  have m_zip := PySem.W.mg_none_of X G b_zip
  have F1 : FunW K f1 _ := ⟨⟨_, _, _, _, _, _, _, _, _, _, rfl, l1, c1, .inr ⟨by simp, aT, _, [.int 1 tt], nT, rfl, lT, rfl, .cons ⟨_, rfl⟩ .nil⟩, .inl rfl⟩, k1⟩
  refine ⟨PySem.W.fnOf "law" "law" (defArgs sLaw) (defBody sLaw) (defScope sLaw) .none kV56 dc56 pm56 an56 cd56 ct56, fun s v => .of_eq rfl, fun base _ _ => ?_⟩
  subst eL
  have hZ : ∀ H, SqT K H aZ [.int 0, .int 1] := fun H => .inr ⟨_, _, _, lZ, rfl, rfl, (by show 2 ≤ sizeLine; decide), .cons ⟨_, rfl⟩ (.cons ⟨_, rfl⟩ .nil)⟩
  have TC : Cls K CSpan := ⟨pgS, hdS, poS, saS⟩
  have iscS : (PySem.W.clsIn K CSpan).isSome = true := isc_of hdS
  have teI : PySem.W.exmOne K (.ref CI) (.ref CI) = some true := PySem.W.exm_ref exI hdI tyI suI
  have kE : PySem.W.kitOne K (.ref CI) (.ref CE) = some true := kit_sub hdE tyE suE
  have kN : PySem.W.kitOne K (.ref CI) (.ref CN) = some false := kit_no suI hdN tyN suN
  have TS : SpT K mg CSpan := ⟨TC, nLo, nHi, PySem.W.mg_of X G aCSpan, ha, hn, htk, hm, iscS, tycS⟩
  have TI : ErrT K CI := ⟨⟨oxI, saI, exI, tyI, kI⟩, nV, nC, ⟨gaI, ggI, exI, hdI⟩, ⟨gaI, ggI, exI, hdI, haI, hn, htk, hmI⟩, teI⟩
  have MS : Mk K CSpan f15 := ⟨mkS, a15, i15, kcS⟩
  have Ls0 : Cal l.prog w K mg base "is_less" 1 ["a", "b"] (spLess K) f0 _ := ⟨ok_is_less (k := 0) F0, PySem.W.mg_of X G a0, k0, B0⟩
  have Ls : Cal l.prog w K mg base "is_less" 1 ["a", "b"] (spLessR K) f0 _ := ⟨lessR Ls0.ok, PySem.W.mg_of X G a0, k0, B0⟩
  have W0 : Cal l.prog w K mg base "worth" 1 ["top", "bottom"] (spWorth K) f1 _ := ⟨ok_worth (k := 0) F1 (PySem.W.mg_of X G gG) (PySem.W.mg_of X G gZ) hZ, PySem.W.mg_of X G a1, k1, bind2 F1⟩
  have W : Cal l.prog w K mg base "worth" 1 ["top", "bottom"] (spWorthR K) f1 _ := ⟨worthR W0.ok, PySem.W.mg_of X G a1, k1, bind2 F1⟩
  have Pl0 : Cal l.prog w K mg base "plus" 2 ["a", "b"] (spPlus K) f2 _ := ⟨ok_plus (k := 0) F2 W0, PySem.W.mg_of X G a2, k2, B2⟩
  have Pl : Cal l.prog w K mg base "plus" 2 ["a", "b"] (spOpR K (· + ·)) f2 _ := ⟨plusR Pl0.ok, PySem.W.mg_of X G a2, k2, B2⟩
  have Mi0 : Cal l.prog w K mg base "minus" 2 ["a", "b"] (spMinus K) f3 _ := ⟨ok_minus (k := 0) F3 W0, PySem.W.mg_of X G a3, k3, B3⟩
  have Mi : Cal l.prog w K mg base "minus" 2 ["a", "b"] (spOpR K (· - ·)) f3 _ := ⟨minusR Mi0.ok, PySem.W.mg_of X G a3, k3, B3⟩
  have Pr0 : Cal l.prog w K mg base "product" 2 ["a", "b"] (spProduct K) f4 _ := ⟨ok_product (k := 0) F4 W0, PySem.W.mg_of X G a4, k4, B4⟩
  have Pr : Cal l.prog w K mg base "product" 2 ["a", "b"] (spOpR K (· * ·)) f4 _ := ⟨productR Pr0.ok, PySem.W.mg_of X G a4, k4, B4⟩
  have Qu0 : Cal l.prog w K mg base "quotient" 2 ["a", "b"] (spQuotient K) f5 _ := ⟨ok_quotient (k := 0) F5 W0, PySem.W.mg_of X G a5, k5, B5⟩
  have Qu : Cal l.prog w K mg base "quotient" 2 ["a", "b"] (spOpR K (· / ·)) f5 _ := ⟨quotientR Qu0.ok, PySem.W.mg_of X G a5, k5, B5⟩
  have Fl0 : Cal l.prog w K mg base "floor_of" 1 ["a"] (spFloor K) f6 _ := ⟨ok_floor_of (k := 0) F6, PySem.W.mg_of X G a6, k6, B6⟩
  have Fl : Cal l.prog w K mg base "floor_of" 1 ["a"] (spFloorR K) f6 _ := ⟨floorR Fl0.ok, PySem.W.mg_of X G a6, k6, B6⟩
  have Le0 : Cal l.prog w K mg base "lesser" 2 ["a", "b"] (spLesser K fun x0 x1 y0 y1 => decide (y0 * x1 < x0 * y1)) f7 _ := ⟨ok_lesser (k := 0) F7 Ls0, PySem.W.mg_of X G a7, k7, B7⟩
  have Le : Cal l.prog w K mg base "lesser" 2 ["a", "b"] (spLsrR K fun a b => decide (b < a)) f7 _ := ⟨lesserR Le0.ok, PySem.W.mg_of X G a7, k7, B7⟩
  have Gr0 : Cal l.prog w K mg base "greater" 2 ["a", "b"] (spLesser K fun x0 x1 y0 y1 => decide (x0 * y1 < y0 * x1)) f8 _ := ⟨ok_greater (k := 0) F8 Ls0, PySem.W.mg_of X G a8, k8, B8⟩
  have Gr : Cal l.prog w K mg base "greater" 2 ["a", "b"] (spLsrR K fun a b => decide (a < b)) f8 _ := ⟨greaterR Gr0.ok, PySem.W.mg_of X G a8, k8, B8⟩
  have Nt : Cal l.prog w K mg base "number_text" 1 ["number"] (spNum K) f9 _ := ⟨ok_number (k := 0) F9 m_abs m_str (PySem.W.mg_of X G gL) (PySem.W.mg_of X G gF), PySem.W.mg_of X G a9, k9, B9⟩
  have Wt : Cal l.prog w K mg base "worth_text" 2 ["a"] (spWtx K) f10 _ := ⟨ok_wtext (k := 0) F10 Nt, PySem.W.mg_of X G a10, k10, B10⟩
  have MkS0 : CalC l.prog w K mg base "Span" CSpan 2 ["self", "low", "high"] (spSpanInit K CSpan) f15 _ := ⟨MS, ok_span_init (k := 0) F15 TC nLo nHi Ls0, PySem.W.mg_of X G aCSpan, B15⟩
  have MkS : CalC l.prog w K mg base "Span" CSpan 2 ["self", "low", "high"] (spInitR K CSpan) f15 _ := ⟨MS, initR MkS0.ok, PySem.W.mg_of X G aCSpan, B15⟩
  have Ad0 : CalM l.prog w K mg base CSpan "__add__" 4 ["self", "other"] (spAdd K CSpan) f16 _ := ⟨TC, ⟨a16, i16, k16⟩, ok_add (k := 0) F16 TC nLo nHi MkS0 Pl0, B16⟩
  have Ad : CalM l.prog w K mg base CSpan "__add__" 4 ["self", "other"] (spSpR K CSpan (fun lo hi lo' hi' => lo + lo') (fun lo hi lo' hi' => hi + hi')) f16 _ := ⟨TC, ⟨a16, i16, k16⟩, addR Ad0.ok, B16⟩
  have Su0 : CalM l.prog w K mg base CSpan "__sub__" 4 ["self", "other"] (spSub K CSpan) f17 _ := ⟨TC, ⟨a17, i17, k17⟩, ok_sub (k := 0) F17 TC nLo nHi MkS0 Mi0, B17⟩
  have Su : CalM l.prog w K mg base CSpan "__sub__" 4 ["self", "other"] (spSpR K CSpan (fun lo hi lo' hi' => lo - hi') (fun lo hi lo' hi' => hi - lo')) f17 _ := ⟨TC, ⟨a17, i17, k17⟩, subR Su0.ok, B17⟩
  have Lst0 : CalM l.prog w K mg base CSpan "least" 4 ["self", "other"] (spMm K CSpan mn) f21 _ := ⟨TC, ⟨a21, i21, k21⟩, ok_least (k := 0) F21 TC nLo nHi MkS0 Le0, B21⟩
  have Lst : CalM l.prog w K mg base CSpan "least" 4 ["self", "other"] (spSpR K CSpan (fun lo hi lo' hi' => minR lo lo') (fun lo hi lo' hi' => minR hi hi')) f21 _ := ⟨TC, ⟨a21, i21, k21⟩, leastR Lst0.ok, B21⟩
  have Grt0 : CalM l.prog w K mg base CSpan "greatest" 4 ["self", "other"] (spMm K CSpan mx) f22 _ := ⟨TC, ⟨a22, i22, k22⟩, ok_greatest (k := 0) F22 TC nLo nHi MkS0 Gr0, B22⟩
  have Grt : CalM l.prog w K mg base CSpan "greatest" 4 ["self", "other"] (spSpR K CSpan (fun lo hi lo' hi' => maxR lo lo') (fun lo hi lo' hi' => maxR hi hi')) f22 _ := ⟨TC, ⟨a22, i22, k22⟩, greatestR Grt0.ok, B22⟩
  have Bel : CalM l.prog w K mg base CSpan "below" 2 ["self", "other"] (spCmpR K CSpan belowV) f23 _ := ⟨TC, ⟨a23, i23, k23⟩, belowR (ok_below (k := 0) F23 TC nLo nHi Ls0), B23⟩
  have Atm : CalM l.prog w K mg base CSpan "at_most" 2 ["self", "other"] (spCmpR K CSpan atmostV) f24 _ := ⟨TC, ⟨a24, i24, k24⟩, atmostR (ok_at_most (k := 0) F24 TC nLo nHi Ls0), B24⟩
  have Si0 : CalM l.prog w K mg base CSpan "single" 1 ["self"] (spSingle K CSpan) f27 _ := ⟨TC, ⟨a27, i27, k27⟩, ok_single (k := 0) F27 TC nLo nHi, B27⟩
  have Si : CalM l.prog w K mg base CSpan "single" 1 ["self"] (spSingleR K CSpan) f27 _ := ⟨TC, ⟨a27, i27, k27⟩, singleR Si0.ok, B27⟩
  have Co0 : CalM l.prog w K mg base CSpan "__contains__" 2 ["self", "value"] (spHas K CSpan) f28 _ := ⟨TC, ⟨a28, i28, k28⟩, ok_has (k := 0) F28 TC nLo nHi Ls0, B28⟩
  have Co : CalM l.prog w K mg base CSpan "__contains__" 2 ["self", "value"] (spHasR K CSpan) f28 _ := ⟨TC, ⟨a28, i28, k28⟩, hasR Co0.ok, B28⟩
  have Sam : CalM l.prog w K mg base CSpan "same" 2 ["self", "other"] (spCmpR K CSpan sameV) f25 _ := ⟨TC, ⟨a25, i25, k25⟩, sameR (ok_same (k := 0) F25 TC nLo nHi Ls0 Si0), B25⟩
  have Tr : CalM l.prog w K mg base CSpan "truth" 3 ["self"] (spTruthR K CSpan) f26 _ := ⟨TC, ⟨a26, i26, k26⟩, truthR (ok_truth (k := 0) F26 Si0 Co0 (PySem.W.mg_of X G gZ) hZ), B26⟩
  have Po : Cal l.prog w K mg base "point" 4 ["value"] (spPointR K CSpan) f12 _ := ⟨pointR (ok_point (k := 0) F12 MkS0), PySem.W.mg_of X G a12, k12, B12⟩
  have Sr : Cal l.prog w K mg base "span_round" 4 ["worths"] (spRound K CSpan) f13 _ := ⟨ok_round (k := 0) F13 MkS Le Gr, PySem.W.mg_of X G a13, k13, B13⟩
  have Mu : CalM l.prog w K mg base CSpan "__mul__" 5 ["self", "other"] (spSpR K CSpan mulLo mulHi) f18 _ := ⟨TC, ⟨a18, i18, k18⟩, ok_mul (k := 0) F18 TS Sr Pr, B18⟩
  have Ov : CalM l.prog w K mg base CSpan "over" 5 ["self", "other"] (spOver K CSpan) f19 _ := ⟨TC, ⟨a19, i19, k19⟩, ok_over (k := 0) F19 TS Tr Sr Qu, B19⟩
  have Flo : CalM l.prog w K mg base CSpan "floor" 4 ["self"] (spFloorS K CSpan) f20 _ := ⟨TC, ⟨a20, i20, k20⟩, ok_floor (k := 0) F20 TS MkS W (bind1 F1) Fl, B20⟩
  have Eq : CalM l.prog w K mg base CSpan "__eq__" 1 ["self", "other"] (spEqS K CSpan) f29 _ := ⟨TC, ⟨a29, i29, k29⟩, ok_eqS (k := 0) F29 TS m_isinstance, B29⟩
  have St : CalM l.prog w K mg base CSpan "__str__" 3 ["self"] (spStrS K CSpan) f30 _ := ⟨TC, ⟨a30, i30, k30⟩, ok_strS (k := 0) F30 TS Wt, B30⟩
  have Kp1 : Cal l.prog w K mg base "kept" 1 ["value"] spKeptI f11 _ := ⟨ok_keptI (k := 0) F11 m_isinstance m_list m_tuple, PySem.W.mg_of X G a11, k11, B11⟩
  have Kp : Cal l.prog w K mg base "kept" 2 ["value"] (spKeptW K) f11 _ := ⟨ok_keptW (k := 0) F11 Kp1 m_isinstance m_list m_tuple, PySem.W.mg_of X G a11, k11, B11⟩
  have Er : FnOk l.prog w K mg base CX0 3 f14 _ ["self", "value"] (spErr K CI) := ok_err (k := 0) F14 TI Kp
  have X1 : FnOk l.prog w K mg base (L2N.CX l.prog w) 5 f15 _ ["self", "low", "high"] (spInitX K CSpan CI) := ok_initX (k := 0) F15 Ls TI a14 tfI (PySem.W.mg_of X G aCI) Er B14
  have Ba : Cal l.prog w K mg base "_law_bag" 1 ["script"] (spBag K) f31 _ := ⟨ok_bag (k := 0) F31 m_int m_list m_len m_sum, PySem.W.mg_of X G a31, k31, B31⟩
  have D : Cal l.prog w K mg base "_law_pull" 1 ["bag", "many"] (spDraw K) f32 _ := ⟨ok_pull (k := 0) F32 m_int m_len m_abs, PySem.W.mg_of X G a32, k32, B32⟩
  have O : Cal l.prog w K mg base "_law_of" 2 ["bag", "some"] (spOf K) f33 _ := ⟨ok_of (k := 0) F33 D m_len, PySem.W.mg_of X G a33, k33, B33⟩
  have Li : Cal l.prog w K mg base "_law_like" 3 ["found", "due"] (spLike K 2) f34 _ := ⟨ok_like F34 (PySem.W.mg_of X G a34) B34 m_isinstance m_list m_tuple m_bool m_str m_int m_len m_all m_zip 2, PySem.W.mg_of X G a34, k34, B34⟩
  have LiH : L2H.FnH l.prog w K mg base CX0 3 f34 _ ["found", "due"] (spLike K 2) := ok_likeH F34 (PySem.W.mg_of X G a34) B34 m_isinstance m_list m_tuple m_bool m_str m_int m_len m_all m_zip 2
  have Ft : Cal l.prog w K mg base "_law_fit" 1 ["top", "bottom"] (spWorthR K) f35 _ := ⟨ok_fit (k := 0) F35 m_abs m_int, PySem.W.mg_of X G a35, k35, B35⟩
  have Lp : Cal l.prog w K mg base "_law_plus" 2 ["a", "b"] (spOpR K (· + ·)) f36 _ := ⟨ok_lplus (k := 0) F36 Ft, PySem.W.mg_of X G a36, k36, B36⟩
  have Lm : Cal l.prog w K mg base "_law_minus" 2 ["a", "b"] (spOpR K (· - ·)) f37 _ := ⟨ok_lminus (k := 0) F37 Ft, PySem.W.mg_of X G a37, k37, B37⟩
  have Lt : Cal l.prog w K mg base "_law_times" 2 ["a", "b"] (spOpR K (· * ·)) f38 _ := ⟨ok_ltimes (k := 0) F38 Ft, PySem.W.mg_of X G a38, k38, B38⟩
  have Ld : Cal l.prog w K mg base "_law_part" 2 ["a", "b"] (spOpR K (· / ·)) f39 _ := ⟨ok_lpart (k := 0) F39 Ft, PySem.W.mg_of X G a39, k39, B39⟩
  have Ll : Cal l.prog w K mg base "_law_less" 1 ["a", "b"] (spLessR K) f40 _ := ⟨ok_lless (k := 0) F40, PySem.W.mg_of X G a40, k40, B40⟩
  have Lx : Cal l.prog w K mg base "_law_text" 1 ["a"] (spTx K) f41 _ := ⟨ok_ltext (k := 0) F41 m_str, PySem.W.mg_of X G a41, k41, B41⟩
  have Ldn : Cal l.prog w K mg base "_law_down" 1 ["a"] (spDown K) f46 _ := ⟨ok_down (k := 0) F46, PySem.W.mg_of X G a46, k46, B46⟩
  have Lw : Cal l.prog w K mg base "_law_worth" 3 ["bag"] (spLw K) f42 _ := ⟨ok_lworth (k := 0) F42 D O Ft, PySem.W.mg_of X G a42, k42, B42⟩
  have Len : Cal l.prog w K mg base "_law_ends" 4 ["bag"] (spEnds K) f43 _ := ⟨ok_lends (k := 0) F43 D Lw Lp Ft Ll, PySem.W.mg_of X G a43, k43, B43⟩
  have Lwi : Cal l.prog w K mg base "_law_within" 3 ["bag", "ends"] (spWithin K) f44 _ := ⟨ok_lwithin (k := 0) F44 D Lm Lp Lt Ft, PySem.W.mg_of X G a44, k44, B44⟩
  have Lle : Cal l.prog w K mg base "_law_least" 2 ["some"] (spLeast K) f45 _ := ⟨ok_lleast (k := 0) F45 Ll, PySem.W.mg_of X G a45, k45, B45⟩
  have Lh : Cal l.prog w K mg base "_law_holds" 4 ["span", "ends", "some"] (spHolds K CSpan) f47 _ := ⟨ok_holds (k := 0) F47 TS Co Li Lm Lp m_isinstance m_all m_any, PySem.W.mg_of X G a47, k47, B47⟩
  have Lwy : Cal l.prog w K mg base "_law_ways" 3 ["word", "a", "b"] (spWays K) f48 _ := ⟨ok_ways (k := 0) F48 Lp Lm Lt Ld Lle m_int, PySem.W.mg_of X G a48, k48, B48⟩
  have Lc : Cal l.prog w K mg base "_law_called" 6 ["word", "a", "b"] (spCalled K CSpan) f49 _ := ⟨ok_called (k := 0) F49 sfS Ad Su Mu Ov Lst Grt, PySem.W.mg_of X G a49, k49, B49⟩
  have Lop : Cal l.prog w K mg base "_law_operators" 7 ["first", "other", "a", "b", "some", "rest"] (spOper K CSpan) f50 _ := ⟨ok_oper (k := 0) F50 Lc Ll Lwy Lle Lh, PySem.W.mg_of X G a50, k50, B50⟩
  have La : Cal l.prog w K mg base "_law_agree" 1 ["some"] (spAgree K) f51 _ := ⟨ok_agree (k := 0) F51 m_all m_any, PySem.W.mg_of X G a51, k51, B51⟩
  have Lsa : Cal l.prog w K mg base "_law_same" 2 ["a", "b"] (spSameL K) f52 _ := ⟨ok_lsame (k := 0) F52 Ll, PySem.W.mg_of X G a52, k52, B52⟩
  have Lcm : Cal l.prog w K mg base "_law_compared" 4 ["first", "other", "a", "b", "some", "rest"] (spOper K CSpan) f53 _ := ⟨ok_compared (k := 0) F53 Ll Li La Lsa Bel Atm Sam, PySem.W.mg_of X G a53, k53, B53⟩
  have Lr : Cal l.prog w K mg base "_law_refused" 7 ["above", "below"] (spRef K) f54 _ := ⟨ok_refused (k := 0) F54 MS (PySem.W.mg_of X G aCSpan) X1 B15 TI (PySem.W.mg_of X G aCI) (PySem.W.mg_of X G aCE) (PySem.W.mg_of X G aCN) kE kN LiH (PySem.W.mg_of X G a34) k34 B34 m_isinstance, PySem.W.mg_of X G a54, k54, B54⟩
  have Lal : Cal l.prog w K mg base "_law_alone" 6 ["span", "ends"] (spAlone K CSpan) f55 _ := ⟨ok_alone (k := 0) F55 TS Ll Lx Li Tr Si St Lh Flo Ldn Eq MkS Lp m_str, PySem.W.mg_of X G a55, k55, B55⟩
  exact ok_law F56 Ba D Len Lp Ft MkS (bindLH F15) Lwi Lh Lal Po Ll Lr Lm Lop Lcm TS Eq
end My
open PySem PySem.W PyProof.Rows
set_option maxRecDepth 100000 in
set_option maxHeartbeats 0 in
theorem PySem.Challenge.cw_soleheld_k78_spans_hold_worths_holds : PySem.Challenge.rw_soleheld_k78_spans_hold_worths.Holds := by
  w_on; o_law; k_head; (case hw => w_witness2)
  k_fill
  refine L2.walk_of (l := PySem.Challenge.rw_soleheld_k78_spans_hold_worths) (n := 63) (k := 8) (x := "script") (CX := fun _ => L2.CX0) (sp := fun w => My.spLaw _) rfl (by decide) rfl ⟨rfl, by decide, by decide⟩ (fun w h Y => PySem.W.kIn_of Y) ?F (fun _ _ a ns hl _ hS => ⟨a, ns, rfl, hS, hl, fun _ => rfl⟩) (fun _ _ _ _ _ h => h)
  case F =>
    intro w mg fa h KX G hmg
    refine' My.all_mk KX G hmg ?a0 ?l0 ?c0 ?k0 ?a1 ?l1 ?c1 ?k1 ?a2 ?l2 ?c2 ?k2 ?a3 ?l3 ?c3 ?k3 ?a4 ?l4 ?c4 ?k4 ?a5 ?l5 ?c5 ?k5 ?a6 ?l6 ?c6 ?k6 ?a7 ?l7 ?c7 ?k7 ?a8 ?l8 ?c8 ?k8 ?a9 ?l9 ?c9 ?k9 ?a10 ?l10 ?c10 ?k10 ?a11 ?l11 ?c11 ?k11 ?a12 ?l12 ?c12 ?k12 ?a13 ?l13 ?c13 ?k13 ?a14 ?i14 ?l14 ?c14 ?k14 ?a15 ?i15 ?l15 ?c15 ?k15 ?a16 ?i16 ?l16 ?c16 ?k16 ?a17 ?i17 ?l17 ?c17 ?k17 ?a18 ?i18 ?l18 ?c18 ?k18 ?a19 ?i19 ?l19 ?c19 ?k19 ?a20 ?i20 ?l20 ?c20 ?k20 ?a21 ?i21 ?l21 ?c21 ?k21 ?a22 ?i22 ?l22 ?c22 ?k22 ?a23 ?i23 ?l23 ?c23 ?k23 ?a24 ?i24 ?l24 ?c24 ?k24 ?a25 ?i25 ?l25 ?c25 ?k25 ?a26 ?i26 ?l26 ?c26 ?k26 ?a27 ?i27 ?l27 ?c27 ?k27 ?a28 ?i28 ?l28 ?c28 ?k28 ?a29 ?i29 ?l29 ?c29 ?k29 ?a30 ?i30 ?l30 ?c30 ?k30 ?a31 ?l31 ?c31 ?k31 ?a32 ?l32 ?c32 ?k32 ?a33 ?l33 ?c33 ?k33 ?a34 ?l34 ?c34 ?k34 ?a35 ?l35 ?c35 ?k35 ?a36 ?l36 ?c36 ?k36 ?a37 ?l37 ?c37 ?k37 ?a38 ?l38 ?c38 ?k38 ?a39 ?l39 ?c39 ?k39 ?a40 ?l40 ?c40 ?k40 ?a41 ?l41 ?c41 ?k41 ?a42 ?l42 ?c42 ?k42 ?a43 ?l43 ?c43 ?k43 ?a44 ?l44 ?c44 ?k44 ?a45 ?l45 ?c45 ?k45 ?a46 ?l46 ?c46 ?k46 ?a47 ?l47 ?c47 ?k47 ?a48 ?l48 ?c48 ?k48 ?a49 ?l49 ?c49 ?k49 ?a50 ?l50 ?c50 ?k50 ?a51 ?l51 ?c51 ?k51 ?a52 ?l52 ?c52 ?k52 ?a53 ?l53 ?c53 ?k53 ?a54 ?l54 ?c54 ?k54 ?a55 ?l55 ?c55 ?k55 ?a56 ?l56 ?c56 ?k56 ?aCSpan ?aCI ?aCE ?aCN ?pgS ?hdS ?poS ?saS ?mkS ?kcS ?nLo ?nHi ?tycS ?sfS ?ha ?hn ?htk ?hm ?oxI ?saI ?exI ?tyI ?kI ?nV ?nC ?gaI ?ggI ?hdI ?haI ?hmI ?suI ?hdE ?tyE ?suE ?hdN ?tyN ?suN ?tfI ?b_int ?b_list ?b_len ?b_abs ?b_sum ?b_isinstance ?b_tuple ?b_bool ?b_str ?b_all ?b_any ?b_zip ?gG ?gL ?eL ?gF ?gZ ?lZ ?lT
    (case aCSpan => k_is)
    (case aCI => k_is)
    (case aCE => k_is)
    (case aCN => k_is)
    (case a0 => k_is)
    (case l0 => k_is)
    (case c0 => k_is)
    (case k0 => k_is)
    (case a1 => k_is)
    (case l1 => k_is)
    (case c1 => k_is)
    (case k1 => k_is)
    (case a2 => k_is)
    (case l2 => k_is)
    (case c2 => k_is)
    (case k2 => k_is)
    (case a3 => k_is)
    (case l3 => k_is)
    (case c3 => k_is)
    (case k3 => k_is)
    (case a4 => k_is)
    (case l4 => k_is)
    (case c4 => k_is)
    (case k4 => k_is)
    (case a5 => k_is)
    (case l5 => k_is)
    (case c5 => k_is)
    (case k5 => k_is)
    (case a6 => k_is)
    (case l6 => k_is)
    (case c6 => k_is)
    (case k6 => k_is)
    (case a7 => k_is)
    (case l7 => k_is)
    (case c7 => k_is)
    (case k7 => k_is)
    (case a8 => k_is)
    (case l8 => k_is)
    (case c8 => k_is)
    (case k8 => k_is)
    (case a9 => k_is)
    (case l9 => k_is)
    (case c9 => k_is)
    (case k9 => k_is)
    (case a10 => k_is)
    (case l10 => k_is)
    (case c10 => k_is)
    (case k10 => k_is)
    (case a11 => k_is)
    (case l11 => k_is)
    (case c11 => k_is)
    (case k11 => k_is)
    (case a12 => k_is)
    (case l12 => k_is)
    (case c12 => k_is)
    (case k12 => k_is)
    (case a13 => k_is)
    (case l13 => k_is)
    (case c13 => k_is)
    (case k13 => k_is)
    (case a14 => k_is)
    (case i14 => k_is)
    (case l14 => k_is)
    (case c14 => k_is)
    (case k14 => k_is)
    (case a15 => k_is)
    (case i15 => k_is)
    (case l15 => k_is)
    (case c15 => k_is)
    (case k15 => k_is)
    (case a16 => k_is)
    (case i16 => k_is)
    (case l16 => k_is)
    (case c16 => k_is)
    (case k16 => k_is)
    (case a17 => k_is)
    (case i17 => k_is)
    (case l17 => k_is)
    (case c17 => k_is)
    (case k17 => k_is)
    (case a18 => k_is)
    (case i18 => k_is)
    (case l18 => k_is)
    (case c18 => k_is)
    (case k18 => k_is)
    (case a19 => k_is)
    (case i19 => k_is)
    (case l19 => k_is)
    (case c19 => k_is)
    (case k19 => k_is)
    (case a20 => k_is)
    (case i20 => k_is)
    (case l20 => k_is)
    (case c20 => k_is)
    (case k20 => k_is)
    (case a21 => k_is)
    (case i21 => k_is)
    (case l21 => k_is)
    (case c21 => k_is)
    (case k21 => k_is)
    (case a22 => k_is)
    (case i22 => k_is)
    (case l22 => k_is)
    (case c22 => k_is)
    (case k22 => k_is)
    (case a23 => k_is)
    (case i23 => k_is)
    (case l23 => k_is)
    (case c23 => k_is)
    (case k23 => k_is)
    (case a24 => k_is)
    (case i24 => k_is)
    (case l24 => k_is)
    (case c24 => k_is)
    (case k24 => k_is)
    (case a25 => k_is)
    (case i25 => k_is)
    (case l25 => k_is)
    (case c25 => k_is)
    (case k25 => k_is)
    (case a26 => k_is)
    (case i26 => k_is)
    (case l26 => k_is)
    (case c26 => k_is)
    (case k26 => k_is)
    (case a27 => k_is)
    (case i27 => k_is)
    (case l27 => k_is)
    (case c27 => k_is)
    (case k27 => k_is)
    (case a28 => k_is)
    (case i28 => k_is)
    (case l28 => k_is)
    (case c28 => k_is)
    (case k28 => k_is)
    (case a29 => k_is)
    (case i29 => k_is)
    (case l29 => k_is)
    (case c29 => k_is)
    (case k29 => k_is)
    (case a30 => k_is)
    (case i30 => k_is)
    (case l30 => k_is)
    (case c30 => k_is)
    (case k30 => k_is)
    (case a31 => k_is)
    (case l31 => k_is)
    (case c31 => k_is)
    (case k31 => k_is)
    (case a32 => k_is)
    (case l32 => k_is)
    (case c32 => k_is)
    (case k32 => k_is)
    (case a33 => k_is)
    (case l33 => k_is)
    (case c33 => k_is)
    (case k33 => k_is)
    (case a34 => k_is)
    (case l34 => k_is)
    (case c34 => k_is)
    (case k34 => k_is)
    (case a35 => k_is)
    (case l35 => k_is)
    (case c35 => k_is)
    (case k35 => k_is)
    (case a36 => k_is)
    (case l36 => k_is)
    (case c36 => k_is)
    (case k36 => k_is)
    (case a37 => k_is)
    (case l37 => k_is)
    (case c37 => k_is)
    (case k37 => k_is)
    (case a38 => k_is)
    (case l38 => k_is)
    (case c38 => k_is)
    (case k38 => k_is)
    (case a39 => k_is)
    (case l39 => k_is)
    (case c39 => k_is)
    (case k39 => k_is)
    (case a40 => k_is)
    (case l40 => k_is)
    (case c40 => k_is)
    (case k40 => k_is)
    (case a41 => k_is)
    (case l41 => k_is)
    (case c41 => k_is)
    (case k41 => k_is)
    (case a42 => k_is)
    (case l42 => k_is)
    (case c42 => k_is)
    (case k42 => k_is)
    (case a43 => k_is)
    (case l43 => k_is)
    (case c43 => k_is)
    (case k43 => k_is)
    (case a44 => k_is)
    (case l44 => k_is)
    (case c44 => k_is)
    (case k44 => k_is)
    (case a45 => k_is)
    (case l45 => k_is)
    (case c45 => k_is)
    (case k45 => k_is)
    (case a46 => k_is)
    (case l46 => k_is)
    (case c46 => k_is)
    (case k46 => k_is)
    (case a47 => k_is)
    (case l47 => k_is)
    (case c47 => k_is)
    (case k47 => k_is)
    (case a48 => k_is)
    (case l48 => k_is)
    (case c48 => k_is)
    (case k48 => k_is)
    (case a49 => k_is)
    (case l49 => k_is)
    (case c49 => k_is)
    (case k49 => k_is)
    (case a50 => k_is)
    (case l50 => k_is)
    (case c50 => k_is)
    (case k50 => k_is)
    (case a51 => k_is)
    (case l51 => k_is)
    (case c51 => k_is)
    (case k51 => k_is)
    (case a52 => k_is)
    (case l52 => k_is)
    (case c52 => k_is)
    (case k52 => k_is)
    (case a53 => k_is)
    (case l53 => k_is)
    (case c53 => k_is)
    (case k53 => k_is)
    (case a54 => k_is)
    (case l54 => k_is)
    (case c54 => k_is)
    (case k54 => k_is)
    (case a55 => k_is)
    (case l55 => k_is)
    (case c55 => k_is)
    (case k55 => k_is)
    (case a56 => k_is)
    (case l56 => k_is)
    (case c56 => k_is)
    (case k56 => k_is)
    (case pgS => k_is)
    (case hdS => k_is)
    (case poS => k_is)
    (case saS => k_is)
    (case mkS => k_is)
    (case kcS => k_is)
    (case nLo => k_is)
    (case nHi => k_is)
    (case tycS => k_is)
    (case sfS => k_is)
    (case ha => k_is)
    (case hn => k_is)
    (case htk => k_is)
    (case hm => k_is)
    (case oxI => exact ⟨_, _, _, _, _, _, _, _, _, _, _, _, _, _, _, (by k_is), (by first | rfl | decide +kernel)⟩)
    (case saI => k_is)
    (case exI => k_is)
    (case tyI => k_is)
    (case kI => k_is)
    (case nV => k_is)
    (case nC => k_is)
    (case gaI => k_is)
    (case ggI => k_is)
    (case hdI => k_is)
    (case haI => k_is)
    (case hmI => k_is)
    (case suI => k_is)
    (case hdE => k_is)
    (case tyE => k_is)
    (case suE => k_is)
    (case hdN => k_is)
    (case tyN => k_is)
    (case suN => k_is)
    (case tfI => k_is)
    (case b_int => k_is)
    (case b_list => k_is)
    (case b_len => k_is)
    (case b_abs => k_is)
    (case b_sum => k_is)
    (case b_isinstance => k_is)
    (case b_tuple => k_is)
    (case b_bool => k_is)
    (case b_str => k_is)
    (case b_all => k_is)
    (case b_any => k_is)
    (case b_zip => k_is)
    (case gG => k_is)
    (case gL => k_is)
    (case eL => decide +kernel)
    (case gF => k_is)
    (case gZ => k_is)
    (case lZ => k_is)
    (case lT => k_is)
#print axioms PySem.Challenge.cw_soleheld_k78_spans_hold_worths_holds

