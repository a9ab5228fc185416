import PyProof.Rows.All
import Wide.All
import OpenK.AllK
import Wide.FinOn
import HandS.ForMost
import HandS.Lambda
import HandS.Nested
import HandS.NestedK
import HandS.EndTab
import HandS.HeadWalk
import HandS.Codes
import HandS.Style
import HandS.OwnEq
import KE.KRevSl
import PyProof.Rows.StrStep
import HandS.Wide
import HandS.Gcd
import HandS.IsInst
import HandS.Defaults
import HandS.Zip
import HandS.Walk
import HandS.Evl
import HandS.SortInts
import HandS.StrMore
import HandS.FStr
import HandS.RevRange
import HandS.TupAny
import PySem.Challenge.RW_soleheld_k31_whole_clashes_of_lists
import KE.GoesNew
set_option Elab.async false
set_option linter.all false
set_option maxRecDepth 100000
/-! a lambda with a parameter and one captured name, that outlives its maker -/
namespace My
open PySem PySem.Spec PyProof.Rows L2 LamX NdefX
/-- the lambda at f -/
def LamO (f : Addr) (q : Str) (pr : Arguments) (bd : Expr) (sc : Scope) (cl : List (Str × Addr)) (c' : Addr) : HO :=
  .ext fun h => ∃ pm ctv : Value, h.get? f = some (PySem.W.kla_obj "<lambda>" q pr bd sc cl pm c' ctv)
/-- the cell at c holds v -/
def CellO (c : Addr) (v : V) : HO := .ext fun h => ∃ u, L2.RelV v u ∧ h.IsCell c (some u)
section
variable {X : Cx} {pins : List (Addr × Obj)} {σ : L2.St} {H : Hp} {s : Shared}
theorem inv_lam {q : Str} {pr : Arguments} {bd : Expr} {sc : Scope} {cl : List (Str × Addr)} {c' : Addr} {pm ctv : Value} {t' : Nat} (I : Inv X pins σ H s) :
    Inv X pins σ (upd H s.heap.objs.size (LamO s.heap.objs.size q pr bd sc cl c')) { s with heap := s.heap.push (PySem.W.kla_obj "<lambda>" q pr bd sc cl pm c' ctv), toks := t' } := by
  refine I.laid (a := s.heap.objs.size) (fun b u e => Heap.get?_push_of_some _ e) (Nat.le_refl _) ?_
  have e : (s.heap.push (PySem.W.kla_obj "<lambda>" q pr bd sc cl pm c' ctv)).get? s.heap.objs.size = some (PySem.W.kla_obj "<lambda>" q pr bd sc cl pm c' ctv) := Heap.get?_push_size _ rfl
  exact ⟨⟨_, _, e⟩, ⟨_, e⟩, fun h1 h2 ⟨p, t, z⟩ st => ⟨p, t, st _ z⟩⟩
theorem lam_make3 {c P : Addr} {params : Arguments} {body : Expr} {scope : Scope} {pos : Pos} {E : Value → Shared → Prop} {Q : Value → Shared → Prop} (I : Inv X pins σ H s) (TB : TabB X.base X.mg c P) (hcode : X.env.code = .ref c)
    (hT : TabS H P (X.env.qual ++ "<lambda>")) (hdef : defaultsOf params X.env = ([], [])) (hfree : ∀ y ∈ scope.names, y.2 = .free → ∃ c, X.env.cells.lookup y.1 = some c)
    (h : ∀ (f c' : Addr) (H1 : Hp) (s' : Shared), Inv X pins σ H1 s' → ExtN H H1 → TabS H1 P (X.env.qual ++ "<lambda>") → H f = none →
      H1 f = some (LamO f (X.env.qual ++ "<lambda>") params body scope (cloFrom X.env.cells scope.names []) c') → H1 c' = some (CodeO c' (X.env.qual ++ "<lambda>")) → Q (.ref f) s') :
    wpAny (model X.prog X.w) X.A (eval (.Lambda params body scope pos) X.env) Q E s := by
  obtain ⟨ps, hP, ht, ha⟩ := id hT
  refine PySem.W.kla_eval hdef ?_
  have bP : s.heap.BuiltinsAt X.mg P := TB.bm.keeps I.bk
  have hP' : s.heap.get? P = some { cls := .none, data := .fields ps } := I.hok P _ hP
  cases hc : codeAmong pos ps.toList with
  | none =>
    refine PySem.W.kla_makeFunction (mg := X.mg) (c := c) (P := P) (ps := ps) (closure_ok hfree) I.ok.glob (I.mod.glob.keeps I.bk) hcode (TB.code.keeps I.bk) hP' ht hc TB.gP bP fun c' ctv h' tk hx hge hlt hrec htb => ?_
    obtain ⟨c2, oc, vs, t, e2, hoc, hd, hv⟩ := hrec
    cases e2
    have nC : H c' = none := I.hok.fresh hge
    have I1 := inv_table (t' := tk) (more := #[rawInt pos.line, rawInt pos.col, .ref c']) (h' := h') I hP (fun b o hb e => hx b o hb e) htb hge ⟨oc, vs, t, hoc, hd, hv⟩
    have hE : ExtN H (upd (upd H P (.tbl (ps ++ #[rawInt pos.line, rawInt pos.col, .ref c']))) c' (CodeO c' (X.env.qual ++ "<lambda>"))) := fun b o e n => by
      rw [upd_ne (ne_of_none e nC), upd_ne (fun z => n ps (Option.some.inj (e.symm.trans (by rw [z]; exact hP))))]
      exact e
    have eL : (ps ++ #[rawInt pos.line, rawInt pos.col, .ref c']).toList = ps.toList ++ [rawInt pos.line, rawInt pos.col, .ref c'] := by simp
    have T1 : TabS (upd (upd H P (.tbl (ps ++ #[rawInt pos.line, rawInt pos.col, .ref c']))) c' (CodeO c' (X.env.qual ++ "<lambda>"))) P (X.env.qual ++ "<lambda>") := by
      refine ⟨_, by rw [upd_ne (ne_of_none hP nC), upd_same], by rw [eL]; exact PySem.TriplesOk_snoc _ _ _ _ ht, fun p' cv hcv => ?_⟩
      rw [eL] at hcv
      rcases among_app _ ht hcv with z | z
      · obtain ⟨c0, e1, e2⟩ := ha p' cv z
        exact ⟨c0, e1, hE _ _ e2 codeO_ne⟩
      · exact ⟨c', z, upd_same⟩
    have nF := I1.hok.fresh (Nat.le_refl _)
    have I2 := inv_lam (q := X.env.qual ++ "<lambda>") (pr := params) (bd := body) (sc := scope) (cl := cloFrom X.env.cells scope.names []) (c' := c') (pm := (X.mg "__name__").getD .none) (ctv := ctv) (t' := tk) I1
    refine h h'.objs.size c' _ _ I2 (fun b o e n => ?_) (T1.ext fun b o e => ?_) (I.hok.fresh (Nat.le_trans hge (Nat.le_of_lt hlt))) upd_same ?_
    · exact (upd_ne (ne_of_none (hE b o e n) nF)).trans (hE b o e n)
    · exact (upd_ne (ne_of_none e nF)).trans e
    · exact (upd_ne (Nat.ne_of_lt hlt)).trans upd_same
  | some cv =>
    obtain ⟨c', e, hco⟩ := ha pos cv hc
    subst e
    refine PySem.W.kla_makeFunctionHit (mg := X.mg) (c := c) (P := P) (ps := ps) (closure_ok hfree) I.ok.glob (I.mod.glob.keeps I.bk) hcode (TB.code.keeps I.bk) hP' ht hc bP fun ctv h' tk hx hsz => ?_
    have I1 : Inv X pins σ H { s with heap := h', toks := tk } := I.kept hx
    have nF : H h'.objs.size = none := I1.hok.fresh (Nat.le_refl _)
    have I2 := inv_lam (q := X.env.qual ++ "<lambda>") (pr := params) (bd := body) (sc := scope) (cl := cloFrom X.env.cells scope.names []) (c' := c') (pm := (X.mg "__name__").getD .none) (ctv := ctv) (t' := tk) I1
    refine h h'.objs.size c' _ _ I2 (fun b o e n => ?_) (hT.ext fun b o e => ?_) nF upd_same ?_
    · exact (upd_ne (ne_of_none e nF)).trans e
    · exact (upd_ne (ne_of_none e nF)).trans e
    · exact (upd_ne (ne_of_none hco nF)).trans hco
end
/-- the reading of a lambda -/
def tLamV (P : Addr) (q : Str) (mk : Addr → Addr → HO) : TE := fun _ H Q => TabS H P q ∧ ∀ f c' H1, ExtN H H1 → TabS H1 P q → H f = none → H1 f = some (mk f c') → H1 c' = some (CodeO c' q) → Q (.ref f) H1
theorem pe_lam {X : Cx} {c P : Addr} {params : Arguments} {body : Expr} {scope : Scope} {pos : Pos} (TB : TabB X.base X.mg c P) (hcode : X.env.code = .ref c)
    (hfree : ∀ y ∈ scope.names, y.2 = .free → X.env.scope.names.lookup y.1 = some .cell ∨ X.env.scope.names.lookup y.1 = some .free) (hdef : defaultsOf params X.env = ([], [])) :
    PE X (.Lambda params body scope pos) (tLamV P (X.env.qual ++ "<lambda>") fun f c' => LamO f (X.env.qual ++ "<lambda>") params body scope (cloFrom X.env.cells scope.names []) c') := by
  refine ⟨fun pins s σ H Q I h => ?_⟩
  obtain ⟨hT, h⟩ := h
  have hfr : ∀ y ∈ scope.names, y.2 = .free → ∃ c, X.env.cells.lookup y.1 = some c := fun y hy e => (hfree y hy e).elim (fun z => I.ok.has _ (.inl z)) fun z => I.ok.has _ (.inr z)
  exact lam_make3 I TB hcode hT hdef hfr fun f c' H1 s' I1 eN T1 f0 f1 c1 => ⟨.ref f, H1, I1, rfl, h f c' H1 eN T1 f0 f1 c1⟩
/-! ### statements whose return knows the slots -/
structure EndsR where
  nx : L2.St → Hp → Prop
  rt : L2.St → V → Hp → Prop
def SPR (X : Cx) (pins : List (Addr × Obj)) (D : EndsR) (f : Flow) (s' : Shared) : Prop :=
  match f with
  | .next => ∃ σ' H', Inv X pins σ' H' s' ∧ D.nx σ' H'
  | .ret u => ∃ v σ' H', Inv X pins σ' H' s' ∧ L2.RelV v u ∧ D.rt σ' v H'
  | _ => False
abbrev TSR := EndsR → L2.St → Hp → Prop
structure PRs (X : Cx) (st : List Stmt) (t : TSR) : Prop where
  run : ∀ (pins : List (Addr × Obj)) (s : Shared) (σ : L2.St) (H : Hp) (D : EndsR), Inv X pins σ H s → t D σ H → wpAny (model X.prog X.w) X.A (execs st X.env) (SPR X pins D) X.xe s
structure PR (X : Cx) (st : Stmt) (t : TSR) : Prop where
  run : ∀ (pins : List (Addr × Obj)) (s : Shared) (σ : L2.St) (H : Hp) (D : EndsR), Inv X pins σ H s → t D σ H → wpAny (model X.prog X.w) X.A (exec st X.env) (SPR X pins D) X.xe s
section
variable {X : Cx} {st : Stmt} {rest : List Stmt} {t u : TSR} {e : Expr} {te : TE} {pos : Pos}
def tOfS (t : TS) : TSR := fun D σ H => t { nx := D.nx, rt := fun _ _ => False } σ H
theorem pr_of {t : TS} (h : PS X st t) : PR X st (tOfS t) := by
  refine ⟨fun pins s σ H D I q => thn (h.run pins s σ H _ I q) fun f s' z => ?_⟩
  cases f with
  | next => exact z
  | ret v => obtain ⟨_, _, _, _, _, z⟩ := z; exact z.elim
  | brk => obtain ⟨_, _, _, z⟩ := z; exact z.elim
  | cont => obtain ⟨_, _, _, z⟩ := z; exact z.elim
def tRetR (te : TE) : TSR := fun D σ H => te σ H (D.rt σ)
theorem pr_ret (he : PE X e te) : PR X (.Return (some e) pos) (tRetR te) := by
  refine ⟨fun pins s σ H D I h => ?_⟩
  exact wpAny_Return_some (thn (he.run pins s σ H _ I h) fun v s1 ⟨x, H1, I1, r1, q1⟩ => ⟨x, σ, H1, I1, r1, q1⟩)
def tNilR : TSR := fun D σ H => D.nx σ H
theorem prs_nil : PRs X [] tNilR := ⟨fun _ _ σ H _ I h => wpAny_execs_nil ⟨σ, H, I, h⟩⟩
def tSeqR (t u : TSR) : TSR := fun D σ H => t { D with nx := u D } σ H
theorem prs_cons (h1 : PR X st t) (h2 : PRs X rest u) : PRs X (st :: rest) (tSeqR t u) := by
  refine ⟨fun pins s σ H D I h => ?_⟩
  refine wpAny_execs_cons (thn (h1.run pins s σ H { D with nx := u D } I h) fun f s1 q => ?_)
  cases f with
  | next =>
    obtain ⟨σ', H', I', q⟩ := q
    exact h2.run pins s1 σ' H' D I' q
  | ret v => exact q
  | brk => exact q
  | cont => exact q
theorem prs_one (h1 : PR X st t) : PRs X [st] t := by
  refine ⟨fun pins s σ H D I h => ?_⟩
  refine wpAny_execs_cons (thn (h1.run pins s σ H D I h) fun f s1 q => ?_)
  cases f with
  | next => exact wpAny_execs_nil q
  | ret v => exact q
  | brk => exact q
  | cont => exact q
def tIfR (c : TT) (t u : TSR) : TSR := fun D σ H => c σ H fun b H1 => if b = true then t D σ H1 else u D σ H1
theorem pr_if {c : Expr} {a b : List Stmt} {tc : TT} (hc : PT X c tc) (ha : PRs X a t) (hb : PRs X b u) : PR X (.If c a b pos) (tIfR tc t u) := by
  refine ⟨fun pins s σ H D I h => ?_⟩
  refine wpAny_If (thn (hc.run pins s σ H _ I h) fun d s1 ⟨H1, I1, q1⟩ => ?_)
  cases d with
  | true => exact ha.run pins s1 σ H1 D I1 q1
  | false => exact hb.run pins s1 σ H1 D I1 q1
end
/-- what a return wants: the end itself, or the end where the cell of the i-th name is known with its value -/
def RtR (X : Cx) (i : Nat) (nm : Str) (Q : VK) : L2.St → V → Hp → Prop := fun σ v H' => Q v H' ∨ ∃ kv c, σ[i]? = some (some kv) ∧ X.env.cells.lookup nm = some c ∧ (H' c = none → Q v (upd H' c (CellO c kv)))
/-- a def whose captured cell is known behind its return -/
theorem fn_ofR {CX : CXT} {P : Program} {w : World} {K : PySem.W.Frag} {mg : Str → Option Value} {base : Heap} {k : Nat} {f : Addr} {name qual : Str} {params : Arguments} {body : List Stmt} {scope : Scope} {dV kV doc pm cdv ct oc : Value} {an od : Option Addr}
    {osl : Array (Option Value)} {N ps : List Str} {sp : Sp} {i : Nat} {nm : Str} (hi : N[i]? = some nm) (hnm : scope.names.lookup nm = some .cell) (lk : K.lookup f = some ⟨oc, od, .func (PySem.W.fnOf name qual params body scope dV kV doc pm an cdv ct), osl⟩) (hcd : PySem.W.codeIn K cdv qual = true) (S : FnScope N ps scope)
    (len : ∀ vs H Q E, sp vs H Q E → vs.length = ps.length)
    (hbody : ∀ (A : Around) (outer : List Env) (s : Shared) (H : Hp) (vs : List V) (Q : VK) (E : XK), Room k (A.deeper (envOfC qual scope s.heap.objs.size f cdv)) → sp vs H Q E →
      ∃ t, PRs (cxOf CX P w K mg base N qual scope f cdv A outer s H E) body t ∧ t { nx := fun _ _ => False, rt := RtR (cxOf CX P w K mg base N qual scope f cdv A outer s H E) i nm Q } (L2.start N vs) H) :
    FnOk P w K mg base CX (k + 1) f (PySem.W.fnOf name qual params body scope dV kV doc pm an cdv ct) ps sp := by
  refine ⟨len, fun A outer s H args us vs Q E hr e0 hb r hsp => ?_⟩
  have hl := len _ _ _ _ hsp
  have KX : K.In s.heap := e0.mod.kin.keeps fun b o e => (e0.bs b o e).1
  have lim : s.heap.NoLimit := e0.mod.nolimit.keeps fun b o e => (e0.bs b o e).1
  have hkind : ∀ y ∈ ps.zip us, scope.names.lookup y.1 = some .local ∨ (scope.names.lookup y.1 = some .cell ∧ ((cellsFrom (s.heap.objs.size + 1) scope.names []).lookup y.1).isSome = true) := fun ⟨n, v⟩ hy => by
    rcases S.par n (List.of_mem_zip hy).1 with q | q
    · exact .inl q
    · exact .inr ⟨q, PySem.W.cellsFrom_some _ _ _ (.inl q)⟩
  refine codeAny_call_function hr.depth (KX _ _ lk) rfl S.co S.gen rfl (PySem.W.codeRec_of KX hcd) (hb _ _ _ _ ?_)
  refine wpAny_newFunctionEnv_cells S.kind hkind fun env he s1 x => ?_
  subst he
  refine ⟨lim.keeps x.toInCall.keep, codeAny_func ?_⟩
  obtain ⟨t, ht, hq⟩ := hbody A outer s H vs Q E (hr.deeper _) hsp
  have I : Inv (cxOf CX P w K mg base N qual scope f cdv A outer s H E) [] (L2.start N vs) H s1 := inv_start S hr.hd e0 hl r x
  refine wpAny_mono (ht.run [] s1 (L2.start N vs) H _ I hq) (fun fl s' hs => ?_) fun e s' hs => hs
  cases fl with
  | ret u =>
    obtain ⟨v, σ', H', J, rv, q⟩ := hs
    rcases q with q | ⟨kv, c, h1, h2, q⟩
    · exact ⟨v, H', J.os, J.bare, J.base, J.hok, rv, q⟩
    · have fc := J.freeC nm c h2
      obtain ⟨m, hn, hl'⟩ := J.loc
      obtain ⟨u', ru, lk'⟩ := hl' i nm kv hi h1 (.inr (.inl hnm))
      have hcell : s'.heap.IsCell c (some u') := by
        rcases lk' with ⟨z, _⟩ | ⟨_, c2, e2, hc⟩
        · have z' : scope.names.lookup nm = some .local := z
          rw [hnm] at z'
          cases z'
        · rw [h2] at e2
          cases e2
          exact hc
      have cab : s.heap.objs.size ≤ c := J.ok.cab nm c rfl h2
      have cnot : ∀ b o, s.heap.get? b = some o → b ≠ c := fun b o e z => by
        rw [z] at e
        exact Nat.lt_irrefl _ (Nat.lt_of_lt_of_le (Heap.lt_size e) cab)
      have un : Un (frs outer) [] H H' s.heap s'.heap := J.base
      have hok : HOk P w H' s'.heap := J.hok
      have cn : ∀ b u, H' b = some u → b ≠ c := fun b u e => ne_of_none e fc
      refine ⟨v, upd H' c (CellO c kv), J.os, J.bare, ⟨un.keep, un.slot, fun b o e n hx => ?_, un.there, fun b xs e => ?_, fun b o u e => ?_, fun b ps e => ?_⟩, fun b ob e => ?_, rv, q fc⟩
      · rw [upd_ne (cnot b o e)]
        exact un.free b o e n hx
      · rw [upd_ne (cn b _ (un.tups b xs e))]
        exact un.tups b xs e
      · rw [upd_ne (cn b _ (un.frzs b o u e))]
        exact un.frzs b o u e
      · obtain ⟨more, z⟩ := un.tbls b ps e
        exact ⟨more, by rw [upd_ne (cn b _ z)]; exact z⟩
      · by_cases hb : b = c
        · subst hb
          rw [upd_same] at e
          cases e
          obtain ⟨oc, hoc, hdc⟩ := id hcell
          exact ⟨⟨u', ru, hcell⟩, ⟨oc, hoc⟩, fun h1 h2 ⟨u2, r2, o2, e2, d2⟩ st => ⟨u2, r2, o2, st _ e2, d2⟩⟩
        · rw [upd_ne hb] at e
          exact (hok b ob e).stay (fun d w' _ q => q) (fun d q => by rw [upd_ne (cn d _ q)]; exact q) fun d xs q => by rw [upd_ne (cn d _ q)]; exact q
  | next =>
    obtain ⟨σ', H', J, q⟩ := hs
    exact q.elim
  | brk => exact (show False from hs).elim
  | cont => exact (show False from hs).elim
/-! ### the lambda called -/
/-- at f a lambda of these words whose one captured name k holds v -/
def LamAt (q : Str) (pr : Arguments) (bd : Expr) (sc : Scope) (nm : Str) (H : Hp) (f : Addr) (v : V) : Prop :=
  ∃ cl c c', H f = some (LamO f q pr bd sc cl c') ∧ cl.lookup nm = some c ∧ (∀ y a, cl.lookup y = some a → y = nm) ∧ H c = some (CellO c v) ∧ H c' = some (CodeO c' q)
theorem LamAt.ext {q : Str} {pr : Arguments} {bd : Expr} {sc : Scope} {nm : Str} {H H' : Hp} {f : Addr} {v : V} (h : LamAt q pr bd sc nm H f v) (e : ExtN H H') : LamAt q pr bd sc nm H' f v := by
  obtain ⟨cl, c, c', h1, h2, h3, h4, h5⟩ := h
  exact ⟨cl, c, c', e _ _ h1 (fun ps z => by unfold LamO at z; cases z), h2, h3, e _ _ h4 (fun ps z => by unfold CellO at z; cases z), e _ _ h5 codeO_ne⟩
theorem LamAt.same {q : Str} {pr : Arguments} {bd : Expr} {sc : Scope} {nm : Str} {H H' : Hp} {f : Addr} {v : V} (h : LamAt q pr bd sc nm H f v) (e : Same H H') : LamAt q pr bd sc nm H' f v := by
  obtain ⟨cl, c, c', h1, h2, h3, h4, h5⟩ := h
  exact ⟨cl, c, c', e _ _ h1, h2, h3, e _ _ h4, e _ _ h5⟩
section
variable {X : Cx} {q : Str} {pr : Arguments} {bd : Expr} {sc : Scope} {nm ar : Str}
theorem run_lam {pins : List (Addr × Obj)} {σ : L2.St} {H : Hp} {s : Shared} {f : Addr} {kv z : V} {u : Value} {k : Nat} {Q : VK} {tb : TE} (S : NScope [ar, nm] [ar] [nm] sc)
    (hbind : ∀ (cl : List (Str × Addr)) (pm cdv ct u : Value), bindArgs (PySem.W.kla_fn "<lambda>" q pr bd sc cl pm cdv ct) ⟨[u], []⟩ = pure [(ar, u)])
    (I : Inv X pins σ H s) (hr : Room (k + 1) X.A) (L : LamAt q pr bd sc nm H f kv) (rz : L2.RelV z u)
    (hbody : ∀ (F : NF) (A : Around) (outer : List Env) (s : Shared) (H : Hp), F.scope = sc → Room k (A.deeper (envF F f s.heap.objs.size)) → PE (ncx CX0 X.prog X.w X.K X.mg X.base [ar, nm] F f A outer s H E0) bd tb)
    (hq : ∀ H0, (∀ b o, H0 b = some o → H b = some o) → tb [some z, some kv] H0 (fun v H' => ∀ H2, (∀ b o, H b = some o → (H0 b = some o → H' b = some o) → H2 b = some o) → Q v H2)) :
    wpAny (model X.prog X.w) X.A (call (.ref f) [u]) (EP X pins σ Q) X.xe s := by
  obtain ⟨cl, c, c', h1, h2, h3, h4, h5⟩ := L
  obtain ⟨⟨pm, ctv, ho⟩, _, _⟩ := I.hok f _ h1
  obtain ⟨⟨uc, ruc, hcell⟩, _, _⟩ := I.hok c _ h4
  let F : NF := ⟨"<lambda>", q, pr, [], sc, cl, c'⟩
  let H0 : Hp := fun b => if b = c then none else H b
  have h0c : H0 c = none := if_pos rfl
  have h0n : ∀ b, b ≠ c → H0 b = H b := fun b n => if_neg n
  have h0s : ∀ b o, H0 b = some o → H b = some o := fun b o e => by
    by_cases hb : b = c
    · rw [hb, h0c] at e
      cases e
    · rw [h0n b hb] at e
      exact e
  have h0N : ∀ b, H b = none → H0 b = none := fun b e => by
    by_cases hb : b = c
    · rw [hb]
      exact h0c
    · rw [h0n b hb]
      exact e
  have e0 := I.env0
  have cO : ∀ b, (∃ y, H b = some (.own y)) ∨ (∃ xs, H b = some (.tup xs)) → b ≠ c := fun b hb z => by
    rw [z, h4] at hb
    rcases hb with ⟨y, e⟩ | ⟨y, e⟩
    · have e := Option.some.inj e
      unfold CellO at e
      cases e
    · have e := Option.some.inj e
      unfold CellO at e
      cases e
  have hok0 : HOk X.prog X.w H0 s.heap := fun b o e => (I.hok b o (h0s b o e)).stay (fun _ _ _ q => q) (fun d q => by rw [h0n d (cO d (.inl ⟨_, q⟩))]; exact q) fun d xs q => by rw [h0n d (cO d (.inr ⟨_, q⟩))]; exact q
  have e1 : Env0 X.prog X.w X.K X.mg X.base X.A X.stack s H0 := ⟨e0.frames, e0.mod, fun b o e => ⟨(e0.bs b o e).1, h0N b (e0.bs b o e).2⟩, e0.bsz, e0.funs, fun b hb => h0N b (e0.frf b hb), hok0, e0.bare⟩
  have lim : s.heap.NoLimit := I.nolimit
  have C : CellsAt F.cl [nm] [some kv] s.heap H0 := by
    refine ⟨rfl, fun y a e => ?_, fun x y a ex ey => (h3 x a ex).trans (h3 y a ey).symm, fun i y e => ?_⟩
    · have ey := h3 y a e
      rw [ey, h2] at e
      cases e
      exact ⟨h0c, _, hcell⟩
    · match i with
      | 0 =>
        have ey : nm = y := Option.some.inj e
        rw [← ey]
        exact ⟨c, h2, fun v ev => by
          have : kv = v := Option.some.inj (Option.some.inj ev)
          rw [← this]
          exact ⟨uc, ruc, hcell⟩⟩
      | i + 1 => cases e
  have rc : codeAny (model X.prog X.w) X.A (.call (.ref f) ⟨[u], []⟩) (CR CX0 X.stack X.prog X.w H0 s (fun v H' => ∀ H2, (∀ b o, H b = some o → (H0 b = some o → H' b = some o) → H2 b = some o) → Q v H2) E0) s := by
    refine PySem.W.kla_callFunE hr.depth ho rfl S.co S.gen rfl (codeO_at I.hok h5) ?_
    rw [hbind]
    refine wpAny_pure (wpAny_newFunctionEnv S.nocell (fun y hy => ?_) (fun h₁ hns hsb => ⟨lim.fresh _ hsb, ?_⟩) S.kind)
    · have : y = (ar, u) := List.mem_singleton.mp hy
      rw [this]
      exact S.par ar (List.mem_singleton.mpr rfl)
    show codeAny _ _ (.expr bd (envF F f s.heap.objs.size)) _ _
    have kp : ∀ b o, s.heap.get? b = some o → h₁.get? b = some o := fun b o e => hsb.extBut b o (Nat.ne_of_lt (Heap.lt_size e)) (Heap.get?_push_of_some _ e)
    have J : Inv (ncx CX0 X.prog X.w X.K X.mg X.base [ar, nm] F f X.A X.stack s H0 E0) [] (startF [ar, nm] [z] [some kv]) H0 { s with heap := h₁, toks := s.toks + ([(ar, u)] : List (Str × Value)).length } :=
      inv_startN (ps := [ar]) (fr := [nm]) S hr.hd e1 rfl (.cons rz .nil) C hns kp
    refine PySem.W.kla_codeExpr (wpAny_mono ((hbody F X.A X.stack s H0 rfl (hr.deeper _)).run [] _ _ H0 _ J (hq H0 h0s)) (fun v s' hv => ?_) fun e s' hv => hv)
    obtain ⟨w', H', J', rv, q'⟩ := hv
    exact ⟨w', H', J'.os, J'.bare, J'.base, J'.hok, rv, q'⟩
  refine wpAny_call (codeAny_mono rc fun r s' hv => ?_)
  cases r with
  | error e => exact (show False from hv).elim
  | ok fl =>
    cases fl with
    | ret u =>
      obtain ⟨v, H', os, bare, un, hok, rv, q'⟩ := hv
      obtain ⟨oc, hoc, hdc⟩ := id hcell
      have fc : H' c = none := un.free c oc hoc h0c (by simp)
      have nfr : c ∉ frs X.stack := fun hb => by
        have := I.stkFree c hb
        rw [h4] at this
        cases this
      have hoc' : s'.heap.get? c = some oc := un.keep c oc hoc h0c nfr (by simp)
      have cn : ∀ b o, H' b = some o → b ≠ c := fun b o e => ne_of_none e fc
      have nc : ∀ b, H b = none → b ≠ c := fun b e z => by rw [z, h4] at e; cases e
      have nt : ∀ b o, H b = some o → (∀ φ, o ≠ .ext φ) → b ≠ c := fun b o e n z => by
        rw [z, h4] at e
        have e := Option.some.inj e
        unfold CellO at e
        exact n _ e.symm
      have hok2 : HOk X.prog X.w (upd H' c (CellO c kv)) s'.heap := fun b ob e => by
        by_cases hb : b = c
        · subst hb
          rw [upd_same] at e
          cases e
          exact ⟨⟨uc, ruc, oc, hoc', hdc⟩, ⟨oc, hoc'⟩, fun h1 h2 ⟨u2, r2, o2, e2, d2⟩ st => ⟨u2, r2, o2, st _ e2, d2⟩⟩
        · rw [upd_ne hb] at e
          exact (hok b ob e).stay (fun d w' _ q => q) (fun d q => by rw [upd_ne (cn d _ q)]; exact q) fun d xs q => by rw [upd_ne (cn d _ q)]; exact q
      have un2 : Un (frs X.stack) [] H (upd H' c (CellO c kv)) s.heap s'.heap := by
        refine ⟨fun b o e n => un.keep b o e (h0N b n), fun b o e n => un.slot b o e (h0N b n), fun b o e n hx => ?_, un.there, fun b xs e => ?_, fun b o u e => ?_, fun b ps e => ?_⟩
        · rw [upd_ne (nc b n)]
          exact un.free b o e (h0N b n) hx
        · have := un.tups b xs (by rw [h0n b (nt b _ e (fun φ z => by cases z))]; exact e)
          rw [upd_ne (cn b _ this)]
          exact this
        · have := un.frzs b o u (by rw [h0n b (nt b _ e (fun φ z => by cases z))]; exact e)
          rw [upd_ne (cn b _ this)]
          exact this
        · obtain ⟨more, this⟩ := un.tbls b ps (by rw [h0n b (nt b _ e (fun φ z => by cases z))]; exact e)
          exact ⟨more, by rw [upd_ne (cn b _ this)]; exact this⟩
      refine I.after ⟨v, upd H' c (CellO c kv), os, bare, un2, hok2, rv, q' _ fun b o e h => ?_⟩
      by_cases hb : b = c
      · rw [hb, upd_same]
        rw [hb, h4] at e
        exact e
      · rw [upd_ne hb]
        exact h (by rw [h0n b hb]; exact e)
    | next => exact (show False from hv).elim
    | brk => exact (show False from hv).elim
    | cont => exact (show False from hv).elim
end
end My

set_option Elab.async false
set_option linter.all false
set_option maxRecDepth 100000
/-! rules that the hand layer has not -/
namespace My
open PySem PySem.Spec PyProof.Rows L2
/-! ### readings weakened, joined -/
section
variable {X : Cx} {e : Expr} {t t' : TE}
theorem PE.imp (h : PE X e t) (k : ∀ σ H Q, t' σ H Q → t σ H Q) : PE X e t' := ⟨fun pins s σ H Q I q => h.run pins s σ H Q I (k _ _ _ q)⟩
theorem pe_or (h : PE X e t) (h' : PE X e t') : PE X e (fun σ H Q => t σ H Q ∨ t' σ H Q) := ⟨fun pins s σ H Q I q => q.elim (fun q => h.run pins s σ H Q I q) fun q => h'.run pins s σ H Q I q⟩
end
/-! ### xs[a:b:k] of a list -/
theorem vals_pick {xs : List V} {us : List Value} (r : Vals xs us) : ∀ ix : List Nat, Vals (ix.filterMap (xs[·]?)) (ix.filterMap (us[·]?))
  | [] => .nil
  | i :: ix => by
    cases e : xs[i]? with
    | none =>
      have e2 := r.none_of e
      rw [List.filterMap_cons_none (f := (xs[·]?)) e, List.filterMap_cons_none (f := (us[·]?)) e2]
      exact vals_pick r ix
    | some x =>
      obtain ⟨u, hu, ru⟩ := r.get e
      rw [List.filterMap_cons_some (f := (xs[·]?)) e, List.filterMap_cons_some (f := (us[·]?)) hu]
      exact .cons ru (vals_pick r ix)
def stepIx (n : Nat) (lo hi st : Option Int) : List Nat := sliceRange (sliceBounds lo hi st n).1 (sliceBounds lo hi st n).2.1 (sliceBounds lo hi st n).2.2
def tStepL (K : PySem.W.Frag) (te : TE) (tl th ts : TO) : TE := fun σ H Q => te σ H fun x H1 => tl σ H1 fun lo H2 => th σ H2 fun hi H3 => ts σ H3 fun st H4 => ∃ a xs, x = .ref a ∧ SqL K H4 a xs ∧ st ≠ some 0 ∧ (stepIx xs.length lo hi st).length ≤ sizeLine ∧
  ∀ p, H4 p = none → Q (.ref p) (upd H4 p (.lst ((stepIx xs.length lo hi st).filterMap (xs[·]?))))
section
variable {X : Cx}
theorem pe_stepL {e b : Expr} {lo hi : Option Expr} {te : TE} {tl th ts : TO} {p3 pos : Pos} (he : PE X e te) (hl : PO X lo tl) (hh : PO X hi th) (hs : PO X (some b) ts)
    (hsub : ∀ l i : Addr, subscripted (.Slice lo hi (some b) p3) false (.ref l) (.ref i) = operate [.ref l, .ref i] (getItem (.ref l) (.ref i)) := by intro l i; with_unfolding_all rfl) :
    PE X (.Subscript e (.Slice lo hi (some b) p3) pos) (tStepL X.K te tl th ts) := by
  refine ⟨fun pins s σ H Q I h => ?_⟩
  refine Subscript_ (thn (he.run pins s σ H _ I h) fun v s1 ⟨x, H1, I1, r1, q1⟩ => ?_)
  refine wpAny_Slice (thn (hl.run pins s1 σ H1 _ I1 q1) fun vl s2 ⟨l, H2, I2, pl, q2⟩ => thn (hh.run pins s2 σ H2 _ I2 q2) fun vu s3 ⟨u, H3, I3, pu, q3⟩ => thn (hs.run pins s3 σ H3 _ I3 q3) fun vs s4 ⟨o, H4, I4, ps, q4⟩ => ?_)
  obtain ⟨a, xs, ex, hx, h0, hz2, q⟩ := q4
  subst ex
  cases r1
  have I5 : Inv X pins σ H4 { s4 with heap := s4.heap.push { cls := .type "slice", data := .fields #[vl, vu, vs] } } := I4.kept (t' := s4.toks) fun b ob q => Heap.get?_push_of_some _ q
  obtain ⟨its, r, ht, hz⟩ := I5.list hx
  have hlen := r.length
  show wpAny (model X.prog X.w) X.A (subscriptTail e (.Slice lo hi (some b) p3) (.ref a) (.ref s4.heap.objs.size)) (EP X pins σ Q) X.xe { s4 with heap := s4.heap.push { cls := .type "slice", data := .fields #[vl, vu, vs] } }
  refine tail_any (ops := [.ref a, .ref s4.heap.objs.size]) ht.isList.typeIs (PySem.slot_list_getitem.lookup) ?_ (hsub _ _)
  refine wpAny_getItem_list_slice ht.isList (Heap.IsSliceOf.new _ vl vu vs) pl pu ps h0 ?_ (by rw [List.size_toArray]; omega)
  have ep : slicePick its.toArray l u o = ((stepIx xs.length l u o).filterMap (its[·]?)).toArray := by
    unfold slicePick stepIx
    rw [List.size_toArray, ← hlen]
    congr 1
    congr 1
    funext i
    simp
  rw [ep]
  refine ⟨.ref _, _, I5.laid (t' := s4.toks) (o := .lst ((stepIx xs.length l u o).filterMap (xs[·]?))) (fun b ob q => Heap.get?_push_of_some _ q) (Nat.le_refl _) ?_, rfl, q _ (I5.hok.fresh (Nat.le_refl _))⟩
  exact ⟨Nat.le_trans (List.length_filterMap_le _ _) hz2, _, 0, vals_pick r _, Heap.get?_push_size _ rfl⟩
/-! ### s[::-1] of a text -/
def tRevS (te : TE) : TE := fun σ H Q => te σ H fun x H1 => ∃ l : List Nat, x = .str (SX.S l) ∧ l.length ≤ sizeLine ∧ Q (.str (SX.S l.reverse)) H1
theorem rev_pick (l : List Nat) (t : Tok) : Txt.sliceBy (SX.S l) none none (-1, t) = SX.S l.reverse := by
  unfold Txt.sliceBy
  have h1 : ((((some ((-1 : Int), t)).map (·.1)).getD 1 == 1 && (slicePicked (SX.S l) none none (some (-1, t))).length == (SX.S l).length) = true) = False := by simp
  rw [if_neg (by simp)]
  have e1 : slicePicked (SX.S l) none none (some (-1, t)) = (List.range l.length).map fun k => l.length - 1 - k := by
    unfold slicePicked Builtin.Str.strSliceIndices
    simp only [Option.map_none, Option.map_some, Option.getD_some]
    rw [if_neg (by decide), if_neg (by decide), SX.S_len]
    exact PySem.W.krv_sliceRange l.length
  rw [e1, PySem.W.krv_range, List.filterMap_reverse]
  have e2 := PySem.W.krv_all l.toArray
  rw [List.size_toArray] at e2
  show (⟨((List.range l.length).filterMap (l.toArray[·]?)).reverse.toArray⟩ : Str) = _
  rw [e2]
theorem pe_revS {e : Expr} {te : TE} {k : Nat} {p1 p2 p3 pos : Pos} (he : PE X e te) : PE X (.Subscript e (.Slice none none (some (.UnaryOp .USub (.Constant (.int 1) k p1) p2)) p3) pos) (tRevS te) := by
  refine ⟨fun pins s σ H Q I h => ?_⟩
  refine Subscript_ (thn (he.run pins s σ H _ I h) fun v s1 ⟨x, H1, I1, r1, q1⟩ => ?_)
  obtain ⟨z, ex, hz, q⟩ := q1
  subst ex
  obtain ⟨t, rfl⟩ := r1
  have hst : PO X (some (.UnaryOp .USub (.Constant (.int 1) k p1) p2)) (tPart (tUn (rU fun i => .int (-i)) (tC (.int 1)))) := po_some (pe_un un_neg pe_int)
  refine wpAny_Slice (thn (po_none.run pins s1 σ H1 (fun o H2 => o = none ∧ H2 = H1) I1 ⟨rfl, rfl⟩) fun vl s2 ⟨l, H2, I2, pl, el, e2⟩ => ?_)
  subst el e2
  refine thn (po_none.run pins s2 σ H2 (fun o H3 => o = none ∧ H3 = H2) I2 ⟨rfl, rfl⟩) fun vu s3 ⟨u, H3, I3, pu, eu, e3⟩ => ?_
  subst eu e3
  refine thn (hst.run pins s3 σ H3 (fun o H4 => o = some (-1) ∧ H4 = H3) I3 ⟨1, rfl, -1, rfl, rfl, rfl⟩) fun vs s4 ⟨o, H4, I4, ps, eo, e4⟩ => ?_
  subst eo e4
  cases pl
  cases pu
  cases ps with
  | int i t2 =>
  have I5 : Inv X pins σ H4 { s4 with heap := s4.heap.push { cls := .type "slice", data := .fields #[.none, .none, .int (-1) t2] } } := I4.kept (t' := s4.toks) fun b ob q => Heap.get?_push_of_some _ q
  show wpAny (model X.prog X.w) X.A (subscriptTail e (.Slice none none (some (.UnaryOp .USub (.Constant (.int 1) k p1) p2)) p3) (.str (SX.S z) t) (.ref s4.heap.objs.size)) (EP X pins σ Q) X.xe { s4 with heap := s4.heap.push { cls := .type "slice", data := .fields #[.none, .none, .int (-1) t2] } }
  refine tail_any (ops := [.ref s4.heap.objs.size, .str (SX.S z) t]) (T := "str") (PySem.typeIs_str _ _ _) PySem.F.slot_str_getitem.lookup ?_ (by with_unfolding_all rfl)
  refine wpAny_getItem_str_slice (l := none) (u := none) (st := some (-1, t2)) ⟨_, Heap.get?_push_size _ rfl, rfl, rfl⟩ rfl ?_
  refine post_val_or_str ⟨?_, fun t' c => ?_⟩
  · exact Nat.le_trans (Txt.sliceBy_le (SX.S z) none none (-1, t2) (by show (-1 : Int) ≠ 0; decide)) (by rw [SX.S_len]; exact hz)
  · have e := rev_pick z t2
    unfold Txt.sliceBy at e
    rw [e]
    exact ⟨.str (SX.S z.reverse), H4, I5.tok c, ⟨_, rfl⟩, q⟩
/-! ### == by an own __eq__, both answers -/
def rEqOwn (C : Addr) (sp : Sp) : R2 := fun x y H Q => ∃ a b dx dy fs gs, x = .ref a ∧ y = .ref b ∧ H a = some (.ins C dx fs) ∧ H b = some (.ins C dy gs) ∧ sp [x, y] H Q E0
theorem op_eqOwn {C f : Addr} {fd : FuncData} {ps : List Str} {n : Nat} {sp : Sp} (F : FnOk X.prog X.w X.K X.mg X.base CX0 n f fd ps sp)
    (hs : PySem.W.findIn X.K (.ref C) "__eq__" = some (some (.ref f))) (hf : PySem.W.isFn X.K (.ref f) = true) (hb : Binds X.K fd ps []) (hr : Room n X.A) : OpR X (compareOp .Eq) (rEqOwn C sp) := by
  intro pins s σ H x y u v Q I rx ry d
  obtain ⟨a, b, dx, dy, fs, gs, rfl, rfl, ha, hb', hsp⟩ := d
  cases rx
  cases ry
  show wpAny (model X.prog X.w) X.A (richCompare .Eq (.ref a) (.ref b)) (EP X pins σ Q) X.xe s
  obtain ⟨mA, J, _⟩ := ins_get I.hok ha
  obtain ⟨mB, J', _⟩ := ins_get I.hok hb'
  obtain ⟨od, J, _⟩ := J.look
  obtain ⟨od', J', _⟩ := J'.look
  obtain ⟨m, hF⟩ := I.fr
  refine PySem.W.cmp_K (op := .Eq) (tb := .ref C) hr.units0 hF I.ok.mod.kin J J'.type (by simp [PySem.W.notFirst]) hs hf ?_
  have hl := F.len _ _ _ _ hsp
  have r2 : Vals [V.ref a, V.ref b] [Value.ref a, Value.ref b] := .cons rfl (.cons rfl .nil)
  refine wpAny_call (codeAny_mono (F.run X.A X.stack s H ⟨[.ref a, .ref b], []⟩ [.ref a, .ref b] [.ref a, .ref b] _ E0 hr I.env0 (by
    have := hb s [.ref a, .ref b] I.kIn (by simpa using hl)
    simpa using this) r2 hsp) fun r s' hq => ?_)
  cases r with
  | error e => exact (show False from hq).elim
  | ok fl =>
    cases fl with
    | ret w =>
      obtain ⟨v, H', I', rv, q⟩ := I.after hq
      show PySem.W.CmpBack (EP X pins σ Q) w s'
      have g : EP X pins σ Q w s' := ⟨v, H', I', rv, q⟩
      cases v with
      | non => cases rv; exact g
      | bl b => cases rv; exact g
      | int i => obtain ⟨t, rfl⟩ := rv; exact g
      | str i => obtain ⟨t, rfl⟩ := rv; exact g
      | byt i => obtain ⟨t, rfl⟩ := rv; exact g
      | flt i => obtain ⟨t, rfl⟩ := rv; exact g
      | ref i => cases rv; exact g
      | ty i => cases rv; exact g
    | next => exact False.elim hq
    | brk => exact False.elim hq
    | cont => exact False.elim hq
/-! ### C() of a class without __init__ -/
def tMake00 (C : Addr) : TE := fun _ H Q => ∀ x dx, H x = none → H dx = none → dx ≠ x → Q (.ref x) (upd (upd H dx (.own x)) x (.ins C dx []))
theorem pe_make00 {C : Addr} {x : Str} {p pos : Pos} (hm1 : PySem.W.makesIn X.K C = true) (hi : PySem.W.findIn X.K (.ref C) "__init__" = some (some (.builtin "object.__init__"))) (hk : PySem.W.keepIn X.K (.ref C) = true) (hg : Gl X x) (hm : X.mg x = some (.ref C))
    (hdb : (x == ("__debug__" : Str)) = false := by decide) : PE X (.Call (.Name x p) [] [] pos) (tMake00 C) := by
  refine ⟨fun pins s σ H Q I h => ?_⟩
  refine wpAny_Call_Name_kw (ld_glob I hg hm ?_ hdb)
  refine PySem.W.callWith_K0 I.kIn hk ?_
  have q := h (s.heap.objs.size + 1) s.heap.objs.size (I.hok.fresh (Nat.le_succ _)) (I.hok.fresh (Nat.le_refl _)) (Nat.ne_of_lt (Nat.lt_succ_self _))
  have I2 := Inv.made (C := C) I
  refine wpAny_call (make_map0 I.kIn hm1 hi (fun self => PySem.W.Looks.of_pure (PySem.W.oi_bind self)) ?_)
  have Y := PySem.W.makes_of (M := model X.prog X.w) I.kIn hm1
  have hx : ((s.heap.push PySem.W.emptyDict).push (PySem.W.instObj C s.heap.objs.size)).get? (s.heap.objs.size + 1) = some (PySem.W.instObj C s.heap.objs.size) := by
    have := Heap.get?_push_size (s.heap.push PySem.W.emptyDict) (o := PySem.W.instObj C s.heap.objs.size) rfl
    rwa [Heap.size_push] at this
  have t1 : PySem.W.Looks (model X.prog X.w) ((s.heap.push PySem.W.emptyDict).push (PySem.W.instObj C s.heap.objs.size)) (typeOf (.ref (s.heap.objs.size + 1))) (.ref C) := (PySem.W.Looks.ld hx).andThen .now
  have t2 : PySem.W.Looks (model X.prog X.w) ((s.heap.push PySem.W.emptyDict).push (PySem.W.instObj C s.heap.objs.size)) (isInstance (.ref (s.heap.objs.size + 1)) (.type "object")) true := t1.andThen (Y.top.keeps fun b o e => Heap.get?_push_of_some _ (Heap.get?_push_of_some _ e))
  refine codeAny_call_builtin PySem.W.oi_plain PySem.W.entry_oi (@PySem.W.check_slot (model X.prog X.w) _ _ _ "object.__init__" "object" "__init__" (.ref (s.heap.objs.size + 1)) [] [] _ PySem.W.oi_kind PySem.W.oi_split t2 (PySem.W.oi_args (.ref (s.heap.objs.size + 1))) ?_)
  rw [PySem.W.oi_run]
  exact wpAny_pure (And.intro rfl ⟨.ref (s.heap.objs.size + 1), _, I2, rfl, q⟩)
end
end My

set_option Elab.async false
set_option linter.all false
set_option maxRecDepth 100000
namespace My
open PySem PySem.Spec PyProof.Rows L2
/-! ### operators upon whole numbers of any size -/
section
variable {X : Cx}
theorem op_mulG : OpR X (binaryOp .Mult) (rI IntMulOk fun i j => .int (i * j)) := opI fun _ _ _ _ _ _ _ hc q => mul_int q hc
def CDivS (_ j : Int) : Prop := j ≠ 0 ∧ j.natAbs.log2 < 9000
theorem op_divS : OpR X (binaryOp .FloorDiv) (rI CDivS fun i j => .int (i.fdiv j)) := opI fun _ _ _ _ _ _ _ hc q => floordiv_int hc.1 q (.inl (PyProof.noPylong_of_log2 hc.2))
def CPowG (i j : Int) : Prop := 0 ≤ j ∧ (Builtin.Int.intBits i : Int) * j ≤ 2 ^ 27
theorem op_powG : OpR X (binaryOp .Pow) (rI CPowG fun i j => .int (i ^ j.toNat)) := opI fun _ _ _ _ _ _ _ hc q => pow_int hc.1 hc.2 q
end
/-- a def that stands at a module's name and keeps its promise -/
structure Cal (P : Program) (w : World) (K : PySem.W.Frag) (mg : Str → Option Value) (base : Heap) (x : Str) (k : Nat) (ps : List Str) (sp : Sp) (f : Addr) (fd : FuncData) : Prop where
  ok : FnOk P w K mg base CX0 k f fd ps sp
  g : mg x = some (.ref f)
  kp : PySem.W.keepIn K (.ref f) = true
  b : Binds K fd ps []
theorem same_upd {H : Hp} {p : Addr} {o : HO} (h : H p = none) : Same H (upd H p o) := fun b x e => by
  rw [upd_ne (ne_of_none e h)]
  exact e
/-! ### the bag -/
/-- a bag at b: its numbers at c, the rest bounded -/
structure BagIs (K : PySem.W.Frag) (H : Hp) (b c : Addr) (ns : List Int) (i : Nat) (g x n : Int) : Prop where
  ob : H b = some (.lst [.ref c, .int i, .int g, .int x, .int n])
  sq : SqL K H c (ns.map V.int)
  cb : c ≠ b
  hi : i ≤ ns.length
  x0 : 0 ≤ x
  x1 : x < 4294967296
def BagC (K : PySem.W.Frag) (H : Hp) (b c : Addr) (ns : List Int) : Prop := ∃ i g x n, BagIs K H b c ns i g x n
def BagAt (K : PySem.W.Frag) (H : Hp) (b : Addr) : Prop := ∃ c ns i g x n, BagIs K H b c ns i g x n
theorem BagC.at {K : PySem.W.Frag} {H : Hp} {b c : Addr} {ns : List Int} (h : BagC K H b c ns) : BagAt K H b := ⟨c, ns, h⟩
/-- what stands stays, but for what stands at b -/
def But (b : Addr) (H H' : Hp) : Prop := ∀ p o, p ≠ b → H p = some o → H' p = some o
theorem But.refl {b : Addr} {H : Hp} : But b H H := fun _ _ _ h => h
theorem But.trans {b : Addr} {H H1 H2 : Hp} (x : But b H H1) (y : But b H1 H2) : But b H H2 := fun p o n h => y p o n (x p o n h)
theorem But.upd {b : Addr} {H : Hp} {o : HO} : But b H (upd H b o) := fun p u n h => by rw [upd_ne n]; exact h
theorem But.of {b : Addr} {H H' : Hp} (s : Same H H') : But b H H' := fun p o _ h => s p o h
theorem But.seq {K : PySem.W.Frag} {b p : Addr} {H H' : Hp} {xs : List V} (h : But b H H') (n : p ≠ b) (s : SqL K H p xs) : SqL K H' p xs := by
  rcases s with (s | ⟨o, s⟩) | s
  · exact .inl (.inl (h _ _ n s))
  · exact .inl (.inr ⟨o, h _ _ n s⟩)
  · exact .inr s
theorem But.seqT {K : PySem.W.Frag} {b p : Addr} {H H' : Hp} {xs : List V} (h : But b H H') (n : p ≠ b) (s : SqT K H p xs) : SqT K H' p xs := by
  rcases s with (s | ⟨o, s⟩) | s
  · exact .inl (.inl (h _ _ n s))
  · exact .inl (.inr ⟨o, h _ _ n s⟩)
  · exact .inr s
theorem BagIs.same {K : PySem.W.Frag} {H H' : Hp} {b c : Addr} {ns : List Int} {i : Nat} {g x n : Int} (B : BagIs K H b c ns i g x n) (s : Same H H') : BagIs K H' b c ns i g x n :=
  ⟨s _ _ B.ob, s.seq B.sq, B.cb, B.hi, B.x0, B.x1⟩
theorem BagAt.same {K : PySem.W.Frag} {H H' : Hp} {b : Addr} (B : BagAt K H b) (s : Same H H') : BagAt K H' b :=
  let ⟨c, ns, i, g, x, n, B⟩ := B; ⟨c, ns, i, g, x, n, B.same s⟩
theorem BagIs.put {K : PySem.W.Frag} {H : Hp} {b c : Addr} {ns : List Int} {i : Nat} {g x n : Int} (B : BagIs K H b c ns i g x n) {i' : Nat} {g' x' n' : Int} (hi : i' ≤ ns.length) (x0 : 0 ≤ x') (x1 : x' < 4294967296) :
    BagIs K (upd H b (.lst [.ref c, .int i', .int g', .int x', .int n'])) b c ns i' g' x' n' :=
  ⟨upd_same, (But.upd (H := H)).seq B.cb B.sq, B.cb, hi, x0, x1⟩
/-! ### promises -/
def spBag (K : PySem.W.Frag) : Sp := fun vs H Q _ => ∃ (a : Addr) (ns : List Int), vs = [.ref a] ∧ SqL K H a (ns.map V.int) ∧ ∀ b H', Same H H' → BagAt K H' b → H b = none → Q (.ref b) H'
def spDraw (K : PySem.W.Frag) : Sp := fun vs H Q _ => ∃ (b : Addr) (m : Int), vs = [.ref b, .int m] ∧ BagAt K H b ∧ 0 < m ∧ m < 1000000000000000000000000000000000000000 ∧ ∀ r H', 0 ≤ r → r < m → BagAt K H' b → But b H H' → Q (.int r) H'
def spDrawC (K : PySem.W.Frag) : Sp := fun vs H Q _ => ∃ (b : Addr) (m : Int) (c : Addr) (ns : List Int), vs = [.ref b, .int m] ∧ BagC K H b c ns ∧ 0 < m ∧ m < 1000000000000000000000000000000000000000 ∧ ∀ r H', 0 ≤ r → r < m → BagC K H' b c ns → But b H H' → Q (.int r) H'
/-- the bag's numbers are not the list at L, or stand in the written part -/
def Off (K : PySem.W.Frag) (L c : Addr) (ns : List Int) : Prop := c ≠ L ∨ ∃ (o : Obj) (its : Array Value) (n : Nat), K.lookup c = some o ∧ o.cls = .type "list" ∧ o.dict = none ∧ o.data = .seq its n ∧ its.size ≤ sizeLine ∧ Vals (ns.map V.int) its.toList
theorem BagC.off {K : PySem.W.Frag} {H : Hp} {b c L : Addr} {ns : List Int} (h : BagC K H b c ns) (n : H L = none) : Off K L c ns := by
  obtain ⟨i, g, x, m, B⟩ := h
  rcases B.sq with (s | ⟨o, s⟩) | s
  · exact .inl (ne_of_none s n)
  · exact .inl (ne_of_none s n)
  · exact .inr s
theorem BagC.upd {K : PySem.W.Frag} {H : Hp} {b c L : Addr} {ns : List Int} {o : HO} (h : BagC K H b c ns) (f : Off K L c ns) (n : L ≠ b) : BagC K (upd H L o) b c ns := by
  obtain ⟨i, g, x, m, B⟩ := h
  refine ⟨i, g, x, m, by rw [upd_ne n.symm]; exact B.ob, ?_, B.cb, B.hi, B.x0, B.x1⟩
  rcases f with f | f
  · exact (But.upd (b := L)).seq f B.sq
  · exact .inr f
theorem BagC.same {K : PySem.W.Frag} {H H' : Hp} {b c : Addr} {ns : List Int} (h : BagC K H b c ns) (s : Same H H') : BagC K H' b c ns := by
  obtain ⟨i, g, x, m, B⟩ := h
  exact ⟨i, g, x, m, B.same s⟩
def topS (i : Nat) : Stmt := PySem.Challenge.pw_soleheld_k31_whole_clashes_of_lists.main.body.getD i (.Pass ⟨0, 0, 0, 0⟩)
abbrev sLawBag : Stmt := topS 26
theorem scLawBag : FnScope ["script", "first", "cell"] ["script"] (defScope sLawBag) := ⟨rfl, rfl, rfl, by decide +kernel, rfl, by decide +kernel, by decide +kernel⟩
abbrev sLawPull : Stmt := topS 27
theorem scLawPull : FnScope ["bag", "many", "cell", "digit", "twice"] ["bag", "many"] (defScope sLawPull) := ⟨rfl, rfl, rfl, by decide +kernel, rfl, by decide +kernel, by decide +kernel⟩
theorem mod_lo {a m : Int} (h : 0 < m) : 0 ≤ a % m := Int.emod_nonneg a (by omega)
theorem mod_hi {a m : Int} (h : 0 < m) : a % m < m := Int.emod_lt_of_pos a h
theorem mul_right {a : Int} {c : Int} (h : Builtin.Int.intBits c ≤ 64) : IntMulOk a c := IntMulOk.of_right h
section
variable {P : Program} {w : World} {K : PySem.W.Frag} {mg : Str → Option Value} {base : Heap}
theorem ok_bag {f : Addr} {fd : FuncData} {k : Nat} (F : Fun K "_law_bag" "_law_bag" sLawBag f fd) (b_int : mg "int" = none) (b_list : mg "list" = none) (b_len : mg "len" = none) (b_sum : mg "sum" = none) : FnOk P w K mg base CX0 (k + 1) f fd ["script"] (spBag K) := by
  refine F.ok scLawBag (fun vs H Q E h => ?_) (fun cdv A outer s H vs Q E hr h => ?_)
  · obtain ⟨a, ns, rfl, _⟩ := h
    rfl
  · obtain ⟨a, ns, rfl, hS, q⟩ := h
    refine ⟨_, (pss_cons (ps_set (i := 1) scLawBag.nd rfl (.inl rfl) (pe_op op_add (pe_op op_add pe_int (pe_op op_mulG pe_int (pe_callB call_len rfl b_len (by decide +kernel) (pa_cons (pe_slice sl_list (pv 0) po_none (po_some pe_int)) pa_nil)))) (pe_callB (cr_sum rfl) rfl b_sum (by decide +kernel) (pa_cons (pe_lc (g := gName 2) (tt := tYes) (te := tOp (rI (fun _ j => 0 < j) fun i j => .int (i % j)) (tCB (fun xs H Q => (∃ i, xs = [.int i] ∧ Q (.int i) H) ∨ ∃ k, xs = [.bl k] ∧ Q (.int (if k then 1 else 0)) H) (tCons (tVar 2) tNil)) (tC (.int 1000003))) (own := [("cell", 2)]) rfl scLawBag.nd (pi_list (pe_slice sl_list (pv 0) po_none (po_some pe_int))) (blkOk_by (own := [("cell", 2)]) (N := ["script", "first", "cell"]) (sc := defScope sLawBag) (by decide +kernel)) (fun _ _ _ _ _ => (pg_name (i := 2) scLawBag.nd rfl (.inl rfl) (.inr rfl))) (fun _ _ _ _ _ => pts_nil) (fun _ _ _ _ _ => (pe_op op_mod (pe_callTy call_int1 rfl b_int (by decide +kernel) (pa_cons (pv 2) pa_nil)) pe_int))) pa_nil))))
      (pss_one (ps_ret (pe_lst (pa_cons (pe_callTy call_list_of rfl b_list (by decide +kernel) (pa_cons (pe_slice sl_list (pv 0) po_none (po_some pe_int)) pa_nil)) (pa_cons pe_int (pa_cons pe_int (pa_cons (pv 1) (pa_cons pe_int pa_nil))))))))), ?_⟩
    obtain ⟨ms, ec, hms⟩ : ∃ ms : List Int, cutV (ns.map V.int) none (some 63) = ms.map V.int ∧ ms.length ≤ 63 := by
      have e0 : HT.sIx (ns.map V.int).length 0 none = 0 := HT.sIx_none _ _
      have e1 : HT.sIx (ns.map V.int).length (ns.map V.int).length (some 63) = min 63 (ns.map V.int).length := HT.sIx_nat _ _ 63
      refine ⟨(ns.drop 0).take (min 63 ns.length), ?_, ?_⟩
      · unfold cutV
        rw [e0, e1, List.map_take, List.map_drop, List.length_map, Nat.sub_zero]
      · rw [List.length_take]
        omega
    refine ⟨_, rfl, _, rfl, a, _, rfl, hS, fun c nc => ?_⟩
    rw [ec]
    refine ⟨_, _, rfl, .inl ⟨_, SqL.of upd_same, rfl⟩, _, _, rfl, rfl, IntMulOk.of_left (by decide +kernel), _, _, rfl, rfl, ?_⟩
    have s1 := same_upd (o := .lst (ms.map V.int)) nc
    refine ⟨_, rfl, _, rfl, a, _, rfl, s1.seq hS, fun c2 nc2 => ?_⟩
    rw [ec]
    have s2 := s1.trans (same_upd (o := .lst (ms.map V.int)) nc2)
    refine ⟨c2, rfl, ⟨_, SqL.of upd_same⟩, fun D nD => lc_list (K := K) (a := c2) (xs := ms.map V.int) (fun i G => ∃ zs : List Int, zs.length = i ∧ (∀ z ∈ zs, 0 ≤ z ∧ z < 1000003) ∧ Same H G ∧ G c2 = some (.lst (ms.map V.int)) ∧ G D = some (.lst (zs.map V.int))) ⟨[], rfl, (fun z hz => absurd hz (by simp)), s2.trans (same_upd nD), same_upd nD _ _ upd_same, upd_same⟩ (fun i G _ ⟨_, _, _, _, e, _⟩ => SqL.of e) ?_ ?_⟩
    · rintro i y G hi ⟨zs, hz1, hz2, sG, ec2, eD⟩
      obtain ⟨z, -, rfl⟩ : ∃ z, ms[i]? = some z ∧ y = .int z := by
        rw [List.getElem?_map] at hi
        cases e : ms[i]? with
        | none => rw [e] at hi; cases hi
        | some z => rw [e] at hi; exact ⟨z, rfl, (Option.some.inj hi).symm⟩
      have hil : i < 63 := by
        have := (List.getElem?_eq_some_iff.mp hi).1
        rw [List.length_map] at this
        omega
      refine ⟨rfl, ?_⟩
      unfold tYes
      refine iteT ⟨_, rfl, .inl ⟨_, rfl, _, _, rfl, rfl, (by show (0 : Int) < _; decide), _, eD, ?_, zs ++ [z % 1000003], ?_, ?_, ?_, ?_, ?_⟩⟩
      · rw [List.length_map]
        exact small1000 (by omega)
      · rw [List.length_append, hz1]
        rfl
      · intro x hx
        rcases List.mem_append.mp hx with h | h
        · exact hz2 x h
        · have : x = z % 1000003 := by simpa using h
          rw [this]
          exact ⟨mod_lo (by decide), mod_hi (by decide)⟩
      · intro p o h
        have hD : H D = none := s2.free nD
        rw [upd_ne (ne_of_none h hD)]
        exact sG p o h
      · rw [upd_ne (ne_of_none upd_same nD)]
        exact ec2
      · rw [upd_same, List.map_append]
        rfl
    · rintro G ⟨zs, hz1, hz2, sG, ec2, eD⟩
      rw [List.length_map] at hz1
      have hsum : ∀ l : List Int, (∀ z ∈ l, 0 ≤ z ∧ z < 1000003) → 0 ≤ l.sum ∧ l.sum ≤ l.length * 1000003 := by
        intro l
        induction l with
        | nil => intro _; exact ⟨by decide, by decide⟩
        | cons x l ih =>
          intro h
          obtain ⟨h1, h2⟩ := ih fun z hz => h z (List.mem_cons_of_mem _ hz)
          obtain ⟨h3, h4⟩ := h x (by simp)
          rw [List.sum_cons, List.length_cons]
          omega
      obtain ⟨u1, u2⟩ := hsum zs hz2
      refine ⟨D, zs, rfl, SqL.of eD, _, _, rfl, rfl, ?_⟩
      refine ⟨_, rfl, _, rfl, a, _, rfl, sG.seq hS, fun d nd => ?_⟩
      rw [ec]
      refine ⟨d, _, rfl, .inl (SqL.of upd_same), fun l nl => ⟨_, rfl, (by show 5 ≤ sizeLine; decide), fun b nb => ?_⟩⟩
      have s3 := (sG.trans (same_upd (o := .lst (ms.map V.int)) nd)).trans (same_upd (o := .lst (ms.map V.int)) nl)
      refine q b _ (s3.trans (same_upd nb)) ⟨l, ms, 0, 0, _, 0, upd_same, ?_, ?_, Nat.zero_le _, ?_, ?_⟩ (s3.free nb)
      · have e : l ≠ b := fun e => by rw [← e, upd_same] at nb; cases nb
        exact SqL.of (by rw [upd_ne e, upd_same])
      · exact fun e => by rw [← e, upd_same] at nb; cases nb
      · rw [List.length_map]
        omega
      · rw [List.length_map]
        omega
theorem ok_pullC {f : Addr} {fd : FuncData} {k : Nat} (F : Fun K "_law_pull" "_law_pull" sLawPull f fd) (b_int : mg "int" = none) (b_len : mg "len" = none) (b_abs : mg "abs" = none) : FnOk P w K mg base CX0 (k + 1) f fd ["bag", "many"] (spDrawC K) := by
  refine F.ok scLawPull (fun vs H Q E h => ?_) (fun cdv A outer s H vs Q E hr h => ?_)
  · obtain ⟨b, m, c, ns, rfl, _⟩ := h
    rfl
  · obtain ⟨b, m, c, ns, rfl, ⟨i, g, x, n, B⟩, m0, m1, q⟩ := h
    refine ⟨_, (C8.pss_cut (ps_if (PW.pt (pw_and (pt_cmpR op_eq (pe_ix ix_list (pv 0) pe_int (fun _ _ => rfl)) pe_int (nomark _)) (pw_and1 (pt_cmpR op_lt (pe_ix ix_list (pv 0) pe_int (fun _ _ => rfl)) (pe_callB call_len rfl b_len (by decide +kernel) (pa_cons (pe_ix ix_list (pv 0) pe_int (fun _ _ => rfl)) pa_nil)) (nomark _))))) (pss_cons (ps_set (i := 2) scLawPull.nd rfl (.inl rfl) (pe_callTy call_int1 rfl b_int (by decide +kernel) (pa_cons (pe_ix ix_list (pe_ix ix_list (pv 0) pe_int (fun _ _ => rfl)) (pe_ix ix_list (pv 0) pe_int (fun _ _ => rfl)) (fun _ _ => rfl)) pa_nil)))
        (pss_cons (ps_asg (pe_op op_add (pe_ix ix_list (pv 0) pe_int (fun _ _ => rfl)) pe_int) (pg_sub (pv 0) pe_int set_list))
        (pss_one (ps_if (pt_cmpR op_ge (pe_callB call_abs rfl b_abs (by decide +kernel) (pa_cons (pv 2) pa_nil)) (pe_op op_powG pe_int pe_int) (nomark _)) (pss_one (ps_asg (pe_callB call_abs rfl b_abs (by decide +kernel) (pa_cons (pv 2) pa_nil)) (pg_sub (pv 0) pe_int set_list))) (pss_one (ps_asg (pe_op op_mod (pe_callTy call_int1 rfl b_int (by decide +kernel) (pa_cons (pe_op op_add (pe_op op_add (pe_op op_mulG (pe_ix ix_list (pv 0) pe_int (fun _ _ => rfl)) pe_int) (pe_op op_mulG (pe_op op_mod (pe_callTy call_int1 rfl b_int (by decide +kernel) (pa_cons (pv 2) pa_nil)) pe_int) pe_int)) pe_int) pa_nil)) pe_int) (pg_sub (pv 0) pe_int set_list))))))) pss_nil)
      (pss_cons (ps_if (pt_cmpR op_gt (pe_ix ix_list (pv 0) pe_int (fun _ _ => rfl)) pe_int (nomark _)) (pss_cons (ps_set (i := 3) scLawPull.nd rfl (.inl rfl) (pe_op op_mod (pe_callTy call_int1 rfl b_int (by decide +kernel) (pa_cons (pe_ix ix_list (pv 0) pe_int (fun _ _ => rfl)) pa_nil)) (pv 1)))
        (pss_cons (ps_asg (pe_op op_fdivW (pe_ix ix_list (pv 0) pe_int (fun _ _ => rfl)) (pv 1)) (pg_sub (pv 0) pe_int set_list))
        (pss_one (ps_ret (pv 3))))) pss_nil)
      (pss_cons (ps_asg (pe_op op_add (pe_ix ix_list (pv 0) pe_int (fun _ _ => rfl)) pe_int) (pg_sub (pv 0) pe_int set_list))
      (pss_cons (ps_set (i := 4) scLawPull.nd rfl (.inl rfl) (pe_op op_mod (pe_callTy call_int1 rfl b_int (by decide +kernel) (pa_cons (pe_op op_add (pe_op op_mulG (pe_ix ix_list (pv 0) pe_int (fun _ _ => rfl)) (pe_ix ix_list (pv 0) pe_int (fun _ _ => rfl))) (pe_op op_mulG (pe_ix ix_list (pv 0) pe_int (fun _ _ => rfl)) pe_int)) pa_nil)) pe_int))
      (pss_cons (ps_asg (pe_op op_mod (pe_callTy call_int1 rfl b_int (by decide +kernel) (pa_cons (pe_op op_add (pe_op op_add (pe_op op_mulG (pv 4) pe_int) (pe_op op_mulG (pe_ix ix_list (pv 0) pe_int (fun _ _ => rfl)) pe_int)) pe_int) pa_nil)) pe_int) (pg_sub (pv 0) pe_int set_list))
      (pss_one (ps_ret (pe_op op_mod (pe_callTy call_int1 rfl b_int (by decide +kernel) (pa_cons (pe_op op_fdivW (pe_ix ix_list (pv 0) pe_int (fun _ _ => rfl)) pe_int) pa_nil)) (pv 1))))))))), ?_⟩
    refine ⟨fun σ' H' => ∃ (v2 v3 v4 : Option V) (i' : Nat) (g' x' n' : Int), σ' = [some (.ref b), some (.int m), v2, v3, v4] ∧ BagIs K H' b c ns i' g' x' n' ∧ But b H H', ?_, ?_⟩
    · refine ⟨.ref b, rfl, b, _, 2, _, rfl, rfl, SqL.of B.ob, (atI_nat (j := 2) rfl), rfl, _, rfl, ?_⟩
      refine ite2 (fun _ => ?_) (fun _ => ?_)
      · refine ⟨.ref b, rfl, b, _, 1, _, rfl, rfl, SqL.of B.ob, (atI_nat (j := 1) rfl), .ref b, rfl, b, _, 0, _, rfl, rfl, SqL.of B.ob, (atI_nat (j := 0) rfl), _, _, rfl, .inl ⟨_, B.sq, rfl⟩, _, _, rfl, rfl, _, rfl, ?_⟩
        refine ite2 (fun e => ?_) (fun _ => ?_)
        · have hlt : i < ns.length := by
            have e2 := of_decide_eq_true e
            rw [List.length_map] at e2
            omega
          have gi : (ns.map V.int)[i]? = some (.int ns[i]) := by
            rw [List.getElem?_map, List.getElem?_eq_getElem hlt]
            rfl
          refine ⟨.ref b, rfl, b, _, 0, _, rfl, rfl, SqL.of B.ob, (atI_nat (j := 0) rfl), .ref b, rfl, b, _, 1, _, rfl, rfl, SqL.of B.ob, (atI_nat (j := 1) rfl), c, _, i, _, rfl, rfl, B.sq, atI_nat gi, .inl ⟨_, rfl, ?_⟩⟩
          refine ⟨.ref b, rfl, b, _, 1, _, rfl, rfl, SqL.of B.ob, (atI_nat (j := 1) rfl), _, _, rfl, rfl, .ref b, rfl, b, _, 1, 1, rfl, rfl, B.ob, rfl, ?_⟩
          have B2 : BagIs K (upd H b (.lst [.ref c, .int ((i : Int) + 1), .int g, .int x, .int n])) b c ns (i + 1) g x n := B.put (i' := i + 1) hlt B.x0 B.x1
          have t2 : But b H (upd H b (.lst [.ref c, .int ((i : Int) + 1), .int g, .int x, .int n])) := But.upd
          refine ⟨_, rfl, _, rfl, _, _, rfl, rfl, ⟨by decide, by decide +kernel⟩, _, _, rfl, rfl, _, rfl, ?_⟩
          refine ite2 (fun _ => ?_) (fun _ => ?_)
          · refine ⟨_, rfl, _, rfl, .ref b, rfl, b, _, 2, 2, rfl, rfl, B2.ob, rfl, ?_⟩
            exact ⟨_, _, _, i + 1, _, x, n, rfl, B2.put B2.hi B.x0 B.x1, t2.trans But.upd⟩
          · refine ⟨.ref b, rfl, b, _, 3, _, rfl, rfl, SqL.of B2.ob, (atI_nat (j := 3) rfl), _, _, rfl, rfl, mul_right (by decide +kernel), _, rfl, .inl ⟨_, rfl, _, _, rfl, rfl, (by show (0 : Int) < _; decide), _, _, rfl, rfl, mul_right (by decide +kernel), _, _, rfl, rfl, _, _, rfl, rfl, .inl ⟨_, rfl, _, _, rfl, rfl, (by show (0 : Int) < _; decide), ?_⟩⟩⟩
            refine ⟨.ref b, rfl, b, _, 3, 3, rfl, rfl, B2.ob, rfl, ?_⟩
            exact ⟨_, _, _, i + 1, g, _, n, rfl, B2.put B2.hi (mod_lo (by decide)) (Int.lt_trans (mod_hi (by decide)) (by decide)), t2.trans But.upd⟩
        · exact ⟨_, _, _, i, g, x, n, rfl, B, But.refl⟩
      · exact ⟨_, _, _, i, g, x, n, rfl, B, But.refl⟩
    · rintro σ' H' ⟨v2, v3, v4, i', g', x', n', rfl, B', t'⟩
      refine ⟨.ref b, rfl, b, _, 2, _, rfl, rfl, SqL.of B'.ob, (atI_nat (j := 2) rfl), _, _, rfl, rfl, _, rfl, ?_⟩
      have d1 : CDivW g' m := wide_div m0 (b := 130) (by omega) (by decide) (by decide)
      refine ite2 (fun _ => ?_) (fun _ => ?_)
      · refine ⟨.ref b, rfl, b, _, 2, _, rfl, rfl, SqL.of B'.ob, (atI_nat (j := 2) rfl), .inl ⟨_, rfl, _, rfl, _, _, rfl, rfl, m0, ?_⟩⟩
        refine ⟨.ref b, rfl, b, _, 2, _, rfl, rfl, SqL.of B'.ob, (atI_nat (j := 2) rfl), _, rfl, _, _, rfl, rfl, d1, .ref b, rfl, b, _, 2, 2, rfl, rfl, B'.ob, rfl, ?_⟩
        exact ⟨_, rfl, q _ _ (mod_lo m0) (mod_hi m0) ⟨i', g' / m, x', n', B'.put B'.hi B'.x0 B'.x1⟩ (t'.trans But.upd)⟩
      · refine ⟨.ref b, rfl, b, _, 4, _, rfl, rfl, SqL.of B'.ob, (atI_nat (j := 4) rfl), _, _, rfl, rfl, .ref b, rfl, b, _, 4, 4, rfl, rfl, B'.ob, rfl, ?_⟩
        have B3 : BagIs K (upd H' b (.lst [.ref c, .int i', .int g', .int x', .int (n' + 1)])) b c ns i' g' x' (n' + 1) := B'.put B'.hi B'.x0 B'.x1
        have hx : IntMulOk x' x' := IntMulOk.of_left (intBits_le_64 (by have := B'.x0; omega) (by have := B'.x1; omega))
        refine ⟨.ref b, rfl, b, _, 3, _, rfl, rfl, SqL.of B3.ob, (atI_nat (j := 3) rfl), .ref b, rfl, b, _, 3, _, rfl, rfl, SqL.of B3.ob, (atI_nat (j := 3) rfl), _, _, rfl, rfl, hx, .ref b, rfl, b, _, 4, _, rfl, rfl, SqL.of B3.ob, (atI_nat (j := 4) rfl), _, _, rfl, rfl, mul_right (by decide +kernel), _, _, rfl, rfl, .inl ⟨_, rfl, _, _, rfl, rfl, (by show (0 : Int) < _; decide), ?_⟩⟩
        refine ⟨_, rfl, _, _, rfl, rfl, mul_right (by decide +kernel), .ref b, rfl, b, _, 3, _, rfl, rfl, SqL.of B3.ob, (atI_nat (j := 3) rfl), _, _, rfl, rfl, mul_right (by decide +kernel), _, _, rfl, rfl, _, _, rfl, rfl, .inl ⟨_, rfl, _, _, rfl, rfl, (by show (0 : Int) < _; decide), .ref b, rfl, b, _, 3, 3, rfl, rfl, B3.ob, rfl, ?_⟩⟩
        obtain ⟨y, hy, y0, y1⟩ : ∃ y : Int, y = ((x' * x' + (n' + 1) * 8111) % 2147483543 * 16417 + x' * 60107 + 54323) % 2147483587 ∧ 0 ≤ y ∧ y < 4294967296 := ⟨_, rfl, mod_lo (by decide), Int.lt_trans (mod_hi (by decide)) (by decide)⟩
        have B4 : BagIs K (upd (upd H' b (.lst [.ref c, .int i', .int g', .int x', .int (n' + 1)])) b (.lst [.ref c, .int i', .int g', .int (((x' * x' + (n' + 1) * 8111) % 2147483543 * 16417 + x' * 60107 + 54323) % 2147483587), .int (n' + 1)])) b c ns i' g' (((x' * x' + (n' + 1) * 8111) % 2147483543 * 16417 + x' * 60107 + 54323) % 2147483587) (n' + 1) := B3.put B3.hi (hy ▸ y0) (hy ▸ y1)
        refine ⟨.ref b, rfl, b, _, 3, _, rfl, rfl, SqL.of B4.ob, (atI_nat (j := 3) rfl), _, _, rfl, rfl, wide_div (b := 10) (by decide) (by decide) (by decide) (by decide), .inl ⟨_, rfl, _, rfl, _, _, rfl, rfl, m0, ?_⟩⟩
        exact q _ _ (mod_lo m0) (mod_hi m0) ⟨i', g', _, n' + 1, B4⟩ ((t'.trans But.upd).trans But.upd)
theorem ok_pull {f : Addr} {fd : FuncData} {k : Nat} (F : Fun K "_law_pull" "_law_pull" sLawPull f fd) (b_int : mg "int" = none) (b_len : mg "len" = none) (b_abs : mg "abs" = none) : FnOk P w K mg base CX0 (k + 1) f fd ["bag", "many"] (spDraw K) :=
  (ok_pullC F b_int b_len b_abs).imp fun vs H Q E ⟨b, m, e, ⟨c, ns, B⟩, m0, m1, q⟩ => ⟨b, m, c, ns, e, B, m0, m1, fun r H' r0 r1 B' t => q r H' r0 r1 B'.at t⟩
end
end My

set_option Elab.async false
set_option linter.all false
set_option maxRecDepth 100000
namespace My
open PySem PySem.Spec PyProof.Rows L2
abbrev sLawOf : Stmt := topS 28
theorem scLawOf : FnScope ["bag", "some"] ["bag", "some"] (defScope sLawOf) := ⟨rfl, rfl, rfl, by decide +kernel, rfl, by decide +kernel, by decide +kernel⟩
abbrev sLawLike : Stmt := topS 29
theorem scLawLike : FnScope ["found", "due", "a", "b"] ["found", "due"] (defScope sLawLike) := ⟨rfl, rfl, rfl, by decide +kernel, rfl, by decide +kernel, by decide +kernel⟩
/-- things are a list of whole numbers -/
def spOf (K : PySem.W.Frag) : Sp := fun vs H Q _ => ∃ (b a : Addr) (xs : List V), vs = [.ref b, .ref a] ∧ BagAt K H b ∧ a ≠ b ∧ SqL K H a xs ∧ 0 < xs.length ∧ xs.length < 1000 ∧ ∀ v H', v ∈ xs → BagAt K H' b → But b H H' → Q v H'
/-! ### data that are alike -/
def flat0 : V → Prop
  | .non => True
  | .bl _ => True
  | .int _ => True
  | .str _ => True
  | _ => False
def Lk (K : PySem.W.Frag) (H : Hp) : Nat → V → V → Prop
  | 0, v, w => v = w ∧ flat0 v
  | n + 1, v, w => (v = w ∧ flat0 v) ∨ ∃ a b xs ys, v = .ref a ∧ w = .ref b ∧ ((SqL K H a xs ∧ SqL K H b ys) ∨ (SqT K H a xs ∧ SqT K H b ys)) ∧ xs.length = ys.length ∧ xs.length < 1000 ∧ ∀ (i : Nat) x y, xs[i]? = some x → ys[i]? = some y → Lk K H n x y
theorem seqT_same {K : PySem.W.Frag} {H H' : Hp} {p : Addr} {xs : List V} (h : Same H H') (s : SqT K H p xs) : SqT K H' p xs := by
  rcases s with (s | ⟨o, s⟩) | s
  · exact .inl (.inl (h _ _ s))
  · exact .inl (.inr ⟨o, h _ _ s⟩)
  · exact .inr s
theorem Lk.same {K : PySem.W.Frag} {H H' : Hp} (s : Same H H') : ∀ {n : Nat} {v w : V}, Lk K H n v w → Lk K H' n v w
  | 0, _, _, h => h
  | n + 1, _, _, h => by
    rcases h with h | ⟨a, b, xs, ys, e1, e2, hs, hl, hb, hi⟩
    · exact .inl h
    · refine .inr ⟨a, b, xs, ys, e1, e2, ?_, hl, hb, fun i x y p q => (hi i x y p q).same s⟩
      rcases hs with ⟨p, q⟩ | ⟨p, q⟩
      · exact .inl ⟨s.seq p, s.seq q⟩
      · exact .inr ⟨seqT_same s p, seqT_same s q⟩
theorem Lk.flat {K : PySem.W.Frag} {H : Hp} {n : Nat} {v w : V} (e : v = w) (f : flat0 v) : Lk K H n v w := by
  cases n with
  | zero => exact ⟨e, f⟩
  | succ n => exact .inl ⟨e, f⟩
def spLike (K : PySem.W.Frag) (n : Nat) : Sp := fun vs H Q _ => ∃ v w, vs = [v, w] ∧ Lk K H n v w ∧ ∀ H', Same H H' → Q (.bl true) H'
theorem ty_list {K : PySem.W.Frag} {H : Hp} {a : Addr} {xs : List V} (h : SqL K H a xs) : TyX K H (.ref a) (.type "list") := by
  rcases h with (h | ⟨o, h⟩) | ⟨o, its, n, h, c, _⟩
  · exact .base (.lst h)
  · exact .base (.frz h)
  · exact .kList h c
theorem ty_tup {K : PySem.W.Frag} {H : Hp} {a : Addr} {xs : List V} (h : SqT K H a xs) : TyX K H (.ref a) (.type "tuple") := by
  rcases h with (h | ⟨o, h⟩) | ⟨o, its, n, h, c, _⟩
  · exact .base (.tup h)
  · exact .fTuple h
  · exact .kTuple h c
/-- the type of a flat value -/
def tyN : V → String
  | .non => "NoneType"
  | .bl _ => "bool"
  | .int _ => "int"
  | .str _ => "str"
  | _ => ""
theorem ty_flat {K : PySem.W.Frag} {H : Hp} {v : V} (h : flat0 v) : TyX K H v (.type (tyN v)) := by
  cases v with
  | non => exact .base .non
  | bl b => exact .base (.bl b)
  | int i => exact .base (.int i)
  | str x => exact .base (.str x)
  | _ => exact h.elim
theorem cls2 {a b : String} : Paired ClsV [.ty a, .ty b] [.type a, .type b] := .cons (.ty a) (.cons (.ty b) .nil)
section
variable {P : Program} {w : World} {K : PySem.W.Frag} {mg : Str → Option Value} {base : Heap}
theorem kit_ll : PySem.W.kitAny K (.type "list") [.type "list", .type "tuple"] = some true := by rfl
theorem kit_tl : PySem.W.kitAny K (.type "tuple") [.type "list", .type "tuple"] = some true := by rfl
theorem kit_flat {v : V} (h : flat0 v) : PySem.W.kitAny K (.type (tyN v)) [.type "list", .type "tuple"] = some false := by
  cases v <;> first | rfl | exact h.elim
theorem k1_ll : PySem.W.kitOne K (.type "list") (.type "list") = some true := by rfl
theorem k1_lt : PySem.W.kitOne K (.type "list") (.type "tuple") = some false := by rfl
theorem k1_tl : PySem.W.kitOne K (.type "tuple") (.type "list") = some false := by rfl
theorem k1_tt : PySem.W.kitOne K (.type "tuple") (.type "tuple") = some true := by rfl
theorem k1_flat {v : V} (h : flat0 v) (c : String) (hc : c = "bool" ∨ c = "str" ∨ c = "int") : ∃ b, PySem.W.kitOne K (.type (tyN v)) (.type c) = some b := by
  cases v <;> first | exact h.elim | (rcases hc with rfl | rfl | rfl <;> exact ⟨_, rfl⟩)
theorem pe_ty {X : Cx} (T : String) {x : Str} {pos : Pos} (hg : Gl X x) (hm : X.mg x = none) (hv : bootBuiltins x = some (.type T)) (hn : x ≠ "__name__" := by decide) (hd : (x == ("__debug__" : Str)) = false := by decide) : PE X (.Name x pos) (tC (.ty T)) := pe_bltn hg hm hv rfl hn hd
theorem walk_zipT {a b : Addr} {xs ys : List V} {n : Nat} (hn : n = min xs.length ys.length) : Walk (RZ.ItzT K a b) n (fun H => SqT K H a xs ∧ SqT K H b ys) (YPair (fun i => xs[i]?) (fun i => ys[i]?)) := by
  subst hn
  refine ⟨fun i _ hi q => ?_, fun _ q => ⟨xs, ys, q.1, q.2, by omega⟩, fun i H v H' _ q y => ?_⟩
  · have h1 : i < xs.length := by omega
    have h2 : i < ys.length := by omega
    exact ⟨xs, ys, xs[i], ys[i], q.1, q.2, by simp [h1], by simp [h2]⟩
  · obtain ⟨T, x, z, h1, h2, h3, h4, h5⟩ := y
    exact ⟨T, x, z, h1, h2, h3, h4 xs q.1, h5 ys q.2⟩
theorem ok_of {f fD : Addr} {fd fdD : FuncData} {k : Nat} (F : Fun K "_law_of" "_law_of" sLawOf f fd) (D : Cal P w K mg base "_law_pull" (k + 1) ["bag", "many"] (spDraw K) fD fdD) (b_len : mg "len" = none) : FnOk P w K mg base CX0 (k + 2) f fd ["bag", "some"] (spOf K) := by
  refine F.ok scLawOf (fun vs H Q E h => ?_) (fun cdv A outer s H vs Q E hr h => ?_)
  · obtain ⟨b, a, xs, rfl, _⟩ := h
    rfl
  · obtain ⟨b, a, xs, rfl, B, n, hs, h0, h1, q⟩ := h
    refine ⟨_, (pss_one (ps_ret (pe_ix ix_list (pv 1) (pe_call D.ok hr rfl D.g D.kp D.b .nil pass0 (pa_cons (pv 0) (pa_cons (pe_callB call_len rfl b_len (by decide +kernel) (pa_cons (pv 1) pa_nil)) pa_nil))) (fun _ _ => rfl)))), ?_⟩
    refine ⟨_, rfl, _, rfl, _, rfl, _, _, rfl, .inl ⟨_, hs, rfl⟩, b, _, rfl, B, by omega, by omega, fun r H' r0 r1 B' t => ?_⟩
    obtain ⟨j, rfl⟩ : ∃ j : Nat, r = (j : Int) := ⟨r.toNat, by omega⟩
    have hj : j < xs.length := by omega
    exact ⟨a, _, _, xs[j], rfl, rfl, t.seq n hs, atI_nat (List.getElem?_eq_getElem hj), q _ H' (List.getElem_mem hj) B' t⟩
theorem all_true : ∀ n : Nat, (List.replicate n true).all id = true := fun n => by
  induction n with
  | zero => rfl
  | succ n ih => rw [List.replicate_succ, List.all_cons, ih]; rfl
theorem FnOk.never {f : Addr} {fd : FuncData} {k : Nat} {ps : List Str} : FnOk P w K mg base CX0 k f fd ps (fun _ _ _ _ => False) := ⟨fun _ _ _ _ h => h.elim, fun _ _ _ _ _ _ _ _ _ _ _ _ _ h => h.elim⟩
def spLikeM (K : PySem.W.Frag) (M : Hp → V → V → Prop) : Sp := fun vs H Q _ => ∃ v w, vs = [v, w] ∧ ((v = w ∧ flat0 v) ∨ ∃ a b xs ys, v = .ref a ∧ w = .ref b ∧ ((SqL K H a xs ∧ SqL K H b ys) ∨ (SqT K H a xs ∧ SqT K H b ys)) ∧ xs.length = ys.length ∧ xs.length < 1000 ∧ ∀ (i : Nat) x y, xs[i]? = some x → ys[i]? = some y → M H x y) ∧ ∀ H', Same H H' → Q (.bl true) H'
theorem like_step {f : Addr} {fd : FuncData} {k : Nat} {R : Sp} {M : Hp → V → V → Prop} (F : Fun K "_law_like" "_law_like" sLawLike f fd) (g : mg "_law_like" = some (.ref f)) (b : Binds K fd ["found", "due"] [])
    (b_isinstance : mg "isinstance" = none) (b_list : mg "list" = none) (b_tuple : mg "tuple" = none) (b_bool : mg "bool" = none) (b_str : mg "str" = none) (b_int : mg "int" = none) (b_len : mg "len" = none) (b_all : mg "all" = none) (b_zip : mg "zip" = none)
    (G : FnOk P w K mg base CX0 k f fd ["found", "due"] R) (hM : ∀ v w H Q E, M H v w → (∀ H', Same H H' → Q (.bl true) H') → R [v, w] H Q E) (hS : ∀ H H' v w, Same H H' → M H v w → M H' v w) : FnOk P w K mg base CX0 (k + 1) f fd ["found", "due"] (spLikeM K M) := by
  refine F.ok scLawLike (fun vs H Q E h => ?_) (fun cdv A outer s H vs Q E hr h => ?_)
  · obtain ⟨v, w', rfl, _⟩ := h
    rfl
  · obtain ⟨v, w', rfl, L, q⟩ := h
    refine ⟨_, (pss_cons (ps_if (PW.pt (pw_or (pt_cmpR op_isN (pv 1) pe_non (nomark _)) (pw_or1 (pt_cmpR op_isN (pv 0) pe_non (nomark _))))) (pss_one (ps_ret (pe_and (pe_cmpR op_isN (pv 1) pe_non (nomark _)) (pe_one (pe_cmpR op_isN (pv 0) pe_non (nomark _)))))) pss_nil)
      (pss_cons (ps_if (pt_val (pe_callB call_isiT rfl b_isinstance (by decide +kernel) (pa_cons (pv 1) (pa_cons (pe_tup (pa_cons (pe_ty "list" rfl b_list (by decide +kernel)) (pa_cons (pe_ty "tuple" rfl b_tuple (by decide +kernel)) pa_nil))) pa_nil)))) (pss_cons (ps_if (PW.pt (pw_or (pt_cmpR op_ne (pe_callB call_isi rfl b_isinstance (by decide +kernel) (pa_cons (pv 0) (pa_cons (pe_ty "list" rfl b_list (by decide +kernel)) pa_nil))) (pe_callB call_isi rfl b_isinstance (by decide +kernel) (pa_cons (pv 1) (pa_cons (pe_ty "list" rfl b_list (by decide +kernel)) pa_nil))) (nomark _)) (pw_or1 (pt_cmpR op_ne (pe_callB call_isi rfl b_isinstance (by decide +kernel) (pa_cons (pv 0) (pa_cons (pe_ty "tuple" rfl b_tuple (by decide +kernel)) pa_nil))) (pe_callB call_isi rfl b_isinstance (by decide +kernel) (pa_cons (pv 1) (pa_cons (pe_ty "tuple" rfl b_tuple (by decide +kernel)) pa_nil))) (nomark _))))) (pss_one (ps_ret pe_bl)) pss_nil)
        (pss_one (ps_ret (pe_and (pe_cmpR op_eq (pe_callB call_len rfl b_len (by decide +kernel) (pa_cons (pv 0) pa_nil)) (pe_callB call_len rfl b_len (by decide +kernel) (pa_cons (pv 1) pa_nil)) (nomark _)) (pe_one (pe_callB (cr_all rfl) rfl b_all (by decide +kernel) (pa_cons (pe_lc (own := [("a", 2), ("b", 3)]) (g := gTup K 2 (gCons (gName 2) (gCons (gName 3) gNil))) (tt := tYes) rfl scLawLike.nd (RZ.pi_zipA rfl b_zip (pa_cons (pv 0) (pa_cons (pv 1) pa_nil))) (blkOk_by (own := [("a", 2), ("b", 3)]) (N := ["found", "due", "a", "b"]) (sc := defScope sLawLike) (by decide +kernel)) (fun _ _ _ _ _ => (pg_tup rfl (pgs_cons (pg_name (i := 2) scLawLike.nd rfl (.inl rfl) (.inr rfl)) (pgs_cons (pg_name (i := 3) scLawLike.nd rfl (.inl rfl) (.inr rfl)) pgs_nil)))) (fun _ _ _ _ _ => pts_nil) (fun _ _ _ _ _ => (pe_call G hr rfl g F.kp b .nil pass0 (pa_cons (pv 2) (pa_cons (pv 3) pa_nil))))) pa_nil))))))) pss_nil)
      (pss_cons (ps_if (PW.pt (pw_or (pt_cmpR op_ne (pe_callB call_isi rfl b_isinstance (by decide +kernel) (pa_cons (pv 1) (pa_cons (pe_ty "bool" rfl b_bool (by decide +kernel)) pa_nil))) (pe_callB call_isi rfl b_isinstance (by decide +kernel) (pa_cons (pv 0) (pa_cons (pe_ty "bool" rfl b_bool (by decide +kernel)) pa_nil))) (nomark _)) (pw_or1 (pt_cmpR op_ne (pe_callB call_isi rfl b_isinstance (by decide +kernel) (pa_cons (pv 1) (pa_cons (pe_ty "int" rfl b_int (by decide +kernel)) pa_nil))) (pe_callB call_isi rfl b_isinstance (by decide +kernel) (pa_cons (pv 0) (pa_cons (pe_ty "int" rfl b_int (by decide +kernel)) pa_nil))) (nomark _))))) (pss_one (ps_ret pe_bl)) pss_nil)
      (pss_one (ps_ret (pe_and (pe_cmpR op_eq (pe_callB call_isi rfl b_isinstance (by decide +kernel) (pa_cons (pv 0) (pa_cons (pe_ty "str" rfl b_str (by decide +kernel)) pa_nil))) (pe_callB call_isi rfl b_isinstance (by decide +kernel) (pa_cons (pv 1) (pa_cons (pe_ty "str" rfl b_str (by decide +kernel)) pa_nil))) (nomark _)) (pe_one (pe_cmpR op_eq (pv 0) (pv 1) (nomark _))))))))), ?_⟩
    rcases L with ⟨rfl, fl⟩ | ⟨a, c, xs, ys, rfl, rfl, hs, hl, hb, hi⟩
    · have hf : flat0 v := fl
      refine ⟨v, rfl, rfl, _, rfl, ite2 (fun e => iteT ?_) (fun e => ⟨v, rfl, rfl, _, rfl, ite2 (fun e' => absurd e' e) (fun _ => ?_)⟩)⟩
      · refine ⟨v, rfl, rfl, _, rfl, ?_⟩
        rw [e]
        refine iteT ⟨v, rfl, rfl, ?_⟩
        rw [e]
        exact q _ (Same.refl H)
      · refine ⟨_, rfl, (by show 2 ≤ sizeLine; decide), fun p np => ⟨_, p, _, _, _, _, rfl, upd_same, cls2, ty_flat hf, kit_flat hf, _, rfl, iteF ?_⟩⟩
        have s1 := same_upd (o := .tup [.ty "list", .ty "tuple"]) np
        obtain ⟨k1, e1⟩ := k1_flat (K := K) hf "bool" (.inl rfl)
        obtain ⟨k2, e2⟩ := k1_flat (K := K) hf "str" (.inr (.inl rfl))
        obtain ⟨k3, e3⟩ := k1_flat (K := K) hf "int" (.inr (.inr rfl))
        refine ⟨_, rfl, _, _, _, _, _, rfl, .ty _, ty_flat hf, e1, _, rfl, _, _, _, _, _, rfl, .ty _, ty_flat hf, e1, rfl, _, rfl, ?_⟩
        rw [decide_eq_true rfl]
        refine iteF ⟨_, rfl, _, _, _, _, _, rfl, .ty _, ty_flat hf, e3, _, rfl, _, _, _, _, _, rfl, .ty _, ty_flat hf, e3, rfl, _, rfl, ?_⟩
        rw [decide_eq_true rfl]
        refine iteF ⟨_, rfl, _, _, _, _, _, rfl, .ty _, ty_flat hf, e2, _, rfl, _, _, _, _, _, rfl, .ty _, ty_flat hf, e2, rfl, _, rfl, ?_⟩
        rw [decide_eq_true rfl]
        refine iteT ⟨_, rfl, _, rfl, ?_, ?_⟩
        · cases v <;> first | rfl | exact hf.elim
        · rw [decide_eq_true rfl]
          exact q _ s1
    · -- lists or tuples
      have hr1 : ∀ (i : Nat) x y, xs[i]? = some x → ys[i]? = some y → M H x y := hi
      obtain ⟨T, kt, k1, k2, tya, tyc, hlen, hlen'⟩ : ∃ T, PySem.W.kitAny K (.type T) [.type "list", .type "tuple"] = some true ∧ (∃ k1, PySem.W.kitOne K (.type T) (.type "list") = some k1) ∧ (∃ k2, PySem.W.kitOne K (.type T) (.type "tuple") = some k2) ∧ (∀ H', Same H H' → TyX K H' (.ref a) (.type T)) ∧ (∀ H', Same H H' → TyX K H' (.ref c) (.type T)) ∧ (∀ H', Same H H' → LenV K (.ref a) H' xs.length) ∧ (∀ H', Same H H' → LenV K (.ref c) H' ys.length) := by
        rcases hs with ⟨p, q⟩ | ⟨p, q⟩
        · exact ⟨"list", kit_ll, ⟨_, k1_ll⟩, ⟨_, k1_lt⟩, fun _ s => ty_list (s.seq p), fun _ s => ty_list (s.seq q), fun _ s => .inl ⟨_, s.seq p, rfl⟩, fun _ s => .inl ⟨_, s.seq q, rfl⟩⟩
        · exact ⟨"tuple", kit_tl, ⟨_, k1_tl⟩, ⟨_, k1_tt⟩, fun _ s => ty_tup (seqT_same s p), fun _ s => ty_tup (seqT_same s q), fun _ s => .inr ⟨_, seqT_same s p, rfl⟩, fun _ s => .inr ⟨_, seqT_same s q, rfl⟩⟩
      obtain ⟨k1, e1⟩ := k1
      obtain ⟨k2, e2⟩ := k2
      refine ⟨_, rfl, rfl, _, rfl, ite2 (fun e => absurd (of_decide_eq_true e) (fun z => by cases z)) (fun _ => ⟨_, rfl, rfl, _, rfl, ite2 (fun e => absurd (of_decide_eq_true e) (fun z => by cases z)) (fun _ => ?_)⟩)⟩
      refine ⟨_, rfl, (by show 2 ≤ sizeLine; decide), fun p0 np => ⟨_, p0, _, _, _, _, rfl, upd_same, cls2, tyc _ (same_upd np), kt, _, rfl, iteT ?_⟩⟩
      have s1 : Same H (upd H p0 (.tup [.ty "list", .ty "tuple"])) := same_upd np
      refine ⟨_, rfl, _, _, _, _, _, rfl, .ty _, tya _ s1, e1, _, rfl, _, _, _, _, _, rfl, .ty _, tyc _ s1, e1, rfl, _, rfl, ?_⟩
      rw [decide_eq_true rfl]
      refine iteF ⟨_, rfl, _, _, _, _, _, rfl, .ty _, tya _ s1, e2, _, rfl, _, _, _, _, _, rfl, .ty _, tyc _ s1, e2, rfl, _, rfl, ?_⟩
      rw [decide_eq_true rfl]
      refine iteF ⟨_, rfl, _, _, rfl, hlen _ s1, _, rfl, _, _, rfl, hlen' _ s1, rfl, _, rfl, ?_⟩
      rw [hl, decide_eq_true rfl]
      refine iteT ⟨_, rfl, _, rfl, a, c, xs, ys, rfl, ?_⟩
      rcases hs with ⟨p, q'⟩ | ⟨p, q'⟩
      ·
        refine .inl ⟨Same.seq s1 p, Same.seq s1 q', fun D nD => lc_it (walk_zip (K := K) (a := a) (b := c) (by omega : xs.length = min xs.length ys.length)) (fun i H2 => Same (upd H p0 (.tup [.ty "list", .ty "tuple"])) H2 ∧ H2 D = some (.lst ((List.replicate i true).map V.bl))) ⟨same_upd nD, upd_same⟩ (fun i H2 _ h => ⟨Same.seq (s1.trans h.1) p, Same.seq (s1.trans h.1) q'⟩) ?_ ?_⟩
        · rintro i z H2 H3 hlt ⟨s2, hD⟩ ⟨T, x, y, rfl, nT, rfl, hx, hy⟩
          have nTD : D ≠ T := ne_of_none hD nT
          refine ⟨T, [x, y], rfl, SqT.of upd_same, rfl, x, [y], rfl, y, [], rfl, rfl, rfl, ?_⟩
          unfold tYes
          refine iteT ?_
          refine ⟨x, rfl, y, rfl, hM x y _ _ _ (hS _ _ _ _ ((s1.trans s2).trans (same_upd nT)) (hr1 i x y hx hy)) fun H4 s4 => ?_⟩
          have hD4 : H4 D = some (.lst ((List.replicate i true).map V.bl)) := s4 _ _ (by rw [upd_ne nTD]; exact hD)
          refine ⟨_, hD4, ?_, ?_, ?_⟩
          · rw [List.length_map, List.length_replicate]
            exact small1000 (by omega)
          · intro p' o' h'
            have nq : p' ≠ D := ne_of_none h' nD
            rw [upd_ne nq]
            exact s4 _ _ (same_upd nT _ _ (s2 _ _ h'))
          · rw [upd_same, List.replicate_succ', List.map_append]
            rfl
        · rintro H2 ⟨s2, hD⟩
          refine ⟨D, _, rfl, SqL.of hD, ?_⟩
          rw [all_true]
          exact q _ (s1.trans s2)
      ·
        refine .inr ⟨seqT_same s1 p, seqT_same s1 q', fun D nD => lc_it (walk_zipT (K := K) (a := a) (b := c) (by omega : xs.length = min xs.length ys.length)) (fun i H2 => Same (upd H p0 (.tup [.ty "list", .ty "tuple"])) H2 ∧ H2 D = some (.lst ((List.replicate i true).map V.bl))) ⟨same_upd nD, upd_same⟩ (fun i H2 _ h => ⟨seqT_same (s1.trans h.1) p, seqT_same (s1.trans h.1) q'⟩) ?_ ?_⟩
        · rintro i z H2 H3 hlt ⟨s2, hD⟩ ⟨T, x, y, rfl, nT, rfl, hx, hy⟩
          have nTD : D ≠ T := ne_of_none hD nT
          refine ⟨T, [x, y], rfl, SqT.of upd_same, rfl, x, [y], rfl, y, [], rfl, rfl, rfl, ?_⟩
          unfold tYes
          refine iteT ?_
          refine ⟨x, rfl, y, rfl, hM x y _ _ _ (hS _ _ _ _ ((s1.trans s2).trans (same_upd nT)) (hr1 i x y hx hy)) fun H4 s4 => ?_⟩
          have hD4 : H4 D = some (.lst ((List.replicate i true).map V.bl)) := s4 _ _ (by rw [upd_ne nTD]; exact hD)
          refine ⟨_, hD4, ?_, ?_, ?_⟩
          · rw [List.length_map, List.length_replicate]
            exact small1000 (by omega)
          · intro p' o' h'
            have nq : p' ≠ D := ne_of_none h' nD
            rw [upd_ne nq]
            exact s4 _ _ (same_upd nT _ _ (s2 _ _ h'))
          · rw [upd_same, List.replicate_succ', List.map_append]
            rfl
        · rintro H2 ⟨s2, hD⟩
          refine ⟨D, _, rfl, SqL.of hD, ?_⟩
          rw [all_true]
          exact q _ (s1.trans s2)

theorem ok_like {f : Addr} {fd : FuncData} (F : Fun K "_law_like" "_law_like" sLawLike f fd) (g : mg "_law_like" = some (.ref f)) (b : Binds K fd ["found", "due"] [])
    (b_isinstance : mg "isinstance" = none) (b_list : mg "list" = none) (b_tuple : mg "tuple" = none) (b_bool : mg "bool" = none) (b_str : mg "str" = none) (b_int : mg "int" = none) (b_len : mg "len" = none) (b_all : mg "all" = none) (b_zip : mg "zip" = none) :
    ∀ n : Nat, FnOk P w K mg base CX0 (n + 1) f fd ["found", "due"] (spLike K n) := by
  intro n
  induction n with
  | zero =>
    exact (like_step (M := fun _ _ _ => False) (R := fun _ _ _ _ => False) F g b b_isinstance b_list b_tuple b_bool b_str b_int b_len b_all b_zip FnOk.never (fun _ _ _ _ _ h _ => h) (fun _ _ _ _ _ h => h)).imp
      fun vs H Q E ⟨v, w', e, L, q⟩ => ⟨v, w', e, .inl L, q⟩
  | succ n ih =>
    exact (like_step (M := fun H v w => Lk K H n v w) F g b b_isinstance b_list b_tuple b_bool b_str b_int b_len b_all b_zip ih (fun v w H Q E h q => ⟨v, w, rfl, h, q⟩) (fun _ _ _ _ s h => h.same s)).imp
      fun vs H Q E ⟨v, w', e, L, q⟩ => ⟨v, w', e, L, q⟩
end
end My

set_option Elab.async false
set_option linter.all false
set_option maxRecDepth 100000
namespace My
open PySem PySem.Spec PyProof.Rows L2 SX
open PySem.NumText (AllDigits digitsVal)
/-! ### digits -/
/-- the last k digits of n -/
def dk : Nat → Nat → List Nat
  | 0, _ => []
  | k + 1, n => dk k (n / 10) ++ [48 + n % 10]
theorem dk_len : ∀ k n, (dk k n).length = k
  | 0, _ => rfl
  | k + 1, n => by rw [dk, List.length_append, dk_len k]; rfl
theorem numL_dk : ∀ (k n : Nat), 10 ^ k ≤ n → TL.numL n = TL.numL (n / 10 ^ k) ++ dk k n
  | 0, n, _ => by rw [Nat.pow_zero, Nat.div_one, dk, List.append_nil]
  | k + 1, n, h => by
    have p : 0 < 10 ^ k := Nat.pow_pos (by decide)
    have h1 : 10 ^ k * 10 ≤ n := by rw [← Nat.pow_succ]; exact h
    have h10 : 10 ≤ n := Nat.le_trans (by omega) h1
    rw [TL.numL_step h10, numL_dk k (n / 10) (by rw [Nat.le_div_iff_mul_le (by decide)]; exact h1), dk, Nat.div_div_eq_div_mul, Nat.pow_succ, Nat.mul_comm 10, List.append_assoc]
theorem dk_mod : ∀ (k n : Nat), dk k n = dk k (n % 10 ^ k)
  | 0, n => rfl
  | k + 1, n => by
    have e1 : n % 10 ^ (k + 1) % 10 = n % 10 := by
      rw [Nat.pow_succ, Nat.mod_mul_left_mod]
    have e2 : n % 10 ^ (k + 1) / 10 = n / 10 % 10 ^ k := by
      rw [Nat.pow_succ, Nat.mul_comm, Nat.mod_mul_right_div_self]
    rw [dk, dk, e1, e2, dk_mod k (n / 10)]
theorem dk_pad : ∀ (k n : Nat), n < 10 ^ (k + 1) → dk (k + 1) n = List.replicate (k + 1 - (TL.numL n).length) 48 ++ TL.numL n := by
  intro k
  induction k with
  | zero =>
    intro n h
    have h' : n < 10 := h
    rw [TL.numL_lt h']
    show dk 0 (n / 10) ++ [48 + n % 10] = _
    rw [Nat.mod_eq_of_lt h']
    rfl
  | succ k ih =>
    intro n h
    by_cases h10 : n < 10
    · rw [dk, ih (n / 10) (by rw [Nat.div_eq_of_lt h10]; exact Nat.pow_pos (by decide)), Nat.div_eq_of_lt h10, TL.numL_lt h10, TL.numL_lt (by decide : 0 < 10), Nat.mod_eq_of_lt h10]
      show List.replicate k 48 ++ [48] ++ [48 + n] = List.replicate (k + 1) 48 ++ [48 + n]
      rw [← List.replicate_succ']
    · rw [dk, ih (n / 10) (by rw [Nat.div_lt_iff_lt_mul (by decide), ← Nat.pow_succ]; exact h), TL.numL_step (n := n) (by omega), List.length_append, List.append_assoc]
      have e : k + 1 - (TL.numL (n / 10)).length = k + 1 + 1 - ((TL.numL (n / 10)).length + [48 + n % 10].length) := by
        show _ = k + 1 + 1 - ((TL.numL (n / 10)).length + 1)
        omega
      rw [e]
/-- digits that write a number as Python does -/
structure Can (l : List Nat) : Prop where
  ne : l ≠ []
  dg : AllDigits l
  z : l.head? = some 48 → l = [48]
theorem digitsVal_snoc (l : List Nat) (c : Nat) : digitsVal (l ++ [c]) = digitsVal l * 10 + (c - 48) := by
  unfold digitsVal
  rw [List.foldl_append]
  rfl
theorem fold_lt : ∀ (l : List Nat) (a : Nat), AllDigits l → l.foldl (fun acc c => acc * 10 + (c - 48)) a < (a + 1) * 10 ^ l.length
  | [], a, _ => by show a < (a + 1) * 1; omega
  | c :: l, a, h => by
    have h2 := h.head
    have h1 := fold_lt l (a * 10 + (c - 48)) h.tail
    rw [List.foldl_cons, List.length_cons, Nat.pow_succ]
    refine Nat.lt_of_lt_of_le h1 ?_
    have e : (a + 1) * (10 ^ l.length * 10) = ((a + 1) * 10) * 10 ^ l.length := by
      rw [Nat.mul_comm (10 ^ l.length), Nat.mul_assoc]
    rw [e]
    exact Nat.mul_le_mul_right _ (by omega)
theorem val_lt {l : List Nat} (h : AllDigits l) : digitsVal l < 10 ^ l.length := by
  have := fold_lt l 0 h
  rw [Nat.zero_add, Nat.one_mul] at this
  exact this
theorem fold_ge : ∀ (l : List Nat) (a : Nat), a ≤ l.foldl (fun acc c => acc * 10 + (c - 48)) a
  | [], a => Nat.le_refl a
  | c :: l, a => by
    have h1 := fold_ge l (a * 10 + (c - 48))
    rw [List.foldl_cons]
    omega
theorem val_pos {l : List Nat} (h : AllDigits l) (h0 : l ≠ []) (h1 : l.head? ≠ some 48) : 0 < digitsVal l := by
  cases l with
  | nil => exact absurd rfl h0
  | cons c l =>
    have h2 := h.head
    have h3 : c ≠ 48 := fun e => h1 (by rw [e]; rfl)
    have h4 := fold_ge l (0 * 10 + (c - 48))
    show 0 < l.foldl (fun acc c => acc * 10 + (c - 48)) (0 * 10 + (c - 48))
    omega
theorem numL_val' : ∀ (k : Nat) (l : List Nat), l.length = k → Can l → TL.numL (digitsVal l) = l := by
  intro k
  induction k with
  | zero => exact fun l h C => absurd (List.length_eq_zero_iff.mp h) C.ne
  | succ k ih =>
    intro l hl C
    obtain ⟨p, c, rfl⟩ : ∃ p c, l = p ++ [c] := ⟨l.dropLast, l.getLast C.ne, (List.dropLast_concat_getLast C.ne).symm⟩
    have hc := C.dg c (by simp)
    rw [digitsVal_snoc]
    by_cases hp : p = []
    · subst hp
      show TL.numL (0 * 10 + (c - 48)) = [c]
      rw [TL.numL_lt (by omega)]
      have : 48 + (0 * 10 + (c - 48)) = c := by omega
      rw [this]
    · have hh : (p ++ [c]).head? = p.head? := by
        cases p with
        | nil => exact absurd rfl hp
        | cons a p => rfl
      have h1 : p.head? ≠ some 48 := fun e => by
        have := C.z (hh.trans e)
        have l2 := congrArg List.length this
        rw [List.length_append] at l2
        exact hp (List.length_eq_zero_iff.mp (by simpa using l2))
      have dp : AllDigits p := fun d hd => C.dg d (List.mem_append.mpr (.inl hd))
      have h2 := val_pos dp hp h1
      have e := ih p (by rw [List.length_append] at hl; exact Nat.succ.inj hl) ⟨hp, dp, fun e => absurd e h1⟩
      rw [TL.numL_step (by omega)]
      have e1 : (digitsVal p * 10 + (c - 48)) / 10 = digitsVal p := by omega
      have e2 : 48 + (digitsVal p * 10 + (c - 48)) % 10 = c := by omega
      rw [e1, e2, e]
theorem Can.num {l : List Nat} (C : Can l) : TL.numL (digitsVal l) = l := numL_val' _ l rfl C
theorem can_num (n : Nat) : Can (TL.numL n) := by
  refine ⟨TL.numL_ne n, TL.numL_digits n, ?_⟩
  induction n using Nat.strongRecOn with
  | _ n ih =>
    intro h
    by_cases h10 : n < 10
    · rw [TL.numL_lt h10] at h ⊢
      have : 48 + n = 48 := Option.some.inj h
      rw [this]
    · rw [TL.numL_step (by omega)] at h
      have hh : (TL.numL (n / 10) ++ [48 + n % 10]).head? = (TL.numL (n / 10)).head? := by
        cases e : TL.numL (n / 10) with
        | nil => exact absurd e (TL.numL_ne _)
        | cons a p => rfl
      have := ih (n / 10) (by omega) (hh.symm.trans h)
      have z := TL.numL_inj (this.trans (TL.numL_lt (by decide : 0 < 10)).symm)
      omega
theorem num_short {n : Nat} : (TL.numL n).length ≤ 200 ↔ n < 10 ^ 200 := by
  constructor
  · intro h
    have := val_lt (TL.numL_digits n)
    rw [TL.numL_val] at this
    exact Nat.lt_of_lt_of_le this (Nat.pow_le_pow_right (by decide) h)
  · exact fun h => TL.numL_len (by decide) h
/-! ### the text of a worth -/
def sgn (x : Int) : List Nat := if x < 0 then [45] else []
def ntx (x : Int) : List Nat := sgn x ++ TL.numL x.natAbs
def wtx (x y : Int) : List Nat := if y = 1 then ntx x else ntx x ++ 47 :: ntx y
theorem int_text (x : Int) : Str.ofString (toString x) = S (ntx x) := by
  by_cases h : x < 0
  · obtain ⟨n, rfl⟩ : ∃ n : Nat, x = Int.negSucc n := ⟨(-x - 1).toNat, by omega⟩
    unfold ntx sgn
    rw [if_pos h]
    have e : toString (Int.negSucc n) = "-" ++ toString (((n + 1 : Nat) : Int)) := rfl
    rw [e]
    refine TL.ext_tl ?_
    have h1 : TL.tl (Str.ofString ("-" ++ toString (((n + 1 : Nat) : Int)))) = [45] ++ TL.tl (Str.ofString (toString (((n + 1 : Nat) : Int)))) := by
      unfold TL.tl
      rw [Str.ofString_eq_toList, Str.ofString_eq_toList]
      simp
    rw [h1, TL.tl_num]
    rfl
  · obtain ⟨n, rfl⟩ := Int.eq_ofNat_of_zero_le (by omega : 0 ≤ x)
    unfold ntx sgn
    rw [if_neg h]
    exact num_S n
/-- l without a minus ahead -/
def un (l : List Nat) : List Nat := if l.head? = some 45 then l.tail else l
theorem un_ntx (x : Int) (r : List Nat) : un (ntx x ++ r) = TL.numL x.natAbs ++ r := by
  unfold ntx sgn un
  split
  · simp
  · have h : (([] ++ TL.numL x.natAbs) ++ r).head? ≠ some 45 := by
      rw [List.nil_append]
      cases e : TL.numL x.natAbs with
      | nil => exact absurd e (TL.numL_ne _)
      | cons a p =>
        intro z
        have : a = 45 := Option.some.inj z
        have := TL.numL_digits x.natAbs a (by rw [e]; simp)
        omega
    rw [if_neg h, List.nil_append]
theorem head_ntx (x : Int) (r : List Nat) : (ntx x ++ r).head? = some 45 ↔ x < 0 := by
  unfold ntx sgn
  split
  · rename_i h
    exact ⟨fun _ => h, fun _ => rfl⟩
  · rename_i h
    refine ⟨fun z => ?_, fun z => absurd z h⟩
    rw [List.nil_append] at z
    cases e : TL.numL x.natAbs with
    | nil => exact absurd e (TL.numL_ne _)
    | cons a p =>
      rw [e] at z
      have : a = 45 := Option.some.inj z
      have := TL.numL_digits x.natAbs a (by rw [e]; simp)
      omega

/-- l is the text of the worth x / y -/
structure IsT (l : List Nat) (x y : Int) : Prop where
  pos : 1 ≤ y
  low : Nat.gcd x.natAbs y.natAbs = 1
  bx : x.natAbs < 10 ^ 200
  bY : y.natAbs < 10 ^ 200
  eq : l = wtx x y
/-- the two numbers of a text without its minus -/
def cutp (l : List Nat) : List Nat × List Nat := match TL.par [47] [] l with
  | some r => r
  | none => (l, [49])
theorem ntx_pos {y : Int} (h : 1 ≤ y) : ntx y = TL.numL y.natAbs := by
  unfold ntx sgn
  rw [if_neg (by omega), List.nil_append]
theorem unE0 {l : List Nat} {x y : Int} (pos : 1 ≤ y) (eq : l = wtx x y) : un l = if y = 1 then TL.numL x.natAbs else TL.numL x.natAbs ++ 47 :: TL.numL y.natAbs := by
  rw [eq]
  unfold wtx
  split
  · have := un_ntx x []
    rw [List.append_nil, List.append_nil] at this
    exact this
  · rw [ntx_pos pos]
    exact un_ntx x _
theorem head0 {l : List Nat} {x y : Int} (eq : l = wtx x y) : l.head? = some 45 ↔ x < 0 := by
  rw [eq]
  unfold wtx
  split
  · have := head_ntx x []
    rw [List.append_nil] at this
    exact this
  · exact head_ntx x _
theorem cut0 {l : List Nat} {x y : Int} (pos : 1 ≤ y) (eq : l = wtx x y) : cutp (un l) = (TL.numL x.natAbs, TL.numL y.natAbs) := by
  have fr : 47 ∉ TL.numL x.natAbs := TL.numL_free (by decide)
  rw [unE0 pos eq]
  unfold cutp
  by_cases h : y = 1
  · rw [if_pos h, par_head_none fr, h]
    rfl
  · rw [if_neg h, show TL.numL x.natAbs ++ 47 :: TL.numL y.natAbs = TL.numL x.natAbs ++ ([47] ++ TL.numL y.natAbs) from rfl, par_head _ fr]
theorem wtx_inj {x y x' y' : Int} (p : 1 ≤ y) (p' : 1 ≤ y') (eq : wtx x y = wtx x' y') : x = x' ∧ y = y' := by
  have e := (cut0 p rfl).symm.trans (cut0 p' eq)
  have e1 := TL.numL_inj (congrArg Prod.fst e)
  have e2 := TL.numL_inj (congrArg Prod.snd e)
  have h := head0 (l := wtx x y) rfl
  have h' := head0 eq
  constructor
  · by_cases hx : x < 0
    · have := h'.mp (h.mpr hx)
      omega
    · have : ¬ x' < 0 := fun z => hx (h.mp (h'.mpr z))
      omega
  · omega
theorem IsT.unE {l : List Nat} {x y : Int} (T : IsT l x y) : un l = if y = 1 then TL.numL x.natAbs else TL.numL x.natAbs ++ 47 :: TL.numL y.natAbs := unE0 T.pos T.eq
theorem IsT.head {l : List Nat} {x y : Int} (T : IsT l x y) : l.head? = some 45 ↔ x < 0 := head0 T.eq
theorem IsT.cut {l : List Nat} {x y : Int} (T : IsT l x y) : cutp (un l) = (TL.numL x.natAbs, TL.numL y.natAbs) := cut0 T.pos T.eq
theorem IsT.uniq {l : List Nat} {x y x' y' : Int} (T : IsT l x y) (T' : IsT l x' y') : x = x' ∧ y = y' := wtx_inj T.pos T'.pos (T.eq.symm.trans T'.eq)
/-- the parts between the strokes -/
abbrev cuts (l : List Nat) : List (List Nat) := TL.spl [47] 0 [] l
theorem cuts_one {l : List Nat} (h : 47 ∉ l) : cuts l = [l] := by
  show TL.spl [47] 0 [] l = [l]
  rw [TL.spl_last1 h, List.nil_append]
theorem cuts_two {p q : List Nat} (h : 47 ∉ p) : cuts (p ++ 47 :: q) = p :: cuts q := by
  show TL.spl [47] 0 [] (p ++ ([47] ++ q)) = _
  rw [TL.spl_part1 h, List.nil_append]
theorem cuts_cases (l : List Nat) : (47 ∉ l ∧ cuts l = [l]) ∨ ∃ p q, l = p ++ 47 :: q ∧ 47 ∉ p ∧ cuts l = p :: cuts q := by
  by_cases h : 47 ∈ l
  · obtain ⟨p, q, e, hp⟩ := List.eq_append_cons_of_mem h
    exact .inr ⟨p, q, e, hp, by rw [e, cuts_two hp]⟩
  · exact .inl ⟨h, cuts_one h⟩
theorem cuts_ne (l : List Nat) : cuts l ≠ [] := by
  rcases cuts_cases l with ⟨_, e⟩ | ⟨_, _, _, _, e⟩ <;> rw [e] <;> simp
theorem IsT.cutsE {l : List Nat} {x y : Int} (T : IsT l x y) : cuts (un l) = if y = 1 then [TL.numL x.natAbs] else [TL.numL x.natAbs, TL.numL y.natAbs] := by
  have fr : ∀ n, 47 ∉ TL.numL n := fun n => TL.numL_free (by decide)
  rw [T.unE]
  split
  · exact cuts_one (fr _)
  · rw [cuts_two (fr _), cuts_one (fr _)]
/-- a part that the law lets through -/
def Ok (l : List Nat) : Prop := Can l ∧ l.length ≤ 200
theorem Ok.num {n : Nat} (h : n < 10 ^ 200) : Ok (TL.numL n) := ⟨can_num n, num_short.mpr h⟩
theorem Ok.lt {l : List Nat} (h : Ok l) : digitsVal l < 10 ^ 200 := Nat.lt_of_lt_of_le (val_lt h.1.dg) (Nat.pow_le_pow_right (by decide) h.2)
theorem IsT.ok {l : List Nat} {x y : Int} (T : IsT l x y) : ∀ p ∈ cuts (un l), Ok p := by
  rw [T.cutsE]
  intro p hp
  split at hp
  · rw [List.mem_singleton.mp hp]
    exact .num T.bx
  · rcases List.mem_cons.mp hp with e | hp
    · rw [e]; exact .num T.bx
    · rw [List.mem_singleton.mp hp]
      exact .num T.bY
theorem un_back (l : List Nat) : l = if l.head? = some 45 then 45 :: un l else un l := by
  unfold un
  split
  · rename_i h
    cases l with
    | nil => cases h
    | cons a l =>
      have : a = 45 := Option.some.inj h
      rw [this]
      rfl
  · rfl
theorem sgn_back {l : List Nat} {n : Nat} {r : List Nat} (e : un l = TL.numL n ++ r) (h : ¬ (l.head? = some 45 ∧ n = 0)) : l = ntx (if l.head? = some 45 then -(n : Int) else n) ++ r := by
  have b := un_back l
  unfold ntx sgn
  by_cases hh : l.head? = some 45
  · rw [if_pos hh] at b ⊢
    have hn : n ≠ 0 := fun z => h ⟨hh, z⟩
    rw [if_pos (by omega), Int.natAbs_neg, Int.natAbs_natCast]
    rw [b, e]
    simp
  · rw [if_neg hh] at b ⊢
    rw [if_neg (by omega), Int.natAbs_natCast, List.nil_append]
    exact b.trans e
/-- what the law reads is a worth's text -/
theorem read_one {l p : List Nat} (h : cuts (un l) = [p]) (hp : Ok p) (hg : Nat.gcd (digitsVal p) 1 = 1) (hz : ¬ (l.head? = some 45 ∧ digitsVal p = 0)) : IsT l (if l.head? = some 45 then -(digitsVal p : Int) else digitsVal p) 1 := by
  have e : un l = p := by
    rcases cuts_cases (un l) with ⟨_, e⟩ | ⟨p', q, e1, h1, e2⟩
    · rw [e] at h
      exact (List.cons.inj h).1
    · rw [e2] at h
      exact absurd (List.cons.inj h).2 (cuts_ne q)
  have e' : un l = TL.numL (digitsVal p) ++ [] := by rw [List.append_nil, hp.1.num, e]
  refine ⟨by decide, ?_, ?_, by decide, ?_⟩
  · split <;> simp
  · have := hp.lt
    split
    · rw [Int.natAbs_neg]; exact this
    · exact this
  · have := sgn_back e' hz
    rw [List.append_nil] at this
    exact this
theorem read_two {l p q : List Nat} (h : cuts (un l) = [p, q]) (hp : Ok p) (hq : Ok q) (h2 : 2 ≤ digitsVal q) (hg : Nat.gcd (digitsVal p) (digitsVal q) = 1) (hz : ¬ (l.head? = some 45 ∧ digitsVal p = 0)) : IsT l (if l.head? = some 45 then -(digitsVal p : Int) else digitsVal p) (digitsVal q) := by
  have e : un l = p ++ 47 :: q := by
    rcases cuts_cases (un l) with ⟨_, e⟩ | ⟨p', q', e1, h1, e2⟩
    · rw [e] at h
      exact absurd (List.cons.inj h).2 (by simp)
    · rw [e2] at h
      obtain ⟨ep, h⟩ := List.cons.inj h
      rw [← ep]
      rcases cuts_cases q' with ⟨_, e⟩ | ⟨p3, q3, _, _, e3⟩
      · rw [e] at h
        rw [e1, (List.cons.inj h).1]
      · rw [e3] at h
        exact absurd (List.cons.inj h).2 (cuts_ne q3)
  have e' : un l = TL.numL (digitsVal p) ++ 47 :: q := by rw [hp.1.num, e]
  refine ⟨by omega, ?_, ?_, ?_, ?_⟩
  · split
    · rw [Int.natAbs_neg]; exact hg
    · exact hg
  · have := hp.lt
    split
    · rw [Int.natAbs_neg]; exact this
    · exact this
  · exact hq.lt
  · have := sgn_back e' hz
    unfold wtx
    have e1 : ((digitsVal q : Nat) : Int) ≠ 1 := by omega
    have e2 : ntx ((digitsVal q : Nat) : Int) = q := by
      rw [ntx_pos (by omega), Int.natAbs_natCast, hq.1.num]
    rw [if_neg e1, e2]
    exact this
/-! ### the words of the language for these lists -/
theorem sub_S (l : List Nat) : Builtin.Str.subAt (S l) (S [45]) 0 = decide (l.head? = some 45) := by
  unfold Builtin.Str.subAt
  cases l with
  | nil => rfl
  | cons a l =>
    rw [Bool.eq_iff_iff]
    simp [S, Str.length]
theorem pref_S (l : List Nat) : Txt.removeprefix (S l) (S [45]) = S (un l) := by
  unfold Txt.removeprefix un
  rw [sub_S]
  by_cases h : l.head? = some 45
  · rw [if_pos (decide_eq_true h), if_pos h]
    cases l with
    | nil => cases h
    | cons a l =>
      refine TL.ext_tl ?_
      unfold Txt.affix
      simp [S, Str.length, Builtin.Str.strSub, TL.tl]
  · rw [if_neg (by rw [decide_eq_false h]; decide), if_neg h]
    rfl
theorem starts_S (l : List Nat) : Txt.startswith (S l) (S [45]) = decide (l.head? = some 45) := by
  unfold Txt.startswith
  rw [sub_S]
  cases l with
  | nil => rfl
  | cons a l => simp [S, Str.length]
instance (l : List Nat) : Decidable (AllDigits l) := by unfold AllDigits; exact inferInstance
theorem digit_tab : ∀ c : Fin 128, Unicode.isDigit c.1 = decide (48 ≤ c.1 ∧ c.1 ≤ 57) := by decide +kernel
theorem figures_S (l : List Nat) : (Txt.isascii (S l) && Txt.isdigit (S l)) = decide (l ≠ [] ∧ AllDigits l) := by
  unfold Txt.isascii Txt.isdigit
  rw [Bool.eq_iff_iff, Bool.and_eq_true, Bool.and_eq_true, ← Array.all_toList, ← Array.all_toList, List.all_eq_true, List.all_eq_true, decide_eq_true_eq, decide_eq_true_eq]
  show (∀ x, x ∈ l → decide (x < 128) = true) ∧ l.toArray.size > 0 ∧ (∀ x, x ∈ l → Unicode.isDigit x = true) ↔ _
  constructor
  · rintro ⟨h1, h2, h3⟩
    refine ⟨fun e => by rw [e] at h2; exact absurd h2 (by decide), fun c hc => ?_⟩
    have lt := of_decide_eq_true (h1 c hc)
    have := digit_tab ⟨c, lt⟩
    rw [h3 c hc] at this
    exact of_decide_eq_true this.symm
  · rintro ⟨h1, h2⟩
    refine ⟨fun c hc => decide_eq_true (by have := h2 c hc; omega), ?_, fun c hc => ?_⟩
    · rw [List.size_toArray]
      exact List.length_pos_iff.mpr h1
    · have := h2 c hc
      have t := digit_tab ⟨c, by omega⟩
      rw [decide_eq_true this] at t
      exact t
/-- nothing is left of a text of figures -/
theorem strip_all (z y : Str) : Txt.stripChars z y = S [] ↔ ∀ c ∈ z.cps.toList, y.cps.contains c = true := by
  have h0 : (∀ c ∈ z.cps.toList, y.cps.contains c = true) ↔ ∀ k, k < z.length → y.cps.contains (z.cps.getD k 0) = true := by
    constructor
    · intro h k hk
      have hk' : k < z.cps.size := hk
      refine h _ ?_
      rw [show z.cps.getD k 0 = z.cps[k] by simp [Array.getD, hk']]
      simp
    · intro h c hc
      rw [Array.mem_toList_iff] at hc
      obtain ⟨k, hk, rfl⟩ := Array.mem_iff_getElem.mp hc
      have := h k hk
      rw [show z.cps.getD k 0 = z.cps[k] by simp [Array.getD, hk]] at this
      exact this
  rw [h0]
  unfold Txt.stripChars
  rw [stripBy_eq]
  obtain ⟨l1, l2, l3⟩ := lo_facts y.cps.contains z
  obtain ⟨h1, h2, h3, h4⟩ := hi_facts y.cps.contains z _ l1
  have hsz : ∀ a b : Nat, a ≤ b → b ≤ z.length → (Builtin.Str.strSub z a b = S [] ↔ a = b) := by
    intro a b ha hb
    have hb' : b ≤ z.cps.size := hb
    constructor
    · intro h
      have e := congrArg (fun s : Str => s.cps.size) h
      have e2 : (z.cps.extract a b).size = 0 := e
      rw [Array.size_extract] at e2
      omega
    · rintro rfl
      show (⟨z.cps.extract a a⟩ : Str) = S []
      have : z.cps.extract a a = #[] := Array.eq_empty_of_size_eq_zero (by rw [Array.size_extract]; omega)
      rw [this]
  rw [hsz _ _ h1 h2]
  constructor
  · intro e k hk
    by_cases hlt : k < stripLo y.cps.contains true z
    · exact l2 k hlt
    · exact h3 k (by omega) hk
  · intro h
    rcases l3 with e | e
    · omega
    · by_cases hlt : stripLo y.cps.contains true z < z.length
      · rw [h _ hlt] at e
        cases e
      · omega
theorem strip_S (l : List Nat) : Txt.stripChars (S l) (S [48, 49, 50, 51, 52, 53, 54, 55, 56, 57]) = S [] ↔ AllDigits l := by
  rw [strip_all]
  have : ∀ c : Nat, ((S [48, 49, 50, 51, 52, 53, 54, 55, 56, 57]).cps.contains c = true) ↔ (48 ≤ c ∧ c ≤ 57) := by
    intro c
    rw [Array.contains_iff]
    simp
    omega
  exact ⟨fun h c hc => (this c).mp (h c hc), fun h c hc => (this c).mpr (h c hc)⟩
theorem zfill_S {m : Nat} (h : m < 10 ^ 200) : Txt.zfill (S (TL.numL m)) 200 = S (dk 200 m) := by
  rw [dk_pad 199 m h]
  have hl := num_short.mpr h
  unfold Txt.zfill
  rw [S_len]
  by_cases h2 : (200 : Int) ≤ (TL.numL m).length
  · rw [if_pos h2]
    have : 199 + 1 - (TL.numL m).length = 0 := by omega
    rw [this]
    rfl
  · rw [if_neg h2]
    have e : (200 : Int).toNat - (TL.numL m).length = 199 + 1 - (TL.numL m).length := rfl
    rw [e]
    generalize 199 + 1 - (TL.numL m).length = n
    unfold zfilled
    have hd := TL.numL_digits m
    have hne := TL.numL_ne m
    revert hd hne
    generalize TL.numL m = l
    intro hd hne
    cases l with
    | nil => exact absurd rfl hne
    | cons a l =>
      have ha := hd.head
      split
      · rename_i e1
        have : a = 43 := by simpa [S] using e1
        omega
      · rename_i e1
        have : a = 45 := by simpa [S] using e1
        omega
      · refine TL.ext_tl ?_
        simp [Builtin.Str.padded, S, TL.tl]
end My

set_option Elab.async false
set_option linter.all false
set_option maxRecDepth 100000
/-! books: seals, chains, heads as lists of codes -/
namespace My
open PySem SX
inductive Spec where
  | made (m : Nat)
  | own (k : Nat)
  | whole
  | flat
def hashL (m : Nat) (l : List Nat) : Nat := l.foldl (fun h c => (31 * h + c + 1) % m) 7
def ownL (k : Nat) (l : List Nat) : List Nat := if k = 0 then l.reverse else if k = 1 then l.take 3 else if k = 2 then TL.numL (l.sum % 7) else []
def codeL : Spec → List Nat → List Nat
  | .made m, l => TL.numL (hashL m l)
  | .own k, l => ownL k l
  | .whole, l => l
  | .flat, _ => [120]
def SpecOk : Spec → Prop
  | .made m => 2 ≤ m ∧ m ≤ 1000000000
  | .own k => k < 4
  | _ => True
def chainL (h e : List Nat) : List Nat := TL.numL h.length ++ 58 :: (h ++ 47 :: e)
def stepS (sp : Spec) (h e : List Nat) : List Nat := codeL sp (chainL h e)
/-- the i-th head -/
def hdL (sp : Spec) (p : List Nat) (es : List (List Nat)) (i : Nat) : List Nat := (es.take i).foldl (stepS sp) (codeL sp p)
def headsL (sp : Spec) (p : List Nat) (es : List (List Nat)) : List (List Nat) := (List.range (es.length + 1)).map (hdL sp p es)
def stonesL (sp : Spec) (p : List Nat) (es : List (List Nat)) : List (List Nat) := (List.range (es.length / 4)).map fun j => hdL sp p es (4 * j + 4)
/-- texts of a book: short entries, few -/
def Cod (l : List Nat) : Prop := ∀ c ∈ l, c < 1114112
structure BookOk (p : List Nat) (es : List (List Nat)) : Prop where
  pc : Cod p
  ec : ∀ e ∈ es, Cod e
  pl : p.length ≤ 20
  el : ∀ e ∈ es, e.length ≤ 20
  n : es.length ≤ 60
theorem numL_len5 {n : Nat} (h : n < 100000) : (TL.numL n).length ≤ 5 := TL.numL_len (by decide) h
theorem hash_lt {m : Nat} (h : 0 < m) : ∀ (l : List Nat) (a : Nat), l ≠ [] → l.foldl (fun h c => (31 * h + c + 1) % m) a < m
  | [c], a, _ => Nat.mod_lt _ h
  | c :: d :: l, a, _ => by
    rw [List.foldl_cons]
    exact hash_lt h (d :: l) _ (by simp)
theorem hash_bound {m : Nat} (h : 2 ≤ m) (h2 : m ≤ 1000000000) (l : List Nat) : hashL m l < 1000000000 := by
  unfold hashL
  cases l with
  | nil => show 7 < 1000000000; decide
  | cons c l => exact Nat.lt_of_lt_of_le (hash_lt (by omega) (c :: l) 7 (by simp)) h2
theorem code_len {sp : Spec} (ok : SpecOk sp) (l : List Nat) : (codeL sp l).length ≤ max l.length 10 := by
  cases sp with
  | made m =>
    have := TL.numL_len (n := hashL m l) (k := 10) (by decide) (Nat.lt_trans (hash_bound ok.1 ok.2 l) (by decide))
    exact Nat.le_trans this (Nat.le_max_right _ _)
  | own k =>
    show (ownL k l).length ≤ _
    unfold ownL
    split
    · rw [List.length_reverse]; exact Nat.le_max_left _ _
    · split
      · rw [List.length_take]; exact Nat.le_trans (Nat.min_le_right _ _) (Nat.le_max_left _ _)
      · split
        · have := TL.numL_len (n := l.sum % 7) (k := 1) (by decide) (Nat.lt_of_lt_of_le (Nat.mod_lt _ (by decide)) (by decide))
          exact Nat.le_trans this (Nat.le_trans (by decide) (Nat.le_max_right _ _))
        · simp
  | whole => exact Nat.le_max_left _ _
  | flat => exact Nat.le_trans (by decide : 1 ≤ 10) (Nat.le_max_right _ _)
theorem chain_len {h e : List Nat} (hl : h.length < 100000) : (chainL h e).length ≤ h.length + e.length + 7 := by
  have := numL_len5 hl
  unfold chainL
  rw [List.length_append, List.length_cons, List.length_append, List.length_cons]
  omega
theorem hd_zero (sp : Spec) (p : List Nat) (es : List (List Nat)) : hdL sp p es 0 = codeL sp p := rfl
theorem hd_succ (sp : Spec) (p : List Nat) (es : List (List Nat)) (i : Nat) (e : List Nat) (h : es[i]? = some e) : hdL sp p es (i + 1) = stepS sp (hdL sp p es i) e := by
  obtain ⟨hi, rfl⟩ := List.getElem?_eq_some_iff.mp h
  unfold hdL
  rw [List.take_add_one, List.getElem?_eq_getElem hi, Option.toList_some, List.foldl_append]
  rfl
theorem hd_len {sp : Spec} (ok : SpecOk sp) {p : List Nat} {es : List (List Nat)} (B : BookOk p es) : ∀ i, i ≤ es.length → (hdL sp p es i).length ≤ 20 + 27 * i
  | 0, _ => by
    rw [hd_zero]
    have := code_len ok p
    have := B.pl
    omega
  | i + 1, hi => by
    have ih := hd_len ok B i (by omega)
    have e : es[i]? = some es[i] := List.getElem?_eq_getElem (by omega)
    have el := B.el _ (List.mem_of_getElem? e)
    rw [hd_succ sp p es i _ e]
    unfold stepS
    have h1 := code_len ok (chainL (hdL sp p es i) es[i])
    have h2 := chain_len (h := hdL sp p es i) (e := es[i]) (by have := B.n; omega)
    omega
theorem hd_len' {sp : Spec} (ok : SpecOk sp) {p : List Nat} {es : List (List Nat)} (B : BookOk p es) {i : Nat} (hi : i ≤ es.length) : (hdL sp p es i).length ≤ 2000 := by
  have := hd_len ok B i hi
  have := B.n
  omega
theorem heads_len (sp : Spec) (p : List Nat) (es : List (List Nat)) : (headsL sp p es).length = es.length + 1 := by
  unfold headsL
  rw [List.length_map, List.length_range]
theorem heads_at (sp : Spec) (p : List Nat) (es : List (List Nat)) {i : Nat} (h : i ≤ es.length) : (headsL sp p es)[i]? = some (hdL sp p es i) := by
  unfold headsL
  rw [List.getElem?_map, List.getElem?_range (by omega)]
  rfl
/-! ### the whole seal: nothing is lost -/
theorem cut_at {a b r r' : List Nat} (ha : 58 ∉ a) (hb : 58 ∉ b) (h : a ++ 58 :: r = b ++ 58 :: r') : a = b ∧ r = r' := by
  induction a generalizing b with
  | nil =>
    cases b with
    | nil => exact ⟨rfl, by simpa using h⟩
    | cons c b =>
      simp at h
      exact absurd (by rw [h.1]; exact List.mem_cons_self) hb
  | cons c a ih =>
    cases b with
    | nil =>
      simp at h
      exact absurd (by rw [← h.1]; exact List.mem_cons_self) ha
    | cons d b =>
      simp at h
      obtain ⟨h1, h2⟩ := ih (b := b) (fun z => ha (List.mem_cons_of_mem _ z)) (fun z => hb (List.mem_cons_of_mem _ z)) h.2
      exact ⟨by rw [h.1, h1], h2⟩
theorem chain_inj {h e h' e' : List Nat} (q : chainL h e = chainL h' e') : h = h' ∧ e = e' := by
  unfold chainL at q
  obtain ⟨q1, q2⟩ := cut_at (TL.numL_free (.inr (by decide))) (TL.numL_free (.inr (by decide))) q
  have q3 := TL.numL_inj q1
  have q4 := congrArg (List.take h.length) q2
  rw [List.take_left', q3, List.take_left'] at q4
  · refine ⟨q4, ?_⟩
    rw [q4] at q2
    have := List.append_cancel_left q2
    simpa using this
  · rfl
  · rfl
theorem numL_cod (n : Nat) : Cod (TL.numL n) := fun c hc => by
  apply Classical.byContradiction
  intro h
  exact TL.numL_free (n := n) (s := c) (.inr (by omega)) hc
theorem Cod.app {a b : List Nat} (h : Cod a) (h' : Cod b) : Cod (a ++ b) := fun c hc => (List.mem_append.mp hc).elim (h c) (h' c)
theorem code_cod (sp : Spec) {l : List Nat} (h : Cod l) : Cod (codeL sp l) := by
  cases sp with
  | made m => exact numL_cod _
  | own k =>
    show Cod (ownL k l)
    unfold ownL
    split
    · exact fun c hc => h c (List.mem_reverse.mp hc)
    · split
      · exact fun c hc => h c (List.mem_of_mem_take hc)
      · split
        · exact numL_cod _
        · exact fun c hc => absurd hc (by simp)
  | whole => exact h
  | flat =>
    intro c hc
    have : c = 120 := List.mem_singleton.mp hc
    omega
theorem chain_cod {h e : List Nat} (hc : Cod h) (ec : Cod e) : Cod (chainL h e) := by
  unfold chainL
  refine (numL_cod _).app fun c hc' => ?_
  rcases List.mem_cons.mp hc' with rfl | hc'
  · decide
  · rcases List.mem_append.mp hc' with z | z
    · exact hc c z
    · rcases List.mem_cons.mp z with rfl | z
      · decide
      · exact ec c z
theorem hd_cod {sp : Spec} {p : List Nat} {es : List (List Nat)} (B : BookOk p es) : ∀ i, i ≤ es.length → Cod (hdL sp p es i)
  | 0, _ => code_cod sp B.pc
  | i + 1, hi => by
    have e : es[i]? = some es[i] := List.getElem?_eq_getElem (by omega)
    rw [hd_succ sp p es i _ e]
    exact code_cod sp (chain_cod (hd_cod B i (by omega)) (B.ec _ (List.mem_of_getElem? e)))
/-! ### the stretch -/
def stretchL (sp : Spec) (p : List Nat) (es fs : List (List Nat)) : Option (Nat × Nat) :=
  if es.length = fs.length ∧ hdL sp p es es.length = hdL sp p fs fs.length ∧ stonesL sp p es = stonesL sp p fs then none
  else match (List.range (min es.length fs.length / 4)).find? (fun j => decide (hdL sp p es (4 * j + 4) ≠ hdL sp p fs (4 * j + 4))) with
    | some j => some (4 * j, 4 * j + 4)
    | none => some (min es.length fs.length / 4 * 4, max es.length fs.length)
theorem stones_len (sp : Spec) (p : List Nat) (es : List (List Nat)) : (stonesL sp p es).length = es.length / 4 := by
  unfold stonesL
  rw [List.length_map, List.length_range]
theorem stones_at (sp : Spec) (p : List Nat) (es : List (List Nat)) {j : Nat} (h : j < es.length / 4) : (stonesL sp p es)[j]? = some (hdL sp p es (4 * j + 4)) := by
  unfold stonesL
  rw [List.getElem?_map, List.getElem?_range h]
  rfl
theorem stones_cod {sp : Spec} {p : List Nat} {es : List (List Nat)} (B : BookOk p es) : ∀ l ∈ stonesL sp p es, Cod l := fun l hl => by
  unfold stonesL at hl
  obtain ⟨j, hj, rfl⟩ := List.mem_map.mp hl
  have := List.mem_range.mp hj
  exact hd_cod B _ (by omega)
end My

set_option Elab.async false
set_option linter.all false
set_option maxRecDepth 100000
namespace My
open PySem PySem.Spec PyProof.Rows L2 SX LamX NdefX
abbrev sIsInteger : Stmt := topS 6
theorem scIsInteger : FnScope ["value"] ["value"] (defScope sIsInteger) := ⟨rfl, rfl, rfl, by decide +kernel, rfl, by decide +kernel, by decide +kernel⟩
abbrev sIsNumber : Stmt := topS 7
theorem scIsNumber : FnScope ["value", "least", "most"] ["value", "least", "most"] (defScope sIsNumber) := ⟨rfl, rfl, rfl, by decide +kernel, rfl, by decide +kernel, by decide +kernel⟩
abbrev sChainedText : Stmt := topS 10
theorem scChainedText : FnScope ["head", "entry"] ["head", "entry"] (defScope sChainedText) := ⟨rfl, rfl, rfl, by decide +kernel, rfl, by decide +kernel, by decide +kernel⟩
abbrev sMadeSealInit : Stmt := inClass (topS 21) 0
theorem scMadeSealInit : FnScope ["self", "number"] ["self", "number"] (defScope sMadeSealInit) := ⟨rfl, rfl, rfl, by decide +kernel, rfl, by decide +kernel, by decide +kernel⟩
abbrev sMadeSealOf : Stmt := inClass (topS 21) 1
theorem scMadeSealOf : FnScope ["self", "text", "found", "sign"] ["self", "text"] (defScope sMadeSealOf) := ⟨rfl, rfl, rfl, by decide +kernel, rfl, by decide +kernel, by decide +kernel⟩
abbrev sWholeSealOf : Stmt := inClass (topS 22) 0
theorem scWholeSealOf : FnScope ["self", "text"] ["self", "text"] (defScope sWholeSealOf) := ⟨rfl, rfl, rfl, by decide +kernel, rfl, by decide +kernel, by decide +kernel⟩
abbrev sFlatSealOf : Stmt := inClass (topS 23) 0
theorem scFlatSealOf : FnScope ["self", "text"] ["self", "text"] (defScope sFlatSealOf) := ⟨rfl, rfl, rfl, by decide +kernel, rfl, by decide +kernel, by decide +kernel⟩
abbrev sOwnSealInit : Stmt := inClass (topS 24) 0
theorem scOwnSealInit : FnScope ["self", "function"] ["self", "function"] (defScope sOwnSealInit) := ⟨rfl, rfl, rfl, by decide +kernel, rfl, by decide +kernel, by decide +kernel⟩
abbrev sOwnSealOf : Stmt := inClass (topS 24) 1
theorem scOwnSealOf : FnScope ["self", "text", "function"] ["self", "text"] (defScope sOwnSealOf) := ⟨rfl, rfl, rfl, by decide +kernel, rfl, by decide +kernel, by decide +kernel⟩
abbrev sLawOwn : Stmt := topS 32
theorem scLawOwn : FnScope ["k", "heard", "one"] ["k", "heard"] (defScope sLawOwn) := ⟨rfl, rfl, rfl, by decide +kernel, rfl, by decide +kernel, by decide +kernel⟩
theorem line_of {n : Nat} (h : n ≤ 10000) : n ≤ sizeLine := Nat.le_trans h (by decide +kernel)
theorem num_S (n : Nat) : Str.ofString (toString ((n : Nat) : Int)) = S (TL.numL n) := by
  rw [int_text]
  unfold ntx sgn
  rw [if_neg (by omega), Int.natAbs_natCast]
  rfl
theorem log10 {n : Nat} (h : n < 10 ^ 10) : n.log2 < 1920 := by
  have := PySem.Flt.log2_lt_of (n := n) (k := 34) (by decide) (Nat.lt_of_lt_of_le h (by decide))
  omega
/-- a class that is made by its own __init__ -/
structure CalC (P : Program) (w : World) (K : PySem.W.Frag) (mg : Str → Option Value) (base : Heap) (x : Str) (C : Addr) (k : Nat) (ps : List Str) (sp : Sp) (f : Addr) (fd : FuncData) : Prop where
  m : Mk K C f
  ok : FnOk P w K mg base CX0 k f fd ps sp
  g : mg x = some (.ref C)
  b : Binds K fd ps []
/-- a class without __init__ -/
structure CalO (K : PySem.W.Frag) (mg : Str → Option Value) (x : Str) (C : Addr) : Prop where
  mi : PySem.W.makesIn K C = true
  ini : PySem.W.findIn K (.ref C) "__init__" = some (some (.builtin "object.__init__"))
  kp : PySem.W.keepIn K (.ref C) = true
  g : mg x = some (.ref C)
/-- a method that keeps its promise -/
structure CalM (P : Program) (w : World) (K : PySem.W.Frag) (mg : Str → Option Value) (base : Heap) (C : Addr) (m : Str) (k : Nat) (ps : List Str) (sp : Sp) (f : Addr) (fd : FuncData) : Prop where
  c : Cls K C
  m : Meth K C m f
  ok : FnOk P w K mg base CX0 k f fd ps sp
  b : Binds K fd ps []
theorem same_updF {H H' : Hp} {p : Addr} {o : HO} (np : H p = none) (s : Same H H') : Same H (upd H' p o) := fun b x e => by
  rw [upd_ne (ne_of_none e np)]
  exact s b x e
def spInt : Sp := fun vs H Q _ => ∃ i : Int, vs = [.int i] ∧ Q (.bl true) H
def spNumb : Sp := fun vs H Q _ => ∃ i a b : Int, vs = [.int i, .int a, .int b] ∧ a ≤ i ∧ i ≤ b ∧ Q (.bl true) H
def spChain : Sp := fun vs H Q _ => ∃ h e : List Nat, vs = [.str (S h), .str (S e)] ∧ h.length ≤ 5000 ∧ e.length ≤ 100 ∧ Q (.str (S (chainL h e))) H
def spMadeInit (C : Addr) : Sp := fun vs H Q _ => ∃ (a dx : Addr) (m : Nat), vs = [.ref a, .int m] ∧ H a = some (.ins C dx []) ∧ 2 ≤ m ∧ m ≤ 1000000000 ∧ Q .non (upd H a (.ins C dx [("_modulus", .int m)]))
def spMadeOf (C : Addr) : Sp := fun vs H Q _ => ∃ (a dx : Addr) (m : Nat) (l : List Nat), vs = [.ref a, .str (S l)] ∧ H a = some (.ins C dx [("_modulus", .int m)]) ∧ 2 ≤ m ∧ m ≤ 1000000000 ∧ l.length ≤ 5000 ∧ Q (.str (S (TL.numL (hashL m l)))) H
def spWholeOf : Sp := fun vs H Q _ => ∃ (a : Addr) (l : List Nat), vs = [.ref a, .str (S l)] ∧ Q (.str (S l)) H
def spFlatOf : Sp := fun vs H Q _ => ∃ (a : Addr) (l : List Nat), vs = [.ref a, .str (S l)] ∧ Q (.str (S [120])) H
def spOwnInit (C : Addr) : Sp := fun vs H Q _ => ∃ (a dx f : Addr), vs = [.ref a, .ref f] ∧ H a = some (.ins C dx []) ∧ Q .non (upd H a (.ins C dx [("_function", .ref f)]))
def spOwn : Sp := fun vs H Q _ => ∃ (k : Nat) (l : List Nat), vs = [.int k, .str (S l)] ∧ k < 4 ∧ l.length ≤ 5000 ∧ ∀ H', Same H H' → Q (.str (S (ownL k l))) H'
section
variable {P : Program} {w : World} {K : PySem.W.Frag} {mg : Str → Option Value} {base : Heap}
theorem ok_integer {f : Addr} {fd : FuncData} {k : Nat} (F : Fun K "is_integer" "is_integer" sIsInteger f fd) (b_isinstance : mg "isinstance" = none) (b_int : mg "int" = none) (b_bool : mg "bool" = none) : FnOk P w K mg base CX0 (k + 1) f fd ["value"] spInt := by
  refine F.ok scIsInteger (fun vs H Q E h => ?_) (fun cdv A outer s H vs Q E hr h => ?_)
  · obtain ⟨z, rfl, _⟩ := h
    rfl
  · obtain ⟨i, rfl, q⟩ := h
    refine ⟨_, (pss_one (ps_ret (pe_and (pe_callB call_isi rfl b_isinstance (by decide +kernel) (pa_cons (pv 0) (pa_cons (pe_ty "int" rfl b_int (by decide +kernel)) pa_nil))) (pe_one (pe_not (pe_callB call_isi rfl b_isinstance (by decide +kernel) (pa_cons (pv 0) (pa_cons (pe_ty "bool" rfl b_bool (by decide +kernel)) pa_nil)))))))), ?_⟩
    refine ⟨_, rfl, _, _, _, _, _, rfl, .ty _, .base (.int _), (by rfl : PySem.W.kitOne K (.type "int") (.type "int") = some true), _, rfl, iteT ?_⟩
    exact ⟨_, rfl, _, _, _, _, _, rfl, .ty _, .base (.int _), (by rfl : PySem.W.kitOne K (.type "int") (.type "bool") = some false), _, rfl, q⟩
theorem ok_numb {f fI : Addr} {fd fdI : FuncData} {k : Nat} (F : Fun K "is_number" "is_number" sIsNumber f fd) (II : Cal P w K mg base "is_integer" (k + 1) ["value"] spInt fI fdI) : FnOk P w K mg base CX0 (k + 2) f fd ["value", "least", "most"] spNumb := by
  refine F.ok scIsNumber (fun vs H Q E h => ?_) (fun cdv A outer s H vs Q E hr h => ?_)
  · obtain ⟨i, a, b, rfl, _⟩ := h
    rfl
  · obtain ⟨i, a, b, rfl, h1, h2, q⟩ := h
    refine ⟨_, (pss_one (ps_ret (pe_and (pe_call II.ok (hr.mono (by omega)) rfl II.g II.kp II.b .nil pass0 (pa_cons (pv 0) pa_nil)) (pe_one (pe_chain op_le op_le (pv 1) (pv 0) (pv 2)))))), ?_⟩
    refine ⟨_, rfl, i, rfl, _, rfl, iteT ⟨_, rfl, _, rfl, _, _, rfl, rfl, _, rfl, ?_⟩⟩
    rw [decide_eq_true h1]
    refine iteT ⟨_, rfl, _, _, rfl, rfl, ?_⟩
    show Q (.bl (decide (i ≤ b))) H
    rw [decide_eq_true h2]
    exact q
theorem ok_chain {f : Addr} {fd : FuncData} {k : Nat} (F : Fun K "chained_text" "chained_text" sChainedText f fd) (b_len : mg "len" = none) : FnOk P w K mg base CX0 (k + 1) f fd ["head", "entry"] spChain := by
  refine F.ok scChainedText (fun vs H Q E h => ?_) (fun cdv A outer s H vs Q E hr h => ?_)
  · obtain ⟨h, e, rfl, _⟩ := h
    rfl
  · obtain ⟨h, e, rfl, hh, he, q⟩ := h
    refine ⟨_, (pss_one (ps_ret (pe_joined (PJ.cons (pe_fmt (pe_callB call_len rfl b_len (by decide +kernel) (pa_cons (pv 0) pa_nil))) (PJ.cons pe_str (PJ.cons (pe_fmt (pv 0)) (PJ.cons pe_str (PJ.cons (pe_fmt (pv 1)) PJ.nil)))))))), ?_⟩
    have n5 := numL_len5 (n := h.length) (by omega)
    have eN : Str.ofString (toString (((S h).length : Nat) : Int)) = S (TL.numL h.length) := by rw [S_len, num_S]
    have e0 : (Str.empty : Str) = S [] := rfl
    have ec : Str.ofString ":" = S [58] := by decide +kernel
    have es : Str.ofString "/" = S [47] := by decide +kernel
    refine ⟨_, rfl, _, _, rfl, ⟨line_of (by rw [S_len]; omega), rfl⟩, .inr ⟨_, rfl, ?_, ?_⟩⟩
    · rw [S_len, Int.natAbs_natCast]
      exact log10 (by omega)
    · refine ⟨_, rfl, ?_, _, rfl, ?_, _, rfl, .inl ⟨_, rfl, line_of (by rw [S_len]; omega), _, rfl, ?_, _, rfl, ?_, _, rfl, .inl ⟨_, rfl, line_of (by rw [S_len]; omega), _, rfl, ?_, ?_⟩⟩⟩
      · rw [eN, e0, S_cat, S_len]
        exact line_of (by rw [List.length_append]; simp; omega)
      · rw [eN, e0, ec, S_cat, S_cat, S_len]
        exact line_of (by simp; omega)
      · rw [eN, e0, ec, S_cat, S_cat, S_cat, S_len]
        exact line_of (by simp; omega)
      · rw [eN, e0, ec, es, S_cat, S_cat, S_cat, S_cat, S_len]
        exact line_of (by simp; omega)
      · rw [eN, e0, ec, es, S_cat, S_cat, S_cat, S_cat, S_cat, S_len]
        exact line_of (by simp; omega)
      · rw [eN, e0, ec, es, S_cat, S_cat, S_cat, S_cat, S_cat]
        have e : [] ++ TL.numL h.length ++ [58] ++ h ++ [47] ++ e = chainL h e := by
          unfold chainL
          simp
        rw [e]
        exact q
theorem ok_made_init {C f fN : Addr} {fd fdN : FuncData} {k : Nat} {tk1 tk2 : Tok} (F : Fun K "__init__" "MadeSeal.__init__" sMadeSealInit f fd) (T : Cls K C) (nF : NoAttr K C "_modulus") (IN : Cal P w K mg base "is_number" (k + 2) ["value", "least", "most"] spNumb fN fdN)
    (g_LEAST : mg "LEAST_MODULUS" = some (.int 2 tk1)) (g_MOST : mg "MOST_MODULUS" = some (.int 1000000000 tk2)) : FnOk P w K mg base CX0 (k + 3) f fd ["self", "number"] (spMadeInit C) := by
  refine F.ok scMadeSealInit (fun vs H Q E h => ?_) (fun cdv A outer s H vs Q E hr h => ?_)
  · obtain ⟨a, dx, m, rfl, _⟩ := h
    rfl
  · obtain ⟨a, dx, m, rfl, ha, h1, h2, q⟩ := h
    refine ⟨_, (pss_cons (ps_if (pt_not (pt_val (pe_call IN.ok (hr.mono (by omega)) rfl IN.g IN.kp IN.b .nil pass0 (pa_cons (pv 1) (pa_cons (pe_glob (v := .int 2) rfl g_LEAST ⟨_, rfl⟩) (pa_cons (pe_glob (v := .int 1000000000) rfl g_MOST ⟨_, rfl⟩) pa_nil)))))) (pss_one ps_never) pss_nil)
      (pss_one (ps_fld (pv 0) (pv 1) rfl))), ?_⟩
    refine ⟨_, rfl, (m : Int), 2, 1000000000, rfl, by omega, by omega, _, rfl, iteF ?_⟩
    exact ⟨_, rfl, _, rfl, a, C, dx, _, rfl, ha, T, nF, (by show 0 < 1000; decide), q⟩
theorem mul_left {a c : Int} (h : Builtin.Int.intBits a ≤ 64) : IntMulOk a c := IntMulOk.of_left h
theorem small1000' {n : Nat} (h : n ≤ 10000) : n < sizeLine := Nat.lt_of_le_of_lt h (by decide)
theorem mem_sign {l : List Nat} {i c : Nat} (h : (S l).cps[i]? = some c) : l[i]? = some c := by
  simpa using h
theorem fold_take {α β : Type} (f : β → α → β) (l : List α) (b : β) (i : Nat) {c : α} (h : l[i]? = some c) : (l.take (i + 1)).foldl f b = f ((l.take i).foldl f b) c := by
  obtain ⟨hi, rfl⟩ := List.getElem?_eq_some_iff.mp h
  rw [List.take_add_one, List.getElem?_eq_getElem hi, Option.toList_some, List.foldl_append]
  rfl
theorem hash_step {m h c : Nat} (h0 : 0 < m) : (31 * ((h : Nat) : Int) + ((c : Nat) : Int) + 1) % ((m : Nat) : Int) = (((31 * h + c + 1) % m : Nat) : Int) := by
  rw [Int.natCast_emod]
  norm_cast
theorem ok_made_of {C f : Addr} {fd : FuncData} {k : Nat} {tk1 : Tok} (F : Fun K "of" "MadeSeal.of" sMadeSealOf f fd) (T : Cls K C) (nF : NoAttr K C "_modulus") (b_ord : mg "ord" = none) (b_str : mg "str" = none) (g_FIRST : mg "FIRST_SUM" = some (.int 7 tk1)) :
    FnOk P w K mg base CX0 (k + 1) f fd ["self", "text"] (spMadeOf C) := by
  refine F.ok scMadeSealOf (fun vs H Q E h => ?_) (fun cdv A outer s H vs Q E hr h => ?_)
  · obtain ⟨a, dx, m, l, rfl, _⟩ := h
    rfl
  · obtain ⟨a, dx, m, l, rfl, ha, h1, h2, hl, q⟩ := h
    refine ⟨_, (pss_cons (ps_set (i := 2) scMadeSealOf.nd rfl (.inl rfl) (pe_glob (v := .int 7) rfl g_FIRST ⟨_, rfl⟩))
      (pss_cons (ps_for PassesOwn.never rfl (pi_str (pv 1)) (pg_name (i := 3) scMadeSealOf.nd rfl (.inl rfl))
        (pss_one (ps_set (i := 2) scMadeSealOf.nd rfl (.inl rfl) (pe_op op_mod (pe_op op_add (pe_op op_add (pe_op op_mulG pe_int (pv 2)) (pe_callB call_ord rfl b_ord (by decide +kernel) (pa_cons (pv 3) pa_nil))) pe_int) (pe_fld (pv 0) rfl)))))
      (pss_one (ps_ret (pe_callTy call_str_int rfl b_str (by decide +kernel) (pa_cons (pv 2) pa_nil)))))), ?_⟩
    refine ⟨_, rfl, _, rfl, for_it walk_str (fun i σ H' => H' = H ∧ ∃ v, σ = [some (.ref a), some (.str (S l)), some (.int ((l.take i).foldl (fun h c => (31 * h + c + 1) % m) 7 : Nat)), v]) ⟨rfl, none, rfl⟩ (fun _ _ _ _ _ => trivial) ?_ ?_⟩
    · rintro i x σ H1 H2 hi ⟨rfl, v, rfl⟩ ⟨rfl, c, hc, rfl⟩
      have hc := mem_sign hc
      refine ⟨_, rfl, _, _, rfl, rfl, mul_left (by decide +kernel), _, rfl, _, rfl, rfl, _, _, rfl, rfl, _, _, rfl, rfl, _, rfl, a, C, dx, _, _, rfl, ha, T, nF, rfl, _, _, rfl, rfl, (by show (0 : Int) < _; omega), ?_⟩
      refine ⟨rfl, some (.str ⟨#[c]⟩), ?_⟩
      rw [fold_take _ l 7 i hc, ← hash_step (by omega)]
      rfl
    · rintro σ H' ⟨rfl, v, rfl⟩
      have e : (l.take (S l).cps.size).foldl (fun h c => (31 * h + c + 1) % m) 7 = hashL m l := by
        have : (S l).cps.size = l.length := by simp
        rw [this, List.take_length]
        rfl
      refine ⟨_, rfl, _, rfl, ?_, ?_⟩
      · rw [e, Int.natAbs_natCast]
        exact log10 (Nat.lt_trans (hash_bound h1 h2 l) (by decide))
      · rw [e, num_S]
        exact q
theorem ok_whole_of {f : Addr} {fd : FuncData} {k : Nat} (F : Fun K "of" "WholeSeal.of" sWholeSealOf f fd) : FnOk P w K mg base CX0 (k + 1) f fd ["self", "text"] spWholeOf := by
  refine F.ok scWholeSealOf (fun vs H Q E h => ?_) (fun cdv A outer s H vs Q E hr h => ?_)
  · obtain ⟨a, l, rfl, _⟩ := h
    rfl
  · obtain ⟨a, l, rfl, q⟩ := h
    exact ⟨_, (pss_one (ps_ret (pv 1))), _, rfl, q⟩
theorem ok_flat_of {f : Addr} {fd : FuncData} {k : Nat} (F : Fun K "of" "FlatSeal.of" sFlatSealOf f fd) : FnOk P w K mg base CX0 (k + 1) f fd ["self", "text"] spFlatOf := by
  refine F.ok scFlatSealOf (fun vs H Q E h => ?_) (fun cdv A outer s H vs Q E hr h => ?_)
  · obtain ⟨a, l, rfl, _⟩ := h
    rfl
  · obtain ⟨a, l, rfl, q⟩ := h
    refine ⟨_, (pss_one (ps_ret pe_str)), ?_⟩
    have e : Str.ofString "x" = S [120] := by decide +kernel
    rw [← e] at q
    exact q
theorem ok_own_init {C f : Addr} {fd : FuncData} {k : Nat} (F : Fun K "__init__" "OwnSeal.__init__" sOwnSealInit f fd) (T : Cls K C) (nF : NoAttr K C "_function") : FnOk P w K mg base CX0 (k + 1) f fd ["self", "function"] (spOwnInit C) := by
  refine F.ok scOwnSealInit (fun vs H Q E h => ?_) (fun cdv A outer s H vs Q E hr h => ?_)
  · obtain ⟨a, dx, g, rfl, _⟩ := h
    rfl
  · obtain ⟨a, dx, g, rfl, ha, q⟩ := h
    refine ⟨_, (pss_one (ps_fld (pv 0) (pv 1) rfl)), ?_⟩
    exact ⟨_, rfl, _, rfl, a, C, dx, _, rfl, ha, T, nF, (by show 0 < 1000; decide), q⟩
theorem sum_take (l : List Nat) (i : Nat) {c : Nat} (h : l[i]? = some c) : (l.take (i + 1)).map (fun n : Nat => (n : Int)) = (l.take i).map (fun n : Nat => (n : Int)) ++ [(c : Int)] := by
  obtain ⟨hi, rfl⟩ := List.getElem?_eq_some_iff.mp h
  rw [List.take_add_one, List.getElem?_eq_getElem hi, Option.toList_some, List.map_append]
  rfl
theorem sum_cast : ∀ l : List Nat, (l.map fun n : Nat => (n : Int)).sum = ((l.sum : Nat) : Int)
  | [] => rfl
  | a :: l => by
    rw [List.map_cons, List.sum_cons, List.sum_cons, sum_cast l]
    norm_cast
theorem take3 (l : List Nat) (h : l.length ≤ 5000) : Txt.slice (S l) none (some 3) = S (l.take 3) := slice_to (by decide)
theorem ok_own {f : Addr} {fd : FuncData} {k : Nat} (F : Fun K "_law_own" "_law_own" sLawOwn f fd) (b_ord : mg "ord" = none) (b_str : mg "str" = none) (b_int : mg "int" = none) (b_sum : mg "sum" = none) : FnOk P w K mg base CX0 (k + 1) f fd ["k", "heard"] spOwn := by
  refine F.ok scLawOwn (fun vs H Q E h => ?_) (fun cdv A outer s H vs Q E hr h => ?_)
  · obtain ⟨n, l, rfl, _⟩ := h
    rfl
  · obtain ⟨n, l, rfl, hn, hl, q⟩ := h
    refine ⟨_, (pss_cons (ps_if (pt_cmpR op_eq (pv 0) pe_int (nomark _)) (pss_one (ps_ret (pe_revS (pv 1)))) pss_nil)
      (pss_cons (ps_if (pt_cmpR op_eq (pv 0) pe_int (nomark _)) (pss_one (ps_ret (pe_slice C8.sl_txt (pv 1) po_none (po_some pe_int)))) pss_nil)
      (pss_one (ps_ret (pe_ifExp (pt_cmpR op_eq (pv 0) pe_int (nomark _)) (pe_callTy call_str_int rfl b_str (by decide +kernel) (pa_cons (pe_op op_mod (pe_callTy call_int1 rfl b_int (by decide +kernel) (pa_cons (pe_callB (cr_sum rfl) rfl b_sum (by decide +kernel) (pa_cons (pe_lc (own := [("one", 2)]) (g := gName 2) (tt := tYes) rfl scLawOwn.nd (pi_str (pv 1)) (blkOk_by (own := [("one", 2)]) (N := ["k", "heard", "one"]) (sc := defScope sLawOwn) (by decide +kernel)) (fun _ _ _ _ _ => (pg_name (i := 2) scLawOwn.nd rfl (.inl rfl) (.inr rfl))) (fun _ _ _ _ _ => pts_nil) (fun _ _ _ _ _ => (pe_callB call_ord rfl b_ord (by decide +kernel) (pa_cons (pv 2) pa_nil)))) pa_nil)) pa_nil)) pe_int) pa_nil)) pe_str))))), ?_⟩
    refine ⟨_, rfl, rfl, _, rfl, ite2 (fun e => ?_) (fun e => ?_)⟩
    · have e0 : n = 0 := by have := V.int.inj (of_decide_eq_true e); omega
      subst e0
      exact ⟨_, rfl, l, rfl, line_of (by omega), q H (Same.refl H)⟩
    · have e0 : n ≠ 0 := fun z => e (decide_eq_true (by rw [z]; rfl))
      refine ⟨_, rfl, rfl, _, rfl, ite2 (fun e => ?_) (fun e => ?_)⟩
      · have e1 : n = 1 := by have := V.int.inj (of_decide_eq_true e); omega
        subst e1
        refine ⟨_, rfl, _, rfl, _, rfl, line_of (by rw [S_len]; omega), ?_⟩
        rw [take3 l hl]
        exact q H (Same.refl H)
      · have e1 : n ≠ 1 := fun z => e (decide_eq_true (by rw [z]; rfl))
        refine ⟨_, rfl, rfl, _, rfl, ite2 (fun e => ?_) (fun e => ?_)⟩
        · have e2 : n = 2 := by have := V.int.inj (of_decide_eq_true e); omega
          subst e2
          refine ⟨_, rfl, _, rfl, fun D nD => lc_it walk_str (fun i H' => Same H H' ∧ H' D = some (.lst (((l.take i).map fun n : Nat => (n : Int)).map V.int))) ⟨same_upd nD, upd_same⟩ (fun _ _ _ _ => trivial) ?_ ?_⟩
          · rintro i x H1 H2 hi ⟨s1, hD⟩ ⟨rfl, c, hc, rfl⟩
            have hc := mem_sign hc
            refine ⟨rfl, ?_⟩
            unfold tYes
            refine iteT (⟨_, rfl, _, rfl, rfl, _, hD, small1000' (by simp; omega), same_updF nD s1, ?_⟩)
            rw [upd_same, sum_take l i hc, List.map_append]
            rfl
          · rintro H1 ⟨s1, hD⟩
            have e : l.take (S l).cps.size = l := by
              have : (S l).cps.size = l.length := by simp
              rw [this, List.take_length]
            rw [e] at hD
            refine ⟨D, _, rfl, SqL.of hD, .inl ⟨_, rfl, _, _, rfl, rfl, (by show (0 : Int) < _; decide), _, rfl, ?_, ?_⟩⟩
            · rw [sum_cast, show ((7 : Int)) = ((7 : Nat) : Int) from rfl, ← Int.natCast_emod, Int.natAbs_natCast]
              exact log10 (Nat.lt_of_lt_of_le (Nat.mod_lt _ (by decide)) (by decide))
            · rw [sum_cast, show ((7 : Int)) = ((7 : Nat) : Int) from rfl, ← Int.natCast_emod, num_S]
              exact q _ s1
        · have e2 : n ≠ 2 := fun z => e (decide_eq_true (by rw [z]; rfl))
          have := q H (Same.refl H)
          unfold ownL at this
          rw [if_neg e0, if_neg e1, if_neg e2] at this
          exact this
end
end My

set_option Elab.async false
set_option linter.all false
set_option maxRecDepth 100000
namespace My
open PySem PySem.Spec PyProof.Rows L2 SX LamX NdefX
abbrev sLawSeal : Stmt := topS 33
theorem scLawSeal : FnScope ["spec", "kind", "k"] ["spec"] (defScope sLawSeal) := ⟨rfl, rfl, rfl, by decide +kernel, rfl, by decide +kernel, by decide +kernel⟩
/-! ### the lambda's words -/
def lamE (b : List Stmt) : Expr := match b with
  | [_, _, .If _ [.Return (some (.Call _ [e] _ _)) _] _ _, _] => e
  | _ => .Constant .none 0 ⟨0, 0, 0, 0⟩
def ePr (e : Expr) : Arguments := match e with
  | .Lambda p _ _ _ => p
  | _ => defArgs (.Pass ⟨0, 0, 0, 0⟩)
def eBd (e : Expr) : Expr := match e with
  | .Lambda _ b _ _ => b
  | e => e
def eSc (e : Expr) : Scope := match e with
  | .Lambda _ _ s _ => s
  | _ => defScope (.Pass ⟨0, 0, 0, 0⟩)
abbrev lamPr : Arguments := ePr (lamE (defBody sLawSeal))
abbrev lamBd : Expr := eBd (lamE (defBody sLawSeal))
abbrev lamSc : Scope := eSc (lamE (defBody sLawSeal))
abbrev lamQ : Str := (("_law_seal" : Str) ++ ".<locals>.") ++ "<lambda>"
theorem lam_ns : NScope ["heard", "k"] ["heard"] ["k"] lamSc := nscope_by (by decide +kernel)
abbrev LamK (H : Hp) (f : Addr) (v : V) : Prop := LamAt lamQ lamPr lamBd lamSc "k" H f v
/-- f(e), f a name that holds a lambda -/
def tCallLam (i : Nat) (t : TA) : TE := fun σ H Q => ∃ f k, σ[i]? = some (some (.ref f)) ∧ LamK H f (.int (k : Nat)) ∧ t σ H fun vs H1 => LamK H1 f (.int (k : Nat)) ∧ ∃ l : List Nat, vs = [.str (S l)] ∧ k < 4 ∧ l.length ≤ 5000 ∧ ∀ H', Same H1 H' → Q (.str (S (ownL k l))) H'
theorem fnat_lam {X : Cx} {pins : List (Addr × Obj)} {σ : L2.St} {H : Hp} {s : Shared} {f : Addr} {v : V} (I : Inv X pins σ H s) (L : LamK H f v) : PySem.W.FnAt f s.heap := by
  obtain ⟨cl, c, c', h1, _⟩ := L
  obtain ⟨⟨pm, ctv, ho⟩, _, _⟩ := I.hok f _ h1
  exact ⟨_, _, _, _, ho⟩
section
variable {X : Cx} {x : Str} {p pos : Pos} {e : Expr} {t : TA} {i j : Nat}
theorem pe_callLam {fO : Addr} {fdO : FuncData} (Ow : Cal X.prog X.w X.K X.mg X.base "_law_own" j ["k", "heard"] spOwn fO fdO) (hr : Room (j + 1) X.A) (hN : X.N[i]? = some x) (hv : Vis X.env.scope x) (ha : PA X [e] t)
    (hdb : (x == ("__debug__" : Str)) = false := by decide) (hcd : (x == ("__classdict__" : Str)) = false := by decide)
    (he : starEach [e] X.env = (false, eval e X.env) :: starEach [] X.env := by rfl) (hpl : (backTo pos (starEach [] X.env)).any (·.1) = false := by rfl) : PE X (.Call (.Name x p) [e] [] pos) (tCallLam i t) := by
  refine ⟨fun pins s σ H Q I h => ?_⟩
  obtain ⟨f, k, hs, L, ht⟩ := h
  refine wpAny_Call_Name_kw (thn ((pe_var (pos := p) hN hv hdb hcd).run pins s σ H (fun v H1 => v = .ref f ∧ H1 = H) I ⟨.ref f, hs, rfl, rfl⟩) fun u s1 ⟨v, H1, I1, r1, q1⟩ => ?_)
  obtain ⟨ev, eH⟩ := q1
  subst ev
  rw [eH] at I1
  obtain rfl : u = Value.ref f := r1
  refine PySem.W.callWith_F (first := []) (fnat_lam I1 L) (thn (ha.run pos pins s1 σ H _ I1 ht) fun us s2 ⟨vs, H2, I2, r, L2', l, ev, hk, hl, q⟩ => ⟨fnat_lam I2 L2', ?_⟩) he hpl
  subst ev
  obtain ⟨u, rfl, ru⟩ : ∃ u, us = [u] ∧ L2.RelV (.str (S l)) u := by
    cases r with
    | cons a b =>
      cases b
      exact ⟨_, rfl, a⟩
  show wpAny _ _ (call (.ref f) [u]) _ _ _
  refine run_lam (k := j) (tb := tCall spOwn [] E0 (tCons (tVar 1) (tCons (tVar 0) tNil))) lam_ns (fun _ _ _ _ _ => rfl) I2 hr L2' ru ?_ ?_
  · rintro ⟨n, q, pr, bd, sc, cl, c⟩ A outer s H rfl hr'
    exact pe_call Ow.ok hr' rfl Ow.g Ow.kp Ow.b .nil pass0 (pa_cons (pv 1) (pa_cons (pv 0) pa_nil))
  · intro H0 _
    exact ⟨_, rfl, _, rfl, k, l, rfl, hk, hl, fun H' s' H3 h3 => q H3 fun b o e => h3 b o e (s' b o)⟩
end
/-! ### the four seals -/
structure SealC where
  M : Addr
  O : Addr
  W : Addr
  F : Addr
def SealAt (C : SealC) (H : Hp) (s : Addr) : Spec → Prop
  | .made m => ∃ dx, H s = some (.ins C.M dx [("_modulus", .int m)])
  | .own k => ∃ dx f, H s = some (.ins C.O dx [("_function", .ref f)]) ∧ LamK H f (.int (k : Nat))
  | .whole => ∃ dx, H s = some (.ins C.W dx [])
  | .flat => ∃ dx, H s = some (.ins C.F dx [])
theorem SealAt.ext {C : SealC} {H H' : Hp} {s : Addr} {sp : Spec} (h : SealAt C H s sp) (e : ExtN H H') : SealAt C H' s sp := by
  cases sp with
  | made m => obtain ⟨dx, h⟩ := h; exact ⟨dx, e _ _ h (fun _ z => by cases z)⟩
  | own k => obtain ⟨dx, f, h, L⟩ := h; exact ⟨dx, f, e _ _ h (fun _ z => by cases z), L.ext e⟩
  | whole => obtain ⟨dx, h⟩ := h; exact ⟨dx, e _ _ h (fun _ z => by cases z)⟩
  | flat => obtain ⟨dx, h⟩ := h; exact ⟨dx, e _ _ h (fun _ z => by cases z)⟩
theorem SealAt.same {C : SealC} {H H' : Hp} {s : Addr} {sp : Spec} (h : SealAt C H s sp) (e : Same H H') : SealAt C H' s sp := h.ext fun b o x _ => e b o x
def spOwnOf (C : Addr) : Sp := fun vs H Q _ => ∃ (a dx f : Addr) (k : Nat) (l : List Nat), vs = [.ref a, .str (S l)] ∧ H a = some (.ins C dx [("_function", .ref f)]) ∧ LamK H f (.int (k : Nat)) ∧ k < 4 ∧ l.length ≤ 5000 ∧ ∀ H', Same H H' → Q (.str (S (ownL k l))) H'
def specV : Spec → List V
  | .made m => [.str "made", .int m]
  | .own k => [.str "own", .int (k : Nat)]
  | .whole => [.str "whole", .int 0]
  | .flat => [.str "flat", .int 0]
def spSeal (K : PySem.W.Frag) (C : SealC) (P : Addr) : Sp := fun vs H Q _ => ∃ (t : Addr) (sp : Spec), vs = [.ref t] ∧ SqT K H t (specV sp) ∧ SpecOk sp ∧ TabS H P lamQ ∧ ∀ s H', ExtN H H' → TabS H' P lamQ → SealAt C H' s sp → Q (.ref s) H'
section
variable {P : Program} {w : World} {K : PySem.W.Frag} {mg : Str → Option Value} {base : Heap}
theorem ok_own_of {C f fO : Addr} {fd fdO : FuncData} {k : Nat} (F : Fun K "of" "OwnSeal.of" sOwnSealOf f fd) (T : Cls K C) (nF : NoAttr K C "_function") (Ow : Cal P w K mg base "_law_own" (k + 1) ["k", "heard"] spOwn fO fdO) :
    FnOk P w K mg base CX0 (k + 3) f fd ["self", "text"] (spOwnOf C) := by
  refine F.ok scOwnSealOf (fun vs H Q E h => ?_) (fun cdv A outer s H vs Q E hr h => ?_)
  · obtain ⟨a, dx, g, n, l, rfl, _⟩ := h
    rfl
  · obtain ⟨a, dx, g, n, l, rfl, ha, L, hn, hl, q⟩ := h
    refine ⟨_, (pss_cons (ps_set (i := 2) scOwnSealOf.nd rfl (.inl rfl) (pe_fld (pv 0) rfl)) (pss_one (ps_ret (pe_callLam (i := 2) Ow hr rfl (.inl rfl) (pa_cons (pv 1) pa_nil))))), ?_⟩
    exact ⟨_, rfl, a, C, dx, _, _, rfl, ha, T, nF, rfl, g, n, rfl, L, _, rfl, L, l, rfl, hn, hl, q⟩
/-- what the calls of seals want -/
structure Seals (P : Program) (w : World) (K : PySem.W.Frag) (mg : Str → Option Value) (base : Heap) (C : SealC) (k : Nat) : Prop where
  M : ∃ f fd, CalM P w K mg base C.M "of" k ["self", "text"] (spMadeOf C.M) f fd
  O : ∃ f fd, CalM P w K mg base C.O "of" k ["self", "text"] (spOwnOf C.O) f fd
  W : ∃ f fd, CalM P w K mg base C.W "of" k ["self", "text"] spWholeOf f fd
  F : ∃ f fd, CalM P w K mg base C.F "of" k ["self", "text"] spFlatOf f fd
end
def Mono (t : TE) : Prop := ∀ σ H (Q Q' : VK), (∀ v H', Q v H' → Q' v H') → t σ H Q → t σ H Q'
def MonoA (t : TA) : Prop := ∀ σ H (Q Q' : List V → Hp → Prop), (∀ v H', Q v H' → Q' v H') → t σ H Q → t σ H Q'
theorem mono_nil : MonoA tNil := fun _ _ _ _ h q => h _ _ q
theorem mono_cons {te : TE} {t : TA} (h : Mono te) (h' : MonoA t) : MonoA (tCons te t) := fun σ H Q Q' k q => h _ _ _ _ (fun v H1 q => h' _ _ _ _ (fun vs H2 q => k _ _ q) q) q
theorem mono_var {i : Nat} : Mono (tVar i) := fun _ _ _ _ k ⟨v, e, q⟩ => ⟨v, e, k _ _ q⟩
theorem mono_call {sp : Sp} {dvs : List V} {E : XK} {t : TA} (h : ∀ vs H (Q Q' : VK), (∀ v H', Q v H' → Q' v H') → sp vs H Q E → sp vs H Q' E) (h' : MonoA t) : Mono (tCall sp dvs E t) := fun _ _ _ _ k q => h' _ _ _ _ (fun _ _ q => h _ _ _ _ k q) q
theorem mono_chain {E : XK} : ∀ vs H (Q Q' : VK), (∀ v H', Q v H' → Q' v H') → spChain vs H Q E → spChain vs H Q' E := fun _ _ _ _ k ⟨h, e, h1, h2, h3, q⟩ => ⟨h, e, h1, h2, h3, k _ _ q⟩
/-- s.of(e), s any of the seals -/
def tOf (C : SealC) (i : Nat) (t : TA) : TE := fun σ H Q => ∃ s sp, σ[i]? = some (some (.ref s)) ∧ SealAt C H s sp ∧ SpecOk sp ∧ t σ H fun vs H2 => SealAt C H2 s sp ∧ ∃ l : List Nat, vs = [.str (S l)] ∧ l.length ≤ 5000 ∧ ∀ H', Same H2 H' → Q (.str (S (codeL sp l))) H'
section
variable {X : Cx} {x : Str} {p1 apos pos : Pos} {e : Expr} {t : TA} {i k : Nat} {C : SealC} {pl : Sem Bool}
theorem pe_sealof (Sl : Seals X.prog X.w X.K X.mg X.base C k) (hr : Room k X.A) (hN : X.N[i]? = some x) (hv : Vis X.env.scope x) (ha : PA X [e] t) (mt : MonoA t)
    (hdb : (x == ("__debug__" : Str)) = false := by decide) (hcd : (x == ("__classdict__" : Str)) = false := by decide)
    (hst : starEach [e] X.env = (false, eval e X.env) :: starEach [] X.env := by rfl) (hpl : (backTo pos (starEach [] X.env)).any (·.1) = false := by rfl)
    (ht : eval (.Call (.Attribute (.Name x p1) "of" apos) [e] [] pos) X.env = (do
      let ov ← eval (.Name x p1) X.env
      standAt apos.atName
      let (f, first) ← holding [ov] (getMethod ov "of" pl)
      callWith pos f first (backTo pos (starEach [e] X.env)) (backToKw pos (keywordEach [] X.env))) := by rfl) :
    PE X (.Call (.Attribute (.Name x p1) "of" apos) [e] [] pos) (tOf C i t) := by
  obtain ⟨fM, fdM, M⟩ := Sl.M
  obtain ⟨fO, fdO, O⟩ := Sl.O
  obtain ⟨fW, fdW, W⟩ := Sl.W
  obtain ⟨fF, fdF, F⟩ := Sl.F
  have nm := pe_var (X := X) (pos := p1) hN hv hdb hcd
  refine PE.imp (pe_or (pe_or (pe_meth nm M.c M.m M.ok hr M.b .nil pass0 ha hst hpl ht) (pe_meth nm O.c O.m O.ok hr O.b .nil pass0 ha hst hpl ht)) (pe_or (pe_meth nm W.c W.m W.ok hr W.b .nil pass0 ha hst hpl ht) (pe_meth nm F.c F.m F.ok hr F.b .nil pass0 ha hst hpl ht))) ?_
  rintro σ H Q ⟨s, sp, hs, hS, ok, q⟩
  cases sp with
  | made m =>
    obtain ⟨dx, h⟩ := hS
    refine .inl (.inl ⟨_, hs, s, dx, _, rfl, h, rfl, mt _ _ _ _ ?_ q⟩)
    rintro vs H2 ⟨⟨dx', h'⟩, l, rfl, hl, q⟩
    exact ⟨s, dx', m, l, rfl, h', ok.1, ok.2, hl, q _ (Same.refl H2)⟩
  | own k =>
    obtain ⟨dx, f, h, L⟩ := hS
    refine .inl (.inr ⟨_, hs, s, dx, _, rfl, h, rfl, mt _ _ _ _ ?_ q⟩)
    rintro vs H2 ⟨⟨dx', f', h', L'⟩, l, rfl, hl, q⟩
    exact ⟨s, dx', f', k, l, rfl, h', L', ok, hl, q⟩
  | whole =>
    obtain ⟨dx, h⟩ := hS
    refine .inr (.inl ⟨_, hs, s, dx, _, rfl, h, rfl, mt _ _ _ _ ?_ q⟩)
    rintro vs H2 ⟨⟨dx', h'⟩, l, rfl, hl, q⟩
    exact ⟨s, l, rfl, q _ (Same.refl H2)⟩
  | flat =>
    obtain ⟨dx, h⟩ := hS
    refine .inr (.inr ⟨_, hs, s, dx, _, rfl, h, rfl, mt _ _ _ _ ?_ q⟩)
    rintro vs H2 ⟨⟨dx', h'⟩, l, rfl, hl, q⟩
    exact ⟨s, l, rfl, q _ (Same.refl H2)⟩
end
section
variable {P : Program} {w : World} {K : PySem.W.Frag} {mg : Str → Option Value} {base : Heap}
theorem ok_seal {C : SealC} {f fM fO cS TP : Addr} {fdM fdO : FuncData} {k : Nat} {oc kV doc pm ct : Value} {od an : Option Addr} {osl : Array (Option Value)}
    (lk : K.lookup f = some ⟨oc, od, .func (PySem.W.fnOf "_law_seal" "_law_seal" (defArgs sLawSeal) (defBody sLawSeal) (defScope sLawSeal) .none kV doc pm an (.ref cS) ct), osl⟩) (hcd : PySem.W.codeIn K (.ref cS) "_law_seal" = true) (TB : TabB base mg cS TP)
    (MkM : CalC P w K mg base "MadeSeal" C.M (k + 3) ["self", "number"] (spMadeInit C.M) fM fdM) (MkO : CalC P w K mg base "OwnSeal" C.O (k + 1) ["self", "function"] (spOwnInit C.O) fO fdO) (MkW : CalO K mg "WholeSeal" C.W) (MkF : CalO K mg "FlatSeal" C.F) :
    FnOk P w K mg base CX0 (k + 5) f (PySem.W.fnOf "_law_seal" "_law_seal" (defArgs sLawSeal) (defBody sLawSeal) (defScope sLawSeal) .none kV doc pm an (.ref cS) ct) ["spec"] (spSeal K C TP) := by
  refine fn_ofR (i := 2) (nm := "k") (N := ["spec", "kind", "k"]) rfl (by decide +kernel) lk hcd scLawSeal (fun vs H Q E h => ?_) (fun A outer s H vs Q E hr h => ?_)
  · obtain ⟨t, sp, rfl, _⟩ := h
    rfl
  · obtain ⟨t, sp, rfl, ht, ok, hT, q⟩ := h
    have hfree : ∀ y ∈ lamSc.names, y.2 = .free → (defScope sLawSeal).names.lookup y.1 = some .cell ∨ (defScope sLawSeal).names.lookup y.1 = some .free := ndef_free (fr := ["k"]) (by decide +kernel)
    have three : ∀ (G : Hp) (x dx : Addr) (o o1 o2 : HO), G x = none → G dx = none → Same G (upd (upd (upd G dx o) x o1) x o2) := fun G x dx o o1 o2 hx hd => same_updF hx (same_updF hx (same_upd hd))
    have two : ∀ (G : Hp) (x dx : Addr) (o o1 : HO), G x = none → G dx = none → Same G (upd (upd G dx o) x o1) := fun G x dx o o1 hx hd => same_updF hx (same_upd hd)
    obtain ⟨ck, hck⟩ := cell_has (sc := defScope sLawSeal) (n := s.heap.objs.size + 1) (x := "k") (by decide +kernel)
    refine ⟨_, (prs_cons (pr_of (ps_asg (pv 0) (pg_tup rfl (pgs_cons (pg_name (i := 1) scLawSeal.nd rfl (.inl rfl)) (pgs_cons (pg_name (i := 2) scLawSeal.nd rfl (.inr rfl)) pgs_nil)))))
      (prs_cons (pr_if (pt_cmpR op_eq (pv 1) pe_str (nomark _)) (prs_one (pr_ret (pe_make MkM.m MkM.ok (hr.mono (by omega)) rfl MkM.g MkM.b .nil pass0 (pa_cons (pv 2) pa_nil)))) prs_nil)
      (prs_cons (pr_if (pt_cmpR op_eq (pv 1) pe_str (nomark _)) (prs_one (pr_ret (pe_make MkO.m MkO.ok (hr.mono (by omega)) rfl MkO.g MkO.b .nil pass0 (pa_cons (pe_lam (c := cS) (P := TP) TB rfl hfree rfl) pa_nil)))) prs_nil)
      (prs_one (pr_ret (pe_ifExp (pt_cmpR op_eq (pv 1) pe_str (nomark _)) (pe_make00 MkW.mi MkW.ini MkW.kp rfl MkW.g) (pe_make00 MkF.mi MkF.ini MkF.kp rfl MkF.g))))))), ?_⟩
    cases sp with
    | made m =>
      refine ⟨_, rfl, t, _, rfl, ht, rfl, _, _, rfl, _, _, rfl, rfl, ?_⟩
      refine ⟨_, rfl, rfl, _, rfl, ite2 (fun _ => ?_) (fun e => absurd (decide_eq_true rfl) e)⟩
      refine ⟨_, rfl, fun x dx hx hdx ne => ⟨x, dx, m, rfl, upd_same, ok.1, ok.2, rfl, .inl (q x _ (ExtN.of (three H x dx _ _ _ hx hdx)) (hT.ext (three H x dx _ _ _ hx hdx)) ⟨dx, upd_same⟩)⟩⟩
    | own n =>
      refine ⟨_, rfl, t, _, rfl, ht, rfl, _, _, rfl, _, _, rfl, rfl, ?_⟩
      refine ⟨_, rfl, rfl, _, rfl, ite2 (fun e => absurd (of_decide_eq_true e) (by decide +kernel)) (fun _ => ?_)⟩
      refine ⟨_, rfl, rfl, _, rfl, ite2 (fun _ => ?_) (fun e => absurd (decide_eq_true rfl) e)⟩
      refine ⟨hT, fun f' c' H1 eN T1 nf hf hc x dx hx hdx ne => ⟨x, dx, f', rfl, upd_same, rfl, .inr ⟨.int (n : Nat), ck, rfl, hck, fun nc => ?_⟩⟩⟩
      have s3 := three H1 x dx (.own x) (.ins C.O dx []) (.ins C.O dx [("_function", .ref f')]) hx hdx
      have s4 := s3.trans (same_upd (o := CellO ck (.int (n : Nat))) nc)
      have nex : ck ≠ x := (ne_of_none (upd_same (H := upd (upd H1 dx (.own x)) x (.ins C.O dx []))) nc).symm
      refine q x _ (eN.trans (ExtN.of s4)) (T1.ext s4) ⟨dx, f', by rw [upd_ne nex.symm]; exact upd_same, cloFrom (cellsFrom (s.heap.objs.size + 1) (defScope sLawSeal).names []) lamSc.names [], ck, c', s4 _ _ hf, ?_, ?_, upd_same, s4 _ _ hc⟩
      · refine clo_has (fun y hy e => ?_) (by decide +kernel : (("k" : Str), NameKind.free) ∈ lamSc.names) hck
        rcases hfree y hy e with z | z
        · exact cell_has z
        · exact absurd rfl (scLawSeal.nofree _ (PySem.mem_of_lookup z))
      · intro y a e
        rcases cloFrom_mem (PySem.mem_of_lookup e) with hm | ⟨h1, _⟩
        · cases hm
        · have : ∀ z ∈ lamSc.names, z.2 = .free → z.1 = ("k" : Str) := by decide +kernel
          exact this _ h1 rfl
    | whole =>
      refine ⟨_, rfl, t, _, rfl, ht, rfl, _, _, rfl, _, _, rfl, rfl, ?_⟩
      refine ⟨_, rfl, rfl, _, rfl, ite2 (fun e => absurd (of_decide_eq_true e) (by decide +kernel)) (fun _ => ?_)⟩
      refine ⟨_, rfl, rfl, _, rfl, ite2 (fun e => absurd (of_decide_eq_true e) (by decide +kernel)) (fun _ => ?_)⟩
      refine ⟨_, rfl, rfl, _, rfl, ite2 (fun _ => ?_) (fun e => absurd (decide_eq_true rfl) e)⟩
      exact fun x dx hx hdx ne => .inl (q x _ (ExtN.of (two H x dx _ _ hx hdx)) (hT.ext (two H x dx _ _ hx hdx)) ⟨dx, upd_same⟩)
    | flat =>
      refine ⟨_, rfl, t, _, rfl, ht, rfl, _, _, rfl, _, _, rfl, rfl, ?_⟩
      refine ⟨_, rfl, rfl, _, rfl, ite2 (fun e => absurd (of_decide_eq_true e) (by decide +kernel)) (fun _ => ?_)⟩
      refine ⟨_, rfl, rfl, _, rfl, ite2 (fun e => absurd (of_decide_eq_true e) (by decide +kernel)) (fun _ => ?_)⟩
      refine ⟨_, rfl, rfl, _, rfl, ite2 (fun e => absurd (of_decide_eq_true e) (by decide +kernel)) (fun _ => ?_)⟩
      exact fun x dx hx hdx ne => .inl (q x _ (ExtN.of (two H x dx _ _ hx hdx)) (hT.ext (two H x dx _ _ hx hdx)) ⟨dx, upd_same⟩)
end
end My

set_option Elab.async false
set_option linter.all false
set_option maxRecDepth 100000
namespace My
open PySem PySem.Spec PyProof.Rows L2 SX LamX NdefX
abbrev sHeadsOf : Stmt := topS 11
theorem scHeadsOf : FnScope ["place", "entries", "seal", "heads", "entry"] ["place", "entries", "seal"] (defScope sHeadsOf) := ⟨rfl, rfl, rfl, by decide +kernel, rfl, by decide +kernel, by decide +kernel⟩
abbrev sLawCode : Stmt := topS 34
theorem scLawCode : FnScope ["spec", "heard", "kind", "k", "h", "one"] ["spec", "heard"] (defScope sLawCode) := ⟨rfl, rfl, rfl, by decide +kernel, rfl, by decide +kernel, by decide +kernel⟩
abbrev sLawHeads : Stmt := topS 35
theorem scLawHeads : FnScope ["spec", "place_z", "entries", "found", "entry", "last"] ["spec", "place_z", "entries"] (defScope sLawHeads) := ⟨rfl, rfl, rfl, by decide +kernel, rfl, by decide +kernel, by decide +kernel⟩
abbrev sLawStones : Stmt := topS 36
theorem scLawStones : FnScope ["heads", "k"] ["heads"] (defScope sLawStones) := ⟨rfl, rfl, rfl, by decide +kernel, rfl, by decide +kernel, by decide +kernel⟩
abbrev txV (l : List Nat) : V := .str (S l)
def Entries (K : PySem.W.Frag) (H : Hp) (a : Addr) (es : List (List Nat)) : Prop := SqL K H a (es.map txV) ∨ SqT K H a (es.map txV)
theorem Entries.same {K : PySem.W.Frag} {H H' : Hp} {a : Addr} {es : List (List Nat)} (h : Entries K H a es) (s : Same H H') : Entries K H' a es := h.elim (fun h => .inl (s.seq h)) fun h => .inr (seqT_same s h)
def headsTo (sp : Spec) (p : List Nat) (es : List (List Nat)) (i : Nat) : List V := (List.range (i + 1)).map fun j => txV (hdL sp p es j)
theorem headsTo_snoc (sp : Spec) (p : List Nat) (es : List (List Nat)) (i : Nat) : headsTo sp p es i = ((List.range i).map fun j => txV (hdL sp p es j)) ++ [txV (hdL sp p es i)] := by
  unfold headsTo
  rw [List.range_succ, List.map_append]
  rfl
theorem headsTo_succ (sp : Spec) (p : List Nat) (es : List (List Nat)) (i : Nat) : headsTo sp p es (i + 1) = headsTo sp p es i ++ [txV (hdL sp p es (i + 1))] := headsTo_snoc sp p es (i + 1)
theorem headsTo_len (sp : Spec) (p : List Nat) (es : List (List Nat)) (i : Nat) : (headsTo sp p es i).length = i + 1 := by
  unfold headsTo
  rw [List.length_map, List.length_range]
theorem headsTo_all (sp : Spec) (p : List Nat) (es : List (List Nat)) : headsTo sp p es es.length = (headsL sp p es).map txV := by
  unfold headsTo headsL
  rw [List.map_map]
  rfl
theorem at_tx {es : List (List Nat)} {i : Nat} {x : V} (h : (es.map txV)[i]? = some x) : ∃ e, es[i]? = some e ∧ x = txV e := by
  rw [List.getElem?_map] at h
  cases e : es[i]? with
  | none => rw [e] at h; cases h
  | some z => rw [e] at h; exact ⟨z, rfl, (Option.some.inj h).symm⟩
theorem mono_ixl {K : PySem.W.Frag} {i : Nat} : Mono (tOp (rIxL K) (tVar i) (tUn (rU fun i => .int (-i)) (tC (.int 1)))) := fun σ H Q Q' k ⟨v, e, j, e2, p, xs, i, v', h1, h2, h3, h4, q⟩ => ⟨v, e, j, e2, p, xs, i, v', h1, h2, h3, h4, k _ _ q⟩
def spHeads (K : PySem.W.Frag) (C : SealC) : Sp := fun vs H Q _ => ∃ (p : List Nat) (a s : Addr) (es : List (List Nat)) (sp : Spec), vs = [txV p, .ref a, .ref s] ∧ Entries K H a es ∧ SealAt C H s sp ∧ SpecOk sp ∧ BookOk p es ∧ ∀ r H', H r = none → Same H H' → H' r = some (.lst ((headsL sp p es).map txV)) → Q (.ref r) H'
def spCode (K : PySem.W.Frag) : Sp := fun vs H Q _ => ∃ (t : Addr) (l : List Nat) (sp : Spec), vs = [.ref t, txV l] ∧ SqT K H t (specV sp) ∧ SpecOk sp ∧ l.length ≤ 5000 ∧ ∀ H', Same H H' → Q (txV (codeL sp l)) H'
def spLawHeads (K : PySem.W.Frag) : Sp := fun vs H Q _ => ∃ (t : Addr) (p : List Nat) (a : Addr) (es : List (List Nat)) (sp : Spec), vs = [.ref t, txV p, .ref a] ∧ SqT K H t (specV sp) ∧ SqL K H a (es.map txV) ∧ SpecOk sp ∧ BookOk p es ∧ ∀ r H', H r = none → Same H H' → H' r = some (.lst ((headsL sp p es).map txV)) → Q (.ref r) H'
section
variable {P : Program} {w : World} {K : PySem.W.Frag} {mg : Str → Option Value} {base : Heap}
theorem ok_heads {C : SealC} {f fC : Addr} {fd fdC : FuncData} {k : Nat} (F : Fun K "heads_of" "heads_of" sHeadsOf f fd) (Ch : Cal P w K mg base "chained_text" (k + 1) ["head", "entry"] spChain fC fdC) (Sl : Seals P w K mg base C (k + 3)) :
    FnOk P w K mg base CX0 (k + 4) f fd ["place", "entries", "seal"] (spHeads K C) := by
  refine F.ok scHeadsOf (fun vs H Q E h => ?_) (fun cdv A outer s H vs Q E hr h => ?_)
  · obtain ⟨p, a, s, es, sp, rfl, _⟩ := h
    rfl
  · obtain ⟨p, a, sl, es, sp, rfl, hE, hS, ok, B, q⟩ := h
    rcases hE with hE | hE
    · refine ⟨_, (pss_cons (ps_set (i := 3) scHeadsOf.nd rfl (.inl rfl) (pe_lst (pa_cons (pe_sealof (i := 2) Sl (hr.mono (by omega)) rfl (.inl rfl) (pa_cons (pv 0) pa_nil) (mono_cons mono_var mono_nil)) pa_nil)))
      (pss_cons (ps_for PassesOwn.never rfl (pi_list (pv 1)) (pg_name (i := 4) scHeadsOf.nd rfl (.inl rfl))
        (pss_one (ps_expr (pe_bm PySem.F.plainAttrs_list PySem.F.slot_list_append PySem.F.type_list_append mt_append (pv 3) (pa_cons (pe_sealof (i := 2) Sl (hr.mono (by omega)) rfl (.inl rfl) (pa_cons (pe_call Ch.ok (hr.mono (by omega)) rfl Ch.g Ch.kp Ch.b .nil pass0 (pa_cons (pe_ix ix_list (pv 3) (pe_un un_neg pe_int) (fun _ _ => rfl)) (pa_cons (pv 4) pa_nil))) pa_nil) (mono_cons (mono_call mono_chain (mono_cons mono_ixl (mono_cons mono_var mono_nil))) mono_nil)) pa_nil)))))
      (pss_one (ps_ret (pv 3))))), ?_⟩
      have n2 := B.n
      refine ⟨sl, sp, rfl, hS, ok, _, rfl, hS, p, rfl, (by have := B.pl; omega), fun H1 s1 => ⟨(by show 1 ≤ sizeLine; decide), fun r nr => ?_⟩⟩
      have nrH : H r = none := s1.free nr
      refine ⟨_, rfl, a, rfl, ⟨_, s1.trans (same_upd nr) |>.seq hE⟩, for_it walk_list (fun i σ H' => ∃ v4, σ = [some (txV p), some (.ref a), some (.ref sl), some (.ref r), v4] ∧ Same H H' ∧ H' r = some (.lst (headsTo sp p es i))) ⟨none, rfl, s1.trans (same_upd nr), upd_same⟩ (fun i σ H' _ ⟨_, _, s', _⟩ => s'.seq hE) ?_ ?_⟩
      · rintro i x σ H2 H3 hi ⟨v4, rfl, s', hr'⟩ ⟨rfl, hx⟩
        obtain ⟨e, he, rfl⟩ := at_tx hx
        have hi' : i < es.length := (List.getElem?_eq_some_iff.mp he).1
        have h1 := hd_len' ok B (i := i) (by omega)
        have h2 := B.el e (List.mem_of_getElem? he)
        have h3 := chain_len (h := hdL sp p es i) (e := e) (by omega)
        refine ⟨_, rfl, .inl ⟨rfl, _, SqL.of hr'⟩, sl, sp, rfl, hS.same s', ok, _, rfl, 1, rfl, r, _, -1, _, rfl, rfl, SqL.of hr', by rw [headsTo_snoc]; exact atI_last _ _, _, rfl, _, e, rfl, by omega, by omega, hS.same s', _, rfl, by omega, fun H4 s4 => ⟨r, _, _, rfl, rfl, s4 _ _ hr', ?_, ?_⟩⟩
        · rw [headsTo_len]
          exact small1000 (by omega)
        · refine ⟨_, rfl, same_updF nrH (s'.trans s4), ?_⟩
          rw [upd_same, headsTo_succ, hd_succ sp p es i e he]
          rfl
      · rintro σ H2 ⟨v4, rfl, s', hr'⟩
        rw [List.length_map, headsTo_all] at hr'
        exact ⟨_, rfl, q r H2 nrH s' hr'⟩
    · refine ⟨_, (pss_cons (ps_set (i := 3) scHeadsOf.nd rfl (.inl rfl) (pe_lst (pa_cons (pe_sealof (i := 2) Sl (hr.mono (by omega)) rfl (.inl rfl) (pa_cons (pv 0) pa_nil) (mono_cons mono_var mono_nil)) pa_nil)))
      (pss_cons (ps_for PassesOwn.never rfl (pi_tup (pv 1)) (pg_name (i := 4) scHeadsOf.nd rfl (.inl rfl))
        (pss_one (ps_expr (pe_bm PySem.F.plainAttrs_list PySem.F.slot_list_append PySem.F.type_list_append mt_append (pv 3) (pa_cons (pe_sealof (i := 2) Sl (hr.mono (by omega)) rfl (.inl rfl) (pa_cons (pe_call Ch.ok (hr.mono (by omega)) rfl Ch.g Ch.kp Ch.b .nil pass0 (pa_cons (pe_ix ix_list (pv 3) (pe_un un_neg pe_int) (fun _ _ => rfl)) (pa_cons (pv 4) pa_nil))) pa_nil) (mono_cons (mono_call mono_chain (mono_cons mono_ixl (mono_cons mono_var mono_nil))) mono_nil)) pa_nil)))))
      (pss_one (ps_ret (pv 3))))), ?_⟩
      have n2 := B.n
      refine ⟨sl, sp, rfl, hS, ok, _, rfl, hS, p, rfl, (by have := B.pl; omega), fun H1 s1 => ⟨(by show 1 ≤ sizeLine; decide), fun r nr => ?_⟩⟩
      have nrH : H r = none := s1.free nr
      refine ⟨_, rfl, a, rfl, ⟨_, seqT_same (s1.trans (same_upd nr)) hE⟩, for_it walk_tup (fun i σ H' => ∃ v4, σ = [some (txV p), some (.ref a), some (.ref sl), some (.ref r), v4] ∧ Same H H' ∧ H' r = some (.lst (headsTo sp p es i))) ⟨none, rfl, s1.trans (same_upd nr), upd_same⟩ (fun i σ H' _ ⟨_, _, s', _⟩ => seqT_same s' hE) ?_ ?_⟩
      · rintro i x σ H2 H3 hi ⟨v4, rfl, s', hr'⟩ ⟨rfl, hx⟩
        obtain ⟨e, he, rfl⟩ := at_tx hx
        have hi' : i < es.length := (List.getElem?_eq_some_iff.mp he).1
        have h1 := hd_len' ok B (i := i) (by omega)
        have h2 := B.el e (List.mem_of_getElem? he)
        have h3 := chain_len (h := hdL sp p es i) (e := e) (by omega)
        refine ⟨_, rfl, .inl ⟨rfl, _, SqL.of hr'⟩, sl, sp, rfl, hS.same s', ok, _, rfl, 1, rfl, r, _, -1, _, rfl, rfl, SqL.of hr', by rw [headsTo_snoc]; exact atI_last _ _, _, rfl, _, e, rfl, by omega, by omega, hS.same s', _, rfl, by omega, fun H4 s4 => ⟨r, _, _, rfl, rfl, s4 _ _ hr', ?_, ?_⟩⟩
        · rw [headsTo_len]
          exact small1000 (by omega)
        · refine ⟨_, rfl, same_updF nrH (s'.trans s4), ?_⟩
          rw [upd_same, headsTo_succ, hd_succ sp p es i e he]
          rfl
      · rintro σ H2 ⟨v4, rfl, s', hr'⟩
        rw [List.length_map, headsTo_all] at hr'
        exact ⟨_, rfl, q r H2 nrH s' hr'⟩
theorem ok_code {f fO : Addr} {fd fdO : FuncData} {k : Nat} (F : Fun K "_law_code" "_law_code" sLawCode f fd) (Ow : Cal P w K mg base "_law_own" (k + 1) ["k", "heard"] spOwn fO fdO) (b_int : mg "int" = none) (b_ord : mg "ord" = none) (b_str : mg "str" = none) :
    FnOk P w K mg base CX0 (k + 2) f fd ["spec", "heard"] (spCode K) := by
  refine F.ok scLawCode (fun vs H Q E h => ?_) (fun cdv A outer s H vs Q E hr h => ?_)
  · obtain ⟨t, l, sp, rfl, _⟩ := h
    rfl
  · obtain ⟨t, l, sp, rfl, ht, ok, hl, q⟩ := h
    refine ⟨_, (pss_cons (ps_asg (pv 0) (pg_tup rfl (pgs_cons (pg_name (i := 2) scLawCode.nd rfl (.inl rfl)) (pgs_cons (pg_name (i := 3) scLawCode.nd rfl (.inl rfl)) pgs_nil))))
      (pss_cons (ps_if (pt_cmpR op_eq (pv 2) pe_str (nomark _)) (pss_one (ps_ret (pe_call Ow.ok (hr.mono (by omega)) rfl Ow.g Ow.kp Ow.b .nil pass0 (pa_cons (pv 3) (pa_cons (pv 1) pa_nil))))) pss_nil)
      (pss_cons (ps_if (pt_cmpR op_ne (pv 2) pe_str (nomark _)) (pss_one (ps_ret (pe_ifExp (pt_cmpR op_eq (pv 2) pe_str (nomark _)) (pv 1) pe_str))) pss_nil)
      (pss_cons (ps_set (i := 4) scLawCode.nd rfl (.inl rfl) pe_int)
      (pss_cons (ps_for PassesOwn.never rfl (pi_str (pv 1)) (pg_name (i := 5) scLawCode.nd rfl (.inl rfl))
        (pss_one (ps_set (i := 4) scLawCode.nd rfl (.inl rfl) (pe_op op_mod (pe_callTy call_int1 rfl b_int (by decide +kernel) (pa_cons (pe_op op_add (pe_op op_add (pe_op op_mulG pe_int (pv 4)) (pe_callB call_ord rfl b_ord (by decide +kernel) (pa_cons (pv 5) pa_nil))) pe_int) pa_nil)) (pv 3)))))
      (pss_one (ps_ret (pe_callTy call_str_int rfl b_str (by decide +kernel) (pa_cons (pv 4) pa_nil))))))))), ?_⟩
    cases sp with
    | made m =>
      have h1 := ok.1
      have h2 := ok.2
      refine ⟨_, rfl, t, _, rfl, ht, rfl, _, _, rfl, _, _, rfl, rfl, ?_⟩
      refine ⟨_, rfl, rfl, _, rfl, ite2 (fun e => absurd (of_decide_eq_true e) (by decide +kernel)) (fun _ => ?_)⟩
      refine ⟨_, rfl, rfl, _, rfl, ite2 (fun e => absurd e (by decide +kernel)) (fun _ => ?_)⟩
      refine ⟨_, rfl, _, rfl, for_it walk_str (fun i σ H' => H' = H ∧ ∃ v, σ = [some (.ref t), some (.str (S l)), some (.str "made"), some (.int m), some (.int ((l.take i).foldl (fun h c => (31 * h + c + 1) % m) 7 : Nat)), v]) ⟨rfl, none, rfl⟩ (fun _ _ _ _ _ => trivial) ?_ ?_⟩
      · rintro i x σ H1 H2 hi ⟨rfl, v, rfl⟩ ⟨rfl, c, hc, rfl⟩
        have hc := mem_sign hc
        refine ⟨_, rfl, _, _, rfl, rfl, mul_left (by decide +kernel), _, rfl, _, rfl, rfl, _, _, rfl, rfl, _, _, rfl, rfl, .inl ⟨_, rfl, _, rfl, _, _, rfl, rfl, (by show (0 : Int) < _; omega), ?_⟩⟩
        refine ⟨rfl, some (.str ⟨#[c]⟩), ?_⟩
        rw [fold_take _ l 7 i hc, ← hash_step (by omega)]
        rfl
      · rintro σ H' ⟨rfl, v, rfl⟩
        have e : (l.take (S l).cps.size).foldl (fun h c => (31 * h + c + 1) % m) 7 = hashL m l := by
          have : (S l).cps.size = l.length := by simp
          rw [this, List.take_length]
          rfl
        refine ⟨_, rfl, _, rfl, ?_, ?_⟩
        · rw [e, Int.natAbs_natCast]
          exact log10 (Nat.lt_trans (hash_bound h1 h2 l) (by decide))
        · rw [e, num_S]
          exact q _ (Same.refl _)
    | own n =>
      refine ⟨_, rfl, t, _, rfl, ht, rfl, _, _, rfl, _, _, rfl, rfl, ?_⟩
      refine ⟨_, rfl, rfl, _, rfl, ite2 (fun _ => ?_) (fun e => absurd (decide_eq_true rfl) e)⟩
      exact ⟨_, rfl, _, rfl, n, l, rfl, ok, hl, q⟩
    | whole =>
      refine ⟨_, rfl, t, _, rfl, ht, rfl, _, _, rfl, _, _, rfl, rfl, ?_⟩
      refine ⟨_, rfl, rfl, _, rfl, ite2 (fun e => absurd (of_decide_eq_true e) (by decide +kernel)) (fun _ => ?_)⟩
      refine ⟨_, rfl, rfl, _, rfl, ite2 (fun _ => ?_) (fun e => absurd (by decide +kernel) e)⟩
      refine ⟨_, rfl, rfl, _, rfl, ite2 (fun _ => ?_) (fun e => absurd (decide_eq_true rfl) e)⟩
      exact ⟨_, rfl, q H (Same.refl H)⟩
    | flat =>
      refine ⟨_, rfl, t, _, rfl, ht, rfl, _, _, rfl, _, _, rfl, rfl, ?_⟩
      refine ⟨_, rfl, rfl, _, rfl, ite2 (fun e => absurd (of_decide_eq_true e) (by decide +kernel)) (fun _ => ?_)⟩
      refine ⟨_, rfl, rfl, _, rfl, ite2 (fun _ => ?_) (fun e => absurd (by decide +kernel) e)⟩
      refine ⟨_, rfl, rfl, _, rfl, ite2 (fun e => absurd (of_decide_eq_true e) (by decide +kernel)) (fun _ => ?_)⟩
      have e : Str.ofString "x" = S [120] := by decide +kernel
      have := q H (Same.refl H)
      rw [show txV (codeL .flat l) = .str (S [120]) from rfl, ← e] at this
      exact this
theorem ok_law_heads {f fC : Addr} {fd fdC : FuncData} {k : Nat} (F : Fun K "_law_heads" "_law_heads" sLawHeads f fd) (Co : Cal P w K mg base "_law_code" (k + 2) ["spec", "heard"] (spCode K) fC fdC) (b_len : mg "len" = none) (b_str : mg "str" = none) :
    FnOk P w K mg base CX0 (k + 3) f fd ["spec", "place_z", "entries"] (spLawHeads K) := by
  refine F.ok scLawHeads (fun vs H Q E h => ?_) (fun cdv A outer s H vs Q E hr h => ?_)
  · obtain ⟨t, p, a, es, sp, rfl, _⟩ := h
    rfl
  · obtain ⟨t, p, a, es, sp, rfl, ht, hE, ok, B, q⟩ := h
    have n2 := B.n
    refine ⟨_, (pss_cons (ps_set (i := 3) scLawHeads.nd rfl (.inl rfl) (pe_lst (pa_cons (pe_call Co.ok (hr.mono (by omega)) rfl Co.g Co.kp Co.b .nil pass0 (pa_cons (pv 0) (pa_cons (pv 1) pa_nil))) pa_nil)))
      (pss_cons (ps_for PassesOwn.never rfl (pi_list (pv 2)) (pg_name (i := 4) scLawHeads.nd rfl (.inl rfl))
        (pss_cons (ps_set (i := 5) scLawHeads.nd rfl (.inl rfl) (pe_ix ix_list (pv 3) (pe_op op_sub (pe_callB call_len rfl b_len (by decide +kernel) (pa_cons (pv 3) pa_nil)) pe_int) (fun _ _ => rfl)))
        (pss_one (ps_expr (pe_bm PySem.F.plainAttrs_list PySem.F.slot_list_append PySem.F.type_list_append mt_append (pv 3) (pa_cons (pe_call Co.ok (hr.mono (by omega)) rfl Co.g Co.kp Co.b .nil pass0 (pa_cons (pv 0) (pa_cons (pe_op op_add_str (pe_op op_add_str (pe_op op_add_str (pe_op op_add_str (pe_callTy call_str_int rfl b_str (by decide +kernel) (pa_cons (pe_callB call_len rfl b_len (by decide +kernel) (pa_cons (pv 5) pa_nil)) pa_nil)) pe_str) (pv 5)) pe_str) (pv 4)) pa_nil))) pa_nil))))))
      (pss_one (ps_ret (pv 3))))), ?_⟩
    refine ⟨_, rfl, _, rfl, t, p, sp, rfl, ht, ok, (by have := B.pl; omega), fun H1 s1 => ⟨(by show 1 ≤ sizeLine; decide), fun r nr => ?_⟩⟩
    have nrH : H r = none := s1.free nr
    refine ⟨_, rfl, a, rfl, ⟨_, s1.trans (same_upd nr) |>.seq hE⟩, for_it walk_list (fun i σ H' => ∃ v4 v5, σ = [some (.ref t), some (txV p), some (.ref a), some (.ref r), v4, v5] ∧ Same H H' ∧ H' r = some (.lst (headsTo sp p es i))) ⟨none, none, rfl, s1.trans (same_upd nr), upd_same⟩ (fun i σ H' _ ⟨_, _, _, s', _⟩ => s'.seq hE) ?_ ?_⟩
    · rintro i x σ H2 H3 hi ⟨v4, v5, rfl, s', hr'⟩ ⟨rfl, hx⟩
      obtain ⟨e, he, rfl⟩ := at_tx hx
      have hi' : i < es.length := (List.getElem?_eq_some_iff.mp he).1
      have h1 := hd_len' ok B (i := i) (by omega)
      have h2 := B.el e (List.mem_of_getElem? he)
      have h3 := chain_len (h := hdL sp p es i) (e := e) (by omega)
      have n5 := numL_len5 (n := (hdL sp p es i).length) (by omega)
      have ec : Str.ofString ":" = S [58] := by decide +kernel
      have esl : Str.ofString "/" = S [47] := by decide +kernel
      have hlast : atI (headsTo sp p es i) ((((headsTo sp p es i).length : Nat) : Int) - 1) = some (txV (hdL sp p es i)) := by
        rw [headsTo_len, show (((i + 1 : Nat) : Int) - 1) = ((i : Nat) : Int) by omega, headsTo_snoc]
        exact atI_nat (by rw [List.getElem?_append_right (by simp)]; simp)
      refine ⟨_, rfl, _, rfl, _, _, rfl, .inl ⟨_, SqL.of hr', rfl⟩, _, _, rfl, rfl, r, _, _, _, rfl, rfl, SqL.of hr', hlast, ?_⟩
      refine ⟨_, rfl, .inl ⟨rfl, _, SqL.of hr'⟩, _, rfl, _, rfl, _, _, rfl, ⟨line_of (by rw [S_len]; omega), rfl⟩, _, rfl, ?_, ?_⟩
      · rw [S_len, Int.natAbs_natCast]
        exact log10 (by omega)
      · rw [S_len, num_S]
        refine ⟨_, _, rfl, rfl, ?_, _, rfl, _, _, rfl, rfl, ?_, _, _, rfl, rfl, ?_, _, rfl, _, _, rfl, rfl, ?_, t, chainL (hdL sp p es i) e, sp, ?_, seqT_same s' ht, ok, by omega, fun H4 s4 => ⟨r, _, _, rfl, rfl, s4 _ _ hr', ?_, ?_⟩⟩
        · rw [ec, S_len, S_len]
          exact line_of (by simp; omega)
        · rw [ec, S_cat, S_len, S_len]
          exact line_of (by simp; omega)
        · rw [ec, esl, S_cat, S_cat, S_len, S_len]
          exact line_of (by simp; omega)
        · rw [ec, esl, S_cat, S_cat, S_cat, S_len, S_len]
          exact line_of (by simp; omega)
        · rw [ec, esl, S_cat, S_cat, S_cat, S_cat]
          unfold chainL
          simp
        · rw [headsTo_len]
          exact small1000 (by omega)
        · refine ⟨_, _, rfl, same_updF nrH (s'.trans s4), ?_⟩
          rw [upd_same, headsTo_succ, hd_succ sp p es i e he]
          rfl
    · rintro σ H2 ⟨v4, v5, rfl, s', hr'⟩
      rw [List.length_map, headsTo_all] at hr'
      exact ⟨_, rfl, q r H2 nrH s' hr'⟩
end
end My

set_option Elab.async false
set_option linter.all false
set_option maxRecDepth 100000
namespace My
open PySem PySem.Spec PyProof.Rows L2 SX LamX NdefX
abbrev sClosingInit : Stmt := inClass (topS 12) 0
theorem scClosingInit : FnScope ["self", "place", "number", "last_head", "milestones"] ["self", "place", "number", "last_head", "milestones"] (defScope sClosingInit) := ⟨rfl, rfl, rfl, by decide +kernel, rfl, by decide +kernel, by decide +kernel⟩
abbrev sClosingStretch : Stmt := inClass (topS 12) 1
theorem scClosingStretch : FnScope ["self", "entries", "seal", "found", "fewer", "mile"] ["self", "entries", "seal"] (defScope sClosingStretch) := ⟨rfl, rfl, rfl, by decide +kernel, rfl, by decide +kernel, by decide +kernel⟩
abbrev sClosingEq : Stmt := inClass (topS 12) 2
theorem scClosingEq : FnScope ["self", "other"] ["self", "other"] (defScope sClosingEq) := ⟨rfl, rfl, rfl, by decide +kernel, rfl, by decide +kernel, by decide +kernel⟩
abbrev sClosingOf : Stmt := topS 13
theorem scClosingOf : FnScope ["place", "entries", "seal", "heads"] ["place", "entries", "seal"] (defScope sClosingOf) := ⟨rfl, rfl, rfl, by decide +kernel, rfl, by decide +kernel, by decide +kernel⟩
/-! ### rows of texts as data -/
abbrev pdS (l : List Nat) : PyData := .str (S l)
theorem dp_tx {K : PySem.W.Frag} {H : Hp} : ∀ es : List (List Nat), DpAll K H (es.map txV) (es.map pdS)
  | [] => .nil
  | e :: es => .cons (.str (S e)) (dp_tx es)
theorem strOk_S {l : List Nat} (h : Cod l) : PyData.strOk (S l) = true := by
  unfold PyData.strOk
  rw [Array.all_eq_true]
  intro i hi
  have hi' : i < l.length := by simpa using hi
  have := h l[i] (List.getElem_mem hi')
  simpa using this
theorem lay_tx : ∀ es : List (List Nat), (∀ e ∈ es, Cod e) → PyData.canLayAll0 (es.map pdS) = true ∧ PyData.depthAll (es.map pdS) = 0
  | [], _ => ⟨by simp [PyData.canLayAll0], by simp [PyData.depthAll]⟩
  | e :: es, h => by
    obtain ⟨h1, h2⟩ := lay_tx es (fun x hx => h x (List.mem_cons_of_mem _ hx))
    have h3 := strOk_S (h e List.mem_cons_self)
    exact ⟨by simp [PyData.canLayAll0, PyData.canLay0, h1, h3], by simp [PyData.depthAll, PyData.depth, h2]⟩
theorem shaped_tup {es : List (List Nat)} (h : ∀ e ∈ es, Cod e) : SeqAt.shaped (.tuple (es.map pdS)) = true := by
  obtain ⟨h1, h2⟩ := lay_tx es h
  unfold SeqAt.shaped
  simp [PyData.canLay0, PyData.depth, h1, h2]
theorem shaped_lst {es : List (List Nat)} (h : ∀ e ∈ es, Cod e) : SeqAt.shaped (.list (es.map pdS)) = true := by
  obtain ⟨h1, h2⟩ := lay_tx es h
  unfold SeqAt.shaped
  simp [PyData.canLay0, PyData.depth, h1, h2]
theorem eqv_tx : ∀ es fs : List (List Nat), PyData.eqvAll (es.map pdS) (fs.map pdS) = decide (es = fs)
  | [], [] => by simp [PyData.eqvAll]
  | [], _ :: _ => by simp [PyData.eqvAll]
  | _ :: _, [] => by simp [PyData.eqvAll]
  | e :: es, f :: fs => by
    have ih := eqv_tx es fs
    have h1 : (S e == S f) = decide (e = f) := by
      by_cases h : e = f
      · rw [h]; simp
      · have : S e ≠ S f := fun z => h (S_inj z)
        simp [h]
    simp only [List.map_cons, PyData.eqvAll, PyData.eqv, ih, h1]
    by_cases h : e = f
    · simp [h]
    · simp [h]
/-! ### closings -/
structure CloT (K : PySem.W.Frag) (mg : Str → Option Value) (C : Addr) : Prop where
  cl : Cls K C
  nP : NoAttr K C "place"
  nN : NoAttr K C "number"
  nL : NoAttr K C "last_head"
  nM : NoAttr K C "milestones"
  mgC : mg "Closing" = some (.ref C)
  ha : PySem.W.findIn K (.ref C) "__class__" = some (some (.builtin "object.__class__"))
  hn : PySem.W.specialIn K (.builtin "object.__class__") "__get__" = some (some (.builtin "getset_descriptor.__get__"))
  htk : PySem.W.takesIn K (.builtin "object.__class__") = some true
  hm : PySem.W.mroIn K C (.type "object") = some true
def ButA (a : Addr) (H H' : Hp) : Prop := ∀ b o, b ≠ a → H b = some o → H' b = some o
theorem ButA.sql {K : PySem.W.Frag} {H H' : Hp} {a m C dx : Addr} {fs : List (Str × V)} {xs : List V} (h : ButA a H H') (ha : H a = some (.ins C dx fs)) (s : SqL K H m xs) : SqL K H' m xs := by
  rcases s with (s | ⟨o, s⟩) | s
  · exact .inl (.inl (h _ _ (ne_of s ha (fun z => by cases z)) s))
  · exact .inl (.inr ⟨o, h _ _ (ne_of s ha (fun z => by cases z)) s⟩)
  · exact .inr s
theorem ButA.sqt {K : PySem.W.Frag} {H H' : Hp} {a m C dx : Addr} {fs : List (Str × V)} {xs : List V} (h : ButA a H H') (ha : H a = some (.ins C dx fs)) (s : SqT K H m xs) : SqT K H' m xs := by
  rcases s with (s | ⟨o, s⟩) | s
  · exact .inl (.inl (h _ _ (ne_of s ha (fun z => by cases z)) s))
  · exact .inl (.inr ⟨o, h _ _ (ne_of s ha (fun z => by cases z)) s⟩)
  · exact .inr s
def cloF (v1 v2 v3 : V) (t : Addr) : List (Str × V) := [("place", v1), ("number", v2), ("last_head", v3), ("milestones", .ref t)]
def spCloInit (K : PySem.W.Frag) (C : Addr) : Sp := fun vs H Q _ => ∃ (a dx m : Addr) (v1 v2 v3 : V) (ys : List V), vs = [.ref a, v1, v2, v3, .ref m] ∧ H a = some (.ins C dx []) ∧ (SqL K H m ys ∨ SqT K H m ys) ∧
  ∀ t H', ButA a H H' → H' a = some (.ins C dx (cloF v1 v2 v3 t)) → SqT K H' t ys → Q .non H'
def ClosingAt (K : PySem.W.Frag) (C : Addr) (H : Hp) (x : Addr) (sp : Spec) (p : List Nat) (es : List (List Nat)) : Prop :=
  ∃ dx t, H x = some (.ins C dx (cloF (txV p) (.int (es.length : Nat)) (txV (hdL sp p es es.length)) t)) ∧ SqT K H t ((stonesL sp p es).map txV)
theorem ClosingAt.same {K : PySem.W.Frag} {C : Addr} {H H' : Hp} {x : Addr} {sp : Spec} {p : List Nat} {es : List (List Nat)} (h : ClosingAt K C H x sp p es) (s : Same H H') : ClosingAt K C H' x sp p es := by
  obtain ⟨dx, t, h1, h2⟩ := h
  exact ⟨dx, t, s _ _ h1, seqT_same s h2⟩
def cloEq (sp : Spec) (p p' : List Nat) (es fs : List (List Nat)) : Bool :=
  decide (p = p') && (decide (es.length = fs.length) && (decide (hdL sp p es es.length = hdL sp p' fs fs.length) && decide (stonesL sp p es = stonesL sp p' fs)))
def spEqC (K : PySem.W.Frag) (C : Addr) : Sp := fun vs H Q _ => ∃ (a b : Addr) (sp : Spec) (p p' : List Nat) (es fs : List (List Nat)), vs = [.ref a, .ref b] ∧ ClosingAt K C H a sp p es ∧ ClosingAt K C H b sp p' fs ∧ BookOk p es ∧ BookOk p' fs ∧ Q (.bl (cloEq sp p p' es fs)) H
def spClo (K : PySem.W.Frag) (CS : SealC) (C : Addr) : Sp := fun vs H Q _ => ∃ (p : List Nat) (a s : Addr) (es : List (List Nat)) (sp : Spec), vs = [txV p, .ref a, .ref s] ∧ Entries K H a es ∧ SealAt CS H s sp ∧ SpecOk sp ∧ BookOk p es ∧
  ∀ x H', H x = none → Same H H' → ClosingAt K C H' x sp p es → Q (.ref x) H'
section
variable {P : Program} {w : World} {K : PySem.W.Frag} {mg : Str → Option Value} {base : Heap}
theorem butA_upd {a : Addr} {H : Hp} {o : HO} : ButA a H (upd H a o) := fun b u n h => by rw [upd_ne n]; exact h
theorem ButA.trans {a : Addr} {H H1 H2 : Hp} (x : ButA a H H1) (y : ButA a H1 H2) : ButA a H H2 := fun b o n h => y b o n (x b o n h)
theorem ok_clo_init {C f : Addr} {fd : FuncData} {k : Nat} (F : Fun K "__init__" "Closing.__init__" sClosingInit f fd) (T : CloT K mg C) (b_tuple : mg "tuple" = none) : FnOk P w K mg base CX0 (k + 1) f fd ["self", "place", "number", "last_head", "milestones"] (spCloInit K C) := by
  refine F.ok scClosingInit (fun vs H Q E h => ?_) (fun cdv A outer s H vs Q E hr h => ?_)
  · obtain ⟨a, dx, m, v1, v2, v3, ys, rfl, _⟩ := h
    rfl
  · obtain ⟨a, dx, m, v1, v2, v3, ys, rfl, ha, hm, q⟩ := h
    refine ⟨_, (pss_cons (ps_fld (pv 0) (pv 1) rfl)
      (pss_cons (ps_fld (pv 0) (pv 2) rfl)
      (pss_cons (ps_fld (pv 0) (pv 3) rfl)
      (pss_one (ps_fld (pv 0) (pe_callTy call_tuple_of rfl b_tuple (by decide +kernel) (pa_cons (pv 4) pa_nil)) rfl))))), ?_⟩
    refine ⟨_, rfl, _, rfl, a, C, dx, _, rfl, ha, T.cl, T.nP, (by show 0 < 1000; decide), ?_⟩
    refine ⟨_, rfl, _, rfl, a, C, dx, _, rfl, upd_same, T.cl, T.nN, (by show 1 < 1000; decide), ?_⟩
    refine ⟨_, rfl, _, rfl, a, C, dx, _, rfl, upd_same, T.cl, T.nL, (by show 2 < 1000; decide), ?_⟩
    rw [upd_upd, upd_upd]
    have b1 : ButA a H (upd H a (.ins C dx (putF "last_head" v3 (putF "number" v2 (putF "place" v1 []))))) := butA_upd
    rcases hm with hm | hm
    · refine ⟨_, rfl, m, ys, rfl, .inl ⟨b1.sql ha hm, fun l nl => ⟨_, rfl, a, C, dx, [("place", v1), ("number", v2), ("last_head", v3)], rfl, ?_, T.cl, T.nM, (by show 3 < 1000; decide), ?_⟩⟩⟩
      · rw [upd_ne (ne_of_none upd_same nl)]
        exact upd_same
      · have nla : l ≠ a := (ne_of_none upd_same nl).symm
        have b2 : ButA a (upd H a (.ins C dx (putF "last_head" v3 (putF "number" v2 (putF "place" v1 []))))) (upd (upd H a (.ins C dx (putF "last_head" v3 (putF "number" v2 (putF "place" v1 []))))) l (.tup ys)) := fun b o _ h => same_upd nl b o h
        refine q l _ ((b1.trans b2).trans butA_upd) upd_same (SqT.of ?_)
        rw [upd_ne nla, upd_same]
    · refine ⟨_, rfl, m, ys, rfl, .inr ⟨b1.sqt ha hm, ⟨_, rfl, a, C, dx, _, rfl, upd_same, T.cl, T.nM, (by show 3 < 1000; decide), ?_⟩⟩⟩
      rw [upd_upd]
      exact q m _ butA_upd upd_same (ButA.sqt butA_upd ha hm)
theorem ok_clo_eq {C f : Addr} {fd : FuncData} {k : Nat} (F : Fun K "__eq__" "Closing.__eq__" sClosingEq f fd) (T : CloT K mg C) (b_isinstance : mg "isinstance" = none) : FnOk P w K mg base CX0 (k + 1) f fd ["self", "other"] (spEqC K C) := by
  refine F.ok scClosingEq (fun vs H Q E h => ?_) (fun cdv A outer s H vs Q E hr h => ?_)
  · obtain ⟨a, b, sp, p, p', es, fs, rfl, _⟩ := h
    rfl
  · obtain ⟨a, b, sp, p, p', es, fs, rfl, ⟨dx, t, ha, ht⟩, ⟨dy, u, hb, hu⟩, B, B', q⟩ := h
    have g_Closing := T.mgC
    let CC := C
    refine ⟨_, (pss_one (ps_ret (pe_and (pe_callB call_isi rfl b_isinstance (by decide +kernel) (pa_cons (pv 1) (pa_cons (pe_glob (v := .ref CC) rfl g_Closing rfl) pa_nil))) (pe_and (pe_cmpR op_eq (pe_fld (pv 0) rfl) (pe_fld (pv 1) rfl) (nomark _)) (pe_and (pe_cmpR op_eq (pe_fld (pv 0) rfl) (pe_fld (pv 1) rfl) (nomark _)) (pe_and (pe_cmpR op_eq (pe_fld (pv 0) rfl) (pe_fld (pv 1) rfl) (nomark _)) (pe_one (pe_cmpR (op_eqD hr.units) (pe_fld (pv 0) rfl) (pe_fld (pv 1) rfl) (nomark _))))))))), ?_⟩
    have kk : PySem.W.kitOne K (.ref C) (.ref C) = some true := by
      unfold PySem.W.kitOne
      rw [if_pos (by simp)]
    refine ⟨_, rfl, _, _, _, _, _, rfl, .own C, .base (.ins hb T.cl T.ha T.hn T.htk T.hm), kk, _, rfl, iteT ?_⟩
    unfold cloEq at q
    have hS : ∀ x y : List Nat, decide (txV x = txV y) = decide (x = y) := fun x y => by
      by_cases h : x = y
      · rw [h]; simp
      · have : txV x ≠ txV y := fun z => h (S_inj (V.str.inj z))
        rw [decide_eq_false h, decide_eq_false this]
    have hI : decide (V.int (es.length : Nat) = V.int (fs.length : Nat)) = decide (es.length = fs.length) := by
      by_cases h : es.length = fs.length
      · rw [h]; simp
      · have : V.int (es.length : Nat) ≠ V.int (fs.length : Nat) := fun z => h (by have := V.int.inj z; omega)
        rw [decide_eq_false h, decide_eq_false this]
    refine ⟨_, rfl, a, C, dx, _, _, rfl, ha, T.cl, T.nP, rfl, _, rfl, b, C, dy, _, _, rfl, hb, T.cl, T.nP, rfl, rfl, _, rfl, ?_⟩
    rw [hS]
    by_cases h1 : p = p'
    · rw [decide_eq_true h1] at q ⊢
      refine iteT ⟨_, rfl, a, C, dx, _, _, rfl, ha, T.cl, T.nN, rfl, _, rfl, b, C, dy, _, _, rfl, hb, T.cl, T.nN, rfl, rfl, _, rfl, ?_⟩
      rw [hI]
      by_cases h2 : es.length = fs.length
      · rw [decide_eq_true h2] at q ⊢
        refine iteT ⟨_, rfl, a, C, dx, _, _, rfl, ha, T.cl, T.nL, rfl, _, rfl, b, C, dy, _, _, rfl, hb, T.cl, T.nL, rfl, rfl, _, rfl, ?_⟩
        rw [hS]
        by_cases h3 : hdL sp p es es.length = hdL sp p' fs fs.length
        · rw [decide_eq_true h3] at q ⊢
          refine iteT ⟨_, rfl, a, C, dx, _, _, rfl, ha, T.cl, T.nM, rfl, _, rfl, b, C, dy, _, _, rfl, hb, T.cl, T.nM, rfl, _, _, .tup ht (dp_tx _), .tup hu (dp_tx _), shaped_tup (stones_cod B), shaped_tup (stones_cod B'), ?_⟩
          show Q (.bl (PyData.eqvAll _ _)) H
          rw [eqv_tx]
          exact q
        · rw [decide_eq_false h3] at q ⊢
          exact iteF q
      · rw [decide_eq_false h2] at q ⊢
        exact iteF q
    · rw [decide_eq_false h1] at q ⊢
      exact iteF q
theorem step_stones (sp : Spec) (p : List Nat) (es : List (List Nat)) : (stepIx ((headsL sp p es).map txV).length (some 4) none (some 4)).filterMap (((headsL sp p es).map txV)[·]?) = (stonesL sp p es).map txV := by
  have e1 : stepIx (es.length + 1) (some 4) none (some 4) = (List.range (es.length / 4)).map fun j => 4 * j + 4 := by
    unfold stepIx sliceBounds sliceRange
    simp only [Option.getD_some]
    rw [if_pos (by decide)]
    simp only [show ¬ ((4 : Int) < 0) by decide, if_false, show ((4 : Int) > 0) by decide, if_true]
    by_cases h : 4 ≤ es.length
    · have e2 : max (0 : Int) (min 4 ((es.length + 1 : Nat) : Int)) = 4 := by omega
      rw [e2, if_pos (by omega)]
      have e3 : ((((es.length + 1 : Nat) : Int) - 4 + 4 - 1) / 4).toNat = es.length / 4 := by omega
      rw [e3]
      apply List.map_congr_left
      intro k _
      omega
    · have e2 : max (0 : Int) (min 4 ((es.length + 1 : Nat) : Int)) = ((es.length + 1 : Nat) : Int) := by omega
      rw [e2, if_neg (by omega)]
      have e3 : es.length / 4 = 0 := by omega
      rw [e3]
      rfl
  rw [List.length_map, heads_len, e1, List.filterMap_map]
  unfold stonesL
  rw [List.map_map]
  have : ∀ j ∈ List.range (es.length / 4), (((headsL sp p es).map txV)[4 * j + 4]?) = some (txV (hdL sp p es (4 * j + 4))) := by
    intro j hj
    have := List.mem_range.mp hj
    rw [List.getElem?_map, heads_at sp p es (by omega)]
    rfl
  revert this
  generalize List.range (es.length / 4) = l
  intro h
  induction l with
  | nil => rfl
  | cons j l ih =>
    have h1 : (((fun x => (List.map txV (headsL sp p es))[x]?) ∘ fun j => 4 * j + 4) j) = some (txV (hdL sp p es (4 * j + 4))) := h j List.mem_cons_self
    rw [List.filterMap_cons_some h1, ih fun i hi => h i (List.mem_cons_of_mem _ hi)]
    rfl
theorem Entries.len {K : PySem.W.Frag} {H : Hp} {a : Addr} {es : List (List Nat)} (h : Entries K H a es) : (∃ xs : List V, SqL K H a xs ∧ es.length = xs.length) ∨ (∃ xs : List V, SqT K H a xs ∧ es.length = xs.length) :=
  h.elim (fun h => .inl ⟨_, h, (List.length_map ..).symm⟩) fun h => .inr ⟨_, h, (List.length_map ..).symm⟩
theorem ok_closing {CS : SealC} {C f fH fI : Addr} {fd fdH fdI : FuncData} {k : Nat} {tk : Tok} (F : Fun K "closing_of" "closing_of" sClosingOf f fd) (Ho : Cal P w K mg base "heads_of" (k + 4) ["place", "entries", "seal"] (spHeads K CS) fH fdH)
    (MkC : CalC P w K mg base "Closing" C (k + 1) ["self", "place", "number", "last_head", "milestones"] (spCloInit K C) fI fdI) (b_len : mg "len" = none) (g_MILE : mg "MILE" = some (.int 4 tk)) : FnOk P w K mg base CX0 (k + 5) f fd ["place", "entries", "seal"] (spClo K CS C) := by
  refine F.ok scClosingOf (fun vs H Q E h => ?_) (fun cdv A outer s H vs Q E hr h => ?_)
  · obtain ⟨p, a, s, es, sp, rfl, _⟩ := h
    rfl
  · obtain ⟨p, a, sl, es, sp, rfl, hE, hS, ok, B, q⟩ := h
    have n2 := B.n
    refine ⟨_, (pss_cons (ps_set (i := 3) scClosingOf.nd rfl (.inl rfl) (pe_call Ho.ok (hr.mono (by omega)) rfl Ho.g Ho.kp Ho.b .nil pass0 (pa_cons (pv 0) (pa_cons (pv 1) (pa_cons (pv 2) pa_nil)))))
      (pss_one (ps_ret (pe_make MkC.m MkC.ok (hr.mono (by omega)) rfl MkC.g MkC.b .nil pass0 (pa_cons (pv 0) (pa_cons (pe_callB call_len rfl b_len (by decide +kernel) (pa_cons (pv 1) pa_nil)) (pa_cons (pe_ix ix_list (pv 3) (pe_un un_neg pe_int) (fun _ _ => rfl)) (pa_cons (pe_stepL (pv 3) (po_some (pe_glob (v := .int 4) rfl g_MILE ⟨_, rfl⟩)) po_none (po_some (pe_glob (v := .int 4) rfl g_MILE ⟨_, rfl⟩))) pa_nil)))))))), ?_⟩
    refine ⟨_, rfl, _, rfl, _, rfl, p, a, sl, es, sp, rfl, hE, hS, ok, B, fun r H1 nr s1 hr1 => ?_⟩
    have hlast : atI ((headsL sp p es).map txV) (-1) = some (txV (hdL sp p es es.length)) := by
      rw [← headsTo_all, headsTo_snoc]
      exact atI_last _ _
    have key : ∀ x dx, H1 x = none → H1 dx = none → dx ≠ x → ∀ m, H1 m = none → dx ≠ m → x ≠ m → True := fun _ _ _ _ _ _ _ _ _ => trivial
    have fin : ∀ (m : Addr), H1 m = none → ∀ x dx, (upd H1 m (.lst ((stonesL sp p es).map txV))) x = none → (upd H1 m (.lst ((stonesL sp p es).map txV))) dx = none → dx ≠ x →
        spCloInit K C [.ref x, txV p, .int (es.length : Nat), txV (hdL sp p es es.length), .ref m] (upd (upd (upd H1 m (.lst ((stonesL sp p es).map txV))) dx (.own x)) x (.ins C dx [])) (fun v H2 => v = .non ∧ Q (.ref x) H2) E0 := by
      intro m nm x dx hx hdx ne
      have s2 : Same H1 (upd H1 m (.lst ((stonesL sp p es).map txV))) := same_upd nm
      have s3 : Same (upd H1 m (.lst ((stonesL sp p es).map txV))) (upd (upd (upd H1 m (.lst ((stonesL sp p es).map txV))) dx (.own x)) x (.ins C dx [])) := same_updF hx (same_upd hdx)
      have hm : SqL K (upd (upd (upd H1 m (.lst ((stonesL sp p es).map txV))) dx (.own x)) x (.ins C dx [])) m ((stonesL sp p es).map txV) := s3.seq (SqL.of upd_same)
      refine ⟨x, dx, m, _, _, _, _, rfl, upd_same, .inl hm, fun t H' bt hx' ht => ⟨rfl, ?_⟩⟩
      have nxH : H x = none := s1.free (s2.free hx)
      refine q x H' nxH (fun b o e => ?_) ⟨dx, t, hx', ht⟩
      exact bt b o (ne_of_none e nxH) (s3 _ _ (s2 _ _ (s1 _ _ e)))
    have hz : (stepIx ((headsL sp p es).map txV).length (some 4) none (some 4)).length ≤ sizeLine := by
      have h1 := PySem.sliceIndicesBy_le (some 4) none 4 (by decide) ((headsL sp p es).map txV).length
      refine Nat.le_trans h1 ?_
      rw [List.length_map, heads_len]
      exact line_of (by omega)
    rcases hE.len with ⟨xs, hx, el⟩ | ⟨xs, hx, el⟩
    · refine ⟨_, rfl, _, rfl, _, _, rfl, .inl ⟨xs, s1.seq hx, el⟩, _, rfl, 1, rfl, r, _, -1, _, rfl, rfl, SqL.of hr1, hlast, _, rfl, 4, rfl, 4, rfl, r, _, rfl, SqL.of hr1, by decide, hz, fun m nm => ?_⟩
      rw [step_stones]
      exact fin m nm
    · refine ⟨_, rfl, _, rfl, _, _, rfl, .inr ⟨xs, seqT_same s1 hx, el⟩, _, rfl, 1, rfl, r, _, -1, _, rfl, rfl, SqL.of hr1, hlast, _, rfl, 4, rfl, 4, rfl, r, _, rfl, SqL.of hr1, by decide, hz, fun m nm => ?_⟩
      rw [step_stones]
      exact fin m nm
end
end My

set_option Elab.async false
set_option linter.all false
set_option maxRecDepth 100000
namespace My
open PySem PySem.Spec PyProof.Rows L2 SX LamX NdefX
def OptV (K : PySem.W.Frag) (H : Hp) (v : V) (o : Option (Nat × Nat)) : Prop := match o with
  | none => v = .non
  | some (lo, hi) => ∃ t, v = .ref t ∧ SqT K H t [.int (lo : Nat), .int (hi : Nat)]
theorem OptV.same {K : PySem.W.Frag} {H H' : Hp} {v : V} {o : Option (Nat × Nat)} (h : OptV K H v o) (s : Same H H') : OptV K H' v o := by
  cases o with
  | none => exact h
  | some z => obtain ⟨t, e, h⟩ := h; exact ⟨t, e, seqT_same s h⟩
theorem cut_one {xs : List V} {j : Nat} {x : V} (h : xs[j]? = some x) : cutV xs (some (j : Nat)) (some ((j : Int) + 1)) = [x] := by
  obtain ⟨hj, rfl⟩ := List.getElem?_eq_some_iff.mp h
  have e1 : HT.sIx xs.length 0 (some (j : Nat)) = min j xs.length := HT.sIx_nat _ _ j
  have e2 : HT.sIx xs.length xs.length (some ((j : Int) + 1)) = min (j + 1) xs.length := HT.sIx_nat _ _ (j + 1)
  unfold cutV
  rw [e1, e2, Nat.min_eq_left (Nat.le_of_lt hj), Nat.min_eq_left (by omega : j + 1 ≤ xs.length), show j + 1 - j = 1 by omega, List.drop_eq_getElem_cons hj]
  rfl
/-- t[lo:hi], the whole or a new one -/
def rSlU (K : PySem.W.Frag) : V → Option Int → Option Int → Hp → VK → Prop := fun x lo hi H Q => ∃ a xs, x = .ref a ∧ SqT K H a xs ∧ ∀ v H', Same H H' → SqT K H' v (cutV xs lo hi) → Q (.ref v) H'
theorem sl_tupS {X : Cx} : SlR X (rSlU X.K) := by
  intro pins s σ H x v vl vu lo hi sl Q I rx hs pl pu h
  obtain ⟨a, xs, rfl, hx, q⟩ := h
  refine sl_tupA pins s σ H _ v vl vu lo hi sl Q I rx hs pl pu ⟨a, xs, rfl, hx, fun hw => q a H (Same.refl H) ?_, fun hw p np => q p _ (same_upd np) (SqT.of upd_same)⟩
  have : cutV xs lo hi = xs := by
    unfold cutV
    rw [hw.1, hw.2, List.drop_zero, Nat.sub_zero, List.take_length]
  rw [this]
  exact hx
theorem find_some {m i : Nat} {P : Nat → Prop} [DecidablePred P] (hi : i < m) (h : P i) (h0 : ∀ j, j < i → ¬ P j) : (List.range m).find? (fun j => decide (P j)) = some i := by
  rw [List.find?_range_eq_some]
  exact ⟨decide_eq_true h, List.mem_range.mpr hi, fun j hj => by simp [h0 j hj]⟩
theorem find_none {m : Nat} {P : Nat → Prop} [DecidablePred P] (h0 : ∀ j, j < m → ¬ P j) : (List.range m).find? (fun j => decide (P j)) = none := by
  rw [List.find?_range_eq_none]
  exact fun j hj => by simp [h0 j hj]
def spStretch (K : PySem.W.Frag) (CS : SealC) (C : Addr) : Sp := fun vs H Q _ => ∃ (x a s : Addr) (p : List Nat) (es fs : List (List Nat)) (sp : Spec), vs = [.ref x, .ref a, .ref s] ∧ ClosingAt K C H x sp p es ∧ Entries K H a fs ∧ SealAt CS H s sp ∧ SpecOk sp ∧ BookOk p es ∧ BookOk p fs ∧
  ∀ v H', Same H H' → OptV K H' v (stretchL sp p es fs) → Q v H'
section
variable {P : Program} {w : World} {K : PySem.W.Frag} {mg : Str → Option Value} {base : Heap}
theorem min_if (n m : Nat) : (if ((m : Nat) : Int) < (n : Nat) then ((m : Nat) : Int) else (n : Nat)) = ((min n m : Nat) : Int) := by split <;> omega
theorem max_if (n m : Nat) : (if ((m : Nat) : Int) > (n : Nat) then ((m : Nat) : Int) else (n : Nat)) = ((max n m : Nat) : Int) := by split <;> omega
theorem fdiv4 (n : Nat) : ((n : Nat) : Int).fdiv 4 = ((n / 4 : Nat) : Int) := by
  rw [Int.fdiv_eq_ediv_of_nonneg _ (by decide)]
  rfl
theorem div4 (i : Int) : CDivS i 4 := ⟨by decide, by decide⟩
theorem ok_stretch {CS : SealC} {C f fC fE : Addr} {fd fdC fdE : FuncData} {k : Nat} {tk : Tok} (F : Fun K "stretch" "Closing.stretch" sClosingStretch f fd) (T : CloT K mg C) (Cl : Cal P w K mg base "closing_of" (k + 5) ["place", "entries", "seal"] (spClo K CS C) fC fdC)
    (Eq : CalM P w K mg base C "__eq__" (k + 1) ["self", "other"] (spEqC K C) fE fdE) (b_min : mg "min" = none) (b_max : mg "max" = none) (b_range : mg "range" = none) (g_MILE : mg "MILE" = some (.int 4 tk)) : FnOk P w K mg base CX0 (k + 6) f fd ["self", "entries", "seal"] (spStretch K CS C) := by
  refine F.ok scClosingStretch (fun vs H Q E h => ?_) (fun cdv A outer s H vs Q E hr h => ?_)
  · obtain ⟨x, a, s, p, es, fs, sp, rfl, _⟩ := h
    rfl
  · obtain ⟨x, a, sl, p, es, fs, sp, rfl, hX, hE, hS, ok, B, B', q⟩ := h
    have n1 := B.n
    have n2 := B'.n
    refine ⟨_, (pss_cons (ps_set (i := 3) scClosingStretch.nd rfl (.inl rfl) (pe_call Cl.ok (hr.mono (by omega)) rfl Cl.g Cl.kp Cl.b .nil pass0 (pa_cons (pe_fld (pv 0) rfl) (pa_cons (pv 1) (pa_cons (pv 2) pa_nil)))))
      (pss_cons (ps_if (pt_cmpR (op_eqOwn Eq.ok Eq.m.at_ Eq.m.fn Eq.b (hr.mono (by omega))) (pv 3) (pv 0) (nomark _)) (pss_one (ps_ret pe_non)) pss_nil)
      (pss_cons (ps_set (i := 4) scClosingStretch.nd rfl (.inl rfl) (pe_callB (call_min2 rfl) rfl b_min (by decide +kernel) (pa_cons (pe_fld (pv 0) rfl) (pa_cons (pe_fld (pv 3) rfl) pa_nil))))
      (pss_cons (ps_for PassesOwn.never rfl (pi_range1 rfl b_range (pa_cons (pe_op op_divS (pv 4) (pe_glob (v := .int 4) rfl g_MILE ⟨_, rfl⟩)) pa_nil)) (pg_name (i := 5) scClosingStretch.nd rfl (.inl rfl))
        (pss_one (ps_if (pt_cmpR (op_neD hr.units) (pe_slice sl_tupS (pe_fld (pv 0) rfl) (po_some (pv 5)) (po_some (pe_op op_add (pv 5) pe_int))) (pe_slice sl_tupS (pe_fld (pv 3) rfl) (po_some (pv 5)) (po_some (pe_op op_add (pv 5) pe_int))) (nomark _)) (pss_one (ps_ret (pe_tup (pa_cons (pe_op op_mulG (pv 5) (pe_glob (v := .int 4) rfl g_MILE ⟨_, rfl⟩)) (pa_cons (pe_op op_add (pe_op op_mulG (pv 5) (pe_glob (v := .int 4) rfl g_MILE ⟨_, rfl⟩)) (pe_glob (v := .int 4) rfl g_MILE ⟨_, rfl⟩)) pa_nil))))) pss_nil)))
      (pss_one (ps_ret (pe_tup (pa_cons (pe_op op_mulG (pe_op op_divS (pv 4) (pe_glob (v := .int 4) rfl g_MILE ⟨_, rfl⟩)) (pe_glob (v := .int 4) rfl g_MILE ⟨_, rfl⟩)) (pa_cons (pe_callB (call_max2 rfl) rfl b_max (by decide +kernel) (pa_cons (pe_fld (pv 0) rfl) (pa_cons (pe_fld (pv 3) rfl) pa_nil))) pa_nil))))))))), ?_⟩
    obtain ⟨dx, t, hx, ht⟩ := id hX
    refine ⟨_, rfl, x, C, dx, _, _, rfl, hx, T.cl, T.nP, rfl, _, rfl, _, rfl, p, a, sl, fs, sp, rfl, hE, hS, ok, B', fun y H1 ny s1 hY => ?_⟩
    obtain ⟨dy, u, hy, hu⟩ := id hY
    have hx1 := s1 _ _ hx
    refine ⟨_, rfl, _, rfl, y, x, dy, dx, _, _, rfl, rfl, hy, hx1, ⟨y, x, sp, p, p, fs, es, rfl, hY, hX.same s1, B', B, _, rfl, ?_⟩⟩
    have hc : cloEq sp p p fs es = true ↔ (es.length = fs.length ∧ hdL sp p es es.length = hdL sp p fs fs.length ∧ stonesL sp p es = stonesL sp p fs) := by
      unfold cloEq
      simp only [Bool.and_eq_true, decide_eq_true_eq, true_and]
      exact ⟨fun ⟨a, b, c⟩ => ⟨a.symm, b.symm, c.symm⟩, fun ⟨a, b, c⟩ => ⟨a.symm, b.symm, c.symm⟩⟩
    cases ec : cloEq sp p p fs es with
    | true =>
      refine iteT (q _ _ s1 ?_)
      unfold stretchL
      rw [if_pos (hc.mp ec)]
      rfl
    | false =>
      have hn : ¬ (es.length = fs.length ∧ hdL sp p es es.length = hdL sp p fs fs.length ∧ stonesL sp p es = stonesL sp p fs) := fun z => by rw [hc.mpr z] at ec; cases ec
      unfold stretchL at q
      rw [if_neg hn] at q
      refine iteF ⟨_, rfl, x, C, dx, _, _, rfl, hx1, T.cl, T.nN, rfl, _, rfl, y, C, dy, _, _, rfl, hy, T.cl, T.nN, rfl, _, _, rfl, ?_⟩
      rw [min_if]
      refine ⟨_, rfl, _, _, rfl, rfl, div4 _, ((min es.length fs.length / 4 : Nat) : Int), congrArg (fun z => [V.int z]) (fdiv4 _), by omega, by omega, ?_⟩
      refine for_range (n := min es.length fs.length / 4) (fun i σ H' => ∃ v5, σ = [some (.ref x), some (.ref a), some (.ref sl), some (.ref y), some (.int (min es.length fs.length : Nat)), v5] ∧ Same H1 H' ∧ ∀ j, j < i → ¬ (hdL sp p es (4 * j + 4) ≠ hdL sp p fs (4 * j + 4))) ⟨none, rfl, Same.refl _, fun j hj => absurd hj (by omega)⟩ ?_ ?_
      · rintro i σ H2 hi ⟨v5, rfl, s2, hj⟩
        have hx2 := s2 _ _ hx1
        have hy2 := s2 _ _ hy
        have ht2 := seqT_same s2 (seqT_same s1 ht)
        have hu2 := seqT_same s2 hu
        have hi1 : i < es.length / 4 := by omega
        have hi2 : i < fs.length / 4 := by omega
        have ea := cut_one (xs := (stonesL sp p es).map txV) (j := i) (x := txV (hdL sp p es (4 * i + 4))) (by rw [List.getElem?_map, stones_at sp p es hi1]; rfl)
        have eb := cut_one (xs := (stonesL sp p fs).map txV) (j := i) (x := txV (hdL sp p fs (4 * i + 4))) (by rw [List.getElem?_map, stones_at sp p fs hi2]; rfl)
        have e0 : (0 : Int) + (i : Nat) = (i : Nat) := by omega
        rw [e0]
        have ca : ∀ l ∈ [hdL sp p es (4 * i + 4)], Cod l := fun l hl => by rw [List.mem_singleton.mp hl]; exact hd_cod B _ (by omega)
        have cb : ∀ l ∈ [hdL sp p fs (4 * i + 4)], Cod l := fun l hl => by rw [List.mem_singleton.mp hl]; exact hd_cod B' _ (by omega)
        refine ⟨_, rfl, x, C, dx, _, _, rfl, hx2, T.cl, T.nM, rfl, _, rfl, _, rfl, _, rfl, _, _, rfl, rfl, _, rfl, t, _, rfl, ht2, fun v H3 s3 hv => ?_⟩
        rw [ea] at hv
        refine ⟨_, rfl, y, C, dy, _, _, rfl, s3 _ _ hy2, T.cl, T.nM, rfl, _, rfl, _, rfl, _, rfl, _, _, rfl, rfl, _, rfl, u, _, rfl, seqT_same s3 hu2, fun w' H4 s4 hw => ?_⟩
        rw [eb] at hw
        have e5 : (!PyData.eqv (.tuple ([hdL sp p es (4 * i + 4)].map pdS)) (.tuple ([hdL sp p fs (4 * i + 4)].map pdS))) = decide (hdL sp p es (4 * i + 4) ≠ hdL sp p fs (4 * i + 4)) := by
          show (!PyData.eqvAll _ _) = _
          rw [eqv_tx]
          by_cases h : hdL sp p es (4 * i + 4) = hdL sp p fs (4 * i + 4) <;> simp [h]
        refine ⟨_, _, .tup (seqT_same s4 hv) (dp_tx [hdL sp p es (4 * i + 4)]), .tup hw (dp_tx [hdL sp p fs (4 * i + 4)]), shaped_tup ca, shaped_tup cb, _, rfl, ?_⟩
        rw [e5]
        refine ite2 (fun e => ?_) (fun e => ?_)
        · have hne := of_decide_eq_true e
          refine ⟨_, rfl, _, _, rfl, rfl, mul_right (by decide +kernel), _, rfl, _, _, rfl, rfl, mul_right (by decide +kernel), _, _, rfl, rfl, (by show 2 ≤ sizeLine; decide), fun p' np => ?_⟩
          rw [find_some (P := fun j => hdL sp p es (4 * j + 4) ≠ hdL sp p fs (4 * j + 4)) hi hne hj] at q
          refine q _ _ ((s1.trans (s2.trans (s3.trans s4))).trans (same_upd np)) ⟨p', rfl, SqT.of ?_⟩
          rw [upd_same]
          show some (HO.tup [V.int (((i : Nat) : Int) * 4), V.int (((i : Nat) : Int) * 4 + 4)]) = _
          rw [show ((i : Nat) : Int) * 4 = ((4 * i : Nat) : Int) by omega]
          rfl
        · refine ⟨_, rfl, s2.trans (s3.trans s4), fun j hj' => ?_⟩
          by_cases hji : j = i
          · rw [hji]
            exact fun z => e (decide_eq_true z)
          · exact hj j (by omega)
      · rintro σ H2 ⟨v5, rfl, s2, hj⟩
        refine ⟨_, rfl, _, _, rfl, rfl, div4 _, _, _, rfl, rfl, mul_right (by decide +kernel), _, rfl, x, C, dx, _, _, rfl, s2 _ _ hx1, T.cl, T.nN, rfl, _, rfl, y, C, dy, _, _, rfl, s2 _ _ hy, T.cl, T.nN, rfl, _, _, rfl, (by show 2 ≤ sizeLine; decide), fun p' np => ?_⟩
        rw [find_none hj] at q
        refine q _ _ ((s1.trans s2).trans (same_upd np)) ⟨p', rfl, SqT.of ?_⟩
        rw [upd_same, fdiv4, max_if]
        show some (HO.tup [V.int (((min es.length fs.length / 4 : Nat) : Int) * 4), _]) = _
        rw [show ((min es.length fs.length / 4 : Nat) : Int) * 4 = ((min es.length fs.length / 4 * 4 : Nat) : Int) by omega]
end
end My

set_option Elab.async false
set_option linter.all false
set_option maxRecDepth 100000
namespace My
open PySem PySem.Spec PyProof.Rows L2 SX LamX NdefX
def spStones (K : PySem.W.Frag) : Sp := fun vs H Q _ => ∃ (a : Addr) (sp : Spec) (p : List Nat) (es : List (List Nat)), vs = [.ref a] ∧ SqL K H a ((headsL sp p es).map txV) ∧ es.length ≤ 60 ∧ ∀ r H', H r = none → Same H H' → SqT K H' r ((stonesL sp p es).map txV) → Q (.ref r) H'
def stTo (sp : Spec) (p : List Nat) (es : List (List Nat)) (i : Nat) : List V := (List.range i).map fun j => txV (hdL sp p es (4 * j + 4))
theorem stTo_succ (sp : Spec) (p : List Nat) (es : List (List Nat)) (i : Nat) : stTo sp p es (i + 1) = stTo sp p es i ++ [txV (hdL sp p es (4 * i + 4))] := by
  unfold stTo
  rw [List.range_succ, List.map_append]
  rfl
theorem stTo_all (sp : Spec) (p : List Nat) (es : List (List Nat)) : stTo sp p es (es.length / 4) = (stonesL sp p es).map txV := by
  unfold stTo stonesL
  rw [List.map_map]
  rfl
theorem rg4 {n : Nat} (h : n ≤ 1000) : RgC 4 ((n + 1 : Nat) : Int) 4 (n / 4) := by
  have e : Builtin.Range.rangeSize 4 ((n + 1 : Nat) : Int) 4 = ((n / 4 : Nat) : Int) := by
    unfold Builtin.Range.rangeSize
    rw [if_pos (by decide)]
    split <;> omega
  refine ⟨by decide, by decide, ?_, e⟩
  unfold Builtin.Range.small
  rw [e, if_pos (by decide)]
  unfold Builtin.Range.rangeFitsLong
  rw [Bool.and_eq_true, Bool.and_eq_true, Bool.and_eq_true, Bool.and_eq_true, Bool.or_eq_true]
  refine ⟨⟨⟨⟨?_, ?_⟩, ?_⟩, ?_⟩, .inr ?_⟩ <;> (rw [Bool.and_eq_true, decide_eq_true_eq, decide_eq_true_eq]; omega)
section
variable {P : Program} {w : World} {K : PySem.W.Frag} {mg : Str → Option Value} {base : Heap}
theorem ok_stones {f : Addr} {fd : FuncData} {k : Nat} (F : Fun K "_law_stones" "_law_stones" sLawStones f fd) (b_tuple : mg "tuple" = none) (b_len : mg "len" = none) (b_range : mg "range" = none) : FnOk P w K mg base CX0 (k + 1) f fd ["heads"] (spStones K) := by
  refine F.ok scLawStones (fun vs H Q E h => ?_) (fun cdv A outer s H vs Q E hr h => ?_)
  · obtain ⟨a, sp, p, es, rfl, _⟩ := h
    rfl
  · obtain ⟨a, sp, p, es, rfl, hA, hn, q⟩ := h
    refine ⟨_, (pss_one (ps_ret (pe_callTy call_tuple_of rfl b_tuple (by decide +kernel) (pa_cons (pe_lc (own := [("k", 1)]) (g := gName 1) (tt := tYes) (te := tOp (rIxL K) (tVar 0) (tVar 1)) rfl scLawStones.nd (pi_range3 rfl b_range (pa_cons pe_int (pa_cons (pe_callB call_len rfl b_len (by decide +kernel) (pa_cons (pv 0) pa_nil)) (pa_cons pe_int pa_nil)))) (blkOk_by (own := [("k", 1)]) (N := ["heads", "k"]) (sc := defScope sLawStones) (by decide +kernel)) (fun _ _ _ _ _ => (pg_name (i := 1) scLawStones.nd rfl (.inl rfl) (.inr rfl))) (fun _ _ _ _ _ => pts_nil) (fun _ _ _ _ _ => (pe_ix ix_list (pv 0) (pv 1) (fun _ _ => rfl)))) pa_nil)))), ?_⟩
    have el : (((headsL sp p es).map txV).length : Nat) = es.length + 1 := by rw [List.length_map, heads_len]
    refine ⟨_, rfl, _, _, rfl, .inl ⟨_, hA, el.symm⟩, 4, _, 4, es.length / 4, rfl, rg4 (by omega), fun D nD => lc_it walk_rangeC (fun i H' => Same H H' ∧ H' D = some (.lst (stTo sp p es i))) ⟨same_upd nD, upd_same⟩ (fun _ _ _ _ => trivial) ?_ ?_⟩
    · rintro i x H1 H2 hi ⟨s1, hD⟩ ⟨rfl, rfl⟩
      refine ⟨rfl, ?_⟩
      unfold tYes
      refine iteT ⟨_, rfl, _, rfl, a, _, _, txV (hdL sp p es (4 * i + 4)), rfl, rfl, s1.seq hA, ?_, _, hD, ?_, same_updF nD s1, ?_⟩
      · rw [show (4 : Int) + (i : Nat) * 4 = ((4 * i + 4 : Nat) : Int) by omega]
        exact atI_nat (by rw [List.getElem?_map, heads_at sp p es (by omega)]; rfl)
      · unfold stTo
        rw [List.length_map, List.length_range]
        exact small1000 (by omega)
      · rw [upd_same, stTo_succ]
    · rintro H1 ⟨s1, hD⟩
      rw [stTo_all] at hD
      refine ⟨D, _, rfl, .inl ⟨SqL.of hD, fun l nl => ?_⟩⟩
      exact q l _ (s1.free nl) (s1.trans (same_upd nl)) (SqT.of upd_same)
end
end My

set_option Elab.async false
set_option linter.all false
set_option maxRecDepth 100000
namespace My
open PySem PySem.Spec PyProof.Rows L2 SX LamX NdefX
abbrev sLawNames : Stmt := topS 30
theorem scLawNames : FnScope ["bag", "many", "letters", "stem", "k", "spot", "first", "tail"] ["bag", "many"] (defScope sLawNames) := ⟨rfl, rfl, rfl, by decide +kernel, rfl, by decide +kernel, by decide +kernel⟩
abbrev sLawSpec : Stmt := topS 31
theorem scLawSpec : FnScope ["bag", "way"] ["bag"] (defScope sLawSpec) := ⟨rfl, rfl, rfl, by decide +kernel, rfl, by decide +kernel, by decide +kernel⟩
abbrev sLawEntry : Stmt := topS 37
theorem scLawEntry : FnScope ["bag", "some", "chars", "short", "k"] ["bag"] (defScope sLawEntry) := ⟨rfl, rfl, rfl, by decide +kernel, rfl, by decide +kernel, by decide +kernel⟩
abbrev sLawAltered : Stmt := topS 38
theorem scLawAltered : FnScope ["bag", "entries", "same", "many", "way", "at", "to", "fresh", "k"] ["bag", "entries", "same"] (defScope sLawAltered) := ⟨rfl, rfl, rfl, by decide +kernel, rfl, by decide +kernel, by decide +kernel⟩
theorem op_mulS {X : Cx} : OpR X (binaryOp .Mult) (fun x y H Q => ∃ z n, x = .str z ∧ y = .int n ∧ MulOk z n ∧ Q (.str (Txt.mul z n)) H) := by
  intro pins s σ H x y v u Q I rx ry h
  obtain ⟨i, j, rfl, rfl, hz, q⟩ := h
  obtain ⟨t, rfl⟩ := rx
  obtain ⟨t', rfl⟩ := ry
  exact SB.mul hz (fun t' tk => ⟨.str (Txt.mul i j), H, I.tok _, ⟨_, rfl⟩, q⟩)
theorem BagC.ne {K : PySem.W.Frag} {H : Hp} {b c p : Addr} {ns : List Int} (B : BagC K H b c ns) (h : H p = none) : p ≠ b := by
  obtain ⟨i, g, x, n, B⟩ := B
  exact (ne_of_none B.ob h).symm
theorem BagC.fresh {K : PySem.W.Frag} {H : Hp} {b c p : Addr} {ns : List Int} {o : HO} (B : BagC K H b c ns) (h : H p = none) : BagC K (L2.upd H p o) b c ns := B.same (same_upd h)
theorem But.none {b : Addr} {H H' : Hp} {p : Addr} (t : But b H H') (n : p ≠ b) (h : H' p = none) : H p = none := by
  cases e : H p with
  | none => rfl
  | some o => rw [t _ _ n e] at h; cases h
structure Name (l : List Nat) : Prop where
  len : l.length ≤ 20
  cod : Cod l
def spOfC (K : PySem.W.Frag) : Sp := fun vs H Q _ => ∃ (b a : Addr) (xs : List V) (c : Addr) (ns : List Int), vs = [.ref b, .ref a] ∧ BagC K H b c ns ∧ a ≠ b ∧ SqL K H a xs ∧ 0 < xs.length ∧ xs.length < 1000 ∧ ∀ v H', v ∈ xs → BagC K H' b c ns → But b H H' → Q v H'
def spOfSC (K : PySem.W.Frag) : Sp := fun vs H Q _ => ∃ (b : Addr) (l : List Nat) (c : Addr) (ns : List Int), vs = [.ref b, .str (S l)] ∧ BagC K H b c ns ∧ 0 < l.length ∧ l.length < 1000 ∧ ∀ x H', x ∈ l → BagC K H' b c ns → But b H H' → Q (.str (S [x])) H'
def spSpec (K : PySem.W.Frag) : Sp := fun vs H Q _ => ∃ (b c : Addr) (ns : List Int), vs = [.ref b] ∧ BagC K H b c ns ∧ ∀ t H' sp, SqT K H' t (specV sp) → SpecOk sp → BagC K H' b c ns → But b H H' → t ≠ b → Q (.ref t) H'
def spEntry (K : PySem.W.Frag) : Sp := fun vs H Q _ => ∃ (b c : Addr) (ns : List Int), vs = [.ref b] ∧ BagC K H b c ns ∧ ∀ l H', Name l → BagC K H' b c ns → But b H H' → Q (txV l) H'
def spNames (K : PySem.W.Frag) : Sp := fun vs H Q _ => ∃ (b c : Addr) (ns : List Int), vs = [.ref b, .int 2] ∧ BagC K H b c ns ∧ ∀ r H' (a1 a2 : List Nat), H r = none → BagC K H' b c ns → But b H H' → H' r = some (.lst ([a1, a2].map txV)) → Name a1 → Name a2 → Q (.ref r) H'
section
variable {P : Program} {w : World} {K : PySem.W.Frag} {mg : Str → Option Value} {base : Heap}
theorem ok_ofC {f fD : Addr} {fd fdD : FuncData} {k : Nat} (F : Fun K "_law_of" "_law_of" sLawOf f fd) (D : Cal P w K mg base "_law_pull" (k + 1) ["bag", "many"] (spDrawC K) fD fdD) (b_len : mg "len" = none) : FnOk P w K mg base CX0 (k + 2) f fd ["bag", "some"] (spOfC K) := by
  refine F.ok scLawOf (fun vs H Q E h => ?_) (fun cdv A outer s H vs Q E hr h => ?_)
  · obtain ⟨b, a, xs, c, ns, rfl, _⟩ := h
    rfl
  · obtain ⟨b, a, xs, c, ns, rfl, B, n, hs, h0, h1, q⟩ := h
    refine ⟨_, (pss_one (ps_ret (pe_ix ix_list (pv 1) (pe_call D.ok hr rfl D.g D.kp D.b .nil pass0 (pa_cons (pv 0) (pa_cons (pe_callB call_len rfl b_len (by decide +kernel) (pa_cons (pv 1) pa_nil)) pa_nil))) (fun _ _ => rfl)))), ?_⟩
    refine ⟨_, rfl, _, rfl, _, rfl, _, _, rfl, .inl ⟨_, hs, rfl⟩, b, _, c, ns, rfl, B, by omega, by omega, fun r H' r0 r1 B' t => ?_⟩
    obtain ⟨j, rfl⟩ : ∃ j : Nat, r = (j : Int) := ⟨r.toNat, by omega⟩
    have hj : j < xs.length := by omega
    exact ⟨a, _, _, xs[j], rfl, rfl, t.seq n hs, atI_nat (List.getElem?_eq_getElem hj), q _ H' (List.getElem_mem hj) B' t⟩
theorem ok_ofSC {f fD : Addr} {fd fdD : FuncData} {k : Nat} (F : Fun K "_law_of" "_law_of" sLawOf f fd) (D : Cal P w K mg base "_law_pull" (k + 1) ["bag", "many"] (spDrawC K) fD fdD) (b_len : mg "len" = none) : FnOk P w K mg base CX0 (k + 2) f fd ["bag", "some"] (spOfSC K) := by
  refine F.ok scLawOf (fun vs H Q E h => ?_) (fun cdv A outer s H vs Q E hr h => ?_)
  · obtain ⟨b, l, c, ns, rfl, _⟩ := h
    rfl
  · obtain ⟨b, l, c, ns, rfl, B, h0, h1, q⟩ := h
    refine ⟨_, (pss_one (ps_ret (pe_ix ix_str (pv 1) (pe_call D.ok hr rfl D.g D.kp D.b .nil pass0 (pa_cons (pv 0) (pa_cons (pe_callB call_len rfl b_len (by decide +kernel) (pa_cons (pv 1) pa_nil)) pa_nil))) (fun _ _ => rfl)))), ?_⟩
    have hz := S_len l
    refine ⟨_, rfl, _, rfl, _, rfl, _, _, rfl, ⟨line_of (by omega), rfl⟩, b, _, c, ns, rfl, B, by omega, by omega, fun r H' r0 r1 B' t => ?_⟩
    obtain ⟨j, rfl⟩ : ∃ j : Nat, r = (j : Int) := ⟨r.toNat, by omega⟩
    have hj : j < l.length := by omega
    exact ⟨_, _, l[j], rfl, rfl, line_of (by omega), atI_nat (by simp [hj]), q _ H' (List.getElem_mem hj) B' t⟩
theorem ok_spec {f fD fO : Addr} {fd fdD fdO : FuncData} {k : Nat} (F : Fun K "_law_spec" "_law_spec" sLawSpec f fd) (D : Cal P w K mg base "_law_pull" (k + 1) ["bag", "many"] (spDrawC K) fD fdD) (O : Cal P w K mg base "_law_of" (k + 2) ["bag", "some"] (spOfC K) fO fdO) : FnOk P w K mg base CX0 (k + 3) f fd ["bag"] (spSpec K) := by
  refine F.ok scLawSpec (fun vs H Q E h => ?_) (fun cdv A outer s H vs Q E hr h => ?_)
  · obtain ⟨b, c, ns, rfl, _⟩ := h
    rfl
  · obtain ⟨b, c, ns, rfl, B, q⟩ := h
    refine ⟨_, (pss_cons (ps_set (i := 1) scLawSpec.nd rfl (.inl rfl) (pe_call D.ok (hr.mono (by omega)) rfl D.g D.kp D.b .nil pass0 (pa_cons (pv 0) (pa_cons pe_int pa_nil))))
      (pss_cons (ps_if (pt_cmpR op_lt (pv 1) pe_int (nomark _)) (pss_one (ps_ret (pe_tup (pa_cons pe_str (pa_cons (pe_call O.ok (hr.mono (by omega)) rfl O.g O.kp O.b .nil pass0 (pa_cons (pv 0) (pa_cons (pe_lst (pa_cons pe_int (pa_cons pe_int (pa_cons pe_int (pa_cons pe_int (pa_cons pe_int (pa_cons (pe_op op_powG pe_int pe_int) (pa_cons (pe_op op_add pe_int (pe_call D.ok (hr.mono (by omega)) rfl D.g D.kp D.b .nil pass0 (pa_cons (pv 0) (pa_cons (pe_op op_sub (pe_op op_powG pe_int pe_int) pe_int) pa_nil)))) pa_nil)))))))) pa_nil))) pa_nil))))) pss_nil)
      (pss_one (ps_ret (pe_ifExp (pt_cmpR op_gt (pv 1) pe_int (nomark _)) (pe_tup (pa_cons pe_str (pa_cons (pe_call D.ok (hr.mono (by omega)) rfl D.g D.kp D.b .nil pass0 (pa_cons (pv 0) (pa_cons pe_int pa_nil))) pa_nil))) (pe_tup (pa_cons (pe_ifExp (pt_cmpR op_eq (pv 1) pe_int (nomark _)) pe_str pe_str) (pa_cons pe_int pa_nil)))))))), ?_⟩
    refine ⟨_, rfl, b, 8, c, ns, rfl, B, by decide, by decide, fun way H1 w0 w1 B1 t1 => ?_⟩
    refine ⟨_, rfl, _, _, rfl, rfl, _, rfl, ite2 (fun h1 => ?_) (fun h1 => ?_)⟩
    · refine ⟨_, rfl, _, _, rfl, rfl, ⟨by decide, by decide +kernel⟩, _, rfl, _, _, rfl, rfl, ⟨by decide, by decide +kernel⟩, _, _, rfl, rfl, b, _, c, ns, rfl, B1, by decide, by decide, fun r H2 r0 r1 B2 t2 => ⟨_, _, rfl, rfl, (by show 7 ≤ sizeLine; decide), fun p np => ?_⟩⟩
      refine ⟨b, p, _, c, ns, rfl, B2.fresh np, B2.ne np, SqL.of upd_same, (by show 0 < 7; decide), (by show 7 < 1000; decide), fun v H3 hv B3 t3 => ⟨(by show 2 ≤ sizeLine; decide), fun t nt => ?_⟩⟩
      have u3 : But b H H3 := ((t1.trans t2).trans (But.of (same_upd np))).trans t3
      obtain ⟨m, rfl, m0, m1⟩ : ∃ m : Nat, v = .int m ∧ 2 ≤ m ∧ m ≤ 1000000000 := by
        simp only [List.append_nil, List.mem_cons, List.not_mem_nil, or_false] at hv
        rcases hv with rfl | rfl | rfl | rfl | rfl | rfl | rfl
        · exact ⟨2, rfl, by decide, by decide⟩
        · exact ⟨3, rfl, by decide, by decide⟩
        · exact ⟨5, rfl, by decide, by decide⟩
        · exact ⟨97, rfl, by decide, by decide⟩
        · exact ⟨10007, rfl, by decide, by decide⟩
        · exact ⟨1000000000, rfl, by decide, by decide⟩
        · have r1' : r < 10 ^ 9 - 1 := r1
          refine ⟨(2 + r).toNat, ?_, by omega, by omega⟩
          show V.int (2 + r) = _
          rw [Int.toNat_of_nonneg (by omega)]
      exact q t _ (.made m) (SqT.of upd_same) ⟨m0, m1⟩ (B3.fresh nt) (u3.trans (But.of (same_upd nt))) (B3.ne nt)
    · refine ⟨_, rfl, _, _, rfl, rfl, _, rfl, ite2 (fun h2 => ?_) (fun h2 => ?_)⟩
      · refine ⟨_, rfl, b, 4, c, ns, rfl, B1, by decide, by decide, fun r H2 r0 r1 B2 t2 => ⟨(by show 2 ≤ sizeLine; decide), fun t nt => ?_⟩⟩
        obtain ⟨j, rfl⟩ : ∃ j : Nat, r = (j : Int) := ⟨r.toNat, by omega⟩
        exact q t _ (.own j) (SqT.of upd_same) (by show j < 4; omega) (B2.fresh nt) ((t1.trans t2).trans (But.of (same_upd nt))) (B2.ne nt)
      · refine ⟨_, rfl, rfl, _, rfl, ite2 (fun h3 => ?_) (fun h3 => ?_)⟩
        · exact ⟨(by show 2 ≤ sizeLine; decide), fun t nt => q t _ .whole (SqT.of upd_same) trivial (B1.fresh nt) (t1.trans (But.of (same_upd nt))) (B1.ne nt)⟩
        · exact ⟨(by show 2 ≤ sizeLine; decide), fun t nt => q t _ .flat (SqT.of upd_same) trivial (B1.fresh nt) (t1.trans (But.of (same_upd nt))) (B1.ne nt)⟩
theorem log10' {n : Nat} (h : n < 10 ^ 10) : ((n : Nat) : Int).natAbs.log2 < 1920 := log10 h
theorem S_eta (z : Str) : z = S z.cps.toList := by
  cases z
  simp [S]
theorem name_lit (z : Str) (h1 : decide (z.cps.toList.length ≤ 20) = true) (h2 : z.cps.toList.all (fun c => decide (c < 1114112)) = true) : ∃ l, V.str z = txV l ∧ Name l :=
  ⟨z.cps.toList, congrArg V.str (S_eta z), of_decide_eq_true h1, fun c hc => of_decide_eq_true (List.all_eq_true.mp h2 c hc)⟩
theorem flat_one {ls : List (List Nat)} (h : ∀ l ∈ ls, l.length = 1 ∧ Cod l) : ls.flatten.length = ls.length ∧ Cod ls.flatten := by
  induction ls with
  | nil => exact ⟨rfl, fun c hc => absurd hc (by simp)⟩
  | cons a ls ih =>
    obtain ⟨h1, h2⟩ := ih fun l hl => h l (List.mem_cons_of_mem _ hl)
    obtain ⟨h3, h4⟩ := h a List.mem_cons_self
    exact ⟨by rw [List.flatten_cons, List.length_append, h1, h3, List.length_cons]; omega, by rw [List.flatten_cons]; exact h4.app h2⟩
theorem sum_len {ls : List (List Nat)} (h : ∀ l ∈ ls, l.length = 1 ∧ Cod l) : ((ls.map S).map (·.length)).sum = ls.length := by
  induction ls with
  | nil => rfl
  | cons a ls ih =>
    rw [List.map_cons, List.map_cons, List.sum_cons, ih fun l hl => h l (List.mem_cons_of_mem _ hl), S_len, (h a List.mem_cons_self).1, List.length_cons]
    omega
theorem joinE (ls : List (List Nat)) : Txt.join (Str.ofString "") (ls.map S) = S ls.flatten := by
  rw [show (Str.ofString "") = S [] from rfl, join_S]
  congr 1
  induction ls with
  | nil => rfl
  | cons p r ih =>
    cases r with
    | nil => show p = _; simp
    | cons q r => show p ++ ([] ++ TL.joinL [] (q :: r)) = _; rw [ih]; simp
def CHARS : List Nat := (Str.ofString " !\"#$&'()*+,-./019:;<=>?@AZ[\\]^_abyz{|}~\n").cps.toList
theorem bcol (j : Nat) (h : j < 10 ^ 9) : (Str.ofString "b:" ++ Str.ofString (toString ((j : Nat) : Int)) = S ([98, 58] ++ TL.numL j)) ∧ Name ([98, 58] ++ TL.numL j) := by
  refine ⟨by rw [num_S, show Str.ofString "b:" = S [98, 58] by decide +kernel, S_cat], ?_, ?_⟩
  · have := TL.numL_len (n := j) (k := 9) (by decide) h
    rw [List.length_append]
    show 2 + _ ≤ 20
    omega
  · refine Cod.app (fun c hc => ?_) (numL_cod j)
    rcases List.mem_cons.mp hc with rfl | hc
    · decide
    · rw [List.mem_singleton.mp hc]
      decide
theorem ok_entry {f fD fO fS : Addr} {fd fdD fdO fdS : FuncData} {k : Nat} (F : Fun K "_law_entry" "_law_entry" sLawEntry f fd) (D : Cal P w K mg base "_law_pull" (k + 1) ["bag", "many"] (spDrawC K) fD fdD) (O : Cal P w K mg base "_law_of" (k + 2) ["bag", "some"] (spOfC K) fO fdO) (OS : Cal P w K mg base "_law_of" (k + 2) ["bag", "some"] (spOfSC K) fS fdS)
    (b_str : mg "str" = none) (b_range : mg "range" = none) : FnOk P w K mg base CX0 (k + 3) f fd ["bag"] (spEntry K) := by
  refine F.ok scLawEntry (fun vs H Q E h => ?_) (fun cdv A outer s H vs Q E hr h => ?_)
  · obtain ⟨b, c, ns, rfl, _⟩ := h
    rfl
  · obtain ⟨b, c, ns, rfl, B, q⟩ := h
    refine ⟨_, (pss_cons (ps_set (i := 1) scLawEntry.nd rfl (.inl rfl) (pe_lst (pa_cons pe_str (pa_cons pe_str (pa_cons (pe_op op_add_str pe_str (pe_callTy call_str_int rfl b_str (by decide +kernel) (pa_cons (pe_call D.ok (hr.mono (by omega)) rfl D.g D.kp D.b .nil pass0 (pa_cons (pv 0) (pa_cons pe_int pa_nil))) pa_nil))) (pa_cons pe_str (pa_cons (pe_op op_add_str pe_str (pe_callTy call_str_int rfl b_str (by decide +kernel) (pa_cons (pe_call D.ok (hr.mono (by omega)) rfl D.g D.kp D.b .nil pass0 (pa_cons (pv 0) (pa_cons (pe_op op_powG pe_int pe_int) pa_nil))) pa_nil))) (pa_cons pe_str pa_nil))))))))
      (pss_cons (ps_set (i := 2) scLawEntry.nd rfl (.inr rfl) pe_str)
      (pss_cons (ps_set (i := 3) scLawEntry.nd rfl (.inl rfl) (pe_join pe_str (pe_lc (own := [("k", 4)]) (g := gName 4) (tt := tYes) rfl scLawEntry.nd (pi_range1 rfl b_range (pa_cons (pe_call D.ok (hr.mono (by omega)) rfl D.g D.kp D.b .nil pass0 (pa_cons (pv 0) (pa_cons pe_int pa_nil))) pa_nil)) (blkOk_by (own := [("k", 4)]) (N := ["bag", "some", "chars", "short", "k"]) (sc := defScope sLawEntry) (by decide +kernel)) (fun _ _ _ _ _ => (pg_name (i := 4) scLawEntry.nd rfl (.inl rfl) (.inr rfl))) (fun _ _ _ _ _ => pts_nil) (fun _ _ _ _ _ => (pe_call OS.ok (hr.mono (by omega)) rfl OS.g OS.kp OS.b .nil pass0 (pa_cons (pv 0) (pa_cons (pv 2) pa_nil)))))))
      (pss_one (ps_ret (pe_call O.ok (hr.mono (by omega)) rfl O.g O.kp O.b .nil pass0 (pa_cons (pv 0) (pa_cons (pe_op op_cat (pv 1) (pe_lst (pa_cons (pv 3) (pa_cons (pv 3) pa_nil)))) pa_nil)))))))), ?_⟩
    refine ⟨_, rfl, b, 5, c, ns, rfl, B, by decide, by decide, fun r H1 r0 r1 B1 t1 => ?_⟩
    obtain ⟨j, rfl⟩ : ∃ j : Nat, r = (j : Int) := ⟨r.toNat, by omega⟩
    obtain ⟨ej, nj⟩ := bcol j (by omega)
    refine ⟨_, rfl, log10' (by omega), _, _, rfl, rfl, ?_, _, rfl, _, _, rfl, rfl, ⟨by decide, by decide +kernel⟩, b, _, c, ns, rfl, B1, by decide, by decide, fun r H2 r0 r1 B2 t2 => ?_⟩
    · have h1 := nj.len
      have h2 : (Str.ofString "b:").length = 2 := by decide +kernel
      have h3 := TL.numL_len (n := j) (k := 9) (by decide) (by omega)
      show 2 + (Str.ofString (toString _)).length ≤ sizeLine
      rw [num_S, S_len]
      exact line_of (by omega)
    obtain ⟨i, rfl⟩ : ∃ i : Nat, r = (i : Int) := ⟨r.toNat, by omega⟩
    have hi9 : i < 10 ^ 9 := by have : ((i : Nat) : Int) < 10 ^ 9 := r1; omega
    obtain ⟨ei, ni⟩ := bcol i hi9
    refine ⟨_, rfl, log10' (by omega), _, _, rfl, rfl, ?_, (by show 6 ≤ sizeLine; decide), fun p np => ?_⟩
    · have h2 : (Str.ofString "b:").length = 2 := by decide +kernel
      have h3 := TL.numL_len (n := i) (k := 9) (by decide) hi9
      show 2 + (Str.ofString (toString _)).length ≤ sizeLine
      rw [num_S, S_len]
      exact line_of (by omega)
    -- the list of some
    have s2 := same_upd (o := HO.lst ([.str "spoiled", .str "b:x", .str (Str.ofString "b:" ++ Str.ofString (toString ((j : Nat) : Int))), .str "", .str (Str.ofString "b:" ++ Str.ofString (toString ((i : Nat) : Int))), .str "1:x/b:x"])) np
    have B3 := B2.fresh (o := HO.lst ([.str "spoiled", .str "b:x", .str (Str.ofString "b:" ++ Str.ofString (toString ((j : Nat) : Int))), .str "", .str (Str.ofString "b:" ++ Str.ofString (toString ((i : Nat) : Int))), .str "1:x/b:x"])) np
    have pb := B2.ne np
    have u3 : But b H (upd H2 p (HO.lst ([.str "spoiled", .str "b:x", .str (Str.ofString "b:" ++ Str.ofString (toString ((j : Nat) : Int))), .str "", .str (Str.ofString "b:" ++ Str.ofString (toString ((i : Nat) : Int))), .str "1:x/b:x"]))) := (t1.trans t2).trans (But.of s2)
    refine ⟨⟨_, rfl⟩, _, rfl, b, 4, c, ns, rfl, B3, by decide, by decide, fun r H3 r0 r1 B4 t4 => ?_⟩
    obtain ⟨m, rfl⟩ : ∃ m : Nat, r = (m : Int) := ⟨r.toNat, by omega⟩
    have hp3 := t4 _ _ pb upd_same
    refine ⟨(m : Int), rfl, by omega, by omega, fun L nL => lc_it (walk_range (lo := 0) (n := m)) (fun i G => ∃ ls : List (List Nat), G L = some (.lst (ls.map txV)) ∧ ls.length = i ∧ (∀ l ∈ ls, l.length = 1 ∧ Cod l) ∧ BagC K G b c ns ∧ But b H3 G) ⟨[], upd_same, rfl, fun l hl => absurd hl (by simp), B4.fresh nL, But.of (same_upd nL)⟩ (fun _ _ _ _ => trivial) ?_ ?_⟩
    · rintro n x G1 G2 hi ⟨ls, gL, hl, ho, BG, tG⟩ ⟨rfl, rfl⟩
      refine ⟨rfl, ?_⟩
      unfold tYes
      have Lb := B4.ne nL
      refine iteT ⟨_, rfl, _, rfl, b, CHARS, c, ns, congrArg (fun z => [V.ref b, V.str z]) (S_eta _), BG, by decide +kernel, by decide +kernel, fun x G3 hx BG3 tG3 => ⟨_, tG3 _ _ Lb gL, ?_, ls ++ [[x]], ?_, ?_, ?_, BG3.upd (B4.off nL) Lb, ?_⟩⟩
      · rw [List.length_map, hl]
        exact small1000 (by omega)
      · rw [upd_same, List.map_append]
        rfl
      · rw [List.length_append, hl]
        rfl
      · intro l hl'
        rcases List.mem_append.mp hl' with z | z
        · exact ho l z
        · rw [List.mem_singleton.mp z]
          refine ⟨rfl, fun c' hc' => ?_⟩
          rw [List.mem_singleton.mp hc']
          have : ∀ c ∈ CHARS, c < 1114112 := by decide +kernel
          exact this x hx
      · intro p o n h
        rw [upd_ne (ne_of_none h nL)]
        exact tG3 _ _ n (tG _ _ n h)
    · rintro G ⟨ls, gL, hl, ho, BG, tG⟩
      obtain ⟨f1, f2⟩ := flat_one ho
      refine ⟨_, L, ls.map S, rfl, rfl, .inl (SqL.of (by rw [List.map_map]; exact gL)), ?_, ?_⟩
      · rw [sum_len ho, hl, List.length_map, hl]
        show m + m * 0 ≤ 16777216
        omega
      · have hpG := tG _ _ pb hp3
        refine ⟨_, rfl, _, rfl, _, rfl, _, rfl, (by show 2 ≤ sizeLine; decide), fun q1 nq1 => ⟨p, q1, _, _, rfl, rfl, same_upd nq1 _ _ hpG, upd_same, (by show 6 + 2 ≤ sizeLine; decide), fun q2 nq2 => ?_⟩⟩
        have BG1 := BG.fresh (o := .lst [.str (Txt.join (Str.ofString "") (ls.map S)), .str (Txt.join (Str.ofString "") (ls.map S))]) nq1
        refine ⟨b, q2, _, c, ns, rfl, BG1.fresh nq2, BG1.ne nq2, SqL.of upd_same, (by show 0 < 8; decide), (by show 8 < 1000; decide), fun v H' hv B' t' => ?_⟩
        have u' : But b H H' := u3.trans (t4.trans (tG.trans ((But.of (same_upd nq1)).trans ((But.of (same_upd nq2)).trans t'))))
        obtain ⟨l, rfl, hl'⟩ : ∃ l, v = txV l ∧ Name l := by
          simp only [List.append_nil, List.cons_append, List.nil_append, List.mem_cons, List.not_mem_nil, or_false] at hv
          rcases hv with rfl | rfl | rfl | rfl | rfl | rfl | rfl | rfl
          · exact name_lit _ (by decide +kernel) (by decide +kernel)
          · exact name_lit _ (by decide +kernel) (by decide +kernel)
          · exact ⟨_, congrArg V.str ej, nj⟩
          · exact name_lit _ (by decide +kernel) (by decide +kernel)
          · exact ⟨_, congrArg V.str ei, ni⟩
          · exact name_lit _ (by decide +kernel) (by decide +kernel)
          · exact ⟨_, congrArg V.str (joinE ls), by omega, f2⟩
          · exact ⟨_, congrArg V.str (joinE ls), by omega, f2⟩
        exact q l H' hl' B' u'
def LET : List Nat := (Str.ofString "abcdefghijklmnopqrstuvwxyz").cps.toList
theorem let_len : LET.length = 26 := by decide +kernel
theorem let_cod : ∀ c ∈ LET, c < 1114112 := by decide +kernel
theorem mul0 (z : Str) : MulOk z 0 ∧ Txt.mul z 0 = S [] := ⟨⟨by decide, fun h => absurd (by decide) h, fun h => absurd (by decide) h⟩, rfl⟩
theorem one_cod {x : Nat} (h : x ∈ LET) : [x].length = 1 ∧ Cod [x] := ⟨rfl, fun c hc => by rw [List.mem_singleton.mp hc]; exact let_cod x h⟩
theorem ok_names {f fD fO fS : Addr} {fd fdD fdO fdS : FuncData} {k : Nat} (F : Fun K "_law_names" "_law_names" sLawNames f fd) (D : Cal P w K mg base "_law_pull" (k + 1) ["bag", "many"] (spDrawC K) fD fdD) (O : Cal P w K mg base "_law_of" (k + 2) ["bag", "some"] (spOfC K) fO fdO) (OS : Cal P w K mg base "_law_of" (k + 2) ["bag", "some"] (spOfSC K) fS fdS)
    (b_int : mg "int" = none) (b_range : mg "range" = none) (b_len : mg "len" = none) : FnOk P w K mg base CX0 (k + 3) f fd ["bag", "many"] (spNames K) := by
  refine F.ok scLawNames (fun vs H Q E h => ?_) (fun cdv A outer s H vs Q E hr h => ?_)
  · obtain ⟨b, c, ns, rfl, _⟩ := h
    rfl
  · obtain ⟨b, c, ns, rfl, B, q⟩ := h
    refine ⟨_, (pss_cons (ps_set (i := 2) scLawNames.nd rfl (.inr rfl) pe_str)
      (pss_cons (ps_set (i := 3) scLawNames.nd rfl (.inr rfl) (pe_join pe_str (pe_lc (own := [("k", 4)]) (g := gName 4) (tt := tYes) rfl scLawNames.nd (pi_range1 rfl b_range (pa_cons (pe_call O.ok (hr.mono (by omega)) rfl O.g O.kp O.b .nil pass0 (pa_cons (pv 0) (pa_cons (pe_lst (pa_cons pe_int (pa_cons pe_int (pa_cons pe_int (pa_cons pe_int (pa_cons pe_int (pa_cons pe_int pa_nil))))))) pa_nil))) pa_nil)) (blkOk_by (own := [("k", 4)]) (N := ["bag", "many", "letters", "stem", "k", "spot", "first", "tail"]) (sc := defScope sLawNames) (by decide +kernel)) (fun _ _ _ _ _ => (pg_name (i := 4) scLawNames.nd rfl (.inl rfl) (.inr rfl))) (fun _ _ _ _ _ => pts_nil) (fun _ _ _ _ _ => (pe_call OS.ok (hr.mono (by omega)) rfl OS.g OS.kp OS.b .nil pass0 (pa_cons (pv 0) (pa_cons (pv 2) pa_nil)))))))
      (pss_cons (ps_asg (pe_tup (pa_cons (pe_call D.ok (hr.mono (by omega)) rfl D.g D.kp D.b .nil pass0 (pa_cons (pv 0) (pa_cons (pe_op op_add (pe_callB call_len rfl b_len (by decide +kernel) (pa_cons (pv 3) pa_nil)) pe_int) pa_nil))) (pa_cons (pe_call D.ok (hr.mono (by omega)) rfl D.g D.kp D.b .nil pass0 (pa_cons (pv 0) (pa_cons pe_int pa_nil))) pa_nil))) (pg_tup rfl (pgs_cons (pg_name (i := 5) scLawNames.nd rfl (.inr rfl)) (pgs_cons (pg_name (i := 6) scLawNames.nd rfl (.inr rfl)) pgs_nil))))
      (C8.pss_cut (ps_set (i := 7) scLawNames.nd rfl (.inr rfl) (pe_ifExp (PW.pt (pw_and (pt_cmpR op_eq (pe_callB call_len rfl b_len (by decide +kernel) (pa_cons (pv 3) pa_nil)) pe_int (nomark _)) (pw_and1 (pt_cmpR op_eq (pe_call D.ok (hr.mono (by omega)) rfl D.g D.kp D.b .nil pass0 (pa_cons (pv 0) (pa_cons pe_int pa_nil))) pe_int (nomark _))))) (pe_call OS.ok (hr.mono (by omega)) rfl OS.g OS.kp OS.b .nil pass0 (pa_cons (pv 0) (pa_cons (pv 2) pa_nil))) pe_str))
      (pss_one (ps_ret (pe_lc (own := [("k", 4)]) (g := gName 4) (tt := tYes) rfl scLawNames.nd (pi_range1 rfl b_range (pa_cons (pv 1) pa_nil)) (blkOk_by (own := [("k", 4)]) (N := ["bag", "many", "letters", "stem", "k", "spot", "first", "tail"]) (sc := defScope sLawNames) (by decide +kernel)) (fun _ _ _ _ _ => (pg_name (i := 4) scLawNames.nd rfl (.inl rfl) (.inr rfl))) (fun _ _ _ _ _ => pts_nil) (fun _ _ _ _ _ => (pe_op op_add_str (pe_op op_add_str (pe_op op_add_str (pe_slice C8.sl_txt (pv 3) po_none (po_some (pv 5))) (pe_ix ix_str (pv 2) (pe_op op_mod (pe_callTy call_int1 rfl b_int (by decide +kernel) (pa_cons (pe_op op_add (pv 6) (pe_op op_mulG pe_int (pv 4))) pa_nil)) pe_int) (fun _ _ => rfl))) (pe_slice C8.sl_txt (pv 3) (po_some (pv 5)) po_none)) (pe_op op_mulS (pv 7) (pe_op op_divS (pv 4) pe_int))))))))))), ?_⟩
    refine ⟨⟨_, rfl⟩, _, rfl, (by show 6 ≤ sizeLine; decide), fun p np => ⟨b, p, _, c, ns, rfl, B.fresh np, B.ne np, SqL.of upd_same, (by show 0 < 6; decide), (by show 6 < 1000; decide), fun v H1 hv B1 t1 => ?_⟩⟩
    have u1 : But b H H1 := (But.of (same_upd np)).trans t1
    obtain ⟨m, rfl, m7⟩ : ∃ m : Nat, v = .int m ∧ m ≤ 7 := by
      simp only [List.append_nil, List.mem_cons, List.not_mem_nil, or_false] at hv
      rcases hv with rfl | rfl | rfl | rfl | rfl | rfl
      · exact ⟨0, rfl, by decide⟩
      · exact ⟨0, rfl, by decide⟩
      · exact ⟨1, rfl, by decide⟩
      · exact ⟨2, rfl, by decide⟩
      · exact ⟨3, rfl, by decide⟩
      · exact ⟨7, rfl, by decide⟩
    refine ⟨(m : Int), rfl, by omega, by omega, fun L nL => lc_it (walk_range (lo := 0) (n := m)) (fun i G => ∃ ls : List (List Nat), G L = some (.lst (ls.map txV)) ∧ ls.length = i ∧ (∀ l ∈ ls, l.length = 1 ∧ Cod l) ∧ BagC K G b c ns ∧ But b H1 G) ⟨[], upd_same, rfl, fun l hl => absurd hl (by simp), B1.fresh nL, But.of (same_upd nL)⟩ (fun _ _ _ _ => trivial) ?_ ?_⟩
    · rintro n x G1 G2 hi ⟨ls, gL, hl, ho, BG, tG⟩ ⟨rfl, rfl⟩
      refine ⟨rfl, ?_⟩
      unfold tYes
      have Lb := B1.ne nL
      refine iteT ⟨_, rfl, _, rfl, b, LET, c, ns, congrArg (fun z => [V.ref b, V.str z]) (S_eta _), BG, by decide +kernel, by decide +kernel, fun x G3 hx BG3 tG3 => ⟨_, tG3 _ _ Lb gL, ?_, ls ++ [[x]], ?_, ?_, ?_, BG3.upd (B1.off nL) Lb, ?_⟩⟩
      · rw [List.length_map, hl]
        exact small1000 (by omega)
      · rw [upd_same, List.map_append]
        rfl
      · rw [List.length_append, hl]
        rfl
      · intro l hl'
        rcases List.mem_append.mp hl' with z | z
        · exact ho l z
        · rw [List.mem_singleton.mp z]
          exact one_cod hx
      · intro p o n h
        rw [upd_ne (ne_of_none h nL)]
        exact tG3 _ _ n (tG _ _ n h)
    · rintro G ⟨ls, gL, hl, ho, BG, tG⟩
      obtain ⟨f1, f2⟩ := flat_one ho
      refine ⟨_, L, ls.map S, rfl, rfl, .inl (SqL.of (by rw [List.map_map]; exact gL)), ?_, ?_⟩
      · rw [sum_len ho, hl, List.length_map, hl]
        show m + m * 0 ≤ 16777216
        omega
      rw [joinE]
      revert f1 f2
      generalize ls.flatten = st
      intro f1 f2
      have sl : st.length ≤ 7 := by omega
      refine ⟨_, rfl, _, rfl, _, _, rfl, ⟨line_of (by rw [S_len]; omega), rfl⟩, _, _, rfl, rfl, b, _, c, ns, rfl, BG, by omega, by rw [S_len]; omega, fun r H2 r0 r1 B2 t2 => ?_⟩
      rw [S_len] at r1
      obtain ⟨so, rfl⟩ : ∃ i : Nat, r = (i : Int) := ⟨r.toNat, by omega⟩
      refine ⟨_, rfl, b, 26, c, ns, rfl, B2, by decide, by decide, fun r H3 z0 z1 B3 t3 => ⟨(by show 2 ≤ sizeLine; decide), fun t nt => ?_⟩⟩
      obtain ⟨fi, rfl⟩ : ∃ i : Nat, r = (i : Int) := ⟨r.toNat, by omega⟩
      have B4 := B3.fresh (o := .tup [.int (so : Nat), .int (fi : Nat)]) nt
      have u4 : But b H (upd H3 t (.tup [.int (so : Nat), .int (fi : Nat)])) := u1.trans (tG.trans (t2.trans (t3.trans (But.of (same_upd nt)))))
      refine ⟨t, _, rfl, SqT.of upd_same, rfl, _, _, rfl, _, _, rfl, rfl, ?_⟩
      refine ⟨fun σ' H' => ∃ tl : List Nat, σ' = [some (.ref b), some (.int 2), some (.str "abcdefghijklmnopqrstuvwxyz"), some (txV st), none, some (.int (so : Nat)), some (.int (fi : Nat)), some (txV tl)] ∧ tl.length ≤ 1 ∧ BagC K H' b c ns ∧ But b H H', ?_, ?_⟩
      · refine ⟨_, rfl, _, _, rfl, ⟨line_of (by rw [S_len]; omega), rfl⟩, rfl, _, rfl, ite2 (fun h1 => ?_) (fun h1 => ?_)⟩
        · refine ⟨_, rfl, b, 2, c, ns, rfl, B4, by decide, by decide, fun r H5 r0 r1 B5 t5 => ⟨rfl, _, rfl, ite2 (fun h2 => ?_) (fun h2 => ?_)⟩⟩
          · exact ⟨_, rfl, _, rfl, b, LET, c, ns, congrArg (fun z => [V.ref b, V.str z]) (S_eta _), B5, by decide +kernel, by decide +kernel, fun x H6 hx B6 t6 => ⟨[x], rfl, Nat.le_refl 1, B6, u4.trans (t5.trans t6)⟩⟩
          · exact ⟨[], rfl, by decide, B5, u4.trans t5⟩
        · exact ⟨[], rfl, by decide, B4, u4⟩
      · rintro σ' H' ⟨tl, rfl, tll, B5, u5⟩
        refine ⟨_, rfl, 2, rfl, by decide, by decide, fun L nL => lc_it (walk_range (lo := 0) (n := 2)) (fun i G => ∃ ls : List (List Nat), G L = some (.lst (ls.map txV)) ∧ ls.length = i ∧ (∀ l ∈ ls, Name l) ∧ Same H' G) ⟨[], upd_same, rfl, fun l hl => absurd hl (by simp), same_upd nL⟩ (fun _ _ _ _ => trivial) ?_ ?_⟩
        · rintro n x G1 G2 hi ⟨ls', gL', hl', ho', sG⟩ ⟨rfl, rfl⟩
          refine ⟨rfl, ?_⟩
          unfold tYes
          have kd : ((0 : Int) + (n : Nat)).fdiv 2 = 0 := by
            have : n = 0 ∨ n = 1 := by omega
            rcases this with rfl | rfl <;> decide
          have i0 : (0 : Int) ≤ ((fi : Nat) + 7 * (0 + ((n : Nat) : Int))) % 26 := Int.emod_nonneg _ (by decide)
          have i1 : ((fi : Nat) + 7 * (0 + ((n : Nat) : Int))) % 26 < 26 := Int.emod_lt_of_pos _ (by decide)
          obtain ⟨ix, eix⟩ : ∃ ix : Nat, ((fi : Nat) + 7 * (0 + ((n : Nat) : Int))) % 26 = (ix : Nat) := ⟨(((fi : Nat) + 7 * (0 + ((n : Nat) : Int))) % 26).toNat, by omega⟩
          have hix : ix < LET.length := by rw [let_len]; omega
          have hc : LET[ix]? = some LET[ix] := List.getElem?_eq_getElem hix
          have hsl1 : Txt.slice (S st) none (some (so : Nat)) = S (st.take so) := slice_to (by omega)
          have hsl2 : Txt.slice (S st) (some (so : Nat)) none = S (st.drop so) := slice_from (by omega)
          have l1 : (st.take so).length ≤ 7 := by rw [List.length_take]; omega
          have l2 : (st.drop so).length ≤ 7 := by rw [List.length_drop]; omega
          refine iteT ⟨_, rfl, _, rfl, _, rfl, _, rfl, line_of (by rw [S_len]; omega), ?_⟩
          rw [hsl1]
          refine ⟨_, rfl, _, rfl, _, rfl, _, _, rfl, rfl, mul_left (by decide +kernel), _, _, rfl, rfl, .inl ⟨_, rfl, _, _, rfl, rfl, (by show (0 : Int) < _; decide), Str.ofString "abcdefghijklmnopqrstuvwxyz", _, LET[ix], rfl, rfl, by decide +kernel, ?_, ?_⟩⟩
          · rw [eix]
            exact atI_nat hc
          refine ⟨_, _, rfl, rfl, line_of (by rw [S_len]; show _ + 1 ≤ _; omega), _, rfl, _, rfl, _, rfl, _, rfl, line_of (by rw [S_len]; omega), ?_⟩
          rw [hsl2]
          refine ⟨_, _, rfl, rfl, ?_, _, rfl, _, rfl, _, _, rfl, rfl, ⟨by decide, by decide⟩, _, _, rfl, rfl, ?_⟩
          · rw [show (⟨#[LET[ix]]⟩ : Str) = S [LET[ix]] from rfl, S_cat, S_len, S_len]
            exact line_of (by simp; omega)
          have mm := mul0 (S tl)
          refine ⟨by rw [kd]; exact mm.1, ?_⟩
          rw [kd, mm.2]
          have et : S (st.take so) ++ (⟨#[LET[ix]]⟩ : Str) ++ S (st.drop so) ++ S [] = S (st.take so ++ [LET[ix]] ++ st.drop so) := by
            rw [show (⟨#[LET[ix]]⟩ : Str) = S [LET[ix]] from rfl, S_cat, S_cat, S_cat, List.append_nil]
          refine ⟨_, _, rfl, rfl, ?_, _, gL', ?_, ls' ++ [st.take so ++ [LET[ix]] ++ st.drop so], ?_, ?_, ?_, same_updF nL sG⟩
          · rw [show (⟨#[LET[ix]]⟩ : Str) = S [LET[ix]] from rfl, S_cat, S_cat, S_len, S_len]
            exact line_of (by simp; omega)
          · rw [List.length_map, hl']
            exact small1000 (by omega)
          · rw [upd_same, List.map_append, et]
            rfl
          · rw [List.length_append, hl']
            rfl
          · intro l hl2
            rcases List.mem_append.mp hl2 with z | z
            · exact ho' l z
            · rw [List.mem_singleton.mp z]
              refine ⟨by simp; omega, ?_⟩
              refine Cod.app (Cod.app (fun c' hc' => f2 c' (List.mem_of_mem_take hc')) (one_cod (List.getElem_mem hix)).2) (fun c' hc' => f2 c' (List.mem_of_mem_drop hc'))
        · rintro G ⟨ls', gL', hl', ho', sG⟩
          match ls', hl' with
          | [a1, a2], _ => exact q L G a1 a2 (u5.none (B5.ne nL) nL) (B5.same sG) (u5.trans (But.of sG)) gL' (ho' _ (by simp)) (ho' _ (by simp))
end
end My

set_option Elab.async false
set_option linter.all false
set_option maxRecDepth 100000
namespace My
open PySem PySem.Spec PyProof.Rows L2 SX LamX NdefX
def spAlt (K : PySem.W.Frag) : Sp := fun vs H Q _ => ∃ (b a c : Addr) (ns : List Int) (same : Bool) (es : List (List Nat)), vs = [.ref b, .ref a, .bl same] ∧ BagC K H b c ns ∧ H a = some (.lst (es.map txV)) ∧ a ≠ b ∧ (∀ e ∈ es, Name e) ∧ es.length ≤ 60 ∧
  ∀ (r : Addr) (H' : Hp) (fs : List (List Nat)), H r = none → r ≠ b → BagC K H' b c ns → But b H H' → H' r = some (.lst (fs.map txV)) → (∀ e ∈ fs, Name e) → fs.length ≤ 2 * es.length + 1 → Q (.ref r) H'
theorem cut_to (es : List (List Nat)) (n : Nat) : cutV (es.map txV) none (some (n : Nat)) = (es.take n).map txV := by
  unfold cutV
  rw [show HT.sIx (es.map txV).length 0 none = 0 from HT.sIx_none _ _, HT.sIx_nat, List.drop_zero, Nat.sub_zero, List.map_take, List.length_map]
  by_cases h : n ≤ es.length
  · rw [Nat.min_eq_left h]
  · rw [Nat.min_eq_right (by omega), List.take_of_length_le (by simp), List.take_of_length_le (by simp; omega)]
theorem cut_from (es : List (List Nat)) (n : Nat) : cutV (es.map txV) (some (n : Nat)) none = (es.drop n).map txV := by
  unfold cutV
  rw [show HT.sIx (es.map txV).length (es.map txV).length none = (es.map txV).length from HT.sIx_none _ _, HT.sIx_nat, List.map_drop, List.length_map]
  by_cases h : n ≤ es.length
  · rw [Nat.min_eq_left h, List.take_of_length_le (by simp)]
  · rw [Nat.min_eq_right (by omega), List.drop_eq_nil_of_le (by simp), List.drop_eq_nil_of_le (by simp; omega)]
    simp
section
variable {P : Program} {w : World} {K : PySem.W.Frag} {mg : Str → Option Value} {base : Heap}
theorem ok_altered {f fD fE : Addr} {fd fdD fdE : FuncData} {k : Nat} (F : Fun K "_law_altered" "_law_altered" sLawAltered f fd) (D : Cal P w K mg base "_law_pull" (k + 1) ["bag", "many"] (spDrawC K) fD fdD) (En : Cal P w K mg base "_law_entry" (k + 3) ["bag"] (spEntry K) fE fdE)
    (b_len : mg "len" = none) (b_range : mg "range" = none) : FnOk P w K mg base CX0 (k + 4) f fd ["bag", "entries", "same"] (spAlt K) := by
  refine F.ok scLawAltered (fun vs H Q E h => ?_) (fun cdv A outer s H vs Q E hr h => ?_)
  · obtain ⟨b, a, c, ns, same, es, rfl, _⟩ := h
    rfl
  · obtain ⟨b, a, c, ns, same, es, rfl, B, hA, ab, hN, n60, q⟩ := h
    refine ⟨_, (C8.pss_cut (ps_par (i := 3) (j := 4) rfl scLawAltered.nd rfl rfl (by decide) rfl rfl (pa_cons (pe_callB call_len rfl b_len (by decide +kernel) (pa_cons (pv 1) pa_nil)) (pa_cons (pe_call D.ok (hr.mono (by omega)) rfl D.g D.kp D.b .nil pass0 (pa_cons (pv 0) (pa_cons (pe_ifExp (pt_val (pv 2)) pe_int pe_int) pa_nil))) pa_nil)) rfl)
      (pss_cons (ps_if (pt_cmpR op_eq (pv 3) pe_int (nomark _)) (pss_one (ps_ret (pe_ifExp (pt_val (pv 2)) (pe_lst pa_nil) (pe_lst (pa_cons (pe_call En.ok (hr.mono (by omega)) rfl En.g En.kp En.b .nil pass0 (pa_cons (pv 0) pa_nil)) pa_nil))))) pss_nil)
      (pss_cons (ps_asg (pe_tup (pa_cons (pe_call D.ok (hr.mono (by omega)) rfl D.g D.kp D.b .nil pass0 (pa_cons (pv 0) (pa_cons (pv 3) pa_nil))) (pa_cons (pe_call D.ok (hr.mono (by omega)) rfl D.g D.kp D.b .nil pass0 (pa_cons (pv 0) (pa_cons (pv 3) pa_nil))) pa_nil))) (pg_tup rfl (pgs_cons (pg_name (i := 5) scLawAltered.nd rfl (.inr rfl)) (pgs_cons (pg_name (i := 6) scLawAltered.nd rfl (.inr rfl)) pgs_nil))))
      (pss_cons (ps_set (i := 7) scLawAltered.nd rfl (.inr rfl) (pe_call En.ok (hr.mono (by omega)) rfl En.g En.kp En.b .nil pass0 (pa_cons (pv 0) pa_nil)))
      (pss_cons (ps_if (pt_cmpR op_lt (pv 4) pe_int (nomark _)) (pss_one (ps_ret (pe_op op_cat (pe_op op_cat (pe_slice sl_list (pv 1) po_none (po_some (pv 5))) (pe_lst (pa_cons (pv 7) pa_nil))) (pe_slice sl_list (pv 1) (po_some (pe_op op_add (pv 5) pe_int)) po_none)))) pss_nil)
      (pss_cons (ps_if (pt_cmpR op_lt (pv 4) pe_int (nomark _)) (pss_one (ps_ret (pe_lc (own := [("k", 8)]) (g := gName 8) (tt := tYes) (te := tOp (rIxL K) (tVar 1) (tIf (tTest (tOp rEq (tVar 8) (tVar 5))) (tVar 6) (tIf (tTest (tOp rEq (tVar 8) (tVar 6))) (tVar 5) (tVar 8)))) rfl scLawAltered.nd (pi_range1 rfl b_range (pa_cons (pv 3) pa_nil)) (blkOk_by (own := [("k", 8)]) (N := ["bag", "entries", "same", "many", "way", "at", "to", "fresh", "k"]) (sc := defScope sLawAltered) (by decide +kernel)) (fun _ _ _ _ _ => (pg_name (i := 8) scLawAltered.nd rfl (.inl rfl) (.inr rfl))) (fun _ _ _ _ _ => pts_nil) (fun _ _ _ _ _ => (pe_ix ix_list (pv 1) (pe_ifExp (pt_cmpR op_eq (pv 8) (pv 5) (nomark _)) (pv 6) (pe_ifExp (pt_cmpR op_eq (pv 8) (pv 6) (nomark _)) (pv 5) (pv 8))) (fun _ _ => rfl)))))) pss_nil)
      (pss_cons (ps_if (pt_cmpR op_eq (pv 4) pe_int (nomark _)) (pss_one (ps_ret (pe_op op_cat (pe_slice sl_list (pv 1) po_none (po_some (pv 5))) (pe_slice sl_list (pv 1) (po_some (pe_op op_add (pv 5) pe_int)) po_none)))) pss_nil)
      (pss_cons (ps_if (pt_cmpR op_eq (pv 4) pe_int (nomark _)) (pss_one (ps_ret (pe_op op_cat (pe_op op_cat (pe_slice sl_list (pv 1) po_none (po_some (pv 5))) (pe_lst (pa_cons (pv 7) pa_nil))) (pe_slice sl_list (pv 1) (po_some (pv 5)) po_none)))) pss_nil)
      (pss_one (ps_ret (pe_ifExp (pt_cmpR op_eq (pv 4) pe_int (nomark _)) (pe_slice sl_list (pv 1) po_none (po_some (pv 5))) (pe_op op_cat (pv 1) (pe_lc (own := [("k", 8)]) (g := gName 8) (tt := tYes) rfl scLawAltered.nd (pi_range1 rfl b_range (pa_cons (pe_op op_add pe_int (pv 6)) pa_nil)) (blkOk_by (own := [("k", 8)]) (N := ["bag", "entries", "same", "many", "way", "at", "to", "fresh", "k"]) (sc := defScope sLawAltered) (by decide +kernel)) (fun _ _ _ _ _ => (pg_name (i := 8) scLawAltered.nd rfl (.inl rfl) (.inr rfl))) (fun _ _ _ _ _ => pts_nil) (fun _ _ _ _ _ => (pv 7))))))))))))))), ?_⟩
    refine ⟨fun σ' H' => ∃ way : Int, σ' = [some (.ref b), some (.ref a), some (.bl same), some (.int (es.length : Nat)), some (.int way), none, none, none, none] ∧ BagC K H' b c ns ∧ But b H H', ?_, ?_⟩
    · have el : (es.length : Nat) = ((es.map txV).length : Nat) := (List.length_map ..).symm
      refine ⟨_, rfl, _, _, rfl, .inl ⟨_, SqL.of hA, el⟩, _, rfl, _, rfl, same, rfl, ?_⟩
      cases same with
      | true => exact iteT ⟨b, 4, c, ns, rfl, B, by decide, by decide, fun r H1 _ _ B1 t1 => ⟨_, _, rfl, r, rfl, B1, t1⟩⟩
      | false => exact iteF ⟨b, 8, c, ns, rfl, B, by decide, by decide, fun r H1 _ _ B1 t1 => ⟨_, _, rfl, r, rfl, B1, t1⟩⟩
    · rintro σ' H1 ⟨way, rfl, B1, t1⟩
      have hA1 := t1 _ _ ab hA
      refine ⟨_, rfl, rfl, _, rfl, ite2 (fun h0 => ?_) (fun h0 => ?_)⟩
      · cases same with
        | true =>
          refine ⟨_, rfl, true, rfl, iteT ⟨Nat.zero_le _, fun p np => ?_⟩⟩
          exact q p _ [] (t1.none (B1.ne np) np) (B1.ne np) (B1.fresh np) (t1.trans (But.of (same_upd np))) upd_same (fun e he => absurd he (by simp)) (by simp)
        | false =>
          refine ⟨_, rfl, false, rfl, iteF ⟨_, rfl, b, c, ns, rfl, B1, fun l H2 hl B2 t2 => ⟨(by show 1 ≤ sizeLine; decide), fun p np => ?_⟩⟩⟩
          exact q p _ [l] ((t1.trans t2).none (B2.ne np) np) (B2.ne np) (B2.fresh np) ((t1.trans t2).trans (But.of (same_upd np))) upd_same (fun e he => by rw [List.mem_singleton.mp he]; exact hl) (by simp)
      · have npos : 0 < es.length := by
          apply Nat.pos_of_ne_zero
          intro z
          exact h0 (decide_eq_true (by rw [z]; rfl))
        refine ⟨_, rfl, _, rfl, b, _, c, ns, rfl, B1, by omega, by omega, fun r H2 r0 r1 B2 t2 => ?_⟩
        obtain ⟨at_, rfl⟩ : ∃ i : Nat, r = (i : Int) := ⟨r.toNat, by omega⟩
        refine ⟨_, rfl, _, rfl, b, _, c, ns, rfl, B2, by omega, by omega, fun r H3 z0 z1 B3 t3 => ⟨(by show 2 ≤ sizeLine; decide), fun t nt => ?_⟩⟩
        obtain ⟨to_, rfl⟩ : ∃ i : Nat, r = (i : Int) := ⟨r.toNat, by omega⟩
        have B4 := B3.fresh (o := .tup [.int (at_ : Nat), .int (to_ : Nat)]) nt
        have u4 : But b H (upd H3 t (.tup [.int (at_ : Nat), .int (to_ : Nat)])) := t1.trans (t2.trans (t3.trans (But.of (same_upd nt))))
        refine ⟨t, _, rfl, SqT.of upd_same, rfl, _, _, rfl, _, _, rfl, rfl, ?_⟩
        refine ⟨_, rfl, b, c, ns, rfl, B4, fun fr H5 hfr B5 t5 => ?_⟩
        have u5 := u4.trans t5
        have hA5 := u5 _ _ ab hA
        have fin : ∀ (r : Addr) (G : Hp) (fs : List (List Nat)), H5 r = none → Same H5 G → G r = some (.lst (fs.map txV)) → (∀ e ∈ fs, Name e) → fs.length ≤ 2 * es.length + 1 → Q (.ref r) G := fun r G fs hr sG hG hf hl => q r G fs (u5.none (B5.ne hr) hr) (B5.ne hr) (B5.same sG) (u5.trans (But.of sG)) hG hf hl
        have hsz : ∀ n : Nat, n ≤ 200 → n ≤ sizeLine := fun n h => line_of (by omega)
        have n1 : ∀ e ∈ es.take at_, Name e := fun e he => hN e (List.mem_of_mem_take he)
        have n2 : ∀ i, ∀ e ∈ es.drop i, Name e := fun i e he => hN e (List.mem_of_mem_drop he)
        have e1 : ((at_ : Nat) : Int) + 1 = ((at_ + 1 : Nat) : Int) := by omega
        have l1 : (es.take at_).length ≤ es.length := by rw [List.length_take]; omega
        have l2 : ∀ i, (es.drop i).length ≤ es.length := fun i => by rw [List.length_drop]; omega
        refine ⟨_, rfl, _, _, rfl, rfl, _, rfl, ite2 (fun h1 => ?_) (fun h1 => ?_)⟩
        · refine ⟨_, rfl, _, rfl, _, rfl, a, _, rfl, SqL.of hA5, fun p1 m1 => ?_⟩
          rw [cut_to]
          have s1 := same_upd (o := .lst ((es.take at_).map txV)) m1
          refine ⟨_, rfl, (by show 1 ≤ sizeLine; decide), fun p2 m2 => ?_⟩
          have s2 := s1.trans (same_upd (o := .lst [txV fr]) m2)
          refine ⟨p1, p2, _, _, rfl, rfl, same_upd m2 _ _ upd_same, upd_same, hsz _ (by simp; omega), fun p3 m3 => ?_⟩
          have s3 := s2.trans (same_upd (o := .lst ((es.take at_).map txV ++ [txV fr])) m3)
          refine ⟨_, rfl, _, rfl, _, _, rfl, rfl, _, rfl, a, _, rfl, s3.seq (SqL.of hA5), fun p4 m4 => ?_⟩
          rw [e1, cut_from]
          have s4 := s3.trans (same_upd (o := .lst ((es.drop (at_ + 1)).map txV)) m4)
          refine ⟨p3, p4, _, _, rfl, rfl, same_upd m4 _ _ upd_same, upd_same, hsz _ (by simp; omega), fun p5 m5 => ?_⟩
          refine fin p5 _ (es.take at_ ++ [fr] ++ es.drop (at_ + 1)) (s4.free m5) (s4.trans (same_upd m5)) ?_ ?_ ?_
          · rw [upd_same]
            simp
          · intro e he
            rcases List.mem_append.mp he with z | z
            · rcases List.mem_append.mp z with z | z
              · exact n1 e z
              · rw [List.mem_singleton.mp z]; exact hfr
            · exact n2 _ e z
          · have := l2 (at_ + 1)
            simp only [List.length_append, List.length_singleton]
            omega
        · refine ⟨_, rfl, _, _, rfl, rfl, _, rfl, ite2 (fun h2 => ?_) (fun h2 => ?_)⟩
          · have fsw : ∃ g : Nat → Nat, (∀ i, i < es.length → g i < es.length) ∧ ∀ i, g i = if i = at_ then to_ else if i = to_ then at_ else i := ⟨fun i => if i = at_ then to_ else if i = to_ then at_ else i, fun i hi => by
              show (if i = at_ then to_ else if i = to_ then at_ else i) < _
              split
              · omega
              · split <;> omega, fun i => rfl⟩
            obtain ⟨g, hg1, hg2⟩ := fsw
            refine ⟨_, rfl, (es.length : Int), rfl, by omega, by omega, fun L nL => lc_it (walk_range (lo := 0) (n := es.length)) (fun i G => ∃ ls : List (List Nat), G L = some (.lst (ls.map txV)) ∧ ls.length = i ∧ (∀ l ∈ ls, Name l) ∧ Same H5 G) ⟨[], upd_same, rfl, fun l hl => absurd hl (by simp), same_upd nL⟩ (fun _ _ _ _ => trivial) ?_ ?_⟩
            · rintro n x G1 G2 hi ⟨ls, gL, hl, ho, sG⟩ ⟨rfl, rfl⟩
              refine ⟨rfl, ?_⟩
              unfold tYes
              have hgn := hg1 n hi
              have fin2 : ∀ y, y = txV es[g n] → ∃ acc, G2 L = some (.lst acc) ∧ acc.length < sizeLine ∧ ∃ ls : List (List Nat), upd G2 L (.lst (acc ++ [y])) L = some (.lst (ls.map txV)) ∧ ls.length = n + 1 ∧ (∀ l ∈ ls, Name l) ∧ Same H5 (upd G2 L (.lst (acc ++ [y]))) := by
                rintro y rfl
                refine ⟨_, gL, by rw [List.length_map, hl]; exact small1000 (by omega), ls ++ [es[g n]], by rw [upd_same, List.map_append]; rfl, by rw [List.length_append, hl]; rfl, ?_, same_updF nL sG⟩
                intro l hl'
                rcases List.mem_append.mp hl' with z | z
                · exact ho l z
                · rw [List.mem_singleton.mp z]
                  exact hN _ (List.getElem_mem hgn)
              have hat : ∀ j : Nat, j = g n → atI (es.map txV) ((j : Nat) : Int) = some (txV es[g n]) := by
                rintro j rfl
                exact atI_nat (by rw [List.getElem?_map, List.getElem?_eq_getElem hgn]; rfl)
              have hd1 : ∀ j : Nat, decide (V.int (0 + ((n : Nat) : Int)) = V.int (j : Nat)) = decide (n = j) := fun j => by
                rw [show (0 : Int) + (n : Nat) = (n : Nat) by omega]
                by_cases h : n = j
                · rw [h]; simp
                · have : V.int (n : Nat) ≠ V.int (j : Nat) := fun z => h (by have := V.int.inj z; omega)
                  rw [decide_eq_false h, decide_eq_false this]
              refine iteT ⟨_, rfl, _, rfl, _, rfl, rfl, _, rfl, ?_⟩
              rw [hd1]
              refine ite2 (fun c1 => ?_) (fun c1 => ?_)
              · have c1 := of_decide_eq_true c1
                exact ⟨_, rfl, a, _, _, _, rfl, rfl, sG.seq (SqL.of hA5), hat to_ (by rw [hg2, if_pos c1]), fin2 _ rfl⟩
              · have c1 : ¬ n = at_ := fun z => c1 (decide_eq_true z)
                refine ⟨_, rfl, _, rfl, rfl, _, rfl, ?_⟩
                rw [hd1]
                refine ite2 (fun c2 => ?_) (fun c2 => ?_)
                · have c2 := of_decide_eq_true c2
                  exact ⟨_, rfl, a, _, _, _, rfl, rfl, sG.seq (SqL.of hA5), hat at_ (by rw [hg2, if_neg c1, if_pos c2]), fin2 _ rfl⟩
                · have c2 : ¬ n = to_ := fun z => c2 (decide_eq_true z)
                  exact ⟨_, rfl, a, _, _, _, rfl, rfl, sG.seq (SqL.of hA5), by rw [show (0 : Int) + (n : Nat) = (n : Nat) by omega]; exact hat n (by rw [hg2, if_neg c1, if_neg c2]), fin2 _ rfl⟩
            · rintro G ⟨ls, gL, hl, ho, sG⟩
              exact fin L G ls nL sG gL ho (by omega)
          · refine ⟨_, rfl, rfl, _, rfl, ite2 (fun h3 => ?_) (fun h3 => ?_)⟩
            · refine ⟨_, rfl, _, rfl, _, rfl, a, _, rfl, SqL.of hA5, fun p1 m1 => ?_⟩
              rw [cut_to]
              have s1 := same_upd (o := .lst ((es.take at_).map txV)) m1
              refine ⟨_, rfl, _, rfl, _, _, rfl, rfl, _, rfl, a, _, rfl, s1.seq (SqL.of hA5), fun p4 m4 => ?_⟩
              rw [e1, cut_from]
              have s4 := s1.trans (same_upd (o := .lst ((es.drop (at_ + 1)).map txV)) m4)
              refine ⟨p1, p4, _, _, rfl, rfl, same_upd m4 _ _ upd_same, upd_same, hsz _ (by simp; omega), fun p5 m5 => ?_⟩
              refine fin p5 _ (es.take at_ ++ es.drop (at_ + 1)) (s4.free m5) (s4.trans (same_upd m5)) ?_ ?_ ?_
              · rw [upd_same]
                simp
              · intro e he
                rcases List.mem_append.mp he with z | z
                · exact n1 e z
                · exact n2 _ e z
              · have := l2 (at_ + 1)
                simp only [List.length_append]
                omega
            · refine ⟨_, rfl, rfl, _, rfl, ite2 (fun h4 => ?_) (fun h4 => ?_)⟩
              · refine ⟨_, rfl, _, rfl, _, rfl, a, _, rfl, SqL.of hA5, fun p1 m1 => ?_⟩
                rw [cut_to]
                have s1 := same_upd (o := .lst ((es.take at_).map txV)) m1
                refine ⟨_, rfl, (by show 1 ≤ sizeLine; decide), fun p2 m2 => ?_⟩
                have s2 := s1.trans (same_upd (o := .lst [txV fr]) m2)
                refine ⟨p1, p2, _, _, rfl, rfl, same_upd m2 _ _ upd_same, upd_same, hsz _ (by simp; omega), fun p3 m3 => ?_⟩
                have s3 := s2.trans (same_upd (o := .lst ((es.take at_).map txV ++ [txV fr])) m3)
                refine ⟨_, rfl, _, rfl, _, rfl, a, _, rfl, s3.seq (SqL.of hA5), fun p4 m4 => ?_⟩
                rw [cut_from]
                have s4 := s3.trans (same_upd (o := .lst ((es.drop at_).map txV)) m4)
                refine ⟨p3, p4, _, _, rfl, rfl, same_upd m4 _ _ upd_same, upd_same, hsz _ (by simp; omega), fun p5 m5 => ?_⟩
                refine fin p5 _ (es.take at_ ++ [fr] ++ es.drop at_) (s4.free m5) (s4.trans (same_upd m5)) ?_ ?_ ?_
                · rw [upd_same]
                  simp
                · intro e he
                  rcases List.mem_append.mp he with z | z
                  · rcases List.mem_append.mp z with z | z
                    · exact n1 e z
                    · rw [List.mem_singleton.mp z]; exact hfr
                  · exact n2 _ e z
                · have := l2 at_
                  simp only [List.length_append, List.length_singleton]
                  omega
              · refine ⟨_, rfl, rfl, _, rfl, ite2 (fun h5 => ?_) (fun h5 => ?_)⟩
                · refine ⟨_, rfl, _, rfl, _, rfl, a, _, rfl, SqL.of hA5, fun p1 m1 => ?_⟩
                  rw [cut_to]
                  exact fin p1 _ (es.take at_) m1 (same_upd m1) upd_same n1 (by omega)
                · refine ⟨_, rfl, _, rfl, _, _, rfl, rfl, ((1 + to_ : Nat) : Int), congrArg (fun z => [V.int z]) (by omega), by omega, by omega, fun L nL => lc_it (walk_range (lo := 0) (n := 1 + to_)) (fun i G => ∃ ls : List (List Nat), G L = some (.lst (ls.map txV)) ∧ ls.length = i ∧ (∀ l ∈ ls, Name l) ∧ Same H5 G) ⟨[], upd_same, rfl, fun l hl => absurd hl (by simp), same_upd nL⟩ (fun _ _ _ _ => trivial) ?_ ?_⟩
                  · rintro n x G1 G2 hi ⟨ls, gL, hl, ho, sG⟩ ⟨rfl, rfl⟩
                    refine ⟨rfl, ?_⟩
                    unfold tYes
                    refine iteT ⟨_, rfl, _, gL, by rw [List.length_map, hl]; exact small1000 (by omega), ls ++ [fr], by rw [upd_same, List.map_append]; rfl, by rw [List.length_append, hl]; rfl, ?_, same_updF nL sG⟩
                    intro l hl'
                    rcases List.mem_append.mp hl' with z | z
                    · exact ho l z
                    · rw [List.mem_singleton.mp z]
                      exact hfr
                  · rintro G ⟨ls, gL, hl, ho, sG⟩
                    refine ⟨a, L, _, _, rfl, rfl, sG _ _ hA5, gL, hsz _ (by simp; omega), fun p5 m5 => ?_⟩
                    refine fin p5 _ (es ++ ls) (sG.free m5) (sG.trans (same_upd m5)) ?_ ?_ ?_
                    · rw [upd_same]
                      simp
                    · intro e he
                      rcases List.mem_append.mp he with z | z
                      · exact hN e z
                      · exact ho e z
                    · simp only [List.length_append]
                      omega
end
end My

set_option Elab.async false
set_option linter.all false
set_option maxRecDepth 100000
namespace My
open PySem SX
theorem stretch_none {sp : Spec} {p : List Nat} {es fs : List (List Nat)} : stretchL sp p es fs = none ↔ (es.length = fs.length ∧ hdL sp p es es.length = hdL sp p fs fs.length ∧ stonesL sp p es = stonesL sp p fs) := by
  unfold stretchL
  constructor
  · intro h
    apply Classical.byContradiction
    intro hn
    rw [if_neg hn] at h
    split at h <;> cases h
  · intro h
    rw [if_pos h]
theorem stretch_self (sp : Spec) (p : List Nat) (es : List (List Nat)) : stretchL sp p es es = none := stretch_none.mpr ⟨rfl, rfl, rfl⟩
theorem hd_congr {sp : Spec} {p : List Nat} {es fs : List (List Nat)} {n : Nat} (h : es.take n = fs.take n) : hdL sp p es n = hdL sp p fs n := by
  unfold hdL
  rw [h]
theorem hd_inj {p : List Nat} {es fs : List (List Nat)} : ∀ n, n ≤ es.length → n ≤ fs.length → hdL .whole p es n = hdL .whole p fs n → es.take n = fs.take n
  | 0, _, _, _ => by simp
  | n + 1, h1, h2, h => by
    have e1 : es[n]? = some es[n] := List.getElem?_eq_getElem (by omega)
    have e2 : fs[n]? = some fs[n] := List.getElem?_eq_getElem (by omega)
    rw [hd_succ _ _ _ _ _ e1, hd_succ _ _ _ _ _ e2] at h
    obtain ⟨q1, q2⟩ := chain_inj (show chainL _ _ = chainL _ _ from h)
    rw [List.take_add_one, List.take_add_one, e1, e2, hd_inj n (by omega) (by omega) q1, q2]
theorem take_block {es fs : List (List Nat)} {a b : Nat} (h1 : es.take a = fs.take a) (h2 : (es.drop a).take b = (fs.drop a).take b) : es.take (a + b) = fs.take (a + b) := by
  rw [List.take_add, List.take_add, h1, h2]
theorem whole_parts {p : List Nat} {es fs : List (List Nat)} (hne : fs ≠ es) : ∃ lo hi, stretchL .whole p es fs = some (lo, hi) ∧ (fs.drop lo).take (hi - lo) ≠ (es.drop lo).take (hi - lo) := by
  have hn : ¬ (es.length = fs.length ∧ hdL .whole p es es.length = hdL .whole p fs fs.length ∧ stonesL .whole p es = stonesL .whole p fs) := by
    rintro ⟨h1, h2, _⟩
    rw [← h1] at h2
    have := hd_inj es.length (Nat.le_refl _) (by omega) h2
    rw [List.take_length, h1, List.take_length] at this
    exact hne this.symm
  unfold stretchL
  rw [if_neg hn]
  -- where the heads agree up to a mile, so do the lists
  have base : ∀ j, 4 * j ≤ min es.length fs.length → (∀ i, i < j → hdL .whole p es (4 * i + 4) = hdL .whole p fs (4 * i + 4)) → es.take (4 * j) = fs.take (4 * j) := by
    intro j hj hi
    cases j with
    | zero => simp
    | succ j => exact hd_inj _ (by omega) (by omega) (hi j (by omega))
  cases e : (List.range (min es.length fs.length / 4)).find? (fun j => decide (hdL .whole p es (4 * j + 4) ≠ hdL .whole p fs (4 * j + 4))) with
  | some j =>
    rw [List.find?_range_eq_some] at e
    obtain ⟨h1, h2, h3⟩ := e
    have h1 := of_decide_eq_true h1
    have h2 := List.mem_range.mp h2
    refine ⟨_, _, rfl, fun z => h1 ?_⟩
    rw [show 4 * j + 4 - 4 * j = 4 by omega] at z
    exact hd_congr (take_block (base j (by omega) fun i hi => by simpa using h3 i hi) z.symm)
  | none =>
    rw [List.find?_range_eq_none] at e
    refine ⟨_, _, rfl, fun z => hne ?_⟩
    have hb := base (min es.length fs.length / 4) (by omega) fun i hi => by simpa using e i hi
    rw [List.take_of_length_le (by rw [List.length_drop]; omega), List.take_of_length_le (by rw [List.length_drop]; omega)] at z
    rw [Nat.mul_comm] at hb
    have e1 : fs.take (min es.length fs.length / 4 * 4) ++ fs.drop (min es.length fs.length / 4 * 4) = es.take (min es.length fs.length / 4 * 4) ++ es.drop (min es.length fs.length / 4 * 4) := by rw [z, hb]
    rw [List.take_append_drop, List.take_append_drop] at e1
    exact e1
end My

set_option Elab.async false
set_option linter.all false
set_option maxRecDepth 100000
namespace My
open PySem PySem.Spec PyProof.Rows L2 SX LamX NdefX
/-! ### the law's world: all but the bag and the tables stays -/
def Kp (b : Addr) (G G' : Hp) : Prop := ∀ p o, p ≠ b → (∀ ps, o ≠ .tbl ps) → G p = some o → G' p = some o
theorem Kp.but {b : Addr} {G G' : Hp} (t : But b G G') : Kp b G G' := fun p o n _ h => t p o n h
theorem Kp.ext {b : Addr} {G G' : Hp} (t : ExtN G G') : Kp b G G' := fun p o _ n h => t p o h n
theorem Kp.same {b : Addr} {G G' : Hp} (t : Same G G') : Kp b G G' := fun p o _ _ h => t p o h
theorem Kp.trans {b : Addr} {G G1 G2 : Hp} (x : Kp b G G1) (y : Kp b G1 G2) : Kp b G G2 := fun p o n t h => y p o n t (x p o n t h)
theorem BagC.ext {K : PySem.W.Frag} {H H' : Hp} {b c : Addr} {ns : List Int} (h : BagC K H b c ns) (s : ExtN H H') : BagC K H' b c ns := by
  obtain ⟨i, g, x, m, B⟩ := h
  refine ⟨i, g, x, m, s _ _ B.ob (fun _ z => by cases z), ?_, B.cb, B.hi, B.x0, B.x1⟩
  rcases B.sq with (z | ⟨o, z⟩) | z
  · exact .inl (.inl (s _ _ z (fun _ z => by cases z)))
  · exact .inl (.inr ⟨o, s _ _ z (fun _ z => by cases z)⟩)
  · exact .inr z
theorem BagC.ob {K : PySem.W.Frag} {H : Hp} {b c : Addr} {ns : List Int} (h : BagC K H b c ns) : ∃ xs, H b = some (.lst (.ref c :: xs)) := by
  obtain ⟨i, g, x, m, B⟩ := h
  exact ⟨_, B.ob⟩
theorem BagC.neT {K : PySem.W.Frag} {H : Hp} {b c p : Addr} {ns : List Int} {es : List (List Nat)} (h : BagC K H b c ns) (e : H p = some (.lst (es.map txV))) : p ≠ b := by
  obtain ⟨i, g, x, m, B⟩ := h
  intro z
  rw [z, B.ob] at e
  cases es with
  | nil => cases e
  | cons a es => cases e
theorem BagC.neO {K : PySem.W.Frag} {H : Hp} {b c p : Addr} {ns : List Int} {o : HO} (h : BagC K H b c ns) (e : H p = some o) (n : ∀ xs, o ≠ .lst xs) : p ≠ b := by
  obtain ⟨i, g, x, m, B⟩ := h
  exact ne_of e B.ob (n _)
theorem Kp.sqt {K : PySem.W.Frag} {b c p : Addr} {ns : List Int} {G G' : Hp} {xs : List V} (k : Kp b G G') (B : BagC K G b c ns) (s : SqT K G p xs) : SqT K G' p xs := by
  rcases s with (s | ⟨o, s⟩) | s
  · exact .inl (.inl (k _ _ (B.neO s (fun _ z => by cases z)) (fun _ z => by cases z) s))
  · exact .inl (.inr ⟨o, k _ _ (B.neO s (fun _ z => by cases z)) (fun _ z => by cases z) s⟩)
  · exact .inr s
theorem Kp.lst {K : PySem.W.Frag} {b c p : Addr} {ns : List Int} {G G' : Hp} {es : List (List Nat)} (k : Kp b G G') (B : BagC K G b c ns) (s : G p = some (.lst (es.map txV))) : G' p = some (.lst (es.map txV)) := k _ _ (B.neT s) (fun _ z => by cases z) s
theorem Kp.seal {K : PySem.W.Frag} {C : SealC} {b c p : Addr} {ns : List Int} {G G' : Hp} {sp : Spec} (k : Kp b G G') (B : BagC K G b c ns) (s : SealAt C G p sp) : SealAt C G' p sp := by
  have ki : ∀ {p C dx fs}, G p = some (.ins C dx fs) → G' p = some (.ins C dx fs) := fun h => k _ _ (B.neO h (fun _ z => by cases z)) (fun _ z => by cases z) h
  have ke : ∀ {p φ}, G p = some (.ext φ) → G' p = some (.ext φ) := fun h => k _ _ (B.neO h (fun _ z => by cases z)) (fun _ z => by cases z) h
  cases sp with
  | made m => obtain ⟨dx, h⟩ := s; exact ⟨dx, ki h⟩
  | own n =>
    obtain ⟨dx, f, h, cl, c1, c2, h1, h2, h3, h4, h5⟩ := s
    exact ⟨dx, f, ki h, cl, c1, c2, ke h1, h2, h3, ke h4, ke h5⟩
  | whole => obtain ⟨dx, h⟩ := s; exact ⟨dx, ki h⟩
  | flat => obtain ⟨dx, h⟩ := s; exact ⟨dx, ki h⟩
theorem Kp.clo {K : PySem.W.Frag} {C b c p : Addr} {ns : List Int} {G G' : Hp} {sp : Spec} {pl : List Nat} {es : List (List Nat)} (k : Kp b G G') (B : BagC K G b c ns) (s : ClosingAt K C G p sp pl es) : ClosingAt K C G' p sp pl es := by
  obtain ⟨dx, t, h1, h2⟩ := s
  exact ⟨dx, t, k _ _ (B.neO h1 (fun _ z => by cases z)) (fun _ z => by cases z) h1, k.sqt B h2⟩
theorem But.tab {K : PySem.W.Frag} {b c P : Addr} {ns : List Int} {G G' : Hp} {q : Str} (k : But b G G') (B : BagC K G b c ns) (s : TabS G P q) : TabS G' P q := by
  obtain ⟨ps, h1, h2, h3⟩ := s
  refine ⟨ps, k _ _ (B.neO h1 (fun _ z => by cases z)) h1, h2, fun pos cv hc => ?_⟩
  obtain ⟨c', e1, e2⟩ := h3 pos cv hc
  exact ⟨c', e1, k _ _ (B.neO e2 (fun xs z => by unfold CodeO at z; cases z)) e2⟩
theorem OptV.kp {K : PySem.W.Frag} {b c : Addr} {ns : List Int} {G G' : Hp} {v : V} {o : Option (Nat × Nat)} (k : Kp b G G') (B : BagC K G b c ns) (h : OptV K G v o) : OptV K G' v o := by
  cases o with
  | none => exact h
  | some z => obtain ⟨t, e, h⟩ := h; exact ⟨t, e, k.sqt B h⟩
/-- the bag, the table, the spec's tuple, the entries, their heads, the seal -/
structure LW (K : PySem.W.Frag) (CS : SealC) (b c P t e h md : Addr) (ns : List Int) (sp : Spec) (p : List Nat) (es : List (List Nat)) (G : Hp) : Prop where
  bag : BagC K G b c ns
  tab : TabS G P lamQ
  spc : SqT K G t (specV sp)
  ent : G e = some (.lst (es.map txV))
  hds : G h = some (.lst ((headsL sp p es).map txV))
  sl : SealAt CS G md sp
section
variable {K : PySem.W.Frag} {CS : SealC} {b c P t e h md : Addr} {ns : List Int} {sp : Spec} {p : List Nat} {es : List (List Nat)} {G G' : Hp}
theorem LW.keep (L : LW K CS b c P t e h md ns sp p es G) (k : Kp b G G') (B : BagC K G' b c ns) (T : TabS G' P lamQ) : LW K CS b c P t e h md ns sp p es G' :=
  ⟨B, T, k.sqt L.bag L.spc, k.lst L.bag L.ent, k.lst L.bag L.hds, k.seal L.bag L.sl⟩
theorem LW.same (L : LW K CS b c P t e h md ns sp p es G) (s : Same G G') : LW K CS b c P t e h md ns sp p es G' := L.keep (Kp.same s) (L.bag.same s) (L.tab.ext s)
theorem LW.but (L : LW K CS b c P t e h md ns sp p es G) (s : But b G G') (B : BagC K G' b c ns) : LW K CS b c P t e h md ns sp p es G' := L.keep (Kp.but s) B (s.tab L.bag L.tab)
theorem LW.ext (L : LW K CS b c P t e h md ns sp p es G) (s : ExtN G G') (T : TabS G' P lamQ) : LW K CS b c P t e h md ns sp p es G' := L.keep (Kp.ext s) (L.bag.ext s) T
end
/-! ### what is alike -/
theorem lk_opt {K : PySem.W.Frag} {H : Hp} {v w : V} {o : Option (Nat × Nat)} (h : OptV K H v o) (h' : OptV K H w o) : Lk K H 2 v w := by
  cases o with
  | none =>
    rw [show v = .non from h, show w = .non from h']
    exact Lk.flat rfl trivial
  | some z =>
    obtain ⟨t, rfl, ht⟩ := h
    obtain ⟨u, rfl, hu⟩ := h'
    refine .inr ⟨t, u, _, _, rfl, rfl, .inr ⟨ht, hu⟩, rfl, (by show 2 < 1000; decide), fun i x y hx hy => ?_⟩
    rw [hx] at hy
    cases hy
    refine Lk.flat rfl ?_
    have := List.mem_of_getElem? hx
    simp only [List.mem_cons, List.not_mem_nil, or_false] at this
    rcases this with rfl | rfl <;> trivial
theorem lk_tx {K : PySem.W.Frag} {H : Hp} {a a' : Addr} {es : List (List Nat)} (hl : es.length < 1000) (h : SqL K H a (es.map txV)) (h' : SqL K H a' (es.map txV)) : Lk K H 2 (.ref a) (.ref a') := by
  refine .inr ⟨a, a', _, _, rfl, rfl, .inl ⟨h, h'⟩, rfl, by rw [List.length_map]; exact hl, fun i x y hx hy => ?_⟩
  rw [hx] at hy
  cases hy
  obtain ⟨e, _, rfl⟩ := at_tx hx
  exact Lk.flat rfl trivial
theorem eq_lst (es fs : List (List Nat)) : PyData.eqv (.list (es.map pdS)) (.list (fs.map pdS)) = decide (es = fs) := eqv_tx es fs
theorem cut_mid (es : List (List Nat)) (lo hi : Nat) : cutV (es.map txV) (some (lo : Nat)) (some (hi : Nat)) = ((es.drop lo).take (hi - lo)).map txV := by
  unfold cutV
  rw [HT.sIx_nat, HT.sIx_nat, List.length_map, ← List.map_drop, ← List.map_take]
  congr 1
  by_cases h : lo ≤ es.length
  · rw [Nat.min_eq_left h]
    by_cases h2 : hi ≤ es.length
    · rw [Nat.min_eq_left h2]
    · rw [Nat.min_eq_right (by omega), List.take_of_length_le (by rw [List.length_drop]; omega), List.take_of_length_le (by rw [List.length_drop]; omega)]
  · rw [Nat.min_eq_right (by omega : es.length ≤ lo), List.drop_eq_nil_of_le (Nat.le_refl es.length), List.drop_eq_nil_of_le (by omega : es.length ≤ lo)]
    simp
theorem cod_mid {es : List (List Nat)} (h : ∀ e ∈ es, Name e) (lo n : Nat) : ∀ l ∈ (es.drop lo).take n, Cod l := fun l hl => (h l (List.mem_of_mem_drop (List.mem_of_mem_take hl))).cod
theorem opt_non {K : PySem.W.Frag} {H : Hp} {v : V} {o : Option (Nat × Nat)} (h : OptV K H v o) : v = .non ↔ o = none := by
  cases o with
  | none => exact ⟨fun _ => rfl, fun _ => h⟩
  | some z =>
    obtain ⟨t, rfl, _⟩ := h
    exact ⟨fun z => (by cases z), fun z => (by cases z)⟩
theorem clo_opt {K : PySem.W.Frag} {H : Hp} {v : V} {sp : Spec} {p : List Nat} {es fs : List (List Nat)} (h : OptV K H v (stretchL sp p es fs)) : decide (v = .non) = cloEq sp p p fs es := by
  have e : cloEq sp p p fs es = true ↔ v = .non := by
    rw [opt_non h, stretch_none]
    unfold cloEq
    simp only [Bool.and_eq_true, decide_eq_true_eq, true_and]
    exact ⟨fun ⟨a, b, c⟩ => ⟨a.symm, b.symm, c.symm⟩, fun ⟨a, b, c⟩ => ⟨a.symm, b.symm, c.symm⟩⟩
  by_cases h2 : v = .non
  · rw [decide_eq_true h2, e.mpr h2]
  · rw [decide_eq_false h2]
    cases h3 : cloEq sp p p fs es with
    | false => rfl
    | true => exact absurd (e.mp h3) h2
theorem bookOk {p : List Nat} {es : List (List Nat)} (hp : Name p) (hN : ∀ e ∈ es, Name e) (hn : es.length ≤ 60) : BookOk p es := ⟨hp.cod, fun e he => (hN e he).cod, hp.len, fun e he => (hN e he).len, hn⟩
end My

set_option Elab.async false
set_option linter.all false
set_option maxRecDepth 100000
namespace My
open PySem PySem.Spec PyProof.Rows L2
/-- the list at a and the tuple at b, item by item in new pairs -/
def ItzMX (K : PySem.W.Frag) (a b : Addr) : It :=
  ⟨fun i H => ∃ (xs ys : List V) (x y : V), SqL K H a xs ∧ SqT K H b ys ∧ xs[i]? = some x ∧ ys[i]? = some y,
    fun i H v H' => ∃ T x y, v = .ref T ∧ H T = none ∧ H' = upd H T (.tup [x, y]) ∧ (∀ xs, SqL K H a xs → xs[i]? = some x) ∧ ∀ ys, SqT K H b ys → ys[i]? = some y,
    fun i H => ∃ xs ys : List V, SqL K H a xs ∧ SqT K H b ys ∧ min xs.length ys.length = i⟩
def tnMX (z TI TO i1 i2 a b : Addr) (i : Nat) (h : Heap) : Prop := IsZip h z TI TO .none ∧ IsTupOf2 h TI (.ref i1) (.ref i2) ∧ (∃ u v, IsTupOf2 h TO u v) ∧ h.IsListIter i1 a i ∧ h.IsTupleIter i2 b i
theorem turn_zipMX {P : Program} {w : World} {K : PySem.W.Frag} {elts : List Expr} {kk : Nat} {tpos : Pos} {z TI TO i1 i2 a b : Addr} (S : ZipSep2 z TI TO i1 i2 [i1, a] [i2, b]) (na : a ≠ i1) (nb : b ≠ i2) :
    Turn P w K (.Tuple elts kk tpos) (ItzMX K a b) [z, TI, TO, i1, i2] z (tnMX z TI TO i1 i2 a b) where
  mem := by simp
  obj := fun i h st c hc => by
    obtain ⟨hz, ht, ⟨u, v, ho⟩, h1, h2⟩ := st
    have e' : c = z ∨ c = TI ∨ c = TO ∨ c = i1 ∨ c = i2 := by simpa using hc
    rcases e' with rfl | rfl | rfl | rfl | rfl
    · exact ⟨_, hz, fun v q => nomatch q⟩
    · exact ⟨_, ht, fun v q => nomatch q⟩
    · exact ⟨_, ho, fun v q => nomatch q⟩
    · obtain ⟨o1, e1, _, d1⟩ := h1
      exact ⟨o1, e1, fun v q => by rw [d1] at q; cases q⟩
    · obtain ⟨o2, e2, _, d2⟩ := h2
      exact ⟨o2, e2, fun v q => by rw [d2] at q; cases q⟩
  keep := fun i h h' st k => by
    obtain ⟨hz, ht, ⟨u, v, ho⟩, h1, h2⟩ := st
    exact ⟨k z (by simp) _ hz, k TI (by simp) _ ht, ⟨u, v, k TO (by simp) _ ho⟩, h1.at fun o q => k i1 (by simp) o q, h2.at fun o q => k i2 (by simp) o q⟩
  item := by
    intro X hP hw hK hc i pins s σ H E I hf st hg
    subst hP hw hK
    obtain ⟨hz, ht, ho, h1, h2⟩ := st
    obtain ⟨xs, ys, x, y, qx, qy, ex, ey⟩ := hg
    obtain ⟨us, rx, px, _⟩ := I.list qx
    obtain ⟨vs, ry, py, _⟩ := I.tuple qy
    obtain ⟨u, eu, ru⟩ := rx.get ex
    obtain ⟨v, ev, rv⟩ := ry.get ey
    have hd : X.A.in1.handled = none := by simp [I.ok.hd hc]
    have lx : i < us.toArray.size := by rw [List.size_toArray]; exact (List.getElem?_eq_some_iff.mp eu).1
    have ly : i < vs.toArray.size := by rw [List.size_toArray]; exact (List.getElem?_eq_some_iff.mp ev).1
    have W := GoesN.zip2 (prog := X.prog) (w := X.w) (A := X.A) (elts := elts) (x1 := kk) (pos := tpos) S (Draws.list hd i1 a na us.toArray) (Draws.tuple hd i2 b nb vs.toArray)
    refine W.goes i s _ E (by omega) ⟨hz, ht, ho, ⟨h1, px.isList⟩, ⟨h2, py⟩⟩ fun v' h' tk hy st' kp tkl => ?_
    obtain ⟨T, u', w', rfl, hT, p1, p2, it⟩ := hy
    have eu' : u' = u := by
      have p1' : us[i]? = some u' := by simpa using p1
      exact Option.some.inj (p1'.symm.trans eu)
    have ev' : w' = v := by
      have p2' : vs[i]? = some w' := by simpa using p2
      exact Option.some.inj (p2'.symm.trans ev)
    subst eu' ev'
    obtain ⟨gz, gt, go, ⟨g1, _⟩, ⟨g2, _⟩⟩ := st'
    have new : ObjOk X.prog X.w (upd H T (.tup [x, y])) h' T (.tup [x, y]) := ⟨by show 2 ≤ sizeLine; decide, [u', w'], .cons ru (.cons rv .nil), it⟩
    have hn : H T = none := I.hok.fresh hT
    have I1 : Inv X pins σ (upd H T (.tup [x, y])) { s with heap := h', toks := tk } :=
      I.turnedNew (t' := tk) (ch := [z, TO, i1, i2]) (fun c o hb q => kp c o hb q) (fun c hc' => hf c (by
        have e' : c = z ∨ c = TO ∨ c = i1 ∨ c = i2 := by simpa using hc'
        rcases e' with rfl | rfl | rfl | rfl <;> simp)) hT new
    refine ⟨.ref T, _, I1, rfl, ⟨T, x, y, rfl, hn, rfl, fun l hl => by rw [I.list_inj hl qx]; exact ex, fun l hl => by rw [I.tuple_inj hl qy]; exact ey⟩, ⟨gz, gt, go, g1, g2⟩, fun c hcm => ?_⟩
    obtain ⟨oc, eo, _⟩ : ∃ o, s.heap.get? c = some o ∧ ∀ v, o.data ≠ .cell v := by
      obtain ⟨u0, v0, ho⟩ := ho
      have e' : c = z ∨ c = TI ∨ c = TO ∨ c = i1 ∨ c = i2 := by simpa using hcm
      rcases e' with rfl | rfl | rfl | rfl | rfl
      · exact ⟨_, hz, fun v q => nomatch q⟩
      · exact ⟨_, ht, fun v q => nomatch q⟩
      · exact ⟨_, ho, fun v q => nomatch q⟩
      · obtain ⟨o1, e1, _, d1⟩ := h1
        exact ⟨o1, e1, fun v q => by rw [d1] at q; cases q⟩
      · obtain ⟨o2, e2, _, d2⟩ := h2
        exact ⟨o2, e2, fun v q => by rw [d2] at q; cases q⟩
    have lt1 := Heap.lt_size eo
    rw [upd_ne (Nat.ne_of_lt (Nat.lt_of_lt_of_le lt1 hT))]
    exact (hf c hcm).1
  done := by
    intro X hP hw hK hc i pins s σ H E I hf st hg
    subst hP hw hK
    obtain ⟨hz, ht, ho, h1, h2⟩ := st
    obtain ⟨xs, ys, qx, qy, em0⟩ := hg
    obtain ⟨us, rx, px, _⟩ := I.list qx
    obtain ⟨vs, ry, py, _⟩ := I.tuple qy
    have hd : X.A.in1.handled = none := by simp [I.ok.hd hc]
    have lx : us.toArray.size = xs.length := by rw [List.size_toArray, ← rx.length]
    have ly : vs.toArray.size = ys.length := by rw [List.size_toArray, ← ry.length]
    have W := GoesN.zip2 (prog := X.prog) (w := X.w) (A := X.A) (elts := elts) (x1 := kk) (pos := tpos) S (Draws.list hd i1 a na us.toArray) (Draws.tuple hd i2 b nb vs.toArray)
    have em : min us.toArray.size vs.toArray.size = i := by omega
    rw [em] at W
    refine W.stops s _ E ⟨hz, ht, ho, ⟨h1, px.isList⟩, ⟨h2, py⟩⟩ fun h' tk kp tkl => ?_
    exact I.turnedL (t' := tk) (ch := [z, TO, i1, i2]) (fun c o hb q => kp c o hb q) (fun c hc' => hf c (by
        have e' : c = z ∨ c = TO ∨ c = i1 ∨ c = i2 := by simpa using hc'
        rcases e' with rfl | rfl | rfl | rfl <;> simp))
  self := fun A i s Q E st h => wpAny_pyIter_zip st.1 h
def iZipMX (K : PySem.W.Frag) (ta : TA) : L2.TI := fun σ H R => ta σ H fun vs H1 => ∃ a b xs ys, vs = [.ref a, .ref b] ∧ SqL K H1 a xs ∧ SqT K H1 b ys ∧ R (ItzMX K a b) H1
/-- zip of a list and a tuple -/
theorem pi_zipMX {X : Cx} {e e2 : Expr} {ta : TA} {p pos tpos : Pos} {elts : List Expr} {kk : Nat} (hg : Gl X "zip") (hm : X.mg "zip" = none) (ha : PA X [e, e2] ta)
    (hs : starEach [e, e2] X.env = (false, eval e X.env) :: starEach [e2] X.env := by rfl) (hpl : (backTo pos (starEach [e2] X.env)).any (·.1) = false := by rfl) :
    PI X (.Tuple elts kk tpos) (.Call (.Name "zip" p) [e, e2] [] pos) (iZipMX X.K ta) := by
  refine ⟨fun pins s σ H R I h => Call_ (ld_blt I hg hm PyProof.Rows.boot_zip (callWith_type1 (thn (ha.run pos pins s σ H _ I h) fun us s1 ⟨vs, H1, I1, r1, q1⟩ => ?_) hs hpl))⟩
  obtain ⟨a, b, xs, ys, ex, qx, qy, q⟩ := q1
  subst ex
  cases r1 with
  | cons r rr => cases rr with
    | cons r' rr =>
      cases rr; cases r; cases r'
      obtain ⟨us, rx, px, _⟩ := I1.list qx
      obtain ⟨ws, ry, py, _⟩ := I1.tuple qy
      have la : a < s1.heap.objs.size := by obtain ⟨o, e, _⟩ := px.isList; exact Heap.lt_size e
      have lb : b < s1.heap.objs.size := by obtain ⟨o, e, _⟩ := py; exact Heap.lt_size e
      refine zip_begins2 (begins_list a us.toArray) (begins_tuple b ws.toArray) px.isList py fun g hz ht ho g1 g2 sz kp => wpAny_pyIter_zip hz ?_
      have I2 : Inv X pins σ H1 { s1 with heap := g } := I1.kept (t' := s1.toks) kp
      refine ⟨_, [s1.heap.objs.size + 4, s1.heap.objs.size + 2, s1.heap.objs.size + 3, s1.heap.objs.size, s1.heap.objs.size + 1], _, _, H1, rfl, I2, turn_zipMX (a := a) (b := b) (zip_sep2 (N := s1.heap.objs.size) (fp1 := [a]) (fp2 := [b]) (fun c hc => by rw [List.mem_singleton.mp hc]; exact la) (fun c hc => by rw [List.mem_singleton.mp hc]; exact lb)) (Nat.ne_of_lt la) (Nat.ne_of_lt (Nat.lt_succ_of_lt lb)), ⟨hz, ht, ⟨_, _, ho⟩, ⟨_, g1, rfl, rfl⟩, ⟨_, g2, rfl, rfl⟩⟩, fun c hc => ?_, q⟩
      have le : s1.heap.objs.size ≤ c := by
        have e' : c = s1.heap.objs.size + 4 ∨ c = s1.heap.objs.size + 2 ∨ c = s1.heap.objs.size + 3 ∨ c = s1.heap.objs.size ∨ c = s1.heap.objs.size + 1 := by simpa using hc
        rcases e' with z | z | z | z | z
        · rw [z]; exact Nat.le_add_right _ _
        · rw [z]; exact Nat.le_add_right _ _
        · rw [z]; exact Nat.le_add_right _ _
        · rw [z]; exact Nat.le_refl _
        · rw [z]; exact Nat.le_add_right _ _
      exact I1.fpOk le (I1.hok.fresh le)
theorem walk_zipMX {K : PySem.W.Frag} {a b : Addr} {xs ys : List V} {n : Nat} (hn : n = min xs.length ys.length) : Walk (ItzMX K a b) n (fun H => SqL K H a xs ∧ SqT K H b ys) (YPair (fun i => xs[i]?) (fun i => ys[i]?)) := by
  subst hn
  refine ⟨fun i _ hi q => ?_, fun _ q => ⟨xs, ys, q.1, q.2, rfl⟩, fun i H v H' _ q y => ?_⟩
  · have h1 : i < xs.length := by omega
    have h2 : i < ys.length := by omega
    exact ⟨xs, ys, xs[i], ys[i], q.1, q.2, by simp [h1], by simp [h2]⟩
  · obtain ⟨T, x, z, h1, h2, h3, h4, h5⟩ := y
    exact ⟨T, x, z, h1, h2, h3, h4 xs q.1, h5 ys q.2⟩
/-- zip of a list with a list or a tuple -/
def iZipU (K : PySem.W.Frag) (ta : TA) : TI := fun σ H R => RZ.iZipA K ta σ H R ∨ iZipMX K ta σ H R
theorem pi_zipU {X : Cx} {e e2 : Expr} {ta : TA} {p pos tpos : Pos} {elts : List Expr} {kk : Nat} (hg : Gl X "zip") (hm : X.mg "zip" = none) (ha : PA X [e, e2] ta)
    (hs : starEach [e, e2] X.env = (false, eval e X.env) :: starEach [e2] X.env := by rfl) (hpl : (backTo pos (starEach [e2] X.env)).any (·.1) = false := by rfl) :
    PI X (.Tuple elts kk tpos) (.Call (.Name "zip" p) [e, e2] [] pos) (iZipU X.K ta) :=
  ⟨fun pins s σ H R I h => h.elim (fun h => (RZ.pi_zipA hg hm ha hs hpl).run pins s σ H R I h) fun h => (pi_zipMX hg hm ha hs hpl).run pins s σ H R I h⟩
end My

set_option Elab.async false
set_option linter.all false
set_option maxRecDepth 100000
namespace My
open PySem PySem.Spec PyProof.Rows L2 SX LamX NdefX
abbrev sChainedTexts : Stmt := topS 14
theorem scChainedTexts : FnScope ["heads", "entries", "head", "entry"] ["heads", "entries"] (defScope sChainedTexts) := ⟨rfl, rfl, rfl, by decide +kernel, rfl, by decide +kernel, by decide +kernel⟩
abbrev sClashOf : Stmt := topS 15
theorem scClashOf : FnScope ["place", "first", "second", "seal", "first_heads", "second_heads", "first_texts", "second_texts", "unlike", "text", "other"] ["place", "first", "second", "seal"] (defScope sClashOf) := ⟨rfl, rfl, rfl, by decide +kernel, rfl, by decide +kernel, by decide +kernel⟩
abbrev sLawSealedAt : Stmt := topS 39
theorem scLawSealedAt : FnScope ["heads", "entries", "k"] ["heads", "entries", "k"] (defScope sLawSealedAt) := ⟨rfl, rfl, rfl, by decide +kernel, rfl, by decide +kernel, by decide +kernel⟩
abbrev sLawClash : Stmt := topS 40
theorem scLawClash : FnScope ["first", "second", "heads", "others", "last", "k"] ["first", "second", "heads", "others"] (defScope sLawClash) := ⟨rfl, rfl, rfl, by decide +kernel, rfl, by decide +kernel, by decide +kernel⟩
/-! ### the clash of two lists -/
def txT (sp : Spec) (p : List Nat) (es : List (List Nat)) (i : Nat) : List Nat := chainL (hdL sp p es i) ((es[i]?).getD [])
def dif (sp : Spec) (p : List Nat) (es fs : List (List Nat)) (i : Nat) : Prop := txT sp p es i ≠ txT sp p fs i
instance {sp : Spec} {p : List Nat} {es fs : List (List Nat)} {i : Nat} : Decidable (dif sp p es fs i) := inferInstanceAs (Decidable (_ ≠ _))
/-- the last of the first n places that differ, counted from 1; 0 if there is none -/
def lastD (sp : Spec) (p : List Nat) (es fs : List (List Nat)) : Nat → Nat
  | 0 => 0
  | i + 1 => if dif sp p es fs i then i + 1 else lastD sp p es fs i
theorem lastD_yes {sp : Spec} {p : List Nat} {es fs : List (List Nat)} {i : Nat} (h : dif sp p es fs i) : lastD sp p es fs (i + 1) = i + 1 := if_pos h
theorem lastD_no {sp : Spec} {p : List Nat} {es fs : List (List Nat)} {i : Nat} (h : ¬ dif sp p es fs i) : lastD sp p es fs (i + 1) = lastD sp p es fs i := if_neg h
theorem lastD_le {sp : Spec} {p : List Nat} {es fs : List (List Nat)} : ∀ n, lastD sp p es fs n ≤ n
  | 0 => Nat.le_refl _
  | n + 1 => by
    have := lastD_le (sp := sp) (p := p) (es := es) (fs := fs) n
    by_cases h : dif sp p es fs n
    · rw [lastD_yes h]
      exact Nat.le_refl _
    · rw [lastD_no h]
      omega
theorem lastD_at {sp : Spec} {p : List Nat} {es fs : List (List Nat)} : ∀ n, (0 < lastD sp p es fs n → dif sp p es fs (lastD sp p es fs n - 1)) ∧ ∀ j, lastD sp p es fs n ≤ j → j < n → ¬ dif sp p es fs j
  | 0 => ⟨fun h => absurd h (Nat.lt_irrefl 0), fun j _ h => absurd h (Nat.not_lt_zero j)⟩
  | n + 1 => by
    obtain ⟨h1, h2⟩ := lastD_at (sp := sp) (p := p) (es := es) (fs := fs) n
    by_cases h : dif sp p es fs n
    · rw [lastD_yes h]
      exact ⟨fun _ => h, fun j hj hj2 => absurd hj2 (by omega)⟩
    · rw [lastD_no h]
      refine ⟨h1, fun j hj hj2 => ?_⟩
      by_cases e : j = n
      · rw [e]
        exact h
      · exact h2 j hj (by omega)
theorem lastD_comm {sp : Spec} {p : List Nat} {es fs : List (List Nat)} : ∀ n, lastD sp p fs es n = lastD sp p es fs n
  | 0 => rfl
  | n + 1 => by
    have ih := lastD_comm (sp := sp) (p := p) (es := es) (fs := fs) n
    by_cases h : dif sp p es fs n
    · rw [lastD_yes h, lastD_yes (show dif sp p fs es n from fun z => h z.symm)]
    · rw [lastD_no h, lastD_no (show ¬ dif sp p fs es n from fun z => h fun y => z y.symm), ih]
theorem tx_inj {sp : Spec} {p : List Nat} {es fs : List (List Nat)} {i : Nat} (h : ¬ dif sp p es fs i) : hdL sp p es i = hdL sp p fs i ∧ (es[i]?).getD [] = (fs[i]?).getD [] :=
  chain_inj (show chainL _ _ = chainL _ _ from Classical.byContradiction fun z => h z)
theorem dif_iff {sp : Spec} {p : List Nat} {es fs : List (List Nat)} {i : Nat} {x y : List Nat} (hx : es[i]? = some x) (hy : fs[i]? = some y) : dif sp p es fs i ↔ (hdL sp p es i ≠ hdL sp p fs i ∨ x ≠ y) := by
  constructor
  · intro h
    by_cases e : hdL sp p es i = hdL sp p fs i
    · refine .inr fun z => h ?_
      unfold txT
      rw [e, hx, hy, z]
    · exact .inl e
  · intro h z
    obtain ⟨z1, z2⟩ := chain_inj (show chainL _ _ = chainL _ _ from z)
    rw [hx, hy] at z2
    rcases h with h | h
    · exact h z1
    · exact h z2
theorem lastD_pos {sp : Spec} {p : List Nat} {es fs : List (List Nat)} (hl : es.length = fs.length) (hne : es ≠ fs) : 0 < lastD sp p es fs es.length := by
  apply Classical.byContradiction
  intro z
  refine hne (List.ext_getElem hl fun i h1 h2 => ?_)
  have := (tx_inj ((lastD_at (sp := sp) (p := p) (es := es) (fs := fs) es.length).2 i (by omega) h1)).2
  rw [List.getElem?_eq_getElem h1, List.getElem?_eq_getElem h2] at this
  exact this
/-- behind the last difference the heads are alike -/
theorem lastD_hd {sp : Spec} {p : List Nat} {es fs : List (List Nat)} (hl : es.length = fs.length) (hh : hdL sp p es es.length = hdL sp p fs fs.length) : hdL sp p es (lastD sp p es fs es.length) = hdL sp p fs (lastD sp p es fs es.length) := by
  have h2 := (lastD_at (sp := sp) (p := p) (es := es) (fs := fs) es.length).2
  have hle := lastD_le (sp := sp) (p := p) (es := es) (fs := fs) es.length
  by_cases e : lastD sp p es fs es.length = es.length
  · rw [e, hh, hl]
  · exact (tx_inj (h2 _ (Nat.le_refl _) (by omega))).1
theorem hd_tx {sp : Spec} {p : List Nat} {es : List (List Nat)} {i : Nat} (h : i < es.length) : hdL sp p es (i + 1) = codeL sp (txT sp p es i) := by
  have e := List.getElem?_eq_getElem h
  rw [hd_succ sp p es i _ e]
  unfold txT stepS
  rw [e]
  rfl
def clashL (sp : Spec) (p : List Nat) (es fs : List (List Nat)) : Option (List Nat × List Nat) :=
  if es = fs ∨ es.length ≠ fs.length then none else if hdL sp p es es.length ≠ hdL sp p fs fs.length then none else some (txT sp p es (lastD sp p es fs es.length - 1), txT sp p fs (lastD sp p es fs es.length - 1))
def OptX (K : PySem.W.Frag) (H : Hp) (v : V) (o : Option (List Nat × List Nat)) : Prop := match o with
  | none => v = .non
  | some (x, y) => ∃ t, v = .ref t ∧ SqT K H t [txV x, txV y]
theorem OptX.same {K : PySem.W.Frag} {H H' : Hp} {v : V} {o : Option (List Nat × List Nat)} (h : OptX K H v o) (s : Same H H') : OptX K H' v o := by
  cases o with
  | none => exact h
  | some z => obtain ⟨t, e, h⟩ := h; exact ⟨t, e, seqT_same s h⟩
def textsTo (sp : Spec) (p : List Nat) (es : List (List Nat)) (i : Nat) : List (List Nat) := (List.range i).map (txT sp p es)
theorem textsTo_succ (sp : Spec) (p : List Nat) (es : List (List Nat)) (i : Nat) : textsTo sp p es (i + 1) = textsTo sp p es i ++ [txT sp p es i] := by
  unfold textsTo
  rw [List.range_succ, List.map_append]
  rfl
theorem textsTo_len (sp : Spec) (p : List Nat) (es : List (List Nat)) (i : Nat) : (textsTo sp p es i).length = i := by
  unfold textsTo
  rw [List.length_map, List.length_range]
theorem textsTo_at (sp : Spec) (p : List Nat) (es : List (List Nat)) {i n : Nat} (h : i < n) : (textsTo sp p es n)[i]? = some (txT sp p es i) := by
  unfold textsTo
  rw [List.getElem?_map, List.getElem?_range h]
  rfl
def spTexts (K : PySem.W.Frag) : Sp := fun vs H Q _ => ∃ (h a : Addr) (es : List (List Nat)) (sp : Spec) (p : List Nat), vs = [.ref h, .ref a] ∧ SqL K H h ((headsL sp p es).map txV) ∧ Entries K H a es ∧ SpecOk sp ∧ BookOk p es ∧ ∀ r H', H r = none → Same H H' → H' r = some (.lst ((textsTo sp p es es.length).map txV)) → Q (.ref r) H'
def spClash (K : PySem.W.Frag) (C : SealC) : Sp := fun vs H Q _ => ∃ (p : List Nat) (a d s : Addr) (es fs : List (List Nat)) (sp : Spec), vs = [txV p, .ref a, .ref d, .ref s] ∧ Entries K H a es ∧ Entries K H d fs ∧ SealAt C H s sp ∧ SpecOk sp ∧ BookOk p es ∧ BookOk p fs ∧ ∀ v H', Same H H' → OptX K H' v (clashL sp p es fs) → Q v H'
def spSealedAt (K : PySem.W.Frag) : Sp := fun vs H Q _ => ∃ (h a : Addr) (i : Nat) (es : List (List Nat)) (sp : Spec) (p : List Nat), vs = [.ref h, .ref a, .int (i : Nat)] ∧ SqL K H h ((headsL sp p es).map txV) ∧ SqL K H a (es.map txV) ∧ SpecOk sp ∧ BookOk p es ∧ i < es.length ∧ Q (txV (txT sp p es i)) H
def spLClash (K : PySem.W.Frag) : Sp := fun vs H Q _ => ∃ (a d h g : Addr) (es fs : List (List Nat)) (sp : Spec) (p : List Nat), vs = [.ref a, .ref d, .ref h, .ref g] ∧ SqL K H a (es.map txV) ∧ SqL K H d (fs.map txV) ∧ SqL K H h ((headsL sp p es).map txV) ∧ SqL K H g ((headsL sp p fs).map txV) ∧ SpecOk sp ∧ BookOk p es ∧ BookOk p fs ∧ es.length = fs.length ∧ es ≠ fs ∧
  ∀ t H', Same H H' → SqT K H' t [txV (txT sp p es (lastD sp p es fs es.length - 1)), txV (txT sp p fs (lastD sp p es fs es.length - 1))] → Q (.ref t) H'
section
variable {P : Program} {w : World} {K : PySem.W.Frag} {mg : Str → Option Value} {base : Heap}
theorem ok_texts {f fC : Addr} {fd fdC : FuncData} {k : Nat} (F : Fun K "chained_texts" "chained_texts" sChainedTexts f fd) (Ch : Cal P w K mg base "chained_text" (k + 1) ["head", "entry"] spChain fC fdC) (b_zip : mg "zip" = none) : FnOk P w K mg base CX0 (k + 2) f fd ["heads", "entries"] (spTexts K) := by
  refine F.ok scChainedTexts (fun vs H Q E h => ?_) (fun cdv A outer s H vs Q E hr h => ?_)
  · obtain ⟨h, a, es, sp, p, rfl, _⟩ := h
    rfl
  · obtain ⟨h, a, es, sp, p, rfl, hH, hA, ok, B, q⟩ := h
    refine ⟨_, (pss_one (ps_ret (pe_lc (own := [("head", 2), ("entry", 3)]) (g := gTup K 2 (gCons (gName 2) (gCons (gName 3) gNil))) (tt := tYes) rfl scChainedTexts.nd (pi_zipU rfl b_zip (pa_cons (pv 0) (pa_cons (pv 1) pa_nil))) (blkOk_by (own := [("head", 2), ("entry", 3)]) (N := ["heads", "entries", "head", "entry"]) (sc := defScope sChainedTexts) (by decide +kernel)) (fun _ _ _ _ _ => (pg_tup rfl (pgs_cons (pg_name (i := 2) scChainedTexts.nd rfl (.inl rfl) (.inr rfl)) (pgs_cons (pg_name (i := 3) scChainedTexts.nd rfl (.inl rfl) (.inr rfl)) pgs_nil)))) (fun _ _ _ _ _ => pts_nil) (fun _ _ _ _ _ => (pe_call Ch.ok (hr.mono (by omega)) rfl Ch.g Ch.kp Ch.b .nil pass0 (pa_cons (pv 2) (pa_cons (pv 3) pa_nil))))))), ?_⟩
    have hn := B.n
    have hm : es.length = min ((headsL sp p es).map txV).length (es.map txV).length := by rw [List.length_map, List.length_map, heads_len]; omega
    rcases hA with hA | hA
    · refine .inl ⟨_, rfl, _, rfl, h, a, _, _, rfl, .inl ⟨hH, hA, fun D nD => lc_it (walk_zip hm) (fun i H' => Same H H' ∧ H' D = some (.lst ((textsTo sp p es i).map txV))) ⟨same_upd nD, upd_same⟩ (fun i H' _ z => ⟨z.1.seq hH, z.1.seq hA⟩) ?_ ?_⟩⟩
      · rintro i x H1 H2 hi ⟨s1, hD⟩ ⟨T, u1, u2, rfl, nT, rfl, e1, e2⟩
        have e1 : ((headsL sp p es).map txV)[i]? = some u1 := e1
        have e2 : (es.map txV)[i]? = some u2 := e2
        have ee : es[i]? = some es[i] := List.getElem?_eq_getElem hi
        rw [List.getElem?_map, heads_at sp p es (Nat.le_of_lt hi)] at e1
        rw [List.getElem?_map, ee] at e2
        cases e1
        cases e2
        have s2 := same_upd (o := .tup [txV (hdL sp p es i), txV es[i]]) nT
        have h1 := hd_len' ok B (i := i) (by omega)
        have h2 := B.el es[i] (List.getElem_mem hi)
        refine ⟨T, _, rfl, SqT.of upd_same, rfl, _, _, rfl, _, _, rfl, rfl, rfl, ?_⟩
        unfold tYes
        refine iteT ⟨_, rfl, _, rfl, _, _, rfl, by omega, by omega, _, s2 _ _ hD, by rw [List.length_map, textsTo_len]; exact small1000 (by have := B.n; omega), same_updF nD (s1.trans s2), ?_⟩
        rw [upd_same, textsTo_succ, List.map_append]
        show some (HO.lst (_ ++ [txV (chainL (hdL sp p es i) es[i])])) = some (HO.lst (_ ++ [txV (chainL (hdL sp p es i) ((es[i]?).getD []))]))
        rw [ee]
        rfl
      · rintro H1 ⟨s1, hD⟩
        exact q D H1 nD s1 hD
    · refine .inr ⟨_, rfl, _, rfl, h, a, _, _, rfl, hH, hA, fun D nD => lc_it (walk_zipMX hm) (fun i H' => Same H H' ∧ H' D = some (.lst ((textsTo sp p es i).map txV))) ⟨same_upd nD, upd_same⟩ (fun i H' _ z => ⟨z.1.seq hH, seqT_same z.1 hA⟩) ?_ ?_⟩
      · rintro i x H1 H2 hi ⟨s1, hD⟩ ⟨T, u1, u2, rfl, nT, rfl, e1, e2⟩
        have e1 : ((headsL sp p es).map txV)[i]? = some u1 := e1
        have e2 : (es.map txV)[i]? = some u2 := e2
        have ee : es[i]? = some es[i] := List.getElem?_eq_getElem hi
        rw [List.getElem?_map, heads_at sp p es (Nat.le_of_lt hi)] at e1
        rw [List.getElem?_map, ee] at e2
        cases e1
        cases e2
        have s2 := same_upd (o := .tup [txV (hdL sp p es i), txV es[i]]) nT
        have h1 := hd_len' ok B (i := i) (by omega)
        have h2 := B.el es[i] (List.getElem_mem hi)
        refine ⟨T, _, rfl, SqT.of upd_same, rfl, _, _, rfl, _, _, rfl, rfl, rfl, ?_⟩
        unfold tYes
        refine iteT ⟨_, rfl, _, rfl, _, _, rfl, by omega, by omega, _, s2 _ _ hD, by rw [List.length_map, textsTo_len]; exact small1000 (by have := B.n; omega), same_updF nD (s1.trans s2), ?_⟩
        rw [upd_same, textsTo_succ, List.map_append]
        show some (HO.lst (_ ++ [txV (chainL (hdL sp p es i) es[i])])) = some (HO.lst (_ ++ [txV (chainL (hdL sp p es i) ((es[i]?).getD []))]))
        rw [ee]
        rfl
      · rintro H1 ⟨s1, hD⟩
        exact q D H1 nD s1 hD
theorem dec_tx (x y : List Nat) : decide (txV x = txV y) = decide (x = y) := by
  by_cases h : x = y
  · rw [h]
    simp
  · have : txV x ≠ txV y := fun z => h (S_inj (V.str.inj z))
    rw [decide_eq_false h, decide_eq_false this]
theorem atI_end {xs : List V} {v : V} (h : xs[xs.length - 1]? = some v) : atI xs (-1) = some v := by
  have h0 : 0 < xs.length := by
    cases xs with
    | nil => cases h
    | cons _ _ => exact Nat.succ_pos _
  unfold atI ixN
  rw [if_neg (by decide), if_pos (by omega)]
  show xs[((-1 : Int) + xs.length).toNat]? = some v
  rw [show ((-1 : Int) + xs.length).toNat = xs.length - 1 by omega]
  exact h
theorem ok_sealed {f : Addr} {fd : FuncData} {k : Nat} (F : Fun K "_law_sealed_at" "_law_sealed_at" sLawSealedAt f fd) (b_len : mg "len" = none) (b_str : mg "str" = none) : FnOk P w K mg base CX0 (k + 1) f fd ["heads", "entries", "k"] (spSealedAt K) := by
  refine F.ok scLawSealedAt (fun vs H Q E h => ?_) (fun cdv A outer s H vs Q E hr h => ?_)
  · obtain ⟨h, a, i, es, sp, p, rfl, _⟩ := h
    rfl
  · obtain ⟨h, a, i, es, sp, p, rfl, hH, hA, ok, B, hi, q⟩ := h
    refine ⟨_, (pss_one (ps_ret (pe_op op_add_str (pe_op op_add_str (pe_op op_add_str (pe_op op_add_str (pe_callTy call_str_int rfl b_str (by decide +kernel) (pa_cons (pe_callB call_len rfl b_len (by decide +kernel) (pa_cons (pe_ix ix_list (pv 0) (pv 2) (fun _ _ => rfl)) pa_nil)) pa_nil)) pe_str) (pe_ix ix_list (pv 0) (pv 2) (fun _ _ => rfl))) pe_str) (pe_ix ix_list (pv 1) (pv 2) (fun _ _ => rfl))))), ?_⟩
    have n2 := B.n
    have ee : es[i]? = some es[i] := List.getElem?_eq_getElem hi
    have h1 := hd_len' ok B (i := i) (by omega)
    have h2 := B.el es[i] (List.getElem_mem hi)
    have n5 := numL_len5 (n := (hdL sp p es i).length) (by omega)
    have ec : Str.ofString ":" = S [58] := by decide +kernel
    have esl : Str.ofString "/" = S [47] := by decide +kernel
    have a1 : atI ((headsL sp p es).map txV) ((i : Nat) : Int) = some (txV (hdL sp p es i)) := atI_nat (by rw [List.getElem?_map, heads_at sp p es (Nat.le_of_lt hi)]; rfl)
    have a2 : atI (es.map txV) ((i : Nat) : Int) = some (txV es[i]) := atI_nat (by rw [List.getElem?_map, ee]; rfl)
    refine ⟨_, rfl, _, rfl, h, _, _, _, rfl, rfl, hH, a1, _, _, rfl, ⟨line_of (by rw [S_len]; omega), rfl⟩, _, rfl, ?_, ?_⟩
    · rw [S_len, Int.natAbs_natCast]
      exact log10 (by omega)
    · rw [S_len, num_S]
      refine ⟨_, _, rfl, rfl, ?_, _, rfl, _, rfl, h, _, _, _, rfl, rfl, hH, a1, _, _, rfl, rfl, ?_, _, _, rfl, rfl, ?_, _, rfl, _, rfl, a, _, _, _, rfl, rfl, hA, a2, _, _, rfl, rfl, ?_, ?_⟩
      · rw [ec, S_len, S_len]
        exact line_of (by simp; omega)
      · rw [ec, S_cat, S_len, S_len]
        exact line_of (by simp; omega)
      · rw [ec, esl, S_cat, S_cat, S_len, S_len]
        exact line_of (by simp; omega)
      · rw [ec, esl, S_cat, S_cat, S_cat, S_len, S_len]
        exact line_of (by simp; omega)
      · rw [ec, esl, S_cat, S_cat, S_cat, S_cat]
        have e : TL.numL (hdL sp p es i).length ++ [58] ++ hdL sp p es i ++ [47] ++ es[i] = txT sp p es i := by
          unfold txT chainL
          rw [ee]
          simp
        rw [e]
        exact q
theorem ok_lclash {f fS : Addr} {fd fdS : FuncData} {k : Nat} (F : Fun K "_law_clash" "_law_clash" sLawClash f fd) (Sa : Cal P w K mg base "_law_sealed_at" (k + 1) ["heads", "entries", "k"] (spSealedAt K) fS fdS) (b_len : mg "len" = none) (b_range : mg "range" = none) : FnOk P w K mg base CX0 (k + 2) f fd ["first", "second", "heads", "others"] (spLClash K) := by
  refine F.ok scLawClash (fun vs H Q E h => ?_) (fun cdv A outer s H vs Q E hr h => ?_)
  · obtain ⟨a, d, h, g, es, fs, sp, p, rfl, _⟩ := h
    rfl
  · obtain ⟨a, d, h, g, es, fs, sp, p, rfl, hA, hD, hH, hG, ok, B, B', hl, hne, q⟩ := h
    have n2 := B.n
    refine ⟨_, (pss_cons (ps_setLc (i := 4) (own := [("k", 5)]) (g := gName 5) (tt := tOr (tTest (tOp rNe (tOp (rIxL K) (tVar 2) (tVar 5)) (tOp (rIxL K) (tVar 3) (tVar 5)))) (tTest (tOp rNe (tOp (rIxL K) (tVar 0) (tVar 5)) (tOp (rIxL K) (tVar 1) (tVar 5))))) rfl scLawClash.nd rfl rfl (sw_true rfl rfl rfl (by decide +kernel)) (pi_range1 rfl b_range (pa_cons (pe_callB call_len rfl b_len (by decide +kernel) (pa_cons (pv 0) pa_nil)) pa_nil)) (blkOk_by (own := [("k", 5)]) (N := ["first", "second", "heads", "others", "last", "k"]) (sc := defScope sLawClash) (by decide +kernel)) (fun _ _ _ _ _ => (pg_name (i := 5) scLawClash.nd rfl (.inl rfl) (.inr rfl))) (fun _ _ _ _ _ => (pts_one (PW.pt (pw_or (pt_cmpR op_ne (pe_ix ix_list (pv 2) (pv 5) (fun _ _ => rfl)) (pe_ix ix_list (pv 3) (pv 5) (fun _ _ => rfl)) (nomark _)) (pw_or1 (pt_cmpR op_ne (pe_ix ix_list (pv 0) (pv 5) (fun _ _ => rfl)) (pe_ix ix_list (pv 1) (pv 5) (fun _ _ => rfl)) (nomark _))))))) (fun _ _ _ _ _ => (pv 5)))
      (pss_cons (ps_set (i := 5) scLawClash.nd rfl (.inl rfl) (pe_ix ix_list (pv 4) (pe_op op_sub (pe_callB call_len rfl b_len (by decide +kernel) (pa_cons (pv 4) pa_nil)) pe_int) (fun _ _ => rfl)))
      (pss_one (ps_ret (pe_tup (pa_cons (pe_call Sa.ok (hr.mono (by omega)) rfl Sa.g Sa.kp Sa.b .nil pass0 (pa_cons (pv 2) (pa_cons (pv 0) (pa_cons (pv 5) pa_nil)))) (pa_cons (pe_call Sa.ok (hr.mono (by omega)) rfl Sa.g Sa.kp Sa.b .nil pass0 (pa_cons (pv 3) (pa_cons (pv 1) (pa_cons (pv 5) pa_nil)))) pa_nil))))))), ?_⟩
    have el : (es.map txV).length = es.length := List.length_map ..
    refine ⟨_, rfl, _, _, rfl, .inl ⟨_, hA, el.symm⟩, _, rfl, by omega, by omega, fun D nD => lc_it (walk_range (lo := 0) (n := es.length)) (fun i H' => Same H H' ∧ ∃ xs : List Nat, H' D = some (.lst (xs.map fun (x : Nat) => V.int (x : Nat))) ∧ xs.length ≤ i ∧ ((lastD sp p es fs i = 0 ∧ xs = []) ∨ (0 < lastD sp p es fs i ∧ ∃ pre, xs = pre ++ [lastD sp p es fs i - 1]))) ⟨same_upd nD, [], upd_same, Nat.le_refl _, .inl ⟨rfl, rfl⟩⟩ (fun _ _ _ _ => trivial) ?_ ?_⟩
    · rintro i x H1 H2 hi ⟨s1, xs, hx, lx, hp⟩ ⟨rfl, rfl⟩
      refine ⟨rfl, ?_⟩
      have hi' : i < fs.length := by omega
      have ee : es[i]? = some es[i] := List.getElem?_eq_getElem hi
      have ef : fs[i]? = some fs[i] := List.getElem?_eq_getElem hi'
      have e0 : (0 : Int) + ((i : Nat) : Int) = ((i : Nat) : Int) := by omega
      have a1 : atI ((headsL sp p es).map txV) ((0 : Int) + ((i : Nat) : Int)) = some (txV (hdL sp p es i)) := by
        rw [e0]
        exact atI_nat (by rw [List.getElem?_map, heads_at sp p es (Nat.le_of_lt hi)]; rfl)
      have a2 : atI ((headsL sp p fs).map txV) ((0 : Int) + ((i : Nat) : Int)) = some (txV (hdL sp p fs i)) := by
        rw [e0]
        exact atI_nat (by rw [List.getElem?_map, heads_at sp p fs (Nat.le_of_lt hi')]; rfl)
      have a3 : atI (es.map txV) ((0 : Int) + ((i : Nat) : Int)) = some (txV es[i]) := by
        rw [e0]
        exact atI_nat (by rw [List.getElem?_map, ee]; rfl)
      have a4 : atI (fs.map txV) ((0 : Int) + ((i : Nat) : Int)) = some (txV fs[i]) := by
        rw [e0]
        exact atI_nat (by rw [List.getElem?_map, ef]; rfl)
      have yes : dif sp p es fs i → ∃ acc, H2 D = some (.lst acc) ∧ acc.length < sizeLine ∧ (Same H (upd H2 D (.lst (acc ++ [.int (0 + ((i : Nat) : Int))]))) ∧ ∃ xs : List Nat, upd H2 D (.lst (acc ++ [.int (0 + ((i : Nat) : Int))])) D = some (.lst (xs.map fun (x : Nat) => V.int (x : Nat))) ∧ xs.length ≤ i + 1 ∧ ((lastD sp p es fs (i + 1) = 0 ∧ xs = []) ∨ (0 < lastD sp p es fs (i + 1) ∧ ∃ pre, xs = pre ++ [lastD sp p es fs (i + 1) - 1]))) := fun hd =>
        ⟨_, hx, by rw [List.length_map]; exact small1000 (by omega), same_updF nD s1, xs ++ [i], by rw [upd_same, List.map_append, e0]; rfl, by rw [List.length_append]; exact Nat.add_le_add_right lx 1, .inr ⟨by rw [lastD_yes hd]; omega, xs, by rw [lastD_yes hd]; rfl⟩⟩
      refine ⟨_, rfl, _, rfl, h, _, _, _, rfl, rfl, s1.seq hH, a1, _, rfl, _, rfl, g, _, _, _, rfl, rfl, s1.seq hG, a2, rfl, _, rfl, ?_⟩
      rw [dec_tx]
      by_cases e1 : hdL sp p es i = hdL sp p fs i
      · rw [decide_eq_true e1]
        refine iteF ⟨_, rfl, _, rfl, a, _, _, _, rfl, rfl, s1.seq hA, a3, _, rfl, _, rfl, d, _, _, _, rfl, rfl, s1.seq hD, a4, rfl, _, rfl, ?_⟩
        rw [dec_tx]
        by_cases e2 : es[i] = fs[i]
        · rw [decide_eq_true e2]
          have nd : ¬ dif sp p es fs i := fun z => ((dif_iff ee ef).mp z).elim (fun y => y e1) fun y => y e2
          exact iteF ⟨s1, xs, hx, by omega, by rw [lastD_no nd]; exact hp⟩
        · rw [decide_eq_false e2]
          exact iteT ⟨_, rfl, yes ((dif_iff ee ef).mpr (.inr e2))⟩
      · rw [decide_eq_false e1]
        exact iteT (iteT ⟨_, rfl, yes ((dif_iff ee ef).mpr (.inl e1))⟩)
    · rintro H1 ⟨s1, xs, hx, lx, hp⟩
      have pos := lastD_pos (sp := sp) (p := p) hl hne
      rcases hp with ⟨z, _⟩ | ⟨_, pre, rfl⟩
      · omega
      · have hle := lastD_le (sp := sp) (p := p) (es := es) (fs := fs) es.length
        rw [List.map_append] at hx
        obtain ⟨j, hj⟩ : ∃ j, lastD sp p es fs es.length = j + 1 := ⟨lastD sp p es fs es.length - 1, by omega⟩
        rw [hj, Nat.add_sub_cancel] at hx q
        have hat : atI ((pre.map fun (x : Nat) => V.int (x : Nat)) ++ [j].map fun (x : Nat) => V.int (x : Nat)) (((((pre.map fun (x : Nat) => V.int (x : Nat)) ++ [j].map fun (x : Nat) => V.int (x : Nat)).length : Nat) : Int) - 1) = some (V.int (j : Nat)) := by
          rw [List.length_append, List.length_map, show (((pre.length + ([j].map fun (x : Nat) => V.int (x : Nat)).length : Nat) : Int) - 1) = ((pre.length : Nat) : Int) by show ((pre.length + 1 : Nat) : Int) - 1 = _; omega]
          exact atI_nat (by rw [List.getElem?_append_right (by simp)]; simp)
        refine ⟨_, rfl, _, rfl, _, _, rfl, .inl ⟨_, SqL.of hx, rfl⟩, _, _, rfl, rfl, D, _, _, _, rfl, rfl, SqL.of hx, hat, ?_⟩
        refine ⟨_, rfl, _, rfl, _, rfl, h, a, j, es, sp, p, rfl, s1.seq hH, s1.seq hA, ok, B, by omega, ?_⟩
        refine ⟨_, rfl, _, rfl, _, rfl, g, d, j, fs, sp, p, rfl, s1.seq hG, s1.seq hD, ok, B', by omega, ?_⟩
        exact ⟨(by show 2 ≤ sizeLine; decide), fun u nu => q u _ (s1.trans (same_upd nu)) (SqT.of upd_same)⟩
end
end My

set_option Elab.async false
set_option linter.all false
set_option maxRecDepth 100000
namespace My
open PySem PySem.Spec PyProof.Rows L2 SX LamX NdefX
section
variable {P : Program} {w : World} {K : PySem.W.Frag} {mg : Str → Option Value} {base : Heap}
theorem ok_clash {C : SealC} {f fH fT : Addr} {fd fdH fdT : FuncData} {k : Nat} (F : Fun K "clash_of" "clash_of" sClashOf f fd) (Ho : Cal P w K mg base "heads_of" (k + 4) ["place", "entries", "seal"] (spHeads K C) fH fdH) (Cx : Cal P w K mg base "chained_texts" (k + 2) ["heads", "entries"] (spTexts K) fT fdT)
    (b_list : mg "list" = none) (b_len : mg "len" = none) (b_zip : mg "zip" = none) : FnOk P w K mg base CX0 (k + 5) f fd ["place", "first", "second", "seal"] (spClash K C) := by
  refine F.ok scClashOf (fun vs H Q E h => ?_) (fun cdv A outer s H vs Q E hr h => ?_)
  · obtain ⟨p, a, d, s, es, fs, sp, rfl, _⟩ := h
    rfl
  · obtain ⟨p, a, d, s, es, fs, sp, rfl, hA, hD, hS, ok, B, B', q⟩ := h
    have n1 := B.n
    have n2 := B'.n
    refine ⟨_, (pss_cons (ps_if (PW.pt (pw_or (pt_cmpR (op_eqD hr.units) (pe_callTy call_list_of rfl b_list (by decide +kernel) (pa_cons (pv 1) pa_nil)) (pe_callTy call_list_of rfl b_list (by decide +kernel) (pa_cons (pv 2) pa_nil)) (nomark _)) (pw_or1 (pt_cmpR op_ne (pe_callB call_len rfl b_len (by decide +kernel) (pa_cons (pv 1) pa_nil)) (pe_callB call_len rfl b_len (by decide +kernel) (pa_cons (pv 2) pa_nil)) (nomark _))))) (pss_one (ps_ret pe_non)) pss_nil)
      (pss_cons (ps_set (i := 4) scClashOf.nd rfl (.inl rfl) (pe_call Ho.ok (hr.mono (by omega)) rfl Ho.g Ho.kp Ho.b .nil pass0 (pa_cons (pv 0) (pa_cons (pv 1) (pa_cons (pv 3) pa_nil)))))
      (pss_cons (ps_set (i := 5) scClashOf.nd rfl (.inl rfl) (pe_call Ho.ok (hr.mono (by omega)) rfl Ho.g Ho.kp Ho.b .nil pass0 (pa_cons (pv 0) (pa_cons (pv 2) (pa_cons (pv 3) pa_nil)))))
      (pss_cons (ps_if (pt_cmpR op_ne (pe_ix ix_list (pv 4) (pe_un un_neg pe_int) (fun _ _ => rfl)) (pe_ix ix_list (pv 5) (pe_un un_neg pe_int) (fun _ _ => rfl)) (nomark _)) (pss_one (ps_ret pe_non)) pss_nil)
      (pss_cons (ps_set (i := 6) scClashOf.nd rfl (.inl rfl) (pe_call Cx.ok (hr.mono (by omega)) rfl Cx.g Cx.kp Cx.b .nil pass0 (pa_cons (pv 4) (pa_cons (pv 1) pa_nil))))
      (pss_cons (ps_set (i := 7) scClashOf.nd rfl (.inl rfl) (pe_call Cx.ok (hr.mono (by omega)) rfl Cx.g Cx.kp Cx.b .nil pass0 (pa_cons (pv 5) (pa_cons (pv 2) pa_nil))))
      (pss_cons (ps_setLc (i := 8) (own := [("text", 9), ("other", 10)]) (g := gTup K 2 (gCons (gName 9) (gCons (gName 10) gNil))) rfl scClashOf.nd rfl rfl (sw_true rfl rfl rfl (by decide +kernel)) (RZ.pi_zipA rfl b_zip (pa_cons (pv 6) (pa_cons (pv 7) pa_nil))) (blkOk_by (own := [("text", 9), ("other", 10)]) (N := ["place", "first", "second", "seal", "first_heads", "second_heads", "first_texts", "second_texts", "unlike", "text", "other"]) (sc := defScope sClashOf) (by decide +kernel)) (fun _ _ _ _ _ => (pg_tup rfl (pgs_cons (pg_name (i := 9) scClashOf.nd rfl (.inl rfl) (.inr rfl)) (pgs_cons (pg_name (i := 10) scClashOf.nd rfl (.inl rfl) (.inr rfl)) pgs_nil)))) (fun _ _ _ _ _ => (pts_one (pt_cmpR op_ne (pv 9) (pv 10) (nomark _)))) (fun _ _ _ _ _ => (pe_tup (pa_cons (pv 9) (pa_cons (pv 10) pa_nil)))))
      (pss_one (ps_ret (pe_ix ix_list (pv 8) (pe_un un_neg pe_int) (fun _ _ => rfl))))))))))), ?_⟩
    -- the same list, or another number
    refine ⟨_, rfl, a, _, rfl, hA, fun l1 m1 => ⟨_, rfl, d, _, rfl, hD.same (same_upd m1), fun l2 m2 => ?_⟩⟩
    have q1 := same_upd (o := .lst (es.map txV)) m1
    have q2 := same_upd (o := .lst (fs.map txV)) m2
    have q12 := q1.trans q2
    refine ⟨_, _, .lst (SqL.of (q2 _ _ upd_same)) (dp_tx _), .lst (SqL.of upd_same) (dp_tx _), shaped_lst B.ec, shaped_lst B'.ec, _, rfl, ?_⟩
    rw [eq_lst]
    have non : es = fs ∨ es.length ≠ fs.length → OptX K (upd (upd H l1 (.lst (es.map txV))) l2 (.lst (fs.map txV))) .non (clashL sp p es fs) := fun z => by
      unfold clashL
      rw [if_pos z]
      rfl
    by_cases e1 : es = fs
    · rw [decide_eq_true e1]
      exact iteT (iteT (q _ _ q12 (non (.inl e1))))
    rw [decide_eq_false e1]
    have lenA : LenV K (.ref a) (upd (upd H l1 (.lst (es.map txV))) l2 (.lst (fs.map txV))) es.length := (hA.same q12).len
    have lenD : LenV K (.ref d) (upd (upd H l1 (.lst (es.map txV))) l2 (.lst (fs.map txV))) fs.length := (hD.same q12).len
    refine iteF ⟨_, rfl, _, _, rfl, lenA, _, rfl, _, _, rfl, lenD, rfl, _, rfl, ?_⟩
    by_cases e2 : es.length = fs.length
    · rw [show (!decide (V.int (es.length : Nat) = V.int (fs.length : Nat))) = false by rw [e2]; simp]
      refine iteF ?_
      -- the heads
      refine ⟨_, rfl, _, rfl, _, rfl, p, a, s, es, sp, rfl, hA.same q12, hS.same q12, ok, B, fun h1 G1 nh1 s1 hh1 => ⟨_, rfl, _, rfl, _, rfl, p, d, s, fs, sp, rfl, (hD.same q12).same s1, (hS.same q12).same s1, ok, B', fun h2 G2 nh2 s2 hh2 => ?_⟩⟩
      have s02 := q12.trans (s1.trans s2)
      have hh12 := s2 _ _ hh1
      have at1 : atI ((headsL sp p es).map txV) (-1) = some (txV (hdL sp p es es.length)) := atI_end (by rw [List.length_map, heads_len, Nat.add_sub_cancel, List.getElem?_map, heads_at sp p es (Nat.le_refl _)]; rfl)
      have at2 : atI ((headsL sp p fs).map txV) (-1) = some (txV (hdL sp p fs fs.length)) := atI_end (by rw [List.length_map, heads_len, Nat.add_sub_cancel, List.getElem?_map, heads_at sp p fs (Nat.le_refl _)]; rfl)
      refine ⟨_, rfl, _, rfl, h1, _, _, _, rfl, rfl, SqL.of hh12, at1, _, rfl, _, rfl, h2, _, _, _, rfl, rfl, SqL.of hh2, at2, rfl, _, rfl, ?_⟩
      rw [dec_tx]
      by_cases e3 : hdL sp p es es.length = hdL sp p fs fs.length
      · rw [decide_eq_true e3]
        refine iteF ?_
        have qs : clashL sp p es fs = some (txT sp p es (lastD sp p es fs es.length - 1), txT sp p fs (lastD sp p es fs es.length - 1)) := by
          unfold clashL
          rw [if_neg (fun z => z.elim e1 fun y => y e2), if_neg (fun z => z e3)]
        rw [qs] at q
        -- the texts
        refine ⟨_, rfl, _, rfl, h1, a, es, sp, p, rfl, SqL.of hh12, hA.same s02, ok, B, fun t1 G3 nt1 s3 ht1 => ⟨_, rfl, _, rfl, h2, d, fs, sp, p, rfl, SqL.of (s3 _ _ hh2), (hD.same s02).same s3, ok, B', fun t2 G4 nt2 s4 ht2 => ?_⟩⟩
        have s04 := s02.trans (s3.trans s4)
        have ht1' := s4 _ _ ht1
        have hm : es.length = min ((textsTo sp p es es.length).map txV).length ((textsTo sp p fs fs.length).map txV).length := by rw [List.length_map, List.length_map, textsTo_len, textsTo_len]; omega
        refine ⟨_, rfl, _, rfl, t1, t2, _, _, rfl, .inl ⟨SqL.of ht1', SqL.of ht2, fun D nD => lc_it (walk_zip hm) (fun i H' => Same G4 H' ∧ ∃ rs : List V, H' D = some (.lst rs) ∧ rs.length ≤ i ∧ ((lastD sp p es fs i = 0 ∧ rs = []) ∨ (0 < lastD sp p es fs i ∧ ∃ pre t, rs = pre ++ [.ref t] ∧ SqT K H' t [txV (txT sp p es (lastD sp p es fs i - 1)), txV (txT sp p fs (lastD sp p es fs i - 1))]))) ⟨same_upd nD, [], upd_same, Nat.le_refl _, .inl ⟨rfl, rfl⟩⟩ (fun i H' _ z => ⟨z.1.seq (SqL.of ht1'), z.1.seq (SqL.of ht2)⟩) ?_ ?_⟩⟩
        · rintro i x H1 H2 hi ⟨z1, rs, hr1, lr, hp⟩ ⟨T, u1, u2, rfl, nT, rfl, g1, g2⟩
          have g1 : ((textsTo sp p es es.length).map txV)[i]? = some u1 := g1
          have g2 : ((textsTo sp p fs fs.length).map txV)[i]? = some u2 := g2
          rw [List.getElem?_map, textsTo_at sp p es hi] at g1
          rw [List.getElem?_map, textsTo_at sp p fs (by omega)] at g2
          cases g1
          cases g2
          have z2 := same_upd (o := .tup [txV (txT sp p es i), txV (txT sp p fs i)]) nT
          refine ⟨T, _, rfl, SqT.of upd_same, rfl, _, _, rfl, _, _, rfl, rfl, rfl, ?_⟩
          refine ⟨_, rfl, _, rfl, rfl, _, rfl, ?_⟩
          rw [dec_tx]
          by_cases e4 : txT sp p es i = txT sp p fs i
          · rw [decide_eq_true e4]
            have nd : ¬ dif sp p es fs i := fun y => y e4
            refine iteF ⟨z1.trans z2, rs, z2 _ _ hr1, by omega, ?_⟩
            rw [lastD_no nd]
            rcases hp with hp | ⟨p1, pre, t, p2, p3⟩
            · exact .inl hp
            · exact .inr ⟨p1, pre, t, p2, seqT_same z2 p3⟩
          · rw [decide_eq_false e4]
            have nd : dif sp p es fs i := e4
            refine iteT ⟨_, rfl, _, rfl, (by show 2 ≤ sizeLine; decide), fun u nu => ⟨rs, same_upd nu _ _ (z2 _ _ hr1), small1000 (by omega), ?_, rs ++ [.ref u], upd_same, by rw [List.length_append]; exact Nat.add_le_add_right lr 1, .inr ⟨by rw [lastD_yes nd]; omega, rs, u, rfl, ?_⟩⟩⟩
            · exact same_updF nD (z1.trans (z2.trans (same_upd nu)))
            · rw [lastD_yes nd, Nat.add_sub_cancel]
              have uD : u ≠ D := fun y => by
                have y1 := same_upd (o := .tup [txV (txT sp p es i), txV (txT sp p fs i)]) nu _ _ (z2 _ _ hr1)
                have y2 : upd H1 T (.tup [txV (txT sp p es i), txV (txT sp p fs i)]) D = some (.lst rs) := z2 _ _ hr1
                rw [← y, nu] at y2
                cases y2
              exact SqT.of (by rw [upd_ne uD]; exact upd_same)
        · rintro H1 ⟨z1, rs, hr1, lr, hp⟩
          have pos := lastD_pos (sp := sp) (p := p) e2 e1
          rcases hp with ⟨y, _⟩ | ⟨_, pre, t, hrs, ht⟩
          · omega
          · rw [hrs] at hr1
            refine ⟨_, rfl, _, rfl, D, _, _, _, rfl, rfl, SqL.of hr1, atI_last _ _, ?_⟩
            exact q _ _ (s04.trans z1) ⟨t, rfl, ht⟩
      · rw [decide_eq_false e3]
        refine iteT (q _ _ s02 ?_)
        unfold clashL
        rw [if_neg (fun z => z.elim e1 fun y => y e2), if_pos e3]
        rfl
    · rw [show (!decide (V.int (es.length : Nat) = V.int (fs.length : Nat))) = true by
        rw [decide_eq_false (fun z => e2 (by have := V.int.inj z; omega))]
        rfl]
      exact iteT (q _ _ q12 (non (.inr e2)))
end
end My

set_option Elab.async false
set_option linter.all false
set_option maxRecDepth 100000
namespace My
open PySem PySem.Spec PyProof.Rows L2 SX LamX NdefX
abbrev sLaw : Stmt := topS 41
theorem scLaw : FnScope ["script", "bag", "spot", "spec", "made", "first", "k", "heads", "turn", "second", "kept_v", "others", "apart", "due", "found", "one", "heard"] ["script"] (defScope sLaw) := ⟨rfl, rfl, rfl, by decide +kernel, rfl, by decide +kernel, by decide +kernel⟩
def spLaw (K : PySem.W.Frag) (TP : Addr) : Sp := fun vs H Q _ => ∃ (a : Addr) (ns : List Int), vs = [.ref a] ∧ SqL K H a (ns.map V.int) ∧ TabS H TP lamQ ∧ ∀ H', Q (.bl true) H'
theorem lk_two {K : PySem.W.Frag} {H : Hp} {a a' : Addr} {x y : List Nat} (h : SqT K H a [txV x, txV y]) (h' : SqT K H a' [txV x, txV y]) : Lk K H 2 (.ref a) (.ref a') := by
  refine .inr ⟨a, a', _, _, rfl, rfl, .inr ⟨h, h'⟩, rfl, (by show 2 < 1000; decide), fun i x y hx hy => ?_⟩
  rw [hx] at hy
  cases hy
  refine Lk.flat rfl ?_
  have := List.mem_of_getElem? hx
  simp only [List.mem_cons, List.not_mem_nil, or_false] at this
  rcases this with rfl | rfl <;> trivial
section
variable {P : Program} {w : World} {K : PySem.W.Frag} {mg : Str → Option Value} {base : Heap}
set_option maxHeartbeats 1000000 in
theorem ok_law {CS : SealC} {C TP f f1 f2 f3 f4 f5 f6 f7 f8 f9 f10 f12 f13 f14 f15 f16 f17 f18 : Addr} {fd d1 d2 d3 d4 d5 d6 d7 d8 d9 d10 d12 d13 d14 d15 d16 d17 d18 : FuncData} {k : Nat} (F : Fun K "law" "law" sLaw f fd)
    (Ba : Cal P w K mg base "_law_bag" (k + 1) ["script"] (spBag K) f1 d1) (D : Cal P w K mg base "_law_pull" (k + 1) ["bag", "many"] (spDrawC K) f2 d2) (O : Cal P w K mg base "_law_of" (k + 2) ["bag", "some"] (spOfC K) f3 d3) (Li : Cal P w K mg base "_law_like" (k + 3) ["found", "due"] (spLike K 2) f4 d4)
    (Na : Cal P w K mg base "_law_names" (k + 3) ["bag", "many"] (spNames K) f5 d5) (Spc : Cal P w K mg base "_law_spec" (k + 3) ["bag"] (spSpec K) f6 d6) (En : Cal P w K mg base "_law_entry" (k + 3) ["bag"] (spEntry K) f7 d7) (Al : Cal P w K mg base "_law_altered" (k + 4) ["bag", "entries", "same"] (spAlt K) f8 d8)
    (He : Cal P w K mg base "_law_heads" (k + 3) ["spec", "place_z", "entries"] (spLawHeads K) f9 d9) (St : Cal P w K mg base "_law_stones" (k + 1) ["heads"] (spStones K) f10 d10) (Se : Cal P w K mg base "_law_seal" (k + 5) ["spec"] (spSeal K CS TP) f12 d12)
    (Cl : Cal P w K mg base "closing_of" (k + 5) ["place", "entries", "seal"] (spClo K CS C) f13 d13) (Eq : CalM P w K mg base C "__eq__" (k + 1) ["self", "other"] (spEqC K C) f14 d14) (Sm : CalM P w K mg base C "stretch" (k + 6) ["self", "entries", "seal"] (spStretch K CS C) f15 d15)
    (Cz : Cal P w K mg base "clash_of" (k + 5) ["place", "first", "second", "seal"] (spClash K CS) f16 d16) (Lz : Cal P w K mg base "_law_clash" (k + 2) ["first", "second", "heads", "others"] (spLClash K) f17 d17) (Co : Cal P w K mg base "_law_code" (k + 2) ["spec", "heard"] (spCode K) f18 d18) (Sl : Seals P w K mg base CS (k + 3))
    (b_range : mg "range" = none) (b_len : mg "len" = none) (b_list : mg "list" = none) (b_tuple : mg "tuple" = none) : FnOk P w K mg base CX0 (k + 7) f fd ["script"] (spLaw K TP) := by
  refine F.ok scLaw (fun vs H Q E h => ?_) (fun cdv A outer s H vs Q E hr h => ?_)
  · obtain ⟨a, ns, rfl, _⟩ := h
    rfl
  · obtain ⟨a, ns0, rfl, hS, hT, q⟩ := h
    refine ⟨_, (pss_cons (ps_set (i := 1) scLaw.nd rfl (.inr rfl) (pe_call Ba.ok (hr.mono (by omega)) rfl Ba.g Ba.kp Ba.b .nil pass0 (pa_cons (pv 0) pa_nil)))
      (pss_cons (ps_set (i := 2) scLaw.nd rfl (.inl rfl) (pe_call O.ok (hr.mono (by omega)) rfl O.g O.kp O.b .nil pass0 (pa_cons (pv 1) (pa_cons (pe_call Na.ok (hr.mono (by omega)) rfl Na.g Na.kp Na.b .nil pass0 (pa_cons (pv 1) (pa_cons pe_int pa_nil))) pa_nil))))
      (pss_cons (ps_set (i := 3) scLaw.nd rfl (.inr rfl) (pe_call O.ok (hr.mono (by omega)) rfl O.g O.kp O.b .nil pass0 (pa_cons (pv 1) (pa_cons (pe_lst (pa_cons (pe_tup (pa_cons pe_str (pa_cons pe_int pa_nil))) (pa_cons (pe_tup (pa_cons pe_str (pa_cons pe_int pa_nil))) (pa_cons (pe_tup (pa_cons pe_str (pa_cons pe_int pa_nil))) (pa_cons (pe_tup (pa_cons pe_str (pa_cons pe_int pa_nil))) (pa_cons (pe_tup (pa_cons pe_str (pa_cons pe_int pa_nil))) (pa_cons (pe_tup (pa_cons pe_str (pa_cons pe_int pa_nil))) (pa_cons (pe_tup (pa_cons pe_str (pa_cons pe_int pa_nil))) (pa_cons (pe_call Spc.ok (hr.mono (by omega)) rfl Spc.g Spc.kp Spc.b .nil pass0 (pa_cons (pv 1) pa_nil)) pa_nil))))))))) pa_nil))))
      (pss_cons (ps_asg (pe_tup (pa_cons (pe_call Se.ok (hr.mono (by omega)) rfl Se.g Se.kp Se.b .nil pass0 (pa_cons (pv 3) pa_nil)) (pa_cons (pe_lc (own := [("k", 6)]) (g := gName 6) (tt := tYes) rfl scLaw.nd (pi_range1 rfl b_range (pa_cons (pe_call O.ok (hr.mono (by omega)) rfl O.g O.kp O.b .nil pass0 (pa_cons (pv 1) (pa_cons (pe_lst (pa_cons pe_int (pa_cons pe_int (pa_cons pe_int (pa_cons pe_int (pa_cons pe_int (pa_cons pe_int (pa_cons pe_int pa_nil)))))))) pa_nil))) pa_nil)) (blkOk_by (own := [("k", 6)]) (N := ["script", "bag", "spot", "spec", "made", "first", "k", "heads", "turn", "second", "kept_v", "others", "apart", "due", "found", "one", "heard"]) (sc := defScope sLaw) (by decide +kernel)) (fun _ _ _ _ _ => (pg_name (i := 6) scLaw.nd rfl (.inl rfl) (.inr rfl))) (fun _ _ _ _ _ => pts_nil) (fun _ _ _ _ _ => (pe_call En.ok (hr.mono (by omega)) rfl En.g En.kp En.b .nil pass0 (pa_cons (pv 1) pa_nil)))) pa_nil))) (pg_tup rfl (pgs_cons (pg_name (i := 4) scLaw.nd rfl (.inr rfl)) (pgs_cons (pg_name (i := 5) scLaw.nd rfl (.inl rfl)) pgs_nil))))
      (pss_cons (ps_set (i := 7) scLaw.nd rfl (.inl rfl) (pe_call He.ok (hr.mono (by omega)) rfl He.g He.kp He.b .nil pass0 (pa_cons (pv 3) (pa_cons (pv 2) (pa_cons (pv 5) pa_nil)))))
      (pss_cons (ps_if (pt_cmpR op_notN (pe_call Cz.ok (hr.mono (by omega)) rfl Cz.g Cz.kp Cz.b .nil pass0 (pa_cons (pv 2) (pa_cons (pe_callTy call_list_of rfl b_list (by decide +kernel) (pa_cons (pv 5) pa_nil)) (pa_cons (pe_callTy call_tuple_of rfl b_tuple (by decide +kernel) (pa_cons (pv 5) pa_nil)) (pa_cons (pv 4) pa_nil))))) pe_non (nomark _)) (pss_one (ps_ret pe_bl)) pss_nil)
      (pss_cons (ps_for PassesOwn.never rfl (pi_range1 rfl b_range (pa_cons pe_int pa_nil)) (pg_name (i := 8) scLaw.nd rfl (.inl rfl))
        (pss_cons (ps_set (i := 9) scLaw.nd rfl (.inl rfl) (pe_callTy call_list_of rfl b_list (by decide +kernel) (pa_cons (pv 5) pa_nil)))
        (pss_cons (ps_for PassesOwn.never rfl (pi_range1 rfl b_range (pa_cons (pe_op op_add pe_int (pe_call D.ok (hr.mono (by omega)) rfl D.g D.kp D.b .nil pass0 (pa_cons (pv 1) (pa_cons pe_int pa_nil)))) pa_nil)) (pg_name (i := 6) scLaw.nd rfl (.inl rfl))
          (pss_one (ps_set (i := 9) scLaw.nd rfl (.inl rfl) (pe_slice sl_list (pe_call Al.ok (hr.mono (by omega)) rfl Al.g Al.kp Al.b .nil pass0 (pa_cons (pv 1) (pa_cons (pv 9) (pa_cons (pe_cmpR op_gt (pe_call D.ok (hr.mono (by omega)) rfl D.g D.kp D.b .nil pass0 (pa_cons (pv 1) (pa_cons pe_int pa_nil))) pe_int (nomark _)) pa_nil)))) po_none (po_some pe_int)))))
        (pss_cons (ps_par (i := 10) (j := 11) rfl scLaw.nd rfl rfl (by decide) rfl rfl (pa_cons (pe_callTy call_list_of rfl b_list (by decide +kernel) (pa_cons (pv 9) pa_nil)) (pa_cons (pe_call He.ok (hr.mono (by omega)) rfl He.g He.kp He.b .nil pass0 (pa_cons (pv 3) (pa_cons (pv 2) (pa_cons (pv 9) pa_nil)))) pa_nil)) rfl)
        (C8.pss_cut (ps_set (i := 12) scLaw.nd rfl (.inl rfl) (L2.pe_or (pe_cmpR op_ne (pe_callB call_len rfl b_len (by decide +kernel) (pa_cons (pv 10) pa_nil)) (pe_callB call_len rfl b_len (by decide +kernel) (pa_cons (pv 5) pa_nil)) (nomark _)) (pe_one (pe_cmpR op_ne (pe_ix ix_list (pv 11) (pe_callB call_len rfl b_len (by decide +kernel) (pa_cons (pv 10) pa_nil)) (fun _ _ => rfl)) (pe_ix ix_list (pv 7) (pe_callB call_len rfl b_len (by decide +kernel) (pa_cons (pv 5) pa_nil)) (fun _ _ => rfl)) (nomark _)))))
        (pss_cons (ps_if (PW.pt (pw_or (pt_val (pv 12)) (pw_or1 (pt_cmpR (op_eqD hr.units) (pv 10) (pv 5) (nomark _))))) (pss_cons (ps_if (PW.pt (pw_or (pt_cmpR op_notN (pe_call Cz.ok (hr.mono (by omega)) rfl Cz.g Cz.kp Cz.b .nil pass0 (pa_cons (pv 2) (pa_cons (pe_callTy call_list_of rfl b_list (by decide +kernel) (pa_cons (pv 5) pa_nil)) (pa_cons (pv 9) (pa_cons (pv 4) pa_nil))))) pe_non (nomark _)) (pw_or1 (pt_cmpR op_notN (pe_call Cz.ok (hr.mono (by omega)) rfl Cz.g Cz.kp Cz.b .nil pass0 (pa_cons (pv 2) (pa_cons (pv 9) (pa_cons (pe_callTy call_list_of rfl b_list (by decide +kernel) (pa_cons (pv 5) pa_nil)) (pa_cons (pv 4) pa_nil))))) pe_non (nomark _))))) (pss_one (ps_ret pe_bl)) pss_nil)
          (pss_one ps_continue)) pss_nil)
        (pss_cons (ps_if (pt_cmpR (op_neD hr.units) (pe_call St.ok (hr.mono (by omega)) rfl St.g St.kp St.b .nil pass0 (pa_cons (pv 7) pa_nil)) (pe_call St.ok (hr.mono (by omega)) rfl St.g St.kp St.b .nil pass0 (pa_cons (pv 11) pa_nil)) (nomark _)) (pss_one ps_continue) pss_nil)
        (pss_cons (ps_asg (pe_tup (pa_cons (pe_call Lz.ok (hr.mono (by omega)) rfl Lz.g Lz.kp Lz.b .nil pass0 (pa_cons (pv 5) (pa_cons (pv 10) (pa_cons (pv 7) (pa_cons (pv 11) pa_nil))))) (pa_cons (pe_call Cz.ok (hr.mono (by omega)) rfl Cz.g Cz.kp Cz.b .nil pass0 (pa_cons (pv 2) (pa_cons (pe_callTy call_list_of rfl b_list (by decide +kernel) (pa_cons (pv 5) pa_nil)) (pa_cons (pv 9) (pa_cons (pv 4) pa_nil))))) pa_nil))) (pg_tup rfl (pgs_cons (pg_name (i := 13) scLaw.nd rfl (.inr rfl)) (pgs_cons (pg_name (i := 14) scLaw.nd rfl (.inl rfl)) pgs_nil))))
        (pss_cons (ps_if (PW.pt (pw_or (pt_not (pt_val (pe_call Li.ok (hr.mono (by omega)) rfl Li.g Li.kp Li.b .nil pass0 (pa_cons (pv 14) (pa_cons (pv 13) pa_nil))))) (pw_or (pt_cmpR op_eq (pe_ix ix_tup (pv 14) pe_int (fun _ _ => rfl)) (pe_ix ix_tup (pv 14) pe_int (fun _ _ => rfl)) (nomark _)) (pw_or1 (pt_not (pt_val (pe_call Li.ok (hr.mono (by omega)) rfl Li.g Li.kp Li.b .nil pass0 (pa_cons (pv 9) (pa_cons (pv 10) pa_nil))))))))) (pss_one (ps_ret pe_bl)) pss_nil)
        (pss_cons (ps_if (pt_not (pt_val (pe_call Li.ok (hr.mono (by omega)) rfl Li.g Li.kp Li.b .nil pass0 (pa_cons (pe_lc (own := [("one", 15)]) (g := gName 15) (tt := tYes) rfl scLaw.nd (pi_tup (pv 14)) (blkOk_by (own := [("one", 15)]) (N := ["script", "bag", "spot", "spec", "made", "first", "k", "heads", "turn", "second", "kept_v", "others", "apart", "due", "found", "one", "heard"]) (sc := defScope sLaw) (by decide +kernel)) (fun _ _ _ _ _ => (pg_name (i := 15) scLaw.nd rfl (.inl rfl) (.inr rfl))) (fun _ _ _ _ _ => pts_nil) (fun _ _ _ _ _ => (pe_sealof (i := 4) (x := "made") Sl (hr.mono (by omega)) (by rfl) (by first | exact Or.inl rfl | exact Or.inr (Or.inl rfl) | exact Or.inr (Or.inr rfl)) (pa_cons (pv 15) pa_nil) (mono_cons mono_var mono_nil)))) (pa_cons (pe_lc (own := [("one", 15)]) (g := gName 15) (tt := tYes) (te := tCall (spCode K) [] E0 (tCons (tVar 3) (tCons (tOp (rIxT K) (tVar 13) (tC (.int 0))) tNil))) rfl scLaw.nd (pi_tup (pv 14)) (blkOk_by (own := [("one", 15)]) (N := ["script", "bag", "spot", "spec", "made", "first", "k", "heads", "turn", "second", "kept_v", "others", "apart", "due", "found", "one", "heard"]) (sc := defScope sLaw) (by decide +kernel)) (fun _ _ _ _ _ => (pg_name (i := 15) scLaw.nd rfl (.inl rfl) (.inr rfl))) (fun _ _ _ _ _ => pts_nil) (fun _ _ _ _ _ => (pe_call Co.ok (hr.mono (by omega)) rfl Co.g Co.kp Co.b .nil pass0 (pa_cons (pv 3) (pa_cons (pe_ix ix_tup (pv 13) pe_int (fun _ _ => rfl)) pa_nil))))) pa_nil))))) (pss_one (ps_ret pe_bl)) pss_nil)
        (pss_cons (ps_if (pt_not (pt_val (pe_call Li.ok (hr.mono (by omega)) rfl Li.g Li.kp Li.b .nil pass0 (pa_cons (pe_call Cz.ok (hr.mono (by omega)) rfl Cz.g Cz.kp Cz.b .nil pass0 (pa_cons (pv 2) (pa_cons (pe_callTy call_tuple_of rfl b_tuple (by decide +kernel) (pa_cons (pv 10) pa_nil)) (pa_cons (pe_callTy call_tuple_of rfl b_tuple (by decide +kernel) (pa_cons (pv 5) pa_nil)) (pa_cons (pe_call Se.ok (hr.mono (by omega)) rfl Se.g Se.kp Se.b .nil pass0 (pa_cons (pv 3) pa_nil)) pa_nil))))) (pa_cons (pe_tup (pa_cons (pe_ix ix_tup (pv 13) pe_int (fun _ _ => rfl)) (pa_cons (pe_ix ix_tup (pv 13) pe_int (fun _ _ => rfl)) pa_nil))) pa_nil))))) (pss_one (ps_ret pe_bl)) pss_nil)
        (pss_cons (ps_set (i := 16) scLaw.nd rfl (.inl rfl) (pe_call Cl.ok (hr.mono (by omega)) rfl Cl.g Cl.kp Cl.b .nil pass0 (pa_cons (pv 2) (pa_cons (pv 5) (pa_cons (pv 4) pa_nil)))))
        (pss_one (ps_if (PW.pt (pw_or (pt_not (pt_cmpR (op_eqOwn Eq.ok Eq.m.at_ Eq.m.fn Eq.b (hr.mono (by omega))) (pv 16) (pe_call Cl.ok (hr.mono (by omega)) rfl Cl.g Cl.kp Cl.b .nil pass0 (pa_cons (pv 2) (pa_cons (pv 10) (pa_cons (pv 4) pa_nil)))) (nomark _))) (pw_or1 (pt_cmpR op_notN (pe_meth (pv 16) Sm.c Sm.m Sm.ok (hr.mono (by omega)) Sm.b .nil pass0 (pa_cons (pv 10) (pa_cons (pv 4) pa_nil))) pe_non (nomark _))))) (pss_one (ps_ret pe_bl)) pss_nil))))))))))))))
      (pss_one (ps_ret pe_bl))))))))), ?_⟩
    -- the bag
    refine ⟨_, rfl, a, ns0, rfl, hS, fun b H1 s1 B0 nb => ?_⟩
    obtain ⟨c, ns, B1⟩ : ∃ c ns, BagC K H1 b c ns := by
      obtain ⟨c, ns, i, g, x, n, B⟩ := B0
      exact ⟨c, ns, i, g, x, n, B⟩
    have T1 := hT.ext s1
    -- spot
    refine ⟨_, rfl, _, rfl, b, c, ns, rfl, B1, fun r H3 a1 a2 nr B3 t3 hr3 N1 N2 => ?_⟩
    refine ⟨b, r, _, c, ns, rfl, B3, B3.neT hr3, SqL.of hr3, (by show 0 < 2; decide), (by show 2 < 1000; decide), fun v H4 hv B4 t4 => ?_⟩
    obtain ⟨p, rfl, hp⟩ : ∃ p, v = txV p ∧ Name p := by
      simp only [List.map_cons, List.map_nil, List.mem_cons, List.not_mem_nil, or_false] at hv
      rcases hv with rfl | rfl
      · exact ⟨_, rfl, N1⟩
      · exact ⟨_, rfl, N2⟩
    have T4 : TabS H4 TP lamQ := (t3.trans t4).tab B1 T1
    -- spec
    have two : 2 ≤ sizeLine := by decide
    refine ⟨_, rfl, two, fun p1 m1 => ⟨two, fun p2 m2 => ⟨two, fun p3 m3 => ⟨two, fun p4 m4 => ⟨two, fun p5 m5 => ⟨two, fun p6 m6 => ⟨two, fun p7 m7 => ?_⟩⟩⟩⟩⟩⟩⟩
    have B5 := ((((((B4.fresh (o := .tup [.str "flat", .int 0]) m1).fresh (o := .tup [.str "made", .int 2]) m2).fresh (o := .tup [.str "made", .int 31]) m3).fresh (o := .tup [.str "made", .int 3]) m4).fresh (o := .tup [.str "made", .int 4]) m5).fresh (o := .tup [.str "own", .int 2]) m6).fresh (o := .tup [.str "own", .int 1]) m7
    refine ⟨_, rfl, b, c, ns, rfl, B5, fun t0 H5 sp0 ht0 ok0 B6 t5 tb0 => ⟨(by show 8 ≤ sizeLine; decide), fun u nu => ⟨b, u, _, c, ns, rfl, B6.fresh nu, B6.ne nu, SqL.of upd_same, (by show 0 < 8; decide), (by show 8 < 1000; decide), fun v H6 hv B7 t6 => ?_⟩⟩⟩
    have T5 : TabS H6 TP lamQ := by
      have q1 := same_upd (o := .tup [.str "flat", .int 0]) m1
      have q2 := same_upd (o := .tup [.str "made", .int 2]) m2
      have q3 := same_upd (o := .tup [.str "made", .int 31]) m3
      have q4 := same_upd (o := .tup [.str "made", .int 3]) m4
      have q5 := same_upd (o := .tup [.str "made", .int 4]) m5
      have q6 := same_upd (o := .tup [.str "own", .int 2]) m6
      have q7 := same_upd (o := .tup [.str "own", .int 1]) m7
      have qa := q1.trans (q2.trans (q3.trans (q4.trans (q5.trans (q6.trans q7)))))
      exact t6.tab (B6.fresh nu) ((t5.tab B5 (T4.ext qa)).ext (same_upd nu))
    have hk : ∀ (t : Addr) (xs : List V), SqT K H5 t xs → SqT K H6 t xs := fun t xs h => (Kp.but t6).sqt (B6.fresh nu) (seqT_same (same_upd nu) h)
    have hk2 : ∀ (t : Addr) (xs : List V), upd (upd (upd (upd (upd (upd (upd H4 p1 (.tup [.str "flat", .int 0])) p2 (.tup [.str "made", .int 2])) p3 (.tup [.str "made", .int 31])) p4 (.tup [.str "made", .int 3])) p5 (.tup [.str "made", .int 4])) p6 (.tup [.str "own", .int 2])) p7 (.tup [.str "own", .int 1]) t = some (.tup xs) → SqT K H6 t xs := fun t xs h => hk t xs ((Kp.but t5).sqt B5 (SqT.of h))
    obtain ⟨t, sp, rfl, ht6, ok⟩ : ∃ t sp, v = .ref t ∧ SqT K H6 t (specV sp) ∧ SpecOk sp := by
      simp only [List.append_nil, List.mem_cons, List.not_mem_nil, or_false] at hv
      have z1 := same_upd (o := .tup [.str "made", .int 2]) m2
      have z2 := same_upd (o := .tup [.str "made", .int 31]) m3
      have z3 := same_upd (o := .tup [.str "made", .int 3]) m4
      have z4 := same_upd (o := .tup [.str "made", .int 4]) m5
      have z5 := same_upd (o := .tup [.str "own", .int 2]) m6
      have z6 := same_upd (o := .tup [.str "own", .int 1]) m7
      rcases hv with rfl | rfl | rfl | rfl | rfl | rfl | rfl | rfl
      · exact ⟨p1, .flat, rfl, hk2 _ _ ((z1.trans (z2.trans (z3.trans (z4.trans (z5.trans z6))))) _ _ upd_same), trivial⟩
      · exact ⟨p2, .made 2, rfl, hk2 _ _ ((z2.trans (z3.trans (z4.trans (z5.trans z6)))) _ _ upd_same), ⟨by decide, by decide⟩⟩
      · exact ⟨p3, .made 31, rfl, hk2 _ _ ((z3.trans (z4.trans (z5.trans z6))) _ _ upd_same), ⟨by decide, by decide⟩⟩
      · exact ⟨p4, .made 3, rfl, hk2 _ _ ((z4.trans (z5.trans z6)) _ _ upd_same), ⟨by decide, by decide⟩⟩
      · exact ⟨p5, .made 4, rfl, hk2 _ _ ((z5.trans z6) _ _ upd_same), ⟨by decide, by decide⟩⟩
      · exact ⟨p6, .own 2, rfl, hk2 _ _ (z6 _ _ upd_same), (by decide : (2 : Nat) < 4)⟩
      · exact ⟨p7, .own 1, rfl, hk2 _ _ upd_same, (by decide : (1 : Nat) < 4)⟩
      · exact ⟨t0, sp0, rfl, hk _ _ ht0, ok0⟩
    -- the seal, the first list
    refine ⟨_, rfl, t, sp, rfl, ht6, ok, T5, fun md H7 e7 T7 sl7 => ?_⟩
    have ht7 := (Kp.ext e7).sqt B7 ht6
    have B8 := B7.ext e7
    refine ⟨_, rfl, (by show 7 ≤ sizeLine; decide), fun u2 nu2 => ⟨b, u2, _, c, ns, rfl, B8.fresh nu2, B8.ne nu2, SqL.of upd_same, (by show 0 < 7; decide), (by show 7 < 1000; decide), fun v H8 hv B9 t8 => ?_⟩⟩
    have u8 : But b H7 H8 := (But.of (same_upd nu2)).trans t8
    obtain ⟨sz, rfl, sz9⟩ : ∃ j : Nat, v = .int j ∧ j ≤ 9 := by
      simp only [List.append_nil, List.mem_cons, List.not_mem_nil, or_false] at hv
      rcases hv with rfl | rfl | rfl | rfl | rfl | rfl | rfl
      · exact ⟨1, rfl, by decide⟩
      · exact ⟨2, rfl, by decide⟩
      · exact ⟨3, rfl, by decide⟩
      · exact ⟨4, rfl, by decide⟩
      · exact ⟨5, rfl, by decide⟩
      · exact ⟨8, rfl, by decide⟩
      · exact ⟨9, rfl, by decide⟩
    refine ⟨(sz : Int), rfl, by omega, by omega, fun e nE => lc_it (walk_range (lo := 0) (n := sz)) (fun i G => ∃ ls : List (List Nat), G e = some (.lst (ls.map txV)) ∧ ls.length = i ∧ (∀ l ∈ ls, Name l) ∧ BagC K G b c ns ∧ But b H8 G) ⟨[], upd_same, rfl, fun l hl => absurd hl (by simp), B9.fresh nE, But.of (same_upd nE)⟩ (fun _ _ _ _ => trivial) ?_ ?_⟩
    · rintro n x G1 G2 hi ⟨ls, gL, hl, ho, BG, tG⟩ ⟨rfl, rfl⟩
      refine ⟨rfl, ?_⟩
      unfold tYes
      have Lb := B9.ne nE
      refine iteT ⟨_, rfl, b, c, ns, rfl, BG, fun l G3 hl' BG3 tG3 => ⟨_, tG3 _ _ Lb gL, by rw [List.length_map, hl]; exact small1000 (by omega), ls ++ [l], by rw [upd_same, List.map_append]; rfl, by rw [List.length_append, hl]; rfl, ?_, BG3.upd (B9.off nE) Lb, ?_⟩⟩
      · intro l2 hl2
        rcases List.mem_append.mp hl2 with z | z
        · exact ho l2 z
        · rw [List.mem_singleton.mp z]
          exact hl'
      · intro p o n h
        rw [upd_ne (ne_of_none h nE)]
        exact tG3 _ _ n (tG _ _ n h)
    rintro H9 ⟨es, hE9, les, hN, B10, u9⟩
    have es9 : es.length ≤ 9 := by omega
    have Bk := bookOk hp hN (by omega)
    have k79 := u8.trans u9
    have ht9 := (Kp.but k79).sqt B8 ht7
    have T9 := k79.tab B8 T7
    have sl9 := (Kp.but k79).seal B8 sl7
    refine ⟨two, fun tp ntp => ⟨tp, _, rfl, SqT.of upd_same, rfl, _, _, rfl, _, _, rfl, rfl, ?_⟩⟩
    have q10 := same_upd (o := .tup [.ref md, .ref e]) ntp
    -- the heads
    refine ⟨_, rfl, _, rfl, _, rfl, t, p, e, es, sp, rfl, seqT_same q10 ht9, SqL.of (q10 _ _ hE9), ok, Bk, fun hh H11 nh s11 hh11 => ?_⟩
    have q11 := q10.trans s11
    have L11 : LW K CS b c TP t e hh md ns sp p es H11 := ⟨B10.same q11, T9.ext q11, seqT_same q11 ht9, q11 _ _ hE9, hh11, (Kp.same (b := b) q11).seal B10 sl9⟩
    have cself : clashL sp p es es = none := if_pos (.inl rfl)
    -- the same list
    refine ⟨_, rfl, _, rfl, e, _, rfl, .inl (SqL.of L11.ent), fun l1 n1 => ⟨_, rfl, e, _, rfl, .inl ⟨SqL.of (same_upd n1 _ _ L11.ent), fun l2 n2 => ?_⟩⟩⟩
    have q12 := (same_upd (o := .lst (es.map txV)) n1).trans (same_upd (o := .tup (es.map txV)) n2)
    refine ⟨_, rfl, p, l1, l2, md, es, es, sp, rfl, .inl (SqL.of (same_upd n2 _ _ upd_same)), .inr (SqT.of upd_same), (Kp.same (b := b) q12).seal L11.bag L11.sl, ok, Bk, Bk, fun v G12 s12 hv => ?_⟩
    rw [cself] at hv
    rw [show v = .non from hv]
    refine ⟨rfl, _, rfl, iteF ?_⟩
    have L12 := L11.same (q12.trans s12)
    refine ⟨10, rfl, by decide, by decide, ?_⟩
    refine for_range (n := 10) (fun i σ G => ∃ v6 v8 v9 v10 v11 v12 v13 v14 v15 v16, σ = [some (.ref a), some (.ref b), some (txV p), some (.ref t), some (.ref md), some (.ref e), v6, some (.ref hh), v8, v9, v10, v11, v12, v13, v14, v15, v16] ∧ LW K CS b c TP t e hh md ns sp p es G) ⟨_, _, _, _, _, _, _, _, _, _, rfl, L12⟩ ?_ ?_
    · rintro i σ G0 hi ⟨v6, v8, v9, v10, v11, v12, v13, v14, v15, v16, rfl, L0⟩
      -- second
      refine ⟨_, rfl, e, _, rfl, .inl (SqL.of L0.ent), fun s0 ns0 => ?_⟩
      have L1 := L0.same (same_upd (o := .lst (es.map txV)) ns0)
      have s0b : s0 ≠ b := L1.bag.neT upd_same
      refine ⟨_, rfl, b, 3, c, ns, rfl, L1.bag, by decide, by decide, fun en G2 e0 e3 B2 t2 => ?_⟩
      obtain ⟨j, rfl⟩ : ∃ j : Nat, en = (j : Int) := ⟨en.toNat, by omega⟩
      refine ⟨_, _, rfl, rfl, ((1 + j : Nat) : Int), rfl, by omega, by omega, ?_⟩
      refine for_range (n := 1 + j) (fun _ σ G => ∃ v6 s fs, σ = [some (.ref a), some (.ref b), some (txV p), some (.ref t), some (.ref md), some (.ref e), v6, some (.ref hh), some (.int (0 + ((i : Nat) : Int))), some (.ref s), v10, v11, v12, v13, v14, v15, v16] ∧ LW K CS b c TP t e hh md ns sp p es G ∧ G s = some (.lst (fs.map txV)) ∧ (∀ f ∈ fs, Name f) ∧ fs.length ≤ 60) ⟨v6, s0, es, rfl, L1.but t2 B2, t2 _ _ s0b upd_same, hN, by omega⟩ ?_ ?_
      · rintro i2 σ G3 hi2 ⟨v6', s, fs, rfl, L3, hs, hNf, l60⟩
        have sb := L3.bag.neT hs
        refine ⟨_, rfl, _, rfl, _, rfl, b, 8, c, ns, rfl, L3.bag, by decide, by decide, fun r' G4 _ _ B4 t4 => ⟨_, _, rfl, rfl, b, s, c, ns, _, fs, rfl, B4, t4 _ _ sb hs, sb, hNf, l60, fun r G5 fs2 nr rb B5' t5' hr5 hN5 l5 => ⟨60, rfl, r, _, rfl, SqL.of hr5, fun z1 y1 => ?_⟩⟩⟩
        rw [show cutV (fs2.map txV) none (some 60) = (fs2.take 60).map txV from cut_to fs2 60]
        have L5 := (L3.but t4 B4).but t5' B5'
        exact ⟨_, z1, fs2.take 60, rfl, L5.same (same_upd y1), upd_same, fun f hf => hN5 f (List.mem_of_mem_take hf), by rw [List.length_take]; omega⟩
      rintro σ G3 ⟨v6', s, fs, rfl, L3, hs, hNf, l60⟩
      have Bf := bookOk hp hNf l60
      -- kept_v, others
      refine ⟨_, rfl, s, _, rfl, .inl (SqL.of hs), fun kv nkv => ?_⟩
      have y4 := same_upd (o := .lst (fs.map txV)) nkv
      have L4 := L3.same y4
      refine ⟨_, rfl, _, rfl, _, rfl, t, p, s, fs, sp, rfl, L4.spc, SqL.of (y4 _ _ hs), ok, Bf, fun ot G5 no y5 hot => ⟨_, _, rfl, ?_⟩⟩
      have L5 := L4.same y5
      have hs5 := y5 _ _ (y4 _ _ hs)
      have hk5 : G5 kv = some (.lst (fs.map txV)) := y5 _ _ upd_same
      have lel : (fs.length : Nat) = (fs.map txV).length := (List.length_map ..).symm
      have lel2 : (es.length : Nat) = (es.map txV).length := (List.length_map ..).symm
      have at1 : atI ((headsL sp p fs).map txV) ((fs.length : Nat) : Int) = some (txV (hdL sp p fs fs.length)) := atI_nat (by rw [List.getElem?_map, heads_at sp p fs (Nat.le_refl _)]; rfl)
      have at2 : atI ((headsL sp p es).map txV) ((es.length : Nat) : Int) = some (txV (hdL sp p es es.length)) := atI_nat (by rw [List.getElem?_map, heads_at sp p es (Nat.le_refl _)]; rfl)
      -- apart
      refine ⟨fun σ' G' => ∃ ap, σ' = [some (.ref a), some (.ref b), some (txV p), some (.ref t), some (.ref md), some (.ref e), v6', some (.ref hh), some (.int (0 + ((i : Nat) : Int))), some (.ref s), some (.ref kv), some (.ref ot), some (.bl ap), v13, v14, v15, v16] ∧ G' = G5 ∧ (ap = false ↔ (es.length = fs.length ∧ hdL sp p es es.length = hdL sp p fs fs.length)), ?_, ?_⟩
      · refine ⟨_, rfl, _, _, rfl, .inl ⟨_, SqL.of hk5, lel⟩, _, rfl, _, _, rfl, .inl ⟨_, SqL.of L5.ent, lel2⟩, rfl, _, rfl, ?_⟩
        by_cases e2 : fs.length = es.length
        · rw [show (!decide (V.int (fs.length : Nat) = V.int (es.length : Nat))) = false by rw [e2]; simp]
          refine iteF ⟨_, rfl, _, rfl, _, _, rfl, .inl ⟨_, SqL.of hk5, lel⟩, ot, _, _, _, rfl, rfl, SqL.of hot, at1, _, rfl, _, rfl, _, _, rfl, .inl ⟨_, SqL.of L5.ent, lel2⟩, hh, _, _, _, rfl, rfl, SqL.of L5.hds, at2, rfl, ?_⟩
          rw [dec_tx]
          refine ⟨_, rfl, rfl, ?_⟩
          by_cases e3 : hdL sp p fs fs.length = hdL sp p es es.length
          · rw [decide_eq_true e3]
            exact ⟨fun _ => ⟨e2.symm, e3.symm⟩, fun _ => rfl⟩
          · rw [decide_eq_false e3]
            exact ⟨fun z => (by cases z), fun z => absurd z.2.symm e3⟩
        · rw [show (!decide (V.int (fs.length : Nat) = V.int (es.length : Nat))) = true by
            rw [decide_eq_false (fun z => e2 (by have := V.int.inj z; omega))]
            rfl]
          exact iteT ⟨_, rfl, rfl, fun z => (by cases z), fun z => absurd z.1.symm e2⟩
      rintro σ' G' ⟨ap, rfl, rfl, hap⟩
      refine ⟨_, rfl, ap, rfl, ?_⟩
      cases ap with
      | true =>
        refine iteT (iteT ?_)
        have hn : ¬ (es.length = fs.length ∧ hdL sp p es es.length = hdL sp p fs fs.length) := fun z => by cases hap.mpr z
        have hc1 : clashL sp p es fs = none := by
          unfold clashL
          by_cases z : es = fs ∨ es.length ≠ fs.length
          · rw [if_pos z]
          · rw [if_neg z, if_pos (fun y => hn ⟨Classical.byContradiction fun x => z (.inr x), y⟩)]
        have hc2 : clashL sp p fs es = none := by
          unfold clashL
          by_cases z : fs = es ∨ fs.length ≠ es.length
          · rw [if_pos z]
          · rw [if_neg z, if_pos (fun y => hn ⟨Classical.byContradiction fun x => z (.inr fun q => x q.symm), y.symm⟩)]
        refine ⟨_, rfl, _, rfl, e, _, rfl, .inl (SqL.of L5.ent), fun l3 n3 => ?_⟩
        have w1 := same_upd (o := .lst (es.map txV)) n3
        refine ⟨_, rfl, _, rfl, p, l3, s, md, es, fs, sp, rfl, .inl (SqL.of upd_same), .inl (SqL.of (w1 _ _ hs5)), (Kp.same (b := b) w1).seal L5.bag L5.sl, ok, Bk, Bf, fun v1 G6 y6 hv1 => ?_⟩
        rw [hc1] at hv1
        rw [show v1 = .non from hv1]
        refine ⟨rfl, _, rfl, iteF ?_⟩
        have L6 := L5.same (w1.trans y6)
        have hs6 := y6 _ _ (w1 _ _ hs5)
        refine ⟨_, rfl, _, rfl, _, rfl, e, _, rfl, .inl (SqL.of L6.ent), fun l4 n4 => ?_⟩
        have w2 := same_upd (o := .lst (es.map txV)) n4
        refine ⟨_, rfl, p, s, l4, md, fs, es, sp, rfl, .inl (SqL.of (w2 _ _ hs6)), .inl (SqL.of upd_same), (Kp.same (b := b) w2).seal L6.bag L6.sl, ok, Bf, Bk, fun v2 G7 y7 hv2 => ?_⟩
        rw [hc2] at hv2
        rw [show v2 = .non from hv2]
        refine ⟨rfl, _, rfl, iteF ?_⟩
        exact ⟨_, _, _, _, _, _, _, _, _, _, rfl, L6.same (w2.trans y7)⟩
      | false =>
        obtain ⟨hl, hh2⟩ := hap.mp rfl
        refine iteF ⟨_, rfl, _, rfl, _, _, .lst (SqL.of hk5) (dp_tx _), .lst (SqL.of L5.ent) (dp_tx _), shaped_lst Bf.ec, shaped_lst Bk.ec, _, rfl, ?_⟩
        rw [eq_lst]
        by_cases hfe : fs = es
        · rw [decide_eq_true hfe]
          refine iteT ?_
          have hc1 : clashL sp p es fs = none := if_pos (.inl hfe.symm)
          have hc2 : clashL sp p fs es = none := if_pos (.inl hfe)
          refine ⟨_, rfl, _, rfl, e, _, rfl, .inl (SqL.of L5.ent), fun l3 n3 => ?_⟩
          have w1 := same_upd (o := .lst (es.map txV)) n3
          refine ⟨_, rfl, _, rfl, p, l3, s, md, es, fs, sp, rfl, .inl (SqL.of upd_same), .inl (SqL.of (w1 _ _ hs5)), (Kp.same (b := b) w1).seal L5.bag L5.sl, ok, Bk, Bf, fun v1 G6 y6 hv1 => ?_⟩
          rw [hc1] at hv1
          rw [show v1 = .non from hv1]
          refine ⟨rfl, _, rfl, iteF ?_⟩
          have L6 := L5.same (w1.trans y6)
          have hs6 := y6 _ _ (w1 _ _ hs5)
          refine ⟨_, rfl, _, rfl, _, rfl, e, _, rfl, .inl (SqL.of L6.ent), fun l4 n4 => ?_⟩
          have w2 := same_upd (o := .lst (es.map txV)) n4
          refine ⟨_, rfl, p, s, l4, md, fs, es, sp, rfl, .inl (SqL.of (w2 _ _ hs6)), .inl (SqL.of upd_same), (Kp.same (b := b) w2).seal L6.bag L6.sl, ok, Bf, Bk, fun v2 G7 y7 hv2 => ?_⟩
          rw [hc2] at hv2
          rw [show v2 = .non from hv2]
          refine ⟨rfl, _, rfl, iteF ?_⟩
          exact ⟨_, _, _, _, _, _, _, _, _, _, rfl, L6.same (w2.trans y7)⟩
        rw [decide_eq_false hfe]
        refine iteF ?_
        have hef : es ≠ fs := fun z => hfe z.symm
        -- the stones
        refine ⟨_, rfl, hh, sp, p, es, rfl, SqL.of L5.hds, by omega, fun r1 G6 nr1 y6 hr1 => ⟨_, rfl, ot, sp, p, fs, rfl, SqL.of (y6 _ _ hot), by omega, fun r2 G7 nr2 y7 hr2 => ?_⟩⟩
        refine ⟨_, _, .tup (seqT_same y7 hr1) (dp_tx _), .tup hr2 (dp_tx _), shaped_tup (stones_cod Bk), shaped_tup (stones_cod Bf), _, rfl, ?_⟩
        rw [show PyData.eqv (.tuple ((stonesL sp p es).map pdS)) (.tuple ((stonesL sp p fs).map pdS)) = decide (stonesL sp p es = stonesL sp p fs) from eqv_tx _ _]
        have y67 := y6.trans y7
        have L7 := L5.same y67
        by_cases hns : ¬ stonesL sp p es = stonesL sp p fs
        · rw [decide_eq_false hns]
          exact iteT ⟨_, _, _, _, _, _, _, _, _, _, rfl, L7⟩
        have hst := Classical.not_not.mp hns
        rw [decide_eq_true hst]
        refine iteF ?_
        have hs7 := y67 _ _ hs5
        have hk7 := y67 _ _ hk5
        have hot7 := y67 _ _ hot
        -- due, found
        obtain ⟨x, hx⟩ : ∃ x, x = txT sp p es (lastD sp p es fs es.length - 1) := ⟨_, rfl⟩
        obtain ⟨z, hz⟩ : ∃ z, z = txT sp p fs (lastD sp p es fs es.length - 1) := ⟨_, rfl⟩
        have hcl : clashL sp p es fs = some (x, z) := by
          unfold clashL
          rw [if_neg (fun q => q.elim hef fun q => q hl), if_neg (fun q => q hh2), hx, hz]
        refine ⟨_, rfl, _, rfl, _, rfl, _, rfl, e, kv, hh, ot, es, fs, sp, p, rfl, SqL.of L7.ent, SqL.of hk7, SqL.of L7.hds, SqL.of hot7, ok, Bk, Bf, hl, hef, fun du G8 y8 hdu => ?_⟩
        rw [← hx, ← hz] at hdu
        have L8 := L7.same y8
        refine ⟨_, rfl, _, rfl, e, _, rfl, .inl (SqL.of L8.ent), fun l3 n3 => ?_⟩
        have w1 := same_upd (o := .lst (es.map txV)) n3
        refine ⟨_, rfl, _, rfl, p, l3, s, md, es, fs, sp, rfl, .inl (SqL.of upd_same), .inl (SqL.of (w1 _ _ (y8 _ _ hs7))), (Kp.same (b := b) w1).seal L8.bag L8.sl, ok, Bk, Bf, fun fo G9 y9 hfo => ?_⟩
        rw [hcl] at hfo
        obtain ⟨tf, rfl, htf⟩ := hfo
        refine ⟨two, fun tq ntq => ⟨tq, _, rfl, SqT.of upd_same, rfl, _, _, rfl, _, _, rfl, rfl, ?_⟩⟩
        have w2 := same_upd (o := .tup [.ref du, .ref tf]) ntq
        have y810 := w1.trans (y9.trans w2)
        have L10 := L8.same y810
        have hdu10 := seqT_same y810 hdu
        have htf10 := seqT_same w2 htf
        have hs10 := y810 _ _ (y8 _ _ hs7)
        have hk10 := y810 _ _ (y8 _ _ hk7)
        have pos := lastD_pos (sp := sp) (p := p) hl hef
        have hle := lastD_le (sp := sp) (p := p) (es := es) (fs := fs) es.length
        obtain ⟨jj, hjj⟩ : ∃ jj, lastD sp p es fs es.length = jj + 1 := ⟨lastD sp p es fs es.length - 1, by omega⟩
        have hxz : x ≠ z := by
          have := (lastD_at (sp := sp) (p := p) (es := es) (fs := fs) es.length).1 pos
          rw [hx, hz]
          exact this
        rw [hjj, Nat.add_sub_cancel] at hx hz
        have ji : jj < es.length := by omega
        have jf : jj < fs.length := by omega
        have cz : codeL sp z = codeL sp x := by
          have q1 := lastD_hd (sp := sp) (p := p) hl hh2
          rw [hjj, hd_tx ji, hd_tx jf, ← hx, ← hz] at q1
          exact q1.symm
        have txl : ∀ gs : List (List Nat), BookOk p gs → jj < gs.length → (txT sp p gs jj).length ≤ 5000 := fun gs Bg hg => by
          have h1 := hd_len' ok Bg (i := jj) (by omega)
          have h2 := Bg.el gs[jj] (List.getElem_mem hg)
          have h3 := chain_len (h := hdL sp p gs jj) (e := gs[jj]) (by omega)
          unfold txT
          rw [List.getElem?_eq_getElem hg]
          show (chainL (hdL sp p gs jj) gs[jj]).length ≤ 5000
          omega
        have xl : x.length ≤ 5000 := by rw [hx]; exact txl es Bk ji
        have zl : z.length ≤ 5000 := by rw [hz]; exact txl fs Bf jf
        -- alike, unlike
        refine ⟨_, rfl, _, rfl, .ref tf, .ref du, rfl, lk_two htf10 hdu10, fun G11 y11 => ⟨_, rfl, iteF ?_⟩⟩
        have htf11 := seqT_same y11 htf10
        refine ⟨_, rfl, tf, _, 0, _, rfl, rfl, htf11, atI_nat (j := 0) rfl, _, rfl, tf, _, 1, _, rfl, rfl, htf11, atI_nat (j := 1) rfl, rfl, _, rfl, ?_⟩
        rw [dec_tx, decide_eq_false hxz]
        refine iteF ⟨_, rfl, _, rfl, _, _, rfl, lk_tx (by omega) (SqL.of (y11 _ _ hs10)) (SqL.of (y11 _ _ hk10)), fun G12 y12 => ⟨_, rfl, iteF ?_⟩⟩
        have y112 := y11.trans y12
        have L12' := L10.same y112
        have htf12 := seqT_same y112 htf10
        have hdu12 := seqT_same y112 hdu10
        -- the seals of both
        refine ⟨_, rfl, tf, rfl, ⟨_, htf12⟩, fun D1 nD1 => lc_it walk_tup (fun i G => Same G12 G ∧ G D1 = some (.lst ((List.replicate i (codeL sp x)).map txV))) ⟨same_upd nD1, upd_same⟩ (fun i G _ y => seqT_same y.1 htf12) ?_ ?_⟩
        · rintro n v G13 G14 hn ⟨y13, hD⟩ ⟨rfl, hv⟩
          obtain ⟨l, rfl, hl', ll⟩ : ∃ l, v = txV l ∧ codeL sp l = codeL sp x ∧ l.length ≤ 5000 := by
            have := List.mem_of_getElem? hv
            simp only [List.mem_cons, List.not_mem_nil, or_false] at this
            rcases this with rfl | rfl
            · exact ⟨x, rfl, rfl, xl⟩
            · exact ⟨z, rfl, cz, zl⟩
          have hn2 : n < 2 := hn
          have slh := (Kp.same (b := b) y13).seal L12'.bag L12'.sl
          refine ⟨rfl, ?_⟩
          unfold tYes
          refine iteT ⟨md, sp, rfl, slh, ok, _, rfl, slh, l, rfl, ll, fun G15 y15 => ⟨_, y15 _ _ hD, by rw [List.length_map, List.length_replicate]; exact small1000 (by omega), same_updF nD1 (y13.trans y15), ?_⟩⟩
          rw [upd_same, hl', List.replicate_succ', List.map_append]
          rfl
        rintro G13 ⟨y13, hD1⟩
        have hdu13 := seqT_same y13 hdu12
        have L13 := L12'.same y13
        have htf13 := seqT_same y13 htf12
        refine ⟨_, rfl, tf, rfl, ⟨_, htf13⟩, fun D2 nD2 => lc_it walk_tup (fun i G => Same G13 G ∧ G D2 = some (.lst ((List.replicate i (codeL sp x)).map txV))) ⟨same_upd nD2, upd_same⟩ (fun i G _ y => seqT_same y.1 htf13) ?_ ?_⟩
        · rintro n v G14 G15 hn ⟨y14, hD⟩ ⟨rfl, hv⟩
          have hn2 : n < 2 := hn
          refine ⟨rfl, ?_⟩
          unfold tYes
          refine iteT ⟨_, rfl, _, rfl, du, _, 0, _, rfl, rfl, seqT_same y14 hdu13, atI_nat (j := 0) rfl, t, x, sp, rfl, seqT_same y14 L13.spc, ok, xl, fun G16 y16 => ⟨_, y16 _ _ hD, by rw [List.length_map, List.length_replicate]; exact small1000 (by omega), same_updF nD2 (y14.trans y16), ?_⟩⟩
          rw [upd_same, List.replicate_succ', List.map_append]
          rfl
        rintro G14 ⟨y14, hD2⟩
        refine ⟨_, _, rfl, lk_tx (by show 2 < 1000; decide) (SqL.of (y14 _ _ hD1)) (SqL.of hD2), fun G15 y15 => ⟨_, rfl, iteF ?_⟩⟩
        have y1315 := y14.trans y15
        have L15 := L13.same y1315
        have hdu15 := seqT_same y1315 hdu13
        have hk15 := y1315 _ _ (y13 _ _ (y112 _ _ hk10))
        -- exchanged, as tuples, under a second seal
        have hcl2 : clashL sp p fs es = some (z, x) := by
          unfold clashL
          rw [if_neg (fun q => q.elim (fun q => hef q.symm) fun q => q hl.symm), if_neg (fun q => q hh2.symm), ← hl, lastD_comm, hjj, Nat.add_sub_cancel, hx, hz]
        refine ⟨_, rfl, _, rfl, kv, _, rfl, .inl ⟨SqL.of hk15, fun k1 m1' => ?_⟩⟩
        have w3 := same_upd (o := .tup (fs.map txV)) m1'
        refine ⟨_, rfl, e, _, rfl, .inl ⟨SqL.of (w3 _ _ L15.ent), fun k2 m2' => ?_⟩⟩
        have w4 := same_upd (o := .tup (es.map txV)) m2'
        have w34 := w3.trans w4
        have L16 := L15.same w34
        refine ⟨_, rfl, t, sp, rfl, L16.spc, ok, L16.tab, fun md2 G17 e17 T17 sl17 => ?_⟩
        have L17 := L16.ext e17 T17
        have kx := Kp.ext (b := b) e17
        have hk17 := kx.lst L16.bag (w34 _ _ hk15)
        have hdu17 := kx.sqt L16.bag (seqT_same w34 hdu15)
        have ht1 := kx.sqt L16.bag (SqT.of (w4 _ _ upd_same) : SqT K _ k1 (fs.map txV))
        have ht2 := kx.sqt L16.bag (SqT.of upd_same : SqT K _ k2 (es.map txV))
        refine ⟨p, k1, k2, md2, fs, es, sp, rfl, .inr ht1, .inr ht2, sl17, ok, Bf, Bk, fun v2 G18 y18 hv2 => ?_⟩
        rw [hcl2] at hv2
        obtain ⟨tv, rfl, htv⟩ := hv2
        have hdu18 := seqT_same y18 hdu17
        refine ⟨_, rfl, du, _, 1, _, rfl, rfl, hdu18, atI_nat (j := 1) rfl, _, rfl, du, _, 0, _, rfl, rfl, hdu18, atI_nat (j := 0) rfl, two, fun w1' n1' => ?_⟩
        have w5 := same_upd (o := .tup [txV z, txV x]) n1'
        refine ⟨_, _, rfl, lk_two (seqT_same w5 htv) (SqT.of upd_same), fun G19 y19 => ⟨_, rfl, iteF ?_⟩⟩
        have y1719 := y18.trans (w5.trans y19)
        have L19 := L17.same y1719
        have hk19 := y1719 _ _ hk17
        -- the closings
        refine ⟨_, rfl, _, rfl, _, rfl, p, e, md, es, sp, rfl, .inl (SqL.of L19.ent), L19.sl, ok, Bk, fun x1 G20 nx1 y20 cx => ?_⟩
        have L20 := L19.same y20
        have hk20 := y20 _ _ hk19
        refine ⟨_, rfl, _, rfl, _, rfl, _, rfl, p, kv, md, fs, sp, rfl, .inl (SqL.of hk20), L20.sl, ok, Bf, fun x2 G21 nx2 y21 cy => ?_⟩
        have cx' := cx.same y21
        obtain ⟨dx1, tx1, hx1, htx1⟩ := id cx'
        obtain ⟨dx2, tx2, hx2, htx2⟩ := id cy
        have hce : cloEq sp p p es fs = true := by
          unfold cloEq
          simp only [Bool.and_eq_true, decide_eq_true_eq, true_and]
          exact ⟨hl, hh2, hst⟩
        have hsn : stretchL sp p es fs = none := stretch_none.mpr ⟨hl, hh2, hst⟩
        have L21 := L20.same y21
        refine ⟨x1, x2, dx1, dx2, _, _, rfl, rfl, hx1, hx2, ⟨x1, x2, sp, p, p, es, fs, rfl, cx', cy, Bk, Bf, _, rfl, ?_⟩⟩
        rw [hce]
        refine iteF ⟨_, rfl, x1, dx1, _, rfl, hx1, rfl, _, rfl, _, rfl, x1, kv, md, p, es, fs, sp, rfl, cx', .inl (SqL.of (y21 _ _ hk20)), L21.sl, ok, Bk, Bf, fun v3 G22 y22 hv3 => ?_⟩
        rw [hsn] at hv3
        rw [show v3 = .non from hv3]
        refine ⟨rfl, _, rfl, iteF ?_⟩
        exact ⟨_, _, _, _, _, _, _, _, _, _, rfl, L21.same y22⟩
    · rintro σ G ⟨v6, v8, v9, v10, v11, v12, v13, v14, v15, v16, rfl, L0⟩
      exact q _
end
end My

set_option Elab.async false
set_option linter.all false
set_option maxRecDepth 100000
namespace My
open PySem PySem.Spec PyProof.Rows L2 SX LamX NdefX
set_option maxHeartbeats 1000000 in
theorem all_mk {l : PySem.W.OpenLaw} {w : World} {K : PySem.W.Frag} {h : Heap} {mg : Str → Option Value} {fa TP : Addr} (X : K.In h) (hTP : h.get? TP = some { cls := .none, data := .fields #[] }) (G : h.Ns mainGlobals mg) (hfa : mg "law" = some (.ref fa))
    {CClosing CMadeSeal COwnSeal CWholeSeal CFlatSeal cS : Addr}
    {f0 : Addr} {od0 an0 : Option Addr} {sl0 : Array (Option Value)} {oc0 kV0 dc0 pm0 cd0 ct0 : Value}
    {f1 : Addr} {od1 an1 : Option Addr} {sl1 : Array (Option Value)} {oc1 kV1 dc1 pm1 cd1 ct1 : Value}
    {f2 : Addr} {od2 an2 : Option Addr} {sl2 : Array (Option Value)} {oc2 kV2 dc2 pm2 cd2 ct2 : Value}
    {f3 : Addr} {od3 an3 : Option Addr} {sl3 : Array (Option Value)} {oc3 kV3 dc3 pm3 cd3 ct3 : Value}
    {f4 : Addr} {od4 an4 : Option Addr} {sl4 : Array (Option Value)} {oc4 kV4 dc4 pm4 cd4 ct4 : Value}
    {f5 : Addr} {od5 an5 : Option Addr} {sl5 : Array (Option Value)} {oc5 kV5 dc5 pm5 cd5 ct5 : Value}
    {f6 : Addr} {od6 an6 : Option Addr} {sl6 : Array (Option Value)} {oc6 kV6 dc6 pm6 cd6 ct6 : Value}
    {f7 : Addr} {od7 an7 : Option Addr} {sl7 : Array (Option Value)} {oc7 kV7 dc7 pm7 cd7 ct7 : Value}
    {f8 : Addr} {od8 an8 : Option Addr} {sl8 : Array (Option Value)} {oc8 kV8 dc8 pm8 cd8 ct8 : Value}
    {f9 : Addr} {od9 an9 : Option Addr} {sl9 : Array (Option Value)} {oc9 kV9 dc9 pm9 cd9 ct9 : Value}
    {f10 : Addr} {od10 an10 : Option Addr} {sl10 : Array (Option Value)} {oc10 kV10 dc10 pm10 cd10 ct10 : Value}
    {f11 : Addr} {od11 an11 : Option Addr} {sl11 : Array (Option Value)} {oc11 kV11 dc11 pm11 cd11 ct11 : Value}
    {f12 : Addr} {od12 an12 : Option Addr} {sl12 : Array (Option Value)} {oc12 kV12 dc12 pm12 cd12 ct12 : Value}
    {f13 : Addr} {od13 an13 : Option Addr} {sl13 : Array (Option Value)} {oc13 kV13 dc13 pm13 cd13 ct13 : Value}
    {f14 : Addr} {od14 an14 : Option Addr} {sl14 : Array (Option Value)} {oc14 kV14 dc14 pm14 cd14 ct14 : Value}
    {f15 : Addr} {od15 an15 : Option Addr} {sl15 : Array (Option Value)} {oc15 kV15 dc15 pm15 cd15 ct15 : Value}
    {f16 : Addr} {od16 an16 : Option Addr} {sl16 : Array (Option Value)} {oc16 kV16 dc16 pm16 cd16 ct16 : Value}
    {f17 : Addr} {od17 an17 : Option Addr} {sl17 : Array (Option Value)} {oc17 kV17 dc17 pm17 cd17 ct17 : Value}
    {f18 : Addr} {od18 an18 : Option Addr} {sl18 : Array (Option Value)} {oc18 kV18 dc18 pm18 cd18 ct18 : Value}
    {f19 : Addr} {od19 an19 : Option Addr} {sl19 : Array (Option Value)} {oc19 kV19 dc19 pm19 cd19 ct19 : Value}
    {f20 : Addr} {od20 an20 : Option Addr} {sl20 : Array (Option Value)} {oc20 kV20 dc20 pm20 cd20 ct20 : Value}
    {f21 : Addr} {od21 an21 : Option Addr} {sl21 : Array (Option Value)} {oc21 kV21 dc21 pm21 cd21 ct21 : Value}
    {f22 : Addr} {od22 an22 : Option Addr} {sl22 : Array (Option Value)} {oc22 kV22 dc22 pm22 cd22 ct22 : Value}
    {f23 : Addr} {od23 an23 : Option Addr} {sl23 : Array (Option Value)} {oc23 kV23 dc23 pm23 ct23 : Value}
    {f24 : Addr} {od24 an24 : Option Addr} {sl24 : Array (Option Value)} {oc24 kV24 dc24 pm24 cd24 ct24 : Value}
    {f25 : Addr} {od25 an25 : Option Addr} {sl25 : Array (Option Value)} {oc25 kV25 dc25 pm25 cd25 ct25 : Value}
    {f26 : Addr} {od26 an26 : Option Addr} {sl26 : Array (Option Value)} {oc26 kV26 dc26 pm26 cd26 ct26 : Value}
    {f27 : Addr} {od27 an27 : Option Addr} {sl27 : Array (Option Value)} {oc27 kV27 dc27 pm27 cd27 ct27 : Value}
    {f28 : Addr} {od28 an28 : Option Addr} {sl28 : Array (Option Value)} {oc28 kV28 dc28 pm28 cd28 ct28 : Value}
    {f29 : Addr} {od29 an29 : Option Addr} {sl29 : Array (Option Value)} {oc29 kV29 dc29 pm29 cd29 ct29 : Value}
    {f30 : Addr} {od30 an30 : Option Addr} {sl30 : Array (Option Value)} {oc30 kV30 dc30 pm30 cd30 ct30 : Value}
    {f31 : Addr} {od31 an31 : Option Addr} {sl31 : Array (Option Value)} {oc31 kV31 dc31 pm31 cd31 ct31 : Value}
    {tkMILE : Tok}
    {tkFIRST_SUM : Tok}
    {tkLEAST_MODULUS : Tok}
    {tkMOST_MODULUS : Tok}
    (a0 : PySem.W.nsIn K mainGlobals "is_integer" = some (some (.ref f0)))
    (l0 : K.lookup f0 = some ⟨oc0, od0, .func (PySem.W.fnOf "is_integer" "is_integer" (defArgs sIsInteger) (defBody sIsInteger) (defScope sIsInteger) .none kV0 dc0 pm0 an0 cd0 ct0), sl0⟩) (c0 : PySem.W.codeIn K cd0 "is_integer" = true) (k0 : PySem.W.keepIn K (.ref f0) = true)
    (a1 : PySem.W.nsIn K mainGlobals "is_number" = some (some (.ref f1)))
    (l1 : K.lookup f1 = some ⟨oc1, od1, .func (PySem.W.fnOf "is_number" "is_number" (defArgs sIsNumber) (defBody sIsNumber) (defScope sIsNumber) .none kV1 dc1 pm1 an1 cd1 ct1), sl1⟩) (c1 : PySem.W.codeIn K cd1 "is_number" = true) (k1 : PySem.W.keepIn K (.ref f1) = true)
    (a2 : PySem.W.nsIn K mainGlobals "chained_text" = some (some (.ref f2)))
    (l2 : K.lookup f2 = some ⟨oc2, od2, .func (PySem.W.fnOf "chained_text" "chained_text" (defArgs sChainedText) (defBody sChainedText) (defScope sChainedText) .none kV2 dc2 pm2 an2 cd2 ct2), sl2⟩) (c2 : PySem.W.codeIn K cd2 "chained_text" = true) (k2 : PySem.W.keepIn K (.ref f2) = true)
    (a3 : PySem.W.nsIn K mainGlobals "heads_of" = some (some (.ref f3)))
    (l3 : K.lookup f3 = some ⟨oc3, od3, .func (PySem.W.fnOf "heads_of" "heads_of" (defArgs sHeadsOf) (defBody sHeadsOf) (defScope sHeadsOf) .none kV3 dc3 pm3 an3 cd3 ct3), sl3⟩) (c3 : PySem.W.codeIn K cd3 "heads_of" = true) (k3 : PySem.W.keepIn K (.ref f3) = true)
    (a4 : PySem.W.nsIn K mainGlobals "closing_of" = some (some (.ref f4)))
    (l4 : K.lookup f4 = some ⟨oc4, od4, .func (PySem.W.fnOf "closing_of" "closing_of" (defArgs sClosingOf) (defBody sClosingOf) (defScope sClosingOf) .none kV4 dc4 pm4 an4 cd4 ct4), sl4⟩) (c4 : PySem.W.codeIn K cd4 "closing_of" = true) (k4 : PySem.W.keepIn K (.ref f4) = true)
    (a5 : PySem.W.findIn K (.ref CMadeSeal) "__init__" = some (some (.ref f5))) (i5 : PySem.W.isFn K (.ref f5) = true)
    (l5 : K.lookup f5 = some ⟨oc5, od5, .func (PySem.W.fnOf "__init__" "MadeSeal.__init__" (defArgs sMadeSealInit) (defBody sMadeSealInit) (defScope sMadeSealInit) .none kV5 dc5 pm5 an5 cd5 ct5), sl5⟩) (c5 : PySem.W.codeIn K cd5 "MadeSeal.__init__" = true) (k5 : PySem.W.keepIn K (.ref f5) = true)
    (a6 : PySem.W.findIn K (.ref CMadeSeal) "of" = some (some (.ref f6))) (i6 : PySem.W.isFn K (.ref f6) = true)
    (l6 : K.lookup f6 = some ⟨oc6, od6, .func (PySem.W.fnOf "of" "MadeSeal.of" (defArgs sMadeSealOf) (defBody sMadeSealOf) (defScope sMadeSealOf) .none kV6 dc6 pm6 an6 cd6 ct6), sl6⟩) (c6 : PySem.W.codeIn K cd6 "MadeSeal.of" = true) (k6 : PySem.W.keepIn K (.ref f6) = true)
    (a7 : PySem.W.findIn K (.ref COwnSeal) "__init__" = some (some (.ref f7))) (i7 : PySem.W.isFn K (.ref f7) = true)
    (l7 : K.lookup f7 = some ⟨oc7, od7, .func (PySem.W.fnOf "__init__" "OwnSeal.__init__" (defArgs sOwnSealInit) (defBody sOwnSealInit) (defScope sOwnSealInit) .none kV7 dc7 pm7 an7 cd7 ct7), sl7⟩) (c7 : PySem.W.codeIn K cd7 "OwnSeal.__init__" = true) (k7 : PySem.W.keepIn K (.ref f7) = true)
    (a8 : PySem.W.findIn K (.ref COwnSeal) "of" = some (some (.ref f8))) (i8 : PySem.W.isFn K (.ref f8) = true)
    (l8 : K.lookup f8 = some ⟨oc8, od8, .func (PySem.W.fnOf "of" "OwnSeal.of" (defArgs sOwnSealOf) (defBody sOwnSealOf) (defScope sOwnSealOf) .none kV8 dc8 pm8 an8 cd8 ct8), sl8⟩) (c8 : PySem.W.codeIn K cd8 "OwnSeal.of" = true) (k8 : PySem.W.keepIn K (.ref f8) = true)
    (a9 : PySem.W.findIn K (.ref CWholeSeal) "of" = some (some (.ref f9))) (i9 : PySem.W.isFn K (.ref f9) = true)
    (l9 : K.lookup f9 = some ⟨oc9, od9, .func (PySem.W.fnOf "of" "WholeSeal.of" (defArgs sWholeSealOf) (defBody sWholeSealOf) (defScope sWholeSealOf) .none kV9 dc9 pm9 an9 cd9 ct9), sl9⟩) (c9 : PySem.W.codeIn K cd9 "WholeSeal.of" = true) (k9 : PySem.W.keepIn K (.ref f9) = true)
    (a10 : PySem.W.findIn K (.ref CFlatSeal) "of" = some (some (.ref f10))) (i10 : PySem.W.isFn K (.ref f10) = true)
    (l10 : K.lookup f10 = some ⟨oc10, od10, .func (PySem.W.fnOf "of" "FlatSeal.of" (defArgs sFlatSealOf) (defBody sFlatSealOf) (defScope sFlatSealOf) .none kV10 dc10 pm10 an10 cd10 ct10), sl10⟩) (c10 : PySem.W.codeIn K cd10 "FlatSeal.of" = true) (k10 : PySem.W.keepIn K (.ref f10) = true)
    (a11 : PySem.W.findIn K (.ref CClosing) "__init__" = some (some (.ref f11))) (i11 : PySem.W.isFn K (.ref f11) = true)
    (l11 : K.lookup f11 = some ⟨oc11, od11, .func (PySem.W.fnOf "__init__" "Closing.__init__" (defArgs sClosingInit) (defBody sClosingInit) (defScope sClosingInit) .none kV11 dc11 pm11 an11 cd11 ct11), sl11⟩) (c11 : PySem.W.codeIn K cd11 "Closing.__init__" = true) (k11 : PySem.W.keepIn K (.ref f11) = true)
    (a12 : PySem.W.findIn K (.ref CClosing) "__eq__" = some (some (.ref f12))) (i12 : PySem.W.isFn K (.ref f12) = true)
    (l12 : K.lookup f12 = some ⟨oc12, od12, .func (PySem.W.fnOf "__eq__" "Closing.__eq__" (defArgs sClosingEq) (defBody sClosingEq) (defScope sClosingEq) .none kV12 dc12 pm12 an12 cd12 ct12), sl12⟩) (c12 : PySem.W.codeIn K cd12 "Closing.__eq__" = true) (k12 : PySem.W.keepIn K (.ref f12) = true)
    (a13 : PySem.W.findIn K (.ref CClosing) "stretch" = some (some (.ref f13))) (i13 : PySem.W.isFn K (.ref f13) = true)
    (l13 : K.lookup f13 = some ⟨oc13, od13, .func (PySem.W.fnOf "stretch" "Closing.stretch" (defArgs sClosingStretch) (defBody sClosingStretch) (defScope sClosingStretch) .none kV13 dc13 pm13 an13 cd13 ct13), sl13⟩) (c13 : PySem.W.codeIn K cd13 "Closing.stretch" = true) (k13 : PySem.W.keepIn K (.ref f13) = true)
    (a14 : PySem.W.nsIn K mainGlobals "chained_texts" = some (some (.ref f14)))
    (l14 : K.lookup f14 = some ⟨oc14, od14, .func (PySem.W.fnOf "chained_texts" "chained_texts" (defArgs sChainedTexts) (defBody sChainedTexts) (defScope sChainedTexts) .none kV14 dc14 pm14 an14 cd14 ct14), sl14⟩) (c14 : PySem.W.codeIn K cd14 "chained_texts" = true) (k14 : PySem.W.keepIn K (.ref f14) = true)
    (a15 : PySem.W.nsIn K mainGlobals "clash_of" = some (some (.ref f15)))
    (l15 : K.lookup f15 = some ⟨oc15, od15, .func (PySem.W.fnOf "clash_of" "clash_of" (defArgs sClashOf) (defBody sClashOf) (defScope sClashOf) .none kV15 dc15 pm15 an15 cd15 ct15), sl15⟩) (c15 : PySem.W.codeIn K cd15 "clash_of" = true) (k15 : PySem.W.keepIn K (.ref f15) = true)
    (a16 : PySem.W.nsIn K mainGlobals "_law_bag" = some (some (.ref f16)))
    (l16 : K.lookup f16 = some ⟨oc16, od16, .func (PySem.W.fnOf "_law_bag" "_law_bag" (defArgs sLawBag) (defBody sLawBag) (defScope sLawBag) .none kV16 dc16 pm16 an16 cd16 ct16), sl16⟩) (c16 : PySem.W.codeIn K cd16 "_law_bag" = true) (k16 : PySem.W.keepIn K (.ref f16) = true)
    (a17 : PySem.W.nsIn K mainGlobals "_law_pull" = some (some (.ref f17)))
    (l17 : K.lookup f17 = some ⟨oc17, od17, .func (PySem.W.fnOf "_law_pull" "_law_pull" (defArgs sLawPull) (defBody sLawPull) (defScope sLawPull) .none kV17 dc17 pm17 an17 cd17 ct17), sl17⟩) (c17 : PySem.W.codeIn K cd17 "_law_pull" = true) (k17 : PySem.W.keepIn K (.ref f17) = true)
    (a18 : PySem.W.nsIn K mainGlobals "_law_of" = some (some (.ref f18)))
    (l18 : K.lookup f18 = some ⟨oc18, od18, .func (PySem.W.fnOf "_law_of" "_law_of" (defArgs sLawOf) (defBody sLawOf) (defScope sLawOf) .none kV18 dc18 pm18 an18 cd18 ct18), sl18⟩) (c18 : PySem.W.codeIn K cd18 "_law_of" = true) (k18 : PySem.W.keepIn K (.ref f18) = true)
    (a19 : PySem.W.nsIn K mainGlobals "_law_like" = some (some (.ref f19)))
    (l19 : K.lookup f19 = some ⟨oc19, od19, .func (PySem.W.fnOf "_law_like" "_law_like" (defArgs sLawLike) (defBody sLawLike) (defScope sLawLike) .none kV19 dc19 pm19 an19 cd19 ct19), sl19⟩) (c19 : PySem.W.codeIn K cd19 "_law_like" = true) (k19 : PySem.W.keepIn K (.ref f19) = true)
    (a20 : PySem.W.nsIn K mainGlobals "_law_names" = some (some (.ref f20)))
    (l20 : K.lookup f20 = some ⟨oc20, od20, .func (PySem.W.fnOf "_law_names" "_law_names" (defArgs sLawNames) (defBody sLawNames) (defScope sLawNames) .none kV20 dc20 pm20 an20 cd20 ct20), sl20⟩) (c20 : PySem.W.codeIn K cd20 "_law_names" = true) (k20 : PySem.W.keepIn K (.ref f20) = true)
    (a21 : PySem.W.nsIn K mainGlobals "_law_spec" = some (some (.ref f21)))
    (l21 : K.lookup f21 = some ⟨oc21, od21, .func (PySem.W.fnOf "_law_spec" "_law_spec" (defArgs sLawSpec) (defBody sLawSpec) (defScope sLawSpec) .none kV21 dc21 pm21 an21 cd21 ct21), sl21⟩) (c21 : PySem.W.codeIn K cd21 "_law_spec" = true) (k21 : PySem.W.keepIn K (.ref f21) = true)
    (a22 : PySem.W.nsIn K mainGlobals "_law_own" = some (some (.ref f22)))
    (l22 : K.lookup f22 = some ⟨oc22, od22, .func (PySem.W.fnOf "_law_own" "_law_own" (defArgs sLawOwn) (defBody sLawOwn) (defScope sLawOwn) .none kV22 dc22 pm22 an22 cd22 ct22), sl22⟩) (c22 : PySem.W.codeIn K cd22 "_law_own" = true) (k22 : PySem.W.keepIn K (.ref f22) = true)
    (a23 : PySem.W.nsIn K mainGlobals "_law_seal" = some (some (.ref f23)))
    (l23 : K.lookup f23 = some ⟨oc23, od23, .func (PySem.W.fnOf "_law_seal" "_law_seal" (defArgs sLawSeal) (defBody sLawSeal) (defScope sLawSeal) .none kV23 dc23 pm23 an23 (.ref cS) ct23), sl23⟩) (c23 : PySem.W.codeIn K (.ref cS) "_law_seal" = true) (k23 : PySem.W.keepIn K (.ref f23) = true)
    (a24 : PySem.W.nsIn K mainGlobals "_law_code" = some (some (.ref f24)))
    (l24 : K.lookup f24 = some ⟨oc24, od24, .func (PySem.W.fnOf "_law_code" "_law_code" (defArgs sLawCode) (defBody sLawCode) (defScope sLawCode) .none kV24 dc24 pm24 an24 cd24 ct24), sl24⟩) (c24 : PySem.W.codeIn K cd24 "_law_code" = true) (k24 : PySem.W.keepIn K (.ref f24) = true)
    (a25 : PySem.W.nsIn K mainGlobals "_law_heads" = some (some (.ref f25)))
    (l25 : K.lookup f25 = some ⟨oc25, od25, .func (PySem.W.fnOf "_law_heads" "_law_heads" (defArgs sLawHeads) (defBody sLawHeads) (defScope sLawHeads) .none kV25 dc25 pm25 an25 cd25 ct25), sl25⟩) (c25 : PySem.W.codeIn K cd25 "_law_heads" = true) (k25 : PySem.W.keepIn K (.ref f25) = true)
    (a26 : PySem.W.nsIn K mainGlobals "_law_stones" = some (some (.ref f26)))
    (l26 : K.lookup f26 = some ⟨oc26, od26, .func (PySem.W.fnOf "_law_stones" "_law_stones" (defArgs sLawStones) (defBody sLawStones) (defScope sLawStones) .none kV26 dc26 pm26 an26 cd26 ct26), sl26⟩) (c26 : PySem.W.codeIn K cd26 "_law_stones" = true) (k26 : PySem.W.keepIn K (.ref f26) = true)
    (a27 : PySem.W.nsIn K mainGlobals "_law_entry" = some (some (.ref f27)))
    (l27 : K.lookup f27 = some ⟨oc27, od27, .func (PySem.W.fnOf "_law_entry" "_law_entry" (defArgs sLawEntry) (defBody sLawEntry) (defScope sLawEntry) .none kV27 dc27 pm27 an27 cd27 ct27), sl27⟩) (c27 : PySem.W.codeIn K cd27 "_law_entry" = true) (k27 : PySem.W.keepIn K (.ref f27) = true)
    (a28 : PySem.W.nsIn K mainGlobals "_law_altered" = some (some (.ref f28)))
    (l28 : K.lookup f28 = some ⟨oc28, od28, .func (PySem.W.fnOf "_law_altered" "_law_altered" (defArgs sLawAltered) (defBody sLawAltered) (defScope sLawAltered) .none kV28 dc28 pm28 an28 cd28 ct28), sl28⟩) (c28 : PySem.W.codeIn K cd28 "_law_altered" = true) (k28 : PySem.W.keepIn K (.ref f28) = true)
    (a29 : PySem.W.nsIn K mainGlobals "_law_sealed_at" = some (some (.ref f29)))
    (l29 : K.lookup f29 = some ⟨oc29, od29, .func (PySem.W.fnOf "_law_sealed_at" "_law_sealed_at" (defArgs sLawSealedAt) (defBody sLawSealedAt) (defScope sLawSealedAt) .none kV29 dc29 pm29 an29 cd29 ct29), sl29⟩) (c29 : PySem.W.codeIn K cd29 "_law_sealed_at" = true) (k29 : PySem.W.keepIn K (.ref f29) = true)
    (a30 : PySem.W.nsIn K mainGlobals "_law_clash" = some (some (.ref f30)))
    (l30 : K.lookup f30 = some ⟨oc30, od30, .func (PySem.W.fnOf "_law_clash" "_law_clash" (defArgs sLawClash) (defBody sLawClash) (defScope sLawClash) .none kV30 dc30 pm30 an30 cd30 ct30), sl30⟩) (c30 : PySem.W.codeIn K cd30 "_law_clash" = true) (k30 : PySem.W.keepIn K (.ref f30) = true)
    (a31 : PySem.W.nsIn K mainGlobals "law" = some (some (.ref f31)))
    (l31 : K.lookup f31 = some ⟨oc31, od31, .func (PySem.W.fnOf "law" "law" (defArgs sLaw) (defBody sLaw) (defScope sLaw) .none kV31 dc31 pm31 an31 cd31 ct31), sl31⟩) (c31 : PySem.W.codeIn K cd31 "law" = true) (k31 : PySem.W.keepIn K (.ref f31) = true)
    (aCClosing : PySem.W.nsIn K mainGlobals "Closing" = some (some (.ref CClosing))) (pgClosing : PySem.W.plainGet K CClosing Str.empty = true) (hdClosing : PySem.W.hasDictIn K CClosing = true) (poClosing : PySem.W.plainOver K CClosing = true) (saClosing : PySem.W.findIn K (.ref CClosing) "__setattr__" = some (some (.builtin "object.__setattr__"))) (mkClosing : PySem.W.makesIn K CClosing = true) (kcClosing : PySem.W.keepIn K (.ref CClosing) = true)
    (aCMadeSeal : PySem.W.nsIn K mainGlobals "MadeSeal" = some (some (.ref CMadeSeal))) (pgMadeSeal : PySem.W.plainGet K CMadeSeal Str.empty = true) (hdMadeSeal : PySem.W.hasDictIn K CMadeSeal = true) (poMadeSeal : PySem.W.plainOver K CMadeSeal = true) (saMadeSeal : PySem.W.findIn K (.ref CMadeSeal) "__setattr__" = some (some (.builtin "object.__setattr__"))) (mkMadeSeal : PySem.W.makesIn K CMadeSeal = true) (kcMadeSeal : PySem.W.keepIn K (.ref CMadeSeal) = true)
    (aCOwnSeal : PySem.W.nsIn K mainGlobals "OwnSeal" = some (some (.ref COwnSeal))) (pgOwnSeal : PySem.W.plainGet K COwnSeal Str.empty = true) (hdOwnSeal : PySem.W.hasDictIn K COwnSeal = true) (poOwnSeal : PySem.W.plainOver K COwnSeal = true) (saOwnSeal : PySem.W.findIn K (.ref COwnSeal) "__setattr__" = some (some (.builtin "object.__setattr__"))) (mkOwnSeal : PySem.W.makesIn K COwnSeal = true) (kcOwnSeal : PySem.W.keepIn K (.ref COwnSeal) = true)
    (aCWholeSeal : PySem.W.nsIn K mainGlobals "WholeSeal" = some (some (.ref CWholeSeal))) (pgWholeSeal : PySem.W.plainGet K CWholeSeal Str.empty = true) (hdWholeSeal : PySem.W.hasDictIn K CWholeSeal = true) (poWholeSeal : PySem.W.plainOver K CWholeSeal = true) (saWholeSeal : PySem.W.findIn K (.ref CWholeSeal) "__setattr__" = some (some (.builtin "object.__setattr__"))) (mkWholeSeal : PySem.W.makesIn K CWholeSeal = true) (kcWholeSeal : PySem.W.keepIn K (.ref CWholeSeal) = true)
    (aCFlatSeal : PySem.W.nsIn K mainGlobals "FlatSeal" = some (some (.ref CFlatSeal))) (pgFlatSeal : PySem.W.plainGet K CFlatSeal Str.empty = true) (hdFlatSeal : PySem.W.hasDictIn K CFlatSeal = true) (poFlatSeal : PySem.W.plainOver K CFlatSeal = true) (saFlatSeal : PySem.W.findIn K (.ref CFlatSeal) "__setattr__" = some (some (.builtin "object.__setattr__"))) (mkFlatSeal : PySem.W.makesIn K CFlatSeal = true) (kcFlatSeal : PySem.W.keepIn K (.ref CFlatSeal) = true)
    (inWholeSeal : PySem.W.findIn K (.ref CWholeSeal) "__init__" = some (some (.builtin "object.__init__")))
    (inFlatSeal : PySem.W.findIn K (.ref CFlatSeal) "__init__" = some (some (.builtin "object.__init__")))
    (nClosingplace : PySem.W.findIn K (.ref CClosing) "place" = some none)
    (nClosingnumber : PySem.W.findIn K (.ref CClosing) "number" = some none)
    (nClosinglast_head : PySem.W.findIn K (.ref CClosing) "last_head" = some none)
    (nClosingmilestones : PySem.W.findIn K (.ref CClosing) "milestones" = some none)
    (nMadeSeal_modulus : PySem.W.findIn K (.ref CMadeSeal) "_modulus" = some none)
    (nOwnSeal_function : PySem.W.findIn K (.ref COwnSeal) "_function" = some none)
    (ha : PySem.W.findIn K (.ref CClosing) "__class__" = some (some (.builtin "object.__class__"))) (hn : PySem.W.specialIn K (.builtin "object.__class__") "__get__" = some (some (.builtin "getset_descriptor.__get__"))) (htk : PySem.W.takesIn K (.builtin "object.__class__") = some true) (hm : PySem.W.mroIn K CClosing (.type "object") = some true)
    (b_int : PySem.W.nsIn K mainGlobals "int" = some none)
    (b_list : PySem.W.nsIn K mainGlobals "list" = some none)
    (b_len : PySem.W.nsIn K mainGlobals "len" = some none)
    (b_abs : PySem.W.nsIn K mainGlobals "abs" = some none)
    (b_sum : PySem.W.nsIn K mainGlobals "sum" = some none)
    (b_isinstance : PySem.W.nsIn K mainGlobals "isinstance" = some none)
    (b_tuple : PySem.W.nsIn K mainGlobals "tuple" = some none)
    (b_bool : PySem.W.nsIn K mainGlobals "bool" = some none)
    (b_str : PySem.W.nsIn K mainGlobals "str" = some none)
    (b_all : PySem.W.nsIn K mainGlobals "all" = some none)
    (b_zip : PySem.W.nsIn K mainGlobals "zip" = some none)
    (b_ord : PySem.W.nsIn K mainGlobals "ord" = some none)
    (b_range : PySem.W.nsIn K mainGlobals "range" = some none)
    (b_min : PySem.W.nsIn K mainGlobals "min" = some none)
    (b_max : PySem.W.nsIn K mainGlobals "max" = some none)
    (gMILE : PySem.W.nsIn K mainGlobals "MILE" = some (some (.int 4 tkMILE)))
    (gFIRST_SUM : PySem.W.nsIn K mainGlobals "FIRST_SUM" = some (some (.int 7 tkFIRST_SUM)))
    (gLEAST_MODULUS : PySem.W.nsIn K mainGlobals "LEAST_MODULUS" = some (some (.int 2 tkLEAST_MODULUS)))
    (gMOST_MODULUS : PySem.W.nsIn K mainGlobals "MOST_MODULUS" = some (some (.int 1000000000 tkMOST_MODULUS)))
    (nT : K.lookup TP = none) (cT : PySem.W.codeHdIn K cS TP = true) :
    LamX.LawAtS l w K CX0 7 63 "script" mg fa h := by
  have e := hfa.symm.trans (PySem.W.mg_of X G a31)
  cases e
  have F0 := fun_mk (st := sIsInteger) l0 c0 k0
  have B0 := F0.binds (ps := ["value"]) fun _ _ _ _ _ _ us hl => match us, hl with | [_], _ => rfl
  have F1 := fun_mk (st := sIsNumber) l1 c1 k1
  have B1 := F1.binds (ps := ["value", "least", "most"]) fun _ _ _ _ _ _ us hl => match us, hl with | [_, _, _], _ => rfl
  have F2 := fun_mk (st := sChainedText) l2 c2 k2
  have B2 := F2.binds (ps := ["head", "entry"]) fun _ _ _ _ _ _ us hl => match us, hl with | [_, _], _ => rfl
  have F3 := fun_mk (st := sHeadsOf) l3 c3 k3
  have B3 := F3.binds (ps := ["place", "entries", "seal"]) fun _ _ _ _ _ _ us hl => match us, hl with | [_, _, _], _ => rfl
  have F4 := fun_mk (st := sClosingOf) l4 c4 k4
  have B4 := F4.binds (ps := ["place", "entries", "seal"]) fun _ _ _ _ _ _ us hl => match us, hl with | [_, _, _], _ => rfl
  have F5 := fun_mk (st := sMadeSealInit) l5 c5 k5
  have B5 := F5.binds (ps := ["self", "number"]) fun _ _ _ _ _ _ us hl => match us, hl with | [_, _], _ => rfl
  have F6 := fun_mk (st := sMadeSealOf) l6 c6 k6
  have B6 := F6.binds (ps := ["self", "text"]) fun _ _ _ _ _ _ us hl => match us, hl with | [_, _], _ => rfl
  have F7 := fun_mk (st := sOwnSealInit) l7 c7 k7
  have B7 := F7.binds (ps := ["self", "function"]) fun _ _ _ _ _ _ us hl => match us, hl with | [_, _], _ => rfl
  have F8 := fun_mk (st := sOwnSealOf) l8 c8 k8
  have B8 := F8.binds (ps := ["self", "text"]) fun _ _ _ _ _ _ us hl => match us, hl with | [_, _], _ => rfl
  have F9 := fun_mk (st := sWholeSealOf) l9 c9 k9
  have B9 := F9.binds (ps := ["self", "text"]) fun _ _ _ _ _ _ us hl => match us, hl with | [_, _], _ => rfl
  have F10 := fun_mk (st := sFlatSealOf) l10 c10 k10
  have B10 := F10.binds (ps := ["self", "text"]) fun _ _ _ _ _ _ us hl => match us, hl with | [_, _], _ => rfl
  have F11 := fun_mk (st := sClosingInit) l11 c11 k11
  have B11 := F11.binds (ps := ["self", "place", "number", "last_head", "milestones"]) fun _ _ _ _ _ _ us hl => match us, hl with | [_, _, _, _, _], _ => rfl
  have F12 := fun_mk (st := sClosingEq) l12 c12 k12
  have B12 := F12.binds (ps := ["self", "other"]) fun _ _ _ _ _ _ us hl => match us, hl with | [_, _], _ => rfl
  have F13 := fun_mk (st := sClosingStretch) l13 c13 k13
  have B13 := F13.binds (ps := ["self", "entries", "seal"]) fun _ _ _ _ _ _ us hl => match us, hl with | [_, _, _], _ => rfl
  have F14 := fun_mk (st := sChainedTexts) l14 c14 k14
  have B14 := F14.binds (ps := ["heads", "entries"]) fun _ _ _ _ _ _ us hl => match us, hl with | [_, _], _ => rfl
  have F15 := fun_mk (st := sClashOf) l15 c15 k15
  have B15 := F15.binds (ps := ["place", "first", "second", "seal"]) fun _ _ _ _ _ _ us hl => match us, hl with | [_, _, _, _], _ => rfl
  have F16 := fun_mk (st := sLawBag) l16 c16 k16
  have B16 := F16.binds (ps := ["script"]) fun _ _ _ _ _ _ us hl => match us, hl with | [_], _ => rfl
  have F17 := fun_mk (st := sLawPull) l17 c17 k17
  have B17 := F17.binds (ps := ["bag", "many"]) fun _ _ _ _ _ _ us hl => match us, hl with | [_, _], _ => rfl
  have F18 := fun_mk (st := sLawOf) l18 c18 k18
  have B18 := F18.binds (ps := ["bag", "some"]) fun _ _ _ _ _ _ us hl => match us, hl with | [_, _], _ => rfl
  have F19 := fun_mk (st := sLawLike) l19 c19 k19
  have B19 := F19.binds (ps := ["found", "due"]) fun _ _ _ _ _ _ us hl => match us, hl with | [_, _], _ => rfl
  have F20 := fun_mk (st := sLawNames) l20 c20 k20
  have B20 := F20.binds (ps := ["bag", "many"]) fun _ _ _ _ _ _ us hl => match us, hl with | [_, _], _ => rfl
  have F21 := fun_mk (st := sLawSpec) l21 c21 k21
  have B21 := F21.binds (ps := ["bag"]) fun _ _ _ _ _ _ us hl => match us, hl with | [_], _ => rfl
  have F22 := fun_mk (st := sLawOwn) l22 c22 k22
  have B22 := F22.binds (ps := ["k", "heard"]) fun _ _ _ _ _ _ us hl => match us, hl with | [_, _], _ => rfl
  have F23 := fun_mk (st := sLawSeal) l23 c23 k23
  have B23 := F23.binds (ps := ["spec"]) fun _ _ _ _ _ _ us hl => match us, hl with | [_], _ => rfl
  have F24 := fun_mk (st := sLawCode) l24 c24 k24
  have B24 := F24.binds (ps := ["spec", "heard"]) fun _ _ _ _ _ _ us hl => match us, hl with | [_, _], _ => rfl
  have F25 := fun_mk (st := sLawHeads) l25 c25 k25
  have B25 := F25.binds (ps := ["spec", "place_z", "entries"]) fun _ _ _ _ _ _ us hl => match us, hl with | [_, _, _], _ => rfl
  have F26 := fun_mk (st := sLawStones) l26 c26 k26
  have B26 := F26.binds (ps := ["heads"]) fun _ _ _ _ _ _ us hl => match us, hl with | [_], _ => rfl
  have F27 := fun_mk (st := sLawEntry) l27 c27 k27
  have B27 := F27.binds (ps := ["bag"]) fun _ _ _ _ _ _ us hl => match us, hl with | [_], _ => rfl
  have F28 := fun_mk (st := sLawAltered) l28 c28 k28
  have B28 := F28.binds (ps := ["bag", "entries", "same"]) fun _ _ _ _ _ _ us hl => match us, hl with | [_, _, _], _ => rfl
  have F29 := fun_mk (st := sLawSealedAt) l29 c29 k29
  have B29 := F29.binds (ps := ["heads", "entries", "k"]) fun _ _ _ _ _ _ us hl => match us, hl with | [_, _, _], _ => rfl
  have F30 := fun_mk (st := sLawClash) l30 c30 k30
  have B30 := F30.binds (ps := ["first", "second", "heads", "others"]) fun _ _ _ _ _ _ us hl => match us, hl with | [_, _, _, _], _ => rfl
  have F31 := fun_mk (st := sLaw) l31 c31 k31
  have B31 := F31.binds (ps := ["script"]) fun _ _ _ _ _ _ us hl => match us, hl with | [_], _ => rfl
  have m_int := PySem.W.mg_none_of X G b_int
  have m_list := PySem.W.mg_none_of X G b_list
  have m_len := PySem.W.mg_none_of X G b_len
  have m_abs := PySem.W.mg_none_of X G b_abs
  have m_sum := PySem.W.mg_none_of X G b_sum
  have m_isinstance := PySem.W.mg_none_of X G b_isinstance
  have m_tuple := PySem.W.mg_none_of X G b_tuple
  have m_bool := PySem.W.mg_none_of X G b_bool
  have m_str := PySem.W.mg_none_of X G b_str
  have m_all := PySem.W.mg_none_of X G b_all
  have m_zip := PySem.W.mg_none_of X G b_zip
  have m_ord := PySem.W.mg_none_of X G b_ord
  have m_range := PySem.W.mg_none_of X G b_range
  have m_min := PySem.W.mg_none_of X G b_min
  have m_max := PySem.W.mg_none_of X G b_max
  refine ⟨PySem.W.fnOf "law" "law" (defArgs sLaw) (defBody sLaw) (defScope sLaw) .none kV31 dc31 pm31 an31 cd31 ct31, [(cS, TP)], spLaw K TP, ?_, ?_, ?_, fun s v => .of_eq rfl, fun H a ns _ _ hH hS => ⟨a, ns, rfl, hS, LamX.TabS.nil (hH _ (List.mem_singleton.mpr rfl)), fun _ => rfl⟩, fun base _ _ hB => ?_⟩
  · intro p hp; rw [List.mem_singleton.mp hp]; exact hTP
  · intro p hp; rw [List.mem_singleton.mp hp]; exact nT
  · intro p hp; rw [List.mem_singleton.mp hp]; exact PySem.W.codeHd_of_K X cT
  have TB := hB _ (List.mem_singleton.mpr rfl)
  have TClosing : Cls K CClosing := ⟨pgClosing, hdClosing, poClosing, saClosing⟩
  have TMadeSeal : Cls K CMadeSeal := ⟨pgMadeSeal, hdMadeSeal, poMadeSeal, saMadeSeal⟩
  have TOwnSeal : Cls K COwnSeal := ⟨pgOwnSeal, hdOwnSeal, poOwnSeal, saOwnSeal⟩
  have TWholeSeal : Cls K CWholeSeal := ⟨pgWholeSeal, hdWholeSeal, poWholeSeal, saWholeSeal⟩
  have TFlatSeal : Cls K CFlatSeal := ⟨pgFlatSeal, hdFlatSeal, poFlatSeal, saFlatSeal⟩
  have MClosing : Mk K CClosing f11 := ⟨mkClosing, a11, i11, kcClosing⟩
  have MMadeSeal : Mk K CMadeSeal f5 := ⟨mkMadeSeal, a5, i5, kcMadeSeal⟩
  have MOwnSeal : Mk K COwnSeal f7 := ⟨mkOwnSeal, a7, i7, kcOwnSeal⟩
  have OWholeSeal : CalO K mg "WholeSeal" CWholeSeal := ⟨mkWholeSeal, inWholeSeal, kcWholeSeal, PySem.W.mg_of X G aCWholeSeal⟩
  have OFlatSeal : CalO K mg "FlatSeal" CFlatSeal := ⟨mkFlatSeal, inFlatSeal, kcFlatSeal, PySem.W.mg_of X G aCFlatSeal⟩
  have CT : CloT K mg CClosing := ⟨TClosing, nClosingplace, nClosingnumber, nClosinglast_head, nClosingmilestones, PySem.W.mg_of X G aCClosing, ha, hn, htk, hm⟩
  have II : Cal l.prog w K mg base "is_integer" 1 ["value"] spInt f0 _ := ⟨ok_integer (k := 0) F0 m_isinstance m_int m_bool, PySem.W.mg_of X G a0, k0, B0⟩
  have IN : Cal l.prog w K mg base "is_number" 2 ["value", "least", "most"] spNumb f1 _ := ⟨ok_numb (k := 0) F1 II, PySem.W.mg_of X G a1, k1, B1⟩
  have Ch : Cal l.prog w K mg base "chained_text" 1 ["head", "entry"] spChain f2 _ := ⟨ok_chain (k := 0) F2 m_len, PySem.W.mg_of X G a2, k2, B2⟩
  have MkM : CalC l.prog w K mg base "MadeSeal" CMadeSeal 3 ["self", "number"] (spMadeInit CMadeSeal) f5 _ := ⟨MMadeSeal, ok_made_init (k := 0) F5 TMadeSeal nMadeSeal_modulus IN (PySem.W.mg_of X G gLEAST_MODULUS) (PySem.W.mg_of X G gMOST_MODULUS), PySem.W.mg_of X G aCMadeSeal, B5⟩
  have MkO : CalC l.prog w K mg base "OwnSeal" COwnSeal 1 ["self", "function"] (spOwnInit COwnSeal) f7 _ := ⟨MOwnSeal, ok_own_init (k := 0) F7 TOwnSeal nOwnSeal_function, PySem.W.mg_of X G aCOwnSeal, B7⟩
  have Ow : Cal l.prog w K mg base "_law_own" 1 ["k", "heard"] spOwn f22 _ := ⟨ok_own (k := 0) F22 m_ord m_str m_int m_sum, PySem.W.mg_of X G a22, k22, B22⟩
  have oM : CalM l.prog w K mg base CMadeSeal "of" 3 ["self", "text"] (spMadeOf CMadeSeal) f6 _ := ⟨TMadeSeal, ⟨a6, i6, k6⟩, ok_made_of (k := 2) F6 TMadeSeal nMadeSeal_modulus m_ord m_str (PySem.W.mg_of X G gFIRST_SUM), B6⟩
  have oO : CalM l.prog w K mg base COwnSeal "of" 3 ["self", "text"] (spOwnOf COwnSeal) f8 _ := ⟨TOwnSeal, ⟨a8, i8, k8⟩, ok_own_of (k := 0) F8 TOwnSeal nOwnSeal_function Ow, B8⟩
  have oW : CalM l.prog w K mg base CWholeSeal "of" 3 ["self", "text"] spWholeOf f9 _ := ⟨TWholeSeal, ⟨a9, i9, k9⟩, ok_whole_of (k := 2) F9, B9⟩
  have oF : CalM l.prog w K mg base CFlatSeal "of" 3 ["self", "text"] spFlatOf f10 _ := ⟨TFlatSeal, ⟨a10, i10, k10⟩, ok_flat_of (k := 2) F10, B10⟩
  have Sl : Seals l.prog w K mg base ⟨CMadeSeal, COwnSeal, CWholeSeal, CFlatSeal⟩ 3 := ⟨⟨_, _, oM⟩, ⟨_, _, oO⟩, ⟨_, _, oW⟩, ⟨_, _, oF⟩⟩
  have Ho : Cal l.prog w K mg base "heads_of" 4 ["place", "entries", "seal"] (spHeads K ⟨CMadeSeal, COwnSeal, CWholeSeal, CFlatSeal⟩) f3 _ := ⟨ok_heads (k := 0) F3 Ch Sl, PySem.W.mg_of X G a3, k3, B3⟩
  have MkC : CalC l.prog w K mg base "Closing" CClosing 1 ["self", "place", "number", "last_head", "milestones"] (spCloInit K CClosing) f11 _ := ⟨MClosing, ok_clo_init (k := 0) F11 CT m_tuple, PySem.W.mg_of X G aCClosing, B11⟩
  have Cl : Cal l.prog w K mg base "closing_of" 5 ["place", "entries", "seal"] (spClo K ⟨CMadeSeal, COwnSeal, CWholeSeal, CFlatSeal⟩ CClosing) f4 _ := ⟨ok_closing (k := 0) F4 Ho MkC m_len (PySem.W.mg_of X G gMILE), PySem.W.mg_of X G a4, k4, B4⟩
  have Eq : CalM l.prog w K mg base CClosing "__eq__" 1 ["self", "other"] (spEqC K CClosing) f12 _ := ⟨TClosing, ⟨a12, i12, k12⟩, ok_clo_eq (k := 0) F12 CT m_isinstance, B12⟩
  have Sm : CalM l.prog w K mg base CClosing "stretch" 6 ["self", "entries", "seal"] (spStretch K ⟨CMadeSeal, COwnSeal, CWholeSeal, CFlatSeal⟩ CClosing) f13 _ := ⟨TClosing, ⟨a13, i13, k13⟩, ok_stretch (k := 0) F13 CT Cl Eq m_min m_max m_range (PySem.W.mg_of X G gMILE), B13⟩
  have Ba : Cal l.prog w K mg base "_law_bag" 1 ["script"] (spBag K) f16 _ := ⟨ok_bag (k := 0) F16 m_int m_list m_len m_sum, PySem.W.mg_of X G a16, k16, B16⟩
  have D : Cal l.prog w K mg base "_law_pull" 1 ["bag", "many"] (spDrawC K) f17 _ := ⟨ok_pullC (k := 0) F17 m_int m_len m_abs, PySem.W.mg_of X G a17, k17, B17⟩
  have O : Cal l.prog w K mg base "_law_of" 2 ["bag", "some"] (spOfC K) f18 _ := ⟨ok_ofC (k := 0) F18 D m_len, PySem.W.mg_of X G a18, k18, B18⟩
  have OS : Cal l.prog w K mg base "_law_of" 2 ["bag", "some"] (spOfSC K) f18 _ := ⟨ok_ofSC (k := 0) F18 D m_len, PySem.W.mg_of X G a18, k18, B18⟩
  have Li : Cal l.prog w K mg base "_law_like" 3 ["found", "due"] (spLike K 2) f19 _ := ⟨ok_like F19 (PySem.W.mg_of X G a19) B19 m_isinstance m_list m_tuple m_bool m_str m_int m_len m_all m_zip 2, PySem.W.mg_of X G a19, k19, B19⟩
  have Na : Cal l.prog w K mg base "_law_names" 3 ["bag", "many"] (spNames K) f20 _ := ⟨ok_names (k := 0) F20 D O OS m_int m_range m_len, PySem.W.mg_of X G a20, k20, B20⟩
  have Spc : Cal l.prog w K mg base "_law_spec" 3 ["bag"] (spSpec K) f21 _ := ⟨ok_spec (k := 0) F21 D O, PySem.W.mg_of X G a21, k21, B21⟩
  have En : Cal l.prog w K mg base "_law_entry" 3 ["bag"] (spEntry K) f27 _ := ⟨ok_entry (k := 0) F27 D O OS m_str m_range, PySem.W.mg_of X G a27, k27, B27⟩
  have Al : Cal l.prog w K mg base "_law_altered" 4 ["bag", "entries", "same"] (spAlt K) f28 _ := ⟨ok_altered (k := 0) F28 D En m_len m_range, PySem.W.mg_of X G a28, k28, B28⟩
  have Co : Cal l.prog w K mg base "_law_code" 2 ["spec", "heard"] (spCode K) f24 _ := ⟨ok_code (k := 0) F24 Ow m_int m_ord m_str, PySem.W.mg_of X G a24, k24, B24⟩
  have He : Cal l.prog w K mg base "_law_heads" 3 ["spec", "place_z", "entries"] (spLawHeads K) f25 _ := ⟨ok_law_heads (k := 0) F25 Co m_len m_str, PySem.W.mg_of X G a25, k25, B25⟩
  have St : Cal l.prog w K mg base "_law_stones" 1 ["heads"] (spStones K) f26 _ := ⟨ok_stones (k := 0) F26 m_tuple m_len m_range, PySem.W.mg_of X G a26, k26, B26⟩
  have Se : Cal l.prog w K mg base "_law_seal" 5 ["spec"] (spSeal K ⟨CMadeSeal, COwnSeal, CWholeSeal, CFlatSeal⟩ TP) f23 _ := ⟨ok_seal (k := 0) l23 c23 TB MkM MkO OWholeSeal OFlatSeal, PySem.W.mg_of X G a23, k23, B23⟩
  have Cx : Cal l.prog w K mg base "chained_texts" 2 ["heads", "entries"] (spTexts K) f14 _ := ⟨ok_texts (k := 0) F14 Ch m_zip, PySem.W.mg_of X G a14, k14, B14⟩
  have Cz : Cal l.prog w K mg base "clash_of" 5 ["place", "first", "second", "seal"] (spClash K ⟨CMadeSeal, COwnSeal, CWholeSeal, CFlatSeal⟩) f15 _ := ⟨ok_clash (k := 0) F15 Ho Cx m_list m_len m_zip, PySem.W.mg_of X G a15, k15, B15⟩
  have Sa : Cal l.prog w K mg base "_law_sealed_at" 1 ["heads", "entries", "k"] (spSealedAt K) f29 _ := ⟨ok_sealed (k := 0) F29 m_len m_str, PySem.W.mg_of X G a29, k29, B29⟩
  have Lz : Cal l.prog w K mg base "_law_clash" 2 ["first", "second", "heads", "others"] (spLClash K) f30 _ := ⟨ok_lclash (k := 0) F30 Sa m_len m_range, PySem.W.mg_of X G a30, k30, B30⟩
  exact ok_law F31 Ba D O Li Na Spc En Al He St Se Cl Eq Sm Cz Lz Co Sl m_range m_len m_list m_tuple
end My
open PySem PySem.W PyProof.Rows
set_option maxRecDepth 100000 in
set_option maxHeartbeats 0 in
theorem PySem.Challenge.cw_soleheld_k31_whole_clashes_of_lists_holds : PySem.Challenge.rw_soleheld_k31_whole_clashes_of_lists.Holds := by
  w_on; o_law; k_head; (case hw => w_witness2)
  k_fill
  refine LamX.walk_ofTs (l := PySem.Challenge.rw_soleheld_k31_whole_clashes_of_lists) (n := 63) (k := 7) (x := "script") (CX := fun _ => L2.CX0) rfl (by decide) rfl ⟨rfl, by decide, by decide⟩ (fun w h Y => PySem.W.km_in_of Y) ?F (fun _ _ _ _ _ h => h)
  case F =>
    intro w mg fa h Y KX G hmg
    have hT8 := PySem.W.km_tabs_of Y
    refine' My.all_mk (TP := 278) KX (hT8 _ (List.mem_singleton.mpr rfl)) G hmg ?a0 ?l0 ?c0 ?k0 ?a1 ?l1 ?c1 ?k1 ?a2 ?l2 ?c2 ?k2 ?a3 ?l3 ?c3 ?k3 ?a4 ?l4 ?c4 ?k4 ?a5 ?i5 ?l5 ?c5 ?k5 ?a6 ?i6 ?l6 ?c6 ?k6 ?a7 ?i7 ?l7 ?c7 ?k7 ?a8 ?i8 ?l8 ?c8 ?k8 ?a9 ?i9 ?l9 ?c9 ?k9 ?a10 ?i10 ?l10 ?c10 ?k10 ?a11 ?i11 ?l11 ?c11 ?k11 ?a12 ?i12 ?l12 ?c12 ?k12 ?a13 ?i13 ?l13 ?c13 ?k13 ?a14 ?l14 ?c14 ?k14 ?a15 ?l15 ?c15 ?k15 ?a16 ?l16 ?c16 ?k16 ?a17 ?l17 ?c17 ?k17 ?a18 ?l18 ?c18 ?k18 ?a19 ?l19 ?c19 ?k19 ?a20 ?l20 ?c20 ?k20 ?a21 ?l21 ?c21 ?k21 ?a22 ?l22 ?c22 ?k22 ?a23 ?l23 ?c23 ?k23 ?a24 ?l24 ?c24 ?k24 ?a25 ?l25 ?c25 ?k25 ?a26 ?l26 ?c26 ?k26 ?a27 ?l27 ?c27 ?k27 ?a28 ?l28 ?c28 ?k28 ?a29 ?l29 ?c29 ?k29 ?a30 ?l30 ?c30 ?k30 ?a31 ?l31 ?c31 ?k31 ?aCClosing ?pgClosing ?hdClosing ?poClosing ?saClosing ?mkClosing ?kcClosing ?aCMadeSeal ?pgMadeSeal ?hdMadeSeal ?poMadeSeal ?saMadeSeal ?mkMadeSeal ?kcMadeSeal ?aCOwnSeal ?pgOwnSeal ?hdOwnSeal ?poOwnSeal ?saOwnSeal ?mkOwnSeal ?kcOwnSeal ?aCWholeSeal ?pgWholeSeal ?hdWholeSeal ?poWholeSeal ?saWholeSeal ?mkWholeSeal ?kcWholeSeal ?aCFlatSeal ?pgFlatSeal ?hdFlatSeal ?poFlatSeal ?saFlatSeal ?mkFlatSeal ?kcFlatSeal ?inWholeSeal ?inFlatSeal ?nClosingplace ?nClosingnumber ?nClosinglast_head ?nClosingmilestones ?nMadeSeal_modulus ?nOwnSeal_function ?ha ?hn ?htk ?hm ?b_int ?b_list ?b_len ?b_abs ?b_sum ?b_isinstance ?b_tuple ?b_bool ?b_str ?b_all ?b_zip ?b_ord ?b_range ?b_min ?b_max ?gMILE ?gFIRST_SUM ?gLEAST_MODULUS ?gMOST_MODULUS ?nT ?cT
    (case aCClosing => k_is)
    (case aCMadeSeal => k_is)
    (case aCOwnSeal => k_is)
    (case aCWholeSeal => k_is)
    (case aCFlatSeal => k_is)
    (case a0 => k_is)
    (case l0 => k_is)
    (case c0 => k_is)
    (case k0 => k_is)
    (case a1 => k_is)
    (case l1 => k_is)
    (case c1 => k_is)
    (case k1 => k_is)
    (case a2 => k_is)
    (case l2 => k_is)
    (case c2 => k_is)
    (case k2 => k_is)
    (case a3 => k_is)
    (case l3 => k_is)
    (case c3 => k_is)
    (case k3 => k_is)
    (case a4 => k_is)
    (case l4 => k_is)
    (case c4 => k_is)
    (case k4 => k_is)
    (case a5 => k_is)
    (case i5 => k_is)
    (case l5 => k_is)
    (case c5 => k_is)
    (case k5 => k_is)
    (case a6 => k_is)
    (case i6 => k_is)
    (case l6 => k_is)
    (case c6 => k_is)
    (case k6 => k_is)
    (case a7 => k_is)
    (case i7 => k_is)
    (case l7 => k_is)
    (case c7 => k_is)
    (case k7 => k_is)
    (case a8 => k_is)
    (case i8 => k_is)
    (case l8 => k_is)
    (case c8 => k_is)
    (case k8 => k_is)
    (case a9 => k_is)
    (case i9 => k_is)
    (case l9 => k_is)
    (case c9 => k_is)
    (case k9 => k_is)
    (case a10 => k_is)
    (case i10 => k_is)
    (case l10 => k_is)
    (case c10 => k_is)
    (case k10 => k_is)
    (case a11 => k_is)
    (case i11 => k_is)
    (case l11 => k_is)
    (case c11 => k_is)
    (case k11 => k_is)
    (case a12 => k_is)
    (case i12 => k_is)
    (case l12 => k_is)
    (case c12 => k_is)
    (case k12 => k_is)
    (case a13 => k_is)
    (case i13 => k_is)
    (case l13 => k_is)
    (case c13 => k_is)
    (case k13 => k_is)
    (case a14 => k_is)
    (case l14 => k_is)
    (case c14 => k_is)
    (case k14 => k_is)
    (case a15 => k_is)
    (case l15 => k_is)
    (case c15 => k_is)
    (case k15 => k_is)
    (case a16 => k_is)
    (case l16 => k_is)
    (case c16 => k_is)
    (case k16 => k_is)
    (case a17 => k_is)
    (case l17 => k_is)
    (case c17 => k_is)
    (case k17 => k_is)
    (case a18 => k_is)
    (case l18 => k_is)
    (case c18 => k_is)
    (case k18 => k_is)
    (case a19 => k_is)
    (case l19 => k_is)
    (case c19 => k_is)
    (case k19 => k_is)
    (case a20 => k_is)
    (case l20 => k_is)
    (case c20 => k_is)
    (case k20 => k_is)
    (case a21 => k_is)
    (case l21 => k_is)
    (case c21 => k_is)
    (case k21 => k_is)
    (case a22 => k_is)
    (case l22 => k_is)
    (case c22 => k_is)
    (case k22 => k_is)
    (case a23 => k_is)
    (case l23 => k_is)
    (case c23 => k_is)
    (case k23 => k_is)
    (case a24 => k_is)
    (case l24 => k_is)
    (case c24 => k_is)
    (case k24 => k_is)
    (case a25 => k_is)
    (case l25 => k_is)
    (case c25 => k_is)
    (case k25 => k_is)
    (case a26 => k_is)
    (case l26 => k_is)
    (case c26 => k_is)
    (case k26 => k_is)
    (case a27 => k_is)
    (case l27 => k_is)
    (case c27 => k_is)
    (case k27 => k_is)
    (case a28 => k_is)
    (case l28 => k_is)
    (case c28 => k_is)
    (case k28 => k_is)
    (case a29 => k_is)
    (case l29 => k_is)
    (case c29 => k_is)
    (case k29 => k_is)
    (case a30 => k_is)
    (case l30 => k_is)
    (case c30 => k_is)
    (case k30 => k_is)
    (case a31 => k_is)
    (case l31 => k_is)
    (case c31 => k_is)
    (case k31 => k_is)
    (case pgClosing => k_is)
    (case hdClosing => k_is)
    (case poClosing => k_is)
    (case saClosing => k_is)
    (case mkClosing => k_is)
    (case kcClosing => k_is)
    (case pgMadeSeal => k_is)
    (case hdMadeSeal => k_is)
    (case poMadeSeal => k_is)
    (case saMadeSeal => k_is)
    (case mkMadeSeal => k_is)
    (case kcMadeSeal => k_is)
    (case pgOwnSeal => k_is)
    (case hdOwnSeal => k_is)
    (case poOwnSeal => k_is)
    (case saOwnSeal => k_is)
    (case mkOwnSeal => k_is)
    (case kcOwnSeal => k_is)
    (case pgWholeSeal => k_is)
    (case hdWholeSeal => k_is)
    (case poWholeSeal => k_is)
    (case saWholeSeal => k_is)
    (case mkWholeSeal => k_is)
    (case kcWholeSeal => k_is)
    (case pgFlatSeal => k_is)
    (case hdFlatSeal => k_is)
    (case poFlatSeal => k_is)
    (case saFlatSeal => k_is)
    (case mkFlatSeal => k_is)
    (case kcFlatSeal => k_is)
    (case inWholeSeal => k_is)
    (case inFlatSeal => k_is)
    (case nClosingplace => k_is)
    (case nClosingnumber => k_is)
    (case nClosinglast_head => k_is)
    (case nClosingmilestones => k_is)
    (case nMadeSeal_modulus => k_is)
    (case nOwnSeal_function => k_is)
    (case ha => k_is)
    (case hn => k_is)
    (case htk => k_is)
    (case hm => k_is)
    (case b_int => k_is)
    (case b_list => k_is)
    (case b_len => k_is)
    (case b_abs => k_is)
    (case b_sum => k_is)
    (case b_isinstance => k_is)
    (case b_tuple => k_is)
    (case b_bool => k_is)
    (case b_str => k_is)
    (case b_all => k_is)
    (case b_zip => k_is)
    (case b_ord => k_is)
    (case b_range => k_is)
    (case b_min => k_is)
    (case b_max => k_is)
    (case gMILE => k_is)
    (case gFIRST_SUM => k_is)
    (case gLEAST_MODULUS => k_is)
    (case gMOST_MODULUS => k_is)
    (case nT => first | kernel_rfl | decide +kernel)
    (case cT => first | k_is | kernel_rfl)
#print axioms PySem.Challenge.cw_soleheld_k31_whole_clashes_of_lists_holds

