import PyProof.Rows.All
import Wide.All
import OpenK.AllK
import Wide.FinOn
import HandS.ForMost
import HandS.Lambda
import HandS.Nested
import HandS.NestedK
import HandS.EndTab
import HandS.HeadWalk
import HandS.Codes
import HandS.Style
import HandS.OwnEq
import KE.KRevSl
import PyProof.Rows.StrStep
import HandS.Wide
import HandS.Gcd
import HandS.IsInst
import HandS.Defaults
import HandS.Zip
import HandS.Walk
import HandS.Evl
import HandS.SortInts
import HandS.StrMore
import HandS.FStr
import HandS.RevRange
import HandS.TupAny
import PySem.Challenge.RW_soleheld_k34_whole_groups_and_sole_held
import PyProof.ZipIter
import PyProof.CallType
import PyProof.Walk
import PyProof.WalkLemmas
import PyProof.RulesTry
import PyProof.TupleOfSeq
import HandS.Records
import HandS.RepeatKit
import HandS.Rev
import HandS.Exc
import HandS.ExcValue
import HandS.ExcOwn
import HandS.GenList
import PyProof.GenComp
import KE.GoesEnumKw
import KE.GoesEnum
import HandS.Star
import HandS.GenCall
import HandS.Comp
import KE.SortData
import HandS.List
set_option Elab.async false
set_option linter.all false
set_option maxRecDepth 100000
/-! a lambda with a parameter and one captured name, that outlives its maker -/
namespace My
open PySem PySem.Spec PyProof.Rows L2 LamX NdefX
/-- the lambda at f -/
def LamO (f : Addr) (q : Str) (pr : Arguments) (bd : Expr) (sc : Scope) (cl : List (Str × Addr)) (c' : Addr) : HO :=
  .ext fun h => ∃ pm ctv : Value, h.get? f = some (PySem.W.kla_obj "<lambda>" q pr bd sc cl pm c' ctv)
/-- the cell at c holds v -/
def CellO (c : Addr) (v : V) : HO := .ext fun h => ∃ u, L2.RelV v u ∧ h.IsCell c (some u)
section
variable {X : Cx} {pins : List (Addr × Obj)} {σ : L2.St} {H : Hp} {s : Shared}
theorem inv_lam {q : Str} {pr : Arguments} {bd : Expr} {sc : Scope} {cl : List (Str × Addr)} {c' : Addr} {pm ctv : Value} {t' : Nat} (I : Inv X pins σ H s) :
    Inv X pins σ (upd H s.heap.objs.size (LamO s.heap.objs.size q pr bd sc cl c')) { s with heap := s.heap.push (PySem.W.kla_obj "<lambda>" q pr bd sc cl pm c' ctv), toks := t' } := by
  refine I.laid (a := s.heap.objs.size) (fun b u e => Heap.get?_push_of_some _ e) (Nat.le_refl _) ?_
  have e : (s.heap.push (PySem.W.kla_obj "<lambda>" q pr bd sc cl pm c' ctv)).get? s.heap.objs.size = some (PySem.W.kla_obj "<lambda>" q pr bd sc cl pm c' ctv) := Heap.get?_push_size _ rfl
  exact ⟨⟨_, _, e⟩, ⟨_, e⟩, fun h1 h2 ⟨p, t, z⟩ st => ⟨p, t, st _ z⟩⟩
theorem lam_make3 {c P : Addr} {params : Arguments} {body : Expr} {scope : Scope} {pos : Pos} {E : Value → Shared → Prop} {Q : Value → Shared → Prop} (I : Inv X pins σ H s) (TB : TabB X.base X.mg c P) (hcode : X.env.code = .ref c)
    (hT : TabS H P (X.env.qual ++ "<lambda>")) (hdef : defaultsOf params X.env = ([], [])) (hfree : ∀ y ∈ scope.names, y.2 = .free → ∃ c, X.env.cells.lookup y.1 = some c)
    (h : ∀ (f c' : Addr) (H1 : Hp) (s' : Shared), Inv X pins σ H1 s' → ExtN H H1 → TabS H1 P (X.env.qual ++ "<lambda>") → H f = none →
      H1 f = some (LamO f (X.env.qual ++ "<lambda>") params body scope (cloFrom X.env.cells scope.names []) c') → H1 c' = some (CodeO c' (X.env.qual ++ "<lambda>")) → Q (.ref f) s') :
    wpAny (model X.prog X.w) X.A (eval (.Lambda params body scope pos) X.env) Q E s := by
  obtain ⟨ps, hP, ht, ha⟩ := id hT
  refine PySem.W.kla_eval hdef ?_
  have bP : s.heap.BuiltinsAt X.mg P := TB.bm.keeps I.bk
  have hP' : s.heap.get? P = some { cls := .none, data := .fields ps } := I.hok P _ hP
  cases hc : codeAmong pos ps.toList with
  | none =>
    refine PySem.W.kla_makeFunction (mg := X.mg) (c := c) (P := P) (ps := ps) (closure_ok hfree) I.ok.glob (I.mod.glob.keeps I.bk) hcode (TB.code.keeps I.bk) hP' ht hc TB.gP bP fun c' ctv h' tk hx hge hlt hrec htb => ?_
    obtain ⟨c2, oc, vs, t, e2, hoc, hd, hv⟩ := hrec
    cases e2
    have nC : H c' = none := I.hok.fresh hge
    have I1 := inv_table (t' := tk) (more := #[rawInt pos.line, rawInt pos.col, .ref c']) (h' := h') I hP (fun b o hb e => hx b o hb e) htb hge ⟨oc, vs, t, hoc, hd, hv⟩
    have hE : ExtN H (upd (upd H P (.tbl (ps ++ #[rawInt pos.line, rawInt pos.col, .ref c']))) c' (CodeO c' (X.env.qual ++ "<lambda>"))) := fun b o e n => by
      rw [upd_ne (ne_of_none e nC), upd_ne (fun z => n ps (Option.some.inj (e.symm.trans (by rw [z]; exact hP))))]
      exact e
    have eL : (ps ++ #[rawInt pos.line, rawInt pos.col, .ref c']).toList = ps.toList ++ [rawInt pos.line, rawInt pos.col, .ref c'] := by simp
    have T1 : TabS (upd (upd H P (.tbl (ps ++ #[rawInt pos.line, rawInt pos.col, .ref c']))) c' (CodeO c' (X.env.qual ++ "<lambda>"))) P (X.env.qual ++ "<lambda>") := by
      refine ⟨_, by rw [upd_ne (ne_of_none hP nC), upd_same], by rw [eL]; exact PySem.TriplesOk_snoc _ _ _ _ ht, fun p' cv hcv => ?_⟩
      rw [eL] at hcv
      rcases among_app _ ht hcv with z | z
      · obtain ⟨c0, e1, e2⟩ := ha p' cv z
        exact ⟨c0, e1, hE _ _ e2 codeO_ne⟩
      · exact ⟨c', z, upd_same⟩
    have nF := I1.hok.fresh (Nat.le_refl _)
    have I2 := inv_lam (q := X.env.qual ++ "<lambda>") (pr := params) (bd := body) (sc := scope) (cl := cloFrom X.env.cells scope.names []) (c' := c') (pm := (X.mg "__name__").getD .none) (ctv := ctv) (t' := tk) I1
    refine h h'.objs.size c' _ _ I2 (fun b o e n => ?_) (T1.ext fun b o e => ?_) (I.hok.fresh (Nat.le_trans hge (Nat.le_of_lt hlt))) upd_same ?_
    · exact (upd_ne (ne_of_none (hE b o e n) nF)).trans (hE b o e n)
    · exact (upd_ne (ne_of_none e nF)).trans e
    · exact (upd_ne (Nat.ne_of_lt hlt)).trans upd_same
  | some cv =>
    obtain ⟨c', e, hco⟩ := ha pos cv hc
    subst e
    refine PySem.W.kla_makeFunctionHit (mg := X.mg) (c := c) (P := P) (ps := ps) (closure_ok hfree) I.ok.glob (I.mod.glob.keeps I.bk) hcode (TB.code.keeps I.bk) hP' ht hc bP fun ctv h' tk hx hsz => ?_
    have I1 : Inv X pins σ H { s with heap := h', toks := tk } := I.kept hx
    have nF : H h'.objs.size = none := I1.hok.fresh (Nat.le_refl _)
    have I2 := inv_lam (q := X.env.qual ++ "<lambda>") (pr := params) (bd := body) (sc := scope) (cl := cloFrom X.env.cells scope.names []) (c' := c') (pm := (X.mg "__name__").getD .none) (ctv := ctv) (t' := tk) I1
    refine h h'.objs.size c' _ _ I2 (fun b o e n => ?_) (hT.ext fun b o e => ?_) nF upd_same ?_
    · exact (upd_ne (ne_of_none e nF)).trans e
    · exact (upd_ne (ne_of_none e nF)).trans e
    · exact (upd_ne (ne_of_none hco nF)).trans hco
end
/-- the reading of a lambda -/
def tLamV (P : Addr) (q : Str) (mk : Addr → Addr → HO) : TE := fun _ H Q => TabS H P q ∧ ∀ f c' H1, ExtN H H1 → TabS H1 P q → H f = none → H1 f = some (mk f c') → H1 c' = some (CodeO c' q) → Q (.ref f) H1
theorem pe_lam {X : Cx} {c P : Addr} {params : Arguments} {body : Expr} {scope : Scope} {pos : Pos} (TB : TabB X.base X.mg c P) (hcode : X.env.code = .ref c)
    (hfree : ∀ y ∈ scope.names, y.2 = .free → X.env.scope.names.lookup y.1 = some .cell ∨ X.env.scope.names.lookup y.1 = some .free) (hdef : defaultsOf params X.env = ([], [])) :
    PE X (.Lambda params body scope pos) (tLamV P (X.env.qual ++ "<lambda>") fun f c' => LamO f (X.env.qual ++ "<lambda>") params body scope (cloFrom X.env.cells scope.names []) c') := by
  refine ⟨fun pins s σ H Q I h => ?_⟩
  obtain ⟨hT, h⟩ := h
  have hfr : ∀ y ∈ scope.names, y.2 = .free → ∃ c, X.env.cells.lookup y.1 = some c := fun y hy e => (hfree y hy e).elim (fun z => I.ok.has _ (.inl z)) fun z => I.ok.has _ (.inr z)
  exact lam_make3 I TB hcode hT hdef hfr fun f c' H1 s' I1 eN T1 f0 f1 c1 => ⟨.ref f, H1, I1, rfl, h f c' H1 eN T1 f0 f1 c1⟩
/-! ### statements whose return knows the slots -/
structure EndsR where
  nx : L2.St → Hp → Prop
  rt : L2.St → V → Hp → Prop
def SPR (X : Cx) (pins : List (Addr × Obj)) (D : EndsR) (f : Flow) (s' : Shared) : Prop :=
  match f with
  | .next => ∃ σ' H', Inv X pins σ' H' s' ∧ D.nx σ' H'
  | .ret u => ∃ v σ' H', Inv X pins σ' H' s' ∧ L2.RelV v u ∧ D.rt σ' v H'
  | _ => False
abbrev TSR := EndsR → L2.St → Hp → Prop
structure PRs (X : Cx) (st : List Stmt) (t : TSR) : Prop where
  run : ∀ (pins : List (Addr × Obj)) (s : Shared) (σ : L2.St) (H : Hp) (D : EndsR), Inv X pins σ H s → t D σ H → wpAny (model X.prog X.w) X.A (execs st X.env) (SPR X pins D) X.xe s
structure PR (X : Cx) (st : Stmt) (t : TSR) : Prop where
  run : ∀ (pins : List (Addr × Obj)) (s : Shared) (σ : L2.St) (H : Hp) (D : EndsR), Inv X pins σ H s → t D σ H → wpAny (model X.prog X.w) X.A (exec st X.env) (SPR X pins D) X.xe s
section
variable {X : Cx} {st : Stmt} {rest : List Stmt} {t u : TSR} {e : Expr} {te : TE} {pos : Pos}
def tOfS (t : TS) : TSR := fun D σ H => t { nx := D.nx, rt := fun _ _ => False } σ H
theorem pr_of {t : TS} (h : PS X st t) : PR X st (tOfS t) := by
  refine ⟨fun pins s σ H D I q => thn (h.run pins s σ H _ I q) fun f s' z => ?_⟩
  cases f with
  | next => exact z
  | ret v => obtain ⟨_, _, _, _, _, z⟩ := z; exact z.elim
  | brk => obtain ⟨_, _, _, z⟩ := z; exact z.elim
  | cont => obtain ⟨_, _, _, z⟩ := z; exact z.elim
def tRetR (te : TE) : TSR := fun D σ H => te σ H (D.rt σ)
theorem pr_ret (he : PE X e te) : PR X (.Return (some e) pos) (tRetR te) := by
  refine ⟨fun pins s σ H D I h => ?_⟩
  exact wpAny_Return_some (thn (he.run pins s σ H _ I h) fun v s1 ⟨x, H1, I1, r1, q1⟩ => ⟨x, σ, H1, I1, r1, q1⟩)
def tNilR : TSR := fun D σ H => D.nx σ H
theorem prs_nil : PRs X [] tNilR := ⟨fun _ _ σ H _ I h => wpAny_execs_nil ⟨σ, H, I, h⟩⟩
def tSeqR (t u : TSR) : TSR := fun D σ H => t { D with nx := u D } σ H
theorem prs_cons (h1 : PR X st t) (h2 : PRs X rest u) : PRs X (st :: rest) (tSeqR t u) := by
  refine ⟨fun pins s σ H D I h => ?_⟩
  refine wpAny_execs_cons (thn (h1.run pins s σ H { D with nx := u D } I h) fun f s1 q => ?_)
  cases f with
  | next =>
    obtain ⟨σ', H', I', q⟩ := q
    exact h2.run pins s1 σ' H' D I' q
  | ret v => exact q
  | brk => exact q
  | cont => exact q
theorem prs_one (h1 : PR X st t) : PRs X [st] t := by
  refine ⟨fun pins s σ H D I h => ?_⟩
  refine wpAny_execs_cons (thn (h1.run pins s σ H D I h) fun f s1 q => ?_)
  cases f with
  | next => exact wpAny_execs_nil q
  | ret v => exact q
  | brk => exact q
  | cont => exact q
def tIfR (c : TT) (t u : TSR) : TSR := fun D σ H => c σ H fun b H1 => if b = true then t D σ H1 else u D σ H1
theorem pr_if {c : Expr} {a b : List Stmt} {tc : TT} (hc : PT X c tc) (ha : PRs X a t) (hb : PRs X b u) : PR X (.If c a b pos) (tIfR tc t u) := by
  refine ⟨fun pins s σ H D I h => ?_⟩
  refine wpAny_If (thn (hc.run pins s σ H _ I h) fun d s1 ⟨H1, I1, q1⟩ => ?_)
  cases d with
  | true => exact ha.run pins s1 σ H1 D I1 q1
  | false => exact hb.run pins s1 σ H1 D I1 q1
end
/-- what a return wants: the end itself, or the end where the cell of the i-th name is known with its value -/
def RtR (X : Cx) (i : Nat) (nm : Str) (Q : VK) : L2.St → V → Hp → Prop := fun σ v H' => Q v H' ∨ ∃ kv c, σ[i]? = some (some kv) ∧ X.env.cells.lookup nm = some c ∧ (H' c = none → Q v (upd H' c (CellO c kv)))
/-- a def whose captured cell is known behind its return -/
theorem fn_ofR {CX : CXT} {P : Program} {w : World} {K : PySem.W.Frag} {mg : Str → Option Value} {base : Heap} {k : Nat} {f : Addr} {name qual : Str} {params : Arguments} {body : List Stmt} {scope : Scope} {dV kV doc pm cdv ct oc : Value} {an od : Option Addr}
    {osl : Array (Option Value)} {N ps : List Str} {sp : Sp} {i : Nat} {nm : Str} (hi : N[i]? = some nm) (hnm : scope.names.lookup nm = some .cell) (lk : K.lookup f = some ⟨oc, od, .func (PySem.W.fnOf name qual params body scope dV kV doc pm an cdv ct), osl⟩) (hcd : PySem.W.codeIn K cdv qual = true) (S : FnScope N ps scope)
    (len : ∀ vs H Q E, sp vs H Q E → vs.length = ps.length)
    (hbody : ∀ (A : Around) (outer : List Env) (s : Shared) (H : Hp) (vs : List V) (Q : VK) (E : XK), Room k (A.deeper (envOfC qual scope s.heap.objs.size f cdv)) → sp vs H Q E →
      ∃ t, PRs (cxOf CX P w K mg base N qual scope f cdv A outer s H E) body t ∧ t { nx := fun _ _ => False, rt := RtR (cxOf CX P w K mg base N qual scope f cdv A outer s H E) i nm Q } (L2.start N vs) H) :
    FnOk P w K mg base CX (k + 1) f (PySem.W.fnOf name qual params body scope dV kV doc pm an cdv ct) ps sp := by
  refine ⟨len, fun A outer s H args us vs Q E hr e0 hb r hsp => ?_⟩
  have hl := len _ _ _ _ hsp
  have KX : K.In s.heap := e0.mod.kin.keeps fun b o e => (e0.bs b o e).1
  have lim : s.heap.NoLimit := e0.mod.nolimit.keeps fun b o e => (e0.bs b o e).1
  have hkind : ∀ y ∈ ps.zip us, scope.names.lookup y.1 = some .local ∨ (scope.names.lookup y.1 = some .cell ∧ ((cellsFrom (s.heap.objs.size + 1) scope.names []).lookup y.1).isSome = true) := fun ⟨n, v⟩ hy => by
    rcases S.par n (List.of_mem_zip hy).1 with q | q
    · exact .inl q
    · exact .inr ⟨q, PySem.W.cellsFrom_some _ _ _ (.inl q)⟩
  refine codeAny_call_function hr.depth (KX _ _ lk) rfl S.co S.gen rfl (PySem.W.codeRec_of KX hcd) (hb _ _ _ _ ?_)
  refine wpAny_newFunctionEnv_cells S.kind hkind fun env he s1 x => ?_
  subst he
  refine ⟨lim.keeps x.toInCall.keep, codeAny_func ?_⟩
  obtain ⟨t, ht, hq⟩ := hbody A outer s H vs Q E (hr.deeper _) hsp
  have I : Inv (cxOf CX P w K mg base N qual scope f cdv A outer s H E) [] (L2.start N vs) H s1 := inv_start S hr.hd e0 hl r x
  refine wpAny_mono (ht.run [] s1 (L2.start N vs) H _ I hq) (fun fl s' hs => ?_) fun e s' hs => hs
  cases fl with
  | ret u =>
    obtain ⟨v, σ', H', J, rv, q⟩ := hs
    rcases q with q | ⟨kv, c, h1, h2, q⟩
    · exact ⟨v, H', J.os, J.bare, J.base, J.hok, rv, q⟩
    · have fc := J.freeC nm c h2
      obtain ⟨m, hn, hl'⟩ := J.loc
      obtain ⟨u', ru, lk'⟩ := hl' i nm kv hi h1 (.inr (.inl hnm))
      have hcell : s'.heap.IsCell c (some u') := by
        rcases lk' with ⟨z, _⟩ | ⟨_, c2, e2, hc⟩
        · have z' : scope.names.lookup nm = some .local := z
          rw [hnm] at z'
          cases z'
        · rw [h2] at e2
          cases e2
          exact hc
      have cab : s.heap.objs.size ≤ c := J.ok.cab nm c rfl h2
      have cnot : ∀ b o, s.heap.get? b = some o → b ≠ c := fun b o e z => by
        rw [z] at e
        exact Nat.lt_irrefl _ (Nat.lt_of_lt_of_le (Heap.lt_size e) cab)
      have un : Un (frs outer) [] H H' s.heap s'.heap := J.base
      have hok : HOk P w H' s'.heap := J.hok
      have cn : ∀ b u, H' b = some u → b ≠ c := fun b u e => ne_of_none e fc
      refine ⟨v, upd H' c (CellO c kv), J.os, J.bare, ⟨un.keep, un.slot, fun b o e n hx => ?_, un.there, fun b xs e => ?_, fun b o u e => ?_, fun b ps e => ?_⟩, fun b ob e => ?_, rv, q fc⟩
      · rw [upd_ne (cnot b o e)]
        exact un.free b o e n hx
      · rw [upd_ne (cn b _ (un.tups b xs e))]
        exact un.tups b xs e
      · rw [upd_ne (cn b _ (un.frzs b o u e))]
        exact un.frzs b o u e
      · obtain ⟨more, z⟩ := un.tbls b ps e
        exact ⟨more, by rw [upd_ne (cn b _ z)]; exact z⟩
      · by_cases hb : b = c
        · subst hb
          rw [upd_same] at e
          cases e
          obtain ⟨oc, hoc, hdc⟩ := id hcell
          exact ⟨⟨u', ru, hcell⟩, ⟨oc, hoc⟩, fun h1 h2 ⟨u2, r2, o2, e2, d2⟩ st => ⟨u2, r2, o2, st _ e2, d2⟩⟩
        · rw [upd_ne hb] at e
          exact (hok b ob e).stay (fun d w' _ q => q) (fun d q => by rw [upd_ne (cn d _ q)]; exact q) fun d xs q => by rw [upd_ne (cn d _ q)]; exact q
  | next =>
    obtain ⟨σ', H', J, q⟩ := hs
    exact q.elim
  | brk => exact (show False from hs).elim
  | cont => exact (show False from hs).elim
/-! ### the lambda called -/
/-- at f a lambda of these words whose one captured name k holds v -/
def LamAt (q : Str) (pr : Arguments) (bd : Expr) (sc : Scope) (nm : Str) (H : Hp) (f : Addr) (v : V) : Prop :=
  ∃ cl c c', H f = some (LamO f q pr bd sc cl c') ∧ cl.lookup nm = some c ∧ (∀ y a, cl.lookup y = some a → y = nm) ∧ H c = some (CellO c v) ∧ H c' = some (CodeO c' q)
theorem LamAt.ext {q : Str} {pr : Arguments} {bd : Expr} {sc : Scope} {nm : Str} {H H' : Hp} {f : Addr} {v : V} (h : LamAt q pr bd sc nm H f v) (e : ExtN H H') : LamAt q pr bd sc nm H' f v := by
  obtain ⟨cl, c, c', h1, h2, h3, h4, h5⟩ := h
  exact ⟨cl, c, c', e _ _ h1 (fun ps z => by unfold LamO at z; cases z), h2, h3, e _ _ h4 (fun ps z => by unfold CellO at z; cases z), e _ _ h5 codeO_ne⟩
theorem LamAt.same {q : Str} {pr : Arguments} {bd : Expr} {sc : Scope} {nm : Str} {H H' : Hp} {f : Addr} {v : V} (h : LamAt q pr bd sc nm H f v) (e : Same H H') : LamAt q pr bd sc nm H' f v := by
  obtain ⟨cl, c, c', h1, h2, h3, h4, h5⟩ := h
  exact ⟨cl, c, c', e _ _ h1, h2, h3, e _ _ h4, e _ _ h5⟩
section
variable {X : Cx} {q : Str} {pr : Arguments} {bd : Expr} {sc : Scope} {nm ar : Str}
theorem run_lam {pins : List (Addr × Obj)} {σ : L2.St} {H : Hp} {s : Shared} {f : Addr} {kv z : V} {u : Value} {k : Nat} {Q : VK} {tb : TE} (S : NScope [ar, nm] [ar] [nm] sc)
    (hbind : ∀ (cl : List (Str × Addr)) (pm cdv ct u : Value), bindArgs (PySem.W.kla_fn "<lambda>" q pr bd sc cl pm cdv ct) ⟨[u], []⟩ = pure [(ar, u)])
    (I : Inv X pins σ H s) (hr : Room (k + 1) X.A) (L : LamAt q pr bd sc nm H f kv) (rz : L2.RelV z u)
    (hbody : ∀ (F : NF) (A : Around) (outer : List Env) (s : Shared) (H : Hp), F.scope = sc → Room k (A.deeper (envF F f s.heap.objs.size)) → PE (ncx CX0 X.prog X.w X.K X.mg X.base [ar, nm] F f A outer s H E0) bd tb)
    (hq : ∀ H0, (∀ b o, H0 b = some o → H b = some o) → tb [some z, some kv] H0 (fun v H' => ∀ H2, (∀ b o, H b = some o → (H0 b = some o → H' b = some o) → H2 b = some o) → Q v H2)) :
    wpAny (model X.prog X.w) X.A (call (.ref f) [u]) (EP X pins σ Q) X.xe s := by
  obtain ⟨cl, c, c', h1, h2, h3, h4, h5⟩ := L
  obtain ⟨⟨pm, ctv, ho⟩, _, _⟩ := I.hok f _ h1
  obtain ⟨⟨uc, ruc, hcell⟩, _, _⟩ := I.hok c _ h4
  let F : NF := ⟨"<lambda>", q, pr, [], sc, cl, c'⟩
  let H0 : Hp := fun b => if b = c then none else H b
  have h0c : H0 c = none := if_pos rfl
  have h0n : ∀ b, b ≠ c → H0 b = H b := fun b n => if_neg n
  have h0s : ∀ b o, H0 b = some o → H b = some o := fun b o e => by
    by_cases hb : b = c
    · rw [hb, h0c] at e
      cases e
    · rw [h0n b hb] at e
      exact e
  have h0N : ∀ b, H b = none → H0 b = none := fun b e => by
    by_cases hb : b = c
    · rw [hb]
      exact h0c
    · rw [h0n b hb]
      exact e
  have e0 := I.env0
  have cO : ∀ b, (∃ y, H b = some (.own y)) ∨ (∃ xs, H b = some (.tup xs)) → b ≠ c := fun b hb z => by
    rw [z, h4] at hb
    rcases hb with ⟨y, e⟩ | ⟨y, e⟩
    · have e := Option.some.inj e
      unfold CellO at e
      cases e
    · have e := Option.some.inj e
      unfold CellO at e
      cases e
  have hok0 : HOk X.prog X.w H0 s.heap := fun b o e => (I.hok b o (h0s b o e)).stay (fun _ _ _ q => q) (fun d q => by rw [h0n d (cO d (.inl ⟨_, q⟩))]; exact q) fun d xs q => by rw [h0n d (cO d (.inr ⟨_, q⟩))]; exact q
  have e1 : Env0 X.prog X.w X.K X.mg X.base X.A X.stack s H0 := ⟨e0.frames, e0.mod, fun b o e => ⟨(e0.bs b o e).1, h0N b (e0.bs b o e).2⟩, e0.bsz, e0.funs, fun b hb => h0N b (e0.frf b hb), hok0, e0.bare⟩
  have lim : s.heap.NoLimit := I.nolimit
  have C : CellsAt F.cl [nm] [some kv] s.heap H0 := by
    refine ⟨rfl, fun y a e => ?_, fun x y a ex ey => (h3 x a ex).trans (h3 y a ey).symm, fun i y e => ?_⟩
    · have ey := h3 y a e
      rw [ey, h2] at e
      cases e
      exact ⟨h0c, _, hcell⟩
    · match i with
      | 0 =>
        have ey : nm = y := Option.some.inj e
        rw [← ey]
        exact ⟨c, h2, fun v ev => by
          have : kv = v := Option.some.inj (Option.some.inj ev)
          rw [← this]
          exact ⟨uc, ruc, hcell⟩⟩
      | i + 1 => cases e
  have rc : codeAny (model X.prog X.w) X.A (.call (.ref f) ⟨[u], []⟩) (CR CX0 X.stack X.prog X.w H0 s (fun v H' => ∀ H2, (∀ b o, H b = some o → (H0 b = some o → H' b = some o) → H2 b = some o) → Q v H2) E0) s := by
    refine PySem.W.kla_callFunE hr.depth ho rfl S.co S.gen rfl (codeO_at I.hok h5) ?_
    rw [hbind]
    refine wpAny_pure (wpAny_newFunctionEnv S.nocell (fun y hy => ?_) (fun h₁ hns hsb => ⟨lim.fresh _ hsb, ?_⟩) S.kind)
    · have : y = (ar, u) := List.mem_singleton.mp hy
      rw [this]
      exact S.par ar (List.mem_singleton.mpr rfl)
    show codeAny _ _ (.expr bd (envF F f s.heap.objs.size)) _ _
    have kp : ∀ b o, s.heap.get? b = some o → h₁.get? b = some o := fun b o e => hsb.extBut b o (Nat.ne_of_lt (Heap.lt_size e)) (Heap.get?_push_of_some _ e)
    have J : Inv (ncx CX0 X.prog X.w X.K X.mg X.base [ar, nm] F f X.A X.stack s H0 E0) [] (startF [ar, nm] [z] [some kv]) H0 { s with heap := h₁, toks := s.toks + ([(ar, u)] : List (Str × Value)).length } :=
      inv_startN (ps := [ar]) (fr := [nm]) S hr.hd e1 rfl (.cons rz .nil) C hns kp
    refine PySem.W.kla_codeExpr (wpAny_mono ((hbody F X.A X.stack s H0 rfl (hr.deeper _)).run [] _ _ H0 _ J (hq H0 h0s)) (fun v s' hv => ?_) fun e s' hv => hv)
    obtain ⟨w', H', J', rv, q'⟩ := hv
    exact ⟨w', H', J'.os, J'.bare, J'.base, J'.hok, rv, q'⟩
  refine wpAny_call (codeAny_mono rc fun r s' hv => ?_)
  cases r with
  | error e => exact (show False from hv).elim
  | ok fl =>
    cases fl with
    | ret u =>
      obtain ⟨v, H', os, bare, un, hok, rv, q'⟩ := hv
      obtain ⟨oc, hoc, hdc⟩ := id hcell
      have fc : H' c = none := un.free c oc hoc h0c (by simp)
      have nfr : c ∉ frs X.stack := fun hb => by
        have := I.stkFree c hb
        rw [h4] at this
        cases this
      have hoc' : s'.heap.get? c = some oc := un.keep c oc hoc h0c nfr (by simp)
      have cn : ∀ b o, H' b = some o → b ≠ c := fun b o e => ne_of_none e fc
      have nc : ∀ b, H b = none → b ≠ c := fun b e z => by rw [z, h4] at e; cases e
      have nt : ∀ b o, H b = some o → (∀ φ, o ≠ .ext φ) → b ≠ c := fun b o e n z => by
        rw [z, h4] at e
        have e := Option.some.inj e
        unfold CellO at e
        exact n _ e.symm
      have hok2 : HOk X.prog X.w (upd H' c (CellO c kv)) s'.heap := fun b ob e => by
        by_cases hb : b = c
        · subst hb
          rw [upd_same] at e
          cases e
          exact ⟨⟨uc, ruc, oc, hoc', hdc⟩, ⟨oc, hoc'⟩, fun h1 h2 ⟨u2, r2, o2, e2, d2⟩ st => ⟨u2, r2, o2, st _ e2, d2⟩⟩
        · rw [upd_ne hb] at e
          exact (hok b ob e).stay (fun d w' _ q => q) (fun d q => by rw [upd_ne (cn d _ q)]; exact q) fun d xs q => by rw [upd_ne (cn d _ q)]; exact q
      have un2 : Un (frs X.stack) [] H (upd H' c (CellO c kv)) s.heap s'.heap := by
        refine ⟨fun b o e n => un.keep b o e (h0N b n), fun b o e n => un.slot b o e (h0N b n), fun b o e n hx => ?_, un.there, fun b xs e => ?_, fun b o u e => ?_, fun b ps e => ?_⟩
        · rw [upd_ne (nc b n)]
          exact un.free b o e (h0N b n) hx
        · have := un.tups b xs (by rw [h0n b (nt b _ e (fun φ z => by cases z))]; exact e)
          rw [upd_ne (cn b _ this)]
          exact this
        · have := un.frzs b o u (by rw [h0n b (nt b _ e (fun φ z => by cases z))]; exact e)
          rw [upd_ne (cn b _ this)]
          exact this
        · obtain ⟨more, this⟩ := un.tbls b ps (by rw [h0n b (nt b _ e (fun φ z => by cases z))]; exact e)
          exact ⟨more, by rw [upd_ne (cn b _ this)]; exact this⟩
      refine I.after ⟨v, upd H' c (CellO c kv), os, bare, un2, hok2, rv, q' _ fun b o e h => ?_⟩
      by_cases hb : b = c
      · rw [hb, upd_same]
        rw [hb, h4] at e
        exact e
      · rw [upd_ne hb]
        exact h (by rw [h0n b hb]; exact e)
    | next => exact (show False from hv).elim
    | brk => exact (show False from hv).elim
    | cont => exact (show False from hv).elim
end
end My

set_option Elab.async false
set_option linter.all false
set_option maxRecDepth 100000
/-! rules that the hand layer has not -/
namespace My
open PySem PySem.Spec PyProof.Rows L2
/-! ### readings weakened, joined -/
section
variable {X : Cx} {e : Expr} {t t' : TE}
theorem PE.imp (h : PE X e t) (k : ∀ σ H Q, t' σ H Q → t σ H Q) : PE X e t' := ⟨fun pins s σ H Q I q => h.run pins s σ H Q I (k _ _ _ q)⟩
theorem pe_or (h : PE X e t) (h' : PE X e t') : PE X e (fun σ H Q => t σ H Q ∨ t' σ H Q) := ⟨fun pins s σ H Q I q => q.elim (fun q => h.run pins s σ H Q I q) fun q => h'.run pins s σ H Q I q⟩
end
/-! ### xs[a:b:k] of a list -/
theorem vals_pick {xs : List V} {us : List Value} (r : Vals xs us) : ∀ ix : List Nat, Vals (ix.filterMap (xs[·]?)) (ix.filterMap (us[·]?))
  | [] => .nil
  | i :: ix => by
    cases e : xs[i]? with
    | none =>
      have e2 := r.none_of e
      rw [List.filterMap_cons_none (f := (xs[·]?)) e, List.filterMap_cons_none (f := (us[·]?)) e2]
      exact vals_pick r ix
    | some x =>
      obtain ⟨u, hu, ru⟩ := r.get e
      rw [List.filterMap_cons_some (f := (xs[·]?)) e, List.filterMap_cons_some (f := (us[·]?)) hu]
      exact .cons ru (vals_pick r ix)
def stepIx (n : Nat) (lo hi st : Option Int) : List Nat := sliceRange (sliceBounds lo hi st n).1 (sliceBounds lo hi st n).2.1 (sliceBounds lo hi st n).2.2
def tStepL (K : PySem.W.Frag) (te : TE) (tl th ts : TO) : TE := fun σ H Q => te σ H fun x H1 => tl σ H1 fun lo H2 => th σ H2 fun hi H3 => ts σ H3 fun st H4 => ∃ a xs, x = .ref a ∧ SqL K H4 a xs ∧ st ≠ some 0 ∧ (stepIx xs.length lo hi st).length ≤ sizeLine ∧
  ∀ p, H4 p = none → Q (.ref p) (upd H4 p (.lst ((stepIx xs.length lo hi st).filterMap (xs[·]?))))
section
variable {X : Cx}
theorem pe_stepL {e b : Expr} {lo hi : Option Expr} {te : TE} {tl th ts : TO} {p3 pos : Pos} (he : PE X e te) (hl : PO X lo tl) (hh : PO X hi th) (hs : PO X (some b) ts)
    (hsub : ∀ l i : Addr, subscripted (.Slice lo hi (some b) p3) false (.ref l) (.ref i) = operate [.ref l, .ref i] (getItem (.ref l) (.ref i)) := by intro l i; with_unfolding_all rfl) :
    PE X (.Subscript e (.Slice lo hi (some b) p3) pos) (tStepL X.K te tl th ts) := by
  refine ⟨fun pins s σ H Q I h => ?_⟩
  refine Subscript_ (thn (he.run pins s σ H _ I h) fun v s1 ⟨x, H1, I1, r1, q1⟩ => ?_)
  refine wpAny_Slice (thn (hl.run pins s1 σ H1 _ I1 q1) fun vl s2 ⟨l, H2, I2, pl, q2⟩ => thn (hh.run pins s2 σ H2 _ I2 q2) fun vu s3 ⟨u, H3, I3, pu, q3⟩ => thn (hs.run pins s3 σ H3 _ I3 q3) fun vs s4 ⟨o, H4, I4, ps, q4⟩ => ?_)
  obtain ⟨a, xs, ex, hx, h0, hz2, q⟩ := q4
  subst ex
  cases r1
  have I5 : Inv X pins σ H4 { s4 with heap := s4.heap.push { cls := .type "slice", data := .fields #[vl, vu, vs] } } := I4.kept (t' := s4.toks) fun b ob q => Heap.get?_push_of_some _ q
  obtain ⟨its, r, ht, hz⟩ := I5.list hx
  have hlen := r.length
  show wpAny (model X.prog X.w) X.A (subscriptTail e (.Slice lo hi (some b) p3) (.ref a) (.ref s4.heap.objs.size)) (EP X pins σ Q) X.xe { s4 with heap := s4.heap.push { cls := .type "slice", data := .fields #[vl, vu, vs] } }
  refine tail_any (ops := [.ref a, .ref s4.heap.objs.size]) ht.isList.typeIs (PySem.slot_list_getitem.lookup) ?_ (hsub _ _)
  refine wpAny_getItem_list_slice ht.isList (Heap.IsSliceOf.new _ vl vu vs) pl pu ps h0 ?_ (by rw [List.size_toArray]; omega)
  have ep : slicePick its.toArray l u o = ((stepIx xs.length l u o).filterMap (its[·]?)).toArray := by
    unfold slicePick stepIx
    rw [List.size_toArray, ← hlen]
    congr 1
    congr 1
    funext i
    simp
  rw [ep]
  refine ⟨.ref _, _, I5.laid (t' := s4.toks) (o := .lst ((stepIx xs.length l u o).filterMap (xs[·]?))) (fun b ob q => Heap.get?_push_of_some _ q) (Nat.le_refl _) ?_, rfl, q _ (I5.hok.fresh (Nat.le_refl _))⟩
  exact ⟨Nat.le_trans (List.length_filterMap_le _ _) hz2, _, 0, vals_pick r _, Heap.get?_push_size _ rfl⟩
/-! ### s[::-1] of a text -/
def tRevS (te : TE) : TE := fun σ H Q => te σ H fun x H1 => ∃ l : List Nat, x = .str (SX.S l) ∧ l.length ≤ sizeLine ∧ Q (.str (SX.S l.reverse)) H1
theorem rev_pick (l : List Nat) (t : Tok) : Txt.sliceBy (SX.S l) none none (-1, t) = SX.S l.reverse := by
  unfold Txt.sliceBy
  have h1 : ((((some ((-1 : Int), t)).map (·.1)).getD 1 == 1 && (slicePicked (SX.S l) none none (some (-1, t))).length == (SX.S l).length) = true) = False := by simp
  rw [if_neg (by simp)]
  have e1 : slicePicked (SX.S l) none none (some (-1, t)) = (List.range l.length).map fun k => l.length - 1 - k := by
    unfold slicePicked Builtin.Str.strSliceIndices
    simp only [Option.map_none, Option.map_some, Option.getD_some]
    rw [if_neg (by decide), if_neg (by decide), SX.S_len]
    exact PySem.W.krv_sliceRange l.length
  rw [e1, PySem.W.krv_range, List.filterMap_reverse]
  have e2 := PySem.W.krv_all l.toArray
  rw [List.size_toArray] at e2
  show (⟨((List.range l.length).filterMap (l.toArray[·]?)).reverse.toArray⟩ : Str) = _
  rw [e2]
theorem pe_revS {e : Expr} {te : TE} {k : Nat} {p1 p2 p3 pos : Pos} (he : PE X e te) : PE X (.Subscript e (.Slice none none (some (.UnaryOp .USub (.Constant (.int 1) k p1) p2)) p3) pos) (tRevS te) := by
  refine ⟨fun pins s σ H Q I h => ?_⟩
  refine Subscript_ (thn (he.run pins s σ H _ I h) fun v s1 ⟨x, H1, I1, r1, q1⟩ => ?_)
  obtain ⟨z, ex, hz, q⟩ := q1
  subst ex
  obtain ⟨t, rfl⟩ := r1
  have hst : PO X (some (.UnaryOp .USub (.Constant (.int 1) k p1) p2)) (tPart (tUn (rU fun i => .int (-i)) (tC (.int 1)))) := po_some (pe_un un_neg pe_int)
  refine wpAny_Slice (thn (po_none.run pins s1 σ H1 (fun o H2 => o = none ∧ H2 = H1) I1 ⟨rfl, rfl⟩) fun vl s2 ⟨l, H2, I2, pl, el, e2⟩ => ?_)
  subst el e2
  refine thn (po_none.run pins s2 σ H2 (fun o H3 => o = none ∧ H3 = H2) I2 ⟨rfl, rfl⟩) fun vu s3 ⟨u, H3, I3, pu, eu, e3⟩ => ?_
  subst eu e3
  refine thn (hst.run pins s3 σ H3 (fun o H4 => o = some (-1) ∧ H4 = H3) I3 ⟨1, rfl, -1, rfl, rfl, rfl⟩) fun vs s4 ⟨o, H4, I4, ps, eo, e4⟩ => ?_
  subst eo e4
  cases pl
  cases pu
  cases ps with
  | int i t2 =>
  have I5 : Inv X pins σ H4 { s4 with heap := s4.heap.push { cls := .type "slice", data := .fields #[.none, .none, .int (-1) t2] } } := I4.kept (t' := s4.toks) fun b ob q => Heap.get?_push_of_some _ q
  show wpAny (model X.prog X.w) X.A (subscriptTail e (.Slice none none (some (.UnaryOp .USub (.Constant (.int 1) k p1) p2)) p3) (.str (SX.S z) t) (.ref s4.heap.objs.size)) (EP X pins σ Q) X.xe { s4 with heap := s4.heap.push { cls := .type "slice", data := .fields #[.none, .none, .int (-1) t2] } }
  refine tail_any (ops := [.ref s4.heap.objs.size, .str (SX.S z) t]) (T := "str") (PySem.typeIs_str _ _ _) PySem.F.slot_str_getitem.lookup ?_ (by with_unfolding_all rfl)
  refine wpAny_getItem_str_slice (l := none) (u := none) (st := some (-1, t2)) ⟨_, Heap.get?_push_size _ rfl, rfl, rfl⟩ rfl ?_
  refine post_val_or_str ⟨?_, fun t' c => ?_⟩
  · exact Nat.le_trans (Txt.sliceBy_le (SX.S z) none none (-1, t2) (by show (-1 : Int) ≠ 0; decide)) (by rw [SX.S_len]; exact hz)
  · have e := rev_pick z t2
    unfold Txt.sliceBy at e
    rw [e]
    exact ⟨.str (SX.S z.reverse), H4, I5.tok c, ⟨_, rfl⟩, q⟩
/-! ### == by an own __eq__, both answers -/
def rEqOwn (C : Addr) (sp : Sp) : R2 := fun x y H Q => ∃ a b dx dy fs gs, x = .ref a ∧ y = .ref b ∧ H a = some (.ins C dx fs) ∧ H b = some (.ins C dy gs) ∧ sp [x, y] H Q E0
theorem op_eqOwn {C f : Addr} {fd : FuncData} {ps : List Str} {n : Nat} {sp : Sp} (F : FnOk X.prog X.w X.K X.mg X.base CX0 n f fd ps sp)
    (hs : PySem.W.findIn X.K (.ref C) "__eq__" = some (some (.ref f))) (hf : PySem.W.isFn X.K (.ref f) = true) (hb : Binds X.K fd ps []) (hr : Room n X.A) : OpR X (compareOp .Eq) (rEqOwn C sp) := by
  intro pins s σ H x y u v Q I rx ry d
  obtain ⟨a, b, dx, dy, fs, gs, rfl, rfl, ha, hb', hsp⟩ := d
  cases rx
  cases ry
  show wpAny (model X.prog X.w) X.A (richCompare .Eq (.ref a) (.ref b)) (EP X pins σ Q) X.xe s
  obtain ⟨mA, J, _⟩ := ins_get I.hok ha
  obtain ⟨mB, J', _⟩ := ins_get I.hok hb'
  obtain ⟨od, J, _⟩ := J.look
  obtain ⟨od', J', _⟩ := J'.look
  obtain ⟨m, hF⟩ := I.fr
  refine PySem.W.cmp_K (op := .Eq) (tb := .ref C) hr.units0 hF I.ok.mod.kin J J'.type (by simp [PySem.W.notFirst]) hs hf ?_
  have hl := F.len _ _ _ _ hsp
  have r2 : Vals [V.ref a, V.ref b] [Value.ref a, Value.ref b] := .cons rfl (.cons rfl .nil)
  refine wpAny_call (codeAny_mono (F.run X.A X.stack s H ⟨[.ref a, .ref b], []⟩ [.ref a, .ref b] [.ref a, .ref b] _ E0 hr I.env0 (by
    have := hb s [.ref a, .ref b] I.kIn (by simpa using hl)
    simpa using this) r2 hsp) fun r s' hq => ?_)
  cases r with
  | error e => exact (show False from hq).elim
  | ok fl =>
    cases fl with
    | ret w =>
      obtain ⟨v, H', I', rv, q⟩ := I.after hq
      show PySem.W.CmpBack (EP X pins σ Q) w s'
      have g : EP X pins σ Q w s' := ⟨v, H', I', rv, q⟩
      cases v with
      | non => cases rv; exact g
      | bl b => cases rv; exact g
      | int i => obtain ⟨t, rfl⟩ := rv; exact g
      | str i => obtain ⟨t, rfl⟩ := rv; exact g
      | byt i => obtain ⟨t, rfl⟩ := rv; exact g
      | flt i => obtain ⟨t, rfl⟩ := rv; exact g
      | ref i => cases rv; exact g
      | ty i => cases rv; exact g
    | next => exact False.elim hq
    | brk => exact False.elim hq
    | cont => exact False.elim hq
/-! ### C() of a class without __init__ -/
def tMake00 (C : Addr) : TE := fun _ H Q => ∀ x dx, H x = none → H dx = none → dx ≠ x → Q (.ref x) (upd (upd H dx (.own x)) x (.ins C dx []))
theorem pe_make00 {C : Addr} {x : Str} {p pos : Pos} (hm1 : PySem.W.makesIn X.K C = true) (hi : PySem.W.findIn X.K (.ref C) "__init__" = some (some (.builtin "object.__init__"))) (hk : PySem.W.keepIn X.K (.ref C) = true) (hg : Gl X x) (hm : X.mg x = some (.ref C))
    (hdb : (x == ("__debug__" : Str)) = false := by decide) : PE X (.Call (.Name x p) [] [] pos) (tMake00 C) := by
  refine ⟨fun pins s σ H Q I h => ?_⟩
  refine wpAny_Call_Name_kw (ld_glob I hg hm ?_ hdb)
  refine PySem.W.callWith_K0 I.kIn hk ?_
  have q := h (s.heap.objs.size + 1) s.heap.objs.size (I.hok.fresh (Nat.le_succ _)) (I.hok.fresh (Nat.le_refl _)) (Nat.ne_of_lt (Nat.lt_succ_self _))
  have I2 := Inv.made (C := C) I
  refine wpAny_call (make_map0 I.kIn hm1 hi (fun self => PySem.W.Looks.of_pure (PySem.W.oi_bind self)) ?_)
  have Y := PySem.W.makes_of (M := model X.prog X.w) I.kIn hm1
  have hx : ((s.heap.push PySem.W.emptyDict).push (PySem.W.instObj C s.heap.objs.size)).get? (s.heap.objs.size + 1) = some (PySem.W.instObj C s.heap.objs.size) := by
    have := Heap.get?_push_size (s.heap.push PySem.W.emptyDict) (o := PySem.W.instObj C s.heap.objs.size) rfl
    rwa [Heap.size_push] at this
  have t1 : PySem.W.Looks (model X.prog X.w) ((s.heap.push PySem.W.emptyDict).push (PySem.W.instObj C s.heap.objs.size)) (typeOf (.ref (s.heap.objs.size + 1))) (.ref C) := (PySem.W.Looks.ld hx).andThen .now
  have t2 : PySem.W.Looks (model X.prog X.w) ((s.heap.push PySem.W.emptyDict).push (PySem.W.instObj C s.heap.objs.size)) (isInstance (.ref (s.heap.objs.size + 1)) (.type "object")) true := t1.andThen (Y.top.keeps fun b o e => Heap.get?_push_of_some _ (Heap.get?_push_of_some _ e))
  refine codeAny_call_builtin PySem.W.oi_plain PySem.W.entry_oi (@PySem.W.check_slot (model X.prog X.w) _ _ _ "object.__init__" "object" "__init__" (.ref (s.heap.objs.size + 1)) [] [] _ PySem.W.oi_kind PySem.W.oi_split t2 (PySem.W.oi_args (.ref (s.heap.objs.size + 1))) ?_)
  rw [PySem.W.oi_run]
  exact wpAny_pure (And.intro rfl ⟨.ref (s.heap.objs.size + 1), _, I2, rfl, q⟩)
end
end My

set_option Elab.async false
set_option linter.all false
set_option maxRecDepth 100000
namespace My
open PySem PySem.Spec PyProof.Rows L2
/-! ### operators upon whole numbers of any size -/
section
variable {X : Cx}
theorem op_mulG : OpR X (binaryOp .Mult) (rI IntMulOk fun i j => .int (i * j)) := opI fun _ _ _ _ _ _ _ hc q => mul_int q hc
def CDivS (_ j : Int) : Prop := j ≠ 0 ∧ j.natAbs.log2 < 9000
theorem op_divS : OpR X (binaryOp .FloorDiv) (rI CDivS fun i j => .int (i.fdiv j)) := opI fun _ _ _ _ _ _ _ hc q => floordiv_int hc.1 q (.inl (PyProof.noPylong_of_log2 hc.2))
def CPowG (i j : Int) : Prop := 0 ≤ j ∧ (Builtin.Int.intBits i : Int) * j ≤ 2 ^ 27
theorem op_powG : OpR X (binaryOp .Pow) (rI CPowG fun i j => .int (i ^ j.toNat)) := opI fun _ _ _ _ _ _ _ hc q => pow_int hc.1 hc.2 q
end
/-- a def that stands at a module's name and keeps its promise -/
structure Cal (P : Program) (w : World) (K : PySem.W.Frag) (mg : Str → Option Value) (base : Heap) (x : Str) (k : Nat) (ps : List Str) (sp : Sp) (f : Addr) (fd : FuncData) : Prop where
  ok : FnOk P w K mg base CX0 k f fd ps sp
  g : mg x = some (.ref f)
  kp : PySem.W.keepIn K (.ref f) = true
  b : Binds K fd ps []
theorem same_upd {H : Hp} {p : Addr} {o : HO} (h : H p = none) : Same H (upd H p o) := fun b x e => by
  rw [upd_ne (ne_of_none e h)]
  exact e
/-! ### the bag -/
/-- a bag at b: its numbers at c, the rest bounded -/
structure BagIs (K : PySem.W.Frag) (H : Hp) (b c : Addr) (ns : List Int) (i : Nat) (g x n : Int) : Prop where
  ob : H b = some (.lst [.ref c, .int i, .int g, .int x, .int n])
  sq : SqL K H c (ns.map V.int)
  cb : c ≠ b
  hi : i ≤ ns.length
  x0 : 0 ≤ x
  x1 : x < 4294967296
def BagC (K : PySem.W.Frag) (H : Hp) (b c : Addr) (ns : List Int) : Prop := ∃ i g x n, BagIs K H b c ns i g x n
def BagAt (K : PySem.W.Frag) (H : Hp) (b : Addr) : Prop := ∃ c ns i g x n, BagIs K H b c ns i g x n
theorem BagC.at {K : PySem.W.Frag} {H : Hp} {b c : Addr} {ns : List Int} (h : BagC K H b c ns) : BagAt K H b := ⟨c, ns, h⟩
/-- what stands stays, but for what stands at b -/
def But (b : Addr) (H H' : Hp) : Prop := ∀ p o, p ≠ b → H p = some o → H' p = some o
theorem But.refl {b : Addr} {H : Hp} : But b H H := fun _ _ _ h => h
theorem But.trans {b : Addr} {H H1 H2 : Hp} (x : But b H H1) (y : But b H1 H2) : But b H H2 := fun p o n h => y p o n (x p o n h)
theorem But.upd {b : Addr} {H : Hp} {o : HO} : But b H (upd H b o) := fun p u n h => by rw [upd_ne n]; exact h
theorem But.of {b : Addr} {H H' : Hp} (s : Same H H') : But b H H' := fun p o _ h => s p o h
theorem But.seq {K : PySem.W.Frag} {b p : Addr} {H H' : Hp} {xs : List V} (h : But b H H') (n : p ≠ b) (s : SqL K H p xs) : SqL K H' p xs := by
  rcases s with (s | ⟨o, s⟩) | s
  · exact .inl (.inl (h _ _ n s))
  · exact .inl (.inr ⟨o, h _ _ n s⟩)
  · exact .inr s
theorem But.seqT {K : PySem.W.Frag} {b p : Addr} {H H' : Hp} {xs : List V} (h : But b H H') (n : p ≠ b) (s : SqT K H p xs) : SqT K H' p xs := by
  rcases s with (s | ⟨o, s⟩) | s
  · exact .inl (.inl (h _ _ n s))
  · exact .inl (.inr ⟨o, h _ _ n s⟩)
  · exact .inr s
theorem BagIs.same {K : PySem.W.Frag} {H H' : Hp} {b c : Addr} {ns : List Int} {i : Nat} {g x n : Int} (B : BagIs K H b c ns i g x n) (s : Same H H') : BagIs K H' b c ns i g x n :=
  ⟨s _ _ B.ob, s.seq B.sq, B.cb, B.hi, B.x0, B.x1⟩
theorem BagAt.same {K : PySem.W.Frag} {H H' : Hp} {b : Addr} (B : BagAt K H b) (s : Same H H') : BagAt K H' b :=
  let ⟨c, ns, i, g, x, n, B⟩ := B; ⟨c, ns, i, g, x, n, B.same s⟩
theorem BagIs.put {K : PySem.W.Frag} {H : Hp} {b c : Addr} {ns : List Int} {i : Nat} {g x n : Int} (B : BagIs K H b c ns i g x n) {i' : Nat} {g' x' n' : Int} (hi : i' ≤ ns.length) (x0 : 0 ≤ x') (x1 : x' < 4294967296) :
    BagIs K (upd H b (.lst [.ref c, .int i', .int g', .int x', .int n'])) b c ns i' g' x' n' :=
  ⟨upd_same, (But.upd (H := H)).seq B.cb B.sq, B.cb, hi, x0, x1⟩
/-! ### promises -/
def spBag (K : PySem.W.Frag) : Sp := fun vs H Q _ => ∃ (a : Addr) (ns : List Int), vs = [.ref a] ∧ SqL K H a (ns.map V.int) ∧ ∀ b H', Same H H' → BagAt K H' b → H b = none → Q (.ref b) H'
def spDraw (K : PySem.W.Frag) : Sp := fun vs H Q _ => ∃ (b : Addr) (m : Int), vs = [.ref b, .int m] ∧ BagAt K H b ∧ 0 < m ∧ m < 1000000000000000000000000000000000000000 ∧ ∀ r H', 0 ≤ r → r < m → BagAt K H' b → But b H H' → Q (.int r) H'
def spDrawC (K : PySem.W.Frag) : Sp := fun vs H Q _ => ∃ (b : Addr) (m : Int) (c : Addr) (ns : List Int), vs = [.ref b, .int m] ∧ BagC K H b c ns ∧ 0 < m ∧ m < 1000000000000000000000000000000000000000 ∧ ∀ r H', 0 ≤ r → r < m → BagC K H' b c ns → But b H H' → Q (.int r) H'
/-- the bag's numbers are not the list at L, or stand in the written part -/
def Off (K : PySem.W.Frag) (L c : Addr) (ns : List Int) : Prop := c ≠ L ∨ ∃ (o : Obj) (its : Array Value) (n : Nat), K.lookup c = some o ∧ o.cls = .type "list" ∧ o.dict = none ∧ o.data = .seq its n ∧ its.size ≤ sizeLine ∧ Vals (ns.map V.int) its.toList
theorem BagC.off {K : PySem.W.Frag} {H : Hp} {b c L : Addr} {ns : List Int} (h : BagC K H b c ns) (n : H L = none) : Off K L c ns := by
  obtain ⟨i, g, x, m, B⟩ := h
  rcases B.sq with (s | ⟨o, s⟩) | s
  · exact .inl (ne_of_none s n)
  · exact .inl (ne_of_none s n)
  · exact .inr s
theorem BagC.upd {K : PySem.W.Frag} {H : Hp} {b c L : Addr} {ns : List Int} {o : HO} (h : BagC K H b c ns) (f : Off K L c ns) (n : L ≠ b) : BagC K (upd H L o) b c ns := by
  obtain ⟨i, g, x, m, B⟩ := h
  refine ⟨i, g, x, m, by rw [upd_ne n.symm]; exact B.ob, ?_, B.cb, B.hi, B.x0, B.x1⟩
  rcases f with f | f
  · exact (But.upd (b := L)).seq f B.sq
  · exact .inr f
theorem BagC.same {K : PySem.W.Frag} {H H' : Hp} {b c : Addr} {ns : List Int} (h : BagC K H b c ns) (s : Same H H') : BagC K H' b c ns := by
  obtain ⟨i, g, x, m, B⟩ := h
  exact ⟨i, g, x, m, B.same s⟩
def topS (i : Nat) : Stmt := PySem.Challenge.pw_soleheld_k34_whole_groups_and_sole_held.main.body.getD i (.Pass ⟨0, 0, 0, 0⟩)
abbrev sLawBag : Stmt := topS 21
theorem scLawBag : FnScope ["script", "first", "cell"] ["script"] (defScope sLawBag) := ⟨rfl, rfl, rfl, by decide +kernel, rfl, by decide +kernel, by decide +kernel⟩
abbrev sLawPull : Stmt := topS 22
theorem scLawPull : FnScope ["bag", "many", "cell", "digit", "twice"] ["bag", "many"] (defScope sLawPull) := ⟨rfl, rfl, rfl, by decide +kernel, rfl, by decide +kernel, by decide +kernel⟩
theorem mod_lo {a m : Int} (h : 0 < m) : 0 ≤ a % m := Int.emod_nonneg a (by omega)
theorem mod_hi {a m : Int} (h : 0 < m) : a % m < m := Int.emod_lt_of_pos a h
theorem mul_right {a : Int} {c : Int} (h : Builtin.Int.intBits c ≤ 64) : IntMulOk a c := IntMulOk.of_right h
section
variable {P : Program} {w : World} {K : PySem.W.Frag} {mg : Str → Option Value} {base : Heap}
theorem ok_bag {f : Addr} {fd : FuncData} {k : Nat} (F : Fun K "_law_bag" "_law_bag" sLawBag f fd) (b_int : mg "int" = none) (b_list : mg "list" = none) (b_len : mg "len" = none) (b_sum : mg "sum" = none) : FnOk P w K mg base CX0 (k + 1) f fd ["script"] (spBag K) := by
  refine F.ok scLawBag (fun vs H Q E h => ?_) (fun cdv A outer s H vs Q E hr h => ?_)
  · obtain ⟨a, ns, rfl, _⟩ := h
    rfl
  · obtain ⟨a, ns, rfl, hS, q⟩ := h
    refine ⟨_, (pss_cons (ps_set (i := 1) scLawBag.nd rfl (.inl rfl) (pe_op op_add (pe_op op_add pe_int (pe_op op_mulG pe_int (pe_callB call_len rfl b_len (by decide +kernel) (pa_cons (pe_slice sl_list (pv 0) po_none (po_some pe_int)) pa_nil)))) (pe_callB (cr_sum rfl) rfl b_sum (by decide +kernel) (pa_cons (pe_lc (g := gName 2) (tt := tYes) (te := tOp (rI (fun _ j => 0 < j) fun i j => .int (i % j)) (tCB (fun xs H Q => (∃ i, xs = [.int i] ∧ Q (.int i) H) ∨ ∃ k, xs = [.bl k] ∧ Q (.int (if k then 1 else 0)) H) (tCons (tVar 2) tNil)) (tC (.int 1000003))) (own := [("cell", 2)]) rfl scLawBag.nd (pi_list (pe_slice sl_list (pv 0) po_none (po_some pe_int))) (blkOk_by (own := [("cell", 2)]) (N := ["script", "first", "cell"]) (sc := defScope sLawBag) (by decide +kernel)) (fun _ _ _ _ _ => (pg_name (i := 2) scLawBag.nd rfl (.inl rfl) (.inr rfl))) (fun _ _ _ _ _ => pts_nil) (fun _ _ _ _ _ => (pe_op op_mod (pe_callTy call_int1 rfl b_int (by decide +kernel) (pa_cons (pv 2) pa_nil)) pe_int))) pa_nil))))
      (pss_one (ps_ret (pe_lst (pa_cons (pe_callTy call_list_of rfl b_list (by decide +kernel) (pa_cons (pe_slice sl_list (pv 0) po_none (po_some pe_int)) pa_nil)) (pa_cons pe_int (pa_cons pe_int (pa_cons (pv 1) (pa_cons pe_int pa_nil))))))))), ?_⟩
    obtain ⟨ms, ec, hms⟩ : ∃ ms : List Int, cutV (ns.map V.int) none (some 63) = ms.map V.int ∧ ms.length ≤ 63 := by
      have e0 : HT.sIx (ns.map V.int).length 0 none = 0 := HT.sIx_none _ _
      have e1 : HT.sIx (ns.map V.int).length (ns.map V.int).length (some 63) = min 63 (ns.map V.int).length := HT.sIx_nat _ _ 63
      refine ⟨(ns.drop 0).take (min 63 ns.length), ?_, ?_⟩
      · unfold cutV
        rw [e0, e1, List.map_take, List.map_drop, List.length_map, Nat.sub_zero]
      · rw [List.length_take]
        omega
    refine ⟨_, rfl, _, rfl, a, _, rfl, hS, fun c nc => ?_⟩
    rw [ec]
    refine ⟨_, _, rfl, .inl ⟨_, SqL.of upd_same, rfl⟩, _, _, rfl, rfl, IntMulOk.of_left (by decide +kernel), _, _, rfl, rfl, ?_⟩
    have s1 := same_upd (o := .lst (ms.map V.int)) nc
    refine ⟨_, rfl, _, rfl, a, _, rfl, s1.seq hS, fun c2 nc2 => ?_⟩
    rw [ec]
    have s2 := s1.trans (same_upd (o := .lst (ms.map V.int)) nc2)
    refine ⟨c2, rfl, ⟨_, SqL.of upd_same⟩, fun D nD => lc_list (K := K) (a := c2) (xs := ms.map V.int) (fun i G => ∃ zs : List Int, zs.length = i ∧ (∀ z ∈ zs, 0 ≤ z ∧ z < 1000003) ∧ Same H G ∧ G c2 = some (.lst (ms.map V.int)) ∧ G D = some (.lst (zs.map V.int))) ⟨[], rfl, (fun z hz => absurd hz (by simp)), s2.trans (same_upd nD), same_upd nD _ _ upd_same, upd_same⟩ (fun i G _ ⟨_, _, _, _, e, _⟩ => SqL.of e) ?_ ?_⟩
    · rintro i y G hi ⟨zs, hz1, hz2, sG, ec2, eD⟩
      obtain ⟨z, -, rfl⟩ : ∃ z, ms[i]? = some z ∧ y = .int z := by
        rw [List.getElem?_map] at hi
        cases e : ms[i]? with
        | none => rw [e] at hi; cases hi
        | some z => rw [e] at hi; exact ⟨z, rfl, (Option.some.inj hi).symm⟩
      have hil : i < 63 := by
        have := (List.getElem?_eq_some_iff.mp hi).1
        rw [List.length_map] at this
        omega
      refine ⟨rfl, ?_⟩
      unfold tYes
      refine iteT ⟨_, rfl, .inl ⟨_, rfl, _, _, rfl, rfl, (by show (0 : Int) < _; decide), _, eD, ?_, zs ++ [z % 1000003], ?_, ?_, ?_, ?_, ?_⟩⟩
      · rw [List.length_map]
        exact small1000 (by omega)
      · rw [List.length_append, hz1]
        rfl
      · intro x hx
        rcases List.mem_append.mp hx with h | h
        · exact hz2 x h
        · have : x = z % 1000003 := by simpa using h
          rw [this]
          exact ⟨mod_lo (by decide), mod_hi (by decide)⟩
      · intro p o h
        have hD : H D = none := s2.free nD
        rw [upd_ne (ne_of_none h hD)]
        exact sG p o h
      · rw [upd_ne (ne_of_none upd_same nD)]
        exact ec2
      · rw [upd_same, List.map_append]
        rfl
    · rintro G ⟨zs, hz1, hz2, sG, ec2, eD⟩
      rw [List.length_map] at hz1
      have hsum : ∀ l : List Int, (∀ z ∈ l, 0 ≤ z ∧ z < 1000003) → 0 ≤ l.sum ∧ l.sum ≤ l.length * 1000003 := by
        intro l
        induction l with
        | nil => intro _; exact ⟨by decide, by decide⟩
        | cons x l ih =>
          intro h
          obtain ⟨h1, h2⟩ := ih fun z hz => h z (List.mem_cons_of_mem _ hz)
          obtain ⟨h3, h4⟩ := h x (by simp)
          rw [List.sum_cons, List.length_cons]
          omega
      obtain ⟨u1, u2⟩ := hsum zs hz2
      refine ⟨D, zs, rfl, SqL.of eD, _, _, rfl, rfl, ?_⟩
      refine ⟨_, rfl, _, rfl, a, _, rfl, sG.seq hS, fun d nd => ?_⟩
      rw [ec]
      refine ⟨d, _, rfl, .inl (SqL.of upd_same), fun l nl => ⟨_, rfl, (by show 5 ≤ sizeLine; decide), fun b nb => ?_⟩⟩
      have s3 := (sG.trans (same_upd (o := .lst (ms.map V.int)) nd)).trans (same_upd (o := .lst (ms.map V.int)) nl)
      refine q b _ (s3.trans (same_upd nb)) ⟨l, ms, 0, 0, _, 0, upd_same, ?_, ?_, Nat.zero_le _, ?_, ?_⟩ (s3.free nb)
      · have e : l ≠ b := fun e => by rw [← e, upd_same] at nb; cases nb
        exact SqL.of (by rw [upd_ne e, upd_same])
      · exact fun e => by rw [← e, upd_same] at nb; cases nb
      · rw [List.length_map]
        omega
      · rw [List.length_map]
        omega
theorem ok_pullC {f : Addr} {fd : FuncData} {k : Nat} (F : Fun K "_law_pull" "_law_pull" sLawPull f fd) (b_int : mg "int" = none) (b_len : mg "len" = none) (b_abs : mg "abs" = none) : FnOk P w K mg base CX0 (k + 1) f fd ["bag", "many"] (spDrawC K) := by
  refine F.ok scLawPull (fun vs H Q E h => ?_) (fun cdv A outer s H vs Q E hr h => ?_)
  · obtain ⟨b, m, c, ns, rfl, _⟩ := h
    rfl
  · obtain ⟨b, m, c, ns, rfl, ⟨i, g, x, n, B⟩, m0, m1, q⟩ := h
    refine ⟨_, (C8.pss_cut (ps_if (PW.pt (pw_and (pt_cmpR op_eq (pe_ix ix_list (pv 0) pe_int (fun _ _ => rfl)) pe_int (nomark _)) (pw_and1 (pt_cmpR op_lt (pe_ix ix_list (pv 0) pe_int (fun _ _ => rfl)) (pe_callB call_len rfl b_len (by decide +kernel) (pa_cons (pe_ix ix_list (pv 0) pe_int (fun _ _ => rfl)) pa_nil)) (nomark _))))) (pss_cons (ps_set (i := 2) scLawPull.nd rfl (.inl rfl) (pe_callTy call_int1 rfl b_int (by decide +kernel) (pa_cons (pe_ix ix_list (pe_ix ix_list (pv 0) pe_int (fun _ _ => rfl)) (pe_ix ix_list (pv 0) pe_int (fun _ _ => rfl)) (fun _ _ => rfl)) pa_nil)))
        (pss_cons (ps_asg (pe_op op_add (pe_ix ix_list (pv 0) pe_int (fun _ _ => rfl)) pe_int) (pg_sub (pv 0) pe_int set_list))
        (pss_one (ps_if (pt_cmpR op_ge (pe_callB call_abs rfl b_abs (by decide +kernel) (pa_cons (pv 2) pa_nil)) (pe_op op_powG pe_int pe_int) (nomark _)) (pss_one (ps_asg (pe_callB call_abs rfl b_abs (by decide +kernel) (pa_cons (pv 2) pa_nil)) (pg_sub (pv 0) pe_int set_list))) (pss_one (ps_asg (pe_op op_mod (pe_callTy call_int1 rfl b_int (by decide +kernel) (pa_cons (pe_op op_add (pe_op op_add (pe_op op_mulG (pe_ix ix_list (pv 0) pe_int (fun _ _ => rfl)) pe_int) (pe_op op_mulG (pe_op op_mod (pe_callTy call_int1 rfl b_int (by decide +kernel) (pa_cons (pv 2) pa_nil)) pe_int) pe_int)) pe_int) pa_nil)) pe_int) (pg_sub (pv 0) pe_int set_list))))))) pss_nil)
      (pss_cons (ps_if (pt_cmpR op_gt (pe_ix ix_list (pv 0) pe_int (fun _ _ => rfl)) pe_int (nomark _)) (pss_cons (ps_set (i := 3) scLawPull.nd rfl (.inl rfl) (pe_op op_mod (pe_callTy call_int1 rfl b_int (by decide +kernel) (pa_cons (pe_ix ix_list (pv 0) pe_int (fun _ _ => rfl)) pa_nil)) (pv 1)))
        (pss_cons (ps_asg (pe_op op_fdivW (pe_ix ix_list (pv 0) pe_int (fun _ _ => rfl)) (pv 1)) (pg_sub (pv 0) pe_int set_list))
        (pss_one (ps_ret (pv 3))))) pss_nil)
      (pss_cons (ps_asg (pe_op op_add (pe_ix ix_list (pv 0) pe_int (fun _ _ => rfl)) pe_int) (pg_sub (pv 0) pe_int set_list))
      (pss_cons (ps_set (i := 4) scLawPull.nd rfl (.inl rfl) (pe_op op_mod (pe_callTy call_int1 rfl b_int (by decide +kernel) (pa_cons (pe_op op_add (pe_op op_mulG (pe_ix ix_list (pv 0) pe_int (fun _ _ => rfl)) (pe_ix ix_list (pv 0) pe_int (fun _ _ => rfl))) (pe_op op_mulG (pe_ix ix_list (pv 0) pe_int (fun _ _ => rfl)) pe_int)) pa_nil)) pe_int))
      (pss_cons (ps_asg (pe_op op_mod (pe_callTy call_int1 rfl b_int (by decide +kernel) (pa_cons (pe_op op_add (pe_op op_add (pe_op op_mulG (pv 4) pe_int) (pe_op op_mulG (pe_ix ix_list (pv 0) pe_int (fun _ _ => rfl)) pe_int)) pe_int) pa_nil)) pe_int) (pg_sub (pv 0) pe_int set_list))
      (pss_one (ps_ret (pe_op op_mod (pe_callTy call_int1 rfl b_int (by decide +kernel) (pa_cons (pe_op op_fdivW (pe_ix ix_list (pv 0) pe_int (fun _ _ => rfl)) pe_int) pa_nil)) (pv 1))))))))), ?_⟩
    refine ⟨fun σ' H' => ∃ (v2 v3 v4 : Option V) (i' : Nat) (g' x' n' : Int), σ' = [some (.ref b), some (.int m), v2, v3, v4] ∧ BagIs K H' b c ns i' g' x' n' ∧ But b H H', ?_, ?_⟩
    · refine ⟨.ref b, rfl, b, _, 2, _, rfl, rfl, SqL.of B.ob, (atI_nat (j := 2) rfl), rfl, _, rfl, ?_⟩
      refine ite2 (fun _ => ?_) (fun _ => ?_)
      · refine ⟨.ref b, rfl, b, _, 1, _, rfl, rfl, SqL.of B.ob, (atI_nat (j := 1) rfl), .ref b, rfl, b, _, 0, _, rfl, rfl, SqL.of B.ob, (atI_nat (j := 0) rfl), _, _, rfl, .inl ⟨_, B.sq, rfl⟩, _, _, rfl, rfl, _, rfl, ?_⟩
        refine ite2 (fun e => ?_) (fun _ => ?_)
        · have hlt : i < ns.length := by
            have e2 := of_decide_eq_true e
            rw [List.length_map] at e2
            omega
          have gi : (ns.map V.int)[i]? = some (.int ns[i]) := by
            rw [List.getElem?_map, List.getElem?_eq_getElem hlt]
            rfl
          refine ⟨.ref b, rfl, b, _, 0, _, rfl, rfl, SqL.of B.ob, (atI_nat (j := 0) rfl), .ref b, rfl, b, _, 1, _, rfl, rfl, SqL.of B.ob, (atI_nat (j := 1) rfl), c, _, i, _, rfl, rfl, B.sq, atI_nat gi, .inl ⟨_, rfl, ?_⟩⟩
          refine ⟨.ref b, rfl, b, _, 1, _, rfl, rfl, SqL.of B.ob, (atI_nat (j := 1) rfl), _, _, rfl, rfl, .ref b, rfl, b, _, 1, 1, rfl, rfl, B.ob, rfl, ?_⟩
          have B2 : BagIs K (upd H b (.lst [.ref c, .int ((i : Int) + 1), .int g, .int x, .int n])) b c ns (i + 1) g x n := B.put (i' := i + 1) hlt B.x0 B.x1
          have t2 : But b H (upd H b (.lst [.ref c, .int ((i : Int) + 1), .int g, .int x, .int n])) := But.upd
          refine ⟨_, rfl, _, rfl, _, _, rfl, rfl, ⟨by decide, by decide +kernel⟩, _, _, rfl, rfl, _, rfl, ?_⟩
          refine ite2 (fun _ => ?_) (fun _ => ?_)
          · refine ⟨_, rfl, _, rfl, .ref b, rfl, b, _, 2, 2, rfl, rfl, B2.ob, rfl, ?_⟩
            exact ⟨_, _, _, i + 1, _, x, n, rfl, B2.put B2.hi B.x0 B.x1, t2.trans But.upd⟩
          · refine ⟨.ref b, rfl, b, _, 3, _, rfl, rfl, SqL.of B2.ob, (atI_nat (j := 3) rfl), _, _, rfl, rfl, mul_right (by decide +kernel), _, rfl, .inl ⟨_, rfl, _, _, rfl, rfl, (by show (0 : Int) < _; decide), _, _, rfl, rfl, mul_right (by decide +kernel), _, _, rfl, rfl, _, _, rfl, rfl, .inl ⟨_, rfl, _, _, rfl, rfl, (by show (0 : Int) < _; decide), ?_⟩⟩⟩
            refine ⟨.ref b, rfl, b, _, 3, 3, rfl, rfl, B2.ob, rfl, ?_⟩
            exact ⟨_, _, _, i + 1, g, _, n, rfl, B2.put B2.hi (mod_lo (by decide)) (Int.lt_trans (mod_hi (by decide)) (by decide)), t2.trans But.upd⟩
        · exact ⟨_, _, _, i, g, x, n, rfl, B, But.refl⟩
      · exact ⟨_, _, _, i, g, x, n, rfl, B, But.refl⟩
    · rintro σ' H' ⟨v2, v3, v4, i', g', x', n', rfl, B', t'⟩
      refine ⟨.ref b, rfl, b, _, 2, _, rfl, rfl, SqL.of B'.ob, (atI_nat (j := 2) rfl), _, _, rfl, rfl, _, rfl, ?_⟩
      have d1 : CDivW g' m := wide_div m0 (b := 130) (by omega) (by decide) (by decide)
      refine ite2 (fun _ => ?_) (fun _ => ?_)
      · refine ⟨.ref b, rfl, b, _, 2, _, rfl, rfl, SqL.of B'.ob, (atI_nat (j := 2) rfl), .inl ⟨_, rfl, _, rfl, _, _, rfl, rfl, m0, ?_⟩⟩
        refine ⟨.ref b, rfl, b, _, 2, _, rfl, rfl, SqL.of B'.ob, (atI_nat (j := 2) rfl), _, rfl, _, _, rfl, rfl, d1, .ref b, rfl, b, _, 2, 2, rfl, rfl, B'.ob, rfl, ?_⟩
        exact ⟨_, rfl, q _ _ (mod_lo m0) (mod_hi m0) ⟨i', g' / m, x', n', B'.put B'.hi B'.x0 B'.x1⟩ (t'.trans But.upd)⟩
      · refine ⟨.ref b, rfl, b, _, 4, _, rfl, rfl, SqL.of B'.ob, (atI_nat (j := 4) rfl), _, _, rfl, rfl, .ref b, rfl, b, _, 4, 4, rfl, rfl, B'.ob, rfl, ?_⟩
        have B3 : BagIs K (upd H' b (.lst [.ref c, .int i', .int g', .int x', .int (n' + 1)])) b c ns i' g' x' (n' + 1) := B'.put B'.hi B'.x0 B'.x1
        have hx : IntMulOk x' x' := IntMulOk.of_left (intBits_le_64 (by have := B'.x0; omega) (by have := B'.x1; omega))
        refine ⟨.ref b, rfl, b, _, 3, _, rfl, rfl, SqL.of B3.ob, (atI_nat (j := 3) rfl), .ref b, rfl, b, _, 3, _, rfl, rfl, SqL.of B3.ob, (atI_nat (j := 3) rfl), _, _, rfl, rfl, hx, .ref b, rfl, b, _, 4, _, rfl, rfl, SqL.of B3.ob, (atI_nat (j := 4) rfl), _, _, rfl, rfl, mul_right (by decide +kernel), _, _, rfl, rfl, .inl ⟨_, rfl, _, _, rfl, rfl, (by show (0 : Int) < _; decide), ?_⟩⟩
        refine ⟨_, rfl, _, _, rfl, rfl, mul_right (by decide +kernel), .ref b, rfl, b, _, 3, _, rfl, rfl, SqL.of B3.ob, (atI_nat (j := 3) rfl), _, _, rfl, rfl, mul_right (by decide +kernel), _, _, rfl, rfl, _, _, rfl, rfl, .inl ⟨_, rfl, _, _, rfl, rfl, (by show (0 : Int) < _; decide), .ref b, rfl, b, _, 3, 3, rfl, rfl, B3.ob, rfl, ?_⟩⟩
        obtain ⟨y, hy, y0, y1⟩ : ∃ y : Int, y = ((x' * x' + (n' + 1) * 8111) % 2147483543 * 16417 + x' * 60107 + 54323) % 2147483587 ∧ 0 ≤ y ∧ y < 4294967296 := ⟨_, rfl, mod_lo (by decide), Int.lt_trans (mod_hi (by decide)) (by decide)⟩
        have B4 : BagIs K (upd (upd H' b (.lst [.ref c, .int i', .int g', .int x', .int (n' + 1)])) b (.lst [.ref c, .int i', .int g', .int (((x' * x' + (n' + 1) * 8111) % 2147483543 * 16417 + x' * 60107 + 54323) % 2147483587), .int (n' + 1)])) b c ns i' g' (((x' * x' + (n' + 1) * 8111) % 2147483543 * 16417 + x' * 60107 + 54323) % 2147483587) (n' + 1) := B3.put B3.hi (hy ▸ y0) (hy ▸ y1)
        refine ⟨.ref b, rfl, b, _, 3, _, rfl, rfl, SqL.of B4.ob, (atI_nat (j := 3) rfl), _, _, rfl, rfl, wide_div (b := 10) (by decide) (by decide) (by decide) (by decide), .inl ⟨_, rfl, _, rfl, _, _, rfl, rfl, m0, ?_⟩⟩
        exact q _ _ (mod_lo m0) (mod_hi m0) ⟨i', g', _, n' + 1, B4⟩ ((t'.trans But.upd).trans But.upd)
theorem ok_pull {f : Addr} {fd : FuncData} {k : Nat} (F : Fun K "_law_pull" "_law_pull" sLawPull f fd) (b_int : mg "int" = none) (b_len : mg "len" = none) (b_abs : mg "abs" = none) : FnOk P w K mg base CX0 (k + 1) f fd ["bag", "many"] (spDraw K) :=
  (ok_pullC F b_int b_len b_abs).imp fun vs H Q E ⟨b, m, e, ⟨c, ns, B⟩, m0, m1, q⟩ => ⟨b, m, c, ns, e, B, m0, m1, fun r H' r0 r1 B' t => q r H' r0 r1 B'.at t⟩
end
end My

set_option Elab.async false
set_option linter.all false
set_option maxRecDepth 100000
namespace My
open PySem PySem.Spec PyProof.Rows L2
abbrev sLawOf : Stmt := topS 23
theorem scLawOf : FnScope ["bag", "some"] ["bag", "some"] (defScope sLawOf) := ⟨rfl, rfl, rfl, by decide +kernel, rfl, by decide +kernel, by decide +kernel⟩
abbrev sLawLike : Stmt := topS 24
theorem scLawLike : FnScope ["found", "due", "a", "b"] ["found", "due"] (defScope sLawLike) := ⟨rfl, rfl, rfl, by decide +kernel, rfl, by decide +kernel, by decide +kernel⟩
/-- things are a list of whole numbers -/
def spOf (K : PySem.W.Frag) : Sp := fun vs H Q _ => ∃ (b a : Addr) (xs : List V), vs = [.ref b, .ref a] ∧ BagAt K H b ∧ a ≠ b ∧ SqL K H a xs ∧ 0 < xs.length ∧ xs.length < 1000 ∧ ∀ v H', v ∈ xs → BagAt K H' b → But b H H' → Q v H'
/-! ### data that are alike -/
def flat0 : V → Prop
  | .non => True
  | .bl _ => True
  | .int _ => True
  | .str _ => True
  | _ => False
def Lk (K : PySem.W.Frag) (H : Hp) : Nat → V → V → Prop
  | 0, v, w => v = w ∧ flat0 v
  | n + 1, v, w => (v = w ∧ flat0 v) ∨ ∃ a b xs ys, v = .ref a ∧ w = .ref b ∧ ((SqL K H a xs ∧ SqL K H b ys) ∨ (SqT K H a xs ∧ SqT K H b ys)) ∧ xs.length = ys.length ∧ xs.length < 1000 ∧ ∀ (i : Nat) x y, xs[i]? = some x → ys[i]? = some y → Lk K H n x y
theorem seqT_same {K : PySem.W.Frag} {H H' : Hp} {p : Addr} {xs : List V} (h : Same H H') (s : SqT K H p xs) : SqT K H' p xs := by
  rcases s with (s | ⟨o, s⟩) | s
  · exact .inl (.inl (h _ _ s))
  · exact .inl (.inr ⟨o, h _ _ s⟩)
  · exact .inr s
theorem Lk.same {K : PySem.W.Frag} {H H' : Hp} (s : Same H H') : ∀ {n : Nat} {v w : V}, Lk K H n v w → Lk K H' n v w
  | 0, _, _, h => h
  | n + 1, _, _, h => by
    rcases h with h | ⟨a, b, xs, ys, e1, e2, hs, hl, hb, hi⟩
    · exact .inl h
    · refine .inr ⟨a, b, xs, ys, e1, e2, ?_, hl, hb, fun i x y p q => (hi i x y p q).same s⟩
      rcases hs with ⟨p, q⟩ | ⟨p, q⟩
      · exact .inl ⟨s.seq p, s.seq q⟩
      · exact .inr ⟨seqT_same s p, seqT_same s q⟩
theorem Lk.flat {K : PySem.W.Frag} {H : Hp} {n : Nat} {v w : V} (e : v = w) (f : flat0 v) : Lk K H n v w := by
  cases n with
  | zero => exact ⟨e, f⟩
  | succ n => exact .inl ⟨e, f⟩
def spLike (K : PySem.W.Frag) (n : Nat) : Sp := fun vs H Q _ => ∃ v w, vs = [v, w] ∧ Lk K H n v w ∧ ∀ H', Same H H' → Q (.bl true) H'
theorem ty_list {K : PySem.W.Frag} {H : Hp} {a : Addr} {xs : List V} (h : SqL K H a xs) : TyX K H (.ref a) (.type "list") := by
  rcases h with (h | ⟨o, h⟩) | ⟨o, its, n, h, c, _⟩
  · exact .base (.lst h)
  · exact .base (.frz h)
  · exact .kList h c
theorem ty_tup {K : PySem.W.Frag} {H : Hp} {a : Addr} {xs : List V} (h : SqT K H a xs) : TyX K H (.ref a) (.type "tuple") := by
  rcases h with (h | ⟨o, h⟩) | ⟨o, its, n, h, c, _⟩
  · exact .base (.tup h)
  · exact .fTuple h
  · exact .kTuple h c
/-- the type of a flat value -/
def tyN : V → String
  | .non => "NoneType"
  | .bl _ => "bool"
  | .int _ => "int"
  | .str _ => "str"
  | _ => ""
theorem ty_flat {K : PySem.W.Frag} {H : Hp} {v : V} (h : flat0 v) : TyX K H v (.type (tyN v)) := by
  cases v with
  | non => exact .base .non
  | bl b => exact .base (.bl b)
  | int i => exact .base (.int i)
  | str x => exact .base (.str x)
  | _ => exact h.elim
theorem cls2 {a b : String} : Paired ClsV [.ty a, .ty b] [.type a, .type b] := .cons (.ty a) (.cons (.ty b) .nil)
section
variable {P : Program} {w : World} {K : PySem.W.Frag} {mg : Str → Option Value} {base : Heap}
theorem kit_ll : PySem.W.kitAny K (.type "list") [.type "list", .type "tuple"] = some true := by rfl
theorem kit_tl : PySem.W.kitAny K (.type "tuple") [.type "list", .type "tuple"] = some true := by rfl
theorem kit_flat {v : V} (h : flat0 v) : PySem.W.kitAny K (.type (tyN v)) [.type "list", .type "tuple"] = some false := by
  cases v <;> first | rfl | exact h.elim
theorem k1_ll : PySem.W.kitOne K (.type "list") (.type "list") = some true := by rfl
theorem k1_lt : PySem.W.kitOne K (.type "list") (.type "tuple") = some false := by rfl
theorem k1_tl : PySem.W.kitOne K (.type "tuple") (.type "list") = some false := by rfl
theorem k1_tt : PySem.W.kitOne K (.type "tuple") (.type "tuple") = some true := by rfl
theorem k1_flat {v : V} (h : flat0 v) (c : String) (hc : c = "bool" ∨ c = "str" ∨ c = "int") : ∃ b, PySem.W.kitOne K (.type (tyN v)) (.type c) = some b := by
  cases v <;> first | exact h.elim | (rcases hc with rfl | rfl | rfl <;> exact ⟨_, rfl⟩)
theorem pe_ty {X : Cx} (T : String) {x : Str} {pos : Pos} (hg : Gl X x) (hm : X.mg x = none) (hv : bootBuiltins x = some (.type T)) (hn : x ≠ "__name__" := by decide) (hd : (x == ("__debug__" : Str)) = false := by decide) : PE X (.Name x pos) (tC (.ty T)) := pe_bltn hg hm hv rfl hn hd
theorem walk_zipT {a b : Addr} {xs ys : List V} {n : Nat} (hn : n = min xs.length ys.length) : Walk (RZ.ItzT K a b) n (fun H => SqT K H a xs ∧ SqT K H b ys) (YPair (fun i => xs[i]?) (fun i => ys[i]?)) := by
  subst hn
  refine ⟨fun i _ hi q => ?_, fun _ q => ⟨xs, ys, q.1, q.2, by omega⟩, fun i H v H' _ q y => ?_⟩
  · have h1 : i < xs.length := by omega
    have h2 : i < ys.length := by omega
    exact ⟨xs, ys, xs[i], ys[i], q.1, q.2, by simp [h1], by simp [h2]⟩
  · obtain ⟨T, x, z, h1, h2, h3, h4, h5⟩ := y
    exact ⟨T, x, z, h1, h2, h3, h4 xs q.1, h5 ys q.2⟩
theorem ok_of {f fD : Addr} {fd fdD : FuncData} {k : Nat} (F : Fun K "_law_of" "_law_of" sLawOf f fd) (D : Cal P w K mg base "_law_pull" (k + 1) ["bag", "many"] (spDraw K) fD fdD) (b_len : mg "len" = none) : FnOk P w K mg base CX0 (k + 2) f fd ["bag", "some"] (spOf K) := by
  refine F.ok scLawOf (fun vs H Q E h => ?_) (fun cdv A outer s H vs Q E hr h => ?_)
  · obtain ⟨b, a, xs, rfl, _⟩ := h
    rfl
  · obtain ⟨b, a, xs, rfl, B, n, hs, h0, h1, q⟩ := h
    refine ⟨_, (pss_one (ps_ret (pe_ix ix_list (pv 1) (pe_call D.ok hr rfl D.g D.kp D.b .nil pass0 (pa_cons (pv 0) (pa_cons (pe_callB call_len rfl b_len (by decide +kernel) (pa_cons (pv 1) pa_nil)) pa_nil))) (fun _ _ => rfl)))), ?_⟩
    refine ⟨_, rfl, _, rfl, _, rfl, _, _, rfl, .inl ⟨_, hs, rfl⟩, b, _, rfl, B, by omega, by omega, fun r H' r0 r1 B' t => ?_⟩
    obtain ⟨j, rfl⟩ : ∃ j : Nat, r = (j : Int) := ⟨r.toNat, by omega⟩
    have hj : j < xs.length := by omega
    exact ⟨a, _, _, xs[j], rfl, rfl, t.seq n hs, atI_nat (List.getElem?_eq_getElem hj), q _ H' (List.getElem_mem hj) B' t⟩
theorem all_true : ∀ n : Nat, (List.replicate n true).all id = true := fun n => by
  induction n with
  | zero => rfl
  | succ n ih => rw [List.replicate_succ, List.all_cons, ih]; rfl
theorem FnOk.never {f : Addr} {fd : FuncData} {k : Nat} {ps : List Str} : FnOk P w K mg base CX0 k f fd ps (fun _ _ _ _ => False) := ⟨fun _ _ _ _ h => h.elim, fun _ _ _ _ _ _ _ _ _ _ _ _ _ h => h.elim⟩
def spLikeM (K : PySem.W.Frag) (M : Hp → V → V → Prop) : Sp := fun vs H Q _ => ∃ v w, vs = [v, w] ∧ ((v = w ∧ flat0 v) ∨ ∃ a b xs ys, v = .ref a ∧ w = .ref b ∧ ((SqL K H a xs ∧ SqL K H b ys) ∨ (SqT K H a xs ∧ SqT K H b ys)) ∧ xs.length = ys.length ∧ xs.length < 1000 ∧ ∀ (i : Nat) x y, xs[i]? = some x → ys[i]? = some y → M H x y) ∧ ∀ H', Same H H' → Q (.bl true) H'
theorem like_step {f : Addr} {fd : FuncData} {k : Nat} {R : Sp} {M : Hp → V → V → Prop} (F : Fun K "_law_like" "_law_like" sLawLike f fd) (g : mg "_law_like" = some (.ref f)) (b : Binds K fd ["found", "due"] [])
    (b_isinstance : mg "isinstance" = none) (b_list : mg "list" = none) (b_tuple : mg "tuple" = none) (b_bool : mg "bool" = none) (b_str : mg "str" = none) (b_int : mg "int" = none) (b_len : mg "len" = none) (b_all : mg "all" = none) (b_zip : mg "zip" = none)
    (G : FnOk P w K mg base CX0 k f fd ["found", "due"] R) (hM : ∀ v w H Q E, M H v w → (∀ H', Same H H' → Q (.bl true) H') → R [v, w] H Q E) (hS : ∀ H H' v w, Same H H' → M H v w → M H' v w) : FnOk P w K mg base CX0 (k + 1) f fd ["found", "due"] (spLikeM K M) := by
  refine F.ok scLawLike (fun vs H Q E h => ?_) (fun cdv A outer s H vs Q E hr h => ?_)
  · obtain ⟨v, w', rfl, _⟩ := h
    rfl
  · obtain ⟨v, w', rfl, L, q⟩ := h
    refine ⟨_, (pss_cons (ps_if (PW.pt (pw_or (pt_cmpR op_isN (pv 1) pe_non (nomark _)) (pw_or1 (pt_cmpR op_isN (pv 0) pe_non (nomark _))))) (pss_one (ps_ret (pe_and (pe_cmpR op_isN (pv 1) pe_non (nomark _)) (pe_one (pe_cmpR op_isN (pv 0) pe_non (nomark _)))))) pss_nil)
      (pss_cons (ps_if (pt_val (pe_callB call_isiT rfl b_isinstance (by decide +kernel) (pa_cons (pv 1) (pa_cons (pe_tup (pa_cons (pe_ty "list" rfl b_list (by decide +kernel)) (pa_cons (pe_ty "tuple" rfl b_tuple (by decide +kernel)) pa_nil))) pa_nil)))) (pss_cons (ps_if (PW.pt (pw_or (pt_cmpR op_ne (pe_callB call_isi rfl b_isinstance (by decide +kernel) (pa_cons (pv 0) (pa_cons (pe_ty "list" rfl b_list (by decide +kernel)) pa_nil))) (pe_callB call_isi rfl b_isinstance (by decide +kernel) (pa_cons (pv 1) (pa_cons (pe_ty "list" rfl b_list (by decide +kernel)) pa_nil))) (nomark _)) (pw_or1 (pt_cmpR op_ne (pe_callB call_isi rfl b_isinstance (by decide +kernel) (pa_cons (pv 0) (pa_cons (pe_ty "tuple" rfl b_tuple (by decide +kernel)) pa_nil))) (pe_callB call_isi rfl b_isinstance (by decide +kernel) (pa_cons (pv 1) (pa_cons (pe_ty "tuple" rfl b_tuple (by decide +kernel)) pa_nil))) (nomark _))))) (pss_one (ps_ret pe_bl)) pss_nil)
        (pss_one (ps_ret (pe_and (pe_cmpR op_eq (pe_callB call_len rfl b_len (by decide +kernel) (pa_cons (pv 0) pa_nil)) (pe_callB call_len rfl b_len (by decide +kernel) (pa_cons (pv 1) pa_nil)) (nomark _)) (pe_one (pe_callB (cr_all rfl) rfl b_all (by decide +kernel) (pa_cons (pe_lc (own := [("a", 2), ("b", 3)]) (g := gTup K 2 (gCons (gName 2) (gCons (gName 3) gNil))) (tt := tYes) rfl scLawLike.nd (RZ.pi_zipA rfl b_zip (pa_cons (pv 0) (pa_cons (pv 1) pa_nil))) (blkOk_by (own := [("a", 2), ("b", 3)]) (N := ["found", "due", "a", "b"]) (sc := defScope sLawLike) (by decide +kernel)) (fun _ _ _ _ _ => (pg_tup rfl (pgs_cons (pg_name (i := 2) scLawLike.nd rfl (.inl rfl) (.inr rfl)) (pgs_cons (pg_name (i := 3) scLawLike.nd rfl (.inl rfl) (.inr rfl)) pgs_nil)))) (fun _ _ _ _ _ => pts_nil) (fun _ _ _ _ _ => (pe_call G hr rfl g F.kp b .nil pass0 (pa_cons (pv 2) (pa_cons (pv 3) pa_nil))))) pa_nil))))))) pss_nil)
      (pss_cons (ps_if (PW.pt (pw_or (pt_cmpR op_ne (pe_callB call_isi rfl b_isinstance (by decide +kernel) (pa_cons (pv 1) (pa_cons (pe_ty "bool" rfl b_bool (by decide +kernel)) pa_nil))) (pe_callB call_isi rfl b_isinstance (by decide +kernel) (pa_cons (pv 0) (pa_cons (pe_ty "bool" rfl b_bool (by decide +kernel)) pa_nil))) (nomark _)) (pw_or1 (pt_cmpR op_ne (pe_callB call_isi rfl b_isinstance (by decide +kernel) (pa_cons (pv 1) (pa_cons (pe_ty "int" rfl b_int (by decide +kernel)) pa_nil))) (pe_callB call_isi rfl b_isinstance (by decide +kernel) (pa_cons (pv 0) (pa_cons (pe_ty "int" rfl b_int (by decide +kernel)) pa_nil))) (nomark _))))) (pss_one (ps_ret pe_bl)) pss_nil)
      (pss_one (ps_ret (pe_and (pe_cmpR op_eq (pe_callB call_isi rfl b_isinstance (by decide +kernel) (pa_cons (pv 0) (pa_cons (pe_ty "str" rfl b_str (by decide +kernel)) pa_nil))) (pe_callB call_isi rfl b_isinstance (by decide +kernel) (pa_cons (pv 1) (pa_cons (pe_ty "str" rfl b_str (by decide +kernel)) pa_nil))) (nomark _)) (pe_one (pe_cmpR op_eq (pv 0) (pv 1) (nomark _))))))))), ?_⟩
    rcases L with ⟨rfl, fl⟩ | ⟨a, c, xs, ys, rfl, rfl, hs, hl, hb, hi⟩
    · have hf : flat0 v := fl
      refine ⟨v, rfl, rfl, _, rfl, ite2 (fun e => iteT ?_) (fun e => ⟨v, rfl, rfl, _, rfl, ite2 (fun e' => absurd e' e) (fun _ => ?_)⟩)⟩
      · refine ⟨v, rfl, rfl, _, rfl, ?_⟩
        rw [e]
        refine iteT ⟨v, rfl, rfl, ?_⟩
        rw [e]
        exact q _ (Same.refl H)
      · refine ⟨_, rfl, (by show 2 ≤ sizeLine; decide), fun p np => ⟨_, p, _, _, _, _, rfl, upd_same, cls2, ty_flat hf, kit_flat hf, _, rfl, iteF ?_⟩⟩
        have s1 := same_upd (o := .tup [.ty "list", .ty "tuple"]) np
        obtain ⟨k1, e1⟩ := k1_flat (K := K) hf "bool" (.inl rfl)
        obtain ⟨k2, e2⟩ := k1_flat (K := K) hf "str" (.inr (.inl rfl))
        obtain ⟨k3, e3⟩ := k1_flat (K := K) hf "int" (.inr (.inr rfl))
        refine ⟨_, rfl, _, _, _, _, _, rfl, .ty _, ty_flat hf, e1, _, rfl, _, _, _, _, _, rfl, .ty _, ty_flat hf, e1, rfl, _, rfl, ?_⟩
        rw [decide_eq_true rfl]
        refine iteF ⟨_, rfl, _, _, _, _, _, rfl, .ty _, ty_flat hf, e3, _, rfl, _, _, _, _, _, rfl, .ty _, ty_flat hf, e3, rfl, _, rfl, ?_⟩
        rw [decide_eq_true rfl]
        refine iteF ⟨_, rfl, _, _, _, _, _, rfl, .ty _, ty_flat hf, e2, _, rfl, _, _, _, _, _, rfl, .ty _, ty_flat hf, e2, rfl, _, rfl, ?_⟩
        rw [decide_eq_true rfl]
        refine iteT ⟨_, rfl, _, rfl, ?_, ?_⟩
        · cases v <;> first | rfl | exact hf.elim
        · rw [decide_eq_true rfl]
          exact q _ s1
    · -- lists or tuples
      have hr1 : ∀ (i : Nat) x y, xs[i]? = some x → ys[i]? = some y → M H x y := hi
      obtain ⟨T, kt, k1, k2, tya, tyc, hlen, hlen'⟩ : ∃ T, PySem.W.kitAny K (.type T) [.type "list", .type "tuple"] = some true ∧ (∃ k1, PySem.W.kitOne K (.type T) (.type "list") = some k1) ∧ (∃ k2, PySem.W.kitOne K (.type T) (.type "tuple") = some k2) ∧ (∀ H', Same H H' → TyX K H' (.ref a) (.type T)) ∧ (∀ H', Same H H' → TyX K H' (.ref c) (.type T)) ∧ (∀ H', Same H H' → LenV K (.ref a) H' xs.length) ∧ (∀ H', Same H H' → LenV K (.ref c) H' ys.length) := by
        rcases hs with ⟨p, q⟩ | ⟨p, q⟩
        · exact ⟨"list", kit_ll, ⟨_, k1_ll⟩, ⟨_, k1_lt⟩, fun _ s => ty_list (s.seq p), fun _ s => ty_list (s.seq q), fun _ s => .inl ⟨_, s.seq p, rfl⟩, fun _ s => .inl ⟨_, s.seq q, rfl⟩⟩
        · exact ⟨"tuple", kit_tl, ⟨_, k1_tl⟩, ⟨_, k1_tt⟩, fun _ s => ty_tup (seqT_same s p), fun _ s => ty_tup (seqT_same s q), fun _ s => .inr ⟨_, seqT_same s p, rfl⟩, fun _ s => .inr ⟨_, seqT_same s q, rfl⟩⟩
      obtain ⟨k1, e1⟩ := k1
      obtain ⟨k2, e2⟩ := k2
      refine ⟨_, rfl, rfl, _, rfl, ite2 (fun e => absurd (of_decide_eq_true e) (fun z => by cases z)) (fun _ => ⟨_, rfl, rfl, _, rfl, ite2 (fun e => absurd (of_decide_eq_true e) (fun z => by cases z)) (fun _ => ?_)⟩)⟩
      refine ⟨_, rfl, (by show 2 ≤ sizeLine; decide), fun p0 np => ⟨_, p0, _, _, _, _, rfl, upd_same, cls2, tyc _ (same_upd np), kt, _, rfl, iteT ?_⟩⟩
      have s1 : Same H (upd H p0 (.tup [.ty "list", .ty "tuple"])) := same_upd np
      refine ⟨_, rfl, _, _, _, _, _, rfl, .ty _, tya _ s1, e1, _, rfl, _, _, _, _, _, rfl, .ty _, tyc _ s1, e1, rfl, _, rfl, ?_⟩
      rw [decide_eq_true rfl]
      refine iteF ⟨_, rfl, _, _, _, _, _, rfl, .ty _, tya _ s1, e2, _, rfl, _, _, _, _, _, rfl, .ty _, tyc _ s1, e2, rfl, _, rfl, ?_⟩
      rw [decide_eq_true rfl]
      refine iteF ⟨_, rfl, _, _, rfl, hlen _ s1, _, rfl, _, _, rfl, hlen' _ s1, rfl, _, rfl, ?_⟩
      rw [hl, decide_eq_true rfl]
      refine iteT ⟨_, rfl, _, rfl, a, c, xs, ys, rfl, ?_⟩
      rcases hs with ⟨p, q'⟩ | ⟨p, q'⟩
      ·
        refine .inl ⟨Same.seq s1 p, Same.seq s1 q', fun D nD => lc_it (walk_zip (K := K) (a := a) (b := c) (by omega : xs.length = min xs.length ys.length)) (fun i H2 => Same (upd H p0 (.tup [.ty "list", .ty "tuple"])) H2 ∧ H2 D = some (.lst ((List.replicate i true).map V.bl))) ⟨same_upd nD, upd_same⟩ (fun i H2 _ h => ⟨Same.seq (s1.trans h.1) p, Same.seq (s1.trans h.1) q'⟩) ?_ ?_⟩
        · rintro i z H2 H3 hlt ⟨s2, hD⟩ ⟨T, x, y, rfl, nT, rfl, hx, hy⟩
          have nTD : D ≠ T := ne_of_none hD nT
          refine ⟨T, [x, y], rfl, SqT.of upd_same, rfl, x, [y], rfl, y, [], rfl, rfl, rfl, ?_⟩
          unfold tYes
          refine iteT ?_
          refine ⟨x, rfl, y, rfl, hM x y _ _ _ (hS _ _ _ _ ((s1.trans s2).trans (same_upd nT)) (hr1 i x y hx hy)) fun H4 s4 => ?_⟩
          have hD4 : H4 D = some (.lst ((List.replicate i true).map V.bl)) := s4 _ _ (by rw [upd_ne nTD]; exact hD)
          refine ⟨_, hD4, ?_, ?_, ?_⟩
          · rw [List.length_map, List.length_replicate]
            exact small1000 (by omega)
          · intro p' o' h'
            have nq : p' ≠ D := ne_of_none h' nD
            rw [upd_ne nq]
            exact s4 _ _ (same_upd nT _ _ (s2 _ _ h'))
          · rw [upd_same, List.replicate_succ', List.map_append]
            rfl
        · rintro H2 ⟨s2, hD⟩
          refine ⟨D, _, rfl, SqL.of hD, ?_⟩
          rw [all_true]
          exact q _ (s1.trans s2)
      ·
        refine .inr ⟨seqT_same s1 p, seqT_same s1 q', fun D nD => lc_it (walk_zipT (K := K) (a := a) (b := c) (by omega : xs.length = min xs.length ys.length)) (fun i H2 => Same (upd H p0 (.tup [.ty "list", .ty "tuple"])) H2 ∧ H2 D = some (.lst ((List.replicate i true).map V.bl))) ⟨same_upd nD, upd_same⟩ (fun i H2 _ h => ⟨seqT_same (s1.trans h.1) p, seqT_same (s1.trans h.1) q'⟩) ?_ ?_⟩
        · rintro i z H2 H3 hlt ⟨s2, hD⟩ ⟨T, x, y, rfl, nT, rfl, hx, hy⟩
          have nTD : D ≠ T := ne_of_none hD nT
          refine ⟨T, [x, y], rfl, SqT.of upd_same, rfl, x, [y], rfl, y, [], rfl, rfl, rfl, ?_⟩
          unfold tYes
          refine iteT ?_
          refine ⟨x, rfl, y, rfl, hM x y _ _ _ (hS _ _ _ _ ((s1.trans s2).trans (same_upd nT)) (hr1 i x y hx hy)) fun H4 s4 => ?_⟩
          have hD4 : H4 D = some (.lst ((List.replicate i true).map V.bl)) := s4 _ _ (by rw [upd_ne nTD]; exact hD)
          refine ⟨_, hD4, ?_, ?_, ?_⟩
          · rw [List.length_map, List.length_replicate]
            exact small1000 (by omega)
          · intro p' o' h'
            have nq : p' ≠ D := ne_of_none h' nD
            rw [upd_ne nq]
            exact s4 _ _ (same_upd nT _ _ (s2 _ _ h'))
          · rw [upd_same, List.replicate_succ', List.map_append]
            rfl
        · rintro H2 ⟨s2, hD⟩
          refine ⟨D, _, rfl, SqL.of hD, ?_⟩
          rw [all_true]
          exact q _ (s1.trans s2)

theorem ok_like {f : Addr} {fd : FuncData} (F : Fun K "_law_like" "_law_like" sLawLike f fd) (g : mg "_law_like" = some (.ref f)) (b : Binds K fd ["found", "due"] [])
    (b_isinstance : mg "isinstance" = none) (b_list : mg "list" = none) (b_tuple : mg "tuple" = none) (b_bool : mg "bool" = none) (b_str : mg "str" = none) (b_int : mg "int" = none) (b_len : mg "len" = none) (b_all : mg "all" = none) (b_zip : mg "zip" = none) :
    ∀ n : Nat, FnOk P w K mg base CX0 (n + 1) f fd ["found", "due"] (spLike K n) := by
  intro n
  induction n with
  | zero =>
    exact (like_step (M := fun _ _ _ => False) (R := fun _ _ _ _ => False) F g b b_isinstance b_list b_tuple b_bool b_str b_int b_len b_all b_zip FnOk.never (fun _ _ _ _ _ h _ => h) (fun _ _ _ _ _ h => h)).imp
      fun vs H Q E ⟨v, w', e, L, q⟩ => ⟨v, w', e, .inl L, q⟩
  | succ n ih =>
    exact (like_step (M := fun H v w => Lk K H n v w) F g b b_isinstance b_list b_tuple b_bool b_str b_int b_len b_all b_zip ih (fun v w H Q E h q => ⟨v, w, rfl, h, q⟩) (fun _ _ _ _ s h => h.same s)).imp
      fun vs H Q E ⟨v, w', e, L, q⟩ => ⟨v, w', e, L, q⟩
end
end My

set_option Elab.async false
set_option linter.all false
set_option maxRecDepth 100000
namespace My
open PySem PySem.Spec PyProof.Rows L2 SX
open PySem.NumText (AllDigits digitsVal)
/-! ### digits -/
/-- the last k digits of n -/
def dk : Nat → Nat → List Nat
  | 0, _ => []
  | k + 1, n => dk k (n / 10) ++ [48 + n % 10]
theorem dk_len : ∀ k n, (dk k n).length = k
  | 0, _ => rfl
  | k + 1, n => by rw [dk, List.length_append, dk_len k]; rfl
theorem numL_dk : ∀ (k n : Nat), 10 ^ k ≤ n → TL.numL n = TL.numL (n / 10 ^ k) ++ dk k n
  | 0, n, _ => by rw [Nat.pow_zero, Nat.div_one, dk, List.append_nil]
  | k + 1, n, h => by
    have p : 0 < 10 ^ k := Nat.pow_pos (by decide)
    have h1 : 10 ^ k * 10 ≤ n := by rw [← Nat.pow_succ]; exact h
    have h10 : 10 ≤ n := Nat.le_trans (by omega) h1
    rw [TL.numL_step h10, numL_dk k (n / 10) (by rw [Nat.le_div_iff_mul_le (by decide)]; exact h1), dk, Nat.div_div_eq_div_mul, Nat.pow_succ, Nat.mul_comm 10, List.append_assoc]
theorem dk_mod : ∀ (k n : Nat), dk k n = dk k (n % 10 ^ k)
  | 0, n => rfl
  | k + 1, n => by
    have e1 : n % 10 ^ (k + 1) % 10 = n % 10 := by
      rw [Nat.pow_succ, Nat.mod_mul_left_mod]
    have e2 : n % 10 ^ (k + 1) / 10 = n / 10 % 10 ^ k := by
      rw [Nat.pow_succ, Nat.mul_comm, Nat.mod_mul_right_div_self]
    rw [dk, dk, e1, e2, dk_mod k (n / 10)]
theorem dk_pad : ∀ (k n : Nat), n < 10 ^ (k + 1) → dk (k + 1) n = List.replicate (k + 1 - (TL.numL n).length) 48 ++ TL.numL n := by
  intro k
  induction k with
  | zero =>
    intro n h
    have h' : n < 10 := h
    rw [TL.numL_lt h']
    show dk 0 (n / 10) ++ [48 + n % 10] = _
    rw [Nat.mod_eq_of_lt h']
    rfl
  | succ k ih =>
    intro n h
    by_cases h10 : n < 10
    · rw [dk, ih (n / 10) (by rw [Nat.div_eq_of_lt h10]; exact Nat.pow_pos (by decide)), Nat.div_eq_of_lt h10, TL.numL_lt h10, TL.numL_lt (by decide : 0 < 10), Nat.mod_eq_of_lt h10]
      show List.replicate k 48 ++ [48] ++ [48 + n] = List.replicate (k + 1) 48 ++ [48 + n]
      rw [← List.replicate_succ']
    · rw [dk, ih (n / 10) (by rw [Nat.div_lt_iff_lt_mul (by decide), ← Nat.pow_succ]; exact h), TL.numL_step (n := n) (by omega), List.length_append, List.append_assoc]
      have e : k + 1 - (TL.numL (n / 10)).length = k + 1 + 1 - ((TL.numL (n / 10)).length + [48 + n % 10].length) := by
        show _ = k + 1 + 1 - ((TL.numL (n / 10)).length + 1)
        omega
      rw [e]
/-- digits that write a number as Python does -/
structure Can (l : List Nat) : Prop where
  ne : l ≠ []
  dg : AllDigits l
  z : l.head? = some 48 → l = [48]
theorem digitsVal_snoc (l : List Nat) (c : Nat) : digitsVal (l ++ [c]) = digitsVal l * 10 + (c - 48) := by
  unfold digitsVal
  rw [List.foldl_append]
  rfl
theorem fold_lt : ∀ (l : List Nat) (a : Nat), AllDigits l → l.foldl (fun acc c => acc * 10 + (c - 48)) a < (a + 1) * 10 ^ l.length
  | [], a, _ => by show a < (a + 1) * 1; omega
  | c :: l, a, h => by
    have h2 := h.head
    have h1 := fold_lt l (a * 10 + (c - 48)) h.tail
    rw [List.foldl_cons, List.length_cons, Nat.pow_succ]
    refine Nat.lt_of_lt_of_le h1 ?_
    have e : (a + 1) * (10 ^ l.length * 10) = ((a + 1) * 10) * 10 ^ l.length := by
      rw [Nat.mul_comm (10 ^ l.length), Nat.mul_assoc]
    rw [e]
    exact Nat.mul_le_mul_right _ (by omega)
theorem val_lt {l : List Nat} (h : AllDigits l) : digitsVal l < 10 ^ l.length := by
  have := fold_lt l 0 h
  rw [Nat.zero_add, Nat.one_mul] at this
  exact this
theorem fold_ge : ∀ (l : List Nat) (a : Nat), a ≤ l.foldl (fun acc c => acc * 10 + (c - 48)) a
  | [], a => Nat.le_refl a
  | c :: l, a => by
    have h1 := fold_ge l (a * 10 + (c - 48))
    rw [List.foldl_cons]
    omega
theorem val_pos {l : List Nat} (h : AllDigits l) (h0 : l ≠ []) (h1 : l.head? ≠ some 48) : 0 < digitsVal l := by
  cases l with
  | nil => exact absurd rfl h0
  | cons c l =>
    have h2 := h.head
    have h3 : c ≠ 48 := fun e => h1 (by rw [e]; rfl)
    have h4 := fold_ge l (0 * 10 + (c - 48))
    show 0 < l.foldl (fun acc c => acc * 10 + (c - 48)) (0 * 10 + (c - 48))
    omega
theorem numL_val' : ∀ (k : Nat) (l : List Nat), l.length = k → Can l → TL.numL (digitsVal l) = l := by
  intro k
  induction k with
  | zero => exact fun l h C => absurd (List.length_eq_zero_iff.mp h) C.ne
  | succ k ih =>
    intro l hl C
    obtain ⟨p, c, rfl⟩ : ∃ p c, l = p ++ [c] := ⟨l.dropLast, l.getLast C.ne, (List.dropLast_concat_getLast C.ne).symm⟩
    have hc := C.dg c (by simp)
    rw [digitsVal_snoc]
    by_cases hp : p = []
    · subst hp
      show TL.numL (0 * 10 + (c - 48)) = [c]
      rw [TL.numL_lt (by omega)]
      have : 48 + (0 * 10 + (c - 48)) = c := by omega
      rw [this]
    · have hh : (p ++ [c]).head? = p.head? := by
        cases p with
        | nil => exact absurd rfl hp
        | cons a p => rfl
      have h1 : p.head? ≠ some 48 := fun e => by
        have := C.z (hh.trans e)
        have l2 := congrArg List.length this
        rw [List.length_append] at l2
        exact hp (List.length_eq_zero_iff.mp (by simpa using l2))
      have dp : AllDigits p := fun d hd => C.dg d (List.mem_append.mpr (.inl hd))
      have h2 := val_pos dp hp h1
      have e := ih p (by rw [List.length_append] at hl; exact Nat.succ.inj hl) ⟨hp, dp, fun e => absurd e h1⟩
      rw [TL.numL_step (by omega)]
      have e1 : (digitsVal p * 10 + (c - 48)) / 10 = digitsVal p := by omega
      have e2 : 48 + (digitsVal p * 10 + (c - 48)) % 10 = c := by omega
      rw [e1, e2, e]
theorem Can.num {l : List Nat} (C : Can l) : TL.numL (digitsVal l) = l := numL_val' _ l rfl C
theorem can_num (n : Nat) : Can (TL.numL n) := by
  refine ⟨TL.numL_ne n, TL.numL_digits n, ?_⟩
  induction n using Nat.strongRecOn with
  | _ n ih =>
    intro h
    by_cases h10 : n < 10
    · rw [TL.numL_lt h10] at h ⊢
      have : 48 + n = 48 := Option.some.inj h
      rw [this]
    · rw [TL.numL_step (by omega)] at h
      have hh : (TL.numL (n / 10) ++ [48 + n % 10]).head? = (TL.numL (n / 10)).head? := by
        cases e : TL.numL (n / 10) with
        | nil => exact absurd e (TL.numL_ne _)
        | cons a p => rfl
      have := ih (n / 10) (by omega) (hh.symm.trans h)
      have z := TL.numL_inj (this.trans (TL.numL_lt (by decide : 0 < 10)).symm)
      omega
theorem num_short {n : Nat} : (TL.numL n).length ≤ 200 ↔ n < 10 ^ 200 := by
  constructor
  · intro h
    have := val_lt (TL.numL_digits n)
    rw [TL.numL_val] at this
    exact Nat.lt_of_lt_of_le this (Nat.pow_le_pow_right (by decide) h)
  · exact fun h => TL.numL_len (by decide) h
/-! ### the text of a worth -/
def sgn (x : Int) : List Nat := if x < 0 then [45] else []
def ntx (x : Int) : List Nat := sgn x ++ TL.numL x.natAbs
def wtx (x y : Int) : List Nat := if y = 1 then ntx x else ntx x ++ 47 :: ntx y
theorem int_text (x : Int) : Str.ofString (toString x) = S (ntx x) := by
  by_cases h : x < 0
  · obtain ⟨n, rfl⟩ : ∃ n : Nat, x = Int.negSucc n := ⟨(-x - 1).toNat, by omega⟩
    unfold ntx sgn
    rw [if_pos h]
    have e : toString (Int.negSucc n) = "-" ++ toString (((n + 1 : Nat) : Int)) := rfl
    rw [e]
    refine TL.ext_tl ?_
    have h1 : TL.tl (Str.ofString ("-" ++ toString (((n + 1 : Nat) : Int)))) = [45] ++ TL.tl (Str.ofString (toString (((n + 1 : Nat) : Int)))) := by
      unfold TL.tl
      rw [Str.ofString_eq_toList, Str.ofString_eq_toList]
      simp
    rw [h1, TL.tl_num]
    rfl
  · obtain ⟨n, rfl⟩ := Int.eq_ofNat_of_zero_le (by omega : 0 ≤ x)
    unfold ntx sgn
    rw [if_neg h]
    exact num_S n
/-- l without a minus ahead -/
def un (l : List Nat) : List Nat := if l.head? = some 45 then l.tail else l
theorem un_ntx (x : Int) (r : List Nat) : un (ntx x ++ r) = TL.numL x.natAbs ++ r := by
  unfold ntx sgn un
  split
  · simp
  · have h : (([] ++ TL.numL x.natAbs) ++ r).head? ≠ some 45 := by
      rw [List.nil_append]
      cases e : TL.numL x.natAbs with
      | nil => exact absurd e (TL.numL_ne _)
      | cons a p =>
        intro z
        have : a = 45 := Option.some.inj z
        have := TL.numL_digits x.natAbs a (by rw [e]; simp)
        omega
    rw [if_neg h, List.nil_append]
theorem head_ntx (x : Int) (r : List Nat) : (ntx x ++ r).head? = some 45 ↔ x < 0 := by
  unfold ntx sgn
  split
  · rename_i h
    exact ⟨fun _ => h, fun _ => rfl⟩
  · rename_i h
    refine ⟨fun z => ?_, fun z => absurd z h⟩
    rw [List.nil_append] at z
    cases e : TL.numL x.natAbs with
    | nil => exact absurd e (TL.numL_ne _)
    | cons a p =>
      rw [e] at z
      have : a = 45 := Option.some.inj z
      have := TL.numL_digits x.natAbs a (by rw [e]; simp)
      omega

/-- l is the text of the worth x / y -/
structure IsT (l : List Nat) (x y : Int) : Prop where
  pos : 1 ≤ y
  low : Nat.gcd x.natAbs y.natAbs = 1
  bx : x.natAbs < 10 ^ 200
  bY : y.natAbs < 10 ^ 200
  eq : l = wtx x y
/-- the two numbers of a text without its minus -/
def cutp (l : List Nat) : List Nat × List Nat := match TL.par [47] [] l with
  | some r => r
  | none => (l, [49])
theorem ntx_pos {y : Int} (h : 1 ≤ y) : ntx y = TL.numL y.natAbs := by
  unfold ntx sgn
  rw [if_neg (by omega), List.nil_append]
theorem unE0 {l : List Nat} {x y : Int} (pos : 1 ≤ y) (eq : l = wtx x y) : un l = if y = 1 then TL.numL x.natAbs else TL.numL x.natAbs ++ 47 :: TL.numL y.natAbs := by
  rw [eq]
  unfold wtx
  split
  · have := un_ntx x []
    rw [List.append_nil, List.append_nil] at this
    exact this
  · rw [ntx_pos pos]
    exact un_ntx x _
theorem head0 {l : List Nat} {x y : Int} (eq : l = wtx x y) : l.head? = some 45 ↔ x < 0 := by
  rw [eq]
  unfold wtx
  split
  · have := head_ntx x []
    rw [List.append_nil] at this
    exact this
  · exact head_ntx x _
theorem cut0 {l : List Nat} {x y : Int} (pos : 1 ≤ y) (eq : l = wtx x y) : cutp (un l) = (TL.numL x.natAbs, TL.numL y.natAbs) := by
  have fr : 47 ∉ TL.numL x.natAbs := TL.numL_free (by decide)
  rw [unE0 pos eq]
  unfold cutp
  by_cases h : y = 1
  · rw [if_pos h, par_head_none fr, h]
    rfl
  · rw [if_neg h, show TL.numL x.natAbs ++ 47 :: TL.numL y.natAbs = TL.numL x.natAbs ++ ([47] ++ TL.numL y.natAbs) from rfl, par_head _ fr]
theorem wtx_inj {x y x' y' : Int} (p : 1 ≤ y) (p' : 1 ≤ y') (eq : wtx x y = wtx x' y') : x = x' ∧ y = y' := by
  have e := (cut0 p rfl).symm.trans (cut0 p' eq)
  have e1 := TL.numL_inj (congrArg Prod.fst e)
  have e2 := TL.numL_inj (congrArg Prod.snd e)
  have h := head0 (l := wtx x y) rfl
  have h' := head0 eq
  constructor
  · by_cases hx : x < 0
    · have := h'.mp (h.mpr hx)
      omega
    · have : ¬ x' < 0 := fun z => hx (h.mp (h'.mpr z))
      omega
  · omega
theorem IsT.unE {l : List Nat} {x y : Int} (T : IsT l x y) : un l = if y = 1 then TL.numL x.natAbs else TL.numL x.natAbs ++ 47 :: TL.numL y.natAbs := unE0 T.pos T.eq
theorem IsT.head {l : List Nat} {x y : Int} (T : IsT l x y) : l.head? = some 45 ↔ x < 0 := head0 T.eq
theorem IsT.cut {l : List Nat} {x y : Int} (T : IsT l x y) : cutp (un l) = (TL.numL x.natAbs, TL.numL y.natAbs) := cut0 T.pos T.eq
theorem IsT.uniq {l : List Nat} {x y x' y' : Int} (T : IsT l x y) (T' : IsT l x' y') : x = x' ∧ y = y' := wtx_inj T.pos T'.pos (T.eq.symm.trans T'.eq)
/-- the parts between the strokes -/
abbrev cuts (l : List Nat) : List (List Nat) := TL.spl [47] 0 [] l
theorem cuts_one {l : List Nat} (h : 47 ∉ l) : cuts l = [l] := by
  show TL.spl [47] 0 [] l = [l]
  rw [TL.spl_last1 h, List.nil_append]
theorem cuts_two {p q : List Nat} (h : 47 ∉ p) : cuts (p ++ 47 :: q) = p :: cuts q := by
  show TL.spl [47] 0 [] (p ++ ([47] ++ q)) = _
  rw [TL.spl_part1 h, List.nil_append]
theorem cuts_cases (l : List Nat) : (47 ∉ l ∧ cuts l = [l]) ∨ ∃ p q, l = p ++ 47 :: q ∧ 47 ∉ p ∧ cuts l = p :: cuts q := by
  by_cases h : 47 ∈ l
  · obtain ⟨p, q, e, hp⟩ := List.eq_append_cons_of_mem h
    exact .inr ⟨p, q, e, hp, by rw [e, cuts_two hp]⟩
  · exact .inl ⟨h, cuts_one h⟩
theorem cuts_ne (l : List Nat) : cuts l ≠ [] := by
  rcases cuts_cases l with ⟨_, e⟩ | ⟨_, _, _, _, e⟩ <;> rw [e] <;> simp
theorem IsT.cutsE {l : List Nat} {x y : Int} (T : IsT l x y) : cuts (un l) = if y = 1 then [TL.numL x.natAbs] else [TL.numL x.natAbs, TL.numL y.natAbs] := by
  have fr : ∀ n, 47 ∉ TL.numL n := fun n => TL.numL_free (by decide)
  rw [T.unE]
  split
  · exact cuts_one (fr _)
  · rw [cuts_two (fr _), cuts_one (fr _)]
/-- a part that the law lets through -/
def Ok (l : List Nat) : Prop := Can l ∧ l.length ≤ 200
theorem Ok.num {n : Nat} (h : n < 10 ^ 200) : Ok (TL.numL n) := ⟨can_num n, num_short.mpr h⟩
theorem Ok.lt {l : List Nat} (h : Ok l) : digitsVal l < 10 ^ 200 := Nat.lt_of_lt_of_le (val_lt h.1.dg) (Nat.pow_le_pow_right (by decide) h.2)
theorem IsT.ok {l : List Nat} {x y : Int} (T : IsT l x y) : ∀ p ∈ cuts (un l), Ok p := by
  rw [T.cutsE]
  intro p hp
  split at hp
  · rw [List.mem_singleton.mp hp]
    exact .num T.bx
  · rcases List.mem_cons.mp hp with e | hp
    · rw [e]; exact .num T.bx
    · rw [List.mem_singleton.mp hp]
      exact .num T.bY
theorem un_back (l : List Nat) : l = if l.head? = some 45 then 45 :: un l else un l := by
  unfold un
  split
  · rename_i h
    cases l with
    | nil => cases h
    | cons a l =>
      have : a = 45 := Option.some.inj h
      rw [this]
      rfl
  · rfl
theorem sgn_back {l : List Nat} {n : Nat} {r : List Nat} (e : un l = TL.numL n ++ r) (h : ¬ (l.head? = some 45 ∧ n = 0)) : l = ntx (if l.head? = some 45 then -(n : Int) else n) ++ r := by
  have b := un_back l
  unfold ntx sgn
  by_cases hh : l.head? = some 45
  · rw [if_pos hh] at b ⊢
    have hn : n ≠ 0 := fun z => h ⟨hh, z⟩
    rw [if_pos (by omega), Int.natAbs_neg, Int.natAbs_natCast]
    rw [b, e]
    simp
  · rw [if_neg hh] at b ⊢
    rw [if_neg (by omega), Int.natAbs_natCast, List.nil_append]
    exact b.trans e
/-- what the law reads is a worth's text -/
theorem read_one {l p : List Nat} (h : cuts (un l) = [p]) (hp : Ok p) (hg : Nat.gcd (digitsVal p) 1 = 1) (hz : ¬ (l.head? = some 45 ∧ digitsVal p = 0)) : IsT l (if l.head? = some 45 then -(digitsVal p : Int) else digitsVal p) 1 := by
  have e : un l = p := by
    rcases cuts_cases (un l) with ⟨_, e⟩ | ⟨p', q, e1, h1, e2⟩
    · rw [e] at h
      exact (List.cons.inj h).1
    · rw [e2] at h
      exact absurd (List.cons.inj h).2 (cuts_ne q)
  have e' : un l = TL.numL (digitsVal p) ++ [] := by rw [List.append_nil, hp.1.num, e]
  refine ⟨by decide, ?_, ?_, by decide, ?_⟩
  · split <;> simp
  · have := hp.lt
    split
    · rw [Int.natAbs_neg]; exact this
    · exact this
  · have := sgn_back e' hz
    rw [List.append_nil] at this
    exact this
theorem read_two {l p q : List Nat} (h : cuts (un l) = [p, q]) (hp : Ok p) (hq : Ok q) (h2 : 2 ≤ digitsVal q) (hg : Nat.gcd (digitsVal p) (digitsVal q) = 1) (hz : ¬ (l.head? = some 45 ∧ digitsVal p = 0)) : IsT l (if l.head? = some 45 then -(digitsVal p : Int) else digitsVal p) (digitsVal q) := by
  have e : un l = p ++ 47 :: q := by
    rcases cuts_cases (un l) with ⟨_, e⟩ | ⟨p', q', e1, h1, e2⟩
    · rw [e] at h
      exact absurd (List.cons.inj h).2 (by simp)
    · rw [e2] at h
      obtain ⟨ep, h⟩ := List.cons.inj h
      rw [← ep]
      rcases cuts_cases q' with ⟨_, e⟩ | ⟨p3, q3, _, _, e3⟩
      · rw [e] at h
        rw [e1, (List.cons.inj h).1]
      · rw [e3] at h
        exact absurd (List.cons.inj h).2 (cuts_ne q3)
  have e' : un l = TL.numL (digitsVal p) ++ 47 :: q := by rw [hp.1.num, e]
  refine ⟨by omega, ?_, ?_, ?_, ?_⟩
  · split
    · rw [Int.natAbs_neg]; exact hg
    · exact hg
  · have := hp.lt
    split
    · rw [Int.natAbs_neg]; exact this
    · exact this
  · exact hq.lt
  · have := sgn_back e' hz
    unfold wtx
    have e1 : ((digitsVal q : Nat) : Int) ≠ 1 := by omega
    have e2 : ntx ((digitsVal q : Nat) : Int) = q := by
      rw [ntx_pos (by omega), Int.natAbs_natCast, hq.1.num]
    rw [if_neg e1, e2]
    exact this
/-! ### the words of the language for these lists -/
theorem sub_S (l : List Nat) : Builtin.Str.subAt (S l) (S [45]) 0 = decide (l.head? = some 45) := by
  unfold Builtin.Str.subAt
  cases l with
  | nil => rfl
  | cons a l =>
    rw [Bool.eq_iff_iff]
    simp [S, Str.length]
theorem pref_S (l : List Nat) : Txt.removeprefix (S l) (S [45]) = S (un l) := by
  unfold Txt.removeprefix un
  rw [sub_S]
  by_cases h : l.head? = some 45
  · rw [if_pos (decide_eq_true h), if_pos h]
    cases l with
    | nil => cases h
    | cons a l =>
      refine TL.ext_tl ?_
      unfold Txt.affix
      simp [S, Str.length, Builtin.Str.strSub, TL.tl]
  · rw [if_neg (by rw [decide_eq_false h]; decide), if_neg h]
    rfl
theorem starts_S (l : List Nat) : Txt.startswith (S l) (S [45]) = decide (l.head? = some 45) := by
  unfold Txt.startswith
  rw [sub_S]
  cases l with
  | nil => rfl
  | cons a l => simp [S, Str.length]
instance (l : List Nat) : Decidable (AllDigits l) := by unfold AllDigits; exact inferInstance
theorem digit_tab : ∀ c : Fin 128, Unicode.isDigit c.1 = decide (48 ≤ c.1 ∧ c.1 ≤ 57) := by decide +kernel
theorem figures_S (l : List Nat) : (Txt.isascii (S l) && Txt.isdigit (S l)) = decide (l ≠ [] ∧ AllDigits l) := by
  unfold Txt.isascii Txt.isdigit
  rw [Bool.eq_iff_iff, Bool.and_eq_true, Bool.and_eq_true, ← Array.all_toList, ← Array.all_toList, List.all_eq_true, List.all_eq_true, decide_eq_true_eq, decide_eq_true_eq]
  show (∀ x, x ∈ l → decide (x < 128) = true) ∧ l.toArray.size > 0 ∧ (∀ x, x ∈ l → Unicode.isDigit x = true) ↔ _
  constructor
  · rintro ⟨h1, h2, h3⟩
    refine ⟨fun e => by rw [e] at h2; exact absurd h2 (by decide), fun c hc => ?_⟩
    have lt := of_decide_eq_true (h1 c hc)
    have := digit_tab ⟨c, lt⟩
    rw [h3 c hc] at this
    exact of_decide_eq_true this.symm
  · rintro ⟨h1, h2⟩
    refine ⟨fun c hc => decide_eq_true (by have := h2 c hc; omega), ?_, fun c hc => ?_⟩
    · rw [List.size_toArray]
      exact List.length_pos_iff.mpr h1
    · have := h2 c hc
      have t := digit_tab ⟨c, by omega⟩
      rw [decide_eq_true this] at t
      exact t
/-- nothing is left of a text of figures -/
theorem strip_all (z y : Str) : Txt.stripChars z y = S [] ↔ ∀ c ∈ z.cps.toList, y.cps.contains c = true := by
  have h0 : (∀ c ∈ z.cps.toList, y.cps.contains c = true) ↔ ∀ k, k < z.length → y.cps.contains (z.cps.getD k 0) = true := by
    constructor
    · intro h k hk
      have hk' : k < z.cps.size := hk
      refine h _ ?_
      rw [show z.cps.getD k 0 = z.cps[k] by simp [Array.getD, hk']]
      simp
    · intro h c hc
      rw [Array.mem_toList_iff] at hc
      obtain ⟨k, hk, rfl⟩ := Array.mem_iff_getElem.mp hc
      have := h k hk
      rw [show z.cps.getD k 0 = z.cps[k] by simp [Array.getD, hk]] at this
      exact this
  rw [h0]
  unfold Txt.stripChars
  rw [stripBy_eq]
  obtain ⟨l1, l2, l3⟩ := lo_facts y.cps.contains z
  obtain ⟨h1, h2, h3, h4⟩ := hi_facts y.cps.contains z _ l1
  have hsz : ∀ a b : Nat, a ≤ b → b ≤ z.length → (Builtin.Str.strSub z a b = S [] ↔ a = b) := by
    intro a b ha hb
    have hb' : b ≤ z.cps.size := hb
    constructor
    · intro h
      have e := congrArg (fun s : Str => s.cps.size) h
      have e2 : (z.cps.extract a b).size = 0 := e
      rw [Array.size_extract] at e2
      omega
    · rintro rfl
      show (⟨z.cps.extract a a⟩ : Str) = S []
      have : z.cps.extract a a = #[] := Array.eq_empty_of_size_eq_zero (by rw [Array.size_extract]; omega)
      rw [this]
  rw [hsz _ _ h1 h2]
  constructor
  · intro e k hk
    by_cases hlt : k < stripLo y.cps.contains true z
    · exact l2 k hlt
    · exact h3 k (by omega) hk
  · intro h
    rcases l3 with e | e
    · omega
    · by_cases hlt : stripLo y.cps.contains true z < z.length
      · rw [h _ hlt] at e
        cases e
      · omega
theorem strip_S (l : List Nat) : Txt.stripChars (S l) (S [48, 49, 50, 51, 52, 53, 54, 55, 56, 57]) = S [] ↔ AllDigits l := by
  rw [strip_all]
  have : ∀ c : Nat, ((S [48, 49, 50, 51, 52, 53, 54, 55, 56, 57]).cps.contains c = true) ↔ (48 ≤ c ∧ c ≤ 57) := by
    intro c
    rw [Array.contains_iff]
    simp
    omega
  exact ⟨fun h c hc => (this c).mp (h c hc), fun h c hc => (this c).mpr (h c hc)⟩
theorem zfill_S {m : Nat} (h : m < 10 ^ 200) : Txt.zfill (S (TL.numL m)) 200 = S (dk 200 m) := by
  rw [dk_pad 199 m h]
  have hl := num_short.mpr h
  unfold Txt.zfill
  rw [S_len]
  by_cases h2 : (200 : Int) ≤ (TL.numL m).length
  · rw [if_pos h2]
    have : 199 + 1 - (TL.numL m).length = 0 := by omega
    rw [this]
    rfl
  · rw [if_neg h2]
    have e : (200 : Int).toNat - (TL.numL m).length = 199 + 1 - (TL.numL m).length := rfl
    rw [e]
    generalize 199 + 1 - (TL.numL m).length = n
    unfold zfilled
    have hd := TL.numL_digits m
    have hne := TL.numL_ne m
    revert hd hne
    generalize TL.numL m = l
    intro hd hne
    cases l with
    | nil => exact absurd rfl hne
    | cons a l =>
      have ha := hd.head
      split
      · rename_i e1
        have : a = 43 := by simpa [S] using e1
        omega
      · rename_i e1
        have : a = 45 := by simpa [S] using e1
        omega
      · refine TL.ext_tl ?_
        simp [Builtin.Str.padded, S, TL.tl]
end My

set_option Elab.async false
set_option linter.all false
set_option maxRecDepth 100000
set_option maxHeartbeats 2000000
/-! itertools.combinations(list, r), at the library's level -/
namespace Cmb
open PySem PySem.Spec
open Sem (wp)
theorem mro_c : mroOf (.type "itertools.combinations") = pure [.type "itertools.combinations", .type "object"] := by rw [mroOf_type]; kernel_rfl
theorem lookup_new : typeLookup (.type "itertools.combinations") "__new__" = pure (some (.builtin "itertools.combinations.__new__")) := by rw [typeLookup_type, builtinLookup_eq_fast]; kernel_rfl
theorem slot_init : Slot "itertools.combinations" "__init__" "object.__init__" :=
  .of (owner := "object") (n := "__init__") (by rw [typeLookup_type, builtinLookup_eq_fast]; kernel_rfl) (by decide +kernel) (by decide +kernel) (by decide +kernel)
    (by first | exact .inl (by decide +kernel) | exact .inr (by decide +kernel)) (by rw [isSubtype_type]; kernel_rfl)
theorem sub_c : isSubtype (.type "itertools.combinations") (.type "itertools.combinations") = pure true := by rw [isSubtype_type]; kernel_rfl
theorem called_c : TypeCalled "itertools.combinations" "itertools.combinations.__new__" "object.__init__" :=
  ⟨by decide +kernel, by decide +kernel, ⟨_, _, mro_c⟩, madeBy_type mro_c lookup_new (by decide +kernel), by decide +kernel, sub_c, slot_init⟩
theorem typeCall_2 (a b : Value) : checkTypeCall "itertools.combinations" ⟨[a, b], []⟩ = pure () := by kernel_rfl
theorem newCall_2 (a b : Value) : checkBuiltinCall "itertools.combinations.__new__" ⟨[.type "itertools.combinations", a, b], []⟩ = pure () := by kernel_rfl
theorem entry_new : entryFor table "itertools.combinations.__new__" = some Builtin.«itertools.combinations.__new__» := entryFor_of_tree (by kernel_rfl)
theorem slot_iter : Slot "itertools.combinations" "__iter__" "itertools.combinations.__iter__" :=
  .of (owner := "itertools.combinations") (n := "__iter__") (by rw [typeLookup_type, builtinLookup_eq_fast]; kernel_rfl) (by decide +kernel) (by decide +kernel) (by decide +kernel)
    (by first | exact .inl (by decide +kernel) | exact .inr (by decide +kernel)) sub_c
theorem slot_next : Slot "itertools.combinations" "__next__" "itertools.combinations.__next__" :=
  .of (owner := "itertools.combinations") (n := "__next__") (by rw [typeLookup_type, builtinLookup_eq_fast]; kernel_rfl) (by decide +kernel) (by decide +kernel) (by decide +kernel)
    (by first | exact .inl (by decide +kernel) | exact .inr (by decide +kernel)) sub_c
theorem entry_iter : entryFor table "itertools.combinations.__iter__" = some Builtin.«dict_keyiterator.__iter__» :=
  entryFor_alias (id' := "dict_keyiterator.__iter__") (by kernel_rfl) (by first | rfl | decide +kernel | (unfold String.splitOn; simp +decide [String.splitOnAux])) (by decide +kernel) (by kernel_rfl)
theorem entry_next : entryFor table "itertools.combinations.__next__" = some Builtin.«itertools.combinations.__next__» := entryFor_of_tree (by kernel_rfl)
theorem owner_c : Manifest.owners.lookup (String.ofList ['s', 'n', 'o', 'i', 't', 'a', 'n', 'i', 'b', 'm', 'o', 'c', '.', 's', 'l', 'o', 'o', 't', 'r', 'e', 't', 'i'].reverse) = some Manifest.sig_itertools_combinations := by kernel_rfl
theorem args_iter (a : Value) : argsOk "itertools.combinations.__iter__" ⟨[a], []⟩ := by
  unfold argsOk; rw [signature?_of (id := "itertools.combinations.__iter__") (n := ['_', '_', 'r', 'e', 't', 'i', '_', '_']) (o := ['s', 'n', 'o', 'i', 't', 'a', 'n', 'i', 'b', 'm', 'o', 'c', '.', 's', 'l', 'o', 'o', 't', 'r', 'e', 't', 'i']) (by kernel_rfl) owner_c]; kernel_rfl
theorem args_next (a : Value) : argsOk "itertools.combinations.__next__" ⟨[a], []⟩ := by
  unfold argsOk; rw [signature?_of (id := "itertools.combinations.__next__") (n := ['_', '_', 't', 'x', 'e', 'n', '_', '_']) (o := ['s', 'n', 'o', 'i', 't', 'a', 'n', 'i', 'b', 'm', 'o', 'c', '.', 's', 'l', 'o', 'o', 't', 'r', 'e', 't', 'i']) (by kernel_rfl) owner_c]; kernel_rfl
theorem noDict : typeHasDict (.type "itertools.combinations") = false := by decide +kernel
theorem nolen : typeLookup (.type "itertools.combinations") "__len__" = pure none := by rw [typeLookup_type, builtinLookup_eq_fast]; kernel_rfl
theorem nohint : typeLookup (.type "itertools.combinations") "__length_hint__" = pure none := by rw [typeLookup_type, builtinLookup_eq_fast]; kernel_rfl
/-- the next of the ascending numbers below n, as long as the given -/
def nxt (n : Nat) (indices : List Nat) : Option (List Nat) :=
  let r := indices.length
  match (List.range r).reverse.find? fun i => indices.getD i 0 != i + n - r with
  | none => none
  | some i => some (indices.take i ++ (List.range (r - i)).map (indices.getD i 0 + 1 + ·))
/-- the fields of such an object -/
def flds (pool : Addr) (st : Int) (last : Value) (ix : List Nat) : Array Value := ([Value.ref pool, rawInt st, last] ++ ix.map fun (i : Nat) => rawInt i).toArray
theorem bind_c (a b : Value) : Builtin.Itertools.itBindNamed "combinations" ["iterable", "r"] 2 2 [a, b] [] = pure [some a, some b] := by kernel_rfl
theorem rest_c (a b : Value) : Builtin.Itertools.itClassAndRest "combinations" ⟨[.type "itertools.combinations", a, b], []⟩ = pure (.type "itertools.combinations", [a, b]) := by
  unfold Builtin.Itertools.itClassAndRest
  have e : "itertools." ++ "combinations" = "itertools.combinations" := by decide +kernel
  show (isType _ >>= _) = _
  simp only [isType, pure_bind, e, sub_c]
  rfl
section
variable {prog : Program} {w : World} {A : Around} {E : Value → Shared → Prop} {s : Shared}
theorem wpAny_eqb {α β : Type} {m : Sem α} {a : α} {k : α → Sem β} {Q : β → Shared → Prop} (e : m = pure a) (h : wpAny (model prog w) A (k a) Q E s) : wpAny (model prog w) A (m >>= k) Q E s := by
  subst e
  exact wpAny_bind (wpAny_pure h)
end
theorem meets_new (l : Addr) (vs : List Value) (r : Nat) (t : Tok) (hr : r ≤ 1000) (hn : vs.length ≤ 1000) :
    Meets (Builtin.«itertools.combinations.__new__» ⟨[.type "itertools.combinations", .ref l, .int r t], []⟩)
      (fun _ R s => s.heap.IsList l vs.toArray ∧ ∀ (h' : Heap) (pool : Addr), (∀ b o, s.heap.get? b = some o → h'.get? b = some o) → s.heap.get? pool = none → PyProof.Rows.IsTup h' pool vs.toArray →
        R (.ok (.ret (.ref h'.objs.size))) { s with heap := h'.push (recObj "itertools.combinations" (flds pool (if r > vs.length then 2 else 0) .none (List.range r))) }) :=
  .of_wp fun prog w A R s ⟨hl, h⟩ => by
    have hsub := sub_c
    have hd := noDict
    unfold Builtin.«itertools.combinations.__new__»
    refine wpAny_bind ?_
    wp_delta
    refine wpAny_eqb (rest_c _ _) ?_
    refine wpAny_eqb (bind_c _ _) ?_
    have big : ((decide ((r : Int) < -(2 ^ 63 : Int)) || decide ((r : Int) ≥ (2 ^ 63 : Int))) = true) = False := by simp; omega
    refine wpAny_bind ?_
    refine wpAny_eqb (a := (r : Int)) rfl ?_
    show wpAny _ _ (if (decide ((r : Int) < -(2 ^ 63 : Int)) || decide ((r : Int) ≥ (2 ^ 63 : Int))) = true then _ else _) _ _ _
    rw [if_neg (by rw [big]; exact id)]
    refine wpAny_bind (wpAny_pure (wpAny_pure ?_))
    obtain ⟨o, ho, hc, n, hdat⟩ := hl
    refine wpAny_bind (wpAny_collect_seq (hsz := by show vs.length ≤ sizeLine; exact Nat.le_trans hn (by decide)) l (.inl rfl) ho hc hdat fun h' keep => ?_)
    show wpAny _ _ (if (r : Int) < 0 then _ else _) _ _ _
    rw [if_neg (by omega)]
    show wpAny _ _ (if Builtin.Itertools.itTooMany (r : Int) = true then _ else _) _ _ _
    rw [if_neg (by unfold Builtin.Itertools.itTooMany; simp; omega)]
    have hv : vs.toArray.toList.length ≤ sizeLine := by show vs.length ≤ sizeLine; exact Nat.le_trans hn (by decide)
    refine wpAny_bind (wpAny_newTuple (hsz := hv) (wpAny_pure ?_))
    show wpAny _ _ (Builtin.Itertools.itNewRecord (.type "itertools.combinations") _ >>= _) _ _ _
    unfold Builtin.Itertools.itNewRecord
    rw [noDict]
    have hsz : ([Value.ref h'.objs.size, rawInt (if r > vs.length then 2 else 0), Value.none] ++ List.map (fun (i : Nat) => rawInt ↑i) (List.range r)).toArray.size ≤ sizeLine := by
      rw [List.size_toArray, List.length_append, List.length_map, List.length_range]
      exact Nat.le_trans (Nat.add_le_add_left hr 3) (by decide)
    refine wpAny_bind ?_
    show wpAny _ _ (newObj (.type "itertools.combinations") (.fields _) none) _ _ _
    refine wpAny_newObj_type ?_ (by simp only [sizeOk]; first | exact hsz | exact Nat.le_trans hsz (by decide))
    refine wpAny_pure ⟨_, rfl, ?_⟩
    refine h (h'.push { cls := .type "tuple", data := .seq vs.toArray }) h'.objs.size (fun b u hu => Heap.get?_push_of_some _ (keep b u hu)) ?_ (PyProof.Rows.IsTup.new _ _)
    cases hq : s.heap.get? h'.objs.size with
    | none => rfl
    | some u => exact absurd (Heap.lt_size (keep _ _ hq)) (Nat.lt_irrefl _)
/-- such an object, its pool beside it -/
def IsC (h : Heap) (it pool : Addr) (vs : List Value) (st : Int) (last : Value) (ix : List Nat) : Prop :=
  h.get? it = some (recObj "itertools.combinations" (flds pool st last ix)) ∧ PyProof.Rows.IsTup h pool vs.toArray ∧ pool ≠ it
theorem flds_size (pool : Addr) (st : Int) (last : Value) (ix : List Nat) : (flds pool st last ix).size = ix.length + 3 := by
  unfold flds
  rw [List.size_toArray, List.length_append, List.length_map]
  exact Nat.add_comm _ _
theorem flds_drop (pool : Addr) (st : Int) (last : Value) (ix : List Nat) : (((flds pool st last ix).toList.drop 3).map fun v => match v with | .int n _ => n.toNat | _ => 0) = ix := by
  show List.map _ (List.drop 3 (_ :: _ :: _ :: ix.map fun (i : Nat) => rawInt i)) = ix
  simp only [List.drop_succ_cons, List.drop_zero, List.map_map]
  refine (List.map_congr_left fun x _ => ?_).trans (List.map_id _)
  rfl
theorem flds_set1 (pool : Addr) (st st' : Int) (last : Value) (ix : List Nat) : (flds pool st last ix).setIfInBounds 1 (rawInt st') = flds pool st' last ix := by
  simp [flds]
theorem flds_set2 (pool : Addr) (st : Int) (last last' : Value) (ix : List Nat) : (flds pool st last ix).setIfInBounds 2 last' = flds pool st last' ix := by
  simp [flds]
theorem flds_setN (pool : Addr) (st : Int) (last : Value) (ix ix' : List Nat) : ((flds pool st last ix).extract 0 3 ++ (ix'.map fun (n : Nat) => rawInt n).toArray) = flds pool st last ix' := by
  simp [flds]
def picks (vs : List Value) (ix : List Nat) : List Value := ix.map fun i => vs.toArray.getD i .none
theorem flds_0 (pool : Addr) (st : Int) (last : Value) (ix : List Nat) : (flds pool st last ix)[0]? = some (.ref pool) := by simp [flds]
theorem flds_1 (pool : Addr) (st : Int) (last : Value) (ix : List Nat) : (flds pool st last ix)[1]? = some (rawInt st) := by simp [flds]
theorem flds_2 (pool : Addr) (st : Int) (last : Value) (ix : List Nat) : (flds pool st last ix)[2]? = some last := by simp [flds]
section
variable {prog : Program} {w : World} {A : Around} {E : Value → Shared → Prop} {s : Shared}
theorem call_c {l : Addr} {vs : List Value} {r : Nat} {t : Tok} {Q : Value → Shared → Prop} (hr : r ≤ 1000) (hn : vs.length ≤ 1000) (hl : s.heap.IsList l vs.toArray)
    (h : ∀ (h' : Heap) (it pool : Addr), IsC h' it pool vs (if r > vs.length then 2 else 0) .none (List.range r) → s.heap.get? it = none → s.heap.get? pool = none →
      (∀ b o, s.heap.get? b = some o → h'.get? b = some o) → Q (.ref it) { s with heap := h' }) :
    wpAny (model prog w) A (call (.type "itertools.combinations") [.ref l, .int r t]) Q E s := by
  refine callType_new called_c (by decide +kernel) (typeCall_2 _ _) (newCall_2 _ _) (fun obj => F.args_object_init_3 obj _ _) entry_new (meets_new l vs r t hr hn) ⟨hl, ?_⟩
  intro h' pool keep hp1 hp
  have hpl := hp.lt
  refine ⟨⟨_, Heap.get?_push_size _ rfl, rfl⟩, h _ _ pool ⟨Heap.get?_push_size _ rfl, hp.push _, Nat.ne_of_lt hpl⟩ ?_ hp1 fun b o q => Heap.get?_push_of_some _ (keep b o q)⟩
  cases hq : s.heap.get? h'.objs.size with
  | none => rfl
  | some u => exact absurd (Heap.lt_size (keep _ _ hq)) (Nat.lt_irrefl _)
theorem iter_c {it pool : Addr} {vs : List Value} {st : Int} {last : Value} {ix : List Nat} {Q : Value → Shared → Prop} (hit : IsC s.heap it pool vs st last ix) (h : Q (.ref it) s) : wpAny (model prog w) A (pyIter (.ref it)) Q E s := by
  have hT : s.TypeIs (.ref it) "itertools.combinations" := ⟨_, hit.1, rfl⟩
  refine wpAny_pyIter_slot hT slot_iter (wpAny_call_entry slot_iter hT entry_iter ?_ (args_iter _))
  show wpAny _ _ (ret (.ref it)) _ _ s
  exact wpAny_pure ⟨_, rfl, "itertools.combinations", _, hT, slot_next.lookup, h⟩
/-- what it hands out next -/
def step (n : Nat) (st : Int) (ix : List Nat) : Option (List Nat) := if st = 0 then some ix else if st = 1 then nxt n ix else none
theorem numbers_c {it pool : Addr} {vs : List Value} {st : Int} {last : Value} {ix : List Nat} {Q : List Nat → Shared → Prop} (hit : IsC s.heap it pool vs st last ix) (h : Q ix s) :
    wpAny (model prog w) A (Builtin.Itertools.itNumbersFrom (.ref it) 3) Q E s := by
  unfold Builtin.Itertools.itNumbersFrom
  show wpAny _ _ (load it >>= _) _ _ _
  refine wpAny_bind (wpAny_load hit.1 ?_)
  have e := flds_drop pool st last ix
  refine wpAny_of_eq (a := ((flds pool st last ix).toList.drop 3).map fun v => match v with | .int n _ => n.toNat | _ => 0) rfl ?_
  rw [e]
  exact h
theorem state_c {it pool : Addr} {vs : List Value} {st : Int} {last : Value} {ix : List Nat} {Q : Int → Shared → Prop} (hit : IsC s.heap it pool vs st last ix) (h : Q st s) :
    wpAny (model prog w) A (Builtin.Itertools.itIntField (.ref it) 1) Q E s := by
  unfold Builtin.Itertools.itIntField
  refine wpAny_bind (wpAny_field hit.1 rfl (x := rawInt st) (flds_1 ..) ?_)
  exact wpAny_pure h
theorem IsC.set1 {h : Heap} {it pool : Addr} {vs : List Value} {st st' : Int} {last : Value} {ix : List Nat} (H : IsC h it pool vs st last ix) :
    IsC (h.update it (Obj.mapFields (·.setIfInBounds 1 (rawInt st')))) it pool vs st' last ix := by
  refine ⟨(Heap.get?_update_self _ H.1 rfl).trans ?_, (let ⟨o, ho, hr⟩ := H.2.1; ⟨o, (Heap.get?_update_other _ _ (Ne.symm H.2.2)).trans ho, hr⟩), H.2.2⟩
  exact congrArg (fun z => some (recObj "itertools.combinations" z)) (flds_set1 pool st st' last ix)
theorem IsC.set2 {h : Heap} {it pool : Addr} {vs : List Value} {st : Int} {last last' : Value} {ix : List Nat} (H : IsC h it pool vs st last ix) :
    IsC (h.update it (Obj.mapFields (·.setIfInBounds 2 last'))) it pool vs st last' ix := by
  refine ⟨(Heap.get?_update_self _ H.1 rfl).trans ?_, (let ⟨o, ho, hr⟩ := H.2.1; ⟨o, (Heap.get?_update_other _ _ (Ne.symm H.2.2)).trans ho, hr⟩), H.2.2⟩
  exact congrArg (fun z => some (recObj "itertools.combinations" z)) (flds_set2 pool st last last' ix)
theorem IsC.setN {h : Heap} {it pool : Addr} {vs : List Value} {st : Int} {last : Value} {ix ix' : List Nat} (H : IsC h it pool vs st last ix) :
    IsC (h.update it (Obj.mapFields fun fs => fs.extract 0 3 ++ (ix'.map fun (n : Nat) => rawInt n).toArray)) it pool vs st last ix' := by
  refine ⟨(Heap.get?_update_self _ H.1 rfl).trans ?_, (let ⟨o, ho, hr⟩ := H.2.1; ⟨o, (Heap.get?_update_other _ _ (Ne.symm H.2.2)).trans ho, hr⟩), H.2.2⟩
  exact congrArg (fun z => some (recObj "itertools.combinations" z)) (flds_setN pool st last ix ix')
theorem IsC.push {h : Heap} {it pool : Addr} {vs : List Value} {st : Int} {last : Value} {ix : List Nat} (H : IsC h it pool vs st last ix) (o : Obj) : IsC (h.push o) it pool vs st last ix :=
  ⟨Heap.get?_push_of_some _ H.1, H.2.1.push _, H.2.2⟩
theorem fresh_none (h : Heap) : h.get? h.objs.size = none := by
  cases hq : h.get? h.objs.size with
  | none => rfl
  | some u => exact absurd (Heap.lt_size hq) (Nat.lt_irrefl _)
theorem out_c {it pool : Addr} {vs : List Value} {st : Int} {last : Value} {ix ix0 : List Nat} {Q : Option Value → Shared → Prop} (hx : ix.length ≤ 1000) (hit : IsC s.heap it pool vs st last ix0)
    (hQ : ∀ (h' : Heap) (u : Addr), IsC h' it pool vs st (.ref u) ix0 → s.heap.get? u = none → h'.get? u = some { cls := .type "tuple", data := .seq (picks vs ix).toArray } →
      (∀ b o, b ≠ it → s.heap.get? b = some o → h'.get? b = some o) → Q (some (.ref u)) { s with heap := h' }) :
    wpAny (model prog w) A (do let items ← Builtin.Itertools.itPoolItems (.ref pool); newTuple (List.map (fun i => items.getD i Value.none) ix))
      (fun a s' => wpAny (model prog w) A (do
          let before ← field (Value.ref it) 2
          setField (Value.ref it) 2 a
          letGo [before] [a]
          ret a) (fun fin s' => ∃ v, fin = Fin.done (Flow.ret v) ∧ Q (some v) s') E s') E s := by
  refine wpAny_bind ?_
  unfold Builtin.Itertools.itPoolItems
  obtain ⟨op, hop, _, np, hdp⟩ := id hit.2.1
  refine wpAny_bind (wpAny_seqItems hop hdp (wpAny_pure ?_))
  refine wpAny_newTuple ?_ (by rw [List.length_map]; exact Nat.le_trans hx (by decide))
  have hit2 := hit.push { cls := .type "tuple", data := .seq (picks vs ix).toArray }
  refine wpAny_bind (wpAny_field hit2.1 rfl (x := last) (flds_2 ..) ?_)
  refine wpAny_bind (wpAny_setField hit2.1 rfl (by rw [flds_size]; omega) ?_)
  refine wpAny_bind (wpAny_letGo (wpAny_pure ⟨_, rfl, ?_⟩))
  refine hQ _ _ hit2.set2 (fresh_none _) ?_ ?_
  · exact (Heap.get?_update_other _ _ (fun e => absurd (Heap.lt_size hit.1) (by rw [← e]; exact Nat.lt_irrefl _))).trans (Heap.get?_push_size _ rfl)
  · intro b o hb e
    exact (Heap.get?_update_other _ _ (Ne.symm hb)).trans (Heap.get?_push_of_some _ e)
theorem item_c {it pool : Addr} {vs : List Value} {last : Value} {ix : List Nat} {Q : Option Value → Shared → Prop} (hx : ix.length ≤ 1000) (hit : IsC s.heap it pool vs 0 last ix)
    (hQ : ∀ (h' : Heap) (u : Addr), IsC h' it pool vs 1 (.ref u) ix → s.heap.get? u = none → h'.get? u = some { cls := .type "tuple", data := .seq (picks vs ix).toArray } →
      (∀ b o, b ≠ it → s.heap.get? b = some o → h'.get? b = some o) → Q (some (.ref u)) { s with heap := h' }) :
    wpAny (model prog w) A (callSpecial? (.ref it) "__next__") Q E s := by
  have hT : s.TypeIs (.ref it) "itertools.combinations" := ⟨_, hit.1, rfl⟩
  refine wpAny_callSpecial?_slot (name := Str.ofString "__next__") hT slot_next (wpAny_call_entry slot_next hT entry_next ?_ (args_next _))
  unfold Builtin.«itertools.combinations.__next__»
  wp_delta
  refine wpAny_eqb (a := (Value.ref it, [])) rfl ?_
  refine wpAny_bind (wpAny_field hit.1 rfl (x := .ref pool) (flds_0 ..) ?_)
  refine wpAny_bind (numbers_c hit ?_)
  refine wpAny_bind (state_c hit ?_)
  show wpAny _ _ (setField (.ref it) 1 (rawInt 1) >>= _) _ _ _
  refine wpAny_bind (wpAny_setField hit.1 rfl (by rw [flds_size]; omega) ?_)
  have hit2 := hit.set1 (st' := 1)
  refine wpAny_bind ?_
  wp_delta
  refine out_c hx hit2 ?_
  intro h' u h1 h2 h3 h4
  refine hQ h' u h1 ?_ h3 fun b o hb e => h4 b o hb ((Heap.get?_update_other _ _ (Ne.symm hb)).trans e)
  cases hq : s.heap.get? u with
  | none => rfl
  | some o =>
    by_cases hu : u = it
    · subst hu; rw [hit2.1] at h2; exact nomatch h2
    · exact (hq.symm.trans ((Heap.get?_update_other _ _ (Ne.symm hu)).symm.trans h2))
theorem step_c {it pool : Addr} {vs : List Value} {last : Value} {ix ix' : List Nat} {Q : Option Value → Shared → Prop} (hx : ix'.length ≤ 1000) (hn : nxt vs.length ix = some ix') (hit : IsC s.heap it pool vs 1 last ix)
    (hQ : ∀ (h' : Heap) (u : Addr), IsC h' it pool vs 1 (.ref u) ix' → s.heap.get? u = none → h'.get? u = some { cls := .type "tuple", data := .seq (picks vs ix').toArray } →
      (∀ b o, b ≠ it → s.heap.get? b = some o → h'.get? b = some o) → Q (some (.ref u)) { s with heap := h' }) :
    wpAny (model prog w) A (callSpecial? (.ref it) "__next__") Q E s := by
  have hT : s.TypeIs (.ref it) "itertools.combinations" := ⟨_, hit.1, rfl⟩
  refine wpAny_callSpecial?_slot (name := Str.ofString "__next__") hT slot_next (wpAny_call_entry slot_next hT entry_next ?_ (args_next _))
  unfold Builtin.«itertools.combinations.__next__»
  wp_delta
  refine wpAny_eqb (a := (Value.ref it, [])) rfl ?_
  refine wpAny_bind (wpAny_field hit.1 rfl (x := .ref pool) (flds_0 ..) ?_)
  refine wpAny_bind (numbers_c hit ?_)
  refine wpAny_bind (state_c hit ?_)
  show wpAny _ _ (Builtin.Itertools.itPoolItems (.ref pool) >>= _) _ _ _
  refine wpAny_bind ?_
  unfold Builtin.Itertools.itPoolItems
  obtain ⟨op, hop, _, np, hdp⟩ := id hit.2.1
  refine wpAny_bind (wpAny_seqItems hop hdp (wpAny_pure ?_))
  show wpAny _ _ (match nxt vs.length ix with | some next => _ | none => _) _ _ _
  rw [hn]
  refine wpAny_bind ?_
  unfold Builtin.Itertools.itSetNumbersFrom
  refine wpAny_updateFields hit.1 rfl ?_ ?_
  · have hit2 := hit.setN (ix' := ix')
    refine wpAny_bind ?_
    wp_delta
    refine out_c hx hit2 ?_
    intro h' u h1 h2 h3 h4
    refine hQ h' u h1 ?_ h3 fun b o hb e => h4 b o hb ((Heap.get?_update_other _ _ (Ne.symm hb)).trans e)
    cases hq : s.heap.get? u with
    | none => rfl
    | some o =>
      by_cases hu : u = it
      · subst hu; rw [hit2.1] at h2; exact nomatch h2
      · exact (hq.symm.trans ((Heap.get?_update_other _ _ (Ne.symm hu)).symm.trans h2))
  · rw [flds_setN, flds_size]
    exact Nat.le_trans (Nat.add_le_add_right hx 3) (by decide)
theorem stop_c {Q : PySem.Fin → Shared → Prop} (hh : A.handled = none)
    (hQ : ∀ e h', CpRep.StopE e h' → (∀ b o, s.heap.get? b = some o → h'.get? b = some o) → E e { s with heap := h' }) : wpAny (model prog w) A Builtin.Itertools.itStop Q E s := by
  unfold Builtin.Itertools.itStop
  refine wpAny_bind ?_
  simp only [newExc, newTuple]
  refine wpAny_bind (wpAny_newObj_type ?_ (by size_fits))
  refine wpAny_bind (m := firstArgMember _ _) (wpAny_of_eq (a := Value.none) (by first | rfl | (simp only [firstArgMember]; rfl)) ?_)
  refine wpAny_newObj_type ?_ (by size_fits)
  simp only [raiseNew]
  refine wpAny_bind (wpAny_handled ?_)
  first | rw [show A.in1.handled = none from hh] | rw [hh]
  refine wpAny_bind (wpAny_pure (wpAny_throw ?_))
  exact hQ _ _ ⟨_, _, _, rfl, Heap.get?_push_size _ rfl, rfl, rfl, rfl⟩ fun b o e => Heap.get?_push_of_some _ (Heap.get?_push_of_some _ e)
theorem end_c {it pool : Addr} {vs : List Value} {st : Int} {last : Value} {ix : List Nat} {Q : Option Value → Shared → Prop} (hh : A.handled = none) (hst : st = 2 ∨ st = 1 ∧ nxt vs.length ix = none) (hit : IsC s.heap it pool vs st last ix)
    (hQ : ∀ e h', CpRep.StopE e h' → (∀ b o, b ≠ it → s.heap.get? b = some o → h'.get? b = some o) → E e { s with heap := h' }) : wpAny (model prog w) A (callSpecial? (.ref it) "__next__") Q E s := by
  have hT : s.TypeIs (.ref it) "itertools.combinations" := ⟨_, hit.1, rfl⟩
  refine wpAny_callSpecial?_slot (name := Str.ofString "__next__") hT slot_next (wpAny_call_entry slot_next hT entry_next ?_ (args_next _))
  unfold Builtin.«itertools.combinations.__next__»
  wp_delta
  refine wpAny_eqb (a := (Value.ref it, [])) rfl ?_
  refine wpAny_bind (wpAny_field hit.1 rfl (x := .ref pool) (flds_0 ..) ?_)
  refine wpAny_bind (numbers_c hit ?_)
  refine wpAny_bind (state_c hit ?_)
  rcases hst with rfl | ⟨rfl, hn⟩
  · show wpAny _ _ (rule _ >>= _) _ _ _
    refine wpAny_bind (wpAny_rule ?_)
    exact stop_c hh fun e h' he hx => hQ e h' he fun b o _ => hx b o
  · show wpAny _ _ (Builtin.Itertools.itPoolItems (.ref pool) >>= _) _ _ _
    refine wpAny_bind ?_
    unfold Builtin.Itertools.itPoolItems
    obtain ⟨op, hop, _, np, hdp⟩ := id hit.2.1
    refine wpAny_bind (wpAny_seqItems hop hdp (wpAny_pure ?_))
    show wpAny _ _ (match nxt vs.length ix with | some next => _ | none => _) _ _ _
    rw [hn]
    refine wpAny_bind (wpAny_setField hit.1 rfl (by rw [flds_size]; omega) ?_)
    exact stop_c hh fun e h' he hx => hQ e h' he fun b o hb q => hx b o ((Heap.get?_update_other _ _ (Ne.symm hb)).trans q)
end
end Cmb

set_option Elab.async false
set_option linter.all false
set_option maxRecDepth 100000
set_option maxHeartbeats 2000000
/-! list(combinations), at the library's level -/
namespace Cmb
open PySem PySem.Spec
open Sem (wp)
/-- what such an object hands out from now on -/
def runs (n : Nat) : Int → List Nat → List (List Nat) → Bool
  | st, ix, [] => decide (st = 2) || (decide (st = 1) && (nxt n ix).isNone)
  | st, ix, y :: l => ((decide (st = 0) && decide (ix = y)) || (decide (st = 1) && decide (nxt n ix = some y))) && decide (y.length ≤ 1000) && runs n 1 y l
theorem paired_mem {α β : Type} {F : α → β → Prop} {a : α} : ∀ {l₁ : List α} {l₂ : List β}, Paired F l₁ l₂ → a ∈ l₁ → ∃ b, F a b
  | _, _, .nil, h => nomatch h
  | _, _, .cons h t, m => (List.mem_cons.mp m).elim (fun e => e ▸ ⟨_, h⟩) fun m => paired_mem t m
section
variable {prog : Program} {w : World} {A : Around} {E : Value → Shared → Prop} {s : Shared}
theorem next_c {it pool : Addr} {vs : List Value} {st : Int} {last : Value} {ix y : List Nat} {l : List (List Nat)} {Q : Option Value → Shared → Prop} (hr : runs vs.length st ix (y :: l) = true) (hit : IsC s.heap it pool vs st last ix)
    (hQ : ∀ (h' : Heap) (u : Addr), IsC h' it pool vs 1 (.ref u) y → s.heap.get? u = none → h'.get? u = some { cls := .type "tuple", data := .seq (picks vs y).toArray } →
      (∀ b o, b ≠ it → s.heap.get? b = some o → h'.get? b = some o) → runs vs.length 1 y l = true → Q (some (.ref u)) { s with heap := h' }) :
    wpAny (model prog w) A (pyNext (.ref it)) Q E s := by
  simp only [runs, Bool.and_eq_true, Bool.or_eq_true, decide_eq_true_eq] at hr
  obtain ⟨⟨h1, hy⟩, h2⟩ := hr
  unfold pyNext
  refine wpAny_bind (wpAny_attempt ?_)
  rcases h1 with ⟨rfl, rfl⟩ | ⟨rfl, hn⟩
  · exact item_c hy hit fun h' u a b c d => wpAny_pure (hQ h' u a b c d h2)
  · exact step_c hy hn hit fun h' u a b c d => wpAny_pure (hQ h' u a b c d h2)
theorem last_c {it pool : Addr} {vs : List Value} {st : Int} {last : Value} {ix : List Nat} {Q : Option Value → Shared → Prop} (hh : A.handled = none) (hr : runs vs.length st ix [] = true) (hit : IsC s.heap it pool vs st last ix)
    (hQ : ∀ h', (∀ b o, b ≠ it → s.heap.get? b = some o → h'.get? b = some o) → Q none { s with heap := h' }) :
    wpAny (model prog w) A (pyNext (.ref it)) Q E s := by
  simp only [runs, Bool.and_eq_true, Bool.or_eq_true, decide_eq_true_eq, Option.isNone_iff_eq_none] at hr
  unfold pyNext
  refine wpAny_bind (wpAny_attempt ?_)
  refine end_c hh hr hit fun e h' he hk => ?_
  obtain ⟨a, o, _, rfl, ho, hc, _⟩ := he
  refine wpAny_bind (wpAny_isInstance (T := "StopIteration") (b := true) ⟨o, ho, hc⟩ isSubtype_stop ?_)
  exact wpAny_pure (hQ h' hk)
/-- the tuples laid one after the other -/
def Laid (h : Heap) (h' : Heap) (vs : List Value) (us : List Addr) (out : List (List Nat)) : Prop := us.Nodup ∧ Paired (fun u ix => h.get? u = none ∧ h'.get? u = some { cls := .type "tuple", data := .seq (picks vs ix).toArray }) us out
theorem loop_c {it pool q : Addr} {vs : List Value} (hh : A.handled = none) (hqi : q ≠ it) (hqp : q ≠ pool) {Rs : Result → Shared → Prop} :
    ∀ (out : List (List Nat)) (st : Int) (last : Value) (ix : List Nat) (acc : List Value) (n : Nat) (s : Shared), runs vs.length st ix out = true → IsC s.heap it pool vs st last ix → IsL s.heap q acc.toArray n → acc.length + out.length ≤ sizeLine →
      (∀ (h' : Heap) (us : List Addr) (n' : Nat), Laid s.heap h' vs us out → IsL h' q (acc ++ us.map Value.ref).toArray n' → (∀ b o, b ≠ it → b ≠ q → s.heap.get? b = some o → h'.get? b = some o) → Rs (.ok (.ret .none)) { s with heap := h' }) →
      codeAny (model prog w) A (.builtin "list.extend.loop" ⟨[.ref q, .ref it, .none], []⟩) Rs s := by
  intro out
  induction out with
  | nil =>
    intro st last ix acc n s hr hit hq hz hR
    refine codeAny_builtin PySem.F.entry_extend_loop ?_
    rw [Around.under_plainId PySem.F.plain_extend_loop _]
    show wpAny _ A.in1 (pyNext (.ref it) >>= _) _ _ s
    refine wpAny_bind (last_c hh hr hit fun h' hk => ?_)
    refine wpAny_pure (hR h' [] n ⟨List.nodup_nil, .nil⟩ ?_ fun b o h1 _ e => hk b o h1 e)
    rw [List.map_nil, List.append_nil]
    exact hk q _ hqi hq
  | cons y l ih =>
    intro st last ix acc n s hr hit hq hz hR
    refine codeAny_builtin PySem.F.entry_extend_loop ?_
    rw [Around.under_plainId PySem.F.plain_extend_loop _]
    show wpAny _ A.in1 (pyNext (.ref it) >>= _) _ _ s
    refine wpAny_bind (next_c hr hit fun h' u h1 h2 h3 h4 h5 => ?_)
    have hq' : IsL h' q acc.toArray n := h4 q _ hqi hq
    have hz' : acc.length + (l.length + 1) ≤ sizeLine := hz
    show wpAny _ A.in1 (updateSeq q (·.push (.ref u)) >>= _) _ _ _
    refine wpAny_bind (wpAny_updateSeq hq' rfl (wpAny_pure ⟨plainId_quiet PySem.F.plain_extend_loop _, ?_⟩) (by rw [List.size_toArray]; omega) (by rw [Array.size_push, List.size_toArray]; omega))
    have hq2 := hq'.update (·.push (.ref u))
    have eacc : acc.toArray.push (Value.ref u) = (acc ++ [Value.ref u]).toArray := by simp
    rw [eacc] at hq2
    have huq : u ≠ q := fun e => by rw [e, show s.heap.get? q = _ from hq] at h2; exact nomatch h2
    have hui : u ≠ it := fun e => by rw [e, hit.1] at h2; exact nomatch h2
    have hk2 : ∀ b o, b ≠ q → h'.get? b = some o → (h'.update q (Obj.mapSeq (·.push (.ref u)))).get? b = some o := fun b o hb e => (Heap.get?_update_other _ _ (Ne.symm hb)).trans e
    have hit2 : IsC (h'.update q (Obj.mapSeq (·.push (.ref u)))) it pool vs 1 (.ref u) y := ⟨hk2 _ _ (Ne.symm hqi) h1.1, (let ⟨o, ho, hr⟩ := h1.2.1; ⟨o, hk2 _ _ (Ne.symm hqp) ho, hr⟩), h1.2.2⟩
    refine ih 1 (.ref u) y (acc ++ [.ref u]) _ _ h5 hit2 hq2 (by rw [List.length_append, List.length_singleton]; omega) fun h2' us n' hL hq3 hk3 => ?_
    have back : ∀ b, (h'.update q (Obj.mapSeq (·.push (.ref u)))).get? b = none → s.heap.get? b = none ∧ b ≠ u := by
      intro b hb
      refine ⟨?_, fun e => ?_⟩
      · cases e : s.heap.get? b with
        | none => rfl
        | some o =>
          by_cases hbq : b = q
          · rw [hbq, show Heap.get? _ q = _ from hq2] at hb; exact nomatch hb
          · by_cases hbi : b = it
            · rw [hbi, hit2.1] at hb; exact nomatch hb
            · rw [hk2 b o hbq (h4 b o hbi e)] at hb; exact nomatch hb
      · rw [e, hk2 u _ huq h3] at hb; exact nomatch hb
    refine hR h2' (u :: us) n' ⟨List.nodup_cons.mpr ⟨fun hm => ?_, hL.1⟩, .cons ⟨h2, hk3 u _ hui huq (hk2 u _ huq h3)⟩ (Paired.mono (fun a b p => ⟨(back a p.1).1, p.2⟩) hL.2)⟩ ?_ fun b o hb1 hb2 e => hk3 b o hb1 hb2 (hk2 b o hb2 (h4 b o hb1 e))
    · obtain ⟨ix', p⟩ := paired_mem hL.2 hm
      exact (back u p.1).2 rfl
    · rw [List.map_cons]
      have e : acc ++ Value.ref u :: us.map Value.ref = acc ++ [Value.ref u] ++ us.map Value.ref := by simp
      rw [e]
      exact hq3
theorem extend_c {it pool q : Addr} {vs : List Value} (hh : A.handled = none) (hqi : q ≠ it) (hqp : q ≠ pool) {Rs : Result → Shared → Prop} {out : List (List Nat)} {st : Int} {last : Value} {ix : List Nat} (hr : runs vs.length st ix out = true) (hit : IsC s.heap it pool vs st last ix)
    (hq : IsL s.heap q #[] 0) (hz : out.length ≤ sizeLine)
    (hR : ∀ (h' : Heap) (us : List Addr) (n' : Nat), Laid s.heap h' vs us out → IsL h' q (us.map Value.ref).toArray n' → (∀ b o, b ≠ it → b ≠ q → s.heap.get? b = some o → h'.get? b = some o) → Rs (.ok (.ret .none)) { s with heap := h' }) :
    wpAny (model prog w) A.in1 (Builtin.List.listExtendWith (.ref q) (.ref it) .none)
      (fun fin s' => match fin with | .done f => Rs (.ok f) s' | .again c' => c'.quiet = true ∧ codeAny (model prog w) A c' Rs s') (fun e s' => Rs (.error e) s') s := by
  have hT : s.TypeIs (.ref it) "itertools.combinations" := ⟨_, hit.1, rfl⟩
  unfold Builtin.List.listExtendWith
  refine wpAny_bind (wpAny_typeOf hT ?_)
  have h1 : Builtin.List.listSameRef (.ref q) (.ref it) = false := by simp [Builtin.List.listSameRef, hqi]
  have h2 : (Value.type "itertools.combinations" == Value.type "list") = false := by decide +kernel
  have h3 : (Value.type "itertools.combinations" == Value.type "tuple") = false := by decide +kernel
  simp only [h1, h2, h3, Bool.or_false, Bool.false_eq_true, if_false]
  refine wpAny_bind (iter_c hit ?_)
  refine wpAny_bind (wpAny_holding ?_)
  unfold Builtin.List.listLengthHint
  refine wpAny_bind (wpAny_specialOf hT nolen ?_)
  show wpAny _ A.in1 (specialOf (Value.ref it) (Str.ofString "__length_hint__") >>= _) _ _ _
  refine wpAny_bind (wpAny_specialOf hT nohint ?_)
  refine wpAny_pure ?_
  refine wpAny_ite_split (fun _ => ?_) (fun _ => wpAny_pure ⟨plainId_quiet PySem.F.plain_extend_loop _, ?_⟩)
  · refine wpAny_bind (wpAny_rule ?_)
    refine wpAny_bind ?_
    show wpAny _ _ (updateSeq q (·.push .none) >>= fun _ => updateSeq q (·.pop)) _ _ _
    refine wpAny_bind (wpAny_updateSeq hq rfl ?_)
    have hq2 := hq.update (·.push Value.none)
    refine wpAny_updateSeq hq2 rfl ?_ (by show 1 ≤ sizeLine; rw [sizeLine_eq]; decide) (by show 0 ≤ sizeLine + 1; exact Nat.zero_le _)
    have hq3 := hq2.update (·.pop)
    have k3 : ∀ b o, b ≠ q → s.heap.get? b = some o → ((s.heap.update q (Obj.mapSeq (·.push Value.none))).update q (Obj.mapSeq (·.pop))).get? b = some o := fun b o hb e => (Heap.get?_update_other _ _ (Ne.symm hb)).trans ((Heap.get?_update_other _ _ (Ne.symm hb)).trans e)
    have hit3 : IsC ((s.heap.update q (Obj.mapSeq (·.push Value.none))).update q (Obj.mapSeq (·.pop))) it pool vs st last ix := ⟨k3 _ _ (Ne.symm hqi) hit.1, (let ⟨o, ho, hr⟩ := hit.2.1; ⟨o, k3 _ _ (Ne.symm hqp) ho, hr⟩), hit.2.2⟩
    refine wpAny_pure ⟨plainId_quiet PySem.F.plain_extend_loop _, loop_c (A := A) hh hqi hqp out st last ix [] _ _ hr hit3 hq3 (by simpa using hz) fun h' us n' hL hl hk => hR h' us n' ⟨hL.1, Paired.mono (fun a b p => ⟨?_, p.2⟩) hL.2⟩ hl fun b o hb1 hb2 e => hk b o hb1 hb2 (k3 b o hb2 e)⟩
    cases e : s.heap.get? a with
    | none => rfl
    | some o =>
      have p1 := p.1
      by_cases haq : a = q
      · rw [haq, show Heap.get? _ q = _ from hq3] at p1; exact nomatch p1
      · rw [k3 a o haq e] at p1; exact nomatch p1
  · exact loop_c (A := A) hh hqi hqp out st last ix [] 0 s hr hit hq (by simpa using hz) fun h' us n' hL hl hk => hR h' us n' hL hl hk
/-- list(combinations(..)), the object given -/
theorem call_list_c {it pool : Addr} {vs : List Value} {out : List (List Nat)} {st : Int} {last : Value} {ix : List Nat} {Q : Value → Shared → Prop} (hh : A.handled = none) (hr : runs vs.length st ix out = true) (hit : IsC s.heap it pool vs st last ix) (hz : out.length ≤ sizeLine)
    (hQ : ∀ (h' : Heap) (q : Addr) (us : List Addr) (n' : Nat), s.heap.get? q = none → q ∉ us → Laid s.heap h' vs us out → IsL h' q (us.map Value.ref).toArray n' → (∀ b o, b ≠ it → s.heap.get? b = some o → h'.get? b = some o) → Q (.ref q) { s with heap := h' }) :
    wpAny (model prog w) A (call (.type "list") [.ref it]) Q E s := by
  refine callType_codes (Q₁ := fun obj s₁ => obj = .ref s.heap.objs.size ∧ s₁ = { s with heap := s.heap.push { cls := .type "list", data := .seq #[] } }) PySem.F.called_list (PySem.F.typeCall_list_1 _) PySem.F.entry_list_init
    (code_list_new _ ⟨rfl, rfl⟩) fun obj s₁ h₁ => ?_
  obtain ⟨rfl, rfl⟩ := h₁
  have hS : (s.heap.push { cls := .type "list", data := .seq #[] }).get? s.heap.objs.size = some { cls := .type "list", data := .seq #[] } := Heap.get?_push_size _ rfl
  refine ⟨⟨_, hS, rfl⟩, PySem.F.args_list_init_2 _ _, ?_⟩
  have fr : s.heap.get? s.heap.objs.size = none := fresh_none _
  show wpAny _ _ (do let old ← Builtin.List.listItems (.ref s.heap.objs.size); Builtin.List.listUpdate (.ref s.heap.objs.size) (fun _ => #[]); letGo old.toList.reverse; Builtin.List.listExtendWith (.ref s.heap.objs.size) (.ref it) .none) _ _ _
  refine wpAny_bind ?_
  unfold Builtin.List.listItems
  refine wpAny_bind (wpAny_seqItems hS rfl (wpAny_pure ?_))
  show wpAny _ _ (updateSeq s.heap.objs.size (fun _ => #[]) >>= fun _ => letGo (#[] : Array Value).toList.reverse >>= fun _ => Builtin.List.listExtendWith (.ref s.heap.objs.size) (.ref it) .none) _ _ _
  refine wpAny_bind (wpAny_updateSeq hS rfl ?_)
  have hq := IsL.update (h := s.heap.push { cls := .type "list", data := .seq #[] }) (items := #[]) (n := 0) hS (fun _ => #[])
  refine wpAny_bind (wpAny_letGo ?_)
  have hqi : s.heap.objs.size ≠ it := fun e => by rw [e, hit.1] at fr; exact nomatch fr
  have hqp : s.heap.objs.size ≠ pool := fun e => by obtain ⟨o, ho, _⟩ := hit.2.1; rw [e, ho] at fr; exact nomatch fr
  have k3 : ∀ b o, s.heap.get? b = some o → ((s.heap.push { cls := .type "list", data := .seq #[] }).update s.heap.objs.size (Obj.mapSeq fun _ => #[])).get? b = some o := fun b o e =>
    (Heap.get?_update_other _ _ (fun hb => by rw [← hb, fr] at e; exact nomatch e)).trans (Heap.get?_push_of_some _ e)
  have hit3 : IsC ((s.heap.push { cls := .type "list", data := .seq #[] }).update s.heap.objs.size (Obj.mapSeq fun _ => #[])) it pool vs st last ix := ⟨k3 _ _ hit.1, (let ⟨o, ho, hr⟩ := hit.2.1; ⟨o, k3 _ _ ho, hr⟩), hit.2.2⟩
  have hLback : ∀ a, ((s.heap.push { cls := .type "list", data := .seq #[] }).update s.heap.objs.size (Obj.mapSeq fun _ => #[])).get? a = none → s.heap.get? a = none ∧ a ≠ s.heap.objs.size := by
    intro a ha
    refine ⟨?_, fun e => ?_⟩
    · cases e : s.heap.get? a with
      | none => rfl
      | some o => rw [k3 a o e] at ha; exact nomatch ha
    · rw [e, show Heap.get? _ s.heap.objs.size = _ from hq] at ha; exact nomatch ha
  refine extend_c (A := A.in1) (Rs := wants (fun r s₂ => r = .none ∧ Q (.ref s.heap.objs.size) s₂) E) hh hqi hqp hr hit3 hq hz fun h' us n' hL hl hk => ⟨rfl, hQ h' _ us n' fr (fun hm => ?_) ⟨hL.1, Paired.mono (fun a b p => ⟨(hLback a p.1).1, p.2⟩) hL.2⟩ hl fun b o hb e => hk b o hb (fun eb => by rw [eb, fr] at e; exact nomatch e) (k3 b o e)⟩
  obtain ⟨_, p⟩ := paired_mem hL.2 hm
  exact (hLback _ p.1).2 rfl
end
end Cmb

set_option Elab.async false
set_option linter.all false
set_option maxRecDepth 100000
set_option maxHeartbeats 2000000
/-! list(combinations(persons, size)), as a reading -/
namespace Cmb
open PySem PySem.Spec L2 PyProof.Rows
/-- tuples tracked, one after the other -/
def lay (H : Hp) : List (Addr × List V) → Hp
  | [] => H
  | p :: l => lay (upd H p.1 (.tup p.2)) l
theorem lay_other {b : Addr} : ∀ (l : List (Addr × List V)) (H : Hp), b ∉ l.map (·.1) → lay H l b = H b
  | [], _, _ => rfl
  | p :: l, H, h => by
    rw [List.map_cons, List.mem_cons, not_or] at h
    show lay (upd H p.1 (.tup p.2)) l b = H b
    rw [lay_other l _ h.2, upd_ne h.1]
theorem lay_mem {p : Addr × List V} : ∀ (l : List (Addr × List V)) (H : Hp), (l.map (·.1)).Nodup → p ∈ l → lay H l p.1 = some (.tup p.2)
  | q :: l, H, nd, h => by
    rw [List.map_cons, List.nodup_cons] at nd
    show lay (upd H q.1 (.tup q.2)) l p.1 = _
    rcases List.mem_cons.mp h with rfl | h
    · rw [lay_other l _ nd.1, upd_same]
    · exact lay_mem l _ nd.2 h
section
variable {X : Cx} {pins : List (Addr × Obj)} {σ : L2.St} {H : Hp} {s : Shared}
theorem lay_inv {h' : Heap} {t' : Nat} : ∀ (l : List (Addr × List V)) (H : Hp) (G : Heap), Inv X pins σ H { s with heap := G, toks := t' } → (∀ b o, G.get? b = some o → h'.get? b = some o) → (l.map (·.1)).Nodup →
    (∀ p ∈ l, G.get? p.1 = none ∧ p.2.length ≤ sizeLine ∧ ∃ its, Vals p.2 its ∧ IsTup h' p.1 its.toArray) → Inv X pins σ (lay H l) { s with heap := h', toks := t' }
  | [], H, G, I, k, _, _ => I.kept (t' := t') k
  | p :: l, H, G, I, k, nd, hp => by
    rw [List.map_cons, List.nodup_cons] at nd
    obtain ⟨G1, g1, g2⟩ := L2.restrict h' fun b => (G.get? b).isSome || b == p.1
    obtain ⟨hn, hz, its, rv, o, ho, hr⟩ := hp p (List.mem_cons_self ..)
    have kG : ∀ b o, G.get? b = some o → G1.get? b = some o := fun b o e => (g1 b (by simp [e])).trans (k b o e)
    have hH : H p.1 = none := HOk.gone I.hok hn
    have I1 : Inv X pins σ (upd H p.1 (.tup p.2)) { s with heap := G1, toks := t' } := I.laidN (t' := t') kG hn hH ⟨hz, its, rv, o, (g1 p.1 (by simp)).trans ho, hr⟩
    refine lay_inv l _ G1 I1 (fun b o e => ?_) nd.2 fun q hq => ?_
    · cases hb : ((G.get? b).isSome || b == p.1) with
      | true => rw [← g1 b hb]; exact e
      | false => rw [g2 b hb] at e; exact nomatch e
    · obtain ⟨hn2, r⟩ := hp q (List.mem_cons_of_mem _ hq)
      refine ⟨g2 q.1 ?_, r⟩
      have hne : q.1 ≠ p.1 := fun e => nd.1 (e ▸ List.mem_map_of_mem (f := (·.1)) hq)
      rw [hn2]
      simp [hne]
def picksV (xs : List V) (ix : List Nat) : List V := ix.map fun i => xs.getD i .non
theorem vals_picks {xs : List V} {us : List Value} (r : Vals xs us) : ∀ ix : List Nat, Vals (picksV xs ix) (picks us ix)
  | [] => .nil
  | i :: ix => by
    refine .cons ?_ (vals_picks r ix)
    show RelV (xs.getD i .non) (us.toArray.getD i .none)
    rw [List.getD_eq_getElem?_getD]
    have e : us.toArray.getD i Value.none = us[i]?.getD Value.none := by simp
    rw [e]
    cases h : xs[i]? with
    | none => rw [r.none_of h]; exact rfl
    | some x =>
      obtain ⟨u, hu, ru⟩ := r.get h
      rw [hu]
      exact ru
def tComb (K : PySem.W.Frag) (t : TA) : TE := fun σ H Q => t σ H fun vs H1 => ∃ (l : Addr) (xs : List V) (r : Nat) (out : List (List Nat)), vs = [.ref l, .int (r : Int)] ∧ SqL K H1 l xs ∧ r ≤ 1000 ∧ xs.length ≤ 1000 ∧
  runs xs.length (if r > xs.length then 2 else 0) (List.range r) out = true ∧ out.length ≤ sizeLine ∧ (∀ ix ∈ out, ix.length ≤ 1000) ∧
  ∀ (q : Addr) (us : List Addr) (H' : Hp), H1 q = none → q ∉ us → us.Nodup → Paired (fun u ix => H1 u = none ∧ H' u = some (.tup (picksV xs ix))) us out → (∀ b, b ≠ q → b ∉ us → H' b = H1 b) → H' q = some (.lst (us.map .ref)) → Q (.ref q) H'
theorem paired_mem2 {α β : Type} {F : α → β → Prop} {a : α} : ∀ {l₁ : List α} {l₂ : List β}, Paired F l₁ l₂ → a ∈ l₁ → ∃ b, b ∈ l₂ ∧ F a b
  | _, _, .nil, h => nomatch h
  | _, _, .cons h t, m => (List.mem_cons.mp m).elim (fun e => e ▸ ⟨_, List.mem_cons_self .., h⟩) fun m => let ⟨b, m', h'⟩ := paired_mem2 t m; ⟨b, List.mem_cons_of_mem _ m', h'⟩
theorem paired_with {α β : Type} {F : α → β → Prop} {G : α → β → Prop} : ∀ {l₁ : List α} {l₂ : List β}, Paired F l₁ l₂ → (∀ a b, (a, b) ∈ l₁.zip l₂ → F a b → G a b) → Paired G l₁ l₂
  | _, _, .nil, _ => .nil
  | _, _, .cons h t, k => .cons (k _ _ (List.mem_cons_self ..) h) (paired_with t fun a b m => k a b (List.mem_cons_of_mem _ m))
theorem paired_zip {α β : Type} {F : α → β → Prop} : ∀ {l₁ : List α} {l₂ : List β}, Paired F l₁ l₂ → ∀ p ∈ l₁.zip l₂, F p.1 p.2
  | _, _, .nil, _, h => nomatch h
  | _, _, .cons h t, p, m => (List.mem_cons.mp m).elim (fun e => e ▸ h) fun m => paired_zip t p m
theorem zip_fst {α β γ : Type} (f : β → γ) : ∀ {l₁ : List α} {l₂ : List β}, l₁.length = l₂.length → ((l₁.zip l₂).map fun p => (p.1, f p.2)).map (·.1) = l₁
  | [], [], _ => rfl
  | a :: l₁, b :: l₂, h => by
    have := zip_fst f (l₁ := l₁) (l₂ := l₂) (by simpa using h)
    simp only [List.zip_cons_cons, List.map_cons]
    rw [this]
theorem vals_refs : ∀ us : List Addr, Vals (us.map V.ref) (us.map Value.ref)
  | [] => .nil
  | _ :: us => .cons rfl (vals_refs us)
theorem pe_listComb {e1 e2 : Expr} {t : TA} {p p2 pos pos2 : Pos} (hc : X.calm = true) (hg : Gl X "list") (hm : X.mg "list" = none) (hg2 : Gl X "combinations") (hm2 : X.mg "combinations" = some (.type "itertools.combinations")) (ha : PA X [e1, e2] t)
    (hs2 : starEach [e1, e2] X.env = (false, eval e1 X.env) :: starEach [e2] X.env := by rfl) (hpl : (backTo pos2 (starEach [e2] X.env)).any (·.1) = false := by rfl)
    (hs : starEach [.Call (.Name "combinations" p2) [e1, e2] [] pos2] X.env = (false, eval (.Call (.Name "combinations" p2) [e1, e2] [] pos2) X.env) :: starEach [] X.env := by rfl) :
    PE X (.Call (.Name "list" p) [.Call (.Name "combinations" p2) [e1, e2] [] pos2] [] pos) (tComb X.K t) := by
  refine ⟨fun pins s σ H Q I h => ?_⟩
  refine Call_ (ld_blt I hg hm PyProof.Rows.boot_list (PyProof.Rows.callWith_type1 (args_cons (Call_ (ld_glob I hg2 hm2 (PyProof.Rows.callWith_type1 (thn (ha.run pos2 pins s σ H _ I h) fun us s1 ⟨vs, H1, I1, r1, q1⟩ => ?_) hs2 hpl))) hs) hs rfl))
  obtain ⟨l, xs, r, out, rfl, hl, hr, hx, hrun, hz, hzi, q⟩ := q1
  obtain ⟨u1, u2, rfl, ru1, ru2⟩ := r1.two
  cases ru1
  obtain ⟨tk, rfl⟩ := ru2
  obtain ⟨its, rv, p', hz0⟩ := I1.list hl
  have hlen := rv.length
  refine call_c hr (by rw [← hlen]; exact hx) p'.isList fun h1 it pool hC n1 n2 k1 => args_nil ?_
  rw [hlen] at hrun
  refine call_list_c (s := { s1 with heap := h1 }) (I1.ok.hd hc) hrun hC hz fun h2 qa us n' nq nqu hL hql k2 => ?_
  have hit0 : it ∉ us := fun hm => by
    obtain ⟨_, e, _⟩ := paired_mem hL.2 hm
    rw [show Heap.get? _ it = _ from hC.1] at e
    exact nomatch e
  have k : ∀ b o, s1.heap.get? b = some o → h2.get? b = some o := fun b o e => k2 b o (fun eb => by rw [eb, n1] at e; exact nomatch e) (k1 b o e)
  have back : ∀ b, h1.get? b = none → s1.heap.get? b = none := fun b hb => by
    cases e : s1.heap.get? b with
    | none => rfl
    | some o => rw [k1 b o e] at hb; exact nomatch hb
  obtain ⟨G, g1, g2⟩ := L2.restrict h2 fun b => (s1.heap.get? b).isSome || b == qa
  have nq1 := back qa nq
  have kG : ∀ b o, s1.heap.get? b = some o → G.get? b = some o := fun b o e => (g1 b (by simp [e])).trans (k b o e)
  have hlu := hL.2.length
  have IG : Inv X pins σ (upd H1 qa (.lst (us.map .ref))) { s1 with heap := G, toks := s1.toks } :=
    I1.laidN (t' := s1.toks) kG nq1 (HOk.gone I1.hok nq1) ⟨by rw [List.length_map, hlu]; exact hz, us.map Value.ref, n', vals_refs us, (g1 qa (by simp)).trans hql⟩
  have nz := zip_fst (picksV xs) hlu
  have IL := lay_inv (s := s1) (h' := h2) (t' := s1.toks) ((us.zip out).map fun p => (p.1, picksV xs p.2)) _ G IG (fun b o e => by
      cases hb : ((s1.heap.get? b).isSome || b == qa) with
      | true => rw [← g1 b hb]; exact e
      | false => rw [g2 b hb] at e; exact nomatch e) (by rw [nz]; exact hL.1) (fun p hp => by
      obtain ⟨p0, hp0, rfl⟩ := List.mem_map.mp hp
      have F := paired_zip hL.2 p0 hp0
      have hne : p0.1 ≠ qa := fun e => nqu (by rw [← e]; exact (List.of_mem_zip (show (p0.1, p0.2) ∈ us.zip out from hp0)).1)
      refine ⟨g2 p0.1 ?_, ?_, _, vals_picks rv p0.2, _, F.2, rfl, _, rfl⟩
      · rw [back _ F.1]; simp [hne]
      · show (List.map _ p0.2).length ≤ _
        rw [List.length_map]
        exact Nat.le_trans (hzi _ (List.of_mem_zip (show (p0.1, p0.2) ∈ us.zip out from hp0)).2) (by decide))
  refine ⟨.ref qa, _, IL, rfl, q qa us _ (HOk.gone I1.hok nq1) nqu hL.1 ?_ (fun b hb hbu => ?_) ?_⟩
  · refine paired_with hL.2 fun a b m F => ⟨HOk.gone I1.hok (back a F.1), ?_⟩
    exact lay_mem (p := (a, picksV xs b)) _ _ (by rw [nz]; exact hL.1) (List.mem_map.mpr ⟨(a, b), m, rfl⟩)
  · rw [lay_other _ _ (by rw [nz]; exact hbu), upd_ne hb]
  · rw [lay_other _ _ (by rw [nz]; exact nqu), upd_same]
end
end Cmb

set_option Elab.async false
set_option linter.all false
set_option maxRecDepth 100000
set_option maxHeartbeats 2000000
/-! for in a generator's body -/
namespace Gf
open PySem PySem.Spec L2 PyProof.Rows
open Sem (wp)
section
variable {M : Model} {A : Around} {R : GenEnd} {Y : Protocol} {n : Nat} {s₀ : Shared} {c : Code} {fs : List Frame} {s : Shared} {env : Env}
  {K : Flow → Sem PySem.Fin} {H : Value → Sem PySem.Fin} {gd : Bool → Bool} {lv : List Value → List Value}
theorem seg_For {target iter : Expr} {body : List Stmt} {pos : Pos} (hs : ∀ x, foldedSetIterable iter env x = pure x)
    (h : wpAny M (A.over c fs) (eval iter env) (fun v s1 => wpAny M (A.over c fs) (pyIter v) (fun it s2 => ∀ p, Seg M A R Y n s₀ (.forLoop target it body [] env) (M.den (.forLoop target it body [] env))
      (.ret (fun r => ((match r with | .ok f => (.pure f : Sem Flow) | .error e => .raise e).onRaise fun (x : Value) => do
        if (← field x 1) == Value.none then unsupported "frame.own-activation:exception-without-traceback"
        setFlight x env.frame).wrap K H gd lv) none (gd false) (lv []) c p [] :: fs) s2) (fun x s' => Seg M A R Y n s₀ c (H x) fs s') s1) (fun x s' => Seg M A R Y n s₀ c (H x) fs s') s) :
    Seg M A R Y n s₀ c ((exec (.For target iter body [] pos) env).wrap K H gd lv) fs s := by
  rw [exec_For]
  refine seg_bind_wrap (wpAny_standAt ?_)
  refine seg_bind_wrap (wpAny_mono h (fun v s1 h1 => ?_) fun _ _ x => x)
  refine seg_bind_wrap (wpAny_of_eq (hs v) ?_)
  refine seg_bind_wrap (wpAny_standAt ?_)
  refine seg_bind_wrap (wpAny_holding (wpAny_mono h1 (fun it s2 h2 => ?_) fun _ _ x => x))
  exact seg_call h2
end
section
variable {prog : Program} {w : World} {A : Around} {R : GenEnd} {Y : Protocol} {n : Nat} {s₀ : Shared} {fs : List Frame} {s : Shared} {env : Env}
theorem seg_forLoop {target : Expr} {it : Value} {body : List Stmt}
    (h : wpAny (model prog w) (A.over (.forLoop target it body [] env) fs) (pyNext it) (fun r s1 => match r with
        | none => Seg (model prog w) A R Y n s₀ (.forLoop target it body [] env) (.pure (.again (.block [] env))) fs s1
        | some v => wpAny (model prog w) (A.over (.forLoop target it body [] env) fs) (letOwnedTupleGo target it v) (fun _ s2 => wpAny (model prog w) (A.over (.forLoop target it body [] env) fs) (assign target env v) (fun _ s3 =>
          Seg (model prog w) A R Y n s₀ (.forLoop target it body [] env) ((execs body env).wrap (fun f => match f with
            | .next | .cont => .pure (.again (.forLoop target it body [] env))
            | .brk => .pure (.done .next)
            | .ret v => .pure (.done (.ret v))) (fun e => (do noteFrame e env; theTreesLotGoes e : Sem Unit).wrap (fun _ => .raise e) .raise id id) id id) fs s3)
          (fun x s' => Seg (model prog w) A R Y n s₀ (.forLoop target it body [] env) ((do noteFrame x env; theTreesLotGoes x : Sem Unit).wrap (fun _ => .raise x) .raise id id) fs s') s2)
          (fun x s' => Seg (model prog w) A R Y n s₀ (.forLoop target it body [] env) ((do noteFrame x env; theTreesLotGoes x : Sem Unit).wrap (fun _ => .raise x) .raise id id) fs s') s1)
      (fun x s' => Seg (model prog w) A R Y n s₀ (.forLoop target it body [] env) ((do noteFrame x env; theTreesLotGoes x : Sem Unit).wrap (fun _ => .raise x) .raise id id) fs s') s) :
    Seg (model prog w) A R Y n s₀ (.forLoop target it body [] env) ((model prog w).den (.forLoop target it body [] env)) fs s := by
  have eH : ∀ (e : Value), ((do noteFrame e env; theTreesLotGoes e : Sem Unit).bind fun _ => (Sem.raise e : Sem PySem.Fin)) = (do noteFrame e env; theTreesLotGoes e : Sem Unit).wrap (fun _ => .raise e) .raise id id := fun e => by rw [Sem.bind_eq_wrap]
  show Seg _ A R Y n s₀ _ ((forTurn target it body [] env).onRaise (fun x => do noteFrame x env; theTreesLotGoes x)) fs s
  unfold forTurn
  rw [Sem.onRaise_eq_wrap]
  refine seg_bind_wrap (wpAny_standAt ?_)
  refine seg_bind_wrap (wpAny_onRaise (wpAny_mono h (fun r s1 h1 => ?_) fun x s' hx => wpAny_standAt ?_))
  · cases r with
    | none => exact h1
    | some v =>
      refine seg_bind_wrap (wpAny_mono h1 (fun _ s2 h2 => ?_) fun x s' hx => ?_)
      · refine seg_bind_wrap (wpAny_mono h2 (fun _ s3 h3 => ?_) fun x s' hx => ?_)
        · rw [Sem.bind_eq_wrap', Sem.wrap_wrap]
          rw [Sem.wrap_congr (execs body env) _ _ (K' := fun f => match f with
            | .next | .cont => .pure (.again (.forLoop target it body [] env))
            | .brk => .pure (.done .next)
            | .ret v => .pure (.done (.ret v))) (H' := (fun e => (do noteFrame e env; theTreesLotGoes e : Sem Unit).wrap (fun _ => .raise e) .raise id id))
            (fun f => by cases f <;> rfl)
            (fun e => by first | exact Sem.bind_eq_wrap _ _ | (show (do noteFrame e env; theTreesLotGoes e : Sem Unit).bind (fun _ => .raise e) = _; rw [Sem.bind_eq_wrap]))]
          exact h3
        · rw [← eH] at hx; exact hx
      · rw [← eH] at hx; exact hx
  · rw [← eH] at hx; exact hx
end
section
variable {X : Cx} {tg : Expr}
def tGFor (wi : TI) (g : TG) (tb : TGn) : TGn := fun D ys σ H => wi σ H fun J H1 => ∃ W : Nat → Nat → List V → L2.St → Hp → Prop, (∃ m, W 0 m ys σ H1) ∧ ∀ i m ys σ H, W i m ys σ H →
  (J.stop i H ∧ D.nx ys σ H) ∨ (J.go i H ∧ ∃ N : List V → L2.St → Hp → Prop, (∀ ys' σ' H', N ys' σ' H' → ∃ m', m' < m ∧ W (i + 1) m' ys' σ' H') ∧ ∀ x H', J.yld i H x H' → g x σ H' fun σ2 H2 => tb { D with nx := N, ct := N, bk := D.nx } ys σ2 H2)
theorem gs_for {iter : Expr} {body : List Stmt} {wi : TI} {g : TG} {tb : TGn} {pos : Pos} (hp : PassesOwn (model X.prog X.w) X.A X.env X.xe) (hc : X.calm = true) (hi : PI X tg iter wi) (hg : PG X tg g) (hb : GSs X body tb)
    (hs : ∀ x, foldedSetIterable iter X.env x = pure x := by intro _; rfl) : GS X (.For tg iter body [] pos) (tGFor wi g tb) := by
  refine ⟨fun A S ip R n ys s₀ c fs K J gd lv s σ H D gc hn k hI ht => ?_⟩
  refine seg_For hs ?_
  rw [gc.over]
  obtain ⟨acc, cc, r, I⟩ := hI
  refine wpAny_mono (hi.run _ s σ H _ I ht) (fun v s1 h1 => ?_) fun x s' hx => k.exc n s₀ x s' hx
  refine wpAny_mono h1 (fun itv s2 h2 => ?_) fun x s' hx => k.exc n s₀ x s' hx
  intro p
  obtain ⟨it, fp, tn, JJ, H2, e, I2, T, st2, f2, W, ⟨m0, w0⟩, turn⟩ := h2
  subst e
  have stat : ∀ {H' : Hp} (acc : Array Value) (cc : Nat), (∀ b ∈ fp, H' b = none) → ∀ b ∈ fp, FpOk X ((S, lstObj acc cc) :: ip) H' b := fun acc cc hn b hb => by
    obtain ⟨_, a1, a2, a3, a4, a5⟩ := f2 b hb
    refine ⟨hn b hb, a1, a2, a3, a4, fun p hp => ?_⟩
    rcases List.mem_append.mp hp with hp | hp
    · exact a5 p (List.mem_append_left _ hp)
    · rcases List.mem_cons.mp hp with rfl | hp
      · exact fun e => a5 (S, lstObj _ _) (List.mem_append_right _ (List.mem_cons_self ..)) e
      · exact a5 p (List.mem_append_right _ (List.mem_cons_of_mem _ hp))
  have fpS : ∀ b ∈ fp, b ≠ S := fun b hb e => (f2 b hb).2.2.2.2.2 (S, _) (List.mem_append_right _ (List.mem_cons_self ..)) e.symm
  have gl := fun (kk : Result → Sem PySem.Fin) => gc_loop (k := kk) (c' := .forLoop tg (.ref it) body [] X.env) (l := lv []) (kp := []) (p := p) gc rfl rfl
  have loop : ∀ (m i n : Nat) (ys : List V) (s₀ s : Shared) (σ : L2.St) (H : Hp), n + ys.length = sizeLine → W i m ys σ H → GI X S ip ys σ H s → tn i s.heap → (∀ b ∈ fp, H b = none) →
      Seg (model X.prog X.w) A R (GY X S) n s₀ (.forLoop tg (.ref it) body [] X.env) ((model X.prog X.w).den (.forLoop tg (.ref it) body [] X.env))
        (.ret (fun r => ((match r with | .ok f => (.pure f : Sem Flow) | .error e => .raise e).onRaise (cameBack X.env)).wrap K J gd lv) none (gd false) (lv []) c p [] :: fs) s := by
    intro m
    induction m using Nat.strongRecOn with
    | ind m ih =>
      intro i n ys s₀ s σ H hn w hI st fr
      have ee : ∀ (n : Nat) (s₀ : Shared) (x : Value) (s' : Shared), X.xe x s' → Seg (model X.prog X.w) A R (GY X S) n s₀ (.forLoop tg (.ref it) body [] X.env)
          ((do noteFrame x X.env; theTreesLotGoes x : Sem Unit).wrap (fun _ => .raise x) .raise id id)
          (.ret (fun r => ((match r with | .ok f => (.pure f : Sem Flow) | .error e => .raise e).onRaise (cameBack X.env)).wrap K J gd lv) none (gd false) (lv []) c p [] :: fs) s' := fun n s₀ x s' hx => by
        refine seg_wrap ?_
        rw [(gl _).over]
        refine wpAny_bind (wpAny_mono (hp x s' hx) (fun _ s'' hcb => wpAny_theTreesLotGoes ?_) fun y s'' hcb => ?_)
        · exact seg_leaf (.error x) (seg_cameBack gc k hcb)
        · exact seg_leaf (.error y) (seg_cameBack gc k hcb)
      refine seg_forLoop ?_
      rw [(gl _).over]
      obtain ⟨acc, cc, r, I⟩ := hI
      rcases turn i m ys σ H w with ⟨stop, qn⟩ | ⟨go, N, hN, step⟩
      · refine wpAny_mono (T.done X rfl rfl rfl hc i _ s σ H X.xe I (stat acc cc fr) st stop) (fun r' s4 h4 => ?_) fun x s' hx => ee n s₀ x s' hx
        obtain ⟨hr, I4⟩ := h4
        subst hr
        refine seg_again rfl ?_
        show Seg _ _ _ _ _ _ _ (leafOf (.ok .next)) _ _
        exact seg_leaf (.ok .next) (k.ok n ys s₀ s4 .next hn ⟨σ, H, ⟨acc, cc, r, I4⟩, qn⟩)
      · refine wpAny_mono (T.item X rfl rfl rfl hc i _ s σ H X.xe I (stat acc cc fr) st go) (fun r' s4 h4 => ?_) fun x s' hx => ee n s₀ x s' hx
        obtain ⟨u, hr, h4⟩ := h4
        subst hr
        refine wpAny_mono h4 (fun _ s5 h5 => ?_) fun x s' hx => ee n s₀ x s' hx
        obtain ⟨x, H5, I5, r5, y5, st5, fr5⟩ := h5
        have I5' := I5.pinned (stat acc cc fr5) (T.obj _ _ st5)
        refine wpAny_mono (hg.run _ s5 σ H5 x u _ I5' r5 (step x H5 y5)) (fun _ s6 h6 => ?_) fun x s' hx => ee n s₀ x s' hx
        obtain ⟨σ6, H6, I6, q6⟩ := h6
        have glp := fun (kk : Result → Sem PySem.Fin) => (⟨(gl kk).pn, fun p hp => by
          rcases List.mem_append.mp hp with hp | hp
          · exact gc.ip p hp
          · exact fpS _ (of_pinsAt hp).1, (gl kk).apart, (gl kk).over, (gl kk).split, (gl kk).guard, (gl kk).gd⟩ : GC X S (ip ++ pinsAt fp s5.heap) A _ _ _)
        have back : ∀ {ys' : List V} {σ7 : L2.St} {H7 : Hp} {s7 : Shared}, GI X S (ip ++ pinsAt fp s5.heap) ys' σ7 H7 s7 → GI X S ip ys' σ7 H7 s7 ∧ tn (i + 1) s7.heap ∧ ∀ b ∈ fp, H7 b = none := fun {ys' σ7 H7 s7} g7 => by
          obtain ⟨acc7, c7, r7, I7⟩ := g7
          refine ⟨⟨acc7, c7, r7, Inv.unpinned (pins := (S, lstObj acc7 c7) :: ip) I7⟩, T.keep _ _ _ st5 fun b hb o e => (I7.pin (b, o) (List.mem_append_right _ (List.mem_cons_of_mem _ (List.mem_append_right _ (mem_pinsAt hb e))))).1, fun b hb => ?_⟩
          obtain ⟨o, e, d⟩ := T.obj _ _ st5 b hb
          exact (I7.pin (b, o) (List.mem_append_right _ (List.mem_cons_of_mem _ (List.mem_append_right _ (mem_pinsAt hb e))))).2.1
        refine hb.run A S (ip ++ pinsAt fp s5.heap) R n ys s₀ _ _ _ _ id id s6 σ6 H6 { D with nx := N, ct := N, bk := D.nx } (glp _) hn ⟨fun n' ys' s₀' s3 f hn' hs => ?_, fun n' s₀' x s3 hx => ee n' s₀' x s3 hx⟩ ⟨acc, cc, r, I6⟩ q6
        cases f with
        | next =>
          obtain ⟨σ3, H3, I3, n3⟩ := hs
          obtain ⟨m', hm, w3⟩ := hN ys' σ3 H3 n3
          obtain ⟨b1, b2, b3⟩ := back I3
          exact seg_again rfl (ih m' hm (i + 1) n' ys' s₀' s3 σ3 H3 hn' w3 b1 b2 b3)
        | cont =>
          obtain ⟨σ3, H3, I3, n3⟩ := hs
          obtain ⟨m', hm, w3⟩ := hN ys' σ3 H3 n3
          obtain ⟨b1, b2, b3⟩ := back I3
          exact seg_again rfl (ih m' hm (i + 1) n' ys' s₀' s3 σ3 H3 hn' w3 b1 b2 b3)
        | brk =>
          obtain ⟨σ3, H3, I3, q3⟩ := hs
          exact seg_leaf (.ok .next) (k.ok n' ys' s₀' s3 .next hn' ⟨σ3, H3, (back I3).1, q3⟩)
        | ret v =>
          obtain ⟨x3, σ3, H3, I3, r3, q3⟩ := hs
          exact seg_leaf (.ok (.ret v)) (k.ok n' ys' s₀' s3 (.ret v) hn' ⟨x3, σ3, H3, (back I3).1, r3, q3⟩)
  exact loop m0 0 n ys s₀ s2 σ H2 hn w0 ⟨acc, cc, r, I2⟩ st2 fun b hb => (f2 b hb).1
end
end Gf

/-! enumerate(xs, start=k) over a list or a tuple. -/
set_option Elab.async false
set_option linter.all false
set_option maxRecDepth 100000
namespace My
open PySem PySem.Spec PyProof.Rows L2
/-- the turns over a list (or tuple) at a: new pairs, counted from c -/
def ItS (S : Hp → Addr → List V → Prop) (c : Int) (a : Addr) : It :=
  ⟨fun i H => ∃ (xs : List V) (x : V), S H a xs ∧ xs[i]? = some x, fun i H v H' => ∃ T x, v = .ref T ∧ H T = none ∧ H' = upd H T (.tup [.int (c + (i : Nat)), x]) ∧ ∀ xs, S H a xs → xs[i]? = some x, fun i H => ∃ xs : List V, S H a xs ∧ xs.length ≤ i⟩
theorem enum_endL {e it l : Addr} {P : Program} {w : World} {A : Around} {E : Value → Shared → Prop} {s : Shared} {i : Nat} {c : Int} {items : Array Value} {old : Value} {Q : Option Value → Shared → Prop} (hh : A.handled = none) (hne : l ≠ it)
    (he : IsEnum s.heap e it c old) (hit : s.heap.IsListIter it l i) (hl : s.heap.IsList l items) (hx : items[i]? = none)
    (hQ : ∀ h', Heap.ExtBut it s.heap h' → Q none { s with heap := h' }) : wpAny (model P w) A (pyNext (.ref e)) Q E s := by
  have hTy : s.TypeIs (.ref e) "enumerate" := ⟨_, he, rfl⟩
  unfold pyNext
  refine wpAny_bind (wpAny_attempt (wpAny_callSpecial?_slot (name := Str.ofString "__next__") hTy F.slot_enumerate_next
    (wpAny_call_entry F.slot_enumerate_next hTy F.entry_enumerate_next ?_ (F.args_enumerate_next_1 _))))
  show wpAny _ _ (field (.ref e) 2 >>= _) _ _ _
  refine wpAny_bind (wpAny_field he rfl (x := .ref it) rfl ?_)
  refine wpAny_bind (wpAny_nextOf_list_end hh hit hl hx fun h' x he' hx' => ?_)
  obtain ⟨o, ho, hc⟩ := hx'
  refine wpAny_bind (wpAny_isInstance (T := "StopIteration") (b := true) ⟨o, ho, hc⟩ isSubtype_stop ?_)
  exact wpAny_pure (hQ _ he')
theorem turn_enumL {P : Program} {w : World} {K : PySem.W.Frag} {elts : List Expr} {kk : Nat} {tpos : Pos} (a e it : Addr) (c : Int) :
    Turn P w K (.Tuple elts kk tpos) (ItS (SqL K) c a) [e, it] e (fun i h => (∃ old, IsEnum h e it (c + ((i : Nat) : Int)) old) ∧ h.IsListIter it a i ∧ e ≠ it) where
  mem := by simp
  obj := fun i h st b hb => by
    obtain ⟨⟨old, he⟩, ⟨o, ho, hc, hd⟩, _⟩ := st
    have e' : b = e ∨ b = it := by simpa using hb
    rcases e' with z | z
    · rw [z]; exact ⟨_, he, fun v q => nomatch q⟩
    · rw [z]; exact ⟨o, ho, fun v q => by rw [hd] at q; cases q⟩
  keep := fun i h h' st k => let ⟨⟨old, he⟩, hi, hne⟩ := st; ⟨⟨old, k e (by simp) _ he⟩, hi.at fun o q => k it (by simp) o q, hne⟩
  item := by
    intro X hP hw hK hc i pins s σ H E I hf st hg
    subst hP hw hK
    obtain ⟨⟨old, he⟩, hit, hne⟩ := st
    obtain ⟨xs, x, hq, hx⟩ := hg
    obtain ⟨its, rv, p, hz⟩ := I.list hq
    obtain ⟨u, hu, ru⟩ := rv.get hx
    have hel : e < s.heap.objs.size := Heap.lt_size he
    have hil : it < s.heap.objs.size := by obtain ⟨_, q, _⟩ := hit; exact Heap.lt_size q
    have p' : s.heap.IsList a its.toArray := p.isList
    have hai : a ≠ it := fun z => by
      obtain ⟨o1, e1, c1, _⟩ := hit
      obtain ⟨o2, e2, c2, _⟩ := p'
      rw [z, e1] at e2
      cases e2
      rw [c1] at c2
      injection c2 with z2
      exact absurd z2 (by decide)
    have hea : e ≠ a := fun z => by
      obtain ⟨o2, e2, c2, _⟩ := p'
      rw [← z, he] at e2
      cases e2
      injection c2 with z2
      exact absurd z2 (by decide)
    have hi : i < its.toArray.size := by
      obtain ⟨z, _⟩ := List.getElem?_eq_some_iff.mp hu
      simpa using z
    refine wpAny_pyNext_enum_itemC (Draws.list (A := X.A.in1) (show X.A.in1.handled = none from I.ok.hd hc) it a hai its.toArray) he ⟨hit, p'⟩ hi hne (by simp [hne, hea]) fun x2 h' tk hx2 ho hit' hT hsz hk => ?_
    have hxu : x2 = u := by
      have z : its.toArray[i]? = some u := by simpa using hu
      rw [z] at hx2
      exact (Option.some.inj hx2).symm
    subst hxu
    refine ⟨_, rfl, wpAny_letOwnedTupleGo_enum (s := { s with heap := h', toks := tk + 1 }) ho fun h'' he' sb => ?_⟩
    have hT2 : h''.get? s.heap.objs.size = some { cls := .type "tuple", data := .seq #[.int (c + (i : Nat)) tk, x2] } := (sb.2 _ (Nat.ne_of_gt hel)).trans hT
    have new : ObjOk X.prog X.w (upd H s.heap.objs.size (.tup [.int (c + (i : Nat)), x])) h'' s.heap.objs.size (.tup [.int (c + (i : Nat)), x]) :=
      ⟨by show 2 ≤ sizeLine; decide, [.int (c + (i : Nat)) tk, x2], .cons ⟨_, rfl⟩ (.cons ru .nil), ⟨_, hT2, rfl, _, rfl⟩⟩
    have I1 : Inv X pins σ (upd H s.heap.objs.size (.tup [.int (c + (i : Nat)), x])) { s with heap := h'', toks := tk + 1 } :=
      I.turnedNew (ch := [e, it]) (fun b ob hb q => (sb.2 b (fun z => hb (by simp [z]))).trans (hk b ob (fun z => hb (by simp [z])) (fun z => hb (by simp [z])) q)) hf (Nat.le_refl _) new
    refine ⟨.ref s.heap.objs.size, _, I1, rfl, ⟨_, x, rfl, I.hok.fresh (Nat.le_refl _), rfl, fun ys hy => by rw [I.list_inj hy hq]; exact hx⟩, ⟨⟨x2, ?_⟩, hit'.1.at fun o q => (sb.2 it (Ne.symm hne)).trans q, hne⟩, fun b hb => ?_⟩
    · have e1 : c + ((i + 1 : Nat) : Int) = c + (i : Int) + 1 := by omega
      rw [e1]; exact he'
    · have hb' : b < s.heap.objs.size := by
        have e' : b = e ∨ b = it := by simpa using hb
        rcases e' with z | z
        · rw [z]; exact hel
        · rw [z]; exact hil
      rw [upd_ne (Nat.ne_of_lt hb')]
      exact (hf b hb).1
  done := by
    intro X hP hw hK hc i pins s σ H E I hf st hg
    subst hP hw hK
    obtain ⟨⟨old, he⟩, hit, hne⟩ := st
    obtain ⟨xs, hq, hx⟩ := hg
    obtain ⟨its, rv, p, hz⟩ := I.list hq
    obtain ⟨f0, f1, f2, f3, f4, f5⟩ := hf it (by simp)
    have p' : s.heap.IsList a its.toArray := p.isList
    have hai : a ≠ it := fun z => by
      obtain ⟨o1, e1, c1, _⟩ := hit
      obtain ⟨o2, e2, c2, _⟩ := p'
      rw [z, e1] at e2
      cases e2
      rw [c1] at c2
      injection c2 with z2
      exact absurd z2 (by decide)
    exact enum_endL (I.ok.hd hc) hai he hit p' (by have hl := rv.length; simp; omega) fun h' eb => ⟨rfl, I.turned (t' := s.toks) (fun b o hb q => eb b o hb q) f0 f1 f3 f4 f5⟩
  self := fun A i s Q E st h => let ⟨⟨_, he⟩, _⟩ := st; wpAny_pyIter_enum he h
theorem enum_endT {e it l : Addr} {P : Program} {w : World} {A : Around} {E : Value → Shared → Prop} {s : Shared} {i : Nat} {c : Int} {items : Array Value} {old : Value} {Q : Option Value → Shared → Prop} (hh : A.handled = none) (hne : l ≠ it)
    (he : IsEnum s.heap e it c old) (hit : s.heap.IsTupleIter it l i) (hl : s.heap.IsTuple l items) (hx : items[i]? = none)
    (hQ : ∀ h', Heap.ExtBut it s.heap h' → Q none { s with heap := h' }) : wpAny (model P w) A (pyNext (.ref e)) Q E s := by
  have hTy : s.TypeIs (.ref e) "enumerate" := ⟨_, he, rfl⟩
  unfold pyNext
  refine wpAny_bind (wpAny_attempt (wpAny_callSpecial?_slot (name := Str.ofString "__next__") hTy F.slot_enumerate_next
    (wpAny_call_entry F.slot_enumerate_next hTy F.entry_enumerate_next ?_ (F.args_enumerate_next_1 _))))
  show wpAny _ _ (field (.ref e) 2 >>= _) _ _ _
  refine wpAny_bind (wpAny_field he rfl (x := .ref it) rfl ?_)
  refine wpAny_bind (wpAny_nextOf_tuple_end hh hit hl hx fun h' x he' hx' => ?_)
  obtain ⟨o, ho, hc⟩ := hx'
  refine wpAny_bind (wpAny_isInstance (T := "StopIteration") (b := true) ⟨o, ho, hc⟩ isSubtype_stop ?_)
  exact wpAny_pure (hQ _ he')
theorem turn_enumT {P : Program} {w : World} {K : PySem.W.Frag} {elts : List Expr} {kk : Nat} {tpos : Pos} (a e it : Addr) (c : Int) :
    Turn P w K (.Tuple elts kk tpos) (ItS (SqT K) c a) [e, it] e (fun i h => (∃ old, IsEnum h e it (c + ((i : Nat) : Int)) old) ∧ h.IsTupleIter it a i ∧ e ≠ it) where
  mem := by simp
  obj := fun i h st b hb => by
    obtain ⟨⟨old, he⟩, ⟨o, ho, hc, hd⟩, _⟩ := st
    have e' : b = e ∨ b = it := by simpa using hb
    rcases e' with z | z
    · rw [z]; exact ⟨_, he, fun v q => nomatch q⟩
    · rw [z]; exact ⟨o, ho, fun v q => by rw [hd] at q; cases q⟩
  keep := fun i h h' st k => let ⟨⟨old, he⟩, hi, hne⟩ := st; ⟨⟨old, k e (by simp) _ he⟩, hi.at fun o q => k it (by simp) o q, hne⟩
  item := by
    intro X hP hw hK hc i pins s σ H E I hf st hg
    subst hP hw hK
    obtain ⟨⟨old, he⟩, hit, hne⟩ := st
    obtain ⟨xs, x, hq, hx⟩ := hg
    obtain ⟨its, rv, p, hz⟩ := I.tuple hq
    obtain ⟨u, hu, ru⟩ := rv.get hx
    have hel : e < s.heap.objs.size := Heap.lt_size he
    have hil : it < s.heap.objs.size := by obtain ⟨_, q, _⟩ := hit; exact Heap.lt_size q
    have p' : s.heap.IsTuple a its.toArray := p
    have hai : a ≠ it := fun z => by
      obtain ⟨o1, e1, c1, _⟩ := hit
      obtain ⟨o2, e2, c2, _⟩ := p'
      rw [z, e1] at e2
      cases e2
      rw [c1] at c2
      injection c2 with z2
      exact absurd z2 (by decide)
    have hea : e ≠ a := fun z => by
      obtain ⟨o2, e2, c2, _⟩ := p'
      rw [← z, he] at e2
      cases e2
      injection c2 with z2
      exact absurd z2 (by decide)
    have hi : i < its.toArray.size := by
      obtain ⟨z, _⟩ := List.getElem?_eq_some_iff.mp hu
      simpa using z
    refine wpAny_pyNext_enum_itemC (Draws.tuple (A := X.A.in1) (show X.A.in1.handled = none from I.ok.hd hc) it a hai its.toArray) he ⟨hit, p'⟩ hi hne (by simp [hne, hea]) fun x2 h' tk hx2 ho hit' hT hsz hk => ?_
    have hxu : x2 = u := by
      have z : its.toArray[i]? = some u := by simpa using hu
      rw [z] at hx2
      exact (Option.some.inj hx2).symm
    subst hxu
    refine ⟨_, rfl, wpAny_letOwnedTupleGo_enum (s := { s with heap := h', toks := tk + 1 }) ho fun h'' he' sb => ?_⟩
    have hT2 : h''.get? s.heap.objs.size = some { cls := .type "tuple", data := .seq #[.int (c + (i : Nat)) tk, x2] } := (sb.2 _ (Nat.ne_of_gt hel)).trans hT
    have new : ObjOk X.prog X.w (upd H s.heap.objs.size (.tup [.int (c + (i : Nat)), x])) h'' s.heap.objs.size (.tup [.int (c + (i : Nat)), x]) :=
      ⟨by show 2 ≤ sizeLine; decide, [.int (c + (i : Nat)) tk, x2], .cons ⟨_, rfl⟩ (.cons ru .nil), ⟨_, hT2, rfl, _, rfl⟩⟩
    have I1 : Inv X pins σ (upd H s.heap.objs.size (.tup [.int (c + (i : Nat)), x])) { s with heap := h'', toks := tk + 1 } :=
      I.turnedNew (ch := [e, it]) (fun b ob hb q => (sb.2 b (fun z => hb (by simp [z]))).trans (hk b ob (fun z => hb (by simp [z])) (fun z => hb (by simp [z])) q)) hf (Nat.le_refl _) new
    refine ⟨.ref s.heap.objs.size, _, I1, rfl, ⟨_, x, rfl, I.hok.fresh (Nat.le_refl _), rfl, fun ys hy => by rw [I.tuple_inj hy hq]; exact hx⟩, ⟨⟨x2, ?_⟩, hit'.1.at fun o q => (sb.2 it (Ne.symm hne)).trans q, hne⟩, fun b hb => ?_⟩
    · have e1 : c + ((i + 1 : Nat) : Int) = c + (i : Int) + 1 := by omega
      rw [e1]; exact he'
    · have hb' : b < s.heap.objs.size := by
        have e' : b = e ∨ b = it := by simpa using hb
        rcases e' with z | z
        · rw [z]; exact hel
        · rw [z]; exact hil
      rw [upd_ne (Nat.ne_of_lt hb')]
      exact (hf b hb).1
  done := by
    intro X hP hw hK hc i pins s σ H E I hf st hg
    subst hP hw hK
    obtain ⟨⟨old, he⟩, hit, hne⟩ := st
    obtain ⟨xs, hq, hx⟩ := hg
    obtain ⟨its, rv, p, hz⟩ := I.tuple hq
    obtain ⟨f0, f1, f2, f3, f4, f5⟩ := hf it (by simp)
    have p' : s.heap.IsTuple a its.toArray := p
    have hai : a ≠ it := fun z => by
      obtain ⟨o1, e1, c1, _⟩ := hit
      obtain ⟨o2, e2, c2, _⟩ := p'
      rw [z, e1] at e2
      cases e2
      rw [c1] at c2
      injection c2 with z2
      exact absurd z2 (by decide)
    exact enum_endT (I.ok.hd hc) hai he hit p' (by have hl := rv.length; simp; omega) fun h' eb => ⟨rfl, I.turned (t' := s.toks) (fun b o hb q => eb b o hb q) f0 f1 f3 f4 f5⟩
  self := fun A i s Q E st h => let ⟨⟨_, he⟩, _⟩ := st; wpAny_pyIter_enum he h
theorem callWith_typeKw {M : Model} {A : Around} {E : Value → Shared → Prop} {s : Shared} {env : Env} {pos : Pos} {T : String} {e : Expr} {rest : List Expr} {kws : List Keyword} {Q : Value → Shared → Prop}
    (h : wpAny M A (spliced (backTo pos (starEach (e :: rest) env))) (fun vs s₁ => wpAny M A (evalAll ((backToKw pos (keywordEach kws env)).map (·.2)))
      (fun kvs s₂ => wpAny M A (call (.type T) vs (((backToKw pos (keywordEach kws env)).filterMap (·.1)).zip kvs)) Q E s₂) E s₁) E s)
    (he : backTo pos (starEach (e :: rest) env) = (false, eval e env) :: backTo pos (starEach rest env) := by rfl)
    (hplain : (backTo pos (starEach (e :: rest) env)).any (·.1) = false := by rfl)
    (hall : (backToKw pos (keywordEach kws env)).all (·.1.isSome) = true := by rfl)
    (hkw : (backToKw pos (keywordEach kws env)).any (·.1.isNone) = false := by rfl) :
    wpAny M A (callWith pos (.type T) [] (backTo pos (starEach (e :: rest) env)) (backToKw pos (keywordEach kws env))) Q E s := by
  unfold callWith
  refine wpAny_bind (wpAny_holding (wpAny_mono (Q := fun a s₁ => wpAny M A (call (.type T) ([] ++ a.pos) a.kw) Q E s₁) ?_ (fun a s₁ h₁ => wpAny_bind (wpAny_standAt ?_)) fun _ _ x => x))
  · rw [he] at h ⊢
    exact evalArgs_kwB hall h
  · simp only [hplain, hkw, Bool.or_false]
    refine wpAny_bind (wpAny_pure ?_)
    exact wpAny_bind (wpAny_mono h₁ (fun r s₂ hr => wpAny_bind (wpAny_holding (wpAny_point (wpAny_pure hr)))) fun _ _ x => x)
/-- a list or a tuple at a -/
def SqU (K : PySem.W.Frag) (H : Hp) (a : Addr) (xs : List V) : Prop := SqL K H a xs ∨ SqT K H a xs
def iEnumS (K : PySem.W.Frag) (ta : TA) (ts : TE) : TI := fun σ H R => ta σ H fun vs H1 => ∃ a xs, vs = [.ref a] ∧ ts σ H1 fun v H2 => ∃ c : Int, v = .int c ∧ -(2 ^ 63) ≤ c ∧ c < 2 ^ 63 ∧ ((SqL K H2 a xs ∧ R (ItS (SqL K) c a) H2) ∨ (SqT K H2 a xs ∧ R (ItS (SqT K) c a) H2))
theorem pi_enumS {X : Cx} {e es : Expr} {ta : TA} {ts : TE} {p pos tpos kp : Pos} {elts : List Expr} {kk : Nat} (hg : Gl X "enumerate") (hm : X.mg "enumerate" = none) (ha : PA X [e] ta) (hst : PE X es ts) (hs : starEach [e] X.env = [(false, eval e X.env)] := by rfl) :
    PI X (.Tuple elts kk tpos) (.Call (.Name "enumerate" p) [e] [⟨some "start", es, kp⟩] pos) (iEnumS X.K ta ts) := by
  refine ⟨fun pins s σ H R I h => ?_⟩
  refine wpAny_bind (ld_blt I hg hm boot_enumerate (callWith_typeKw (thn (ha.run pos pins s σ H _ I h) fun us s1 ⟨vs, H1, I1, r1, q1⟩ => ?_) (by rw [hs]; rfl) (by rw [hs]; rfl)))
  obtain ⟨a, xs, ex, q⟩ := q1
  subst ex
  refine kws_cons (thn (hst.run pins s1 σ H1 _ I1 q) fun u s2 ⟨v, H2, I2, r2, c, ev, c0, c1, q2⟩ => evalAll_nil ?_)
  subst ev
  obtain ⟨tk, rfl⟩ : ∃ tk, u = .int c tk := r2
  cases r1 with
  | cons r rr =>
    cases rr
    cases r
    rcases q2 with ⟨hq, q⟩ | ⟨hq, q⟩
    · obtain ⟨its, rv, p', hz⟩ := I2.list hq
      refine enum_begins_start (begins_list a its.toArray) p'.isList c0 c1 fun h' he hit hsz hk => wpAny_pyIter_enum he ?_
      have I3 : Inv X pins σ H2 { s2 with heap := h' } := I2.kept (t' := s2.toks) hk
      refine ⟨s2.heap.objs.size + 1, [s2.heap.objs.size + 1, s2.heap.objs.size], _, _, H2, rfl, I3, turn_enumL a (s2.heap.objs.size + 1) s2.heap.objs.size c, ⟨⟨.none, by rw [show c + ((0 : Nat) : Int) = c by omega]; exact he⟩, ⟨_, hit, rfl, rfl⟩, Nat.succ_ne_self _⟩, fun b hb => ?_, q⟩
      have e' : b = s2.heap.objs.size + 1 ∨ b = s2.heap.objs.size := by simpa using hb
      have hle : s2.heap.objs.size ≤ b := by
        rcases e' with z | z
        · rw [z]; exact Nat.le_add_right _ _
        · rw [z]; exact Nat.le_refl _
      exact I2.fpOk hle (I2.hok.fresh hle)
    · obtain ⟨its, rv, p', hz⟩ := I2.tuple hq
      refine enum_begins_start (begins_tuple a its.toArray) (show s2.heap.IsTuple a its.toArray from p') c0 c1 fun h' he hit hsz hk => wpAny_pyIter_enum he ?_
      have I3 : Inv X pins σ H2 { s2 with heap := h' } := I2.kept (t' := s2.toks) hk
      refine ⟨s2.heap.objs.size + 1, [s2.heap.objs.size + 1, s2.heap.objs.size], _, _, H2, rfl, I3, turn_enumT a (s2.heap.objs.size + 1) s2.heap.objs.size c, ⟨⟨.none, by rw [show c + ((0 : Nat) : Int) = c by omega]; exact he⟩, ⟨_, hit, rfl, rfl⟩, Nat.succ_ne_self _⟩, fun b hb => ?_, q⟩
      have e' : b = s2.heap.objs.size + 1 ∨ b = s2.heap.objs.size := by simpa using hb
      have hle : s2.heap.objs.size ≤ b := by
        rcases e' with z | z
        · rw [z]; exact Nat.le_add_right _ _
        · rw [z]; exact Nat.le_refl _
      exact I2.fpOk hle (I2.hok.fresh hle)
theorem walk_enumS {S : Hp → Addr → List V → Prop} {c : Int} {a : Addr} {xs : List V} : Walk (ItS S c a) xs.length (fun H => S H a xs) (YPair (fun i => some (.int (c + (i : Nat)))) (fun i => xs[i]?)) := by
  refine ⟨fun i _ hi q => ⟨xs, xs[i], q, by simp [hi]⟩, fun _ q => ⟨xs, q, Nat.le_refl _⟩, fun i H v H' _ q y => ?_⟩
  obtain ⟨T, x, h1, h2, h3, h4⟩ := y
  exact ⟨T, .int (c + (i : Nat)), x, h1, h2, h3, rfl, h4 xs q⟩
end My

set_option Elab.async false
set_option linter.all false
set_option maxRecDepth 100000
/-! enumerate(xs) over a list or a tuple -/
namespace My
open PySem PySem.Spec PyProof.Rows L2
set_option maxHeartbeats 1000000 in
theorem meets_enumerate_newB1 {v : Value} {o : Obj} {H : Heap → Prop} (B : Begins v o H) :
    Meets (Builtin.«enumerate.__new__» ⟨[.type "enumerate", v], []⟩) (fun _ R s => H s.heap ∧
      R (.ok (.ret (.ref (s.heap.push o).objs.size))) { s with heap := (s.heap.push o).push { cls := .type "enumerate", data := .fields #[.none, .bool false, .ref s.heap.objs.size, rawInt 0, .none, .none] } }) :=
  .of_wp fun prog w A R s h => by
    obtain ⟨hp, g, d, tk, os⟩ := s; obtain ⟨h1, h⟩ := h
    have hsub := sub_enumerate
    have q1 : ∀ {A' : Around} {E : Value → Shared → Prop} {Q : Value → Shared → Prop}, Q (.ref hp.objs.size) ⟨hp.push o, g, d, tk, os⟩ → wpAny (model prog w) A' (pyIter v) Q E ⟨hp, g, d, tk, os⟩ :=
      fun q => B.iter prog w _ _ ⟨hp, g, d, tk, os⟩ _ h1 q
    wp_walk using q1
    refine wpAny_stack_any fun st => wpAny_pure ?_
    split
    · rename_i c _ _ _ _ _
      cases (c == Value.type "enumerate")
      · wp_walk using q1
        exact ⟨_, rfl, h⟩
      · wp_walk using q1
        exact ⟨_, rfl, h⟩
    · wp_walk using q1
      exact ⟨_, rfl, h⟩
section
variable {prog : Program} {w : World} {A : Around} {E : Value → Shared → Prop} {s : Shared}
theorem enum_begins1 {v : Value} {o : Obj} {H : Heap → Prop} {Q : Value → Shared → Prop} (B : Begins v o H) (h1 : H s.heap)
    (h : ∀ h', IsEnum h' (s.heap.objs.size + 1) s.heap.objs.size 0 .none → h'.get? s.heap.objs.size = some o → h'.objs.size = s.heap.objs.size + 2 →
      (∀ b o, s.heap.get? b = some o → h'.get? b = some o) → Q (.ref (s.heap.objs.size + 1)) { s with heap := h' }) :
    wpAny (model prog w) A (call (.type "enumerate") [v]) Q E s := by
  refine callType_new F.called_enumerate (by decide) (F.typeCall_enumerate_1 _) (F.newCall_enumerate_1 _) (fun obj => F.args_object_init_2 obj _) F.entry_enumerate_new
    (meets_enumerate_newB1 B) ⟨h1, ?_⟩
  have hz : (s.heap.push o).objs.size = s.heap.objs.size + 1 := Heap.size_push ..
  show _ ∧ _
  rw [hz]
  have he : IsEnum ((s.heap.push o).push { cls := .type "enumerate", data := .fields #[.none, .bool false, .ref s.heap.objs.size, rawInt 0, .none, .none] }) (s.heap.objs.size + 1) s.heap.objs.size 0 .none := by
    have := Heap.get?_push_size (s.heap.push o) (o := { cls := .type "enumerate", data := .fields #[.none, .bool false, .ref s.heap.objs.size, rawInt 0, .none, .none] }) rfl
    rw [hz] at this; exact this
  refine ⟨⟨_, he, rfl⟩, h _ he (Heap.get?_push_of_some _ (Heap.get?_push_size _ B.free)) (by rw [Heap.size_push, hz]) fun b o x => Heap.get?_push_of_some _ (Heap.get?_push_of_some _ x)⟩
end
def iEnumU (K : PySem.W.Frag) (ta : TA) : TI := fun σ H R => ta σ H fun vs H2 => ∃ a xs, vs = [.ref a] ∧ ((SqL K H2 a xs ∧ R (ItS (SqL K) 0 a) H2) ∨ (SqT K H2 a xs ∧ R (ItS (SqT K) 0 a) H2))
theorem pi_enumU {X : Cx} {e : Expr} {ta : TA} {p pos tpos : Pos} {elts : List Expr} {kk : Nat} (hg : Gl X "enumerate") (hm : X.mg "enumerate" = none) (ha : PA X [e] ta) (hs : starEach [e] X.env = [(false, eval e X.env)] := by rfl) :
    PI X (.Tuple elts kk tpos) (.Call (.Name "enumerate" p) [e] [] pos) (iEnumU X.K ta) := by
  refine ⟨fun pins s σ H R I h => ?_⟩
  refine Call_ (ld_blt I hg hm boot_enumerate (PyProof.Rows.callWith_type1 (thn (ha.run pos pins s σ H _ I h) fun us s2 ⟨vs, H2, I2, r1, q1⟩ => ?_) hs rfl))
  obtain ⟨a, xs, ex, q2⟩ := q1
  subst ex
  cases r1 with
  | cons r rr =>
    cases rr
    cases r
    rcases q2 with ⟨hq, q⟩ | ⟨hq, q⟩
    · obtain ⟨its, rv, p', hz⟩ := I2.list hq
      refine enum_begins1 (begins_list a its.toArray) p'.isList fun h' he hit hsz hk => wpAny_pyIter_enum he ?_
      have I3 : Inv X pins σ H2 { s2 with heap := h' } := I2.kept (t' := s2.toks) hk
      refine ⟨s2.heap.objs.size + 1, [s2.heap.objs.size + 1, s2.heap.objs.size], _, _, H2, rfl, I3, turn_enumL a (s2.heap.objs.size + 1) s2.heap.objs.size 0, ⟨⟨.none, by rw [show (0 : Int) + ((0 : Nat) : Int) = 0 by omega]; exact he⟩, ⟨_, hit, rfl, rfl⟩, Nat.succ_ne_self _⟩, fun b hb => ?_, q⟩
      have e' : b = s2.heap.objs.size + 1 ∨ b = s2.heap.objs.size := by simpa using hb
      have hle : s2.heap.objs.size ≤ b := by
        rcases e' with z | z
        · rw [z]; exact Nat.le_add_right _ _
        · rw [z]; exact Nat.le_refl _
      exact I2.fpOk hle (I2.hok.fresh hle)
    · obtain ⟨its, rv, p', hz⟩ := I2.tuple hq
      refine enum_begins1 (begins_tuple a its.toArray) (show s2.heap.IsTuple a its.toArray from p') fun h' he hit hsz hk => wpAny_pyIter_enum he ?_
      have I3 : Inv X pins σ H2 { s2 with heap := h' } := I2.kept (t' := s2.toks) hk
      refine ⟨s2.heap.objs.size + 1, [s2.heap.objs.size + 1, s2.heap.objs.size], _, _, H2, rfl, I3, turn_enumT a (s2.heap.objs.size + 1) s2.heap.objs.size 0, ⟨⟨.none, by rw [show (0 : Int) + ((0 : Nat) : Int) = 0 by omega]; exact he⟩, ⟨_, hit, rfl, rfl⟩, Nat.succ_ne_self _⟩, fun b hb => ?_, q⟩
      have e' : b = s2.heap.objs.size + 1 ∨ b = s2.heap.objs.size := by simpa using hb
      have hle : s2.heap.objs.size ≤ b := by
        rcases e' with z | z
        · rw [z]; exact Nat.le_add_right _ _
        · rw [z]; exact Nat.le_refl _
      exact I2.fpOk hle (I2.hok.fresh hle)
end My

set_option Elab.async false
set_option linter.all false
set_option maxRecDepth 100000
namespace My
open PySem PySem.Spec PyProof.Rows L2 SX LamX NdefX
abbrev txV (l : List Nat) : V := .str (S l)
theorem line_of {n : Nat} (h : n ≤ 10000) : n ≤ sizeLine := Nat.le_trans h (by decide +kernel)
theorem small1000' {n : Nat} (h : n ≤ 10000) : n < sizeLine := Nat.lt_of_le_of_lt h (by decide)
theorem mul_left {a c : Int} (h : Builtin.Int.intBits a ≤ 64) : IntMulOk a c := IntMulOk.of_left h
theorem same_updF {H H' : Hp} {p : Addr} {o : HO} (np : H p = none) (s : Same H H') : Same H (upd H' p o) := fun b x e => by
  rw [upd_ne (ne_of_none e np)]
  exact s b x e
theorem log10 {n : Nat} (h : n < 10 ^ 10) : n.log2 < 1920 := by
  have h2 : n < 2 ^ 34 := by omega
  cases n with
  | zero => decide
  | succ m => exact Nat.lt_trans ((Nat.log2_lt (by omega)).mpr h2) (by decide)
theorem S_eta (z : Str) : z = S z.cps.toList := by
  cases z
  simp [S]
abbrev sLawNames : Stmt := topS 25
theorem scLawNames : FnScope ["bag", "many", "letters", "stem", "k", "spot", "first", "tail"] ["bag", "many"] (defScope sLawNames) := ⟨rfl, rfl, rfl, by decide +kernel, rfl, by decide +kernel, by decide +kernel⟩
theorem op_mulS {X : Cx} : OpR X (binaryOp .Mult) (fun x y H Q => ∃ z n, x = .str z ∧ y = .int n ∧ MulOk z n ∧ Q (.str (Txt.mul z n)) H) := by
  intro pins s σ H x y v u Q I rx ry h
  obtain ⟨i, j, rfl, rfl, hz, q⟩ := h
  obtain ⟨t, rfl⟩ := rx
  obtain ⟨t', rfl⟩ := ry
  exact SB.mul hz (fun t' tk => ⟨.str (Txt.mul i j), H, I.tok _, ⟨_, rfl⟩, q⟩)
theorem BagC.ne {K : PySem.W.Frag} {H : Hp} {b c p : Addr} {ns : List Int} (B : BagC K H b c ns) (h : H p = none) : p ≠ b := by
  obtain ⟨i, g, x, n, B⟩ := B
  exact (ne_of_none B.ob h).symm
theorem BagC.fresh {K : PySem.W.Frag} {H : Hp} {b c p : Addr} {ns : List Int} {o : HO} (B : BagC K H b c ns) (h : H p = none) : BagC K (L2.upd H p o) b c ns := B.same (same_upd h)
theorem But.none {b : Addr} {H H' : Hp} {p : Addr} (t : But b H H') (n : p ≠ b) (h : H' p = none) : H p = none := by
  cases e : H p with
  | none => rfl
  | some o => rw [t _ _ n e] at h; cases h
/-- a name: one to eight small letters -/
structure Nm (l : List Nat) : Prop where
  ne : l ≠ []
  le : l.length ≤ 8
  lo : ∀ c ∈ l, 97 ≤ c ∧ c ≤ 122
/-- the k-th name drawn -/
def nmK (st : List Nat) (so fi : Nat) (tl : List Nat) (k : Nat) : List Nat := st.take so ++ [97 + (fi + 7 * k) % 26] ++ st.drop so ++ (List.replicate (k / 2) tl).flatten
def LowL (l : List Nat) : Prop := ∀ c ∈ l, 97 ≤ c ∧ c ≤ 122
theorem flat_rep : ∀ (n : Nat) (tl : List Nat), (List.replicate n tl).flatten.length = n * tl.length
  | 0, _ => by simp
  | n + 1, tl => by rw [List.replicate_succ, List.flatten_cons, List.length_append, flat_rep n, Nat.succ_mul, Nat.add_comm]
theorem flat_lo : ∀ (n : Nat) (tl : List Nat), LowL tl → LowL (List.replicate n tl).flatten
  | 0, _, _ => fun c hc => by simp at hc
  | n + 1, tl, h => fun c hc => by
    rw [List.replicate_succ, List.flatten_cons] at hc
    exact (List.mem_append.mp hc).elim (h c) (flat_lo n tl h c)
theorem nmK_len {st : List Nat} {so fi : Nat} {tl : List Nat} {k : Nat} : (nmK st so fi tl k).length = st.length + 1 + k / 2 * tl.length := by
  unfold nmK
  rw [List.length_append, List.length_append, List.length_append, flat_rep, List.length_take, List.length_drop, List.length_singleton]
  omega
theorem nmK_ok {st : List Nat} {so fi : Nat} {tl : List Nat} {k : Nat} (h1 : st.length ≤ 7) (h2 : tl.length ≤ 1) (h3 : st ≠ [] → tl = []) (hk : k < 8) (l1 : LowL st) (l2 : LowL tl) : Nm (nmK st so fi tl k) := by
  refine ⟨fun e => ?_, ?_, fun c hc => ?_⟩
  · have := congrArg List.length e
    rw [nmK_len] at this
    simp at this
  · rw [nmK_len]
    by_cases hs : st = []
    · subst hs
      have : k / 2 * tl.length ≤ 3 * 1 := Nat.mul_le_mul (by omega) h2
      simp only [List.length_nil]
      omega
    · rw [h3 hs]
      simp only [List.length_nil]
      omega
  · unfold nmK at hc
    rcases List.mem_append.mp hc with hc | hc
    · rcases List.mem_append.mp hc with hc | hc
      · rcases List.mem_append.mp hc with hc | hc
        · exact l1 c (List.mem_of_mem_take hc)
        · rw [List.mem_singleton.mp hc]
          omega
      · exact l1 c (List.mem_of_mem_drop hc)
    · exact flat_lo _ _ l2 c hc
theorem nmK_inj {st : List Nat} {so fi : Nat} {tl : List Nat} {k k' : Nat} (hs : so ≤ st.length) (hk : k < 8) (hk' : k' < 8) (h : nmK st so fi tl k = nmK st so fi tl k') : k = k' := by
  have e : ∀ j, (nmK st so fi tl j)[so]? = some (97 + (fi + 7 * j) % 26) := fun j => by
    unfold nmK
    have l : (st.take so).length = so := by rw [List.length_take]; omega
    rw [List.append_assoc, List.append_assoc, List.getElem?_append_right (by omega), l, Nat.sub_self]
    rfl
  have := (e k).symm.trans ((congrArg (·[so]?) h).trans (e k'))
  have := Option.some.inj this
  omega
def nms (st : List Nat) (so fi : Nat) (tl : List Nat) (n : Nat) : List (List Nat) := (List.range n).map (nmK st so fi tl)
structure Names (l : List (List Nat)) : Prop where
  ok : ∀ n ∈ l, Nm n
  nd : l.Nodup
theorem nms_ok {st : List Nat} {so fi : Nat} {tl : List Nat} {n : Nat} (hs : so ≤ st.length) (h1 : st.length ≤ 7) (h2 : tl.length ≤ 1) (h3 : st ≠ [] → tl = []) (hn : n ≤ 8) (l1 : LowL st) (l2 : LowL tl) : Names (nms st so fi tl n) := by
  refine ⟨fun l hl => ?_, ?_⟩
  · obtain ⟨k, hk, rfl⟩ := List.mem_map.mp hl
    exact nmK_ok h1 h2 h3 (by have := List.mem_range.mp hk; omega) l1 l2
  · unfold nms
    rw [List.nodup_iff_pairwise_ne, List.pairwise_map]
    refine List.Pairwise.imp_of_mem ?_ (List.nodup_iff_pairwise_ne.mp List.nodup_range)
    intro a b ha hb hne e
    exact hne (nmK_inj hs (by have := List.mem_range.mp ha; omega) (by have := List.mem_range.mp hb; omega) e)
def LET : List Nat := (Str.ofString "abcdefghijklmnopqrstuvwxyz").cps.toList
theorem let_len : LET.length = 26 := by decide +kernel
theorem let_lo : ∀ c ∈ LET, 97 ≤ c ∧ c ≤ 122 := by decide +kernel
theorem let_at : ∀ i < 26, LET[i]? = some (97 + i) := by decide +kernel
theorem mulE {tl : List Nat} (h : tl.length ≤ 1) (n : Nat) : Txt.mul (S tl) (n : Int) = S (List.replicate n tl).flatten := by
  match tl, h with
  | [], _ =>
    have l : (Txt.mul (S []) (n : Int)).length = 0 := by
      have h := len_mul (S []) (n : Int)
      rw [show ((S []).length : Int) = 0 from rfl, Int.zero_mul] at h
      exact Int.ofNat_eq_zero.mp h
    have e : (List.replicate n ([] : List Nat)).flatten = [] := by simp
    rw [e, ← S_tl (Txt.mul (S []) (n : Int))]
    congr 1
    exact List.length_eq_zero_iff.mp (by simpa [Str.length] using l)
  | [c], _ =>
    have e : (List.replicate n [c]).flatten = List.replicate n c := by
      induction n with
      | zero => rfl
      | succ n ih => rw [List.replicate_succ, List.flatten_cons, ih]; rfl
    rw [e, ← S_tl (Txt.mul (S [c]) (n : Int))]
    congr 1
    have := mul_one_list c (n : Int)
    rw [show S [c] = (⟨#[c]⟩ : Str) from rfl, this, Int.toNat_natCast]
theorem mulOk3 {tl : List Nat} (h : tl.length ≤ 1) {n : Nat} (hn : n ≤ 3) : MulOk (S tl) (n : Int) := by
  unfold MulOk
  rw [S_len]
  have h1 : tl.length = 0 ∨ tl.length = 1 := by omega
  have h2 : n = 0 ∨ n = 1 ∨ n = 2 ∨ n = 3 := by omega
  rcases h1 with e | e <;> rcases h2 with rfl | rfl | rfl | rfl <;> rw [e] <;> decide
theorem one_lo {x : Nat} (h : x ∈ LET) : [x].length = 1 ∧ LowL [x] := ⟨rfl, fun c hc => by rw [List.mem_singleton.mp hc]; exact let_lo x h⟩
theorem flat_one {ls : List (List Nat)} (h : ∀ l ∈ ls, l.length = 1 ∧ LowL l) : ls.flatten.length = ls.length ∧ LowL ls.flatten := by
  induction ls with
  | nil => exact ⟨rfl, fun c hc => absurd hc (by simp)⟩
  | cons a ls ih =>
    obtain ⟨h1, h2⟩ := ih fun l hl => h l (List.mem_cons_of_mem _ hl)
    obtain ⟨h3, h4⟩ := h a List.mem_cons_self
    exact ⟨by rw [List.flatten_cons, List.length_append, h1, h3, List.length_cons]; omega, by rw [List.flatten_cons]; exact fun c hc => (List.mem_append.mp hc).elim (h4 c) (h2 c)⟩
theorem sum_len {ls : List (List Nat)} (h : ∀ l ∈ ls, l.length = 1 ∧ LowL l) : ((ls.map S).map (·.length)).sum = ls.length := by
  induction ls with
  | nil => rfl
  | cons a ls ih =>
    rw [List.map_cons, List.map_cons, List.sum_cons, ih fun l hl => h l (List.mem_cons_of_mem _ hl), S_len, (h a List.mem_cons_self).1, List.length_cons]
    omega
theorem joinE (ls : List (List Nat)) : Txt.join (Str.ofString "") (ls.map S) = S ls.flatten := by
  rw [show (Str.ofString "") = S [] from rfl, join_S]
  congr 1
  induction ls with
  | nil => rfl
  | cons p r ih =>
    cases r with
    | nil => show p = _; simp
    | cons q r => show p ++ ([] ++ TL.joinL [] (q :: r)) = _; rw [ih]; simp
def spOfC (K : PySem.W.Frag) : Sp := fun vs H Q _ => ∃ (b a : Addr) (xs : List V) (c : Addr) (ns : List Int), vs = [.ref b, .ref a] ∧ BagC K H b c ns ∧ a ≠ b ∧ SqL K H a xs ∧ 0 < xs.length ∧ xs.length < 1000 ∧ ∀ v H', v ∈ xs → BagC K H' b c ns → But b H H' → Q v H'
def spOfSC (K : PySem.W.Frag) : Sp := fun vs H Q _ => ∃ (b : Addr) (l : List Nat) (c : Addr) (ns : List Int), vs = [.ref b, .str (S l)] ∧ BagC K H b c ns ∧ 0 < l.length ∧ l.length < 1000 ∧ ∀ x H', x ∈ l → BagC K H' b c ns → But b H H' → Q (.str (S [x])) H'
def spNames (K : PySem.W.Frag) : Sp := fun vs H Q _ => ∃ (b c : Addr) (ns : List Int) (n : Nat), vs = [.ref b, .int n] ∧ n ≤ 8 ∧ BagC K H b c ns ∧ ∀ r H' (l : List (List Nat)), H r = none → BagC K H' b c ns → But b H H' → H' r = some (.lst (l.map txV)) → Names l → l.length = n → Q (.ref r) H'
section
variable {P : Program} {w : World} {K : PySem.W.Frag} {mg : Str → Option Value} {base : Heap}
theorem ok_ofC {f fD : Addr} {fd fdD : FuncData} {k : Nat} (F : Fun K "_law_of" "_law_of" sLawOf f fd) (D : Cal P w K mg base "_law_pull" (k + 1) ["bag", "many"] (spDrawC K) fD fdD) (b_len : mg "len" = none) : FnOk P w K mg base CX0 (k + 2) f fd ["bag", "some"] (spOfC K) := by
  refine F.ok scLawOf (fun vs H Q E h => ?_) (fun cdv A outer s H vs Q E hr h => ?_)
  · obtain ⟨b, a, xs, c, ns, rfl, _⟩ := h
    rfl
  · obtain ⟨b, a, xs, c, ns, rfl, B, n, hs, h0, h1, q⟩ := h
    refine ⟨_, (pss_one (ps_ret (pe_ix ix_list (pv 1) (pe_call D.ok hr rfl D.g D.kp D.b .nil pass0 (pa_cons (pv 0) (pa_cons (pe_callB call_len rfl b_len (by decide +kernel) (pa_cons (pv 1) pa_nil)) pa_nil))) (fun _ _ => rfl)))), ?_⟩
    refine ⟨_, rfl, _, rfl, _, rfl, _, _, rfl, .inl ⟨_, hs, rfl⟩, b, _, c, ns, rfl, B, by omega, by omega, fun r H' r0 r1 B' t => ?_⟩
    obtain ⟨j, rfl⟩ : ∃ j : Nat, r = (j : Int) := ⟨r.toNat, by omega⟩
    have hj : j < xs.length := by omega
    exact ⟨a, _, _, xs[j], rfl, rfl, t.seq n hs, atI_nat (List.getElem?_eq_getElem hj), q _ H' (List.getElem_mem hj) B' t⟩
theorem ok_ofSC {f fD : Addr} {fd fdD : FuncData} {k : Nat} (F : Fun K "_law_of" "_law_of" sLawOf f fd) (D : Cal P w K mg base "_law_pull" (k + 1) ["bag", "many"] (spDrawC K) fD fdD) (b_len : mg "len" = none) : FnOk P w K mg base CX0 (k + 2) f fd ["bag", "some"] (spOfSC K) := by
  refine F.ok scLawOf (fun vs H Q E h => ?_) (fun cdv A outer s H vs Q E hr h => ?_)
  · obtain ⟨b, l, c, ns, rfl, _⟩ := h
    rfl
  · obtain ⟨b, l, c, ns, rfl, B, h0, h1, q⟩ := h
    refine ⟨_, (pss_one (ps_ret (pe_ix ix_str (pv 1) (pe_call D.ok hr rfl D.g D.kp D.b .nil pass0 (pa_cons (pv 0) (pa_cons (pe_callB call_len rfl b_len (by decide +kernel) (pa_cons (pv 1) pa_nil)) pa_nil))) (fun _ _ => rfl)))), ?_⟩
    have hz := S_len l
    refine ⟨_, rfl, _, rfl, _, rfl, _, _, rfl, ⟨line_of (by omega), rfl⟩, b, _, c, ns, rfl, B, by omega, by omega, fun r H' r0 r1 B' t => ?_⟩
    obtain ⟨j, rfl⟩ : ∃ j : Nat, r = (j : Int) := ⟨r.toNat, by omega⟩
    have hj : j < l.length := by omega
    exact ⟨_, _, l[j], rfl, rfl, line_of (by omega), atI_nat (by simp [hj]), q _ H' (List.getElem_mem hj) B' t⟩
theorem ok_names {f fD fO fS : Addr} {fd fdD fdO fdS : FuncData} {k : Nat} (F : Fun K "_law_names" "_law_names" sLawNames f fd) (D : Cal P w K mg base "_law_pull" (k + 1) ["bag", "many"] (spDrawC K) fD fdD) (O : Cal P w K mg base "_law_of" (k + 2) ["bag", "some"] (spOfC K) fO fdO) (OS : Cal P w K mg base "_law_of" (k + 2) ["bag", "some"] (spOfSC K) fS fdS)
    (b_int : mg "int" = none) (b_range : mg "range" = none) (b_len : mg "len" = none) : FnOk P w K mg base CX0 (k + 3) f fd ["bag", "many"] (spNames K) := by
  refine F.ok scLawNames (fun vs H Q E h => ?_) (fun cdv A outer s H vs Q E hr h => ?_)
  · obtain ⟨b, c, ns, n, rfl, _⟩ := h
    rfl
  · obtain ⟨b, c, ns, N, rfl, hN, B, q⟩ := h
    refine ⟨_, (pss_cons (ps_set (i := 2) scLawNames.nd rfl (.inr rfl) pe_str)
      (pss_cons (ps_set (i := 3) scLawNames.nd rfl (.inr rfl) (pe_join pe_str (pe_lc (own := [("k", 4)]) (g := gName 4) (tt := tYes) rfl scLawNames.nd (pi_range1 rfl b_range (pa_cons (pe_call O.ok (hr.mono (by omega)) rfl O.g O.kp O.b .nil pass0 (pa_cons (pv 0) (pa_cons (pe_lst (pa_cons pe_int (pa_cons pe_int (pa_cons pe_int (pa_cons pe_int (pa_cons pe_int (pa_cons pe_int pa_nil))))))) pa_nil))) pa_nil)) (blkOk_by (own := [("k", 4)]) (N := ["bag", "many", "letters", "stem", "k", "spot", "first", "tail"]) (sc := defScope sLawNames) (by decide +kernel)) (fun _ _ _ _ _ => (pg_name (i := 4) scLawNames.nd rfl (.inl rfl) (.inr rfl))) (fun _ _ _ _ _ => pts_nil) (fun _ _ _ _ _ => (pe_call OS.ok (hr.mono (by omega)) rfl OS.g OS.kp OS.b .nil pass0 (pa_cons (pv 0) (pa_cons (pv 2) pa_nil)))))))
      (pss_cons (ps_asg (pe_tup (pa_cons (pe_call D.ok (hr.mono (by omega)) rfl D.g D.kp D.b .nil pass0 (pa_cons (pv 0) (pa_cons (pe_op op_add (pe_callB call_len rfl b_len (by decide +kernel) (pa_cons (pv 3) pa_nil)) pe_int) pa_nil))) (pa_cons (pe_call D.ok (hr.mono (by omega)) rfl D.g D.kp D.b .nil pass0 (pa_cons (pv 0) (pa_cons pe_int pa_nil))) pa_nil))) (pg_tup rfl (pgs_cons (pg_name (i := 5) scLawNames.nd rfl (.inr rfl)) (pgs_cons (pg_name (i := 6) scLawNames.nd rfl (.inr rfl)) pgs_nil))))
      (C8.pss_cut (ps_set (i := 7) scLawNames.nd rfl (.inr rfl) (pe_ifExp (PW.pt (pw_and (pt_cmpR op_eq (pe_callB call_len rfl b_len (by decide +kernel) (pa_cons (pv 3) pa_nil)) pe_int (nomark _)) (pw_and1 (pt_cmpR op_eq (pe_call D.ok (hr.mono (by omega)) rfl D.g D.kp D.b .nil pass0 (pa_cons (pv 0) (pa_cons pe_int pa_nil))) pe_int (nomark _))))) (pe_call OS.ok (hr.mono (by omega)) rfl OS.g OS.kp OS.b .nil pass0 (pa_cons (pv 0) (pa_cons (pv 2) pa_nil))) pe_str))
      (pss_one (ps_ret (pe_lc (own := [("k", 4)]) (g := gName 4) (tt := tYes) rfl scLawNames.nd (pi_range1 rfl b_range (pa_cons (pv 1) pa_nil)) (blkOk_by (own := [("k", 4)]) (N := ["bag", "many", "letters", "stem", "k", "spot", "first", "tail"]) (sc := defScope sLawNames) (by decide +kernel)) (fun _ _ _ _ _ => (pg_name (i := 4) scLawNames.nd rfl (.inl rfl) (.inr rfl))) (fun _ _ _ _ _ => pts_nil) (fun _ _ _ _ _ => (pe_op op_add_str (pe_op op_add_str (pe_op op_add_str (pe_slice C8.sl_txt (pv 3) po_none (po_some (pv 5))) (pe_ix ix_str (pv 2) (pe_op op_mod (pe_callTy call_int1 rfl b_int (by decide +kernel) (pa_cons (pe_op op_add (pv 6) (pe_op op_mulG pe_int (pv 4))) pa_nil)) pe_int) (fun _ _ => rfl))) (pe_slice C8.sl_txt (pv 3) (po_some (pv 5)) po_none)) (pe_op op_mulS (pv 7) (pe_op op_divS (pv 4) pe_int))))))))))), ?_⟩
    refine ⟨⟨_, rfl⟩, _, rfl, (by show 6 ≤ sizeLine; decide), fun p np => ⟨b, p, _, c, ns, rfl, B.fresh np, B.ne np, SqL.of upd_same, (by show 0 < 6; decide), (by show 6 < 1000; decide), fun v H1 hv B1 t1 => ?_⟩⟩
    have u1 : But b H H1 := (But.of (same_upd np)).trans t1
    obtain ⟨m, rfl, m7⟩ : ∃ m : Nat, v = .int m ∧ m ≤ 7 := by
      simp only [List.append_nil, List.mem_cons, List.not_mem_nil, or_false] at hv
      rcases hv with rfl | rfl | rfl | rfl | rfl | rfl
      · exact ⟨0, rfl, by decide⟩
      · exact ⟨0, rfl, by decide⟩
      · exact ⟨1, rfl, by decide⟩
      · exact ⟨2, rfl, by decide⟩
      · exact ⟨3, rfl, by decide⟩
      · exact ⟨7, rfl, by decide⟩
    refine ⟨(m : Int), rfl, by omega, by omega, fun L nL => lc_it (walk_range (lo := 0) (n := m)) (fun i G => ∃ ls : List (List Nat), G L = some (.lst (ls.map txV)) ∧ ls.length = i ∧ (∀ l ∈ ls, l.length = 1 ∧ LowL l) ∧ BagC K G b c ns ∧ But b H1 G) ⟨[], upd_same, rfl, fun l hl => absurd hl (by simp), B1.fresh nL, But.of (same_upd nL)⟩ (fun _ _ _ _ => trivial) ?_ ?_⟩
    · rintro n x G1 G2 hi ⟨ls, gL, hl, ho, BG, tG⟩ ⟨rfl, rfl⟩
      refine ⟨rfl, ?_⟩
      unfold tYes
      have Lb := B1.ne nL
      refine iteT ⟨_, rfl, _, rfl, b, LET, c, ns, congrArg (fun z => [V.ref b, V.str z]) (S_eta _), BG, by decide +kernel, by decide +kernel, fun x G3 hx BG3 tG3 => ⟨_, tG3 _ _ Lb gL, ?_, ls ++ [[x]], ?_, ?_, ?_, BG3.upd (B1.off nL) Lb, ?_⟩⟩
      · rw [List.length_map, hl]
        exact small1000 (by omega)
      · rw [upd_same, List.map_append]
        rfl
      · rw [List.length_append, hl]
        rfl
      · intro l hl'
        rcases List.mem_append.mp hl' with z | z
        · exact ho l z
        · rw [List.mem_singleton.mp z]
          exact one_lo hx
      · intro p o n h
        rw [upd_ne (ne_of_none h nL)]
        exact tG3 _ _ n (tG _ _ n h)
    · rintro G ⟨ls, gL, hl, ho, BG, tG⟩
      obtain ⟨f1, f2⟩ := flat_one ho
      refine ⟨_, L, ls.map S, rfl, rfl, .inl (SqL.of (by rw [List.map_map]; exact gL)), ?_, ?_⟩
      · rw [sum_len ho, hl, List.length_map, hl]
        show m + m * 0 ≤ 16777216
        omega
      rw [joinE]
      revert f1 f2
      generalize ls.flatten = st
      intro f1 f2
      have sl : st.length ≤ 7 := by omega
      refine ⟨_, rfl, _, rfl, _, _, rfl, ⟨line_of (by rw [S_len]; omega), rfl⟩, _, _, rfl, rfl, b, _, c, ns, rfl, BG, by omega, by rw [S_len]; omega, fun r H2 r0 r1 B2 t2 => ?_⟩
      rw [S_len] at r1
      obtain ⟨so, rfl⟩ : ∃ i : Nat, r = (i : Int) := ⟨r.toNat, by omega⟩
      refine ⟨_, rfl, b, 26, c, ns, rfl, B2, by decide, by decide, fun r H3 z0 z1 B3 t3 => ⟨(by show 2 ≤ sizeLine; decide), fun t nt => ?_⟩⟩
      obtain ⟨fi, rfl⟩ : ∃ i : Nat, r = (i : Int) := ⟨r.toNat, by omega⟩
      have B4 := B3.fresh (o := .tup [.int (so : Nat), .int (fi : Nat)]) nt
      have u4 : But b H (upd H3 t (.tup [.int (so : Nat), .int (fi : Nat)])) := u1.trans (tG.trans (t2.trans (t3.trans (But.of (same_upd nt)))))
      refine ⟨t, _, rfl, SqT.of upd_same, rfl, _, _, rfl, _, _, rfl, rfl, ?_⟩
      refine ⟨fun σ' H' => ∃ tl : List Nat, σ' = [some (.ref b), some (.int (N : Nat)), some (.str "abcdefghijklmnopqrstuvwxyz"), some (txV st), none, some (.int (so : Nat)), some (.int (fi : Nat)), some (txV tl)] ∧ tl.length ≤ 1 ∧ (st ≠ [] → tl = []) ∧ LowL tl ∧ BagC K H' b c ns ∧ But b H H', ?_, ?_⟩
      · refine ⟨_, rfl, _, _, rfl, ⟨line_of (by rw [S_len]; omega), rfl⟩, rfl, _, rfl, ite2 (fun h1 => ?_) (fun h1 => ?_)⟩
        · refine ⟨_, rfl, b, 2, c, ns, rfl, B4, by decide, by decide, fun r H5 r0 r1 B5 t5 => ⟨rfl, _, rfl, ite2 (fun h2 => ?_) (fun h2 => ?_)⟩⟩
          · have hst : st = [] := by
              have := of_decide_eq_true h1
              rw [S_len] at this
              exact List.length_eq_zero_iff.mp (by first | omega | (have := V.int.inj this; omega))
            exact ⟨_, rfl, _, rfl, b, LET, c, ns, congrArg (fun z => [V.ref b, V.str z]) (S_eta _), B5, by decide +kernel, by decide +kernel, fun x H6 hx B6 t6 => ⟨[x], rfl, Nat.le_refl 1, fun z => absurd hst z, (one_lo hx).2, B6, u4.trans (t5.trans t6)⟩⟩
          · exact ⟨[], rfl, by decide, fun _ => rfl, fun c hc => by simp at hc, B5, u4.trans t5⟩
        · exact ⟨[], rfl, by decide, fun _ => rfl, fun c hc => by simp at hc, B4, u4⟩
      · rintro σ' H' ⟨tl, rfl, tll, tle, tlo, B5, u5⟩
        refine ⟨_, rfl, N, rfl, by omega, by omega, fun L nL => lc_it (walk_range (lo := 0) (n := N)) (fun i G => G L = some (.lst ((nms st so fi tl i).map txV)) ∧ Same H' G) ⟨upd_same, same_upd nL⟩ (fun _ _ _ _ => trivial) ?_ ?_⟩
        · rintro n x G1 G2 hi ⟨gL', sG⟩ ⟨rfl, rfl⟩
          refine ⟨rfl, ?_⟩
          unfold tYes
          have kd : ((0 : Int) + (n : Nat)).fdiv 2 = ((n / 2 : Nat) : Int) := by
            rw [Int.zero_add, Int.fdiv_eq_ediv_of_nonneg _ (by decide)]
            rfl
          have kd3 : n / 2 ≤ 3 := by omega
          have eix : ((fi : Nat) + 7 * (0 + ((n : Nat) : Int))) % 26 = (((fi + 7 * n) % 26 : Nat) : Int) := by omega
          have hix : (fi + 7 * n) % 26 < 26 := Nat.mod_lt _ (by decide)
          have hc := let_at _ hix
          have hsl1 : Txt.slice (S st) none (some (so : Nat)) = S (st.take so) := slice_to (by omega)
          have hsl2 : Txt.slice (S st) (some (so : Nat)) none = S (st.drop so) := slice_from (by omega)
          have l1 : (st.take so).length ≤ 7 := by rw [List.length_take]; omega
          have l2 : (st.drop so).length ≤ 7 := by rw [List.length_drop]; omega
          refine iteT ⟨_, rfl, _, rfl, _, rfl, _, rfl, line_of (by rw [S_len]; omega), ?_⟩
          rw [hsl1]
          refine ⟨_, rfl, _, rfl, _, rfl, _, _, rfl, rfl, mul_left (by decide +kernel), _, _, rfl, rfl, .inl ⟨_, rfl, _, _, rfl, rfl, (by show (0 : Int) < _; decide), Str.ofString "abcdefghijklmnopqrstuvwxyz", _, 97 + (fi + 7 * n) % 26, rfl, rfl, by decide +kernel, ?_, ?_⟩⟩
          · rw [eix]
            exact atI_nat hc
          refine ⟨_, _, rfl, rfl, line_of (by rw [S_len]; show _ + 1 ≤ _; omega), _, rfl, _, rfl, _, rfl, _, rfl, line_of (by rw [S_len]; omega), ?_⟩
          rw [hsl2]
          refine ⟨_, _, rfl, rfl, ?_, _, rfl, _, rfl, _, _, rfl, rfl, ⟨by decide, by decide⟩, _, _, rfl, rfl, ?_⟩
          · rw [show (⟨#[97 + (fi + 7 * n) % 26]⟩ : Str) = S [97 + (fi + 7 * n) % 26] from rfl, S_cat, S_len, S_len]
            exact line_of (by simp; omega)
          refine ⟨by rw [kd]; exact mulOk3 tll kd3, ?_⟩
          rw [kd, mulE tll]
          have fl : (List.replicate (n / 2) tl).flatten.length ≤ 3 := by
            rw [flat_rep]
            exact Nat.mul_le_mul kd3 tll
          have et : S (st.take so) ++ (⟨#[97 + (fi + 7 * n) % 26]⟩ : Str) ++ S (st.drop so) ++ S (List.replicate (n / 2) tl).flatten = S (nmK st so fi tl n) := by
            rw [show (⟨#[97 + (fi + 7 * n) % 26]⟩ : Str) = S [97 + (fi + 7 * n) % 26] from rfl, S_cat, S_cat, S_cat]
            rfl
          refine ⟨_, _, rfl, rfl, ?_, _, gL', ?_, ?_, same_updF nL sG⟩
          · rw [show (⟨#[97 + (fi + 7 * n) % 26]⟩ : Str) = S [97 + (fi + 7 * n) % 26] from rfl, S_cat, S_cat, S_len, S_len]
            exact line_of (by rw [List.length_append, List.length_append, List.length_singleton]; omega)
          · rw [List.length_map]
            exact small1000 (by unfold nms; rw [List.length_map, List.length_range]; omega)
          · rw [upd_same, et]
            unfold nms
            rw [List.range_succ, List.map_append, List.map_append]
            rfl
        · rintro G ⟨gL', sG⟩
          have hso : so ≤ st.length := by omega
          exact q L G _ (u5.none (B5.ne nL) nL) (B5.same sG) (u5.trans (But.of sG)) gL' (nms_ok hso sl tll tle hN f2 tlo) (by unfold nms; rw [List.length_map, List.length_range])
end
end My

set_option Elab.async false
set_option linter.all false
set_option maxRecDepth 100000
namespace My
open PySem PySem.Spec PyProof.Rows L2 SX LamX NdefX
abbrev sIsWord : Stmt := topS 10
theorem scIsWord : FnScope ["text"] ["text"] (defScope sIsWord) := ⟨rfl, rfl, rfl, by decide +kernel, rfl, by decide +kernel, by decide +kernel⟩
abbrev sIsName : Stmt := topS 11
theorem scIsName : FnScope ["value"] ["value"] (defScope sIsName) := ⟨rfl, rfl, rfl, by decide +kernel, rfl, by decide +kernel, by decide +kernel⟩
abbrev sIsTeam : Stmt := topS 17
theorem scIsTeam : FnScope ["value", "at", "person"] ["value"] (defScope sIsTeam) := ⟨rfl, rfl, rfl, by decide +kernel, rfl, by decide +kernel, by decide +kernel⟩
abbrev sWithoutDoubles : Stmt := topS 18
theorem scWithoutDoubles : FnScope ["names", "at", "name"] ["names"] (defScope sWithoutDoubles) := ⟨rfl, rfl, rfl, by decide +kernel, rfl, by decide +kernel, by decide +kernel⟩
abbrev sGroupsOf : Stmt := topS 19
theorem scGroupsOf : FnScope ["persons", "size"] ["persons", "size"] (defScope sGroupsOf) := ⟨rfl, rfl, rfl, by decide +kernel, rfl, by decide +kernel, by decide +kernel⟩
/-! names are words -/
theorem let_uni : ∀ i < 26, Unicode.isAlpha (97 + i) = true ∧ Unicode.isLower (97 + i) = true ∧ (Unicode.isUpper (97 + i) || Unicode.isTitle (97 + i)) = false := by decide +kernel
theorem lo_uni {c : Nat} (h : 97 ≤ c ∧ c ≤ 122) : Unicode.isAlpha c = true ∧ Unicode.isLower c = true ∧ (Unicode.isUpper c || Unicode.isTitle c) = false := by
  have := let_uni (c - 97) (by omega)
  rwa [show 97 + (c - 97) = c by omega] at this
theorem word_nm {l : List Nat} (h : Nm l) : Txt.isascii (S l) = true ∧ Txt.isalpha (S l) = true ∧ Txt.islower (S l) = true := by
  have h0 : 0 < l.length := by
    rcases Nat.eq_zero_or_pos l.length with e | e
    · exact absurd (List.length_eq_zero_iff.mp e) h.ne
    · exact e
  refine ⟨?_, ?_, ?_⟩
  · show (S l).cps.all (· < 128) = true
    simp only [S, List.all_toArray, List.all_eq_true, decide_eq_true_eq]
    exact fun c hc => by have := h.lo c hc; omega
  · unfold Txt.isalpha
    rw [Bool.and_eq_true]
    refine ⟨by rw [S_len]; exact decide_eq_true h0, ?_⟩
    show l.toArray.all Unicode.isAlpha = true
    rw [List.all_toArray, List.all_eq_true]
    exact fun c hc => (lo_uni (h.lo c hc)).1
  · unfold Txt.islower
    obtain ⟨c, cs, rfl⟩ := List.exists_cons_of_ne_nil h.ne
    simp only [S, List.any_toArray, Bool.and_eq_true, Bool.not_eq_true']
    refine ⟨?_, ?_⟩
    · rw [List.any_eq_true]
      exact ⟨c, List.mem_cons_self .., (lo_uni (h.lo c (List.mem_cons_self ..))).2.1⟩
    · rw [List.any_eq_false]
      intro d hd
      rw [(lo_uni (h.lo d hd)).2.2]
      decide
/-! names in lists -/
theorem inV_tx (a : List Nat) : ∀ l : List (List Nat), inV (txV a) (l.map txV) = decide (a ∈ l)
  | [] => rfl
  | b :: l => by
    show (eqV (txV b) (txV a) || inV (txV a) (l.map txV)) = _
    rw [inV_tx a l]
    show ((S b == S a) || _) = _
    rw [S_beq_eq]
    by_cases e : b = a
    · simp [e]
    · have e' : ¬ a = b := fun z => e z.symm
      simp [e, e']
theorem flat_tx (l : List (List Nat)) : (l.map txV).all flatV = true := by
  rw [List.all_map]
  exact List.all_eq_true.mpr fun _ _ => rfl
theorem cut_to (es : List (List Nat)) (n : Nat) : cutV (es.map txV) none (some (n : Nat)) = (es.take n).map txV := by
  unfold cutV
  rw [show HT.sIx (es.map txV).length 0 none = 0 from HT.sIx_none _ _, HT.sIx_nat, List.drop_zero, Nat.sub_zero, List.map_take, List.length_map]
  by_cases h : n ≤ es.length
  · rw [Nat.min_eq_left h]
  · rw [Nat.min_eq_right (by omega), List.take_of_length_le (by simp), List.take_of_length_le (by simp; omega)]
/-- each once, in the order of their first places -/
def uq (xs : List (List Nat)) : List (List Nat) := xs.foldl (fun f x => if x ∈ f then f else f ++ [x]) []
theorem uq_snoc (xs : List (List Nat)) (x : List Nat) : uq (xs ++ [x]) = if x ∈ uq xs then uq xs else uq xs ++ [x] := by
  unfold uq
  rw [List.foldl_append]
  rfl
theorem take_snoc {α : Type} {xs : List α} {i : Nat} {x : α} (h : xs[i]? = some x) : xs.take (i + 1) = xs.take i ++ [x] := by
  rw [List.take_add_one, h]
  rfl
theorem mem_uqT (xs : List (List Nat)) (a : List Nat) : ∀ i, i ≤ xs.length → (a ∈ uq (xs.take i) ↔ a ∈ xs.take i)
  | 0, _ => by simp [uq]
  | i + 1, h => by
    have e : xs[i]? = some xs[i] := List.getElem?_eq_getElem (by omega)
    rw [take_snoc e, uq_snoc]
    have ih := mem_uqT xs a i (by omega)
    have ih2 := mem_uqT xs xs[i] i (by omega)
    split
    · rename_i hm
      rw [List.mem_append, List.mem_singleton, ih]
      exact ⟨.inl, fun z => z.elim id fun z => by rw [z]; exact ih2.mp hm⟩
    · rw [List.mem_append, List.mem_append, ih]
theorem mem_uq {xs : List (List Nat)} {a : List Nat} : a ∈ uq xs ↔ a ∈ xs := by
  have := mem_uqT xs a xs.length (Nat.le_refl _)
  rwa [List.take_length] at this
theorem uq_lenT (xs : List (List Nat)) : ∀ i, i ≤ xs.length → (uq (xs.take i)).length ≤ i
  | 0, _ => by simp [uq]
  | i + 1, h => by
    have e : xs[i]? = some xs[i] := List.getElem?_eq_getElem (by omega)
    have ih := uq_lenT xs i (by omega)
    rw [take_snoc e, uq_snoc]
    split
    · omega
    · rw [List.length_append, List.length_singleton]; omega
theorem uq_nodupT (xs : List (List Nat)) : ∀ i, i ≤ xs.length → (uq (xs.take i)).Nodup
  | 0, _ => by simp [uq]
  | i + 1, h => by
    have e : xs[i]? = some xs[i] := List.getElem?_eq_getElem (by omega)
    have ih := uq_nodupT xs i (by omega)
    rw [take_snoc e, uq_snoc]
    split
    · exact ih
    · rename_i hm
      exact List.nodup_append.mpr ⟨ih, by simp, fun a ha b hb => by rw [List.mem_singleton.mp hb]; exact fun z => hm (z ▸ ha)⟩
theorem uq_nodup (xs : List (List Nat)) : (uq xs).Nodup := by
  have := uq_nodupT xs xs.length (Nat.le_refl _)
  rwa [List.take_length] at this
def spWordT : Sp := fun vs H Q _ => ∃ l, vs = [txV l] ∧ Nm l ∧ Q (.bl true) H
def spTeam (K : PySem.W.Frag) : Sp := fun vs H Q _ => ∃ (a : Addr) (l : List (List Nat)), vs = [.ref a] ∧ SqL K H a (l.map txV) ∧ H a = some (.lst (l.map txV)) ∧ Names l ∧ l ≠ [] ∧ l.length ≤ 4 ∧ ∀ H', Same H H' → Q (.bl true) H'
def spOnce (K : PySem.W.Frag) : Sp := fun vs H Q _ => ∃ (a : Addr) (l : List (List Nat)), vs = [.ref a] ∧ SqL K H a (l.map txV) ∧ l.length ≤ 1000 ∧ ∀ q H', H q = none → Same H H' → H' q = some (.lst ((uq l).map txV)) → Q (.ref q) H'
section
variable {P : Program} {w : World} {K : PySem.W.Frag} {mg : Str → Option Value} {base : Heap}
theorem ok_word {f : Addr} {fd : FuncData} {k : Nat} (F : Fun K "is_word" "is_word" sIsWord f fd) : FnOk P w K mg base CX0 (k + 1) f fd ["text"] spWordT := by
  refine F.ok scIsWord (fun vs H Q E h => ?_) (fun cdv A outer s H vs Q E hr h => ?_)
  · obtain ⟨z, rfl, _⟩ := h
    rfl
  · obtain ⟨l, rfl, hl, q⟩ := h
    obtain ⟨e1, e2, e3⟩ := word_nm hl
    refine ⟨_, (pss_one (ps_ret (pe_and (pe_m0 PySem.F.slot_str_isascii PySem.F.type_str_isascii mt_isascii (pv 0)) (pe_and (pe_m0 PySem.F.slot_str_isalpha PySem.F.type_str_isalpha mt_isalpha (pv 0)) (pe_one (pe_m0 PySem.F.slot_str_islower PySem.F.type_str_islower mt_islower (pv 0))))))), ?_⟩
    refine ⟨_, rfl, ⟨_, rfl⟩, S l, rfl, rfl, trivial, _, rfl, ?_⟩
    rw [e1]
    refine iteT ⟨_, rfl, ⟨_, rfl⟩, S l, rfl, rfl, trivial, _, rfl, ?_⟩
    rw [e2]
    refine iteT ⟨_, rfl, ⟨_, rfl⟩, S l, rfl, rfl, trivial, ?_⟩
    rw [e3]
    exact q
theorem ok_name {f fW : Addr} {fd fdW : FuncData} {k : Nat} {tk : Tok} (F : Fun K "is_name" "is_name" sIsName f fd) (Iw : Cal P w K mg base "is_word" (k + 1) ["text"] spWordT fW fdW) (b_isinstance : mg "isinstance" = none) (b_str : mg "str" = none) (b_len : mg "len" = none) (g_LONGEST : mg "LONGEST_NAME" = some (.int 8 tk)) :
    FnOk P w K mg base CX0 (k + 2) f fd ["value"] spWordT := by
  refine F.ok scIsName (fun vs H Q E h => ?_) (fun cdv A outer s H vs Q E hr h => ?_)
  · obtain ⟨v, rfl, _⟩ := h
    rfl
  · obtain ⟨l, rfl, hl, q⟩ := h
    refine ⟨_, (pss_one (ps_ret (pe_and (pe_callB call_isi rfl b_isinstance (by decide +kernel) (pa_cons (pv 0) (pa_cons (pe_ty "str" rfl b_str (by decide +kernel)) pa_nil))) (pe_and (pe_cmpR op_le (pe_callB call_len rfl b_len (by decide +kernel) (pa_cons (pv 0) pa_nil)) (pe_glob (v := .int 8) rfl g_LONGEST ⟨_, rfl⟩) (nomark _)) (pe_one (pe_call Iw.ok (hr.mono (by omega)) rfl Iw.g Iw.kp Iw.b .nil pass0 (pa_cons (pv 0) pa_nil))))))), ?_⟩
    refine ⟨_, rfl, _, _, _, _, _, rfl, .ty _, .base (.str _), rfl, _, rfl, iteT ⟨_, rfl, _, _, rfl, ⟨line_of (by rw [S_len]; have := hl.le; omega), rfl⟩, _, _, rfl, rfl, _, rfl, ?_⟩⟩
    have h8 : decide (((S l).length : Int) ≤ 8) = true := by
      rw [S_len]
      have := hl.le
      exact decide_eq_true (by omega)
    rw [h8]
    exact iteT ⟨_, rfl, l, rfl, hl, q⟩
theorem ok_team {f fN : Addr} {fd fdN : FuncData} {k : Nat} {tk : Tok} (F : Fun K "is_team" "is_team" sIsTeam f fd) (In : Cal P w K mg base "is_name" (k + 2) ["value"] spWordT fN fdN) (b_isinstance : mg "isinstance" = none) (b_list : mg "list" = none) (b_tuple : mg "tuple" = none) (b_len : mg "len" = none) (b_all : mg "all" = none) (b_enumerate : mg "enumerate" = none) (g_OVER : mg "MOST_OVER" = some (.int 4 tk)) :
    FnOk P w K mg base CX0 (k + 3) f fd ["value"] (spTeam K) := by
  refine F.ok scIsTeam (fun vs H Q E h => ?_) (fun cdv A outer s H vs Q E hr h => ?_)
  · obtain ⟨a, l, rfl, _⟩ := h
    rfl
  · obtain ⟨a, l, rfl, hs, ha, hN, hne, h4, q⟩ := h
    refine ⟨_, (pss_cons (ps_if (PW.pt (pw_or (pt_not (pt_val (pe_callB call_isiT rfl b_isinstance (by decide +kernel) (pa_cons (pv 0) (pa_cons (pe_tup (pa_cons (pe_ty "list" rfl b_list (by decide +kernel)) (pa_cons (pe_ty "tuple" rfl b_tuple (by decide +kernel)) pa_nil))) pa_nil))))) (pw_or1 (pt_not (pt_chain op_le op_le pe_int (pe_callB call_len rfl b_len (by decide +kernel) (pa_cons (pv 0) pa_nil)) (pe_glob (v := .int 4) rfl g_OVER ⟨_, rfl⟩)))))) (pss_one (ps_ret pe_bl)) pss_nil)
      (pss_one (ps_ret (pe_callB (cr_all rfl) rfl b_all (by decide +kernel) (pa_cons (pe_lc (own := [("at", 1), ("person", 2)]) (g := gTup K 2 (gCons (gName 1) (gCons (gName 2) gNil))) (tt := tYes) (te := tAndV (tCall spWordT [] E0 (tCons (tVar 2) tNil)) (tOp (rIn K true) (tVar 2) (tSl (rSlL K) (tVar 0) tNoPart (tPart (tVar 1))))) rfl scIsTeam.nd (pi_enumU rfl b_enumerate (pa_cons (pv 0) pa_nil)) (blkOk_by (own := [("at", 1), ("person", 2)]) (N := ["value", "at", "person"]) (sc := defScope sIsTeam) (by decide +kernel)) (fun _ _ _ _ _ => (pg_tup rfl (pgs_cons (pg_name (i := 1) scIsTeam.nd rfl (.inl rfl) (.inr rfl)) (pgs_cons (pg_name (i := 2) scIsTeam.nd rfl (.inl rfl) (.inr rfl)) pgs_nil)))) (fun _ _ _ _ _ => pts_nil) (fun _ _ _ _ _ => (pe_and (pe_call In.ok (hr.mono (by omega)) rfl In.g In.kp In.b .nil pass0 (pa_cons (pv 2) pa_nil)) (pe_one (pe_cmpR op_notIn_seq (pv 2) (pe_slice sl_list (pv 0) po_none (po_some (pv 1))) rfl))))) pa_nil))))), ?_⟩
    refine ⟨_, rfl, (by show 2 ≤ sizeLine; decide), fun tp ntp => ⟨_, tp, _, _, _, _, rfl, upd_same, cls2, ty_list ((same_upd ntp).seq hs), kit_ll, _, rfl, ?_⟩⟩
    have s1 : Same H (upd H tp (.tup [.ty "list", .ty "tuple"])) := same_upd ntp
    generalize upd H tp (.tup [.ty "list", .ty "tuple"]) = H1 at s1 ⊢
    have hl1 : 1 ≤ l.length := by
      rcases Nat.eq_zero_or_pos l.length with e | e
      · exact absurd (List.length_eq_zero_iff.mp e) hne
      · exact e
    refine iteF ⟨_, rfl, _, _, rfl, .inl ⟨_, s1.seq hs, rfl⟩, _, _, rfl, rfl, _, rfl, ?_⟩
    rw [List.length_map, decide_eq_true (by omega)]
    refine iteT ⟨_, _, rfl, rfl, _, rfl, ?_⟩
    rw [decide_eq_true (by omega)]
    refine iteF ?_
    refine ⟨_, rfl, _, _, rfl, .inl ⟨s1.seq hs, fun D nD => lc_it walk_enumS (fun i G => Same H1 G ∧ G D = some (.lst ((List.replicate i true).map V.bl))) ⟨same_upd nD, upd_same⟩ (fun i G _ h => h.1.seq (s1.seq hs)) ?_ ?_⟩⟩
    · rintro i x G G' hi ⟨sG, gD⟩ ⟨T, _, p, rfl, nT, rfl, e1, e2⟩
      cases e1
      rw [List.length_map] at hi
      have ep : (l.map txV)[i]? = some (txV l[i]) := by rw [List.getElem?_map, List.getElem?_eq_getElem hi]; rfl
      cases Option.some.inj (ep.symm.trans e2)
      refine ⟨T, _, rfl, SqT.of upd_same, rfl, _, _, rfl, _, _, rfl, rfl, rfl, ?_⟩
      unfold tYes
      have sT : Same G (upd G T (.tup [.int (0 + (i : Nat)), txV l[i]])) := same_upd nT
      have gD' := sT _ _ gD
      generalize upd G T (.tup [.int (0 + (i : Nat)), txV l[i]]) = G2 at sT gD' ⊢
      refine iteT ⟨_, rfl, _, rfl, hN.ok _ (List.getElem_mem hi), _, rfl, iteT ⟨_, rfl, _, rfl, _, rfl, _, rfl, _, _, rfl, (sG.trans sT).seq (s1.seq hs), fun pp npp => ?_⟩⟩
      have ec : cutV (l.map txV) none (some (0 + (i : Int))) = (l.take i).map txV := by
        rw [Int.zero_add]
        exact cut_to l i
      rw [ec]
      have e1 : inV (txV l[i]) ((l.take i).map txV) = false := by
        rw [inV_tx]
        refine decide_eq_false fun hm => ?_
        obtain ⟨j, hj, e⟩ := List.mem_take_iff_getElem.mp hm
        have hj2 : j < i := by omega
        exact absurd ((List.getElem_inj hN.nd).mp e) (by omega)
      have s3 : Same G2 (upd G2 pp (.lst ((l.take i).map txV))) := same_upd npp
      refine ⟨pp, _, rfl, .inl (SqL.of upd_same), rfl, flat_tx _, _, s3 _ _ gD', ?_, ?_, ?_⟩
      · rw [List.length_map, List.length_replicate]
        exact small1000 (by omega)
      · exact same_updF nD (sG.trans (sT.trans s3))
      · rw [upd_same, e1, List.replicate_succ', List.map_append]
        rfl
    · rintro G ⟨sG, gD⟩
      refine ⟨_, _, rfl, SqL.of gD, ?_⟩
      rw [show (List.replicate (l.map txV).length true).all id = true by simp]
      exact q _ (s1.trans sG)
theorem ok_once {f : Addr} {fd : FuncData} {k : Nat} (F : Fun K "without_doubles" "without_doubles" sWithoutDoubles f fd) (b_enumerate : mg "enumerate" = none) : FnOk P w K mg base CX0 (k + 1) f fd ["names"] (spOnce K) := by
  refine F.ok scWithoutDoubles (fun vs H Q E h => ?_) (fun cdv A outer s H vs Q E hr h => ?_)
  · obtain ⟨a, l, rfl, _⟩ := h
    rfl
  · obtain ⟨a, l, rfl, hs, hl, q⟩ := h
    refine ⟨_, (pss_one (ps_ret (pe_lc (own := [("at", 1), ("name", 2)]) (g := gTup K 2 (gCons (gName 1) (gCons (gName 2) gNil))) (tt := tTest (tOp (rIn K true) (tVar 2) (tSl (rSlL K) (tVar 0) tNoPart (tPart (tVar 1))))) (te := tVar 2) rfl scWithoutDoubles.nd (pi_enumU rfl b_enumerate (pa_cons (pv 0) pa_nil)) (blkOk_by (own := [("at", 1), ("name", 2)]) (N := ["names", "at", "name"]) (sc := defScope sWithoutDoubles) (by decide +kernel)) (fun _ _ _ _ _ => (pg_tup rfl (pgs_cons (pg_name (i := 1) scWithoutDoubles.nd rfl (.inl rfl) (.inr rfl)) (pgs_cons (pg_name (i := 2) scWithoutDoubles.nd rfl (.inl rfl) (.inr rfl)) pgs_nil)))) (fun _ _ _ _ _ => (pts_one (pt_cmpR op_notIn_seq (pv 2) (pe_slice sl_list (pv 0) po_none (po_some (pv 1))) rfl))) (fun _ _ _ _ _ => (pv 2))))), ?_⟩
    refine ⟨_, rfl, a, _, rfl, .inl ⟨hs, fun D nD => lc_it walk_enumS (fun i G => Same H G ∧ G D = some (.lst ((uq (l.take i)).map txV))) ⟨same_upd nD, upd_same⟩ (fun i G _ h => h.1.seq hs) ?_ ?_⟩⟩
    · rintro i x G G' hi ⟨sG, gD⟩ ⟨T, _, p, rfl, nT, rfl, e1, e2⟩
      cases e1
      rw [List.length_map] at hi
      have ex : l[i]? = some l[i] := List.getElem?_eq_getElem hi
      have ep : (l.map txV)[i]? = some (txV l[i]) := by rw [List.getElem?_map, ex]; rfl
      cases Option.some.inj (ep.symm.trans e2)
      refine ⟨T, _, rfl, SqT.of upd_same, rfl, _, _, rfl, _, _, rfl, rfl, rfl, ?_⟩
      have sT : Same G (upd G T (.tup [.int (0 + (i : Nat)), txV l[i]])) := same_upd nT
      have gD' := sT _ _ gD
      generalize upd G T (.tup [.int (0 + (i : Nat)), txV l[i]]) = G2 at sT gD' ⊢
      refine ⟨_, rfl, _, rfl, _, rfl, _, rfl, _, _, rfl, (sG.trans sT).seq hs, fun pp npp => ?_⟩
      have ec : cutV (l.map txV) none (some (0 + (i : Int))) = (l.take i).map txV := by
        rw [Int.zero_add]
        exact cut_to l i
      rw [ec]
      have s3 : Same G2 (upd G2 pp (.lst ((l.take i).map txV))) := same_upd npp
      refine ⟨pp, _, rfl, .inl (SqL.of upd_same), rfl, flat_tx _, _, rfl, ?_⟩
      rw [inV_tx]
      have ts := take_snoc ex
      by_cases hm : l[i] ∈ l.take i
      · rw [decide_eq_true hm]
        refine iteF ⟨sG.trans (sT.trans s3), ?_⟩
        rw [ts, uq_snoc, if_pos ((mem_uqT l _ i (by omega)).mpr hm)]
        exact s3 _ _ gD'
      · rw [decide_eq_false hm]
        refine iteT ⟨_, rfl, _, s3 _ _ gD', ?_, ?_, ?_⟩
        · rw [List.length_map]
          exact small1000' (by have := uq_lenT l i (by omega); omega)
        · exact same_updF nD (sG.trans (sT.trans s3))
        · rw [upd_same, ts, uq_snoc, if_neg (fun z => hm ((mem_uqT l _ i (by omega)).mp z)), List.map_append]
          rfl
    · rintro G ⟨sG, gD⟩
      rw [show l.take (l.map txV).length = l by rw [List.length_map, List.take_length]] at gD
      exact q D G nD sG gD
end
end My

set_option Elab.async false
set_option linter.all false
set_option maxRecDepth 100000
namespace L2
open PySem PySem.Spec PyProof.Rows
/-- a def with a star parameter, by its body -/
theorem Fun.okStar {P : Program} {w : World} {K : PySem.W.Frag} {mg : Str → Option Value} {base : Heap} {x qual pv : Str} {st : Stmt} {f : Addr} {fd : FuncData} {N ps : List Str} {k : Nat} {sp : Sp} (F : Fun K x qual st f fd) (S : FnScope N (ps ++ [pv]) (defScope st))
    (hb : ∀ (kV doc pm : Value) (an : Option Addr) (cdv ct : Value) (us rest : List Value), us.length = ps.length → bindArgs (PySem.W.fnOf x qual (defArgs st) (defBody st) (defScope st) .none kV doc pm an cdv ct) ⟨us ++ rest, []⟩ = (newTuple rest >>= fun t => pure (ps.zip us ++ [(pv, t)])))
    (hbody : ∀ (cdv : Value) (A : Around) (outer : List Env) (s : Shared) (H : Hp) (vs : List V) (Q : VK) (E : XK), Room k (A.deeper (envOfC qual (defScope st) s.heap.objs.size f cdv)) → sp vs H Q E →
      ∃ t, PSs (cxOf CX0 P w K mg base N qual (defScope st) f cdv A outer s H E).nox (defBody st) t ∧ t { nx := fun _ H' => Q .non H', rt := Q } (start N vs) H) :
    FnR P w K mg base CX0 (k + 1) f (fun vs H Q E => ∃ ws rest, vs = ws ++ rest ∧ ws.length = ps.length ∧ rest.length ≤ sizeLine ∧ ∀ p, H p = Option.none → sp (ws ++ [V.ref p]) (upd H p (.tup rest)) Q E) := by
  obtain ⟨oc, od, kV, doc, pm, an, cdv, ct, osl, rfl, lk, hcd⟩ := F.ex
  refine StX.fn_star lk hcd S StX.cxUp_none (fun us rest h => hb kV doc pm an cdv ct us rest h) fun A outer s H vs Q E hr hsp => ?_
  obtain ⟨t, h, q⟩ := hbody cdv A outer s H vs Q E hr hsp
  exact ⟨t, h.nox, q⟩
end L2
namespace My
open PySem PySem.Spec PyProof.Rows L2 SX LamX NdefX
/-- a walk with any body -/
theorem gen_it {J : It} {n : Nat} {G : Hp → Prop} {Y : Nat → Hp → V → Hp → Prop} (w : Walk J n G Y) {Bd : V → Hp → (Hp → Prop) → Prop} {H0 : Hp} {Qd : Hp → Prop} (Pv : Nat → Hp → Prop) (h0 : Pv 0 H0) (hG : ∀ i H, i ≤ n → Pv i H → G H)
    (hs : ∀ i x H H', i < n → Pv i H → Y i H x H' → Bd x H' (Pv (i + 1))) (hd : ∀ H, Pv n H → Qd H) :
    ∃ W : Nat → Nat → Hp → Prop, (∃ m, W 0 m H0) ∧ ∀ i m H, W i m H → (J.stop i H ∧ Qd H) ∨ (J.go i H ∧ ∃ Nx : Hp → Prop, (∀ H', Nx H' → ∃ m', m' < m ∧ W (i + 1) m' H') ∧ ∀ x H', J.yld i H x H' → Bd x H' Nx) := by
  refine ⟨fun i m H => m = n - i ∧ i ≤ n ∧ Pv i H, ⟨n, by simp, Nat.zero_le _, h0⟩, ?_⟩
  rintro i m H ⟨rfl, hi, p⟩
  have q := hG i H hi p
  by_cases hlt : i < n
  · refine .inr ⟨w.goes i H hlt q, Pv (i + 1), fun H' p' => ⟨n - (i + 1), by omega, rfl, hlt, p'⟩, fun x H' y => hs i x H H' hlt p (w.yields i H x H' hlt q y)⟩
  · have e : i = n := by omega
    subst e
    exact .inl ⟨w.stops H q, hd H p⟩
abbrev sStaffInit : Stmt := inClass (topS 16) 0
theorem scStaffInit : FnScope ["self", "lists", "bundle", "row", "person"] ["self", "lists"] (defScope sStaffInit) := ⟨rfl, rfl, rfl, by decide +kernel, rfl, by decide +kernel, by decide +kernel⟩
abbrev sStaffPersons : Stmt := inClass (topS 16) 2
theorem scStaffPersons : FnScope ["self"] ["self"] (defScope sStaffPersons) := ⟨rfl, rfl, rfl, by decide +kernel, rfl, by decide +kernel, by decide +kernel⟩
abbrev sStaffSole : Stmt := inClass (topS 16) 4
theorem scStaffSole : FnScope ["self", "group", "bundle", "row", "person"] ["self", "group"] (defScope sStaffSole) := ⟨rfl, rfl, rfl, by decide +kernel, rfl, by decide +kernel, by decide +kernel⟩
abbrev sStaffIsSafe : Stmt := inClass (topS 16) 6
theorem scStaffIsSafe : FnScope ["self", "most", "row"] ["self", "most"] (defScope sStaffIsSafe) := ⟨rfl, rfl, rfl, by decide +kernel, rfl, by decide +kernel, by decide +kernel⟩
def rTupOf (K : PySem.W.Frag) : List V → Hp → VK → Prop := fun xs H Q => ∃ p ys, xs = [.ref p] ∧ ((SqL K H p ys ∧ ∀ l, H l = none → Q (.ref l) (upd H l (.tup ys))) ∨ (SqT K H p ys ∧ Q (.ref p) H))
def rLenOf (K : PySem.W.Frag) : List V → Hp → VK → Prop := fun xs H Q => ∃ x n, xs = [x] ∧ LenV K x H n ∧ Q (.int (n : Nat)) H
abbrev Rows := List (List (List Nat))
/-- lists of names, at these addresses -/
def RowsL (H : Hp) (ls : List Addr) (rows : Rows) : Prop := Paired (fun l r => H l = some (.lst (r.map txV))) ls rows
def RowsT (H : Hp) (ts : List Addr) (rows : Rows) : Prop := Paired (fun t r => H t = some (.tup (r.map txV))) ts rows
/-- lists of one to four names -/
def RowsOk (rows : Rows) : Prop := ∀ r ∈ rows, Names r ∧ r ≠ [] ∧ r.length ≤ 4
theorem paired_get {α β : Type} {F : α → β → Prop} : ∀ {l₁ : List α} {l₂ : List β}, Paired F l₁ l₂ → ∀ (i : Nat) (b : β), l₂[i]? = some b → ∃ a, l₁[i]? = some a ∧ F a b
  | _, _, .nil, i, b, h => by simp at h
  | _, _, .cons (a := a) h t, 0, b, e => by
    have : _ = b := Option.some.inj e
    subst this
    exact ⟨a, rfl, h⟩
  | _, _, .cons h t, i + 1, b, e => by
    obtain ⟨a, e1, h1⟩ := paired_get t i b (by simpa using e)
    exact ⟨a, by simpa using e1, h1⟩
theorem RowsL.same {H H' : Hp} {ls : List Addr} {rows : Rows} (h : RowsL H ls rows) (s : Same H H') : RowsL H' ls rows := Paired.mono (fun _ _ e => s _ _ e) h
theorem RowsT.same {H H' : Hp} {ls : List Addr} {rows : Rows} (h : RowsT H ls rows) (s : Same H H') : RowsT H' ls rows := Paired.mono (fun _ _ e => s _ _ e) h
theorem flat_len {rows : Rows} (h : ∀ r ∈ rows, r.length ≤ 4) : rows.flatten.length ≤ 4 * rows.length := by
  induction rows with
  | nil => simp
  | cons r rows ih =>
    rw [List.flatten_cons, List.length_append, List.length_cons]
    have := h r (List.mem_cons_self ..)
    have := ih fun r hr => h r (List.mem_cons_of_mem _ hr)
    omega
/-- a Staff -/
def StaffAt (C : Addr) (H : Hp) (o : Addr) (rows : Rows) : Prop := ∃ dx L Pp ts, H o = some (.ins C dx [("_lists", .ref L), ("_persons", .ref Pp)]) ∧ H L = some (.lst (ts.map .ref)) ∧ RowsT H ts rows ∧ H Pp = some (.lst ((uq rows.flatten).map txV))
def spInit (K : PySem.W.Frag) (C : Addr) : Sp := fun vs H Q _ => ∃ (o dx p : Addr) (ls : List Addr) (rows : Rows), vs = [.ref o, .ref p] ∧ H o = some (.ins C dx []) ∧ H p = some (.tup (ls.map .ref)) ∧ RowsL H ls rows ∧ RowsOk rows ∧ rows.length ≤ 12 ∧ (uq rows.flatten).length ≤ 8 ∧
  ∀ H', But o H H' → StaffAt C H' o rows → Q .non H'
section
variable {P : Program} {w : World} {K : PySem.W.Frag} {mg : Str → Option Value} {base : Heap}
theorem ok_init {C f fI fW : Addr} {fd fdI fdW : FuncData} {k : Nat} {t1 t2 : Tok} (F : Fun K "__init__" "Staff.__init__" sStaffInit f fd) (T : Cls K C) (nL : NoAttr K C "_lists") (nP : NoAttr K C "_persons") (It : Cal P w K mg base "is_team" (k + 3) ["value"] (spTeam K) fI fdI) (Wd : Cal P w K mg base "without_doubles" (k + 1) ["names"] (spOnce K) fW fdW)
    (b_len : mg "len" = none) (b_enumerate : mg "enumerate" = none) (b_tuple : mg "tuple" = none) (g_BUNDLES : mg "MOST_BUNDLES" = some (.int 12 t1)) (g_PERSONS : mg "MOST_PERSONS" = some (.int 8 t2)) :
    FnR P w K mg base CX0 (k + 4) f (fun vs H Q E => ∃ ws rest, vs = ws ++ rest ∧ ws.length = (["self"] : List Str).length ∧ rest.length ≤ sizeLine ∧ ∀ p, H p = Option.none → spInit K C (ws ++ [V.ref p]) (upd H p (.tup rest)) Q E) := by
  refine F.okStar (pv := "lists") (ps := ["self"]) scStaffInit (fun kV doc pm an cdv ct us rest h => StX.bind_star1 (B := fun vs => bindArgs _ ⟨vs, []⟩) (fun a => rfl) (fun a r rs => rfl) us rest h) (fun cdv A outer s H vs Q E hr h => ?_)
  obtain ⟨o, dx, p, ls, rows, rfl, ho, hp, hls, hok, h12, h8, q⟩ := h
  refine ⟨_, (pss_cons (ps_if (pt_cmpR op_gt (pe_callB call_len rfl b_len (by decide +kernel) (pa_cons (pv 1) pa_nil)) (pe_glob (v := .int 12) rfl g_BUNDLES ⟨_, rfl⟩) rfl) (pss_one ps_never) pss_nil)
      (pss_cons (ps_for PassesOwn.never rfl (pi_enumU rfl b_enumerate (pa_cons (pv 1) pa_nil)) (pg_tup rfl (pgs_cons (pg_name (i := 2) scStaffInit.nd rfl (.inl rfl)) (pgs_cons (pg_name (i := 3) scStaffInit.nd rfl (.inl rfl)) pgs_nil)))
        (pss_one (ps_if (pt_not (pt_val (pe_call It.ok (hr.mono (by omega)) rfl It.g It.kp It.b .nil pass0 (pa_cons (pv 3) pa_nil)))) (pss_one ps_never) pss_nil)))
      (pss_cons (ps_fld (pv 0) (pe_lc (own := [("row", 3)]) (g := gName 3) (tt := tYes) (te := tCB (rTupOf K) (tCons (tVar 3) tNil)) rfl scStaffInit.nd (pi_tup (pv 1)) (blkOk_by (own := [("row", 3)]) (N := ["self", "lists", "bundle", "row", "person"]) (sc := defScope sStaffInit) (by decide +kernel)) (fun _ _ _ _ _ => (pg_name (i := 3) scStaffInit.nd rfl (.inl rfl) (.inr rfl))) (fun _ _ _ _ _ => pts_nil) (fun _ _ _ _ _ => (pe_callTy call_tuple_of rfl b_tuple (by decide +kernel) (pa_cons (pv 3) pa_nil)))) rfl)
      (pss_cons (ps_fld (pv 0) (pe_call Wd.ok (hr.mono (by omega)) rfl Wd.g Wd.kp Wd.b .nil pass0 (pa_cons (pe_lc2 (own := [("row", 3), ("person", 4)]) (vs1 := [4]) (g := gName 3) (g1 := gName 4) (tt := tYes) (tt1 := tYes) (te := tVar 4) (wi1 := iList K (tVar 3)) rfl scStaffInit.nd (pi_tup (pv 1)) (blkOk_by (own := [("row", 3), ("person", 4)]) (N := ["self", "lists", "bundle", "row", "person"]) (sc := defScope sStaffInit) (by decide +kernel)) (by decide) (fun _ _ _ _ _ => (pg_name (i := 3) scStaffInit.nd rfl (.inl rfl) (.inr rfl))) (fun _ _ _ _ _ => pts_nil) (fun _ _ _ _ _ => (pi_list (pv 3))) (fun _ _ _ _ _ => (pg_name (i := 4) scStaffInit.nd rfl (.inl rfl) (.inr rfl))) (fun _ _ _ _ _ => pts_nil) (fun _ _ _ _ _ => (pv 4))) pa_nil)) rfl)
      (pss_one (ps_if (pt_cmpR op_gt (pe_callB call_len rfl b_len (by decide +kernel) (pa_cons (pe_fld (pv 0) rfl) pa_nil)) (pe_glob (v := .int 8) rfl g_PERSONS ⟨_, rfl⟩) rfl) (pss_one ps_never) pss_nil)))))), ?_⟩
  have hlen := hls.length
  refine ⟨_, rfl, _, _, rfl, .inr ⟨_, SqT.of hp, rfl⟩, _, _, rfl, rfl, _, rfl, ?_⟩
  rw [List.length_map, hlen, decide_eq_false (by omega)]
  refine iteF ?_
  refine ⟨_, rfl, p, _, rfl, .inr ⟨SqT.of hp, for_it walk_enumS (fun i σ' G => ∃ b2 b3, σ' = [some (.ref o), some (.ref p), b2, b3, none] ∧ Same H G) ⟨none, none, rfl, Same.refl H⟩ (fun i σ' G _ h => by obtain ⟨_, _, _, s⟩ := h; exact SqT.of (s _ _ hp)) ?_ ?_⟩⟩
  · rintro i x σ' G G' hi ⟨b2, b3, rfl, sG⟩ ⟨T, _, y, rfl, nT, rfl, e1, e2⟩
    cases e1
    rw [List.length_map, hlen] at hi
    obtain ⟨l, el, hl⟩ := paired_get hls i rows[i] (List.getElem?_eq_getElem hi)
    have ey : (ls.map V.ref)[i]? = some (.ref l) := by rw [List.getElem?_map, el]; rfl
    cases Option.some.inj (ey.symm.trans e2)
    refine ⟨T, _, rfl, SqT.of upd_same, rfl, _, _, rfl, _, _, rfl, rfl, ?_⟩
    have sT : Same G (upd G T (.tup [.int (0 + (i : Nat)), .ref l])) := same_upd nT
    generalize upd G T (.tup [.int (0 + (i : Nat)), .ref l]) = G2 at sT ⊢
    have hl2 := sT _ _ (sG _ _ hl)
    obtain ⟨o1, o2, o3⟩ := hok _ (List.getElem_mem hi)
    exact ⟨_, rfl, l, rows[i], rfl, SqL.of hl2, hl2, o1, o2, o3, fun H3 s3 => ⟨_, rfl, iteF ⟨_, _, rfl, (sG.trans sT).trans s3⟩⟩⟩
  · rintro σ' G ⟨b2, b3, rfl, sG⟩
    refine ⟨_, rfl, p, rfl, ⟨_, SqT.of (sG _ _ hp)⟩, fun D nD => lc_it walk_tup (fun i G2 => Same G G2 ∧ ∃ ts, G2 D = some (.lst (ts.map V.ref)) ∧ ts.length = i ∧ RowsT G2 ts (rows.take i)) ⟨same_upd nD, [], upd_same, rfl, .nil⟩ (fun i G2 _ h => SqT.of (h.1 _ _ (sG _ _ hp))) ?_ ?_⟩
    · rintro i x G2 G3 hi ⟨s2, ts, gD, tl, tr⟩ ⟨rfl, ex⟩
      rw [List.length_map, hlen] at hi
      obtain ⟨l, el, hl⟩ := paired_get hls i rows[i] (List.getElem?_eq_getElem hi)
      have ey : (ls.map V.ref)[i]? = some (.ref l) := by rw [List.getElem?_map, el]; rfl
      cases Option.some.inj (ey.symm.trans ex)
      refine ⟨rfl, ?_⟩
      unfold tYes
      have hl2 := s2 _ _ (sG _ _ hl)
      refine iteT ⟨_, rfl, l, _, rfl, .inl ⟨SqL.of hl2, fun t nt => ?_⟩⟩
      have s4 : Same G3 (upd G3 t (.tup (rows[i].map txV))) := same_upd nt
      refine ⟨_, s4 _ _ gD, ?_, ?_, ts ++ [t], ?_, ?_, ?_⟩
      · rw [List.length_map, tl]
        exact small1000' (by omega)
      · exact same_updF nD (s2.trans s4)
      · rw [upd_same, List.map_append]
        rfl
      · rw [List.length_append, tl]
        rfl
      · rw [take_snoc (List.getElem?_eq_getElem hi)]
        refine Paired.snoc (Paired.mono (fun a b e => ?_) tr) ?_
        · have ne : a ≠ D := fun z => by rw [z, gD] at e; cases e
          rw [upd_ne ne]
          exact s4 _ _ e
        · have ne : t ≠ D := fun z => by rw [z, gD] at nt; cases nt
          rw [upd_ne ne, upd_same]
    · rintro G2 ⟨s2, ts, gD, tl, tr⟩
      rw [List.length_map, hlen, List.take_length] at tr
      refine ⟨_, rfl, o, C, dx, _, rfl, s2 _ _ (sG _ _ ho), T, nL, (by show 0 < 1000; decide), ?_⟩
      have sH2 := sG.trans s2
      have nDH : H D = none := by
        cases e : H D with
        | none => rfl
        | some z => rw [sG _ _ e] at nD; cases nD
      have hk3 : ∀ b z, b ≠ o → G2 b = some z → upd G2 o (.ins C dx (putF "_lists" (.ref D) [])) b = some z := fun b z hb e => by rw [upd_ne hb]; exact e
      have po : p ≠ o := fun e => by rw [e, ho] at hp; cases hp
      have lo : ∀ l ∈ ls, l ≠ o := fun l hl e => by
        obtain ⟨r, hr⟩ := Cmb.paired_mem hls hl
        rw [e, ho] at hr
        cases hr
      have hp3 := hk3 _ _ po (sH2 _ _ hp)
      have ho3 : upd G2 o (.ins C dx (putF "_lists" (.ref D) [])) o = some (.ins C dx (putF "_lists" (.ref D) [])) := upd_same
      have DneO : D ≠ o := fun e => by rw [e, ho] at nDH; cases nDH
      have hD3 := hk3 _ _ DneO gD
      have hls3 : RowsL (upd G2 o (.ins C dx (putF "_lists" (.ref D) []))) ls rows := Cmb.paired_with hls fun a b m e => hk3 _ _ (lo a (List.of_mem_zip m).1) (sH2 _ _ e)
      have tr3 : RowsT (upd G2 o (.ins C dx (putF "_lists" (.ref D) []))) ts rows := Paired.mono (fun a b e => hk3 _ _ (fun z => by rw [z, sH2 _ _ ho] at e; cases e) e) tr
      have but3 : But o H (upd G2 o (.ins C dx (putF "_lists" (.ref D) []))) := fun b z hb e => hk3 _ _ hb (sH2 _ _ e)
      generalize upd G2 o (.ins C dx (putF "_lists" (.ref D) [])) = G3 at hp3 ho3 hD3 hls3 tr3 but3 ⊢
      have f4 : ∀ i, (rows.take i).flatten.length ≤ 48 := fun i => by
        have h1 := flat_len (rows := rows.take i) fun r hr => (hok r (List.mem_of_mem_take hr)).2.2
        rw [List.length_take] at h1
        omega
      refine ⟨_, rfl, p, rfl, ⟨_, SqT.of hp3⟩, fun D2 nD2 => gen_it walk_tup (fun i G => Same G3 G ∧ G D2 = some (.lst ((rows.take i).flatten.map txV))) ⟨same_upd nD2, upd_same⟩ (fun i G _ h => SqT.of (h.1 _ _ hp3)) ?_ ?_⟩
      · rintro i x G4 G5 hi ⟨s4, gD2⟩ ⟨rfl, ex⟩
        rw [List.length_map, hlen] at hi
        have er := List.getElem?_eq_getElem hi
        obtain ⟨l, el, hl⟩ := paired_get hls3 i rows[i] er
        have ey : (ls.map V.ref)[i]? = some (.ref l) := by rw [List.getElem?_map, el]; rfl
        cases Option.some.inj (ey.symm.trans ex)
        refine ⟨rfl, ?_⟩
        unfold tYes
        have hl4 := s4 _ _ hl
        refine iteT ⟨_, rfl, l, rfl, ⟨_, SqL.of hl4⟩, gen_it walk_list (fun j G => Same G3 G ∧ G D2 = some (.lst (((rows.take i).flatten ++ rows[i].take j).map txV))) ⟨s4, by rw [List.take_zero, List.append_nil]; exact gD2⟩ (fun j G _ h => SqL.of (h.1 _ _ hl)) ?_ ?_⟩
        · rintro j y G6 G7 hj ⟨s6, gD6⟩ ⟨rfl, ex6⟩
          rw [List.length_map] at hj
          have ej := List.getElem?_eq_getElem hj
          have ey6 : (rows[i].map txV)[j]? = some (txV rows[i][j]) := by rw [List.getElem?_map, ej]; rfl
          cases Option.some.inj (ey6.symm.trans ex6)
          refine ⟨rfl, ?_⟩
          refine iteT ⟨_, rfl, _, gD6, ?_, same_updF nD2 s6, ?_⟩
          · rw [List.length_map, List.length_append, List.length_take]
            have h1 := f4 i
            have h2 := (hok _ (List.getElem_mem hi)).2.2
            exact small1000' (by omega)
          · rw [upd_same, take_snoc ej, ← List.append_assoc, List.map_append (l₂ := [rows[i][j]])]
            rfl
        · rintro G6 ⟨s6, gD6⟩
          rw [List.length_map, List.take_length] at gD6
          refine ⟨s6, ?_⟩
          rw [take_snoc er, List.flatten_append]
          simpa using gD6
      · rintro G4 ⟨s4, gD2⟩
        rw [List.length_map, hlen, List.take_length] at gD2
        have h48 := f4 rows.length
        rw [List.take_length] at h48
        refine ⟨D2, rows.flatten, rfl, SqL.of gD2, by omega, fun q1 H5 nq1 s5 hq1 => ?_⟩
        refine ⟨_, rfl, o, C, dx, _, rfl, s5 _ _ (s4 _ _ ho3), T, nP, (by show 1 < 1000; decide), ?_⟩
        have ef : putF "_persons" (V.ref q1) (putF "_lists" (V.ref D) []) = ([("_lists", V.ref D), ("_persons", V.ref q1)] : List (Str × V)) := rfl
        rw [ef]
        have s35 : Same G3 H5 := s4.trans s5
        have nq3 : G3 q1 = none := by
          cases e : G3 q1 with
          | none => rfl
          | some z => rw [s4 _ _ e] at nq1; cases nq1
        have q1o : q1 ≠ o := fun e => by rw [e, ho3] at nq3; cases nq3
        have hk : ∀ b z, b ≠ o → H5 b = some z → upd H5 o (.ins C dx [("_lists", V.ref D), ("_persons", V.ref q1)]) b = some z := fun b z hb e => by rw [upd_ne hb]; exact e
        have hq6 := hk _ _ q1o hq1
        refine ⟨_, rfl, o, C, dx, _, _, rfl, upd_same, T, nP, rfl, _, _, rfl, .inl ⟨_, SqL.of hq6, rfl⟩, _, _, rfl, rfl, _, rfl, ?_⟩
        rw [List.length_map, decide_eq_false (by omega)]
        refine iteF (q _ (fun b z hb e => hk _ _ hb (s35 _ _ (but3 _ _ hb e))) ⟨dx, D, q1, ts, upd_same, hk _ _ DneO (s35 _ _ hD3), ?_, hq6⟩)
        exact Paired.mono (fun a b e => hk _ _ (fun z => by rw [z, ho3] at e; cases e) (s35 _ _ e)) tr3
end
end My

set_option Elab.async false
set_option linter.all false
set_option maxRecDepth 100000
namespace L2
open PySem PySem.Spec PyProof.Rows
/-- a generator def, by its body -/
theorem Fun.okG {P : Program} {w : World} {K : PySem.W.Frag} {mg : Str → Option Value} {base : Heap} {x qual : Str} {st : Stmt} {f : Addr} {fd : FuncData} {N ps : List Str} {k : Nat} {sp : SpG} (F : Fun K x qual st f fd) (S : GScope N ps (defScope st))
    (len : ∀ vs H Q E, sp vs H Q E → vs.length = ps.length)
    (hbody : ∀ (cdv : Value) (A : Around) (outer : List Env) (s : Shared) (H : Hp) (vs : List V) (Q : List V → Hp → Prop) (E : XK) (pn : List (Addr × Obj)), Room k (A.deeper (envOfC qual (defScope st) s.heap.objs.size f cdv)) → sp vs H Q E →
      ∃ t, GSs (gcxOf P w K mg base N qual (defScope st) f cdv A outer s H E pn) (defBody st) t ∧ t { nx := fun ys _ H' => Q ys H', rt := fun ys v H' => v = .non ∧ Q ys H' } [] (start N vs) H) :
    GFn P w K mg base (k + 1) f fd ps sp := by
  obtain ⟨oc, od, kV, doc, pm, an, cdv, ct, osl, rfl, lk, hcd⟩ := F.ex
  exact gfn_of lk hcd S len fun A outer s H vs Q E pn hr hsp => hbody cdv A outer s H vs Q E pn hr hsp
end L2
namespace My
open PySem PySem.Spec PyProof.Rows L2 SX LamX NdefX
abbrev sStaffGroups : Stmt := inClass (topS 16) 5
theorem scStaffGroups : GScope ["self", "most", "size", "group"] ["self", "most"] (defScope sStaffGroups) := ⟨rfl, rfl, rfl, by decide +kernel, rfl, by decide +kernel, by decide +kernel⟩
/-! ### the math of groups -/
def go (n : Nat) : Nat → List Nat → List (List Nat)
  | 0, _ => []
  | k + 1, ix => ix :: match Cmb.nxt n ix with | none => [] | some y => go n k y
/-- the ascending lists of r places below n -/
def combos (n r : Nat) : List (List Nat) := go n 100 (List.range r)
def cOk (n r : Nat) : Bool := Cmb.runs n (if r > n then 2 else 0) (List.range r) (combos n r) && decide ((combos n r).length ≤ 100) && (combos n r).all fun ix => decide (ix.length = r) && ix.all (· < n)
theorem cOk_all : ∀ n < 9, ∀ r < n + 1, cOk n r = true := by decide +kernel
/-- groups of up to m of n -/
def grp (n m : Nat) : List (List Nat) := (List.range (min m n + 1)).flatMap (combos n)
def pickN (ps : List (List Nat)) (ix : List Nat) : List (List Nat) := ix.map fun i => ps.getD i []
theorem picksV_tx {ps : List (List Nat)} {ix : List Nat} (h : ∀ i ∈ ix, i < ps.length) : Cmb.picksV (ps.map txV) ix = (pickN ps ix).map txV := by
  unfold Cmb.picksV pickN
  rw [List.map_map]
  refine List.map_congr_left fun i hi => ?_
  have e := List.getElem?_eq_getElem (h i hi)
  show (ps.map txV).getD i .non = txV (ps.getD i [])
  rw [List.getD_eq_getElem?_getD, List.getD_eq_getElem?_getD, List.getElem?_map, e]
  rfl
/-- new tuples of names -/
def NewT (H H' : Hp) (ps : List (List Nat)) (us : List Addr) (out : List (List Nat)) : Prop := Paired (fun u ix => H u = none ∧ H' u = some (.tup ((pickN ps ix).map txV))) us out
def soleOf (rows : Rows) (g : List (List Nat)) : List Nat := (List.range rows.length).filter fun k => (rows.getD k []).all fun x => decide (x ∈ g)
def intsV (l : List Nat) : List V := l.map fun (k : Nat) => V.int (k : Int)
def spPersons (C : Addr) : Sp := fun vs H Q _ => ∃ o rows, vs = [.ref o] ∧ StaffAt C H o rows ∧ ∀ q H', H q = none → Same H H' → H' q = some (.lst ((uq rows.flatten).map txV)) → Q (.ref q) H'
def spSole (K : PySem.W.Frag) (C : Addr) : Sp := fun vs H Q _ => ∃ o rows a g, vs = [.ref o, .ref a] ∧ StaffAt C H o rows ∧ rows.length ≤ 100 ∧ (∀ r ∈ rows, r.length ≤ 100) ∧ (SqL K H a (g.map txV) ∨ SqT K H a (g.map txV)) ∧ ∀ q H', H q = none → Same H H' → H' q = some (.lst (intsV (soleOf rows g))) → Q (.ref q) H'
def spSafe (C : Addr) : Sp := fun vs H Q _ => ∃ o rows, ∃ m : Int, vs = [.ref o, .int m] ∧ StaffAt C H o rows ∧ rows.length ≤ 100 ∧ ∀ H', Same H H' → Q (.bl (rows.all fun r => decide ((r.length : Int) > m))) H'
def spGrOf (K : PySem.W.Frag) : Sp := fun vs H Q _ => ∃ a ps, ∃ r : Nat, vs = [.ref a, .int r] ∧ SqL K H a (ps.map txV) ∧ ps.length ≤ 8 ∧ r ≤ ps.length ∧ ∀ q us H', H q = none → q ∉ us → us.Nodup → NewT H H' ps us (combos ps.length r) → Same H H' → H' q = some (.lst (us.map V.ref)) → Q (.ref q) H'
def spGroups (C : Addr) : SpG := fun vs H Q _ => ∃ o rows, ∃ m : Nat, vs = [.ref o, .int m] ∧ StaffAt C H o rows ∧ (uq rows.flatten).length ≤ 8 ∧ ∀ us H', Same H H' → us.Nodup → NewT H H' (uq rows.flatten) us (grp (uq rows.flatten).length m) → Q (us.map V.ref) H'
theorem StaffAt.same {C : Addr} {H H' : Hp} {o : Addr} {rows : Rows} (h : StaffAt C H o rows) (s : Same H H') : StaffAt C H' o rows := by
  obtain ⟨dx, L, Pp, ts, h1, h2, h3, h4⟩ := h
  exact ⟨dx, L, Pp, ts, s _ _ h1, s _ _ h2, h3.same s, s _ _ h4⟩
section
variable {P : Program} {w : World} {K : PySem.W.Frag} {mg : Str → Option Value} {base : Heap}
theorem ok_grof {f : Addr} {fd : FuncData} {k : Nat} (F : Fun K "groups_of" "groups_of" sGroupsOf f fd) (b_list : mg "list" = none) (g_combinations : mg "combinations" = some (.type "itertools.combinations")) : FnOk P w K mg base CX0 (k + 1) f fd ["persons", "size"] (spGrOf K) := by
  refine F.ok scGroupsOf (fun vs H Q E h => ?_) (fun cdv A outer s H vs Q E hr h => ?_)
  · obtain ⟨a, ps, r, rfl, _⟩ := h
    rfl
  · obtain ⟨a, ps, r, rfl, hs, h8, hr8, q⟩ := h
    refine ⟨_, (pss_one (ps_ret (Cmb.pe_listComb rfl rfl b_list rfl g_combinations (pa_cons (pv 0) (pa_cons (pv 1) pa_nil))))), ?_⟩
    have ck := cOk_all ps.length (by omega) r (by omega)
    unfold cOk at ck
    simp only [Bool.and_eq_true, decide_eq_true_eq, List.all_eq_true] at ck
    obtain ⟨⟨c1, c2⟩, c3⟩ := ck
    refine ⟨_, rfl, _, rfl, a, ps.map txV, r, combos ps.length r, rfl, hs, by omega, by rw [List.length_map]; omega, by rw [List.length_map]; exact c1, line_of (by omega), fun ix hix => by have := (c3 ix hix).1; omega, fun qa us H' n1 n2 nd pr ke hq => ?_⟩
    refine q qa us H' n1 n2 nd ?_ ?_ hq
    · refine Cmb.paired_with pr fun u ix hm e => ?_
      have hix := (List.of_mem_zip hm).2
      rw [picksV_tx fun i hi => (c3 ix hix).2 i hi] at e
      exact e
    · intro b o e
      rw [ke b (fun z => by rw [z, n1] at e; cases e) (fun z => by
        obtain ⟨_, p⟩ := Cmb.paired_mem pr z
        rw [p.1] at e
        cases e)]
      exact e
theorem ok_persons {C f : Addr} {fd : FuncData} {k : Nat} (F : Fun K "persons" "Staff.persons" sStaffPersons f fd) (T : Cls K C) (nP : NoAttr K C "_persons") (b_list : mg "list" = none) : FnOk P w K mg base CX0 (k + 1) f fd ["self"] (spPersons C) := by
  refine F.ok scStaffPersons (fun vs H Q E h => ?_) (fun cdv A outer s H vs Q E hr h => ?_)
  · obtain ⟨o, rows, rfl, _⟩ := h
    rfl
  · obtain ⟨o, rows, rfl, ⟨dx, L, Pp, ts, ho, hL, ht, hP⟩, q⟩ := h
    refine ⟨_, (pss_one (ps_ret (pe_callTy call_list_of rfl b_list (by decide +kernel) (pa_cons (pe_fld (pv 0) rfl) pa_nil)))), ?_⟩
    exact ⟨_, rfl, o, C, dx, _, _, rfl, ho, T, nP, rfl, Pp, _, rfl, .inl (SqL.of hP), fun l nl => q l _ nl (same_upd nl) upd_same⟩
theorem ok_safe {C f : Addr} {fd : FuncData} {k : Nat} (F : Fun K "is_safe" "Staff.is_safe" sStaffIsSafe f fd) (T : Cls K C) (nL : NoAttr K C "_lists") (b_len : mg "len" = none) (b_all : mg "all" = none) : FnOk P w K mg base CX0 (k + 1) f fd ["self", "most"] (spSafe C) := by
  refine F.ok scStaffIsSafe (fun vs H Q E h => ?_) (fun cdv A outer s H vs Q E hr h => ?_)
  · obtain ⟨o, rows, m, rfl, _⟩ := h
    rfl
  · obtain ⟨o, rows, m, rfl, ⟨dx, L, Pp, ts, ho, hL, ht, hP⟩, hz, q⟩ := h
    have hlen := ht.length
    refine ⟨_, (pss_one (ps_ret (pe_callB (cr_all rfl) rfl b_all (by decide +kernel) (pa_cons (pe_lc (own := [("row", 2)]) (g := gName 2) (tt := tYes) (te := tOp (rI0 fun i j => .bl (decide (i > j))) (tCB (rLenOf K) (tCons (tVar 2) tNil)) (tVar 1)) rfl scStaffIsSafe.nd (pi_list (pe_fld (pv 0) rfl)) (blkOk_by (own := [("row", 2)]) (N := ["self", "most", "row"]) (sc := defScope sStaffIsSafe) (by decide +kernel)) (fun _ _ _ _ _ => (pg_name (i := 2) scStaffIsSafe.nd rfl (.inl rfl) (.inr rfl))) (fun _ _ _ _ _ => pts_nil) (fun _ _ _ _ _ => (pe_cmpR op_gt (pe_callB call_len rfl b_len (by decide +kernel) (pa_cons (pv 2) pa_nil)) (pv 1) rfl))) pa_nil)))), ?_⟩
    refine ⟨_, rfl, o, C, dx, _, _, rfl, ho, T, nL, rfl, L, rfl, ⟨_, SqL.of hL⟩, fun D nD => lc_it walk_list (fun i G => Same H G ∧ G D = some (.lst (((rows.take i).map fun r => decide ((r.length : Int) > m)).map V.bl))) ⟨same_upd nD, upd_same⟩ (fun i G _ h => SqL.of (h.1 _ _ hL)) ?_ ?_⟩
    · rintro i x G G' hi ⟨sG, gD⟩ ⟨rfl, ex⟩
      rw [List.length_map, hlen] at hi
      have er := List.getElem?_eq_getElem hi
      obtain ⟨t, et, h1⟩ := paired_get ht i rows[i] er
      have ey : (ts.map V.ref)[i]? = some (.ref t) := by rw [List.getElem?_map, et]; rfl
      cases Option.some.inj (ey.symm.trans ex)
      refine ⟨rfl, ?_⟩
      unfold tYes
      refine iteT ⟨_, rfl, _, _, rfl, .inr ⟨_, SqT.of (sG _ _ h1), rfl⟩, _, rfl, _, _, rfl, rfl, _, gD, ?_, same_updF nD sG, ?_⟩
      · rw [List.length_map, List.length_map, List.length_take]
        exact small1000' (by omega)
      · rw [upd_same, take_snoc er, List.map_append, List.map_append, List.length_map]
        rfl
    · rintro G ⟨sG, gD⟩
      rw [List.length_map, hlen, List.take_length] at gD
      refine ⟨D, _, rfl, SqL.of gD, ?_⟩
      rw [List.all_map]
      exact q G sG
theorem range_filter_snoc (p : Nat → Bool) (i : Nat) : (List.range (i + 1)).filter p = (List.range i).filter p ++ (if p i = true then [i] else []) := by
  rw [List.range_succ, List.filter_append]
  congr 1
  cases h : p i <;> simp [h]
theorem ok_sole {C f : Addr} {fd : FuncData} {k : Nat} (F : Fun K "sole" "Staff.sole" sStaffSole f fd) (T : Cls K C) (nL : NoAttr K C "_lists") (b_enumerate : mg "enumerate" = none) (b_all : mg "all" = none) : FnOk P w K mg base CX0 (k + 1) f fd ["self", "group"] (spSole K C) := by
  refine F.ok scStaffSole (fun vs H Q E h => ?_) (fun cdv A outer s H vs Q E hr h => ?_)
  · obtain ⟨o, rows, a, g, rfl, _⟩ := h
    rfl
  · obtain ⟨o, rows, a, g, rfl, ⟨dx, L, Pp, ts, ho, hL, ht, hP⟩, hz, hz2, hg, q⟩ := h
    have hlen := ht.length
    refine ⟨_, (pss_one (ps_ret (pe_lc (own := [("bundle", 2), ("row", 3)]) (g := gTup K 2 (gCons (gName 2) (gCons (gName 3) gNil))) (tt := tB (tCB (rAll K) (tCons (tLc (iTup K (tVar 3)) (gName 4) tYes (tOp (rIn K false) (tVar 4) (tVar 1)) [4]) tNil))) (te := tVar 2) rfl scStaffSole.nd (pi_enumU rfl b_enumerate (pa_cons (pe_fld (pv 0) rfl) pa_nil)) (blkOk_by (own := [("bundle", 2), ("row", 3)]) (N := ["self", "group", "bundle", "row", "person"]) (sc := defScope sStaffSole) (by decide +kernel)) (fun _ _ _ _ _ => (pg_tup rfl (pgs_cons (pg_name (i := 2) scStaffSole.nd rfl (.inl rfl) (.inr rfl)) (pgs_cons (pg_name (i := 3) scStaffSole.nd rfl (.inl rfl) (.inr rfl)) pgs_nil)))) (fun _ _ _ _ _ => (pts_one (pt_val (pe_callB (cr_all rfl) rfl b_all (by decide +kernel) (pa_cons (pe_lc (own := [("person", 4)]) (g := gName 4) (tt := tYes) (te := tOp (rIn K false) (tVar 4) (tVar 1)) rfl scStaffSole.nd (pi_tup (pv 3)) (blkOk_by (own := [("person", 4)]) (N := ["self", "group", "bundle", "row", "person"]) rfl) (fun _ _ _ _ _ => (pg_name (i := 4) scStaffSole.nd rfl (.inl rfl) (.inr rfl))) (fun _ _ _ _ _ => pts_nil) (fun _ _ _ _ _ => (pe_cmpR op_in_seq (pv 4) (pv 1) rfl))) pa_nil))))) (fun _ _ _ _ _ => (pv 2))))), ?_⟩
    refine ⟨_, rfl, o, C, dx, _, _, rfl, ho, T, nL, rfl, L, _, rfl, .inl ⟨SqL.of hL, fun D nD => lc_it walk_enumS (fun i G => Same H G ∧ G D = some (.lst (intsV ((List.range i).filter fun k => (rows.getD k []).all fun x => decide (x ∈ g))))) ⟨same_upd nD, upd_same⟩ (fun i G _ h => h.1.seq (SqL.of hL)) ?_ ?_⟩⟩
    · rintro i x G G' hi ⟨sG, gD⟩ ⟨T', _, p, rfl, nT, rfl, e1, e2⟩
      cases e1
      rw [List.length_map, hlen] at hi
      have er := List.getElem?_eq_getElem hi
      obtain ⟨t, et, h1⟩ := paired_get ht i rows[i] er
      have ey : (ts.map V.ref)[i]? = some (.ref t) := by rw [List.getElem?_map, et]; rfl
      cases Option.some.inj (ey.symm.trans e2)
      refine ⟨T', _, rfl, SqT.of upd_same, rfl, _, _, rfl, _, _, rfl, rfl, rfl, ?_⟩
      have sT : Same G (upd G T' (.tup [.int (0 + (i : Nat)), .ref t])) := same_upd nT
      have gD' := sT _ _ gD
      generalize upd G T' (.tup [.int (0 + (i : Nat)), .ref t]) = G2 at sT gD' ⊢
      have s2 := sG.trans sT
      have ht2 := s2 _ _ h1
      refine ⟨_, rfl, t, rfl, ⟨_, SqT.of ht2⟩, fun D2 nD2 => lc_it walk_tup (fun j G3 => Same G2 G3 ∧ G3 D2 = some (.lst (((rows[i].take j).map fun x => decide (x ∈ g)).map V.bl))) ⟨same_upd nD2, upd_same⟩ (fun j G3 _ h => SqT.of (h.1 _ _ ht2)) ?_ ?_⟩
      · rintro j y G3 G4 hj ⟨s3, gD3⟩ ⟨rfl, ey⟩
        rw [List.length_map] at hj
        have ej := List.getElem?_eq_getElem hj
        have ey2 : (rows[i].map txV)[j]? = some (txV rows[i][j]) := by rw [List.getElem?_map, ej]; rfl
        cases Option.some.inj (ey2.symm.trans ey)
        refine ⟨rfl, ?_⟩
        unfold tYes
        refine iteT ⟨_, rfl, _, rfl, a, _, rfl, hg.imp (fun z => (s2.trans s3).seq z) (fun z => seqT_same (s2.trans s3) z), rfl, flat_tx g, _, gD3, ?_, same_updF nD2 s3, ?_⟩
        · rw [List.length_map, List.length_map, List.length_take]
          have := hz2 _ (List.getElem_mem hi)
          exact small1000' (by omega)
        · rw [upd_same, take_snoc ej, List.map_append, List.map_append]
          show some (HO.lst (_ ++ [V.bl (inV (txV rows[i][j]) (g.map txV))])) = _
          rw [inV_tx]
          rfl
      · rintro G3 ⟨s3, gD3⟩
        rw [List.length_map, List.take_length] at gD3
        refine ⟨D2, _, rfl, SqL.of gD3, _, rfl, ?_⟩
        rw [List.all_map]
        have gD4 := s3 _ _ gD'
        have ed : rows.getD i [] = rows[i] := by rw [List.getD_eq_getElem?_getD, er]; rfl
        have en : (rows[i].all (id ∘ fun x => decide (x ∈ g))) = (rows.getD i []).all fun x => decide (x ∈ g) := by rw [ed]; rfl
        rw [en]
        have fs := range_filter_snoc (fun k => (rows.getD k []).all fun x => decide (x ∈ g)) i
        refine ite2 (fun hc => ?_) (fun hc => ?_)
        · refine ⟨_, rfl, _, gD4, ?_, ?_, ?_⟩
          · unfold intsV
            rw [List.length_map]
            have := List.length_filter_le (fun k => (rows.getD k []).all fun x => decide (x ∈ g)) (List.range i)
            rw [List.length_range] at this
            exact small1000' (by omega)
          · exact same_updF nD (s2.trans s3)
          · rw [upd_same, fs, if_pos hc]
            unfold intsV
            rw [List.map_append, Int.zero_add]
            rfl
        · refine ⟨s2.trans s3, ?_⟩
          rw [fs, if_neg hc, List.append_nil]
          exact gD4
    · rintro G ⟨sG, gD⟩
      rw [List.length_map, hlen] at gD
      exact q D G nD sG gD
/-- for in a generator, over a walk -/
theorem gfor_it {J : It} {n : Nat} {G : Hp → Prop} {Y : Nat → Hp → V → Hp → Prop} (w : Walk J n G Y) {g : TG} {tb : TGn} {D : GEnds} {ys : List V} {σ : L2.St} {H : Hp} (Pv : Nat → List V → L2.St → Hp → Prop) (h0 : Pv 0 ys σ H) (hG : ∀ i ys σ H, i ≤ n → Pv i ys σ H → G H)
    (hs : ∀ i x ys σ H H', i < n → Pv i ys σ H → Y i H x H' → g x σ H' fun σ2 H2 => tb { D with nx := Pv (i + 1), ct := Pv (i + 1), bk := D.nx } ys σ2 H2) (hd : ∀ ys σ H, Pv n ys σ H → D.nx ys σ H) :
    ∃ W : Nat → Nat → List V → L2.St → Hp → Prop, (∃ m, W 0 m ys σ H) ∧ ∀ i m ys σ H, W i m ys σ H →
      (J.stop i H ∧ D.nx ys σ H) ∨ (J.go i H ∧ ∃ N : List V → L2.St → Hp → Prop, (∀ ys' σ' H', N ys' σ' H' → ∃ m', m' < m ∧ W (i + 1) m' ys' σ' H') ∧ ∀ x H', J.yld i H x H' → g x σ H' fun σ2 H2 => tb { D with nx := N, ct := N, bk := D.nx } ys σ2 H2) := by
  refine ⟨fun i m ys σ H => m = n - i ∧ i ≤ n ∧ Pv i ys σ H, ⟨n, by simp, Nat.zero_le _, h0⟩, ?_⟩
  rintro i m ys σ H ⟨rfl, hi, p⟩
  have q := hG i ys σ H hi p
  by_cases hlt : i < n
  · exact .inr ⟨w.goes i H hlt q, Pv (i + 1), fun ys' σ' H' p' => ⟨n - (i + 1), by omega, rfl, hlt, p'⟩, fun x H' y => hs i x ys σ H H' hlt p (w.yields i H x H' hlt q y)⟩
  · have e : i = n := by omega
    subst e
    exact .inl ⟨w.stops H q, hd ys σ H p⟩
theorem paired_app {α β : Type} {F : α → β → Prop} : ∀ {l₁ m₁ : List α} {l₂ m₂ : List β}, Paired F l₁ l₂ → Paired F m₁ m₂ → Paired F (l₁ ++ m₁) (l₂ ++ m₂)
  | _, _, _, _, .nil, h => h
  | _, _, _, _, .cons a t, h => .cons a (paired_app t h)
theorem NewT.same {H G G' : Hp} {ps : List (List Nat)} {us : List Addr} {out : List (List Nat)} (h : NewT H G ps us out) (s : Same G G') : NewT H G' ps us out := Paired.mono (fun _ _ e => ⟨e.1, s _ _ e.2⟩) h
theorem none_back {H G : Hp} {p : Addr} (s : Same H G) (h : G p = none) : H p = none := by
  cases e : H p with
  | none => rfl
  | some z => rw [s _ _ e] at h; cases h
theorem combos_len {n r : Nat} (hn : n ≤ 8) (hr : r ≤ n) : (combos n r).length ≤ 100 := by
  have ck := cOk_all n (by omega) r (by omega)
  unfold cOk at ck
  simp only [Bool.and_eq_true, decide_eq_true_eq] at ck
  exact ck.1.2
theorem flatC_len {n : Nat} (hn : n ≤ 8) : ∀ i, i ≤ n + 1 → ((List.range i).flatMap (combos n)).length ≤ 100 * i
  | 0, _ => by simp
  | i + 1, h => by
    rw [List.range_succ, List.flatMap_append, List.length_append]
    have := flatC_len hn i (by omega)
    have := combos_len hn (r := i) (by omega)
    simp only [List.flatMap_cons, List.flatMap_nil, List.append_nil]
    omega
theorem ok_groups {C f fP fG : Addr} {fd fdP fdG : FuncData} {k : Nat} (F : Fun K "groups" "Staff.groups" sStaffGroups f fd) (T : Cls K C) (nP : NoAttr K C "_persons") (mP : Meth K C "persons" fP) (Pe : FnOk P w K mg base CX0 (k + 1) fP fdP ["self"] (spPersons C)) (bP : Binds K fdP ["self"] [])
    (Go : FnOk P w K mg base CX0 (k + 1) fG fdG ["persons", "size"] (spGrOf K)) (gG : mg "groups_of" = some (.ref fG)) (kG : PySem.W.keepIn K (.ref fG) = true) (bG : Binds K fdG ["persons", "size"] []) (b_min : mg "min" = none) (b_len : mg "len" = none) (b_range : mg "range" = none) : GFn P w K mg base (k + 2) f fd ["self", "most"] (spGroups C) := by
  refine F.okG scStaffGroups (fun vs H Q E h => ?_) (fun cdv A outer s H vs Q E pn hr h => ?_)
  · obtain ⟨o, rows, m, rfl, _⟩ := h
    rfl
  · obtain ⟨o, rows, m, rfl, hS, h8, q⟩ := h
    refine ⟨_, (gss_cons (Gf.gs_for owns_gcx rfl (pi_range1 rfl b_range (pa_cons (pe_op op_add (pe_callB (call_min2 rfl) rfl b_min (by decide +kernel) (pa_cons (pv 1) (pa_cons (pe_callB call_len rfl b_len (by decide +kernel) (pa_cons (pe_fld (pv 0) rfl) pa_nil)) pa_nil))) pe_int) pa_nil)) (pg_name (i := 2) scStaffGroups.nd rfl (.inl rfl))
      (gss_cons (Gf.gs_for owns_gcx rfl (pi_list (pe_call Go hr rfl gG kG bG .nil pass0 (pa_cons (pe_meth0 (pv 0) T mP Pe hr bP .nil pass0) (pa_cons (pv 2) pa_nil)))) (pg_name (i := 3) scStaffGroups.nd rfl (.inl rfl)) (gss_cons (gs_yield (pv 3)) gss_nil)) gss_nil)) gss_nil), ?_⟩
    obtain ⟨dx, L, Pp, ts, ho, hL, ht, hP⟩ := id hS
    generalize hps : uq rows.flatten = ps at *
    have hmin : ((if (ps.length : Int) < (m : Int) then (ps.length : Int) else (m : Int)) + 1) = ((min m ps.length + 1 : Nat) : Int) := by
      split <;> omega
    refine ⟨_, rfl, _, rfl, o, C, dx, _, _, rfl, ho, T, nP, rfl, _, _, rfl, .inl ⟨_, SqL.of hP, rfl⟩, _, _, rfl, _, _, rfl, rfl, ?_⟩
    refine ⟨((min m ps.length + 1 : Nat) : Int), congrArg (fun z => [V.int z]) (by rw [List.length_map]; exact hmin), by omega, by omega, ?_⟩
    rw [Int.toNat_natCast]
    refine gfor_it (walk_range (lo := 0) (n := min m ps.length + 1)) (fun i ys σ' G => ∃ b2 b3 us, σ' = [some (.ref o), some (.int (m : Nat)), b2, b3] ∧ ys = us.map V.ref ∧ Same H G ∧ us.Nodup ∧ NewT H G ps us ((List.range i).flatMap (combos ps.length)))
      ⟨none, none, [], rfl, rfl, Same.refl H, List.nodup_nil, .nil⟩ (fun _ _ _ _ _ _ => trivial) ?_ ?_
    · rintro i x ys σ' G G' hi ⟨b2, b3, us, rfl, rfl, sG, nd, nt⟩ ⟨rfl, rfl⟩
      have hi' : i ≤ ps.length := by omega
      refine ⟨_, rfl, o, dx, _, rfl, sG _ _ ho, rfl, o, rows, rfl, hS.same sG, fun q1 H1 n1 s1 e1 => ?_⟩
      rw [hps] at e1
      refine ⟨_, rfl, q1, ps, i, ?_, SqL.of e1, by omega, hi', fun qa us1 H2 n2 nq nd1 nt1 s2 e2 => ?_⟩
      · show [V.ref q1, V.int (0 + (i : Int))] = _
        rw [Int.zero_add]
      have sAll := sG.trans (s1.trans s2)
      have l0 : us.length ≤ 900 := by
        have := nt.length
        have h2 := flatC_len (n := ps.length) (by omega) i (by omega)
        omega
      have l1 : us1.length ≤ 100 := by
        have := nt1.length
        have h2 := combos_len (n := ps.length) (r := i) (by omega) hi'
        omega
      refine ⟨qa, rfl, ⟨_, SqL.of e2⟩, gfor_it walk_list (fun j ys σ' G => ∃ b3, σ' = [some (.ref o), some (.int (m : Nat)), some (.int (0 + (i : Nat))), b3] ∧ ys = (us ++ us1.take j).map V.ref ∧ G = H2) ⟨b3, rfl, by rw [List.take_zero, List.append_nil], rfl⟩ (fun j ys σ' G _ h => by obtain ⟨_, _, _, rfl⟩ := h; exact SqL.of e2) ?_ ?_⟩
      · rintro j y ys σ2 G3 G4 hj ⟨b3, rfl, rfl, rfl⟩ ⟨rfl, ey⟩
        rw [List.length_map] at hj
        have ej := List.getElem?_eq_getElem hj
        have ey2 : (us1.map V.ref)[j]? = some (.ref us1[j]) := by rw [List.getElem?_map, ej]; rfl
        cases Option.some.inj (ey2.symm.trans ey)
        refine ⟨?_, _, rfl, _, rfl, ?_, rfl⟩
        · rw [List.length_map, List.length_append, List.length_take]
          exact small1000' (by omega)
        · rw [take_snoc ej, ← List.append_assoc, List.map_append (l₂ := [us1[j]])]
          rfl
      · rintro ys σ2 G3 ⟨b3, rfl, rfl, rfl⟩
        rw [List.length_map, List.take_length]
        have nt1' : NewT H G3 ps us1 (combos ps.length i) := Paired.mono (fun a b e => ⟨none_back (sG.trans s1) e.1, e.2⟩) nt1
        refine ⟨_, b3, us ++ us1, rfl, rfl, sAll, ?_, ?_⟩
        · refine List.nodup_append.mpr ⟨nd, nd1, fun a ha b hb e => ?_⟩
          obtain ⟨_, _, h1⟩ := Cmb.paired_mem nt ha
          obtain ⟨_, h2, _⟩ := Cmb.paired_mem nt1 hb
          rw [← e, s1 _ _ h1] at h2
          cases h2
        · rw [List.range_succ, List.flatMap_append]
          refine paired_app (nt.same (s1.trans s2)) ?_
          simp only [List.flatMap_cons, List.flatMap_nil, List.append_nil]
          exact nt1'
    · rintro ys σ' G ⟨b2, b3, us, rfl, rfl, sG, nd, nt⟩
      exact q us G sG nd nt
end
end My

set_option Elab.async false
set_option linter.all false
set_option maxRecDepth 100000
set_option maxHeartbeats 2000000
/-! a generator whose consumer fills the list at D and writes at fp as it likes -/
namespace Gf
open PySem PySem.Spec L2 PyProof.Rows
open Sem (wp)
structure SleptF (D : Addr) (fp : List Addr) (Φ : Heap → Prop) (v : Value) (s s' : Shared) : Prop where
  os : s'.os = s.os
  bare : AllBare s'.gens
  keep : ∀ b o, b ≠ D → b ∉ fp → s.heap.get? b = some o → s'.heap.get? b = some o
  own : ∀ acc c, s.heap.get? D = some (lstObj acc c) → ∃ c', s'.heap.get? D = some (lstObj (acc.push v) c')
  mine : ∀ b ∈ fp, ∃ o, s'.heap.get? b = some o ∧ ∀ v, o.data ≠ .cell v
  phi : Φ s'.heap
/-- what the consumer owns, as it stands -/
structure Mine (X : Cx) (D : Addr) (fp : List Addr) (Φ : Heap → Prop) : Prop where
  apart : ∀ b ∈ D :: fp, Apart X b
  pn : ∀ p ∈ X.pn, p.1 ∉ D :: fp
  nD : D ∉ fp
  frame : ∀ h h', Φ h → (∀ b ∈ fp, ∀ o, h.get? b = some o → h'.get? b = some o) → Φ h'
def GIF (X : Cx) (D : Addr) (fp : List Addr) (Φ : Heap → Prop) (ip : List (Addr × Obj)) (ys : List V) (σ : L2.St) (H : Hp) (s : Shared) : Prop :=
  ∃ (acc : Array Value) (c : Nat) (pl : List (Addr × Obj)), Vals ys acc.toList ∧ (∀ b ∈ fp, ∃ o, (b, o) ∈ pl) ∧ (∃ h0 : Heap, Φ h0 ∧ ∀ p ∈ pl, p.1 ∈ fp ∧ h0.get? p.1 = some p.2) ∧ Inv X (((D, lstObj acc c) :: pl) ++ ip) σ H s
section
variable {X : Cx} {D : Addr} {fp : List Addr} {Φ : Heap → Prop}
theorem GIF.off {ip : List (Addr × Obj)} {ys : List V} {σ : L2.St} {H : Hp} {s : Shared} (h : GIF X D fp Φ ip ys σ H s) : ∀ b ∈ D :: fp, H b = none ∧ b ≠ X.env.locals ∧ b ∉ X.fs := by
  obtain ⟨acc, c, pl, r, h1, h2, I⟩ := h
  intro b hb
  rcases List.mem_cons.mp hb with rfl | hb
  · obtain ⟨_, q1, q2, q3, _⟩ := I.pin (b, lstObj acc c) (List.mem_append_right _ (List.mem_append_left _ (List.mem_cons_self ..)))
    exact ⟨q1, q2, q3⟩
  · obtain ⟨o, ho⟩ := h1 b hb
    obtain ⟨_, q1, q2, q3, _⟩ := I.pin (b, o) (List.mem_append_right _ (List.mem_append_left _ (List.mem_cons_of_mem _ ho)))
    exact ⟨q1, q2, q3⟩
theorem GIF.lst {ip : List (Addr × Obj)} {ys : List V} {σ : L2.St} {H : Hp} {s : Shared} (h : GIF X D fp Φ ip ys σ H s) : ∃ (acc : Array Value) (c : Nat), Vals ys acc.toList ∧ s.heap.get? D = some (lstObj acc c) := by
  obtain ⟨acc, c, pl, r, h1, h2, I⟩ := h
  exact ⟨acc, c, r, (I.pin (D, lstObj acc c) (List.mem_append_right _ (List.mem_append_left _ (List.mem_cons_self ..)))).1⟩
theorem GIF.inv {ip : List (Addr × Obj)} {ys : List V} {σ : L2.St} {H : Hp} {s : Shared} (h : GIF X D fp Φ ip ys σ H s) : Inv X ip σ H s := by
  obtain ⟨acc, c, pl, r, h1, h2, I⟩ := h
  exact I.pins_of fun p hp => I.pin p (List.mem_append_right _ (List.mem_append_right _ hp))
theorem GIF.phi {ip : List (Addr × Obj)} {ys : List V} {σ : L2.St} {H : Hp} {s : Shared} (M : Mine X D fp Φ) (h : GIF X D fp Φ ip ys σ H s) : Φ s.heap := by
  obtain ⟨acc, c, pl, r, h1, ⟨h0, hp, h2⟩, I⟩ := h
  refine M.frame h0 _ hp fun b hb o e => ?_
  obtain ⟨o2, ho⟩ := h1 b hb
  have e2 := (h2 _ ho).2
  have eo : o = o2 := Option.some.inj (e.symm.trans e2)
  rw [eo]
  exact (I.pin (b, o2) (List.mem_append_right _ (List.mem_append_left _ (List.mem_cons_of_mem _ ho)))).1
theorem GIF.woken {ip : List (Addr × Obj)} {ys : List V} {x : V} {v : Value} {σ : L2.St} {H : Hp} {s s' : Shared} (M : Mine X D fp Φ) (hip : ∀ p ∈ ip, p.1 ∉ D :: fp) (h : GIF X D fp Φ ip ys σ H s) (rv : RelV x v) (z : SleptF D fp Φ v s s') : GIF X D fp Φ ip (ys ++ [x]) σ H s' := by
  have off := h.off
  obtain ⟨acc, c, r, eD⟩ := h.lst
  have I0 := h.inv
  have nt : ∀ b u, H b = some u → b ∉ D :: fp := fun b u q hb => by rw [(off b hb).1] at q; cases q
  obtain ⟨z1, z2, z3, z4, z5, z6⟩ := z
  obtain ⟨c', eD'⟩ := z4 acc c eD
  have keep : ∀ b o, b ∉ D :: fp → s.heap.get? b = some o → s'.heap.get? b = some o := fun b o hb e => by
    rw [List.mem_cons, not_or] at hb
    exact z3 b o hb.1 hb.2 e
  have there : ∀ b ∈ D :: fp, ∃ o, s'.heap.get? b = some o ∧ ∀ v, o.data ≠ .cell v := fun b hb => by
    rcases List.mem_cons.mp hb with rfl | hb
    · exact ⟨_, eD', fun v q => by cases q⟩
    · exact z5 b hb
  obtain ⟨hh, g, d, t, o⟩ := s'
  have ho : o = s.os := z1
  subst ho
  have J : Inv X ip σ H { s with heap := hh, gens := g, drawn := d, toks := t } := by
    refine I0.step (g' := g) (t' := t) (d' := d) (ch := D :: fp) (fun b hb => ?_)
      (fun b ob _ _ hc q _ => keep b ob hc q) (fun b ob _ _ hc q _ => ⟨ob.slots, keep b ob hc q⟩) (fun _ _ _ _ n => n) (fun b ob hc q => ?_)
      (fun _ _ q => q) (fun _ _ _ q => q) (fun b ps q => ⟨#[], by rw [q]; simp⟩) (fun m hm => ?_) (fun b u q => ?_) z2
    · obtain ⟨a1, a2, a3⟩ := M.apart b hb
      refine ⟨.inr a1, a2, a3, fun p hp => ?_⟩
      rcases List.mem_append.mp hp with hp | hp
      · exact fun e => M.pn p hp (e ▸ hb)
      · exact fun e => hip p hp (e ▸ hb)
    · exact ⟨ob, keep b ob hc q⟩
    · obtain ⟨ob, es, ep, ho, r⟩ := hm
      exact ⟨ob, es, ep, keep _ ob (fun hb => (off _ hb).2.1 rfl) ho, r⟩
    · refine (I0.hok b u q).stay (fun c v hc y => keep c v ?_ y) (fun _ y => y) fun _ _ y => y
      rcases hc with y | y
      · rw [y]; exact nt b u q
      · exact nt c _ y
  refine ⟨acc.push v, c', pinsAt fp hh, ?_, fun b hb => ?_, ⟨hh, z6, fun p hp => of_pinsAt hp⟩, J.pins_of fun p hp => ?_⟩
  · rw [Array.toList_push]
    exact r.append (.cons rv .nil)
  · obtain ⟨o, e, _⟩ := there b (List.mem_cons_of_mem _ hb)
    exact ⟨o, mem_pinsAt hb e⟩
  · rcases List.mem_append.mp hp with hp | hp
    · rcases List.mem_cons.mp hp with hp | hp
      · rw [hp]
        obtain ⟨q1, q2, q3⟩ := off D (List.mem_cons_self ..)
        exact ⟨eD', q1, q2, q3, fun v q => by cases q⟩
      · obtain ⟨hb, e⟩ := of_pinsAt hp
        obtain ⟨q1, q2, q3⟩ := off p.1 (List.mem_cons_of_mem _ hb)
        obtain ⟨o', e', hd⟩ := there p.1 (List.mem_cons_of_mem _ hb)
        have e'' : hh.get? p.1 = some o' := e'
        rw [e] at e''
        cases e''
        exact ⟨e, q1, q2, q3, hd⟩
    · exact J.pin p (List.mem_append_right _ hp)
end
/-! ### the protocol, a generator's statements -/
def GYF (X : Cx) (D : Addr) (fp : List Addr) (Φ : Heap → Prop) : Protocol := fun n s₀ v s kap =>
  ∃ ys x ip σ H, n + 1 + ys.length = sizeLine ∧ RelV x v ∧ GIF X D fp Φ ip ys σ H s ∧ ∀ s', SleptF D fp Φ v s s' → kap (.send .none) s'
def GRF (X : Cx) (D : Addr) (fp : List Addr) (Φ : Heap → Prop) (Q : List V → VK) (F : Value → Shared → Prop) : GenEnd := fun n s₀ r s => match r with
  | .ok (.ret u) => ∃ ys v ip σ H, n + ys.length = sizeLine ∧ GIF X D fp Φ ip ys σ H s ∧ RelV v u ∧ Q ys v H
  | .ok _ => False
  | .error e => F e s
def GSPF (X : Cx) (D : Addr) (fp : List Addr) (Φ : Heap → Prop) (ip : List (Addr × Obj)) (E : GEnds) (ys : List V) (f : Flow) (s : Shared) : Prop :=
  match f with
  | .next => ∃ σ H, GIF X D fp Φ ip ys σ H s ∧ E.nx ys σ H
  | .brk => ∃ σ H, GIF X D fp Φ ip ys σ H s ∧ E.bk ys σ H
  | .cont => ∃ σ H, GIF X D fp Φ ip ys σ H s ∧ E.ct ys σ H
  | .ret u => ∃ v σ H, GIF X D fp Φ ip ys σ H s ∧ RelV v u ∧ E.rt ys v H
structure GCF (X : Cx) (D : Addr) (fp : List Addr) (Φ : Heap → Prop) (ip : List (Addr × Obj)) (A : Around) (c : Code) (fs : List Frame) (gd : Bool → Bool) : Prop where
  mine : Mine X D fp Φ
  ip : ∀ p ∈ ip, p.1 ∉ D :: fp
  over : A.over c fs = X.A
  split : splitAtGen fs = none
  guard : fs.any Frame.guarded = false
  gd : gd false = false
structure GKF (X : Cx) (D : Addr) (fp : List Addr) (Φ : Heap → Prop) (ip : List (Addr × Obj)) (A : Around) (R : GenEnd) (c : Code) (fs : List Frame) (K : Flow → Sem PySem.Fin) (J : Value → Sem PySem.Fin) (E : GEnds) : Prop where
  ok : ∀ (n : Nat) (ys : List V) (s₀ s : Shared) (f : Flow), n + ys.length = sizeLine → GSPF X D fp Φ ip E ys f s → Seg (model X.prog X.w) A R (GYF X D fp Φ) n s₀ c (K f) fs s
  exc : ∀ (n : Nat) (s₀ : Shared) (e : Value) (s : Shared), X.xe e s → Seg (model X.prog X.w) A R (GYF X D fp Φ) n s₀ c (J e) fs s
structure GSF (X : Cx) (st : Stmt) (t : TGn) : Prop where
  run : ∀ (A : Around) (D : Addr) (fp : List Addr) (Φ : Heap → Prop) (ip : List (Addr × Obj)) (R : GenEnd) (n : Nat) (ys : List V) (s₀ : Shared) (c : Code) (fs : List Frame) (K : Flow → Sem PySem.Fin) (J : Value → Sem PySem.Fin) (gd : Bool → Bool) (lv : List Value → List Value) (s : Shared) (σ : L2.St) (H : Hp) (E : GEnds),
    GCF X D fp Φ ip A c fs gd → n + ys.length = sizeLine → GKF X D fp Φ ip A R c fs K J E → GIF X D fp Φ ip ys σ H s → t E ys σ H →
    Seg (model X.prog X.w) A R (GYF X D fp Φ) n s₀ c ((exec st X.env).wrap K J gd lv) fs s
structure GSsF (X : Cx) (st : List Stmt) (t : TGn) : Prop where
  run : ∀ (A : Around) (D : Addr) (fp : List Addr) (Φ : Heap → Prop) (ip : List (Addr × Obj)) (R : GenEnd) (n : Nat) (ys : List V) (s₀ : Shared) (c : Code) (fs : List Frame) (K : Flow → Sem PySem.Fin) (J : Value → Sem PySem.Fin) (gd : Bool → Bool) (lv : List Value → List Value) (s : Shared) (σ : L2.St) (H : Hp) (E : GEnds),
    GCF X D fp Φ ip A c fs gd → n + ys.length = sizeLine → GKF X D fp Φ ip A R c fs K J E → GIF X D fp Φ ip ys σ H s → t E ys σ H →
    Seg (model X.prog X.w) A R (GYF X D fp Φ) n s₀ c ((execs st X.env).wrap K J gd lv) fs s
section
variable {X : Cx} {st : Stmt} {rest : List Stmt}
theorem gssF_nil : GSsF X [] tG0 := by
  refine ⟨fun A D fp Φ ip R n ys s₀ c fs K J gd lv s σ H E g hn k hI ht => ?_⟩
  exact seg_execs_nil (k.ok n ys s₀ s .next hn ⟨σ, H, hI, ht⟩)
theorem gssF_cons {t u : TGn} (a : GSF X st t) (b : GSsF X rest u) : GSsF X (st :: rest) (tGThen t u) := by
  refine ⟨fun A D fp Φ ip R n ys s₀ c fs K J gd lv s σ H E g hn k hI ht => ?_⟩
  refine seg_execs_cons ?_
  refine a.run A D fp Φ ip R n ys s₀ c fs _ J gd lv s σ H { E with nx := fun ys' σ' H' => u E ys' σ' H' } g hn ⟨fun n' ys' s₀' s' f hn' hs => ?_, k.exc⟩ hI ht
  cases f with
  | next =>
    obtain ⟨σ', H', I', q⟩ := hs
    exact b.run A D fp Φ ip R n' ys' s₀' c fs K J gd lv s' σ' H' E g hn' k I' q
  | brk => exact k.ok n' ys' s₀' s' .brk hn' hs
  | cont => exact k.ok n' ys' s₀' s' .cont hn' hs
  | ret u => exact k.ok n' ys' s₀' s' (.ret u) hn' hs
theorem gsF_yield {e : Expr} {te : TE} {yp pos : Pos} (he : PE X e te) (hco : X.env.scope.isCoroutine = false := by rfl) (hi : interactive X.env = false := by rfl) : GSF X (.Expr (.Yield (some e) yp) pos) (tGYield te) := by
  refine ⟨fun A D fp Φ ip R n ys s₀ c fs K J gd lv s σ H E g hn k hI ht => ?_⟩
  obtain ⟨hlt, ht⟩ := ht
  obtain ⟨n, rfl⟩ : ∃ m, n = m + 1 := ⟨n - 1, by omega⟩
  obtain ⟨acc, cc, pl, r, p1, p2, I⟩ := hI
  refine seg_Expr_Yield g.split g.gd g.guard ?_ hco hi
  rw [g.over]
  refine wpAny_mono (he.run _ s σ H _ I ht) (fun v s' hv => ?_) fun x s' hx => k.exc _ s₀ x s' hx
  obtain ⟨x, H1, I1, rv, q⟩ := hv
  have G1 : GIF X D fp Φ ip ys σ H1 s' := ⟨acc, cc, pl, r, p1, p2, I1⟩
  intro kap hk
  refine ⟨ys, x, ip, σ, H1, hn, rv, G1, fun s'' z => hk .none s'' ?_⟩
  refine k.ok n (ys ++ [x]) s'' s'' .next ?_ ⟨σ, H1, G1.woken g.mine g.ip rv z, q⟩
  rw [List.length_append, List.length_singleton]
  omega
end
end Gf

set_option Elab.async false
set_option linter.all false
set_option maxRecDepth 100000
set_option maxHeartbeats 2000000
/-! for in such a generator -/
namespace Gf
open PySem PySem.Spec L2 PyProof.Rows
open Sem (wp)
section
variable {X : Cx} {tg : Expr}
theorem gcF_loop {D : Addr} {cf : List Addr} {Φ : Heap → Prop} {ip : List (Addr × Obj)} {A : Around} {c c' : Code} {fs : List Frame} {gd : Bool → Bool} {k : Result → Sem PySem.Fin} {l kp : List Value} {p : Pos} (g : GCF X D cf Φ ip A c fs gd) (hw : c'.weight = 0) (hu : c'.cUnits = 0) :
    GCF X D cf Φ ip A c' (.ret k none (gd false) l c p kp :: fs) id where
  mine := g.mine
  ip := g.ip
  over := (GenW.over_loop hw hu).trans g.over
  split := by
    show (splitAtGen fs).map _ = none
    rw [g.split]; rfl
  guard := by
    show (gd false || fs.any Frame.guarded) = false
    rw [g.gd, g.guard]; rfl
  gd := rfl
theorem segF_cameBack {D : Addr} {cf : List Addr} {Φ : Heap → Prop} {ip : List (Addr × Obj)} {A : Around} {R : GenEnd} {c : Code} {fs : List Frame} {K : Flow → Sem PySem.Fin} {J : Value → Sem PySem.Fin} {gd : Bool → Bool} {lv : List Value → List Value} {E : GEnds} {n : Nat} {s₀ s : Shared} {e : Value}
    (g : GCF X D cf Φ ip A c fs gd) (k : GKF X D cf Φ ip A R c fs K J E) (h : cameBackBy (model X.prog X.w) X.A X.env X.xe e s) :
    Seg (model X.prog X.w) A R (GYF X D cf Φ) n s₀ c (((Sem.raise e : Sem Flow).onRaise (cameBack X.env)).wrap K J gd lv) fs s := by
  show Seg _ _ _ _ _ _ _ (((cameBack X.env e).bind fun _ => (Sem.raise e : Sem Flow)).wrap K J gd lv) _ _
  rw [Sem.bind_eq_wrap, Sem.wrap_wrap]
  refine seg_wrap ?_
  rw [g.over]
  exact wpAny_mono h (fun _ s' hx => k.exc n s₀ e s' hx) fun x s' hx => k.exc n s₀ x s' hx
theorem gsF_for {iter : Expr} {body : List Stmt} {wi : TI} {g : TG} {tb : TGn} {pos : Pos} (hp : PassesOwn (model X.prog X.w) X.A X.env X.xe) (hc : X.calm = true) (hi : PI X tg iter wi) (hg : PG X tg g) (hb : GSsF X body tb)
    (hs : ∀ x, foldedSetIterable iter X.env x = pure x := by intro _; rfl) : GSF X (.For tg iter body [] pos) (tGFor wi g tb) := by
  refine ⟨fun A D cf Φ ip R n ys s₀ c fs K J gd lv s σ H E gc hn k hI ht => ?_⟩
  refine seg_For hs ?_
  rw [gc.over]
  obtain ⟨acc, cc, pl, r, p1, p2, I⟩ := hI
  refine wpAny_mono (hi.run _ s σ H _ I ht) (fun v s1 h1 => ?_) fun x s' hx => k.exc n s₀ x s' hx
  refine wpAny_mono h1 (fun itv s2 h2 => ?_) fun x s' hx => k.exc n s₀ x s' hx
  intro p
  obtain ⟨it, fp, tn, JJ, H2, e, I2, T, st2, f2, W, ⟨m0, w0⟩, turn⟩ := h2
  subst e
  have inpl : ∀ b ∈ D :: cf, ∃ q ∈ X.pn ++ (((D, lstObj acc cc) :: pl) ++ ip), q.1 = b := fun b hb => by
    rcases List.mem_cons.mp hb with rfl | hb
    · exact ⟨_, List.mem_append_right _ (List.mem_append_left _ (List.mem_cons_self ..)), rfl⟩
    · obtain ⟨o, ho⟩ := p1 b hb
      exact ⟨_, List.mem_append_right _ (List.mem_append_left _ (List.mem_cons_of_mem _ ho)), rfl⟩
  have fpS : ∀ b ∈ fp, b ∉ D :: cf := fun b hb hm => by
    obtain ⟨q, hq, e⟩ := inpl b hm
    exact (f2 b hb).2.2.2.2.2 q hq e
  have stat : ∀ {H' : Hp} (acc : Array Value) (cc : Nat) (pl : List (Addr × Obj)), (∀ q ∈ pl, q.1 ∈ cf) → (∀ b ∈ fp, H' b = none) → ∀ b ∈ fp, FpOk X (((D, lstObj acc cc) :: pl) ++ ip) H' b := fun acc cc pl hpl hn b hb => by
    obtain ⟨_, a1, a2, a3, a4, a5⟩ := f2 b hb
    refine ⟨hn b hb, a1, a2, a3, a4, fun q hq => ?_⟩
    rcases List.mem_append.mp hq with hq | hq
    · exact a5 q (List.mem_append_left _ hq)
    · rcases List.mem_append.mp hq with hq | hq
      · rcases List.mem_cons.mp hq with rfl | hq
        · exact fun e => fpS b hb (by rw [← e]; exact List.mem_cons_self ..)
        · exact fun e => fpS b hb (List.mem_cons_of_mem _ (e ▸ hpl q hq))
      · exact a5 q (List.mem_append_right _ (List.mem_append_right _ hq))
  have gl := fun (kk : Result → Sem PySem.Fin) => gcF_loop (k := kk) (c' := .forLoop tg (.ref it) body [] X.env) (l := lv []) (kp := []) (p := p) gc rfl rfl
  have loop : ∀ (m i n : Nat) (ys : List V) (s₀ s : Shared) (σ : L2.St) (H : Hp), n + ys.length = sizeLine → W i m ys σ H → GIF X D cf Φ ip ys σ H s → tn i s.heap → (∀ b ∈ fp, H b = none) →
      Seg (model X.prog X.w) A R (GYF X D cf Φ) n s₀ (.forLoop tg (.ref it) body [] X.env) ((model X.prog X.w).den (.forLoop tg (.ref it) body [] X.env))
        (.ret (fun r => ((match r with | .ok f => (.pure f : Sem Flow) | .error e => .raise e).onRaise (cameBack X.env)).wrap K J gd lv) none (gd false) (lv []) c p [] :: fs) s := by
    intro m
    induction m using Nat.strongRecOn with
    | ind m ih =>
      intro i n ys s₀ s σ H hn w hI st fr
      have ee : ∀ (n : Nat) (s₀ : Shared) (x : Value) (s' : Shared), X.xe x s' → Seg (model X.prog X.w) A R (GYF X D cf Φ) n s₀ (.forLoop tg (.ref it) body [] X.env)
          ((do noteFrame x X.env; theTreesLotGoes x : Sem Unit).wrap (fun _ => .raise x) .raise id id)
          (.ret (fun r => ((match r with | .ok f => (.pure f : Sem Flow) | .error e => .raise e).onRaise (cameBack X.env)).wrap K J gd lv) none (gd false) (lv []) c p [] :: fs) s' := fun n s₀ x s' hx => by
        refine seg_wrap ?_
        rw [(gl _).over]
        refine wpAny_bind (wpAny_mono (hp x s' hx) (fun _ s'' hcb => wpAny_theTreesLotGoes ?_) fun y s'' hcb => ?_)
        · exact seg_leaf (.error x) (segF_cameBack gc k hcb)
        · exact seg_leaf (.error y) (segF_cameBack gc k hcb)
      refine seg_forLoop ?_
      rw [(gl _).over]
      obtain ⟨acc, cc, pl, r, p1, p2, I⟩ := hI
      rcases turn i m ys σ H w with ⟨stop, qn⟩ | ⟨go, N, hN, step⟩
      · refine wpAny_mono (T.done X rfl rfl rfl hc i _ s σ H X.xe I (stat acc cc pl (fun q hq => by obtain ⟨_, _, z⟩ := p2; exact (z q hq).1) fr) st stop) (fun r' s4 h4 => ?_) fun x s' hx => ee n s₀ x s' hx
        obtain ⟨hr, I4⟩ := h4
        subst hr
        refine seg_again rfl ?_
        show Seg _ _ _ _ _ _ _ (leafOf (.ok .next)) _ _
        exact seg_leaf (.ok .next) (k.ok n ys s₀ s4 .next hn ⟨σ, H, ⟨acc, cc, pl, r, p1, p2, I4⟩, qn⟩)
      · refine wpAny_mono (T.item X rfl rfl rfl hc i _ s σ H X.xe I (stat acc cc pl (fun q hq => by obtain ⟨_, _, z⟩ := p2; exact (z q hq).1) fr) st go) (fun r' s4 h4 => ?_) fun x s' hx => ee n s₀ x s' hx
        obtain ⟨u, hr, h4⟩ := h4
        subst hr
        refine wpAny_mono h4 (fun _ s5 h5 => ?_) fun x s' hx => ee n s₀ x s' hx
        obtain ⟨x, H5, I5, r5, y5, st5, fr5⟩ := h5
        have I5' := I5.pinned (stat acc cc pl (fun q hq => by obtain ⟨_, _, z⟩ := p2; exact (z q hq).1) fr5) (T.obj _ _ st5)
        refine wpAny_mono (hg.run _ s5 σ H5 x u _ I5' r5 (step x H5 y5)) (fun _ s6 h6 => ?_) fun x s' hx => ee n s₀ x s' hx
        obtain ⟨σ6, H6, I6, q6⟩ := h6
        rw [List.append_assoc] at I6
        have glp := fun (kk : Result → Sem PySem.Fin) => (⟨(gl kk).mine, fun p hp => by
          rcases List.mem_append.mp hp with hp | hp
          · exact gc.ip p hp
          · exact fpS _ (of_pinsAt hp).1, (gl kk).over, (gl kk).split, (gl kk).guard, (gl kk).gd⟩ : GCF X D cf Φ (ip ++ pinsAt fp s5.heap) A _ _ _)
        have back : ∀ {ys' : List V} {σ7 : L2.St} {H7 : Hp} {s7 : Shared}, GIF X D cf Φ (ip ++ pinsAt fp s5.heap) ys' σ7 H7 s7 → GIF X D cf Φ ip ys' σ7 H7 s7 ∧ tn (i + 1) s7.heap ∧ ∀ b ∈ fp, H7 b = none := fun {ys' σ7 H7 s7} g7 => by
          obtain ⟨acc7, c7, pl7, r7, a7, b7, I7⟩ := g7
          have pinz : ∀ b ∈ fp, ∀ o, s5.heap.get? b = some o → s7.heap.get? b = some o ∧ H7 b = none := fun b hb o e =>
            let z := I7.pin (b, o) (List.mem_append_right _ (List.mem_append_right _ (List.mem_append_right _ (mem_pinsAt hb e))))
            ⟨z.1, z.2.1⟩
          refine ⟨⟨acc7, c7, pl7, r7, a7, b7, Inv.unpinned (pins := ((D, lstObj acc7 c7) :: pl7) ++ ip) (pl := pinsAt fp s5.heap) (by rw [List.append_assoc]; exact I7)⟩, T.keep _ _ _ st5 fun b hb o e => (pinz b hb o e).1, fun b hb => ?_⟩
          obtain ⟨o, e, d⟩ := T.obj _ _ st5 b hb
          exact (pinz b hb o e).2
        refine hb.run A D cf Φ (ip ++ pinsAt fp s5.heap) R n ys s₀ _ _ _ _ id id s6 σ6 H6 { E with nx := N, ct := N, bk := E.nx } (glp _) hn ⟨fun n' ys' s₀' s3 f hn' hs => ?_, fun n' s₀' x s3 hx => ee n' s₀' x s3 hx⟩ ⟨acc, cc, pl, r, p1, p2, I6⟩ q6
        cases f with
        | next =>
          obtain ⟨σ3, H3, I3, n3⟩ := hs
          obtain ⟨m', hm, w3⟩ := hN ys' σ3 H3 n3
          obtain ⟨b1, b2, b3⟩ := back I3
          exact seg_again rfl (ih m' hm (i + 1) n' ys' s₀' s3 σ3 H3 hn' w3 b1 b2 b3)
        | cont =>
          obtain ⟨σ3, H3, I3, n3⟩ := hs
          obtain ⟨m', hm, w3⟩ := hN ys' σ3 H3 n3
          obtain ⟨b1, b2, b3⟩ := back I3
          exact seg_again rfl (ih m' hm (i + 1) n' ys' s₀' s3 σ3 H3 hn' w3 b1 b2 b3)
        | brk =>
          obtain ⟨σ3, H3, I3, q3⟩ := hs
          exact seg_leaf (.ok .next) (k.ok n' ys' s₀' s3 .next hn' ⟨σ3, H3, (back I3).1, q3⟩)
        | ret v =>
          obtain ⟨x3, σ3, H3, I3, r3, q3⟩ := hs
          exact seg_leaf (.ok (.ret v)) (k.ok n' ys' s₀' s3 (.ret v) hn' ⟨x3, σ3, H3, (back I3).1, r3, q3⟩)
  exact loop m0 0 n ys s₀ s2 σ H2 hn w0 ⟨acc, cc, pl, r, p1, p2, I2⟩ st2 fun b hb => (f2 b hb).1
end
end Gf

set_option Elab.async false
set_option linter.all false
set_option maxRecDepth 100000
set_option maxHeartbeats 2000000
/-! such a generator, made by a call -/
namespace Gf
open PySem PySem.Spec L2 PyProof.Rows GenW
open Sem (wp)
def REndF (P : Program) (w : World) (outer : List Env) (H : Hp) (s : Shared) (D a : Addr) (cf : List Addr) (Φ : Heap → Prop) (g : Nat) (Q : List V → Hp → Prop) (E : XK) : GenEnd := fun n s₀ r s1 =>
  ((r = .ok (.ret .none) ∨ r = .ok .next) ∧ ∃ H' ys acc c, s1.os = s.os ∧ AllBare s1.gens ∧ Un (frs outer) [] H H' s.heap s1.heap ∧ HOk P w H' s1.heap ∧ (∀ b ∈ D :: cf, H' b = none) ∧ s1.heap.get? D = some (lstObj acc c) ∧ Vals ys acc.toList ∧ ys.length ≤ sizeLine ∧ Φ s1.heap ∧ Q ys H') ∨
  ∃ e, r = .error e ∧ CX P w outer H s E e s1 ∧ s1.heap.IsGen a g
def YItemF (s : Shared) (D a : Addr) (cf : List Addr) (Φ : Heap → Prop) (g : Nat) : Protocol := fun n s₀ v s1 kap =>
  s1.os = s.os ∧ AllBare s1.gens ∧ s1.heap.NoLimit ∧ s1.heap.IsGen a g ∧ Φ s1.heap ∧ (∃ (acc : Array Value) (c : Nat), s1.heap.get? D = some (lstObj acc c) ∧ n + 1 + acc.size = sizeLine) ∧ ∀ s', SleptF D cf Φ v s1 s' → kap (.send .none) s'
def GMadeF (P : Program) (w : World) (k : Nat) (outer : List Env) (H : Hp) (s : Shared) (Q : List V → Hp → Prop) (E : XK) (u : Value) (s' : Shared) : Prop :=
  ∃ (a : Addr) (g : Nat) (c : Code), u = .ref a ∧ s.heap.objs.size ≤ a ∧ a < s'.heap.objs.size ∧ s'.heap.IsGen a g ∧ s'.gens[g]? = some (.fresh c) ∧ s'.os = s.os ∧ AllBare s'.gens ∧ s'.heap.NoLimit ∧ (∀ b o, s.heap.get? b = some o → s'.heap.get? b = some o) ∧
    ∀ (A : Around) (D : Addr) (cf : List Addr) (Φ : Heap → Prop) (s2 : Shared), Room k A → A.frames = some outer → D ∉ cf → (∀ h h', Φ h → (∀ b ∈ cf, ∀ o, h.get? b = some o → h'.get? b = some o) → Φ h') → Φ s2.heap → (∀ b ∈ D :: cf, s'.heap.objs.size ≤ b) → (∀ b o, s'.heap.get? b = some o → s2.heap.get? b = some o) → (∃ c, s2.heap.get? D = some (lstObj #[] c)) →
      (∀ b ∈ cf, ∃ o, s2.heap.get? b = some o ∧ ∀ v, o.data ≠ .cell v) → s2.os = s.os → AllBare s2.gens →
      Seg (model P w) A (REndF P w outer H s D a cf Φ g Q E) (YItemF s D a cf Φ g) sizeLine s2 c ((model P w).den c) [] s2
structure GFnF (P : Program) (w : World) (K : PySem.W.Frag) (mg : Str → Option Value) (base : Heap) (k : Nat) (f : Addr) (fd : FuncData) (ps : List Str) (sp : SpG) : Prop where
  len : ∀ vs H Q E, sp vs H Q E → vs.length = ps.length
  run : ∀ (A : Around) (outer : List Env) (s : Shared) (H : Hp) (args : Args) (us : List Value) (vs : List V) (Q : List V → Hp → Prop) (E : XK), Room k A → Env0 P w K mg base A outer s H → BindsTo s fd args (ps.zip us) → Vals vs us → sp vs H Q E →
    codeAny (model P w) A (.call (.ref f) args) (fun r s' => match r with | .ok (.ret u) => GMadeF P w k outer H s Q E u s' | _ => False) s
theorem gfnF_of {P : Program} {w : World} {K : PySem.W.Frag} {mg : Str → Option Value} {base : Heap} {k : Nat} {f : Addr} {name qual : Str} {params : Arguments} {body : List Stmt} {scope : Scope} {dV kV doc pm cdv ct oc : Value} {an od : Option Addr}
    {osl : Array (Option Value)} {N ps : List Str} {sp : SpG} (lk : K.lookup f = some ⟨oc, od, .func (PySem.W.fnOf name qual params body scope dV kV doc pm an cdv ct), osl⟩) (hcd : PySem.W.codeIn K cdv qual = true) (S : GScope N ps scope)
    (len : ∀ vs H Q E, sp vs H Q E → vs.length = ps.length)
    (hbody : ∀ (A : Around) (outer : List Env) (s : Shared) (H : Hp) (vs : List V) (Q : List V → Hp → Prop) (E : XK) (pn : List (Addr × Obj)), Room k (A.deeper (envOfC qual scope s.heap.objs.size f cdv)) → sp vs H Q E →
      ∃ t, GSsF (gcxOf P w K mg base N qual scope f cdv A outer s H E pn) body t ∧ t { nx := fun ys _ H' => Q ys H', rt := fun ys v H' => v = .non ∧ Q ys H' } [] (start N vs) H) :
    GFnF P w K mg base (k + 1) f (PySem.W.fnOf name qual params body scope dV kV doc pm an cdv ct) ps sp := by
  refine ⟨len, fun A outer s H args us vs Q E hr e0 hb r hsp => ?_⟩
  have hl := len _ _ _ _ hsp
  have KX : K.In s.heap := e0.mod.kin.keeps fun b o e => (e0.bs b o e).1
  have lim : s.heap.NoLimit := e0.mod.nolimit.keeps fun b o e => (e0.bs b o e).1
  have hkind : ∀ y ∈ ps.zip us, scope.names.lookup y.1 = some .local ∨ (scope.names.lookup y.1 = some .cell ∧ ((cellsFrom (s.heap.objs.size + 1) scope.names []).lookup y.1).isSome = true) := fun ⟨n, v⟩ hy => by
    rcases S.par n (List.of_mem_zip hy).1 with q | q
    · exact .inl q
    · exact .inr ⟨q, PySem.W.cellsFrom_some _ _ _ (.inl q)⟩
  refine codeAny_call_generator hr.depth (KX _ _ lk) rfl S.co S.gen rfl (PySem.W.codeRec_of KX hcd) (hb _ _ _ _ ?_)
  refine wpAny_newFunctionEnv_cells S.kind hkind fun env he s1 x => ?_
  subst he
  have lim1 : s1.heap.NoLimit := lim.keeps x.toInCall.keep
  refine ⟨lim1, ?_⟩
  obtain ⟨h1, tk, es1, hk1⟩ := x.done
  have os1 : s1.os = s.os := by rw [es1]
  have gen1 : s1.gens = s.gens := by rw [es1]
  have lt1 : s.heap.objs.size < s1.heap.objs.size := x.toInCall.ns.lt
  have sz1 : s.heap.objs.size ≤ s1.heap.objs.size := Nat.le_of_lt lt1
  have kp1 : ∀ b o, s.heap.get? b = some o → s1.heap.get? b = some o := x.toInCall.keep
  have main : ∀ (go : Obj) (nm qn : Value) (tk2 : Nat), go.cls = .type "generator" → go.data = .fields #[.int s1.gens.size 0, nm, qn] → go.slots = #[] → (∀ h : Heap, (h.push go).get? h.objs.size = some go) →
      GMadeF P w (k + 1) outer H s Q E (.ref s1.heap.objs.size) { s1 with gens := s1.gens.push (.fresh (.func body (envOfC qual scope s.heap.objs.size f cdv))), toks := tk2, heap := s1.heap.push go } := by
    intro go nm qn tk2 hgc hgd0 hgs hgp
    have hgen : ∀ h : Heap, h.get? s1.heap.objs.size = some go → h.IsGen s1.heap.objs.size s1.gens.size := fun h e => ⟨go, nm, qn, e, hgc, hgd0, hgs⟩
    have hpushed : (s1.heap.push go).get? s1.heap.objs.size = some go := hgp _
    refine ⟨s1.heap.objs.size, s1.gens.size, _, rfl, sz1, ?_, hgen _ hpushed, Array.getElem?_push_size .., os1, ?_, lim1.keeps fun b o e => Heap.get?_push_of_some _ e, fun b o e => Heap.get?_push_of_some _ (kp1 b o e), ?_⟩
    · show _ < (s1.heap.push _).objs.size
      rw [Heap.size_push]; exact Nat.lt_succ_self _
    · exact AllBare.push (by rw [gen1]; exact e0.bare) rfl
    intro Aw D cf Φ s2 hrw hfr hDc hfrm hphi hcf hk2 hDo hco hos hba
    have e0w : Env0 P w K mg base Aw outer s H := ⟨hfr, e0.mod, e0.bs, e0.bsz, e0.funs, e0.frf, e0.hok, e0.bare⟩
    obtain ⟨t, ht, hq⟩ := hbody Aw outer s H vs Q E [(s1.heap.objs.size, go)] (hrw.deeper _) hsp
    have I1 : Inv (gcxOf P w K mg base N qual scope f cdv Aw outer s H E []) [] (start N vs) H s1 := inv_startG S hrw.hd e0w hl r x
    have kp2 : ∀ b o, s1.heap.get? b = some o → s2.heap.get? b = some o := fun b o e => hk2 b o (Heap.get?_push_of_some _ e)
    have I2 : Inv (gcxOf P w K mg base N qual scope f cdv Aw outer s H E []) [] (start N vs) H s2 :=
      I1.call' (ch := []) (hos.trans os1.symm) (Un.kept kp2) (I1.hok.kept kp2) hba fun b z => by simp at z
    have hlt : ∀ b ∈ D :: cf, s1.heap.objs.size < b := fun b hb => by
      have h0 : (s1.heap.push go).objs.size ≤ b := hcf b hb
      rw [Heap.size_push] at h0
      exact h0
    obtain ⟨cS, heS⟩ := hDo
    have hea : s2.heap.get? s1.heap.objs.size = some go := hk2 s1.heap.objs.size go hpushed
    have hgd : ∀ v, go.data ≠ .cell v := fun v q => by rw [hgd0] at q; cases q
    have young : ∀ b, s1.heap.objs.size ≤ b → H b = none ∧ b ≠ s.heap.objs.size ∧ b ∉ frs outer ∧ s.heap.objs.size ≤ b ∧ ∀ y c, (cellsFrom (s.heap.objs.size + 1) scope.names []).lookup y = some c → c ≠ b := fun b hb => by
      refine ⟨I1.hok.fresh hb, Nat.ne_of_gt (Nat.lt_of_lt_of_le lt1 hb), I1.nofs hb, Nat.le_trans sz1 hb, fun y c e z => ?_⟩
      obtain ⟨v, ob, ho, _⟩ := I1.cell y c e
      have := Heap.lt_size ho
      rw [z] at this
      exact absurd (Nat.lt_of_lt_of_le this hb) (Nat.lt_irrefl _)
    have hpn : ∀ p ∈ [(s1.heap.objs.size, go)], p.1 ∉ D :: cf := fun p hp hm => by
      rw [List.mem_singleton.mp hp] at hm
      exact Nat.lt_irrefl _ (hlt _ hm)
    have hG : GIF (gcxOf P w K mg base N qual scope f cdv Aw outer s H E [(s1.heap.objs.size, go)]) D cf Φ [] [] (start N vs) H s2 := by
      refine ⟨#[], cS, pinsAt cf s2.heap, .nil, fun b hb => ?_, ⟨s2.heap, hphi, fun p hp => of_pinsAt hp⟩, ?_⟩
      · obtain ⟨o, e, _⟩ := hco b hb
        exact ⟨o, mem_pinsAt hb e⟩
      · rw [List.append_nil]
        refine Inv.pinnedG I2 fun p hp => ?_
        rcases List.mem_append.mp hp with z | z
        · rw [List.mem_singleton.mp z]
          obtain ⟨y1, y2, y3, _, _⟩ := young s1.heap.objs.size (Nat.le_refl _)
          exact ⟨hea, y1, y2, y3, hgd⟩
        · rcases List.mem_cons.mp z with z | z
          · rw [z]
            obtain ⟨y1, y2, y3, _, _⟩ := young D (Nat.le_of_lt (hlt D (List.mem_cons_self ..)))
            exact ⟨heS, y1, y2, y3, fun v q => by cases q⟩
          · obtain ⟨hb, e⟩ := of_pinsAt z
            obtain ⟨y1, y2, y3, _, _⟩ := young p.1 (Nat.le_of_lt (hlt _ (List.mem_cons_of_mem _ hb)))
            obtain ⟨o', e', hd⟩ := hco p.1 hb
            rw [e] at e'
            cases e'
            exact ⟨e, y1, y2, y3, hd⟩
    have hM : Mine (gcxOf P w K mg base N qual scope f cdv Aw outer s H E [(s1.heap.objs.size, go)]) D cf Φ := by
      refine ⟨fun b hb => ?_, hpn, hDc, hfrm⟩
      obtain ⟨_, y2, _, y4, y5⟩ := young b (Nat.le_of_lt (hlt b hb))
      exact ⟨y4, y2, y5⟩
    have pinned : ∀ {ip : List (Addr × Obj)} {ys : List V} {s' : Shared} {σ' : L2.St} {H' : Hp}, GIF (gcxOf P w K mg base N qual scope f cdv Aw outer s H E [(s1.heap.objs.size, go)]) D cf Φ ip ys σ' H' s' → s'.heap.IsGen s1.heap.objs.size s1.gens.size := fun {ip ys s' σ' H'} hI => by
      obtain ⟨acc, cc, pl, _, _, _, J⟩ := hI
      exact hgen _ (J.pin (s1.heap.objs.size, go) (List.mem_append_left _ (List.mem_singleton.mpr rfl))).1
    refine seg_func ?_
    refine seg_imp (R := GRF (gcxOf P w K mg base N qual scope f cdv Aw outer s H E [(s1.heap.objs.size, go)]) D cf Φ (fun ys v H' => v = .non ∧ Q ys H') fun e s' => CX P w outer H s E e s' ∧ ∀ p ∈ [(s1.heap.objs.size, go)], s'.heap.get? p.1 = some p.2)
      (Y := GYF (gcxOf P w K mg base N qual scope f cdv Aw outer s H E [(s1.heap.objs.size, go)]) D cf Φ) (fun n s₀ r s1' hR => ?_) (fun n s₀ v s1' kap kap' hkk hY => ?_) sizeLine ?_
    · cases r with
      | error e =>
        obtain ⟨q1, q2⟩ := hR
        exact .inr ⟨e, rfl, q1, hgen _ (q2 (s1.heap.objs.size, go) (List.mem_singleton.mpr rfl))⟩
      | ok fl =>
        cases fl with
        | next => exact False.elim hR
        | brk => exact False.elim hR
        | cont => exact False.elim hR
        | ret u =>
          obtain ⟨ys, v, ip, σ', H', hn, hI, rv, ev, hQ⟩ := hR
          subst ev
          have eu : u = Value.none := rv
          subst eu
          obtain ⟨acc, cc, ra, ea⟩ := hI.lst
          have J := hI.inv
          exact .inl ⟨.inl rfl, H', ys, acc, cc, J.os, J.bare, J.base, J.hok, fun b hb => (hI.off b hb).1, ea, ra, by omega, hI.phi hM, hQ⟩
    · obtain ⟨ys, xx, ip, σ', H', hn, h2, hI, h3⟩ := hY
      obtain ⟨acc, cc, ra, ea⟩ := hI.lst
      have hg := pinned hI
      have J := hI.inv
      have hsz : acc.size = ys.length := by
        have e1 := ra.length
        have e2 : acc.toList.length = acc.size := by simp
        omega
      exact ⟨J.os, J.bare, J.nolimit, hg, hI.phi hM, ⟨acc, cc, ea, by rw [hsz]; exact hn⟩, fun s' z => hkk _ _ (h3 s' z)⟩
    · refine ht.run Aw D cf Φ [] _ sizeLine [] s2 _ [] _ _ id id s2 (start N vs) H _ ⟨hM, fun p hp => (by simp at hp), over_func, rfl, rfl, rfl⟩ (Nat.add_zero _) ⟨fun n ys s₀ s' fl hn hs => ?_, fun n s₀ e s' hx => ?_⟩ hG hq
      · cases fl with
        | next =>
          obtain ⟨σ', H', hI, hQ⟩ := hs
          exact seg_end (.ok (.ret .none)) ⟨ys, .non, [], σ', H', hn, hI, rfl, rfl, hQ⟩
        | brk => obtain ⟨_, _, _, q⟩ := hs; exact False.elim q
        | cont => obtain ⟨_, _, _, q⟩ := hs; exact False.elim q
        | ret u =>
          obtain ⟨v, σ', H', hI, rv, ev, hQ⟩ := hs
          exact seg_end (.ok (.ret u)) ⟨ys, v, [], σ', H', hn, hI, rv, ev, hQ⟩
      · refine seg_wrap ?_
        rw [over_func]
        refine wpAny_mono (show wpAny (model P w) (Aw.deeper (envOfC qual scope s.heap.objs.size f cdv)) (leaving (envOfC qual scope s.heap.objs.size f cdv) e) (fun _ s'' => CX P w outer H s E e s'' ∧ ∀ p ∈ [(s1.heap.objs.size, go)], s''.heap.get? p.1 = some p.2) (fun _ _ => False) s' from hx) (fun _ s'' q => ?_) fun _ s'' q => q.elim
        exact seg_end (.error e) q
  exact main _ _ _ _ rfl rfl rfl fun h => Heap.get?_push_size _ rfl
end Gf

set_option Elab.async false
set_option linter.all false
set_option maxRecDepth 100000
set_option maxHeartbeats 2000000
/-! [x for x in g], g a generator just made -/
namespace Gf
open PySem PySem.Spec L2 PyProof.Rows GenW
open Sem (wp)
structure PGenF (X : Cx) (k : Nat) (e : Expr) (tg : TGen) (E : XK) : Prop where
  run : ∀ (pins : List (Addr × Obj)) (s : Shared) (σ : L2.St) (H : Hp) (cont : List V → Hp → Prop), Inv X pins σ H s → tg σ H cont → wpAny (model X.prog X.w) X.A (eval e X.env)
    (fun u s' => ∃ H1 sc, Inv X pins σ H1 sc ∧ GMadeF X.prog X.w k X.stack H1 sc cont E u s') X.xe s
theorem ns_there {h : Heap} {C : Addr} {m : Str → Option Value} (hn : h.Ns C m) : ∃ o, h.get? C = some o ∧ ∀ v, o.data ≠ .cell v := by
  obtain ⟨o, es, ep, ho, hx, hd, _⟩ := hn
  exact ⟨o, ho, fun v e => by simp_all⟩
theorem pushCells_none : ∀ (names : List (Str × NameKind)) (h : Heap), (∀ z ∈ names, z.2 ≠ .cell) → pushCells h names = h
  | [], _, _ => rfl
  | (n, k) :: r, h, hz => by
    have ih := pushCells_none r h fun z hm => hz z (List.mem_cons_of_mem _ hm)
    have hk : k ≠ .cell := hz (n, k) (List.mem_cons_self ..)
    cases k <;> first | exact absurd rfl hk | exact ih
section
variable {X : Cx} {k : Nat} {tg : TGen} {E : XK} {y : Str} {iter : Expr} {scope : Scope} {pos py p2 : Pos}
theorem pe_genLc (hc : X.calm = true) (h : PGenF X k iter tg E) (hE : ∀ cls d H, ¬ E cls d H) (hr : Room (k + 1) X.A) (hk : scope.kind = .function) (hun : ∀ z ∈ scope.names, z.2 = .local → scope.names.lookup z.1 = some .local)
    (hfree : ∀ z ∈ scope.names, z.2 ≠ .free) (hcell : ∀ z ∈ scope.names, z.2 ≠ .cell) (hy : scope.names.lookup y = some .local) (hdb : (y == ("__debug__" : Str)) = false := by decide) (hs : ∀ x, foldedSetIterable iter X.env x = pure x := by intro _; rfl) :
    PE X (.ListComp (.Name y py) [⟨.Name y p2, iter, [], 0⟩] scope pos) (tListG tg) := by
  refine ⟨fun pins s σ H Q I hq => ?_⟩
  rw [eval_ListComp]
  refine wpAny_comprehension_free (use := none) rfl hs (closure_ok fun z hz e => absurd e (hfree z hz)) hk hun (thn (h.run pins s σ H _ I hq) fun u s1 ⟨H1, sc, I1, hG⟩ => ?_)
  obtain ⟨a, g, c, rfl, ha1, ha2, hg, hgs, hos, hb, hl, hkp, wake⟩ := hG
  refine wpAny_pyIter_gen hg ?_
  refine wpAny_newObj_type (newEnv_comp ?_) (by show 0 ≤ sizeLine; decide)
  rw [pushCells_none _ _ hcell]
  generalize hs3 : ({ s1 with heap := s1.heap.push { cls := .type "list", data := .seq ([] : List Value).toArray } } : Shared) = s3
  have h3 : s3.heap = s1.heap.push { cls := .type "list", data := .seq ([] : List Value).toArray } := by rw [← hs3]
  have hDC : s1.heap.objs.size < s3.heap.objs.size := by rw [h3, Heap.size_push]; exact Nat.lt_succ_self _
  show codeAny _ _ (.compStart (.ListComp (.Name y py) [⟨.Name y p2, iter, [], 0⟩] scope pos) 0 (.ref a) (.ref s1.heap.objs.size) (compEnvC scope (cellsFrom (s3.heap.objs.size + 1) scope.names (cloFrom X.env.cells scope.names [])) s3.heap.objs.size X.env)) (compPost (model X.prog X.w) X.A X.xe none (EP X pins σ Q) (.ref s1.heap.objs.size) s3.heap.objs.size) { s3 with heap := s3.heap.push { cls := .type "dict", data := .dict #[] } }
  generalize hce : compEnvC scope (cellsFrom (s3.heap.objs.size + 1) scope.names (cloFrom X.env.cells scope.names [])) s3.heap.objs.size X.env = ce
  have cL : ce.locals = s3.heap.objs.size := by subst hce; rfl
  have cK : ce.scope.kind = .function := by subst hce; exact hk
  have cY : ce.scope.names.lookup y = some .local := by subst hce; exact lookup_relabel_local hy
  have k13 : ∀ b o, s1.heap.get? b = some o → s3.heap.get? b = some o := fun b o e => by rw [h3]; exact Heap.get?_push_of_some _ e
  generalize hs4 : ({ s3 with heap := s3.heap.push { cls := .type "dict", data := .dict #[] } } : Shared) = s4
  have h4 : s4.heap = s3.heap.push { cls := .type "dict", data := .dict #[] } := by rw [← hs4]
  have k14 : ∀ b o, s1.heap.get? b = some o → s4.heap.get? b = some o := fun b o e => by rw [h4]; exact Heap.get?_push_of_some _ (k13 b o e)
  have g4 : s4.gens = s1.gens := by rw [← hs4, ← hs3]
  have o4 : s4.os = s1.os := by rw [← hs4, ← hs3]
  have hD4 : s4.heap.get? s1.heap.objs.size = some (lstObj #[] 0) := by
    rw [h4]
    refine Heap.get?_push_of_some _ ?_
    rw [h3]
    exact Heap.get?_push_size _ rfl
  have hC4 : s4.heap.Ns s3.heap.objs.size fun _ => none := by rw [h4]; exact Heap.Ns.new _ _
  have hcl : cStatics < s1.heap.objs.size := let ⟨_, hn, _⟩ := hl; hn.lt
  generalize hD : s1.heap.objs.size = D at *
  generalize hC : s3.heap.objs.size = C at *
  have hDa : D ≠ a := Nat.ne_of_gt ha2
  have hCa : C ≠ a := Nat.ne_of_gt (Nat.lt_trans ha2 hDC)
  have hh : X.A.handled = none := I1.ok.hd hc
  have hfrm : ∀ h h' : Heap, (∃ m, h.Ns C m) → (∀ b ∈ [C], ∀ o, h.get? b = some o → h'.get? b = some o) → ∃ m, h'.Ns C m := fun h h' ⟨m, hn⟩ kp => ⟨m, hn.at' fun o e => kp C (List.mem_singleton.mpr rfl) o e⟩
  have seg0 := wake X.A.in1 D [C] (fun h => ∃ m, h.Ns C m) (s4.setGen g .running) ⟨hr.hd, by have := hr.dp; show X.A.depth + 3 * k + 5 < _; omega, by have := hr.un; show X.A.units + 1 + 16 * k + 200 < _; omega⟩ I1.ok.frames (by rw [List.mem_singleton]; exact Nat.ne_of_lt hDC) hfrm ⟨_, hC4⟩
    (fun b hb => by
      rcases List.mem_cons.mp hb with rfl | hb
      · exact Nat.le_refl _
      · rw [List.mem_singleton.mp hb]; exact Nat.le_of_lt hDC) k14 ⟨0, hD4⟩ (fun b hb => by rw [List.mem_singleton.mp hb]; exact ns_there hC4) (o4.trans hos) (allBare_setGen (s := s4) (by rw [g4]; exact hb) rfl)
  have loop : codeAny (model X.prog X.w) X.A (.compLoop (.ListComp (.Name y py) [⟨.Name y p2, iter, [], 0⟩] scope pos) 0 (.ref a) (.ref D) ce) (compPost (model X.prog X.w) X.A X.xe none (EP X pins σ Q) (.ref D) C) s4 := by
    refine compLoop_any (fun m s' => (∃ mm, s'.heap.Ns C mm) ∧ s'.heap.IsGen a g ∧ s'.heap.NoLimit ∧ ∃ gs, s'.gens[g]? = some gs ∧ gs.Goes (model X.prog X.w) X.A.in1 (REndF X.prog X.w X.stack H1 sc D a [C] (fun h => ∃ m, h.Ns C m) g (fun out H2 => ∀ p, H2 p = none → Q (.ref p) (upd H2 p (.lst out))) E) (YItemF sc D a [C] (fun h => ∃ m, h.Ns C m) g) m (.send .none) (s'.setGen g .running)) ?_ sizeLine ⟨⟨_, hC4⟩, hg.keeps k14, hl.keeps k14, .fresh c, by rw [g4]; exact hgs, rfl, seg0⟩
    rintro m s5 ⟨⟨mm, n5⟩, hg5, hl5, gs, hgs5, hgo⟩
    have hgl : g < s5.gens.size := (Array.getElem?_eq_some_iff.mp hgs5).1
    refine wpAny_gsz (n := g + 1) hgl (next_genG (A := X.A) (Y := YItemF sc D a [C] (fun h => ∃ m, h.Ns C m) g) (F := fun n s₀ s1 => ∃ H' ys acc c, s1.os = sc.os ∧ AllBare s1.gens ∧ Un (frs X.stack) [] H1 H' sc.heap s1.heap ∧ HOk X.prog X.w H' s1.heap ∧ (∀ b ∈ D :: [C], H' b = none) ∧ s1.heap.get? D = some (lstObj acc c) ∧ Vals ys acc.toList ∧ ys.length ≤ sizeLine ∧ (∃ m, s1.heap.Ns C m) ∧ ∀ p, H' p = none → Q (.ref p) (upd H' p (.lst ys)))
      (Er := fun e s1 => CX X.prog X.w X.stack H1 sc E e s1 ∧ s1.heap.IsGen a g) hh hl5 (by have := hr.dp; omega) hg5 hgs5 hgo (fun v s₁ gs' hbare hv => ?_) (fun s₁ hp h' hk => ?_) fun e s₁ he => ?_)
    · intro hsz
      obtain ⟨os1, hb1, hl1, hg1, ⟨m1, nC1⟩, ⟨acc, c1, hS1, hasz⟩, hkap⟩ := hv
      have hsz1 : g < s₁.gens.size := by
        have q : (s₁.setGen g gs').gens.size = s₁.gens.size := setGen_size _ _ _
        have hsz' : g + 1 ≤ (s₁.setGen g gs').gens.size := hsz
        omega
      refine wpAny_pure ?_
      refine wpAny_assign_Name (wpAny_storeName_local (m := m1) (show ce.kindOf y = some .local from cY) (by rw [cL]; exact nC1) (fun h' nh sb => ?_) (by rw [cK]; rfl))
      rw [List.forIn_nil]
      refine wpAny_pure ?_
      rw [if_pos rfl]
      refine wpAny_Name (wpAny_loadName_local cK cY nh (v := v) (if_pos rfl) ?_) hdb
      rw [cL] at nh sb
      have hD' : h'.get? D = some (lstObj acc c1) := (sb.2 D (Nat.ne_of_lt hDC)).trans hS1
      refine append_at (its := acc) (n := c1) hD' (fun h'' sb2 e2 => ?_) (by omega)
      have keepAll : ∀ b o, b ≠ D → b ≠ C → s₁.heap.get? b = some o → h''.get? b = some o := fun b o hb1' hb2' e => (sb2.2 b hb1').trans ((sb.2 b hb2').trans e)
      have nC3 : h''.Ns C (fun x => if x = y then some v else m1 x) := nh.at' fun o e => (sb2.2 C (Nat.ne_of_gt hDC)).trans e
      cases m with
      | zero => exact False.elim (hkap { s₁ with heap := h'' } ⟨rfl, hb1, fun b o hb1' hb2' e => keepAll b o hb1' (fun z => hb2' (List.mem_singleton.mpr z)) e, fun acc' c' e => by
          rw [hS1] at e
          cases e
          exact ⟨_, e2⟩, fun b hb => by rw [List.mem_singleton.mp hb]; exact ns_there nC3, ⟨_, nC3⟩⟩)
      | succ n =>
        refine ⟨n, Nat.lt_succ_self n, ⟨_, nC3⟩, ?_, ?_, gs', setGen_at hsz1, ?_⟩
        · obtain ⟨o, nm, qn, ho, rr⟩ := hg1
          exact ⟨o, nm, qn, keepAll a o (Ne.symm hDa) (Ne.symm hCa) ho, rr⟩
        · obtain ⟨mc, hns, hnn⟩ := hl1
          exact ⟨mc, hns.at' fun o e => keepAll _ o (Nat.ne_of_lt hcl) (Nat.ne_of_lt (Nat.lt_trans hcl hDC)) e, hnn⟩
        · refine hkap _ ⟨rfl, allBare_setGen (s := s₁.setGen g gs') (allBare_setGen hb1 hbare) rfl, fun b o hb1' hb2' e => keepAll b o hb1' (fun z => hb2' (List.mem_singleton.mpr z)) e, fun acc' c' e => ?_, fun b hb => by rw [List.mem_singleton.mp hb]; exact ns_there nC3, ⟨_, nC3⟩⟩
          rw [hS1] at e
          cases e
          exact ⟨_, e2⟩
    · intro hsz
      obtain ⟨H', ys, acc, c1, os1, hb1, un, hok, hno, hS1, rv, hle, ⟨m1, nC1⟩, hQ⟩ := hp
      have hDs : sc.heap.objs.size ≤ D := Nat.le_trans ha1 (Nat.le_of_lt ha2)
      have I2 := Inv.drained (out := ys) I1 hDs hle (hk _ _ hS1) rv .nil (s' := { s₁.setGen g .finished with heap := h' }) os1 (allBare_setGen hb1 rfl) (un.trans (Un.kept hk)) (hok.kept hk) (hno D (List.mem_cons_self ..))
      refine ⟨m1, nC1.keeps hk, fun h'' sb => ?_⟩
      have hnC : upd H' D (.lst ys) C = none := by
        rw [upd_ne (Nat.ne_of_gt hDC)]
        exact hno C (List.mem_cons_of_mem _ (List.mem_singleton.mpr rfl))
      obtain ⟨f0, f1, f2, f3, f4, f5⟩ := I1.fpOk (H' := upd H' D (.lst ys)) (Nat.le_trans hDs (Nat.le_of_lt hDC)) hnC
      exact ⟨.ref D, _, I2.turned (t' := (s₁.setGen g .finished).toks) (fun b o hb e => (sb.2 b hb).trans e) f0 f1 f3 f4 f5, rfl, hQ D (hno D (List.mem_cons_self ..))⟩
    · exfalso
      obtain ⟨⟨a1, B, H', cls, d, _, _, _, _, _, _, _, hW⟩, _⟩ := he
      exact hE _ _ _ hW
  exact codeAny_compStart_list loop (wpAny_pyIter_gen (hg.keeps k14) loop)
end
end Gf

set_option Elab.async false
set_option linter.all false
set_option maxRecDepth 100000
set_option maxHeartbeats 2000000
/-! o.m(..) of a generator method, for a comprehension -/
namespace Gf
open PySem PySem.Spec L2 PyProof.Rows GenW
section
variable {X : Cx} {k : Nat} {f C : Addr} {fd : FuncData} {ps : List Str} {sp : SpG} {dvs : List V} {ds : List Value} {m : Str} {pos' apos : Pos} {o : Expr} {ta : TE}
theorem run_gfnF {pins : List (Addr × Obj)} {σ : L2.St} {H : Hp} {s : Shared} {us : List Value} {vs : List V} {cont : List V → Hp → Prop} {E : XK} {E1 : Value → Shared → Prop} (F : GFnF X.prog X.w X.K X.mg X.base k f fd ps sp) (hr : Room k X.A) (hb : Binds X.K fd ps ds) (hd : Vals dvs ds)
    (I : Inv X pins σ H s) (r : Vals vs us) (h : sp (vs ++ dvs) H cont E) :
    wpAny (model X.prog X.w) X.A (call (.ref f) us) (fun u s' => ∃ H1 sc, Inv X pins σ H1 sc ∧ GMadeF X.prog X.w k X.stack H1 sc cont E u s') E1 s := by
  have r2 : Vals (vs ++ dvs) (us ++ ds) := r.append hd
  have hl2 : (us ++ ds).length = ps.length := by rw [← r2.length]; exact F.len _ _ _ _ h
  refine wpAny_call (codeAny_mono (F.run X.A X.stack s H ⟨us, []⟩ (us ++ ds) (vs ++ dvs) cont E hr I.env0 (hb s us I.kIn hl2) r2 h) fun r s' hq => ?_)
  cases r with
  | error e => exact False.elim hq
  | ok fl =>
    cases fl with
    | ret u => exact ⟨H, s, I, hq⟩
    | next => exact False.elim hq
    | brk => exact False.elim hq
    | cont => exact False.elim hq
theorem pgenF_meth {E : XK} {pl : Sem Bool} {e : Expr} {es : List Expr} {t : TA} (he : PE X o ta) (c : Cls X.K C) (hm : Meth X.K C m f) (F : GFnF X.prog X.w X.K X.mg X.base k f fd ps sp) (hr : Room k X.A) (hb : Binds X.K fd ps ds) (hd : Vals dvs ds) (ha : PA X (e :: es) t)
    (hst : starEach (e :: es) X.env = (false, eval e X.env) :: starEach es X.env := by rfl) (hpl : (backTo pos' (starEach es X.env)).any (·.1) = false := by rfl)
    (ht : eval (.Call (.Attribute o m apos) (e :: es) [] pos') X.env = (do
      let ov ← eval o X.env
      standAt apos.atName
      let (f, first) ← holding [ov] (getMethod ov m pl)
      callWith pos' f first (backTo pos' (starEach (e :: es) X.env)) (backToKw pos' (keywordEach [] X.env))) := by rfl) :
    PGenF X k (.Call (.Attribute o m apos) (e :: es) [] pos') (tMethG C m sp dvs E ta t) E := by
  refine ⟨fun pins s σ H cont I h => ?_⟩
  refine PySem.W.methodCall_KW (pl := pl) (thn (he.run pins s σ H _ I h) fun u s1 ⟨x, H1, I1, rx, a, dx, fs, ex, ea, l, q⟩ => ?_) ht
  subst ex
  obtain rfl : u = Value.ref a := rx
  refine getmeth_ok I1 ea c hm l ?_
  refine PySem.W.callWith_K (first := [.ref a]) (h₀ := X.base) I.ok.mod.kin hm.kp (thn (ha.run pos' pins s1 σ H1 _ I1 q) fun us s2 ⟨vs, H2, I2, r, q2⟩ => ⟨I2.kIn, ?_⟩) hst hpl
  exact run_gfnF (us := .ref a :: us) (vs := .ref a :: vs) F hr hb hd I2 (.cons rfl r) q2
end
end Gf

set_option Elab.async false
set_option linter.all false
set_option maxRecDepth 100000
namespace L2
open PySem PySem.Spec PyProof.Rows
theorem Fun.okGF {P : Program} {w : World} {K : PySem.W.Frag} {mg : Str → Option Value} {base : Heap} {x qual : Str} {st : Stmt} {f : Addr} {fd : FuncData} {N ps : List Str} {k : Nat} {sp : SpG} (F : Fun K x qual st f fd) (S : GScope N ps (defScope st))
    (len : ∀ vs H Q E, sp vs H Q E → vs.length = ps.length)
    (hbody : ∀ (cdv : Value) (A : Around) (outer : List Env) (s : Shared) (H : Hp) (vs : List V) (Q : List V → Hp → Prop) (E : XK) (pn : List (Addr × Obj)), Room k (A.deeper (envOfC qual (defScope st) s.heap.objs.size f cdv)) → sp vs H Q E →
      ∃ t, Gf.GSsF (gcxOf P w K mg base N qual (defScope st) f cdv A outer s H E pn) (defBody st) t ∧ t { nx := fun ys _ H' => Q ys H', rt := fun ys v H' => v = .non ∧ Q ys H' } [] (start N vs) H) :
    Gf.GFnF P w K mg base (k + 1) f fd ps sp := by
  obtain ⟨oc, od, kV, doc, pm, an, cdv, ct, osl, rfl, lk, hcd⟩ := F.ex
  exact Gf.gfnF_of lk hcd S len fun A outer s H vs Q E pn hr hsp => hbody cdv A outer s H vs Q E pn hr hsp
end L2
namespace My
open PySem PySem.Spec PyProof.Rows L2 SX LamX NdefX
section
variable {P : Program} {w : World} {K : PySem.W.Frag} {mg : Str → Option Value} {base : Heap}
theorem ok_groupsF {C f fP fG : Addr} {fd fdP fdG : FuncData} {k : Nat} (F : Fun K "groups" "Staff.groups" sStaffGroups f fd) (T : Cls K C) (nP : NoAttr K C "_persons") (mP : Meth K C "persons" fP) (Pe : FnOk P w K mg base CX0 (k + 1) fP fdP ["self"] (spPersons C)) (bP : Binds K fdP ["self"] [])
    (Go : FnOk P w K mg base CX0 (k + 1) fG fdG ["persons", "size"] (spGrOf K)) (gG : mg "groups_of" = some (.ref fG)) (kG : PySem.W.keepIn K (.ref fG) = true) (bG : Binds K fdG ["persons", "size"] []) (b_min : mg "min" = none) (b_len : mg "len" = none) (b_range : mg "range" = none)   : Gf.GFnF P w K mg base (k + 2) f fd ["self", "most"] (spGroups C) := by
  refine F.okGF scStaffGroups (fun vs H Q E h => ?_) (fun cdv A outer s H vs Q E pn hr h => ?_)
  · obtain ⟨o, rows, m, rfl, _⟩ := h
    rfl
  · obtain ⟨o, rows, m, rfl, hS, h8, q⟩ := h
    refine ⟨_, (Gf.gssF_cons (Gf.gsF_for owns_gcx rfl (pi_range1 rfl b_range (pa_cons (pe_op op_add (pe_callB (call_min2 rfl) rfl b_min (by decide +kernel) (pa_cons (pv 1) (pa_cons (pe_callB call_len rfl b_len (by decide +kernel) (pa_cons (pe_fld (pv 0) rfl) pa_nil)) pa_nil))) pe_int) pa_nil)) (pg_name (i := 2) scStaffGroups.nd rfl (.inl rfl))
      (Gf.gssF_cons (Gf.gsF_for owns_gcx rfl (pi_list (pe_call Go hr rfl gG kG bG .nil pass0 (pa_cons (pe_meth0 (pv 0) T mP Pe hr bP .nil pass0) (pa_cons (pv 2) pa_nil)))) (pg_name (i := 3) scStaffGroups.nd rfl (.inl rfl)) (Gf.gssF_cons (Gf.gsF_yield (pv 3)) Gf.gssF_nil)) Gf.gssF_nil)) Gf.gssF_nil), ?_⟩
    obtain ⟨dx, L, Pp, ts, ho, hL, ht, hP⟩ := id hS
    generalize hps : uq rows.flatten = ps at *
    have hmin : ((if (ps.length : Int) < (m : Int) then (ps.length : Int) else (m : Int)) + 1) = ((min m ps.length + 1 : Nat) : Int) := by
      split <;> omega
    refine ⟨_, rfl, _, rfl, o, C, dx, _, _, rfl, ho, T, nP, rfl, _, _, rfl, .inl ⟨_, SqL.of hP, rfl⟩, _, _, rfl, _, _, rfl, rfl, ?_⟩
    refine ⟨((min m ps.length + 1 : Nat) : Int), congrArg (fun z => [V.int z]) (by rw [List.length_map]; exact hmin), by omega, by omega, ?_⟩
    rw [Int.toNat_natCast]
    refine gfor_it (walk_range (lo := 0) (n := min m ps.length + 1)) (fun i ys σ' G => ∃ b2 b3 us, σ' = [some (.ref o), some (.int (m : Nat)), b2, b3] ∧ ys = us.map V.ref ∧ Same H G ∧ us.Nodup ∧ NewT H G ps us ((List.range i).flatMap (combos ps.length)))
      ⟨none, none, [], rfl, rfl, Same.refl H, List.nodup_nil, .nil⟩ (fun _ _ _ _ _ _ => trivial) ?_ ?_
    · rintro i x ys σ' G G' hi ⟨b2, b3, us, rfl, rfl, sG, nd, nt⟩ ⟨rfl, rfl⟩
      have hi' : i ≤ ps.length := by omega
      refine ⟨_, rfl, o, dx, _, rfl, sG _ _ ho, rfl, o, rows, rfl, hS.same sG, fun q1 H1 n1 s1 e1 => ?_⟩
      rw [hps] at e1
      refine ⟨_, rfl, q1, ps, i, ?_, SqL.of e1, by omega, hi', fun qa us1 H2 n2 nq nd1 nt1 s2 e2 => ?_⟩
      · show [V.ref q1, V.int (0 + (i : Int))] = _
        rw [Int.zero_add]
      have sAll := sG.trans (s1.trans s2)
      have l0 : us.length ≤ 900 := by
        have := nt.length
        have h2 := flatC_len (n := ps.length) (by omega) i (by omega)
        omega
      have l1 : us1.length ≤ 100 := by
        have := nt1.length
        have h2 := combos_len (n := ps.length) (r := i) (by omega) hi'
        omega
      refine ⟨qa, rfl, ⟨_, SqL.of e2⟩, gfor_it walk_list (fun j ys σ' G => ∃ b3, σ' = [some (.ref o), some (.int (m : Nat)), some (.int (0 + (i : Nat))), b3] ∧ ys = (us ++ us1.take j).map V.ref ∧ G = H2) ⟨b3, rfl, by rw [List.take_zero, List.append_nil], rfl⟩ (fun j ys σ' G _ h => by obtain ⟨_, _, _, rfl⟩ := h; exact SqL.of e2) ?_ ?_⟩
      · rintro j y ys σ2 G3 G4 hj ⟨b3, rfl, rfl, rfl⟩ ⟨rfl, ey⟩
        rw [List.length_map] at hj
        have ej := List.getElem?_eq_getElem hj
        have ey2 : (us1.map V.ref)[j]? = some (.ref us1[j]) := by rw [List.getElem?_map, ej]; rfl
        cases Option.some.inj (ey2.symm.trans ey)
        refine ⟨?_, _, rfl, _, rfl, ?_, rfl⟩
        · rw [List.length_map, List.length_append, List.length_take]
          exact small1000' (by omega)
        · rw [take_snoc ej, ← List.append_assoc, List.map_append (l₂ := [us1[j]])]
          rfl
      · rintro ys σ2 G3 ⟨b3, rfl, rfl, rfl⟩
        rw [List.length_map, List.take_length]
        have nt1' : NewT H G3 ps us1 (combos ps.length i) := Paired.mono (fun a b e => ⟨none_back (sG.trans s1) e.1, e.2⟩) nt1
        refine ⟨_, b3, us ++ us1, rfl, rfl, sAll, ?_, ?_⟩
        · refine List.nodup_append.mpr ⟨nd, nd1, fun a ha b hb e => ?_⟩
          obtain ⟨_, _, h1⟩ := Cmb.paired_mem nt ha
          obtain ⟨_, h2, _⟩ := Cmb.paired_mem nt1 hb
          rw [← e, s1 _ _ h1] at h2
          cases h2
        · rw [List.range_succ, List.flatMap_append]
          refine paired_app (nt.same (s1.trans s2)) ?_
          simp only [List.flatMap_cons, List.flatMap_nil, List.append_nil]
          exact nt1'
    · rintro ys σ' G ⟨b2, b3, us, rfl, rfl, sG, nd, nt⟩
      exact q us G sG nd nt
end
end My

set_option Elab.async false
set_option linter.all false
set_option maxRecDepth 100000
/-! sorted(..) of a list of pairs (how many, a list of whole numbers) -/
namespace My
open PySem PySem.Spec PyProof.Rows L2
def encP (k : List Nat) : PyData := .tuple [.int (k.length : Int), .list ((k.map fun (x : Nat) => (x : Int)).map .int)]
/-- by length, then in order -/
def leK (p q : List Nat) : Bool := if q.length = p.length then !decide (q < p) else !decide (q.length < p.length)
theorem alikeI (a b : Int) : PySem.W.alike (.int a) (.int b) = true := by simp only [PySem.W.alike]
theorem alikeL (a b : List Int) : PySem.W.alike (.list (a.map .int)) (.list (b.map .int)) = true := by
  simp only [PySem.W.alike]
  exact PySem.W.alike_ints a b
theorem alikeP (a b : List Nat) : PySem.W.alike (encP a) (encP b) = true := by
  unfold encP
  simp only [PySem.W.alike, PySem.W.alikeAll, PySem.W.alike_ints, Bool.and_self]
theorem lt_cast : ∀ a b : List Nat, ((a.map fun (x : Nat) => (x : Int)) < (b.map fun (x : Nat) => (x : Int))) ↔ a < b := by
  intro a
  induction a with
  | nil => intro b; cases b <;> simp
  | cons x a ih =>
    intro b
    cases b with
    | nil => simp
    | cons y b =>
      have e : ((x : Int) = (y : Int)) ↔ x = y := by omega
      simp [List.cons_lt_cons_iff, ih, e]
theorem eqv_ints : ∀ xs ys : List Int, PyData.eqvAll (xs.map .int) (ys.map .int) = true → xs = ys
  | [], [], _ => rfl
  | [], _ :: _, h => by simp [PyData.eqvAll] at h
  | _ :: _, [], h => by simp [PyData.eqvAll] at h
  | x :: xs, y :: ys, h => by
    simp only [List.map_cons, PyData.eqvAll, PyData.eqv, Bool.and_eq_true, beq_iff_eq] at h
    rw [h.1, eqv_ints xs ys h.2]
theorem dataLe_enc {β : Type} (x : β → List Nat) : PySem.W.dataLe false (fun b => encP (x b)) = fun p q => leK (x p) (x q) := by
  funext p q
  show (!PySem.W.dataLt (encP (x q)) (encP (x p))) = _
  unfold encP leK
  rw [PySem.W.dataLt_pair (alikeI _ _) (alikeL _ _), PySem.W.dataLt_int]
  rw [PySem.W.dataLt_list]
  show (!if _ then (if _ then false else PySem.W.rowLt _ _) else _) = _
  rw [PySem.W.dataLt_ints]
  have ei : (PyData.int ((x q).length : Int)).eqv (.int ((x p).length : Int)) = (((x q).length : Int) == ((x p).length : Int)) := by simp only [PyData.eqv]
  have el : (PyData.list (((x q).map fun (x : Nat) => (x : Int)).map .int)).eqv (.list (((x p).map fun (x : Nat) => (x : Int)).map .int)) = PyData.eqvAll (((x q).map fun (x : Nat) => (x : Int)).map .int) (((x p).map fun (x : Nat) => (x : Int)).map .int) := by simp only [PyData.eqv]
  have e2 : decide (((x q).length : Int) < ((x p).length : Int)) = decide ((x q).length < (x p).length) := decide_eq_decide.mpr (by omega)
  have e3 : decide ((x q).map (fun (x : Nat) => (x : Int)) < (x p).map (fun (x : Nat) => (x : Int))) = decide (x q < x p) := decide_eq_decide.mpr (lt_cast _ _)
  rw [e2, e3, ei, el]
  have hE := eqv_ints ((x q).map fun (x : Nat) => (x : Int)) ((x p).map fun (x : Nat) => (x : Int))
  generalize PyData.eqvAll (((x q).map fun (x : Nat) => (x : Int)).map .int) (((x p).map fun (x : Nat) => (x : Int)).map .int) = E at hE ⊢
  by_cases h : (x q).length = (x p).length
  · rw [if_pos h, h]
    cases E with
    | true =>
      have hn : ¬ x q < x p := by
        rw [← lt_cast, hE rfl]
        exact List.lt_irrefl _
      rw [decide_eq_false hn]
      simp
    | false => simp
  · have h' : ¬ (((x q).length : Int) == ((x p).length : Int)) = true := by
      rw [beq_iff_eq]
      omega
    rw [if_neg h', if_neg h]
/-- sorted of such pairs; what they are is kept beside them -/
def rSortedD (K : PySem.W.Frag) : List V → Hp → VK → Prop := fun vs H Q => ∃ (a : Addr) (bs : List (V × List Nat)), vs = [V.ref a] ∧ SqL K H a (bs.map (·.1)) ∧ (∀ b ∈ bs, Dp K H b.1 (encP b.2)) ∧
  ∀ p, H p = none → Q (.ref p) (upd H p (.lst ((bs.mergeSort fun b c => leK b.2 c.2).map (·.1))))
theorem each_of : ∀ {bs : List (V × List Nat)} {us : List Value}, Vals (bs.map (·.1)) us → PySem.W.EachIs (fun u (b : V × List Nat) => RelV b.1 u) us bs := by
  intro bs
  induction bs with
  | nil => intro us r; cases r; exact .nil
  | cons b bs ih => intro us r; cases r with | cons h t => exact .cons h (ih t)
theorem each_back {bs : List (V × List Nat)} {us : List Value} (e : PySem.W.EachIs (fun u (b : V × List Nat) => RelV b.1 u) us bs) : Vals (bs.map (·.1)) us := by
  induction e with
  | nil => exact .nil
  | cons h t ih => exact .cons h ih
theorem depP (k : List Nat) : (encP k).depth = 2 := by
  unfold encP
  simp only [PyData.depth, PyData.depthAll, PySem.W.depth_ints]
  rfl
theorem cr_sortedD {X : Cx} (hu : X.A.units + 64 < cLine) : CallR X (.builtin "sorted") (rSortedD X.K) := by
  intro pins s σ H vs us Q I r h
  obtain ⟨a, bs, rfl, hs, hd, q⟩ := h
  obtain ⟨its, rv, hl, hz⟩ := I.list hs
  obtain ⟨u, rfl, ru⟩ := vals1 r
  obtain rfl : u = Value.ref a := ru
  have e := each_of rv
  have er : PySem.W.EachIs (fun v (b : V × List Nat) => ∃ as, Reads s.heap v (encP b.2) as) its bs := (PySem.W.each_mem e).mono fun u b ⟨r, m⟩ => Dp.reads I _ _ _ (hd b m) r
  rw [List.length_map] at hz
  refine PySem.W.sorted_data (vs := its) (bs := bs) (enc := fun b => encP b.2) (R := fun u b => RelV b.1 u) hl.isList e er (PySem.W.AllAlike.of fun b b' => alikeP b.2 b'.2) (PySem.W.Sortable.tuples fun b => ⟨_, _, rfl⟩) hz (fun b _ => by rw [depP]; omega) fun out ol oe => ?_
  rw [dataLe_enc (fun b : V × List Nat => b.2)] at oe
  obtain ⟨n, hn⟩ := sortedAll_at s.heap its (List.toArray out)
  refine ⟨.ref (s.heap.objs.size + 1), upd H (s.heap.objs.size + 1) (.lst ((bs.mergeSort fun b c => leK b.2 c.2).map (·.1))), I.laid (t' := s.toks) (fun b o e => sortedAll_old e) (Nat.le_succ _) ⟨?_, out, n, each_back oe, hn⟩, rfl, q _ (I.hok.fresh (Nat.le_succ _))⟩
  rw [List.length_map, List.length_mergeSort]
  exact hz
/-! what is sorted is known by what it holds -/
theorem leK_trans (a b c : List Nat) (h1 : leK a b = true) (h2 : leK b c = true) : leK a c = true := by
  unfold leK at *
  split at h1 <;> split at h2 <;> split <;> simp only [Bool.not_eq_true', decide_eq_false_iff_not] at * <;> first | omega | skip
  exact List.not_lt.mpr (List.le_trans (List.not_lt.mp h1) (List.not_lt.mp h2))
theorem leK_total (a b : List Nat) : (leK a b || leK b a) = true := by
  unfold leK
  by_cases h : a.length = b.length
  · rw [if_pos h.symm, if_pos h]
    by_cases h1 : b < a
    · have : ¬ a < b := fun z => List.lt_irrefl _ (List.lt_trans z h1)
      simp [this]
    · simp [h1]
  · rw [if_neg (fun z => h z.symm), if_neg h]
    simp
    omega
theorem leK_anti (a b : List Nat) (h1 : leK a b = true) (h2 : leK b a = true) : a = b := by
  unfold leK at *
  split at h1 <;> split at h2 <;> simp only [Bool.not_eq_true', decide_eq_false_iff_not] at * <;> try omega
  exact List.le_antisymm (List.not_lt.mp h1) (List.not_lt.mp h2)
theorem sorted_is {bs : List (V × List Nat)} {g : List (List Nat)} (hp : (bs.map (·.2)).Perm g) (hg : g.Pairwise fun a b => leK a b = true) : ((bs.mergeSort fun b c => leK b.2 c.2).map (·.2)) = g := by
  have h1 : (bs.mergeSort fun b c => leK b.2 c.2).Pairwise fun b c => leK b.2 c.2 = true := List.pairwise_mergeSort (fun a b c => leK_trans a.2 b.2 c.2) (fun a b => leK_total a.2 b.2) bs
  have h2 : ((bs.mergeSort fun b c => leK b.2 c.2).map (·.2)).Pairwise fun a b => leK a b = true := List.pairwise_map.mpr h1
  have h3 : ((bs.mergeSort fun b c => leK b.2 c.2).map (·.2)).Perm g := ((List.mergeSort_perm bs _).map _).trans hp
  exact List.Perm.eq_of_pairwise (fun a b _ _ => leK_anti a b) h2 hg h3
end My

set_option Elab.async false
set_option linter.all false
set_option maxRecDepth 100000
namespace My
def fd : Nat → List (List Nat)
  | 0 => [[]]
  | k + 1 => fd k ++ (fd k).map (· ++ [k])
def pairsOk : List (List Nat) → Bool
  | a :: b :: l => leK a b && pairsOk (b :: l)
  | _ => true
theorem pairsOk_pw : ∀ {l : List (List Nat)}, pairsOk l = true → l.Pairwise fun a b => leK a b = true
  | [], _ => .nil
  | [a], _ => List.pairwise_singleton _ _
  | a :: b :: l, h => by
    unfold pairsOk at h
    rw [Bool.and_eq_true] at h
    have ih := pairsOk_pw h.2
    refine List.Pairwise.cons (fun c hc => ?_) ih
    rcases List.mem_cons.mp hc with rfl | hc
    · exact h.1
    · exact leK_trans a b c h.1 ((List.pairwise_cons.mp ih).1 c hc)
theorem fd_perm : ∀ n < 9, (fd n).isPerm (grp n n) = true := by decide +kernel
theorem grp_ok : ∀ n < 9, pairsOk (grp n n) = true := by decide +kernel
theorem grp_cut : ∀ n < 9, ∀ m < n + 1, (grp n n).filter (fun s => decide (s.length ≤ m)) = grp n m := by decide +kernel
end My

set_option Elab.async false
set_option linter.all false
set_option maxRecDepth 100000
namespace My
open PySem PySem.Spec PyProof.Rows L2 SX LamX NdefX
abbrev sLawOver : Stmt := topS 27
theorem scLawOver : FnScope ["bag", "pool", "left", "found", "k"] ["bag", "pool"] (defScope sLawOver) := ⟨rfl, rfl, rfl, by decide +kernel, rfl, by decide +kernel, by decide +kernel⟩
abbrev sLawPersons : Stmt := topS 28
theorem scLawPersons : FnScope ["rows", "found", "row", "name"] ["rows"] (defScope sLawPersons) := ⟨rfl, rfl, rfl, by decide +kernel, rfl, by decide +kernel, by decide +kernel⟩
abbrev sLawSole : Stmt := topS 30
theorem scLawSole : FnScope ["rows", "group", "k", "name"] ["rows", "group"] (defScope sLawSole) := ⟨rfl, rfl, rfl, by decide +kernel, rfl, by decide +kernel, by decide +kernel⟩
theorem pe_never {X : Cx} {e : Expr} : PE X e (fun _ _ _ => False) := ⟨fun _ _ _ _ _ _ h => h.elim⟩
abbrev pdS (l : List Nat) : PyData := .str (S l)
def Cod (l : List Nat) : Prop := ∀ c ∈ l, c < 1114112
theorem Nm.cod {l : List Nat} (h : Nm l) : Cod l := fun c hc => by have := h.lo c hc; omega
theorem dp_tx {K : PySem.W.Frag} {H : Hp} : ∀ es : List (List Nat), DpAll K H (es.map txV) (es.map pdS)
  | [] => .nil
  | e :: es => .cons (.str (S e)) (dp_tx es)
theorem strOk_S {l : List Nat} (h : Cod l) : PyData.strOk (S l) = true := by
  unfold PyData.strOk
  rw [Array.all_eq_true]
  intro i hi
  have hi' : i < l.length := by simpa using hi
  have := h l[i] (List.getElem_mem hi')
  simpa using this
theorem lay_tx : ∀ es : List (List Nat), (∀ e ∈ es, Cod e) → PyData.canLayAll0 (es.map pdS) = true ∧ PyData.depthAll (es.map pdS) = 0
  | [], _ => ⟨by simp [PyData.canLayAll0], by simp [PyData.depthAll]⟩
  | e :: es, h => by
    obtain ⟨h1, h2⟩ := lay_tx es (fun x hx => h x (List.mem_cons_of_mem _ hx))
    have h3 := strOk_S (h e List.mem_cons_self)
    exact ⟨by simp [PyData.canLayAll0, PyData.canLay0, h1, h3], by simp [PyData.depthAll, PyData.depth, h2]⟩
theorem shaped_lst {es : List (List Nat)} (h : ∀ e ∈ es, Cod e) : SeqAt.shaped (.list (es.map pdS)) = true := by
  obtain ⟨h1, h2⟩ := lay_tx es h
  unfold SeqAt.shaped
  simp [PyData.canLay0, PyData.depth, h1, h2]
theorem eqv_nil (l : List (List Nat)) : PyData.eqv (.list (l.map pdS)) (.list []) = decide (l = []) := by
  cases l with
  | nil => simp [PyData.eqv, PyData.eqvAll]
  | cons a l => simp [PyData.eqv, PyData.eqvAll]
theorem eq_nil {K : PySem.W.Frag} {H : Hp} {a z : Addr} {l : List (List Nat)} {Q : VK} (hl : SqL K H a (l.map txV)) (hz : SqL K H z []) (hc : ∀ e ∈ l, Cod e) (q : Q (.bl (decide (l = []))) H) : rEqD K (.ref a) (.ref z) H Q :=
  ⟨_, _, .lst hl (dp_tx l), .lst hz .nil, shaped_lst hc, by decide +kernel, by rw [eqv_nil]; exact q⟩
theorem ne_nil {K : PySem.W.Frag} {H : Hp} {a z : Addr} {l : List (List Nat)} {Q : VK} (hl : SqL K H a (l.map txV)) (hz : SqL K H z []) (hc : ∀ e ∈ l, Cod e) (q : Q (.bl (!decide (l = []))) H) : rNeD K (.ref a) (.ref z) H Q :=
  ⟨_, _, .lst hl (dp_tx l), .lst hz .nil, shaped_lst hc, by decide +kernel, by rw [eqv_nil]; exact q⟩
def spOver (K : PySem.W.Frag) : Sp := fun vs H Q _ => ∃ (b a c : Addr) (ns : List Int) (pool : List (List Nat)), vs = [.ref b, .ref a] ∧ BagC K H b c ns ∧ H a = some (.lst (pool.map txV)) ∧ a ≠ b ∧ Names pool ∧ pool ≠ [] ∧ pool.length ≤ 8 ∧
  ∀ q H' r, H q = none → BagC K H' b c ns → But b H H' → H' q = some (.lst (r.map txV)) → Names r → r ≠ [] → r.length ≤ 4 → (∀ x ∈ r, x ∈ pool) → Q (.ref q) H'
section
variable {P : Program} {w : World} {K : PySem.W.Frag} {mg : Str → Option Value} {base : Heap}
theorem ok_over {f fD fO : Addr} {fd fdD fdO : FuncData} {k : Nat} (F : Fun K "_law_over" "_law_over" sLawOver f fd) (D : Cal P w K mg base "_law_pull" (k + 1) ["bag", "many"] (spDrawC K) fD fdD) (O : Cal P w K mg base "_law_of" (k + 2) ["bag", "some"] (spOfC K) fO fdO)
    (b_list : mg "list" = none) (b_range : mg "range" = none) (b_len : mg "len" = none) : FnOk P w K mg base CX0 (k + 3) f fd ["bag", "pool"] (spOver K) := by
  refine F.ok scLawOver (fun vs H Q E h => ?_) (fun cdv A outer s H vs Q E hr h => ?_)
  · obtain ⟨b, a, c, ns, pool, rfl, _⟩ := h
    rfl
  · obtain ⟨b, a, c, ns, pool, rfl, B, ha, hab, hN, hne, h8, q⟩ := h
    refine ⟨_, (pss_cons (ps_par (i := 2) (j := 3) rfl scLawOver.nd rfl rfl (by decide) rfl rfl (pa_cons (pe_callTy call_list_of rfl b_list (by decide +kernel) (pa_cons (pv 1) pa_nil)) (pa_cons (pe_lst pa_nil) pa_nil)) rfl)
      (pss_cons (ps_for PassesOwn.never rfl (pi_range1 rfl b_range (pa_cons (pe_call O.ok (hr.mono (by omega)) rfl O.g O.kp O.b .nil pass0 (pa_cons (pv 0) (pa_cons (pe_lst (pa_cons pe_int (pa_cons pe_int (pa_cons pe_int (pa_cons pe_int (pa_cons pe_int (pa_cons pe_int pa_nil))))))) pa_nil))) pa_nil)) (pg_name (i := 4) scLawOver.nd rfl (.inl rfl))
        (pss_one (ps_if (pt_cmpR (op_neD hr.units) (pv 2) (pe_lst pa_nil) rfl) (pss_one (ps_expr (pe_bm PySem.F.plainAttrs_list PySem.F.slot_list_append PySem.F.type_list_append mt_append (pv 3) (pa_cons (pe_bm PySem.F.plainAttrs_list PySem.F.slot_list_pop PySem.F.type_list_pop mt_popAt (pv 2) (pa_cons (pe_call D.ok (hr.mono (by omega)) rfl D.g D.kp D.b .nil pass0 (pa_cons (pv 0) (pa_cons (pe_callB call_len rfl b_len (by decide +kernel) (pa_cons (pv 2) pa_nil)) pa_nil))) pa_nil)) pa_nil)))) pss_nil)))
      (pss_one (ps_ret (pv 3))))), ?_⟩
    refine ⟨_, rfl, a, _, rfl, .inl (SqL.of ha), fun l nl => ⟨Nat.zero_le _, fun fo nfo => ?_⟩⟩
    have s1 : Same H (upd H l (.lst (pool.map txV))) := same_upd nl
    have s2 : Same H (upd (upd H l (.lst (pool.map txV))) fo (.lst [])) := s1.trans (same_upd nfo)
    have hlf : l ≠ fo := fun e => by rw [e, upd_same] at nfo; cases nfo
    have gl : (upd (upd H l (.lst (pool.map txV))) fo (.lst [])) l = some (.lst (pool.map txV)) := by rw [upd_ne hlf, upd_same]
    have gf : (upd (upd H l (.lst (pool.map txV))) fo (.lst [])) fo = some (.lst []) := upd_same
    have nl0 := nl
    have nf0 : H fo = none := none_back s1 nfo
    generalize upd (upd H l (.lst (pool.map txV))) fo (.lst []) = H1 at s2 gl gf ⊢
    have B1 := B.same s2
    have lb := B.ne nl0
    have fb := B.ne nf0
    refine ⟨_, _, rfl, ?_⟩
    refine ⟨_, rfl, (by show 6 ≤ sizeLine; decide), fun p np => ⟨b, p, _, c, ns, rfl, B1.fresh np, B1.ne np, SqL.of upd_same, (by show 0 < 6; decide), (by show 6 < 1000; decide), fun v H2 hv B2 t2 => ?_⟩⟩
    obtain ⟨m, rfl, m1, m4⟩ : ∃ m : Nat, v = .int m ∧ 1 ≤ m ∧ m ≤ 4 := by
      simp only [List.append_nil, List.mem_cons, List.not_mem_nil, or_false] at hv
      rcases hv with rfl | rfl | rfl | rfl | rfl | rfl
      · exact ⟨1, rfl, by decide, by decide⟩
      · exact ⟨1, rfl, by decide, by decide⟩
      · exact ⟨2, rfl, by decide, by decide⟩
      · exact ⟨2, rfl, by decide, by decide⟩
      · exact ⟨3, rfl, by decide, by decide⟩
      · exact ⟨4, rfl, by decide, by decide⟩
    have k2 : But b H1 H2 := (But.of (same_upd np)).trans t2
    have u2 : But b H H2 := (But.of s2).trans k2
    refine ⟨(m : Int), rfl, by omega, by omega, ?_⟩
    rw [Int.toNat_natCast]
    refine for_it (walk_range (lo := 0) (n := m)) (fun i σ' G => ∃ b4 L Fo, σ' = [some (.ref b), some (.ref a), some (.ref l), some (.ref fo), b4] ∧ G l = some (.lst (L.map txV)) ∧ G fo = some (.lst (Fo.map txV)) ∧ (L ++ Fo).Nodup ∧ (∀ x ∈ L ++ Fo, x ∈ pool) ∧ Fo.length ≤ i ∧ (i = 0 → L ≠ []) ∧ (0 < i → Fo ≠ []) ∧ L.length ≤ 8 ∧ BagC K G b c ns ∧ But b H G)
      ⟨none, pool, [], rfl, k2 _ _ lb gl, k2 _ _ fb gf, by rw [List.append_nil]; exact hN.nd, by rw [List.append_nil]; exact fun x hx => hx, Nat.le_refl _, fun _ => hne, fun h => absurd h (by decide), h8, B2, u2⟩ (fun _ _ _ _ _ => trivial) ?_ ?_
    · rintro i x σ' G G' hi ⟨b4, L, Fo, rfl, gL, gF, nd, hin, hlen, h0, h1, hl8, BG, uG⟩ ⟨rfl, rfl⟩
      have cod : ∀ e ∈ L, Cod e := fun e he => (hN.ok e (hin e (List.mem_append_left _ he))).cod
      refine ⟨_, rfl, Nat.zero_le _, fun z nz => ?_⟩
      have sz : Same G' (upd G' z (.lst [])) := same_upd nz
      refine ne_nil (SqL.of (sz _ _ gL)) (SqL.of upd_same) cod ⟨_, rfl, ?_⟩
      have gL' := sz _ _ gL
      have gF' := sz _ _ gF
      have BG' := BG.same sz
      have uG' := uG.trans (But.of sz)
      generalize upd G' z (.lst []) = G1 at gL' gF' BG' uG' ⊢
      by_cases hL : L = []
      · rw [decide_eq_true hL]
        have hi0 : i ≠ 0 := fun e => h0 e hL
        exact iteF ⟨_, L, Fo, rfl, gL', gF', nd, hin, by omega, fun e => absurd e (by omega), fun _ => h1 (by omega), hl8, BG', uG'⟩
      · rw [decide_eq_false hL]
        have hl1 : 0 < L.length := by
          rcases Nat.eq_zero_or_pos L.length with e | e
          · exact absurd (List.length_eq_zero_iff.mp e) hL
          · exact e
        refine iteT ⟨_, rfl, .inl ⟨rfl, _, SqL.of gF'⟩, _, rfl, .inl ⟨rfl, _, SqL.of gL'⟩, _, rfl, _, rfl, _, _, rfl, .inl ⟨_, SqL.of gL', rfl⟩, b, _, c, ns, rfl, BG', by rw [List.length_map]; omega, by rw [List.length_map]; omega, fun r G2 r0 r1 B2 t2 => ?_⟩
        rw [List.length_map] at r1
        obtain ⟨n0, rfl⟩ : ∃ n0 : Nat, r = (n0 : Int) := ⟨r.toNat, by omega⟩
        have hn : n0 < L.length := by omega
        have gL2 := t2 _ _ lb gL'
        have gF2 := t2 _ _ fb gF'
        have ey : (L.map txV)[n0]? = some (txV L[n0]) := by rw [List.getElem?_map, List.getElem?_eq_getElem hn]; rfl
        have ee : (L.map txV).eraseIdx n0 = (L.eraseIdx n0).map txV := by rw [List.eraseIdx_eq_take_drop_succ, List.eraseIdx_eq_take_drop_succ, List.map_append, List.map_take, List.map_drop]
        have pm : (L.eraseIdx n0 ++ (Fo ++ [L[n0]])).Perm (L ++ Fo) := by
          have p1 : (L[n0] :: L.eraseIdx n0).Perm L := by
            have eL : L = L.take n0 ++ L[n0] :: L.drop (n0 + 1) := by rw [← List.drop_eq_getElem_cons hn, List.take_append_drop]
            rw [List.eraseIdx_eq_take_drop_succ]
            exact List.perm_middle.symm.trans (List.Perm.of_eq eL.symm)
          have p2 : (L.eraseIdx n0 ++ (Fo ++ [L[n0]])).Perm (L[n0] :: (L.eraseIdx n0 ++ Fo)) := by
            rw [← List.append_assoc]
            exact List.perm_append_singleton _ _
          exact p2.trans (p1.append_right Fo)
        have g3 : upd G2 l (.lst ((L.map txV).eraseIdx n0)) fo = some (.lst (Fo.map txV)) := by rw [upd_ne (Ne.symm hlf)]; exact gF2
        refine ⟨l, _, _, n0, _, rfl, rfl, gL2, by omega, by omega, seqIndex_of (by omega) (by rw [List.length_map]; omega), ey, fo, _, _, rfl, rfl, g3, ?_, ?_⟩
        · rw [List.length_map]
          exact small1000' (by omega)
        · refine ⟨_, L.eraseIdx n0, Fo ++ [L[n0]], rfl, ?_, ?_, pm.nodup_iff.mpr nd, fun x hx => hin x (pm.mem_iff.mp hx), ?_, fun e => absurd e (by omega), fun _ => by simp, ?_, ?_, ?_⟩
          · rw [upd_ne hlf, upd_same, ee]
          · rw [upd_same, List.map_append]
            rfl
          · rw [List.length_append, List.length_singleton]
            omega
          · have := List.length_eraseIdx_le L n0
            omega
          · exact (B2.upd (B.off nl0) lb).upd (B.off nf0) fb
          · intro p o n e
            have h1 : p ≠ l := ne_of_none e nl0
            have h2 : p ≠ fo := ne_of_none e nf0
            rw [upd_ne h2, upd_ne h1]
            exact t2 _ _ n (uG' _ _ n e)
    · rintro σ' G ⟨b4, L, Fo, rfl, gL, gF, nd, hin, hlen, h0, h1, hl8, BG, uG⟩
      refine ⟨_, rfl, q fo G Fo nf0 BG uG gF ⟨fun n hn => hN.ok n (hin n (List.mem_append_right _ hn)), (List.nodup_append.mp nd).2.1⟩ (h1 (by omega)) (by omega) fun x hx => hin x (List.mem_append_right _ hx)⟩
end
end My

set_option Elab.async false
set_option linter.all false
set_option maxRecDepth 100000
namespace My
open PySem PySem.Spec PyProof.Rows L2 SX LamX NdefX
def RowsAt (H : Hp) (R : Addr) (rows : Rows) : Prop := ∃ ls, H R = some (.lst (ls.map V.ref)) ∧ RowsL H ls rows
theorem RowsAt.same {H H' : Hp} {R : Addr} {rows : Rows} (h : RowsAt H R rows) (s : Same H H') : RowsAt H' R rows := by
  obtain ⟨ls, h1, h2⟩ := h
  exact ⟨ls, s _ _ h1, h2.same s⟩
def spLPers (K : PySem.W.Frag) : Sp := fun vs H Q _ => ∃ R rows, vs = [.ref R] ∧ RowsAt H R rows ∧ rows.length ≤ 100 ∧ (∀ r ∈ rows, r.length ≤ 4) ∧ ∀ q H', H q = none → Same H H' → H' q = some (.lst ((uq rows.flatten).map txV)) → Q (.ref q) H'
def spLSole (K : PySem.W.Frag) : Sp := fun vs H Q _ => ∃ R rows a g, vs = [.ref R, .ref a] ∧ RowsAt H R rows ∧ rows.length ≤ 100 ∧ (∀ r ∈ rows, r.length ≤ 4) ∧ (∀ r ∈ rows, ∀ x ∈ r, Cod x) ∧ (SqL K H a (g.map txV) ∨ SqT K H a (g.map txV)) ∧ ∀ q H', H q = none → Same H H' → H' q = some (.lst (intsV (soleOf rows g))) → Q (.ref q) H'
section
variable {P : Program} {w : World} {K : PySem.W.Frag} {mg : Str → Option Value} {base : Heap}
theorem ok_lpers {f : Addr} {fd : FuncData} {k : Nat} (F : Fun K "_law_persons" "_law_persons" sLawPersons f fd) : FnOk P w K mg base CX0 (k + 1) f fd ["rows"] (spLPers K) := by
  refine F.ok scLawPersons (fun vs H Q E h => ?_) (fun cdv A outer s H vs Q E hr h => ?_)
  · obtain ⟨R, rows, rfl, _⟩ := h
    rfl
  · obtain ⟨R, rows, rfl, ⟨ls, hR, hls⟩, hz, h4, q⟩ := h
    have hlen := hls.length
    have f4 : ∀ i, (rows.take i).flatten.length ≤ 400 := fun i => by
      have h1 := flat_len (rows := rows.take i) fun r hr => h4 r (List.mem_of_mem_take hr)
      rw [List.length_take] at h1
      omega
    refine ⟨_, (pss_cons (ps_set (i := 1) scLawPersons.nd rfl (.inl rfl) (pe_lst pa_nil))
      (pss_cons (ps_for PassesOwn.never rfl (pi_list (pv 0)) (pg_name (i := 2) scLawPersons.nd rfl (.inl rfl))
        (pss_one (ps_for PassesOwn.never rfl (pi_list (pv 2)) (pg_name (i := 3) scLawPersons.nd rfl (.inl rfl))
          (pss_one (ps_if (pt_cmpR op_notIn_seq (pv 3) (pv 1) rfl) (pss_one (ps_expr (pe_bm PySem.F.plainAttrs_list PySem.F.slot_list_append PySem.F.type_list_append mt_append (pv 1) (pa_cons (pv 3) pa_nil)))) pss_nil)))))
      (pss_one (ps_ret (pv 1))))), ?_⟩
    refine ⟨Nat.zero_le _, fun fo nfo => ?_⟩
    have s1 : Same H (upd H fo (.lst [])) := same_upd nfo
    have g1 : (upd H fo (.lst [])) fo = some (.lst []) := upd_same
    generalize upd H fo (.lst []) = H1 at s1 g1 ⊢
    refine ⟨_, rfl, R, rfl, ⟨_, SqL.of (s1 _ _ hR)⟩, for_it walk_list (fun i σ' G => ∃ b2 b3, σ' = [some (.ref R), some (.ref fo), b2, b3] ∧ Same H G ∧ G fo = some (.lst ((uq (rows.take i).flatten).map txV))) ⟨none, none, rfl, s1, g1⟩ (fun i σ' G _ h => by obtain ⟨_, _, _, s, _⟩ := h; exact SqL.of (s _ _ hR)) ?_ ?_⟩
    · rintro i x σ' G1 G hi ⟨b2, b3, rfl, sG, gF⟩ ⟨rfl, ex⟩
      rw [List.length_map, hlen] at hi
      have er := List.getElem?_eq_getElem hi
      obtain ⟨l, el, hl⟩ := paired_get hls i rows[i] er
      have ey : (ls.map V.ref)[i]? = some (.ref l) := by rw [List.getElem?_map, el]; rfl
      cases Option.some.inj (ey.symm.trans ex)
      refine ⟨_, rfl, l, rfl, ⟨_, SqL.of (sG _ _ hl)⟩, for_it walk_list (fun j σ' G => ∃ b3, σ' = [some (.ref R), some (.ref fo), some (.ref l), b3] ∧ Same H G ∧ G fo = some (.lst ((uq ((rows.take i).flatten ++ rows[i].take j)).map txV))) ⟨b3, rfl, sG, by rw [List.take_zero, List.append_nil]; exact gF⟩ (fun j σ' G _ h => by obtain ⟨_, _, s, _⟩ := h; exact SqL.of (s _ _ hl)) ?_ ?_⟩
      · rintro j y σ2 G3 G4 hj ⟨b3, rfl, s3, g3⟩ ⟨rfl, ey⟩
        rw [List.length_map] at hj
        have ej := List.getElem?_eq_getElem hj
        have ey2 : (rows[i].map txV)[j]? = some (txV rows[i][j]) := by rw [List.getElem?_map, ej]; rfl
        cases Option.some.inj (ey2.symm.trans ey)
        have ts : (rows.take i).flatten ++ rows[i].take (j + 1) = ((rows.take i).flatten ++ rows[i].take j) ++ [rows[i][j]] := by rw [take_snoc ej, List.append_assoc]
        refine ⟨_, rfl, _, rfl, fo, _, rfl, .inl (SqL.of g3), rfl, flat_tx _, _, rfl, ?_⟩
        rw [inV_tx]
        by_cases hm : rows[i][j] ∈ uq ((rows.take i).flatten ++ rows[i].take j)
        · rw [decide_eq_true hm]
          refine iteF ⟨_, rfl, s3, ?_⟩
          rw [ts, uq_snoc, if_pos hm]
          exact g3
        · rw [decide_eq_false hm]
          refine iteT ⟨_, rfl, .inl ⟨rfl, _, SqL.of g3⟩, _, rfl, fo, _, _, rfl, rfl, g3, ?_, _, rfl, same_updF nfo s3, ?_⟩
          · rw [List.length_map]
            have h1 := uq_lenT ((rows.take i).flatten ++ rows[i].take j) _ (Nat.le_refl _)
            rw [List.take_length, List.length_append, List.length_take] at h1
            have h2 := f4 i
            have h3 := h4 _ (List.getElem_mem hi)
            exact small1000' (by omega)
          · rw [upd_same, ts, uq_snoc, if_neg hm, List.map_append (l₂ := [rows[i][j]])]
            rfl
      · rintro σ2 G3 ⟨b3, rfl, s3, g3⟩
        rw [List.length_map, List.take_length] at g3
        refine ⟨_, b3, rfl, s3, ?_⟩
        rw [take_snoc er, List.flatten_append]
        simpa using g3
    · rintro σ' G ⟨b2, b3, rfl, sG, gF⟩
      rw [List.length_map, hlen, List.take_length] at gF
      exact ⟨_, rfl, q fo G nfo sG gF⟩
theorem ok_lsole {f : Addr} {fd : FuncData} {k : Nat} (F : Fun K "_law_sole" "_law_sole" sLawSole f fd) (b_range : mg "range" = none) (b_len : mg "len" = none) : FnOk P w K mg base CX0 (k + 1) f fd ["rows", "group"] (spLSole K) := by
  refine F.ok scLawSole (fun vs H Q E h => ?_) (fun cdv A outer s H vs Q E hr h => ?_)
  · obtain ⟨R, rows, a, g, rfl, _⟩ := h
    rfl
  · obtain ⟨R, rows, a, g, rfl, ⟨ls, hR, hls⟩, hz, h4, hcod, hg, q⟩ := h
    have hlen := hls.length
    refine ⟨_, (pss_one (ps_ret (pe_lc (own := [("k", 2)]) (g := gName 2) (tt := tTest (tOp (rEqD K) (tLc (iList K (tOp (rIxL K) (tVar 0) (tVar 2))) (gName 3) (tTest (tOp (rIn K true) (tVar 3) (tVar 1))) (tVar 3) [3]) (tLst tNil))) (te := tVar 2) rfl scLawSole.nd (pi_range1 rfl b_range (pa_cons (pe_callB call_len rfl b_len (by decide +kernel) (pa_cons (pv 0) pa_nil)) pa_nil)) (blkOk_by (own := [("k", 2)]) (N := ["rows", "group", "k", "name"]) (sc := defScope sLawSole) (by decide +kernel)) (fun _ _ _ _ _ => (pg_name (i := 2) scLawSole.nd rfl (.inl rfl) (.inr rfl))) (fun _ _ _ _ _ => (pts_one (pt_cmpR (op_eqD hr.units) (pe_lc (own := [("name", 3)]) (g := gName 3) (tt := tTest (tOp (rIn K true) (tVar 3) (tVar 1))) (te := tVar 3) rfl scLawSole.nd (pi_list (pe_ix ix_list (pv 0) (pv 2) (fun _ _ => rfl))) (blkOk_by (own := [("name", 3)]) (N := ["rows", "group", "k", "name"]) rfl) (fun _ _ _ _ _ => (pg_name (i := 3) scLawSole.nd rfl (.inl rfl) (.inr rfl))) (fun _ _ _ _ _ => (pts_one (pt_cmpR op_notIn_seq (pv 3) (pv 1) rfl))) (fun _ _ _ _ _ => (pv 3))) (pe_lst pa_nil) rfl))) (fun _ _ _ _ _ => (pv 2))))), ?_⟩
    refine ⟨_, rfl, _, _, rfl, .inl ⟨_, SqL.of hR, rfl⟩, _, rfl, ?_⟩
    rw [List.length_map, hlen]
    refine ⟨by omega, by omega, fun D nD => ?_⟩
    refine lc_it (walk_range (lo := 0) (n := rows.length)) (fun i G => Same H G ∧ G D = some (.lst (intsV ((List.range i).filter fun k => (rows.getD k []).all fun x => decide (x ∈ g))))) ⟨same_upd nD, upd_same⟩ (fun _ _ _ _ => trivial) ?_ ?_
    · rintro i x G1 G hi ⟨sG, gD⟩ ⟨rfl, rfl⟩
      refine ⟨rfl, ?_⟩
      have er := List.getElem?_eq_getElem hi
      obtain ⟨l, el, hl⟩ := paired_get hls i rows[i] er
      have ey : (ls.map V.ref)[i]? = some (.ref l) := by rw [List.getElem?_map, el]; rfl
      have ez : (0 : Int) + (i : Nat) = (i : Int) := Int.zero_add _
      refine ⟨_, rfl, _, rfl, R, _, _, .ref l, rfl, rfl, SqL.of (sG _ _ hR), by rw [ez]; exact atI_nat ey, l, rfl, ⟨_, SqL.of (sG _ _ hl)⟩, fun D2 nD2 => lc_it walk_list (fun j G3 => Same G G3 ∧ G3 D2 = some (.lst (((rows[i].take j).filter fun x => !decide (x ∈ g)).map txV))) ⟨same_upd nD2, upd_same⟩ (fun j G3 _ h => SqL.of (h.1 _ _ (sG _ _ hl))) ?_ ?_⟩
      · rintro j y G3 G4 hj ⟨s3, g3⟩ ⟨rfl, ey⟩
        rw [List.length_map] at hj
        have ej := List.getElem?_eq_getElem hj
        have ey2 : (rows[i].map txV)[j]? = some (txV rows[i][j]) := by rw [List.getElem?_map, ej]; rfl
        cases Option.some.inj (ey2.symm.trans ey)
        refine ⟨rfl, ?_⟩
        refine ⟨_, rfl, _, rfl, a, _, rfl, hg.imp (fun z => (sG.trans s3).seq z) (fun z => seqT_same (sG.trans s3) z), rfl, flat_tx g, _, rfl, ?_⟩
        rw [inV_tx]
        have fs : (rows[i].take (j + 1)).filter (fun x => !decide (x ∈ g)) = (rows[i].take j).filter (fun x => !decide (x ∈ g)) ++ (if (!decide (rows[i][j] ∈ g)) = true then [rows[i][j]] else []) := by
          rw [take_snoc ej, List.filter_append]
          congr 1
          cases h : (!decide (rows[i][j] ∈ g)) <;> simp_all
        refine ite2 (fun hc => ?_) (fun hc => ?_)
        · have hc' : (!decide (rows[i][j] ∈ g)) = true := hc
          refine ⟨_, rfl, _, g3, ?_, same_updF nD2 s3, ?_⟩
          · rw [List.length_map]
            have h1 := List.length_filter_le (fun x => !decide (x ∈ g)) (rows[i].take j)
            rw [List.length_take] at h1
            have := h4 _ (List.getElem_mem hi)
            exact small1000' (by omega)
          · rw [upd_same, fs, if_pos hc', List.map_append]
            rfl
        · have hc' : ¬ (!decide (rows[i][j] ∈ g)) = true := hc
          refine ⟨s3, ?_⟩
          rw [fs, if_neg hc', List.append_nil]
          exact g3
      · rintro G3 ⟨s3, g3⟩
        rw [List.length_map, List.take_length] at g3
        refine ⟨Nat.zero_le _, fun z nz => ?_⟩
        have sz : Same G3 (upd G3 z (.lst [])) := same_upd nz
        have cod : ∀ e ∈ rows[i].filter (fun x => !decide (x ∈ g)), Cod e := fun e he => hcod _ (List.getElem_mem hi) e (List.mem_filter.mp he).1
        refine eq_nil (SqL.of (sz _ _ g3)) (SqL.of upd_same) cod ⟨_, rfl, ?_⟩
        have gD5 := sz _ _ (s3 _ _ gD)
        have ed : rows.getD i [] = rows[i] := by rw [List.getD_eq_getElem?_getD, er]; rfl
        have en : decide (rows[i].filter (fun x => !decide (x ∈ g)) = []) = (rows.getD i []).all fun x => decide (x ∈ g) := by
          rw [ed, Bool.eq_iff_iff, decide_eq_true_eq, List.filter_eq_nil_iff, List.all_eq_true]
          exact ⟨fun h x hx => by simpa using h x hx, fun h x hx => by simpa using h x hx⟩
        rw [en]
        have fs := range_filter_snoc (fun k => (rows.getD k []).all fun x => decide (x ∈ g)) i
        refine ite2 (fun hc => ?_) (fun hc => ?_)
        · refine ⟨_, rfl, _, gD5, ?_, ?_, ?_⟩
          · unfold intsV
            rw [List.length_map]
            have := List.length_filter_le (fun k => (rows.getD k []).all fun x => decide (x ∈ g)) (List.range i)
            rw [List.length_range] at this
            exact small1000' (by omega)
          · exact same_updF nD ((sG.trans s3).trans sz)
          · rw [upd_same, fs, if_pos hc]
            unfold intsV
            rw [List.map_append]
            show some (HO.lst (_ ++ [V.int (0 + (i : Int))])) = _
            rw [ez]
            rfl
        · refine ⟨(sG.trans s3).trans sz, ?_⟩
          rw [fs, if_neg hc, List.append_nil]
          exact gD5
    · rintro G ⟨sG, gD⟩
      exact q D G nD sG gD
end
end My

set_option Elab.async false
set_option linter.all false
set_option maxRecDepth 100000
namespace My
open PySem PySem.Spec PyProof.Rows L2 SX LamX NdefX
abbrev sLawGroups : Stmt := topS 29
theorem scLawGroups : FnScope ["persons", "most", "found", "k", "spots", "order", "many"] ["persons", "most"] (defScope sLawGroups) := ⟨rfl, rfl, rfl, by decide +kernel, rfl, by decide +kernel, by decide +kernel⟩
/-- lists of whole numbers, at these addresses -/
def SpotsL (H : Hp) (cs : List Addr) (ixs : List (List Nat)) : Prop := Paired (fun c ix => H c = some (.lst (intsV ix))) cs ixs
theorem SpotsL.same {H H' : Hp} {cs : List Addr} {ixs : List (List Nat)} (h : SpotsL H cs ixs) (s : Same H H') : SpotsL H' cs ixs := Paired.mono (fun _ _ e => s _ _ e) h
theorem fd_len : ∀ n, (fd n).length = 2 ^ n
  | 0 => rfl
  | n + 1 => by
    unfold fd
    rw [List.length_append, List.length_map, fd_len n, Nat.pow_succ]
    omega
theorem fd_ok : ∀ n, ∀ ix ∈ fd n, ix.length ≤ n ∧ ∀ i ∈ ix, i < n
  | 0, ix, h => by
    simp [fd] at h
    subst h
    exact ⟨Nat.le_refl _, fun i hi => by simp at hi⟩
  | n + 1, ix, h => by
    unfold fd at h
    rcases List.mem_append.mp h with h | h
    · obtain ⟨h1, h2⟩ := fd_ok n ix h
      exact ⟨by omega, fun i hi => by have := h2 i hi; omega⟩
    · obtain ⟨jx, hj, rfl⟩ := List.mem_map.mp h
      obtain ⟨h1, h2⟩ := fd_ok n jx hj
      refine ⟨by rw [List.length_append, List.length_singleton]; omega, fun i hi => ?_⟩
      rcases List.mem_append.mp hi with hi | hi
      · have := h2 i hi; omega
      · rw [List.mem_singleton.mp hi]; omega
theorem fd_key {n m : Nat} (hn : n ≤ 8) : ((fd n).filter fun s => decide (s.length ≤ m)).Perm (grp n m) ∧ (grp n m).Pairwise fun a b => leK a b = true := by
  have hp : (fd n).Perm (grp n n) := List.isPerm_iff.mp (fd_perm n (by omega))
  have hw := pairsOk_pw (grp_ok n (by omega))
  have e : (grp n n).filter (fun s => decide (s.length ≤ m)) = grp n m := by
    by_cases h : m < n + 1
    · exact grp_cut n (by omega) m h
    · have e1 : grp n m = grp n n := by
        unfold grp
        rw [Nat.min_eq_right (by omega), Nat.min_self]
      rw [e1]
      refine List.filter_eq_self.mpr fun s hs => ?_
      have := (fd_ok n s (hp.mem_iff.mpr hs)).1
      exact decide_eq_true (by omega)
  refine ⟨?_, ?_⟩
  · rw [← e]
    exact hp.filter _
  · rw [← e]
    exact hw.filter _
theorem dp_ints {K : PySem.W.Frag} {H : Hp} : ∀ ix : List Nat, DpAll K H (intsV ix) ((ix.map fun (x : Nat) => (x : Int)).map .int)
  | [] => .nil
  | x :: ix => .cons (.int _) (dp_ints ix)
def spLGr (K : PySem.W.Frag) : Sp := fun vs H Q _ => ∃ a ps, ∃ m : Nat, vs = [.ref a, .int m] ∧ SqL K H a (ps.map txV) ∧ ps.length ≤ 8 ∧ m ≤ 100 ∧ ∀ q H' us, H q = none → Same H H' → H' q = some (.lst (us.map V.ref)) → RowsT H' us ((grp ps.length m).map (pickN ps)) → Q (.ref q) H'
section
variable {P : Program} {w : World} {K : PySem.W.Frag} {mg : Str → Option Value} {base : Heap}
theorem ok_lgr {f : Addr} {fd0 : FuncData} {k : Nat} (F : Fun K "_law_groups" "_law_groups" sLawGroups f fd0) (b_range : mg "range" = none) (b_len : mg "len" = none) (b_sorted : mg "sorted" = none) (b_tuple : mg "tuple" = none) : FnOk P w K mg base CX0 (k + 1) f fd0 ["persons", "most"] (spLGr K) := by
  refine F.ok scLawGroups (fun vs H Q E h => ?_) (fun cdv A outer s H vs Q E hr h => ?_)
  · obtain ⟨a, ps, m, rfl, _⟩ := h
    rfl
  · obtain ⟨a, ps, m, rfl, hs, h8, hm, q⟩ := h
    refine ⟨_, (pss_cons (ps_set (i := 2) scLawGroups.nd rfl (.inl rfl) (pe_lst (pa_cons (pe_lst pa_nil) pa_nil)))
      (pss_cons (ps_for PassesOwn.never rfl (pi_range1 rfl b_range (pa_cons (pe_callB call_len rfl b_len (by decide +kernel) (pa_cons (pv 0) pa_nil)) pa_nil)) (pg_name (i := 3) scLawGroups.nd rfl (.inr rfl))
        (pss_one (ps_set (i := 2) scLawGroups.nd rfl (.inl rfl) (pe_op op_cat (pv 2) (pe_lc (own := [("spots", 4)]) (g := gName 4) (tt := tYes) (te := tOp rCat (tVar 4) (tLst (tCons (tVar 3) tNil))) rfl scLawGroups.nd (pi_list (pv 2)) (blkOk_by (own := [("spots", 4)]) (N := ["persons", "most", "found", "k", "spots", "order", "many"]) (sc := defScope sLawGroups) (by decide +kernel)) (fun _ _ _ _ _ => (pg_name (i := 4) scLawGroups.nd rfl (.inl rfl) (.inr rfl))) (fun _ _ _ _ _ => pts_nil) (fun _ _ _ _ _ => (pe_op op_cat (pv 4) (pe_lst (pa_cons (pv 3) pa_nil)))))))))
      (pss_cons (ps_set (i := 5) scLawGroups.nd rfl (.inl rfl) (pe_callB (cr_sortedD hr.units) rfl b_sorted (by decide +kernel) (pa_cons (pe_lc (own := [("spots", 4)]) (g := gName 4) (tt := tTest (tOp (rI0 fun i j => .bl (decide (i ≤ j))) (tCB (rLenOf K) (tCons (tVar 4) tNil)) (tVar 1))) (te := tTup (tCons (tCB (rLenOf K) (tCons (tVar 4) tNil)) (tCons (tVar 4) tNil))) rfl scLawGroups.nd (pi_list (pv 2)) (blkOk_by (own := [("spots", 4)]) (N := ["persons", "most", "found", "k", "spots", "order", "many"]) (sc := defScope sLawGroups) (by decide +kernel)) (fun _ _ _ _ _ => (pg_name (i := 4) scLawGroups.nd rfl (.inl rfl) (.inr rfl))) (fun _ _ _ _ _ => (pts_one (pt_cmpR op_le (pe_callB call_len rfl b_len (by decide +kernel) (pa_cons (pv 4) pa_nil)) (pv 1) rfl))) (fun _ _ _ _ _ => (pe_tup (pa_cons (pe_callB call_len rfl b_len (by decide +kernel) (pa_cons (pv 4) pa_nil)) (pa_cons (pv 4) pa_nil))))) pa_nil)))
      (pss_one (ps_ret (pe_lc (own := [("many", 6), ("spots", 4)]) (g := gTup K 2 (gCons (gName 6) (gCons (gName 4) gNil))) (tt := tYes) (te := tCB (rTupOf K) (tCons (tLc (iList K (tVar 4)) (gName 3) tYes (tOp (rIxL K) (tVar 0) (tVar 3)) [3]) tNil)) rfl scLawGroups.nd (pi_list (pv 5)) (blkOk_by (own := [("many", 6), ("spots", 4)]) (N := ["persons", "most", "found", "k", "spots", "order", "many"]) (sc := defScope sLawGroups) (by decide +kernel)) (fun _ _ _ _ _ => (pg_tup rfl (pgs_cons (pg_name (i := 6) scLawGroups.nd rfl (.inl rfl) (.inr rfl)) (pgs_cons (pg_name (i := 4) scLawGroups.nd rfl (.inl rfl) (.inr rfl)) pgs_nil)))) (fun _ _ _ _ _ => pts_nil) (fun _ _ _ _ _ => (pe_callTy call_tuple_of rfl b_tuple (by decide +kernel) (pa_cons (pe_lc (own := [("k", 3)]) (g := gName 3) (tt := tYes) (te := tOp (rIxL K) (tVar 0) (tVar 3)) rfl scLawGroups.nd (pi_list (pv 4)) (blkOk_by (own := [("k", 3)]) (N := ["persons", "most", "found", "k", "spots", "order", "many"]) rfl) (fun _ _ _ _ _ => (pg_name (i := 3) scLawGroups.nd rfl (.inl rfl) (.inr rfl))) (fun _ _ _ _ _ => pts_nil) (fun _ _ _ _ _ => (pe_ix ix_list (pv 0) (pv 3) (fun _ _ => rfl)))) pa_nil))))))))), ?_⟩
    refine ⟨Nat.zero_le _, fun c0 nc0 => ⟨(by show 1 ≤ sizeLine; decide), fun f0 nf0 => ?_⟩⟩
    have sc0 : Same H (upd H c0 (.lst [])) := same_upd nc0
    have s1 : Same H (upd (upd H c0 (.lst [])) f0 (.lst [.ref c0])) := sc0.trans (same_upd nf0)
    have hcf : c0 ≠ f0 := fun e => by rw [e, upd_same] at nf0; cases nf0
    have gc0 : (upd (upd H c0 (.lst [])) f0 (.lst [.ref c0])) c0 = some (.lst (intsV [])) := by rw [upd_ne hcf, upd_same]; rfl
    have gf0 : (upd (upd H c0 (.lst [])) f0 (.lst [.ref c0])) f0 = some (.lst ([c0].map V.ref)) := upd_same
    generalize upd (upd H c0 (.lst [])) f0 (.lst [.ref c0]) = H1 at s1 gc0 gf0 ⊢
    refine ⟨_, rfl, _, _, rfl, .inl ⟨_, s1.seq hs, rfl⟩, _, rfl, ?_⟩
    rw [List.length_map]
    refine ⟨by omega, by omega, for_it (walk_range (lo := 0) (n := ps.length)) (fun i σ' G => ∃ b3 fo cs, σ' = [some (.ref a), some (.int (m : Nat)), some (.ref fo), b3, none, none, none] ∧ Same H G ∧ G fo = some (.lst (cs.map V.ref)) ∧ SpotsL G cs (fd i)) ⟨none, f0, [c0], rfl, s1, gf0, .cons gc0 .nil⟩ (fun _ _ _ _ _ => trivial) ?_ ?_⟩
    · rintro i x σ' G1 G hi ⟨b3, fo, cs, rfl, sG, gF, hcs⟩ ⟨rfl, rfl⟩
      have cl := hcs.length
      rw [fd_len] at cl
      have p2 : 2 ^ i ≤ 2 ^ 7 := Nat.pow_le_pow_right (by decide) (by omega)
      refine ⟨_, rfl, _, rfl, fo, rfl, ⟨_, SqL.of gF⟩, fun D nD => lc_it walk_list (fun j G3 => Same G G3 ∧ ∃ ds, G3 D = some (.lst (ds.map V.ref)) ∧ D ∉ ds ∧ SpotsL G3 ds (((fd i).take j).map (· ++ [i]))) ⟨same_upd nD, [], upd_same, by simp, .nil⟩ (fun j G3 _ h => SqL.of (h.1 _ _ gF)) ?_ ?_⟩
      · rintro j y G3 G4 hj ⟨s3, ds, gD, nds, hds⟩ ⟨rfl, ey⟩
        rw [List.length_map, hcs.length] at hj
        have ej := List.getElem?_eq_getElem hj
        obtain ⟨c, ec, hc⟩ := paired_get hcs j (fd i)[j] ej
        have ey2 : (cs.map V.ref)[j]? = some (.ref c) := by rw [List.getElem?_map, ec]; rfl
        cases Option.some.inj (ey2.symm.trans ey)
        have hix := fd_ok i _ (List.getElem_mem hj)
        refine ⟨rfl, ?_⟩
        unfold tYes
        refine iteT ⟨_, rfl, _, rfl, (by show 1 ≤ sizeLine; decide), fun e ne => ?_⟩
        have se : Same G4 (upd G4 e (.lst ([V.int (0 + (i : Nat))]))) := same_upd ne
        refine ⟨c, e, _, _, rfl, rfl, se _ _ (s3 _ _ hc), upd_same, ?_, fun p np => ?_⟩
        · unfold intsV
          rw [List.length_map]
          exact line_of (by show _ + 1 ≤ _; omega)
        · have sp : Same G4 (upd (upd G4 e (.lst ([V.int (0 + (i : Nat))]))) p (.lst (intsV (fd i)[j] ++ [V.int (0 + (i : Nat))]))) := se.trans (same_upd np)
          have nDe : D ≠ p := fun z => by rw [← z, se _ _ gD] at np; cases np
          refine ⟨_, sp _ _ gD, ?_, ?_, ds ++ [p], ?_, ?_, ?_⟩
          · have := hds.length
            rw [List.length_map, List.length_take, fd_len] at this
            rw [List.length_map]
            exact small1000' (by omega)
          · exact same_updF nD (s3.trans sp)
          · rw [upd_same, List.map_append]
            rfl
          · intro hm
            rcases List.mem_append.mp hm with hm | hm
            · exact nds hm
            · exact nDe (List.mem_singleton.mp hm)
          · rw [take_snoc ej, List.map_append]
            refine Paired.snoc (Cmb.paired_with hds (fun u w' hm eu => ?_)) ?_
            · have hu : u ≠ D := fun z => nds (by rw [← z]; exact (List.of_mem_zip hm).1)
              rw [upd_ne hu]
              exact sp _ _ eu
            · rw [upd_ne (Ne.symm nDe), upd_same]
              unfold intsV
              rw [List.map_append]
              show some (HO.lst (_ ++ [V.int (0 + (i : Int))])) = _
              rw [Int.zero_add]
              rfl
      · rintro G3 ⟨s3, ds, gD, nds, hds⟩
        rw [List.length_map, hcs.length, List.take_length] at hds
        have dl := hds.length
        rw [List.length_map, fd_len] at dl
        refine ⟨fo, D, _, _, rfl, rfl, s3 _ _ gF, gD, ?_, fun p np => ?_⟩
        · rw [List.length_map, List.length_map]
          exact line_of (by omega)
        · have sp : Same G3 (upd G3 p (.lst (cs.map V.ref ++ ds.map V.ref))) := same_upd np
          refine ⟨_, p, cs ++ ds, rfl, sG.trans (s3.trans sp), ?_, ?_⟩
          · rw [upd_same, List.map_append]
          · unfold fd
            exact paired_app (hcs.same (s3.trans sp)) (SpotsL.same hds sp)
    · rintro σ' G ⟨b3, fo, cs, rfl, sG, gF, hcs⟩
      have cl := hcs.length
      rw [fd_len] at cl
      have p2 : 2 ^ ps.length ≤ 2 ^ 8 := Nat.pow_le_pow_right (by decide) (by omega)
      refine ⟨_, rfl, fo, rfl, ⟨_, SqL.of gF⟩, fun D nD => lc_it walk_list (fun j G3 => Same G G3 ∧ ∃ bs : List (Addr × Addr × List Nat), G3 D = some (.lst (bs.map fun b => V.ref b.1)) ∧ (∀ b ∈ bs, G3 b.1 = some (.tup [.int (b.2.2.length : Nat), .ref b.2.1]) ∧ G b.2.1 = some (.lst (intsV b.2.2)) ∧ (∀ i ∈ b.2.2, i < ps.length) ∧ b.2.2.length ≤ 8) ∧ bs.length ≤ j ∧ (bs.map fun b => b.2.2) = ((fd ps.length).take j).filter fun s => decide (s.length ≤ m)) ⟨same_upd nD, [], upd_same, fun b hb => by simp at hb, Nat.le_refl _, rfl⟩ (fun j G3 _ h => SqL.of (h.1 _ _ gF)) ?_ ?_⟩
      · rintro j y G3 G4 hj ⟨s3, bs, gD, hbs, hbl, hbk⟩ ⟨rfl, ey⟩
        rw [List.length_map, hcs.length] at hj
        have ej := List.getElem?_eq_getElem hj
        obtain ⟨c, ec, hc⟩ := paired_get hcs j (fd ps.length)[j] ej
        have ey2 : (cs.map V.ref)[j]? = some (.ref c) := by rw [List.getElem?_map, ec]; rfl
        cases Option.some.inj (ey2.symm.trans ey)
        have hix := fd_ok ps.length _ (List.getElem_mem hj)
        rw [fd_len] at hj
        have hc3 := s3 _ _ hc
        refine ⟨rfl, ?_⟩
        have el : (intsV (fd ps.length)[j]).length = (fd ps.length)[j].length := by unfold intsV; rw [List.length_map]
        refine ⟨_, rfl, _, _, rfl, .inl ⟨_, SqL.of hc3, rfl⟩, _, rfl, _, _, rfl, rfl, _, rfl, ?_⟩
        have fs : ((fd ps.length).take (j + 1)).filter (fun s => decide (s.length ≤ m)) = ((fd ps.length).take j).filter (fun s => decide (s.length ≤ m)) ++ (if decide ((fd ps.length)[j].length ≤ m) = true then [(fd ps.length)[j]] else []) := by
          rw [take_snoc ej, List.filter_append]
          congr 1
          cases h : decide ((fd ps.length)[j].length ≤ m) <;> simp_all
        have ed : decide (((intsV (fd ps.length)[j]).length : Int) ≤ (m : Int)) = decide ((fd ps.length)[j].length ≤ m) := by
          rw [el]
          exact decide_eq_decide.mpr (by omega)
        refine ite2 (fun hc' => ?_) (fun hc' => ?_)
        · have hd : decide ((fd ps.length)[j].length ≤ m) = true := ed.symm.trans hc'
          refine ⟨_, rfl, _, _, rfl, .inl ⟨_, SqL.of hc3, rfl⟩, _, rfl, (by show 2 ≤ sizeLine; decide), fun t nt => ?_⟩
          have st : Same G4 (upd G4 t (.tup [.int ((intsV (fd ps.length)[j]).length : Nat), .ref c])) := same_upd nt
          refine ⟨_, st _ _ gD, ?_, same_updF nD (s3.trans st), bs ++ [(t, c, (fd ps.length)[j])], ?_, ?_, ?_, ?_⟩
          · rw [List.length_map]
            exact small1000' (by omega)
          · rw [upd_same, List.map_append]
            rfl
          · intro b hb
            rcases List.mem_append.mp hb with hb | hb
            · obtain ⟨h1, h2, h3⟩ := hbs b hb
              have n1 : b.1 ≠ D := fun z => by rw [z, gD] at h1; cases h1
              refine ⟨?_, h2, h3⟩
              rw [upd_ne n1]
              exact st _ _ h1
            · rw [List.mem_singleton.mp hb]
              have n1 : t ≠ D := fun z => by rw [z, gD] at nt; cases nt
              refine ⟨?_, hc, hix.2, by have := hix.1; show (fd ps.length)[j].length ≤ 8; omega⟩
              rw [upd_ne n1, upd_same, el]
          · rw [List.length_append, List.length_singleton]
            omega
          · rw [fs, if_pos hd, List.map_append, hbk]
            rfl
        · have hd : ¬ decide ((fd ps.length)[j].length ≤ m) = true := fun z => hc' (ed.trans z)
          refine ⟨s3, bs, gD, hbs, by omega, ?_⟩
          rw [fs, if_neg hd, List.append_nil]
          exact hbk
      · rintro G3 ⟨s3, bs, gD, hbs, hbl, hbk⟩
        rw [List.length_map, hcs.length, List.take_length] at hbk
        rw [List.length_map, cl] at hbl
        refine ⟨D, bs.map fun b => (V.ref b.1, b.2.2), rfl, SqL.of (by rw [List.map_map]; exact gD), fun b' hb' => ?_, fun p np => ?_⟩
        · obtain ⟨b, hb, rfl⟩ := List.mem_map.mp hb'
          obtain ⟨h1, h2, _⟩ := hbs b hb
          exact .tup (SqT.of h1) (.cons (.int _) (.cons (.lst (SqL.of (s3 _ _ h2)) (dp_ints _)) .nil))
        obtain ⟨hpm, hpw⟩ := fd_key (n := ps.length) (m := m) h8
        have hkeys := sorted_is (bs := bs.map fun b => (V.ref b.1, b.2.2)) (g := grp ps.length m) (by rw [List.map_map]; show (bs.map fun b => b.2.2).Perm _; rw [hbk]; exact hpm) hpw
        have hmem : ∀ x ∈ (bs.map fun b => (V.ref b.1, b.2.2)).mergeSort (fun b c => leK b.2 c.2), ∃ b ∈ bs, x = (V.ref b.1, b.2.2) := fun x hx => by
          obtain ⟨b, hb, e⟩ := List.mem_map.mp ((List.mergeSort_perm _ _).mem_iff.mp hx)
          exact ⟨b, hb, e.symm⟩
        have hL : ((bs.map fun b => (V.ref b.1, b.2.2)).mergeSort (fun b c => leK b.2 c.2)).length ≤ 256 := by
          rw [List.length_mergeSort, List.length_map]
          omega
        generalize (bs.map fun b => (V.ref b.1, b.2.2)).mergeSort (fun b c => leK b.2 c.2) = L at hkeys hmem hL np ⊢
        have sp : Same G3 (upd G3 p (.lst (L.map (·.1)))) := same_upd np
        have gp : (upd G3 p (.lst (L.map (·.1)))) p = some (.lst (L.map (·.1))) := upd_same
        generalize upd G3 p (.lst (L.map (·.1))) = G4 at sp gp ⊢
        have s4 : Same H G4 := sG.trans (s3.trans sp)
        refine ⟨_, rfl, p, rfl, ⟨_, SqL.of gp⟩, fun D3 nD3 => lc_it walk_list (fun j G5 => Same G4 G5 ∧ ∃ us, G5 D3 = some (.lst (us.map V.ref)) ∧ RowsT G5 us ((((L.map (·.2))).take j).map (pickN ps))) ⟨same_upd nD3, [], upd_same, .nil⟩ (fun j G5 _ h => SqL.of (h.1 _ _ gp)) ?_ ?_⟩
        · rintro j y G5 G6 hj ⟨s5, us, gD3, hus⟩ ⟨rfl, ey⟩
          rw [List.length_map] at hj
          have ej := List.getElem?_eq_getElem hj
          obtain ⟨b, hb, eb⟩ := hmem _ (List.getElem_mem hj)
          have ey2 : (L.map (·.1))[j]? = some (V.ref b.1) := by rw [List.getElem?_map, ej, eb]; rfl
          cases Option.some.inj (ey2.symm.trans ey)
          obtain ⟨h1, h2, h3, h9⟩ := hbs b hb
          have k1 := s5 _ _ (sp _ _ h1)
          have k2 := s5 _ _ (sp _ _ (s3 _ _ h2))
          refine ⟨b.1, _, rfl, SqT.of k1, rfl, _, _, rfl, _, _, rfl, rfl, rfl, ?_⟩
          unfold tYes
          refine iteT ⟨_, rfl, b.2.1, rfl, ⟨_, SqL.of k2⟩, fun D4 nD4 => lc_it (g := gName 3) (tt := tYes) (te := tOp (rIxL K) (tVar 0) (tVar 3)) walk_list (fun l G7 => Same G6 G7 ∧ G7 D4 = some (.lst ((pickN ps (b.2.2.take l)).map txV))) ⟨same_upd nD4, upd_same⟩ (fun l G7 _ h => SqL.of (h.1 _ _ k2)) ?_ ?_⟩
          · rintro l z G7 G8 hl ⟨s7, g7⟩ ⟨rfl, ez⟩
            have el : (intsV b.2.2).length = b.2.2.length := by unfold intsV; rw [List.length_map]
            rw [el] at hl
            have eil := List.getElem?_eq_getElem hl
            have ez2 : (intsV b.2.2)[l]? = some (.int (b.2.2[l] : Nat)) := by unfold intsV; rw [List.getElem?_map, eil]; rfl
            cases Option.some.inj (ez2.symm.trans ez)
            have hlt := h3 _ (List.getElem_mem hl)
            have ep : (ps.map txV)[b.2.2[l]]? = some (txV ps[b.2.2[l]]) := by rw [List.getElem?_map, List.getElem?_eq_getElem hlt]; rfl
            refine ⟨rfl, ?_⟩
            unfold tYes
            refine iteT ⟨_, rfl, _, rfl, a, _, _, txV ps[b.2.2[l]], rfl, rfl, (s4.trans (s5.trans s7)).seq hs, atI_nat ep, _, g7, ?_, same_updF nD4 s7, ?_⟩
            · unfold pickN
              rw [List.length_map, List.length_map, List.length_take]
              exact small1000' (by omega)
            · rw [upd_same, take_snoc eil]
              unfold pickN
              rw [List.map_append, List.map_append]
              have e2 : ps.getD b.2.2[l] [] = ps[b.2.2[l]] := by rw [List.getD_eq_getElem?_getD, List.getElem?_eq_getElem hlt]; rfl
              show _ = some (HO.lst (_ ++ [txV (ps.getD b.2.2[l] [])]))
              rw [e2]
          · rintro G7 ⟨s7, g7⟩
            have el : (intsV b.2.2).length = b.2.2.length := by unfold intsV; rw [List.length_map]
            rw [el, List.take_length] at g7
            refine ⟨D4, _, rfl, .inl ⟨SqL.of g7, fun t nt => ?_⟩⟩
            have st : Same G7 (upd G7 t (.tup ((pickN ps b.2.2).map txV))) := same_upd nt
            have gD7 := st _ _ (s7 _ _ gD3)
            refine ⟨_, gD7, ?_, same_updF nD3 (s5.trans (s7.trans st)), us ++ [t], ?_, ?_⟩
            · have := hus.length
              rw [List.length_map, List.length_take, List.length_map] at this
              rw [List.length_map]
              exact small1000' (by omega)
            · rw [upd_same, List.map_append]
              rfl
            · have ek : (L.map (·.2))[j]? = some b.2.2 := by rw [List.getElem?_map, ej, eb]; rfl
              rw [take_snoc ek, List.map_append]
              refine Paired.snoc (Paired.mono (fun u w' eu => ?_) hus) ?_
              · have hu : u ≠ D3 := fun z => by rw [z, gD3] at eu; cases eu
                rw [upd_ne hu]
                exact st _ _ (s7 _ _ eu)
              · have hu : t ≠ D3 := fun z => by rw [z, s7 _ _ gD3] at nt; cases nt
                rw [upd_ne hu, upd_same]
        · rintro G5 ⟨s5, us, gD3, hus⟩
          rw [hkeys] at hus
          have hll : (L.map (·.1)).length = (grp ps.length m).length := by rw [← hkeys, List.length_map, List.length_map]
          rw [hll, List.take_length] at hus
          exact q D3 G5 us (none_back s4 nD3) (s4.trans s5) gD3 hus
end
end My

set_option Elab.async false
set_option linter.all false
set_option maxRecDepth 100000
namespace My
open PySem PySem.Spec PyProof.Rows L2 SX LamX NdefX
abbrev sLawStaff : Stmt := topS 26
theorem scLawStaff : FnScope ["rows", "n", "a", "b", "c", "d", "e", "f", "g", "rest"] ["rows"] (defScope sLawStaff) := ⟨rfl, rfl, rfl, by decide +kernel, rfl, by decide +kernel, by decide +kernel⟩
abbrev spStar (K : PySem.W.Frag) (C : Addr) : Sp := fun vs H Q E => ∃ ws rest, vs = ws ++ rest ∧ ws.length = (["self"] : List Str).length ∧ rest.length ≤ sizeLine ∧ ∀ p, H p = Option.none → spInit K C (ws ++ [V.ref p]) (upd H p (.tup rest)) Q E
theorem st_make {K : PySem.W.Frag} {C : Addr} {H : Hp} {E : XK} {ls : List Addr} {rows : Rows} {Q : VK} (hls : RowsL H ls rows) (hok : RowsOk rows) (h12 : rows.length ≤ 12) (h8 : (uq rows.flatten).length ≤ 8) (q : ∀ x H', H x = none → Same H H' → StaffAt C H' x rows → Q (.ref x) H') :
    ∀ x dx, H x = Option.none → H dx = Option.none → dx ≠ x → spStar K C (V.ref x :: ls.map V.ref) (upd (upd H dx (.own x)) x (.ins C dx [])) (fun v H2 => v = .non ∧ Q (.ref x) H2) E := by
  intro x dx nx nd hne
  have hl := hls.length
  refine ⟨[.ref x], ls.map V.ref, rfl, rfl, by rw [List.length_map]; exact line_of (by omega), fun p np => ?_⟩
  have px : p ≠ x := fun e => by rw [e, upd_same] at np; cases np
  have pd : p ≠ dx := fun e => by
    rw [e, upd_ne hne, upd_same] at np
    cases np
  have keep : ∀ b o, H b = some o → (upd (upd (upd H dx (.own x)) x (.ins C dx [])) p (.tup (ls.map V.ref))) b = some o := fun b o e => by
    have b1 : b ≠ x := ne_of_none e nx
    have b2 : b ≠ dx := ne_of_none e nd
    have b3 : b ≠ p := fun z => by
      rw [z] at e
      rw [upd_ne px, upd_ne pd, e] at np
      cases np
    rw [upd_ne b3, upd_ne b1, upd_ne b2]
    exact e
  refine ⟨x, dx, p, ls, rows, rfl, by rw [upd_ne (Ne.symm px), upd_same], upd_same, Paired.mono (fun a b e => keep _ _ e) hls, hok, h12, h8, fun H' bt st => ⟨rfl, q x H' nx (fun b o e => bt b o (ne_of_none e nx) (keep b o e)) st⟩⟩
theorem iteTd {b : Bool} {A B : Prop} (h : b = true) (p : A) : if b = true then A else B := by rw [if_pos h]; exact p
theorem iteFd {b : Bool} {A B : Prop} (h : b = false) (p : B) : if b = true then A else B := by rw [h]; exact p
def spStaff (K : PySem.W.Frag) (C : Addr) : Sp := fun vs H Q _ => ∃ R rows, vs = [.ref R] ∧ RowsAt H R rows ∧ RowsOk rows ∧ 1 ≤ rows.length ∧ rows.length ≤ 6 ∧ (uq rows.flatten).length ≤ 8 ∧ ∀ x H', H x = none → Same H H' → StaffAt C H' x rows → Q (.ref x) H'
section
variable {P : Program} {w : World} {K : PySem.W.Frag} {mg : Str → Option Value} {base : Heap}
theorem ok_lstaff {C f fI : Addr} {fd0 : FuncData} {k : Nat} (F : Fun K "_law_staff" "_law_staff" sLawStaff f fd0) (MkS : Mk K C fI) (SI : FnR P w K mg base CX0 (k + 4) fI (spStar K C)) (g_Staff : mg "Staff" = some (.ref C)) (b_len : mg "len" = none) : FnOk P w K mg base CX0 (k + 6) f fd0 ["rows"] (spStaff K C) := by
  refine F.ok scLawStaff (fun vs H Q E h => ?_) (fun cdv A outer s H vs Q E hr h => ?_)
  · obtain ⟨R, rows, rfl, _⟩ := h
    rfl
  · obtain ⟨R, rows, rfl, ⟨ls, hR, hls⟩, hok, h1, h6, h8, q⟩ := h
    have hl := hls.length
    refine ⟨_, (pss_cons (ps_set (i := 1) scLawStaff.nd rfl (.inl rfl) (pe_callB call_len rfl b_len (by decide +kernel) (pa_cons (pv 0) pa_nil)))
      (pss_cons (ps_if (pt_cmpR op_lt (pv 1) pe_int (nomark _)) (pss_one (ps_ret (pe_ifExp (pt_cmpR op_eq (pv 1) pe_int (nomark _)) pe_never (pe_ifExp (pt_cmpR op_eq (pv 1) pe_int (nomark _)) (StX.pe_makeR MkS SI (hr.mono (by omega)) rfl g_Staff pass0 (pa_cons (pe_ix ix_list (pv 0) pe_int (fun _ _ => rfl)) pa_nil)) (StX.pe_makeR MkS SI (hr.mono (by omega)) rfl g_Staff pass0 (pa_cons (pe_ix ix_list (pv 0) pe_int (fun _ _ => rfl)) (pa_cons (pe_ix ix_list (pv 0) pe_int (fun _ _ => rfl)) pa_nil))))))) pss_nil)
      (pss_cons (ps_if (pt_cmpR op_lt (pv 1) pe_int (nomark _)) (pss_one (ps_ret (pe_ifExp (pt_cmpR op_eq (pv 1) pe_int (nomark _)) (StX.pe_makeR MkS SI (hr.mono (by omega)) rfl g_Staff pass0 (pa_cons (pe_ix ix_list (pv 0) pe_int (fun _ _ => rfl)) (pa_cons (pe_ix ix_list (pv 0) pe_int (fun _ _ => rfl)) (pa_cons (pe_ix ix_list (pv 0) pe_int (fun _ _ => rfl)) pa_nil)))) (StX.pe_makeR MkS SI (hr.mono (by omega)) rfl g_Staff pass0 (pa_cons (pe_ix ix_list (pv 0) pe_int (fun _ _ => rfl)) (pa_cons (pe_ix ix_list (pv 0) pe_int (fun _ _ => rfl)) (pa_cons (pe_ix ix_list (pv 0) pe_int (fun _ _ => rfl)) (pa_cons (pe_ix ix_list (pv 0) pe_int (fun _ _ => rfl)) pa_nil)))))))) pss_nil)
      (pss_cons (ps_if (pt_cmpR op_eq (pv 1) pe_int (nomark _)) (pss_one (ps_ret (StX.pe_makeR MkS SI (hr.mono (by omega)) rfl g_Staff pass0 (pa_cons (pe_ix ix_list (pv 0) pe_int (fun _ _ => rfl)) (pa_cons (pe_ix ix_list (pv 0) pe_int (fun _ _ => rfl)) (pa_cons (pe_ix ix_list (pv 0) pe_int (fun _ _ => rfl)) (pa_cons (pe_ix ix_list (pv 0) pe_int (fun _ _ => rfl)) (pa_cons (pe_ix ix_list (pv 0) pe_int (fun _ _ => rfl)) pa_nil)))))))) pss_nil)
      (pss_cons (ps_if (pt_cmpR op_eq (pv 1) pe_int (nomark _)) (pss_one (ps_ret (StX.pe_makeR MkS SI (hr.mono (by omega)) rfl g_Staff pass0 (pa_cons (pe_ix ix_list (pv 0) pe_int (fun _ _ => rfl)) (pa_cons (pe_ix ix_list (pv 0) pe_int (fun _ _ => rfl)) (pa_cons (pe_ix ix_list (pv 0) pe_int (fun _ _ => rfl)) (pa_cons (pe_ix ix_list (pv 0) pe_int (fun _ _ => rfl)) (pa_cons (pe_ix ix_list (pv 0) pe_int (fun _ _ => rfl)) (pa_cons (pe_ix ix_list (pv 0) pe_int (fun _ _ => rfl)) pa_nil))))))))) pss_nil)
      pss_never))))), ?_⟩
    have M := st_make (K := K) (C := C) (E := E0) (Q := Q) hls hok (by omega) h8 q
    refine ⟨_, rfl, _, _, rfl, .inl ⟨_, SqL.of hR, rfl⟩, ?_⟩
    rcases ls with _ | ⟨l0, ls⟩
    · rw [List.length_nil] at hl; omega
    rcases ls with _ | ⟨l1, ls⟩
    · exact ⟨_, rfl, _, _, rfl, rfl, _, rfl, iteTd rfl ⟨_, rfl, rfl, _, rfl, iteFd rfl ⟨_, rfl, rfl, _, rfl, iteTd rfl ⟨_, rfl, R, _, (0 : Int), .ref l0, rfl, rfl, SqL.of hR, atI_nat (j := 0) rfl, M⟩⟩⟩⟩
    rcases ls with _ | ⟨l2, ls⟩
    · exact ⟨_, rfl, _, _, rfl, rfl, _, rfl, iteTd rfl ⟨_, rfl, rfl, _, rfl, iteFd rfl ⟨_, rfl, rfl, _, rfl, iteFd rfl ⟨_, rfl, R, _, (0 : Int), .ref l0, rfl, rfl, SqL.of hR, atI_nat (j := 0) rfl, _, rfl, R, _, (1 : Int), .ref l1, rfl, rfl, SqL.of hR, atI_nat (j := 1) rfl, M⟩⟩⟩⟩
    rcases ls with _ | ⟨l3, ls⟩
    · exact ⟨_, rfl, _, _, rfl, rfl, _, rfl, iteFd rfl ⟨_, rfl, _, _, rfl, rfl, _, rfl, iteTd rfl ⟨_, rfl, rfl, _, rfl, iteTd rfl ⟨_, rfl, R, _, (0 : Int), .ref l0, rfl, rfl, SqL.of hR, atI_nat (j := 0) rfl, _, rfl, R, _, (1 : Int), .ref l1, rfl, rfl, SqL.of hR, atI_nat (j := 1) rfl, _, rfl, R, _, (2 : Int), .ref l2, rfl, rfl, SqL.of hR, atI_nat (j := 2) rfl, M⟩⟩⟩⟩
    rcases ls with _ | ⟨l4, ls⟩
    · exact ⟨_, rfl, _, _, rfl, rfl, _, rfl, iteFd rfl ⟨_, rfl, _, _, rfl, rfl, _, rfl, iteTd rfl ⟨_, rfl, rfl, _, rfl, iteFd rfl ⟨_, rfl, R, _, (0 : Int), .ref l0, rfl, rfl, SqL.of hR, atI_nat (j := 0) rfl, _, rfl, R, _, (1 : Int), .ref l1, rfl, rfl, SqL.of hR, atI_nat (j := 1) rfl, _, rfl, R, _, (2 : Int), .ref l2, rfl, rfl, SqL.of hR, atI_nat (j := 2) rfl, _, rfl, R, _, (3 : Int), .ref l3, rfl, rfl, SqL.of hR, atI_nat (j := 3) rfl, M⟩⟩⟩⟩
    rcases ls with _ | ⟨l5, ls⟩
    · exact ⟨_, rfl, _, _, rfl, rfl, _, rfl, iteFd rfl ⟨_, rfl, _, _, rfl, rfl, _, rfl, iteFd rfl ⟨_, rfl, rfl, _, rfl, iteTd rfl ⟨_, rfl, R, _, (0 : Int), .ref l0, rfl, rfl, SqL.of hR, atI_nat (j := 0) rfl, _, rfl, R, _, (1 : Int), .ref l1, rfl, rfl, SqL.of hR, atI_nat (j := 1) rfl, _, rfl, R, _, (2 : Int), .ref l2, rfl, rfl, SqL.of hR, atI_nat (j := 2) rfl, _, rfl, R, _, (3 : Int), .ref l3, rfl, rfl, SqL.of hR, atI_nat (j := 3) rfl, _, rfl, R, _, (4 : Int), .ref l4, rfl, rfl, SqL.of hR, atI_nat (j := 4) rfl, M⟩⟩⟩⟩
    rcases ls with _ | ⟨l6, ls⟩
    · exact ⟨_, rfl, _, _, rfl, rfl, _, rfl, iteFd rfl ⟨_, rfl, _, _, rfl, rfl, _, rfl, iteFd rfl ⟨_, rfl, rfl, _, rfl, iteFd rfl ⟨_, rfl, rfl, _, rfl, iteTd rfl ⟨_, rfl, R, _, (0 : Int), .ref l0, rfl, rfl, SqL.of hR, atI_nat (j := 0) rfl, _, rfl, R, _, (1 : Int), .ref l1, rfl, rfl, SqL.of hR, atI_nat (j := 1) rfl, _, rfl, R, _, (2 : Int), .ref l2, rfl, rfl, SqL.of hR, atI_nat (j := 2) rfl, _, rfl, R, _, (3 : Int), .ref l3, rfl, rfl, SqL.of hR, atI_nat (j := 3) rfl, _, rfl, R, _, (4 : Int), .ref l4, rfl, rfl, SqL.of hR, atI_nat (j := 4) rfl, _, rfl, R, _, (5 : Int), .ref l5, rfl, rfl, SqL.of hR, atI_nat (j := 5) rfl, M⟩⟩⟩⟩⟩
    simp only [List.length_cons] at hl
    omega
end
end My

set_option Elab.async false
set_option linter.all false
set_option maxRecDepth 100000
namespace My
theorem len_sub {α : Type} [DecidableEq α] : ∀ {l m : List α}, l.Nodup → (∀ x ∈ l, x ∈ m) → l.length ≤ m.length
  | [], _, _, _ => Nat.zero_le _
  | a :: l, m, nd, h => by
    rw [List.nodup_cons] at nd
    have ha : a ∈ m := h a (List.mem_cons_self ..)
    have ih := len_sub (m := m.erase a) nd.2 fun x hx => (List.mem_erase_of_ne (fun e => by subst e; exact nd.1 hx)).mpr (h x (List.mem_cons_of_mem _ hx))
    rw [List.length_erase_of_mem ha] at ih
    have : 0 < m.length := List.length_pos_of_mem ha
    rw [List.length_cons]
    omega
theorem fd_filter (p : Nat → Bool) : ∀ n, (List.range n).filter p ∈ fd n
  | 0 => by simp [fd]
  | n + 1 => by
    rw [List.range_succ, List.filter_append]
    unfold fd
    have ih := fd_filter p n
    cases h : p n with
    | true =>
      refine List.mem_append.mpr (.inr (List.mem_map.mpr ⟨_, ih, ?_⟩))
      simp [h]
    | false =>
      refine List.mem_append.mpr (.inl ?_)
      simpa [h] using ih
theorem sub_grp {n m : Nat} (hn : n ≤ 8) (p : Nat → Bool) (hl : ((List.range n).filter p).length ≤ m) : (List.range n).filter p ∈ grp n m := by
  have h1 : (List.range n).filter p ∈ grp n n := (List.isPerm_iff.mp (fd_perm n (by omega))).mem_iff.mp (fd_filter p n)
  by_cases h : m ≤ n
  · rw [← grp_cut n (by omega) m (by omega)]
    exact List.mem_filter.mpr ⟨h1, by simpa using hl⟩
  · have e : grp n m = grp n n := by
      unfold grp
      rw [Nat.min_eq_right (by omega), Nat.min_self]
    rw [e]
    exact h1
theorem map_getD (ps : List (List Nat)) : (List.range ps.length).map (fun i => ps.getD i []) = ps := by
  refine List.ext_getElem (by simp) fun i h1 h2 => ?_
  simp [List.getD_eq_getElem?_getD, List.getElem?_eq_getElem h2]
theorem pick_filter (ps : List (List Nat)) (q : List Nat → Bool) : pickN ps ((List.range ps.length).filter fun i => q (ps.getD i [])) = ps.filter q := by
  have h := List.filter_map (f := fun i => ps.getD i []) (p := q) (l := List.range ps.length)
  rw [map_getD] at h
  rw [h]
  rfl
theorem sole_nil {rows : Rows} {g : List (List Nat)} : soleOf rows g = [] ↔ ∀ r ∈ rows, ∃ x ∈ r, x ∉ g := by
  unfold soleOf
  rw [List.filter_eq_nil_iff]
  constructor
  · intro h r hr
    obtain ⟨k, hk, rfl⟩ := List.getElem_of_mem hr
    have h2 := h k (List.mem_range.mpr hk)
    rw [List.getD_eq_getElem?_getD, List.getElem?_eq_getElem hk, Option.getD_some] at h2
    simpa using h2
  · intro h k hk
    have hk := List.mem_range.mp hk
    obtain ⟨x, hx, hn⟩ := h _ (List.getElem_mem hk)
    rw [List.getD_eq_getElem?_getD, List.getElem?_eq_getElem hk, Option.getD_some]
    simp only [List.all_eq_true, decide_eq_true_eq]
    exact fun z => hn (z x hx)
theorem mem_sole {rows : Rows} {g : List (List Nat)} {k : Nat} : k ∈ soleOf rows g ↔ k < rows.length ∧ ∀ x ∈ rows.getD k [], x ∈ g := by
  unfold soleOf
  rw [List.mem_filter, List.mem_range, List.all_eq_true]
  simp only [decide_eq_true_eq]
theorem sole_mono {rows : Rows} {g g' : List (List Nat)} (h : ∀ x ∈ g, x ∈ g') {k : Nat} (hk : k ∈ soleOf rows g) : k ∈ soleOf rows g' := by
  rw [mem_sole] at hk ⊢
  exact ⟨hk.1, fun x hx => h x (hk.2 x hx)⟩
theorem sole_all (rows : Rows) : soleOf rows (uq rows.flatten) = List.range rows.length := by
  unfold soleOf
  rw [List.filter_eq_self]
  intro k hk
  have hk := List.mem_range.mp hk
  rw [List.getD_eq_getElem?_getD, List.getElem?_eq_getElem hk, Option.getD_some, List.all_eq_true]
  intro x hx
  rw [decide_eq_true_eq, mem_uq]
  exact List.mem_flatten.mpr ⟨_, List.getElem_mem hk, hx⟩
theorem sole_none {rows : Rows} (h : ∀ r ∈ rows, r ≠ []) : soleOf rows [] = [] := by
  rw [sole_nil]
  intro r hr
  have hn := h r hr
  cases r with
  | nil => exact absurd rfl hn
  | cons x r => exact ⟨x, List.mem_cons_self .., by simp⟩
theorem safe_eq {rows : Rows} {few m : Nat} (h8 : (uq rows.flatten).length ≤ 8) (fm : few ≤ m) (nd : ∀ r ∈ rows, r.Nodup) :
    (rows.all fun r => decide ((r.length : Int) > (few : Nat))) = ((((grp (uq rows.flatten).length m).map (pickN (uq rows.flatten))).filter fun g => decide (g.length ≤ few)).all fun g => decide (soleOf rows g = [])) := by
  rw [Bool.eq_iff_iff, List.all_eq_true, List.all_eq_true]
  constructor
  · intro h g hg
    rw [decide_eq_true_eq, sole_nil]
    intro r hr
    have hl : g.length ≤ few := by simpa using (List.mem_filter.mp hg).2
    have h1 := h r hr
    rw [decide_eq_true_eq] at h1
    refine Classical.byContradiction fun hc => ?_
    have h2 := len_sub (m := g) (nd r hr) fun x hx => Classical.byContradiction fun hx2 => hc ⟨x, hx, hx2⟩
    omega
  · intro h r hr
    rw [decide_eq_true_eq]
    refine Classical.byContradiction fun hc => ?_
    have hle : r.length ≤ few := by omega
    generalize hps : uq rows.flatten = ps at *
    have ndp : ps.Nodup := hps ▸ uq_nodup _
    have e := pick_filter ps fun x => decide (x ∈ r)
    have hlen : (ps.filter fun x => decide (x ∈ r)).length ≤ r.length := len_sub (ndp.sublist List.filter_sublist) fun x hx => by simpa using (List.mem_filter.mp hx).2
    have hl2 : ((List.range ps.length).filter fun i => decide (ps.getD i [] ∈ r)).length = (ps.filter fun x => decide (x ∈ r)).length := by
      rw [← e]
      unfold pickN
      rw [List.length_map]
    have hmem := sub_grp (m := m) h8 (fun i => decide (ps.getD i [] ∈ r)) (by omega)
    have h1 := h (ps.filter fun x => decide (x ∈ r)) (List.mem_filter.mpr ⟨List.mem_map.mpr ⟨_, hmem, e⟩, by rw [decide_eq_true_eq]; omega⟩)
    rw [decide_eq_true_eq, sole_nil] at h1
    obtain ⟨x, hx, hn⟩ := h1 r hr
    refine hn (List.mem_filter.mpr ⟨?_, by simpa using hx⟩)
    rw [← hps, mem_uq]
    exact List.mem_flatten.mpr ⟨r, hr, hx⟩
theorem grp_one : ∀ n < 9, 1 ≤ n → grp n 1 = [] :: (List.range n).map fun i => [i] := by decide +kernel
theorem pick_one (ps : List (List Nat)) (h1 : 1 ≤ ps.length) (h8 : ps.length ≤ 8) : (grp ps.length 1).map (pickN ps) = [] :: ps.map fun x => [x] := by
  rw [grp_one _ (by omega) h1, List.map_cons, List.map_map]
  congr 1
  conv => rhs; rw [← map_getD ps]
  rw [List.map_map]
  rfl
section
open PySem PySem.Spec PyProof.Rows L2 SX
abbrev pdI (k : Nat) : PyData := .int (k : Int)
theorem dp_intsN {K : PySem.W.Frag} {H : Hp} : ∀ l : List Nat, DpAll K H (intsV l) (l.map pdI)
  | [] => .nil
  | e :: es => .cons (.int (e : Int)) (dp_intsN es)
theorem lay_ints : ∀ l : List Nat, PyData.canLayAll0 (l.map pdI) = true ∧ PyData.depthAll (l.map pdI) = 0
  | [] => ⟨by simp [PyData.canLayAll0], by simp [PyData.depthAll]⟩
  | e :: es => by
    obtain ⟨h1, h2⟩ := lay_ints es
    exact ⟨by simp [PyData.canLayAll0, PyData.canLay0, h1], by simp [PyData.depthAll, PyData.depth, h2]⟩
theorem shaped_ints (l : List Nat) : SeqAt.shaped (.list (l.map pdI)) = true := by
  obtain ⟨h1, h2⟩ := lay_ints l
  unfold SeqAt.shaped
  simp [PyData.canLay0, PyData.depth, h1, h2]
theorem eqv_nilI (l : List Nat) : PyData.eqv (.list (l.map pdI)) (.list []) = decide (l = []) := by
  cases l with
  | nil => simp [PyData.eqv, PyData.eqvAll]
  | cons a l => simp [PyData.eqv, PyData.eqvAll]
theorem eq_nilI {K : PySem.W.Frag} {H : Hp} {a z : Addr} {l : List Nat} {Q : VK} (hl : SqL K H a (intsV l)) (hz : SqL K H z []) (q : Q (.bl (decide (l = []))) H) : rEqD K (.ref a) (.ref z) H Q :=
  ⟨_, _, .lst hl (dp_intsN l), .lst hz .nil, shaped_ints l, by decide +kernel, by rw [eqv_nilI]; exact q⟩
theorem ne_self {K : PySem.W.Frag} {H : Hp} {a z : Addr} {l : List (List Nat)} {Q : VK} (hl : SqL K H a (l.map txV)) (hz : SqL K H z (l.map txV)) (hc : ∀ e ∈ l, Cod e) (q : Q (.bl false) H) : rNeD K (.ref a) (.ref z) H Q :=
  ⟨_, _, .lst hl (dp_tx l), .lst hz (dp_tx l), shaped_lst hc, shaped_lst hc, by
    have h : PyData.eqv (.list (l.map pdS)) (.list (l.map pdS)) = true := PySem.SeqAt.eqv_refl _ (by obtain ⟨h1, _⟩ := lay_tx l hc; simp [PyData.canLay0, h1])
    rw [h]
    exact q⟩
end
end My

set_option Elab.async false
set_option linter.all false
set_option maxRecDepth 100000
namespace My
open PySem PySem.Spec PyProof.Rows L2 SX LamX NdefX
abbrev sLaw : Stmt := topS 31
theorem scLaw : FnScope ["script", "bag", "pool", "rows", "k", "staff", "persons", "row", "most", "told", "due", "strangers", "name", "held", "group", "sole", "few", "turn", "more", "kept_v", "less", "late"] ["script"] (defScope sLaw) := ⟨rfl, rfl, rfl, by decide +kernel, rfl, by decide +kernel, by decide +kernel⟩
def rListOf (K : PySem.W.Frag) : List V → Hp → VK → Prop := fun xs H Q => ∃ p ys, xs = [.ref p] ∧ (SqL K H p ys ∨ SqT K H p ys) ∧ ∀ l, H l = none → Q (.ref l) (upd H l (.lst ys))
def rInt1 : List V → Hp → VK → Prop := fun xs H Q => (∃ i, xs = [.int i] ∧ Q (.int i) H) ∨ ∃ k, xs = [.bl k] ∧ Q (.int (if k then 1 else 0)) H
def spLaw (K : PySem.W.Frag) : Sp := fun vs H Q _ => ∃ (a : Addr) (ns : List Int), vs = [.ref a] ∧ SqL K H a (ns.map V.int) ∧ ns.length ≤ 63 ∧ ∀ H', Q (.bl true) H'
/-- the methods of a Staff -/
structure StaffFns (P : Program) (w : World) (K : PySem.W.Frag) (mg : Str → Option Value) (base : Heap) (C fS fF fG : Addr) (fdS fdF fdG : FuncData) : Prop where
  T : Cls K C
  mS : Meth K C "sole" fS
  oS : FnOk P w K mg base CX0 1 fS fdS ["self", "group"] (spSole K C)
  bS : Binds K fdS ["self", "group"] []
  mF : Meth K C "is_safe" fF
  oF : FnOk P w K mg base CX0 1 fF fdF ["self", "most"] (spSafe C)
  bF : Binds K fdF ["self", "most"] []
  mG : Meth K C "groups" fG
  oG : GFn P w K mg base 2 fG fdG ["self", "most"] (spGroups C)
  oGF : Gf.GFnF P w K mg base 2 fG fdG ["self", "most"] (spGroups C)
  bG : Binds K fdG ["self", "most"] []
theorem BagC.neT {K : PySem.W.Frag} {H : Hp} {b c p : Addr} {ns : List Int} {es : List (List Nat)} (h : BagC K H b c ns) (e : H p = some (.lst (es.map txV))) : p ≠ b := by
  obtain ⟨i, g, x, n, B⟩ := h
  intro z
  rw [z, B.ob] at e
  cases es with
  | nil => cases e
  | cons x xs => cases e
theorem RowsL.but {K : PySem.W.Frag} {H H' : Hp} {b c : Addr} {ns : List Int} {ls : List Addr} {rows : Rows} (B : BagC K H b c ns) (h : RowsL H ls rows) (t : But b H H') : RowsL H' ls rows := Paired.mono (fun _ _ e => t _ _ (B.neT e) e) h
theorem cut_from (es : List (List Nat)) (n : Nat) : cutV (es.map txV) (some (n : Nat)) none = (es.drop n).map txV := by
  unfold cutV
  rw [show HT.sIx (es.map txV).length (es.map txV).length none = (es.map txV).length from HT.sIx_none _ _, HT.sIx_nat, List.map_drop]
  by_cases h : n ≤ (es.map txV).length
  · rw [Nat.min_eq_left h, List.take_of_length_le (by rw [List.length_drop]; exact Nat.le_refl _)]
  · rw [Nat.min_eq_right (by omega), List.drop_of_length_le (Nat.le_refl _), List.drop_of_length_le (by omega)]
    simp
theorem BagC.neR {K : PySem.W.Frag} {H : Hp} {b c p : Addr} {ns : List Int} {ls : List Addr} (h : BagC K H b c ns) (e : H p = some (.lst (ls.map V.ref))) : p ≠ b := by
  obtain ⟨i, g, x, n, B⟩ := h
  intro z
  rw [z, B.ob] at e
  cases ls with
  | nil => cases e
  | cons l ls =>
    cases ls with
    | nil => cases e
    | cons l2 ls => cases e
theorem BagC.neK {K : PySem.W.Frag} {H : Hp} {b c p : Addr} {ns : List Int} {o : HO} (h : BagC K H b c ns) (e : H p = some o) (n : ∀ xs, o ≠ .lst xs) : p ≠ b := by
  obtain ⟨i, g, x, m, B⟩ := h
  intro z
  rw [z, B.ob] at e
  exact n _ (Option.some.inj e).symm
theorem RowsAt.but {K : PySem.W.Frag} {H H' : Hp} {b c R : Addr} {ns : List Int} {rows : Rows} (B : BagC K H b c ns) (h : RowsAt H R rows) (t : But b H H') : RowsAt H' R rows := by
  obtain ⟨ls, h1, h2⟩ := h
  exact ⟨ls, t _ _ (B.neR h1) h1, RowsL.but B h2 t⟩
theorem StaffAt.but {K : PySem.W.Frag} {H H' : Hp} {C b c o : Addr} {ns : List Int} {rows : Rows} (B : BagC K H b c ns) (h : StaffAt C H o rows) (t : But b H H') : StaffAt C H' o rows := by
  obtain ⟨dx, L, Pp, ts, h1, h2, h3, h4⟩ := h
  exact ⟨dx, L, Pp, ts, t _ _ (B.neK h1 fun _ z => by cases z) h1, t _ _ (B.neR h2) h2, Paired.mono (fun _ _ e => t _ _ (B.neK e fun _ z => by cases z) e) h3, t _ _ (B.neT h4) h4⟩
theorem grp_mem {n m : Nat} (hn : n ≤ 8) {ix : List Nat} (h : ix ∈ grp n m) : ix.length ≤ 8 ∧ ix.length ≤ m ∧ ∀ i ∈ ix, i < n := by
  unfold grp at h
  obtain ⟨r, hr, hix⟩ := List.mem_flatMap.mp h
  have hr' := List.mem_range.mp hr
  have ck := cOk_all n (by omega) r (by omega)
  unfold cOk at ck
  simp only [Bool.and_eq_true, decide_eq_true_eq, List.all_eq_true] at ck
  obtain ⟨c1, c2⟩ := ck.2 ix hix
  exact ⟨by omega, by omega, c2⟩
theorem grp_len {n m : Nat} (hn : n ≤ 8) : (grp n m).length ≤ 900 := by
  unfold grp
  have := flatC_len hn (min m n + 1) (by omega)
  omega
theorem lk_names {K : PySem.W.Frag} {H : Hp} {u v : Addr} {g : List (List Nat)} (h1 : H u = some (.tup (g.map txV))) (h2 : H v = some (.tup (g.map txV))) (hl : g.length < 1000) : Lk K H 1 (.ref u) (.ref v) := by
  refine .inr ⟨u, v, _, _, rfl, rfl, .inr ⟨SqT.of h1, SqT.of h2⟩, rfl, by rw [List.length_map]; exact hl, fun i x y hx hy => ?_⟩
  rw [hx] at hy
  cases hy
  rw [List.getElem?_map] at hx
  cases hg : g[i]? with
  | none => rw [hg] at hx; cases hx
  | some z =>
    rw [hg] at hx
    cases hx
    exact ⟨rfl, trivial⟩
theorem lk_ints {K : PySem.W.Frag} {H : Hp} {n : Nat} {u v : Addr} {g : List Nat} (h1 : H u = some (.lst (intsV g))) (h2 : H v = some (.lst (intsV g))) (hl : g.length < 1000) : Lk K H (n + 1) (.ref u) (.ref v) := by
  refine .inr ⟨u, v, _, _, rfl, rfl, .inl ⟨SqL.of h1, SqL.of h2⟩, rfl, by rw [intsV, List.length_map]; exact hl, fun i x y hx hy => ?_⟩
  rw [hx] at hy
  cases hy
  rw [intsV, List.getElem?_map] at hx
  cases hg : g[i]? with
  | none => rw [hg] at hx; cases hx
  | some z =>
    rw [hg] at hx
    cases hx
    cases n with
    | zero => exact ⟨rfl, trivial⟩
    | succ n => exact .inl ⟨rfl, trivial⟩
theorem soleOf_len (rows : Rows) (g : List (List Nat)) : (soleOf rows g).length ≤ rows.length := by
  have := List.length_filter_le (fun k => (rows.getD k []).all fun x => decide (x ∈ g)) (List.range rows.length)
  rw [List.length_range] at this
  exact this
theorem soleOf_str {rows : Rows} {ST g : List (List Nat)} (h : ∀ x ∈ ST, x ∉ uq rows.flatten) : soleOf rows (ST ++ g ++ ST) = soleOf rows g := by
  unfold soleOf
  refine List.filter_congr fun k hk => ?_
  rw [List.mem_range] at hk
  have e : rows.getD k [] = rows[k] := by rw [List.getD_eq_getElem?_getD, List.getElem?_eq_getElem hk]; rfl
  rw [e]
  rw [Bool.eq_iff_iff, List.all_eq_true, List.all_eq_true]
  refine forall_congr' fun x => forall_congr' fun hx => ?_
  rw [decide_eq_true_iff, decide_eq_true_iff]
  have hn : x ∉ ST := fun hm => h x hm (mem_uq.mpr (List.mem_flatten.mpr ⟨_, List.getElem_mem hk, hx⟩))
  simp [List.mem_append, hn]
theorem lk_groups {K : PySem.W.Frag} {H0 H : Hp} {ps : List (List Nat)} {us vs : List Addr} {out : List (List Nat)} {told due : Addr} (h1 : NewT H0 H ps us out) (h2 : RowsT H vs (out.map (pickN ps))) (e1 : H told = some (.lst (us.map V.ref))) (e2 : H due = some (.lst (vs.map V.ref))) (hl : out.length < 1000) (hg : ∀ ix ∈ out, ix.length < 1000) : Lk K H 2 (.ref told) (.ref due) := by
  have l1 := h1.length
  have l2 := h2.length
  rw [List.length_map] at l2
  refine .inr ⟨told, due, _, _, rfl, rfl, .inl ⟨SqL.of e1, SqL.of e2⟩, by rw [List.length_map, List.length_map]; omega, by rw [List.length_map]; omega, fun i x y hx hy => ?_⟩
  have hi : i < out.length := by
    have := (List.getElem?_eq_some_iff.mp hx).1
    rw [List.length_map] at this
    omega
  have eo := List.getElem?_eq_getElem hi
  obtain ⟨u, eu, hu⟩ := paired_get h1 i out[i] eo
  obtain ⟨v, ev, hv⟩ := paired_get h2 i (pickN ps out[i]) (by rw [List.getElem?_map, eo]; rfl)
  rw [List.getElem?_map, eu] at hx
  rw [List.getElem?_map, ev] at hy
  cases hx
  cases hy
  refine lk_names hu.2 hv ?_
  unfold pickN
  rw [List.length_map]
  exact hg _ (List.getElem_mem hi)
def STR : List (List Nat) := [(Str.ofString "nobody").cps.toList, (Str.ofString "q").cps.toList, (Str.ofString "someone").cps.toList]
abbrev slots0 (a b po R : Addr) : L2.St := [some (.ref a), some (.ref b), some (.ref po), some (.ref R), none, none, none, none, none, none, none, none, none, none, none, none, none, none, none, none, none, none]
theorem rg_ok {n : Nat} (h : n < 1000) : RgOk 0 (n : Int) := by
  exact RgOk.of_le (by omega) (by omega) (by omega) (by omega)
theorem rg_ints {n : Nat} : rgV 0 (n : Int) = intsV (List.range n) := by
  unfold rgV intsV
  simp
theorem inV_ints (k : Nat) : ∀ l : List Nat, inV (.int (k : Nat)) (intsV l) = decide (k ∈ l)
  | [] => rfl
  | b :: l => by
    show (eqV (.int (b : Nat)) (.int (k : Nat)) || inV (.int (k : Nat)) (intsV l)) = _
    rw [inV_ints k l]
    show (((b : Int) == (k : Int)) || _) = _
    by_cases e : b = k
    · simp [e]
    · have e' : ¬ k = b := fun z => e z.symm
      have e2 : ¬ (b : Int) = (k : Int) := by omega
      simp [e', e2]
theorem flat_ints (l : List Nat) : (intsV l).all flatV = true := by
  unfold intsV
  rw [List.all_map]
  exact List.all_eq_true.mpr fun _ _ => rfl
theorem lk_two {K : PySem.W.Frag} {H : Hp} {u v a1 a2 b1 b2 : Addr} {g1 g2 : List Nat} (h1 : H u = some (.lst [.ref a1, .ref a2])) (h2 : H v = some (.lst [.ref b1, .ref b2])) (e1 : H a1 = some (.lst (intsV g1))) (e2 : H b1 = some (.lst (intsV g1))) (e3 : H a2 = some (.lst (intsV g2))) (e4 : H b2 = some (.lst (intsV g2))) (l1 : g1.length < 1000) (l2 : g2.length < 1000) : Lk K H 2 (.ref u) (.ref v) := by
  refine .inr ⟨u, v, _, _, rfl, rfl, .inl ⟨SqL.of h1, SqL.of h2⟩, rfl, (by show 2 < 1000; decide), fun i x y hx hy => ?_⟩
  match i, hx, hy with
  | 0, hx, hy =>
    cases Option.some.inj hx
    cases Option.some.inj hy
    exact lk_ints (n := 0) e1 e2 l1
  | 1, hx, hy =>
    cases Option.some.inj hx
    cases Option.some.inj hy
    exact lk_ints (n := 0) e3 e4 l2
  | i + 2, hx, hy =>
    simp at hx
def NB : List Nat := (Str.ofString "nobody").cps.toList
theorem nb_cod : Cod NB := by
  unfold Cod NB
  decide +kernel
abbrev slots1 (a b po R st pe : Addr) (m : Nat) (told due D2 D3 : Addr) (x4 x14 x15 x16 x17 x18 x19 x20 x21 : Option V) : L2.St := [some (.ref a), some (.ref b), some (.ref po), some (.ref R), x4, some (.ref st), some (.ref pe), none, some (.int (m : Nat)), some (.ref told), some (.ref due), some (.ref D2), none, some (.ref D3), x14, x15, x16, x17, x18, x19, x20, x21]
abbrev EN : XK := fun _ _ _ => False
theorem noE : ∀ cls d H, ¬ EN cls d H := fun _ _ _ h => h
theorem nsE {K : PySem.W.Frag} : NoStop K EN := fun _ _ _ h => h.elim
theorem passE {X : Cx} : Passes (CX X.prog X.w) X EN := fun _ _ _ _ _ _ _ h => by
  obtain ⟨_, _, _, _, _, _, _, _, _, _, _, _, hE⟩ := h
  exact hE.elim
section
variable {P : Program} {w : World} {K : PySem.W.Frag} {mg : Str → Option Value} {base : Heap}
set_option maxHeartbeats 4000000 in
theorem ok_law {C fS fF fG f1 f2 f3 f4 f5 f6 f7 f8 f9 f10 f : Addr} {fdS fdF fdG d1 d2 d3 d4 d5 d6 d7 d8 d9 d10 fd0 : FuncData} (F : Fun K "law" "law" sLaw f fd0) (Z : StaffFns P w K mg base C fS fF fG fdS fdF fdG)
    (Ba : Cal P w K mg base "_law_bag" 1 ["script"] (spBag K) f1 d1) (D : Cal P w K mg base "_law_pull" 1 ["bag", "many"] (spDrawC K) f2 d2) (O : Cal P w K mg base "_law_of" 2 ["bag", "some"] (spOfC K) f3 d3) (Li : Cal P w K mg base "_law_like" 3 ["found", "due"] (spLike K 2) f4 d4)
    (Na : Cal P w K mg base "_law_names" 3 ["bag", "many"] (spNames K) f5 d5) (Sf : Cal P w K mg base "_law_staff" 6 ["rows"] (spStaff K C) f6 d6) (Ov : Cal P w K mg base "_law_over" 3 ["bag", "pool"] (spOver K) f7 d7) (Pe : Cal P w K mg base "_law_persons" 1 ["rows"] (spLPers K) f8 d8)
    (Gr : Cal P w K mg base "_law_groups" 1 ["persons", "most"] (spLGr K) f9 d9) (So : Cal P w K mg base "_law_sole" 1 ["rows", "group"] (spLSole K) f10 d10)
    (b_range : mg "range" = none) (b_len : mg "len" = none) (b_list : mg "list" = none) (b_int : mg "int" = none) (b_all : mg "all" = none) (b_zip : mg "zip" = none) (b_tuple : mg "tuple" = none) : FnOk P w K mg base CX0 12 f fd0 ["script"] (spLaw K) := by
  refine F.ok scLaw (fun vs H Q E h => ?_) (fun cdv A outer s H vs Q E hr h => ?_)
  · obtain ⟨a, ns, rfl, _⟩ := h
    rfl
  · obtain ⟨a, ns, rfl, hs, h63, qEnd⟩ := h
    refine ⟨_, (pss_cons (ps_set (i := 1) scLaw.nd rfl (.inr rfl) (pe_call Ba.ok (hr.mono (by omega)) rfl Ba.g Ba.kp Ba.b .nil pass0 (pa_cons (pv 0) pa_nil)))
      (pss_cons (ps_set (i := 2) scLaw.nd rfl (.inr rfl) (pe_call Na.ok (hr.mono (by omega)) rfl Na.g Na.kp Na.b .nil pass0 (pa_cons (pv 1) (pa_cons (pe_call O.ok (hr.mono (by omega)) rfl O.g O.kp O.b .nil pass0 (pa_cons (pv 1) (pa_cons (pe_lst (pa_cons pe_int (pa_cons pe_int (pa_cons pe_int (pa_cons pe_int (pa_cons pe_int (pa_cons pe_int (pa_cons pe_int (pa_cons pe_int pa_nil))))))))) pa_nil))) pa_nil))))
      (pss_cons (ps_set (i := 3) scLaw.nd rfl (.inr rfl) (pe_lc (own := [("k", 4)]) (g := gName 4) (tt := tYes) (te := tCall (spOver K) [] E0 (tCons (tVar 1) (tCons (tVar 2) tNil))) rfl scLaw.nd (pi_range1 rfl b_range (pa_cons (pe_op op_add pe_int (pe_call D.ok (hr.mono (by omega)) rfl D.g D.kp D.b .nil pass0 (pa_cons (pv 1) (pa_cons pe_int pa_nil)))) pa_nil)) (blkOk_by (own := [("k", 4)]) (N := ["script", "bag", "pool", "rows", "k", "staff", "persons", "row", "most", "told", "due", "strangers", "name", "held", "group", "sole", "few", "turn", "more", "kept_v", "less", "late"]) (sc := defScope sLaw) (by decide +kernel)) (fun _ _ _ _ _ => (pg_name (i := 4) scLaw.nd rfl (.inl rfl) (.inr rfl))) (fun _ _ _ _ _ => pts_nil) (fun _ _ _ _ _ => (pe_call Ov.ok (hr.mono (by omega)) rfl Ov.g Ov.kp Ov.b .nil pass0 (pa_cons (pv 1) (pa_cons (pv 2) pa_nil))))))
      (C8.pss_cut (ps_if (PW.pt (pw_and (pt_cmpR op_eq (pe_callB call_len rfl b_len (by decide +kernel) (pa_cons (pv 2) pa_nil)) pe_int rfl) (pw_and1 (pt_cmpR op_eq (pe_call D.ok (hr.mono (by omega)) rfl D.g D.kp D.b .nil pass0 (pa_cons (pv 1) (pa_cons pe_int pa_nil))) pe_int rfl)))) (pss_one (ps_set (i := 3) scLaw.nd rfl (.inr rfl) (pe_lc (own := [("k", 4)]) (g := gName 4) (tt := tYes) (te := tIf (tTest (tOp rEq (tOp (rI (fun _ j => 0 < j) fun i j => .int (i % j)) (tCB rInt1 (tCons (tVar 4) tNil)) (tC (.int 2))) (tC (.int 0)))) (tSl (rSlL K) (tVar 2) tNoPart (tPart (tC (.int 4)))) (tSl (rSlL K) (tVar 2) (tPart (tC (.int 4))) tNoPart)) rfl scLaw.nd (pi_range1 rfl b_range (pa_cons (pe_callB call_len rfl b_len (by decide +kernel) (pa_cons (pv 3) pa_nil)) pa_nil)) (blkOk_by (own := [("k", 4)]) (N := ["script", "bag", "pool", "rows", "k", "staff", "persons", "row", "most", "told", "due", "strangers", "name", "held", "group", "sole", "few", "turn", "more", "kept_v", "less", "late"]) (sc := defScope sLaw) (by decide +kernel)) (fun _ _ _ _ _ => (pg_name (i := 4) scLaw.nd rfl (.inl rfl) (.inr rfl))) (fun _ _ _ _ _ => pts_nil) (fun _ _ _ _ _ => (pe_ifExp (pt_cmpR op_eq (pe_op op_mod (pe_callTy call_int1 rfl b_int (by decide +kernel) (pa_cons (pv 4) pa_nil)) pe_int) pe_int rfl) (pe_slice sl_list (pv 2) po_none (po_some pe_int)) (pe_slice sl_list (pv 2) (po_some pe_int) po_none)))))) pss_nil)
      (pss_cons (ps_asg (pe_tup (pa_cons (pe_call Sf.ok (hr.mono (by omega)) rfl Sf.g Sf.kp Sf.b .nil pass0 (pa_cons (pe_lc (own := [("row", 7)]) (g := gName 7) (tt := tYes) (te := tCB (rListOf K) (tCons (tVar 7) tNil)) rfl scLaw.nd (pi_list (pv 3)) (blkOk_by (own := [("row", 7)]) (N := ["script", "bag", "pool", "rows", "k", "staff", "persons", "row", "most", "told", "due", "strangers", "name", "held", "group", "sole", "few", "turn", "more", "kept_v", "less", "late"]) (sc := defScope sLaw) (by decide +kernel)) (fun _ _ _ _ _ => (pg_name (i := 7) scLaw.nd rfl (.inl rfl) (.inr rfl))) (fun _ _ _ _ _ => pts_nil) (fun _ _ _ _ _ => (pe_callTy call_list_of rfl b_list (by decide +kernel) (pa_cons (pv 7) pa_nil)))) pa_nil)) (pa_cons (pe_call Pe.ok (hr.mono (by omega)) rfl Pe.g Pe.kp Pe.b .nil pass0 (pa_cons (pv 3) pa_nil)) pa_nil))) (pg_tup rfl (pgs_cons (pg_name (i := 5) scLaw.nd rfl (.inl rfl)) (pgs_cons (pg_name (i := 6) scLaw.nd rfl (.inr rfl)) pgs_nil))))
      (pss_cons (ps_set (i := 8) scLaw.nd rfl (.inl rfl) (pe_call D.ok (hr.mono (by omega)) rfl D.g D.kp D.b .nil pass0 (pa_cons (pv 1) (pa_cons (pe_op op_add (pe_callB call_len rfl b_len (by decide +kernel) (pa_cons (pv 6) pa_nil)) pe_int) pa_nil))))
      (pss_cons (ps_par (i := 9) (j := 10) rfl scLaw.nd rfl rfl (by decide) rfl rfl (pa_cons (pe_listG (pgen_meth (pv 5) Z.T Z.mG Z.oG (hr.mono (by omega)) Z.bG .nil (pa_cons (pv 8) pa_nil)) passE nsE (hr.mono (by omega)) rfl b_list boot_list) (pa_cons (pe_call Gr.ok (hr.mono (by omega)) rfl Gr.g Gr.kp Gr.b .nil pass0 (pa_cons (pv 6) (pa_cons (pv 8) pa_nil))) pa_nil)) rfl)
      (pss_cons (ps_if (pt_not (pt_val (pe_call Li.ok (hr.mono (by omega)) rfl Li.g Li.kp Li.b .nil pass0 (pa_cons (pv 9) (pa_cons (pv 10) pa_nil))))) (pss_one (ps_ret pe_bl)) pss_nil)
      (pss_cons (ps_setLc (i := 11) (own := [("name", 12)]) (g := gName 12) (tt := tTest (tOp (rIn K true) (tVar 12) (tVar 6))) (te := tVar 12) rfl scLaw.nd rfl rfl (sw_true rfl rfl rfl (by decide +kernel)) (pi_list (pe_lst (pa_cons pe_str (pa_cons pe_str (pa_cons pe_str pa_nil))))) (blkOk_by (own := [("name", 12)]) (N := ["script", "bag", "pool", "rows", "k", "staff", "persons", "row", "most", "told", "due", "strangers", "name", "held", "group", "sole", "few", "turn", "more", "kept_v", "less", "late"]) (sc := defScope sLaw) (by decide +kernel)) (fun _ _ _ _ _ => (pg_name (i := 12) scLaw.nd rfl (.inl rfl) (.inr rfl))) (fun _ _ _ _ _ => (pts_one (pt_cmpR op_notIn_seq (pv 12) (pv 6) rfl))) (fun _ _ _ _ _ => (pv 12)))
      (pss_cons (ps_setLc (i := 13) (own := [("group", 14)]) (g := gName 14) (tt := tYes) (te := tCall (spLSole K) [] E0 (tCons (tVar 3) (tCons (tVar 14) tNil))) rfl scLaw.nd rfl rfl (sw_true rfl rfl rfl (by decide +kernel)) (pi_list (pv 10)) (blkOk_by (own := [("group", 14)]) (N := ["script", "bag", "pool", "rows", "k", "staff", "persons", "row", "most", "told", "due", "strangers", "name", "held", "group", "sole", "few", "turn", "more", "kept_v", "less", "late"]) (sc := defScope sLaw) (by decide +kernel)) (fun _ _ _ _ _ => (pg_name (i := 14) scLaw.nd rfl (.inl rfl) (.inr rfl))) (fun _ _ _ _ _ => pts_nil) (fun _ _ _ _ _ => (pe_call So.ok (hr.mono (by omega)) rfl So.g So.kp So.b .nil pass0 (pa_cons (pv 3) (pa_cons (pv 14) pa_nil)))))
      (pss_cons (ps_for PassesOwn.never rfl (RZ.pi_zipA rfl b_zip (pa_cons (pv 10) (pa_cons (pv 13) pa_nil))) (pg_tup rfl (pgs_cons (pg_name (i := 14) scLaw.nd rfl (.inl rfl)) (pgs_cons (pg_name (i := 15) scLaw.nd rfl (.inl rfl)) pgs_nil)))
        (pss_one (ps_if (PW.pt (pw_or (pt_not (pt_val (pe_call Li.ok (hr.mono (by omega)) rfl Li.g Li.kp Li.b .nil pass0 (pa_cons (pe_meth (pv 5) Z.T Z.mS Z.oS (hr.mono (by omega)) Z.bS .nil pass0 (pa_cons (pv 14) pa_nil)) (pa_cons (pv 15) pa_nil))))) (pw_or1 (PW.pt (pw_and (pt_cmpR op_lt (pe_callB call_len rfl b_len (by decide +kernel) (pa_cons (pv 13) pa_nil)) pe_int rfl) (pw_and1 (pt_not (pt_val (pe_call Li.ok (hr.mono (by omega)) rfl Li.g Li.kp Li.b .nil pass0 (pa_cons (pe_meth (pv 5) Z.T Z.mS Z.oS (hr.mono (by omega)) Z.bS .nil pass0 (pa_cons (pe_op op_cat (pe_op op_cat (pv 11) (pe_callTy call_list_of rfl b_list (by decide +kernel) (pa_cons (pv 14) pa_nil))) (pv 11)) pa_nil)) (pa_cons (pv 15) pa_nil))))))))))) (pss_one (ps_ret pe_bl)) pss_nil)))
      (pss_cons (ps_for PassesOwn.never rfl (pi_range1 rfl b_range (pa_cons (pe_op op_add (pv 8) pe_int) pa_nil)) (pg_name (i := 16) scLaw.nd rfl (.inr rfl))
        (pss_one (ps_if (pt_not (pt_val (pe_call Li.ok (hr.mono (by omega)) rfl Li.g Li.kp Li.b .nil pass0 (pa_cons (pe_meth (pv 5) Z.T Z.mF Z.oF (hr.mono (by omega)) Z.bF .nil pass0 (pa_cons (pv 16) pa_nil)) (pa_cons (pe_callB (cr_all rfl) rfl b_all (by decide +kernel) (pa_cons (pe_lc (own := [("group", 14), ("sole", 15)]) (g := gTup K 2 (gCons (gName 14) (gCons (gName 15) gNil))) (tt := tTest (tOp (rI0 fun i j => .bl (decide (i ≤ j))) (tCB (rLenOf K) (tCons (tVar 14) tNil)) (tVar 16))) (te := tOp (rEqD K) (tVar 15) (tLst tNil)) rfl scLaw.nd (RZ.pi_zipA rfl b_zip (pa_cons (pv 10) (pa_cons (pv 13) pa_nil))) (blkOk_by (own := [("group", 14), ("sole", 15)]) (N := ["script", "bag", "pool", "rows", "k", "staff", "persons", "row", "most", "told", "due", "strangers", "name", "held", "group", "sole", "few", "turn", "more", "kept_v", "less", "late"]) (sc := defScope sLaw) (by decide +kernel)) (fun _ _ _ _ _ => (pg_tup rfl (pgs_cons (pg_name (i := 14) scLaw.nd rfl (.inl rfl) (.inr rfl)) (pgs_cons (pg_name (i := 15) scLaw.nd rfl (.inl rfl) (.inr rfl)) pgs_nil)))) (fun _ _ _ _ _ => (pts_one (pt_cmpR op_le (pe_callB call_len rfl b_len (by decide +kernel) (pa_cons (pv 14) pa_nil)) (pv 16) rfl))) (fun _ _ _ _ _ => (pe_cmpR (op_eqD hr.units) (pv 15) (pe_lst pa_nil) rfl))) pa_nil)) pa_nil))))) (pss_one (ps_ret pe_bl)) pss_nil)))
      (pss_cons (ps_if (PW.pt (pw_or (pt_not (pt_val (pe_call Li.ok (hr.mono (by omega)) rfl Li.g Li.kp Li.b .nil pass0 (pa_cons (pe_meth (pv 5) Z.T Z.mS Z.oS (hr.mono (by omega)) Z.bS .nil pass0 (pa_cons (pv 6) pa_nil)) (pa_cons (pe_listRg rfl rfl b_list (prg_1 rfl b_range (pe_callB call_len rfl b_len (by decide +kernel) (pa_cons (pv 3) pa_nil)))) pa_nil))))) (pw_or1 (pt_not (pt_val (pe_call Li.ok (hr.mono (by omega)) rfl Li.g Li.kp Li.b .nil pass0 (pa_cons (pe_meth (pv 5) Z.T Z.mS Z.oS (hr.mono (by omega)) Z.bS .nil pass0 (pa_cons (pe_lst pa_nil) pa_nil)) (pa_cons (pe_lst pa_nil) pa_nil)))))))) (pss_one (ps_ret pe_bl)) pss_nil)
      (pss_cons (ps_for PassesOwn.never rfl (pi_range1 rfl b_range (pa_cons pe_int pa_nil)) (pg_name (i := 17) scLaw.nd rfl (.inl rfl))
        (pss_cons (ps_setLc (i := 14) (own := [("k", 4)]) (g := gName 4) (tt := tYes) (te := tCall (spOfC K) [] E0 (tCons (tVar 1) (tCons (tOp rCat (tVar 6) (tLst (tCons (tC (.str "nobody")) (tCons (tOp (rIxL K) (tVar 2) (tC (.int 0))) tNil)))) tNil))) rfl scLaw.nd rfl rfl (sw_true rfl rfl rfl (by decide +kernel)) (pi_range1 rfl b_range (pa_cons (pe_call D.ok (hr.mono (by omega)) rfl D.g D.kp D.b .nil pass0 (pa_cons (pv 1) (pa_cons pe_int pa_nil))) pa_nil)) (blkOk_by (own := [("k", 4)]) (N := ["script", "bag", "pool", "rows", "k", "staff", "persons", "row", "most", "told", "due", "strangers", "name", "held", "group", "sole", "few", "turn", "more", "kept_v", "less", "late"]) (sc := defScope sLaw) (by decide +kernel)) (fun _ _ _ _ _ => (pg_name (i := 4) scLaw.nd rfl (.inl rfl) (.inr rfl))) (fun _ _ _ _ _ => pts_nil) (fun _ _ _ _ _ => (pe_call O.ok (hr.mono (by omega)) rfl O.g O.kp O.b .nil pass0 (pa_cons (pv 1) (pa_cons (pe_op op_cat (pv 6) (pe_lst (pa_cons pe_str (pa_cons (pe_ix ix_list (pv 2) pe_int (fun _ _ => rfl)) pa_nil)))) pa_nil)))))
        (pss_cons (ps_par (i := 18) (j := 19) rfl scLaw.nd rfl rfl (by decide) rfl rfl (pa_cons (pe_op op_cat (pv 14) (pe_lst (pa_cons (pe_call O.ok (hr.mono (by omega)) rfl O.g O.kp O.b .nil pass0 (pa_cons (pv 1) (pa_cons (pv 6) pa_nil))) pa_nil))) (pa_cons (pe_callTy call_list_of rfl b_list (by decide +kernel) (pa_cons (pv 14) pa_nil)) pa_nil)) rfl)
        (pss_cons (ps_asg (pe_tup (pa_cons (pe_meth (pv 5) Z.T Z.mS Z.oS (hr.mono (by omega)) Z.bS .nil pass0 (pa_cons (pv 14) pa_nil)) (pa_cons (pe_meth (pv 5) Z.T Z.mS Z.oS (hr.mono (by omega)) Z.bS .nil pass0 (pa_cons (pe_callTy call_tuple_of rfl b_tuple (by decide +kernel) (pa_cons (pv 18) pa_nil)) pa_nil)) pa_nil))) (pg_tup rfl (pgs_cons (pg_name (i := 20) scLaw.nd rfl (.inl rfl)) (pgs_cons (pg_name (i := 21) scLaw.nd rfl (.inr rfl)) pgs_nil))))
        (pss_cons (ps_if (PW.pt (pw_or (pt_not (pt_val (pe_call Li.ok (hr.mono (by omega)) rfl Li.g Li.kp Li.b .nil pass0 (pa_cons (pe_lst (pa_cons (pv 20) (pa_cons (pv 21) pa_nil))) (pa_cons (pe_lst (pa_cons (pe_call So.ok (hr.mono (by omega)) rfl So.g So.kp So.b .nil pass0 (pa_cons (pv 3) (pa_cons (pv 19) pa_nil))) (pa_cons (pe_call So.ok (hr.mono (by omega)) rfl So.g So.kp So.b .nil pass0 (pa_cons (pv 3) (pa_cons (pv 18) pa_nil))) pa_nil))) pa_nil))))) (pw_or1 (pt_cmpR (op_neD hr.units) (pv 14) (pv 19) rfl)))) (pss_one (ps_ret pe_bl)) pss_nil)
        (pss_cons (ps_if (pt_not (pt_val (pe_callB (cr_all rfl) rfl b_all (by decide +kernel) (pa_cons (pe_lc (own := [("k", 4)]) (g := gName 4) (tt := tYes) (te := tOp (rIn K false) (tVar 4) (tVar 21)) rfl scLaw.nd (pi_list (pv 20)) (blkOk_by (own := [("k", 4)]) (N := ["script", "bag", "pool", "rows", "k", "staff", "persons", "row", "most", "told", "due", "strangers", "name", "held", "group", "sole", "few", "turn", "more", "kept_v", "less", "late"]) (sc := defScope sLaw) (by decide +kernel)) (fun _ _ _ _ _ => (pg_name (i := 4) scLaw.nd rfl (.inl rfl) (.inr rfl))) (fun _ _ _ _ _ => pts_nil) (fun _ _ _ _ _ => (pe_cmpR op_in_seq (pv 4) (pv 21) rfl))) pa_nil)))) (pss_one (ps_ret pe_bl)) pss_nil)
        (pss_cons (ps_expr (pe_bm PySem.F.plainAttrs_list PySem.F.slot_list_append PySem.F.type_list_append mt_append (pv 21) (pa_cons pe_int pa_nil)))
        (pss_one (ps_if (pt_not (pt_val (pe_call Li.ok (hr.mono (by omega)) rfl Li.g Li.kp Li.b .nil pass0 (pa_cons (pe_meth (pv 5) Z.T Z.mS Z.oS (hr.mono (by omega)) Z.bS .nil pass0 (pa_cons (pv 18) pa_nil)) (pa_cons (pe_call So.ok (hr.mono (by omega)) rfl So.g So.kp So.b .nil pass0 (pa_cons (pv 3) (pa_cons (pv 18) pa_nil))) pa_nil))))) (pss_one (ps_ret pe_bl)) pss_nil)))))))))
      (pss_one (ps_ret (pe_call Li.ok (hr.mono (by omega)) rfl Li.g Li.kp Li.b .nil pass0 (pa_cons (Gf.pe_genLc rfl (Gf.pgenF_meth (pv 5) Z.T Z.mG Z.oGF (hr.mono (by omega)) Z.bG .nil (pa_cons pe_int pa_nil)) noE (hr.mono (by omega)) rfl (by decide +kernel) (by decide +kernel) (by decide +kernel) rfl) (pa_cons (pe_op op_cat (pe_lst (pa_cons (pe_tup pa_nil) pa_nil)) (pe_lc (own := [("name", 12)]) (g := gName 12) (tt := tYes) (te := tTup (tCons (tVar 12) tNil)) rfl scLaw.nd (pi_list (pv 6)) (blkOk_by (own := [("name", 12)]) (N := ["script", "bag", "pool", "rows", "k", "staff", "persons", "row", "most", "told", "due", "strangers", "name", "held", "group", "sole", "few", "turn", "more", "kept_v", "less", "late"]) (sc := defScope sLaw) (by decide +kernel)) (fun _ _ _ _ _ => (pg_name (i := 12) scLaw.nd rfl (.inl rfl) (.inr rfl))) (fun _ _ _ _ _ => pts_nil) (fun _ _ _ _ _ => (pe_tup (pa_cons (pv 12) pa_nil))))) pa_nil))))))))))))))))))), ?_⟩
    refine ⟨_, rfl, a, ns, rfl, hs, fun b H1 s1 Bg nb => ?_⟩
    obtain ⟨c, ns1, B1⟩ := Bg
    have B1 : BagC K H1 b c ns1 := B1
    refine ⟨_, rfl, _, rfl, (by show 8 ≤ sizeLine; decide), fun p np => ⟨b, p, _, c, ns1, rfl, B1.fresh np, B1.ne np, SqL.of upd_same, (by show 0 < 8; decide), (by show 8 < 1000; decide), fun v H2 hv B2 t2 => ?_⟩⟩
    obtain ⟨n, rfl, n1, n8⟩ : ∃ n : Nat, v = .int n ∧ 1 ≤ n ∧ n ≤ 8 := by
      simp only [List.append_nil, List.mem_cons, List.not_mem_nil, or_false] at hv
      rcases hv with rfl | rfl | rfl | rfl | rfl | rfl | rfl | rfl
      · exact ⟨1, rfl, by decide, by decide⟩
      · exact ⟨2, rfl, by decide, by decide⟩
      · exact ⟨3, rfl, by decide, by decide⟩
      · exact ⟨3, rfl, by decide, by decide⟩
      · exact ⟨4, rfl, by decide, by decide⟩
      · exact ⟨4, rfl, by decide, by decide⟩
      · exact ⟨5, rfl, by decide, by decide⟩
      · exact ⟨8, rfl, by decide, by decide⟩
    refine ⟨b, c, ns1, n, rfl, n8, B2, fun po H3 pool npo B3 t3 gpo hN hpl => ?_⟩
    have hne : pool ≠ [] := fun e => by rw [e] at hpl; simp at hpl; omega
    have pob : po ≠ b := B2.ne npo
    -- the rows
    refine ⟨_, rfl, b, 6, c, ns1, rfl, B3, by decide, by decide, fun r H4 r0 r1 B4 t4 => ?_⟩
    obtain ⟨nr, rfl⟩ : ∃ i : Nat, r = (i : Int) := ⟨r.toNat, by omega⟩
    have gpo4 := t4 _ _ pob gpo
    refine ⟨_, _, rfl, rfl, ((1 + nr : Nat) : Int), congrArg (fun z => [V.int z]) (by omega), by omega, by omega, fun R nR => ?_⟩
    have Rb : R ≠ b := B4.ne nR
    rw [Int.toNat_natCast]
    refine lc_it (walk_range (lo := 0) (n := 1 + nr)) (fun i G => ∃ ls rows, G R = some (.lst (ls.map V.ref)) ∧ R ∉ ls ∧ RowsL G ls rows ∧ rows.length = i ∧ RowsOk rows ∧ (∀ r ∈ rows, ∀ x ∈ r, x ∈ pool) ∧ BagC K G b c ns1 ∧ But b H4 G) ⟨[], [], upd_same, by simp, .nil, rfl, fun r hr => by simp at hr, fun r hr => by simp at hr, B4.fresh nR, But.of (same_upd nR)⟩ (fun _ _ _ _ => trivial) ?_ ?_
    · rintro i x G1 G hi ⟨ls, rows, gR, nRl, hls, hrl, hok, hin, BG, tG⟩ ⟨rfl, rfl⟩
      refine ⟨rfl, ?_⟩
      unfold tYes
      refine iteT ⟨_, rfl, _, rfl, b, po, c, ns1, pool, rfl, BG, tG _ _ pob gpo4, pob, hN, hne, by omega, fun q5 G5 r5 nq B5 t5 g5 Nr ner l4 hin5 => ?_⟩
      have hq5 : q5 ≠ R := fun z => by rw [z, gR] at nq; cases nq
      have ql : ls.length = rows.length := hls.length
      refine ⟨_, t5 _ _ Rb gR, ?_, ls ++ [q5], rows ++ [r5], ?_, ?_, ?_, ?_, ?_, ?_, ?_, ?_⟩
      · rw [List.length_map]
        exact small1000' (by omega)
      · rw [upd_same, List.map_append]
        rfl
      · intro hm
        rcases List.mem_append.mp hm with hm | hm
        · exact nRl hm
        · exact hq5 (List.mem_singleton.mp hm).symm
      · refine Paired.snoc (Cmb.paired_with (RowsL.but BG hls t5) fun a' b' m e => ?_) ?_
        · have : a' ≠ R := fun z => nRl (z ▸ (List.of_mem_zip m).1)
          rw [upd_ne this]
          exact e
        · rw [upd_ne hq5]
          exact g5
      · rw [List.length_append, hrl]
        rfl
      · intro r hr
        rcases List.mem_append.mp hr with hr | hr
        · exact hok r hr
        · rw [List.mem_singleton.mp hr]
          exact ⟨Nr, ner, l4⟩
      · intro r hr
        rcases List.mem_append.mp hr with hr | hr
        · exact hin r hr
        · rw [List.mem_singleton.mp hr]
          exact hin5
      · exact B5.upd (B4.off nR) Rb
      · intro p' o' n' e'
        rw [upd_ne (ne_of_none e' nR)]
        exact t5 _ _ n' (tG _ _ n' e')
    · rintro G ⟨ls, rows, gR, nRl, hls, hrl, hok, hin, BG, tG⟩
      have gpo5 := tG _ _ pob gpo4
      -- the rows may be laid anew
      refine ⟨fun σ' G' => ∃ R4 rows, σ' = slots0 a b po R4 ∧ RowsAt G' R4 rows ∧ RowsOk rows ∧ 1 ≤ rows.length ∧ rows.length ≤ 6 ∧ (∀ r ∈ rows, ∀ x ∈ r, x ∈ pool) ∧ BagC K G' b c ns1 ∧ G' po = some (.lst (pool.map txV)) ∧ R4 ≠ b, ?_, ?_⟩
      · refine ⟨_, rfl, _, _, rfl, .inl ⟨_, SqL.of gpo5, rfl⟩, rfl, _, rfl, ite2 (fun hp8 => ?_) (fun _ => ?_)⟩
        · have hp8' : pool.length = 8 := by
            have := of_decide_eq_true hp8
            rw [List.length_map] at this
            first | omega | (have := V.int.inj this; omega)
          refine ⟨_, rfl, b, 2, c, ns1, rfl, BG, by decide, by decide, fun r H6 r0 r1 B6 t6 => ⟨rfl, _, rfl, ite2 (fun hz => ?_) (fun _ => ?_)⟩⟩
          · have gR6 := t6 _ _ Rb gR
            have gpo6 := t6 _ _ pob gpo5
            have hlen := hls.length
            refine ⟨_, rfl, _, _, rfl, .inl ⟨_, SqL.of gR6, rfl⟩, _, rfl, ?_⟩
            rw [List.length_map, hlen]
            refine ⟨by omega, by omega, fun R5 nR5 => lc_it (walk_range (lo := 0) (n := rows.length)) (fun i G => ∃ ls rows', G R5 = some (.lst (ls.map V.ref)) ∧ R5 ∉ ls ∧ RowsL G ls rows' ∧ rows'.length = i ∧ (∀ r ∈ rows', r = pool.take 4 ∨ r = pool.drop 4) ∧ Same H6 G) ⟨[], [], upd_same, by simp, .nil, rfl, fun r hr => by simp at hr, same_upd nR5⟩ (fun _ _ _ _ => trivial) ?_ ?_⟩
            · rintro i x G1 G6 hi ⟨ls', rows', gR', nl', hls', hrl', hall', sG'⟩ ⟨rfl, rfl⟩
              refine ⟨rfl, ?_⟩
              unfold tYes
              have fin : ∀ (r' : List (List Nat)) (q5 : Addr), G6 q5 = none → (r' = pool.take 4 ∨ r' = pool.drop 4) → ∃ acc, (upd G6 q5 (.lst (r'.map txV))) R5 = some (.lst acc) ∧ acc.length < sizeLine ∧ ∃ ls rows', (upd (upd G6 q5 (.lst (r'.map txV))) R5 (.lst (acc ++ [.ref q5]))) R5 = some (.lst (ls.map V.ref)) ∧ R5 ∉ ls ∧ RowsL (upd (upd G6 q5 (.lst (r'.map txV))) R5 (.lst (acc ++ [.ref q5]))) ls rows' ∧ rows'.length = i + 1 ∧ (∀ r ∈ rows', r = pool.take 4 ∨ r = pool.drop 4) ∧ Same H6 (upd (upd G6 q5 (.lst (r'.map txV))) R5 (.lst (acc ++ [.ref q5]))) := by
                intro r' q5 nq hr'
                have hq5 : q5 ≠ R5 := fun z => by rw [z, gR'] at nq; cases nq
                have sq : Same G6 (upd G6 q5 (.lst (r'.map txV))) := same_upd nq
                have ql := hls'.length
                refine ⟨_, sq _ _ gR', ?_, ls' ++ [q5], rows' ++ [r'], ?_, ?_, ?_, ?_, ?_, same_updF nR5 (sG'.trans sq)⟩
                · rw [List.length_map]
                  exact small1000' (by omega)
                · rw [upd_same, List.map_append]
                  rfl
                · intro hm
                  rcases List.mem_append.mp hm with hm | hm
                  · exact nl' hm
                  · exact hq5 (List.mem_singleton.mp hm).symm
                · refine Paired.snoc (Cmb.paired_with (hls'.same sq) fun a' b' m e => ?_) ?_
                  · have : a' ≠ R5 := fun z => nl' (z ▸ (List.of_mem_zip m).1)
                    rw [upd_ne this]
                    exact e
                  · rw [upd_ne hq5, upd_same]
                · rw [List.length_append, hrl']
                  rfl
                · intro r hr
                  rcases List.mem_append.mp hr with hr | hr
                  · exact hall' r hr
                  · rw [List.mem_singleton.mp hr]
                    exact hr'
              have gpo7 := sG' _ _ gpo6
              refine iteT ⟨_, rfl, .inl ⟨_, rfl, _, _, rfl, rfl, (by show (0 : Int) < 2; decide), rfl, _, rfl, ite2 (fun _ => ?_) (fun _ => ?_)⟩⟩
              · refine ⟨_, rfl, _, rfl, po, _, rfl, SqL.of gpo7, fun q5 nq => ?_⟩
                have := fin (pool.take 4) q5 nq (.inl rfl)
                rw [← cut_to pool 4] at this
                exact this
              · refine ⟨_, rfl, _, rfl, po, _, rfl, SqL.of gpo7, fun q5 nq => ?_⟩
                have := fin (pool.drop 4) q5 nq (.inr rfl)
                rw [← cut_from pool 4] at this
                exact this
            · rintro G6 ⟨ls', rows', gR', nl', hls', hrl', hall', sG'⟩
              have hok' : ∀ r ∈ rows', (Names r ∧ r ≠ [] ∧ r.length ≤ 4) ∧ ∀ x ∈ r, x ∈ pool := fun r hr => by
                rcases hall' r hr with rfl | rfl
                · exact ⟨⟨⟨fun n hn => hN.ok n (List.mem_of_mem_take hn), (List.take_sublist 4 pool).nodup hN.nd⟩, fun e => by have h9 := congrArg List.length e; rw [List.length_take, hp8'] at h9; exact absurd h9 (by decide), by rw [List.length_take]; omega⟩, fun x hx => List.mem_of_mem_take hx⟩
                · exact ⟨⟨⟨fun n hn => hN.ok n (List.mem_of_mem_drop hn), (List.drop_sublist 4 pool).nodup hN.nd⟩, fun e => by have h9 := List.drop_eq_nil_iff.mp e; rw [hp8'] at h9; exact absurd h9 (by decide), by rw [List.length_drop, hp8']; decide⟩, fun x hx => List.mem_of_mem_drop hx⟩
              exact ⟨R5, rows', rfl, ⟨ls', gR', hls'⟩, fun r hr => (hok' r hr).1, by omega, by omega, fun r hr => (hok' r hr).2, B6.same sG', sG' _ _ gpo6, B6.ne nR5⟩
          · exact ⟨R, rows, rfl, ⟨ls, t6 _ _ Rb gR, RowsL.but BG hls t6⟩, hok, by omega, by omega, hin, B6, t6 _ _ pob gpo5, Rb⟩
        · exact ⟨R, rows, rfl, ⟨ls, gR, hls⟩, hok, by omega, by omega, hin, BG, gpo5, Rb⟩
      · rintro σ' G' ⟨R4, rows4, rfl, hR4, hok4, h1, h6, hin4, B6, gpo6, R4b⟩
        have hpl8 : pool.length ≤ 8 := by omega
        have huq : (uq rows4.flatten).length ≤ 8 := by
          have := len_sub (m := pool) (uq_nodup rows4.flatten) fun x hx => by
            obtain ⟨r, hr, hx⟩ := List.mem_flatten.mp (mem_uq.mp hx)
            exact hin4 r hr x hx
          omega
        obtain ⟨ls4, gR4, hls4⟩ := id hR4
        have hlen4 := hls4.length
        refine ⟨_, rfl, R4, rfl, ⟨_, SqL.of gR4⟩, fun D nD => lc_it walk_list (fun i G => Same G' G ∧ ∃ ls2, G D = some (.lst (ls2.map V.ref)) ∧ D ∉ ls2 ∧ RowsL G ls2 (rows4.take i)) ⟨same_upd nD, [], upd_same, by simp, .nil⟩ (fun i G _ h => SqL.of (h.1 _ _ gR4)) ?_ ?_⟩
        · rintro i x G6 G7 hi ⟨sG, ls2, gD, nD2, hls2⟩ ⟨rfl, ex⟩
          rw [List.length_map, hlen4] at hi
          have er := List.getElem?_eq_getElem hi
          obtain ⟨l, el, hl⟩ := paired_get hls4 i rows4[i] er
          have ey : (ls4.map V.ref)[i]? = some (.ref l) := by rw [List.getElem?_map, el]; rfl
          cases Option.some.inj (ey.symm.trans ex)
          refine ⟨rfl, ?_⟩
          unfold tYes
          refine iteT ⟨_, rfl, l, _, rfl, .inl (SqL.of (sG _ _ hl)), fun q5 nq => ?_⟩
          have hq5 : q5 ≠ D := fun z => by rw [z, gD] at nq; cases nq
          have sq : Same G7 (upd G7 q5 (.lst (rows4[i].map txV))) := same_upd nq
          have ql := hls2.length
          rw [List.length_take] at ql
          refine ⟨_, sq _ _ gD, ?_, same_updF nD (sG.trans sq), ls2 ++ [q5], ?_, ?_, ?_⟩
          · rw [List.length_map]
            exact small1000' (by omega)
          · rw [upd_same, List.map_append]
            rfl
          · intro hm
            rcases List.mem_append.mp hm with hm | hm
            · exact nD2 hm
            · exact hq5 (List.mem_singleton.mp hm).symm
          · rw [take_snoc er]
            refine Paired.snoc (Cmb.paired_with (hls2.same sq) fun a' b' m e => ?_) ?_
            · have : a' ≠ D := fun z => nD2 (z ▸ (List.of_mem_zip m).1)
              rw [upd_ne this]
              exact e
            · rw [upd_ne hq5, upd_same]
        · rintro G6 ⟨sG, ls2, gD, nD2, hls2⟩
          rw [List.length_map, hlen4, List.take_length] at hls2
          refine ⟨D, rows4, rfl, ⟨ls2, gD, hls2⟩, hok4, h1, h6, huq, fun st G7 nst s7 hS7 => ?_⟩
          have k7 := sG.trans s7
          refine ⟨_, rfl, R4, rows4, rfl, hR4.same k7, by omega, fun r hr => (hok4 r hr).2.2, fun pe G8 npe s8 gpe => ⟨(by show 2 ≤ sizeLine; decide), fun t nt => ?_⟩⟩
          have st9 : Same G8 (upd G8 t (.tup [.ref st, .ref pe])) := same_upd nt
          refine ⟨t, _, rfl, SqT.of upd_same, rfl, _, _, rfl, _, _, rfl, rfl, ?_⟩
          have k9 := k7.trans (s8.trans st9)
          have hS9 := (hS7.same s8).same st9
          have gpe9 := st9 _ _ gpe
          have hR9 := hR4.same k9
          have B9 := B6.same k9
          have gpo9 := k9 _ _ gpo6
          generalize upd G8 t (.tup [.ref st, .ref pe]) = G9 at st9 k9 hS9 gpe9 hR9 B9 gpo9 ⊢
          -- most
          refine ⟨_, rfl, _, rfl, _, _, rfl, .inl ⟨_, SqL.of gpe9, rfl⟩, _, _, rfl, rfl, ?_⟩
          rw [List.length_map]
          refine ⟨b, _, c, ns1, rfl, B9, by omega, by omega, fun r G10 r0 r1 B10 t10 => ?_⟩
          obtain ⟨m, rfl⟩ : ∃ i : Nat, r = (i : Int) := ⟨r.toNat, by omega⟩
          have hS10 := hS9.but B9 t10
          have gpe10 := t10 _ _ (B9.neT gpe9) gpe9
          have hR10 := hR9.but B9 t10
          have gpo10 := t10 _ _ pob gpo9
          obtain ⟨dx, L, Pp, ts, hst, _⟩ := id hS10
          -- told, due
          refine ⟨_, rfl, st, dx, _, rfl, hst, rfl, _, rfl, st, rows4, m, rfl, hS10, huq, fun us G11 s11 nd11 nt11 => fun told ntold => ?_⟩
          have s12 : Same G11 (upd G11 told (.lst (us.map V.ref))) := same_upd ntold
          have gto : (upd G11 told (.lst (us.map V.ref))) told = some (.lst (us.map V.ref)) := upd_same
          generalize upd G11 told (.lst (us.map V.ref)) = G12 at s12 gto ⊢
          have k12 := s11.trans s12
          refine ⟨_, rfl, _, rfl, pe, uq rows4.flatten, m, rfl, SqL.of (k12 _ _ gpe10), huq, by omega, fun due G13 vs13 ndue s13 gdue hdue => ?_⟩
          have k13 := k12.trans s13
          refine ⟨_, _, rfl, ?_⟩
          have hS13 := hS10.same k13
          have gpe13 := k13 _ _ gpe10
          have hR13 := hR10.same k13
          have gpo13 := k13 _ _ gpo10
          have B13 := B10.same k13
          refine ⟨_, rfl, _, rfl, .ref told, .ref due, rfl, lk_groups (Paired.mono (fun _ _ e => ⟨e.1, (s12.trans s13) _ _ e.2⟩) nt11) hdue (s13 _ _ gto) gdue (by have := grp_len (m := m) huq; omega) (fun ix hix => by have := (grp_mem huq hix).1; omega), fun G14 s14 => ⟨_, rfl, iteF ?_⟩⟩
          -- strangers
          refine ⟨(by show 3 ≤ sizeLine; decide), fun l0 nl0 => ⟨l0, rfl, ⟨STR.map txV, SqL.of upd_same⟩, fun D2 nD2 => lc_it walk_list (fun i G => Same (upd G14 l0 (.lst (STR.map txV))) G ∧ ∃ ST : List (List Nat), G D2 = some (.lst (ST.map txV)) ∧ ST.length ≤ i ∧ ∀ x ∈ ST, x ∉ uq rows4.flatten) ⟨same_upd nD2, [], upd_same, Nat.le_refl _, fun x hx => by simp at hx⟩ (fun i G _ h => SqL.of (h.1 _ _ upd_same)) ?_ ?_⟩⟩
          · rintro i x G G15 hi ⟨sG, ST, gD, hST, hno⟩ ⟨rfl, ex⟩
            rw [List.length_map] at hi
            have ej := List.getElem?_eq_getElem hi
            have ey : (STR.map txV)[i]? = some (txV STR[i]) := by rw [List.getElem?_map, ej]; rfl
            cases Option.some.inj (ey.symm.trans ex)
            refine ⟨rfl, ?_⟩
            have gpe15 := sG _ _ (same_upd nl0 _ _ (s14 _ _ gpe13))
            refine ⟨_, rfl, _, rfl, pe, _, rfl, .inl (SqL.of gpe15), rfl, flat_tx _, _, rfl, ?_⟩
            rw [inV_tx]
            refine ite2 (fun hcnd => ?_) (fun hcnd => ?_)
            · refine ⟨_, rfl, _, gD, ?_, same_updF nD2 sG, ST ++ [STR[i]], ?_, ?_, ?_⟩
              · rw [List.length_map]
                have : STR.length = 3 := rfl
                exact small1000' (by omega)
              · rw [upd_same, List.map_append]
                rfl
              · rw [List.length_append, List.length_singleton]
                omega
              · intro z hz
                rcases List.mem_append.mp hz with hz | hz
                · exact hno z hz
                · rw [List.mem_singleton.mp hz]
                  have : (!decide (STR[i] ∈ uq rows4.flatten)) = true := hcnd
                  simpa using this
            · exact ⟨sG, ST, gD, by omega, hno⟩
          · rintro G ⟨sG, ST, gST, hST, hno⟩
            have k15 : Same G13 G := s14.trans ((same_upd nl0).trans sG)
            have hS15 := hS13.same k15
            have gpe15 := k15 _ _ gpe13
            have hR15 := hR13.same k15
            have gpo15 := k15 _ _ gpo13
            have B15 := B13.same k15
            have gdue15 := k15 _ _ gdue
            have hdue15 := RowsT.same hdue k15
            -- held
            generalize hGS : (grp (uq rows4.flatten).length m).map (pickN (uq rows4.flatten)) = GS at hdue15
            have lGS : GS.length ≤ 900 := by
              rw [← hGS, List.length_map]
              exact grp_len huq
            have lvs := hdue15.length
            have hcod4 : ∀ r ∈ rows4, ∀ x ∈ r, Cod x := fun r hr x hx => ((hok4 r hr).1.ok x hx).cod
            refine ⟨_, rfl, due, rfl, ⟨_, SqL.of gdue15⟩, fun D3 nD3 => lc_it walk_list (fun i G2 => Same G G2 ∧ ∃ hl, G2 D3 = some (.lst (hl.map V.ref)) ∧ D3 ∉ hl ∧ Paired (fun h g => G2 h = some (.lst (intsV (soleOf rows4 g)))) hl (GS.take i)) ⟨same_upd nD3, [], upd_same, by simp, .nil⟩ (fun i G2 _ h => SqL.of (h.1 _ _ gdue15)) ?_ ?_⟩
            · rintro i x G2 G3 hi ⟨s2, hl, gD3, nD3', hhl⟩ ⟨rfl, ex⟩
              rw [List.length_map, lvs] at hi
              have eg := List.getElem?_eq_getElem hi
              obtain ⟨v, ev, hv⟩ := paired_get hdue15 i GS[i] eg
              have ey : (vs13.map V.ref)[i]? = some (.ref v) := by rw [List.getElem?_map, ev]; rfl
              cases Option.some.inj (ey.symm.trans ex)
              refine ⟨rfl, ?_⟩
              unfold tYes
              refine iteT ⟨_, rfl, _, rfl, R4, rows4, v, GS[i], rfl, hR15.same s2, by omega, fun r hr => (hok4 r hr).2.2, hcod4, .inr (SqT.of (s2 _ _ hv)), fun q5 G4 nq s4 gq => ?_⟩
              have hq5 : q5 ≠ D3 := fun z => by rw [z, gD3] at nq; cases nq
              have ll := hhl.length
              rw [List.length_take] at ll
              refine ⟨_, s4 _ _ gD3, ?_, same_updF nD3 (s2.trans s4), hl ++ [q5], ?_, ?_, ?_⟩
              · rw [List.length_map]
                exact small1000' (by omega)
              · rw [upd_same, List.map_append]
                rfl
              · intro hm
                rcases List.mem_append.mp hm with hm | hm
                · exact nD3' hm
                · exact hq5 (List.mem_singleton.mp hm).symm
              · rw [take_snoc eg]
                refine Paired.snoc (Cmb.paired_with hhl fun a' b' m' e => ?_) ?_
                · have : a' ≠ D3 := fun z => nD3' (z ▸ (List.of_mem_zip m').1)
                  rw [upd_ne this]
                  exact s4 _ _ e
                · rw [upd_ne hq5]
                  exact gq
            · rintro G2 ⟨s2, hl, gD3, nD3', hhl⟩
              rw [List.length_map, lvs, List.take_length] at hhl
              have lhl := hhl.length
              have h39 : (vs13.map V.ref).length = GS.length := by rw [List.length_map]; exact lvs
              have h40 : (hl.map V.ref).length = GS.length := by rw [List.length_map]; exact lhl
              refine ⟨_, rfl, _, rfl, due, D3, vs13.map V.ref, hl.map V.ref, rfl, .inl ⟨SqL.of (s2 _ _ gdue15), SqL.of gD3, for_it (walk_zip (xs := vs13.map V.ref) (ys := hl.map V.ref) (n := GS.length) (by omega)) (fun i σ' H' => ∃ b14 b15, σ' = (((((((((slots0 a b po R4).set 5 (some (.ref st))).set 6 (some (.ref pe))).set 8 (some (.int (m : Nat)))).set 9 (some (.ref told))).set 10 (some (.ref due))).set 11 (some (.ref D2))).set 13 (some (.ref D3))).set 14 b14).set 15 b15 ∧ Same G2 H') ⟨none, none, rfl, Same.refl G2⟩ (fun i σ' H' _ h => by obtain ⟨_, _, _, s⟩ := h; exact ⟨SqL.of (s _ _ (s2 _ _ gdue15)), SqL.of (s _ _ gD3)⟩) ?_ ?_⟩⟩
              · rintro i z σ' G3 G4 hi ⟨b14, b15, rfl, s3⟩ ⟨T, x, y, rfl, nT, rfl, hx, hy⟩
                have eg := List.getElem?_eq_getElem hi
                obtain ⟨v, ev, hv⟩ := paired_get hdue15 i GS[i] eg
                obtain ⟨h, eh, hh⟩ := paired_get hhl i GS[i] eg
                have ex : (vs13.map V.ref)[i]? = some (.ref v) := by rw [List.getElem?_map, ev]; rfl
                have ey : (hl.map V.ref)[i]? = some (.ref h) := by rw [List.getElem?_map, eh]; rfl
                cases Option.some.inj (ex.symm.trans hx)
                cases Option.some.inj (ey.symm.trans hy)
                have sT : Same G3 (upd G3 T (.tup [.ref v, .ref h])) := same_upd nT
                have k4 := s3.trans sT
                have k5 := s2.trans k4
                have hS5 := hS15.same k5
                obtain ⟨dx5, L5, Pp5, ts5, hst5, _⟩ := id hS5
                have hv5 := k5 _ _ hv
                have hh5 := k4 _ _ hh
                have hlen := soleOf_len rows4 GS[i]
                refine ⟨T, _, rfl, SqT.of upd_same, rfl, _, _, rfl, _, _, rfl, rfl, ?_⟩
                refine ⟨.ref st, rfl, st, dx5, _, rfl, hst5, rfl, .ref v, rfl, ?_⟩
                refine ⟨st, rows4, v, GS[i], rfl, hS5, by omega, fun r hr => by have := (hok4 r hr).2.2; omega, .inr (SqT.of hv5), fun q G6 nq s6 gq => ?_⟩
                refine ⟨_, rfl, .ref q, .ref h, rfl, lk_ints (n := 1) gq (s6 _ _ hh5) (by omega), fun G7 s7 => ⟨_, rfl, ?_⟩⟩
                have k7 := k5.trans (s6.trans s7)
                have g13 : G7 D3 = some (.lst (hl.map V.ref)) := (k4.trans (s6.trans s7)) _ _ gD3
                refine iteF ?_
                refine ⟨_, rfl, _, _, rfl, .inl ⟨_, SqL.of g13, rfl⟩, ?_⟩
                refine ⟨_, _, rfl, rfl, _, rfl, ite2 (fun c => ?_) (fun c => ?_)⟩
                · have gST7 := k7 _ _ gST
                  have hS7' := hS15.same k7
                  have lST : ST.length ≤ 3 := by rw [List.length_map] at hST; exact hST
                  have lG : GS[i].length ≤ 100 := by
                    have : GS[i] ∈ (grp (uq rows4.flatten).length m).map (pickN (uq rows4.flatten)) := by rw [hGS]; exact List.getElem_mem hi
                    obtain ⟨ix, hix, e⟩ := List.mem_map.mp this
                    rw [← e, pickN, List.length_map]
                    have := (grp_mem huq hix).1
                    omega
                  obtain ⟨dx7, L7, Pp7, ts7, hst7, _⟩ := id hS7'
                  refine ⟨_, rfl, st, dx7, _, rfl, hst7, rfl, ?_⟩
                  refine ⟨_, rfl, _, rfl, v, _, rfl, .inr (SqT.of ((s6.trans s7) _ _ hv5)), fun l1 nl1 => ?_⟩
                  refine ⟨D2, l1, _, _, rfl, rfl, same_upd nl1 _ _ gST7, upd_same, (by rw [List.length_map, List.length_map]; exact Nat.le_trans (by omega : ST.length + GS[i].length ≤ 1000) (by decide)), fun p1 np1 => ?_⟩
                  refine ⟨_, rfl, p1, D2, _, _, rfl, rfl, upd_same, same_upd np1 _ _ (same_upd nl1 _ _ gST7), (by rw [List.length_append, List.length_map, List.length_map]; exact Nat.le_trans (by omega : ST.length + GS[i].length + ST.length ≤ 1000) (by decide)), fun p2 np2 => ?_⟩
                  have s8 := (same_upd (o := .lst (GS[i].map txV)) nl1).trans ((same_upd (o := .lst (ST.map txV ++ GS[i].map txV)) np1).trans (same_upd (o := .lst (ST.map txV ++ GS[i].map txV ++ ST.map txV)) np2))
                  refine ⟨st, rows4, p2, ST ++ GS[i] ++ ST, rfl, hS7'.same s8, by omega, fun r hr => by have := (hok4 r hr).2.2; omega, .inl (SqL.of (by rw [List.map_append, List.map_append]; exact upd_same)), fun q2 G8 nq2 s9 gq2 => ?_⟩
                  rw [soleOf_str hno] at gq2
                  refine ⟨_, rfl, .ref q2, .ref h, rfl, lk_ints (n := 1) gq2 (((s6.trans s7).trans (s8.trans s9)) _ _ hh5) (by omega), fun G9 s10 => ⟨_, rfl, ?_⟩⟩
                  refine iteF ?_
                  exact ⟨_, _, rfl, k4.trans ((s6.trans s7).trans (s8.trans (s9.trans s10)))⟩
                · refine iteF ?_
                  exact ⟨_, _, rfl, k4.trans (s6.trans s7)⟩
              · rintro σ' G3 ⟨b14, b15, rfl, s3⟩
                have k3 := k15.trans (s2.trans s3)
                have hS3 := hS15.same (s2.trans s3)
                have gdue3 := s3 _ _ (s2 _ _ gdue15)
                have gD33 := s3 _ _ gD3
                have hhl3 := Paired.mono (fun _ _ e => s3 _ _ e) hhl
                have hdue3 := RowsT.same hdue15 (s2.trans s3)
                have gpe3 := (s2.trans s3) _ _ gpe15
                have hR3 := hR15.same (s2.trans s3)
                have gpo3 := (s2.trans s3) _ _ gpo15
                have B3' := B15.same (s2.trans s3)
                refine ⟨_, rfl, _, _, rfl, rfl, ?_⟩
                refine ⟨((m + 1 : Nat) : Int), congrArg (fun z => [V.int z]) (by omega), by omega, by omega, ?_⟩
                rw [Int.toNat_natCast]
                refine for_it (walk_range (lo := 0) (n := m + 1)) (fun i σ' G => ∃ x14 x15 x16, σ' = slots1 a b po R4 st pe m told due D2 D3 none x14 x15 x16 none none none none none ∧ Same G3 G) ⟨b14, b15, none, rfl, Same.refl G3⟩ (fun _ _ _ _ _ => trivial) ?_ ?_
                · rintro i x σ' G4 G5 hi ⟨x14, x15, x16, rfl, s4⟩ ⟨rfl, rfl⟩
                  have ez : (0 : Int) + (i : Nat) = (i : Int) := Int.zero_add _
                  have hS4 := hS3.same s4
                  obtain ⟨dx4, L4, Pp4, ts4, hst4, _⟩ := id hS4
                  refine ⟨.ref st, rfl, st, dx4, _, rfl, hst4, rfl, .int (0 + (i : Nat)), rfl, st, rows4, _, rfl, hS4, by omega, fun G6 s6 => ?_⟩
                  have k6 := s4.trans s6
                  refine ⟨_, rfl, _, rfl, due, D3, vs13.map V.ref, hl.map V.ref, rfl, .inl ⟨SqL.of (k6 _ _ gdue3), SqL.of (k6 _ _ gD33), fun D4 nD4 => lc_it (walk_zip (xs := vs13.map V.ref) (ys := hl.map V.ref) (n := GS.length) (by omega)) (fun j G7 => Same G6 G7 ∧ G7 D4 = some (.lst ((((GS.take j).filter fun g => decide (g.length ≤ i)).map fun g => decide (soleOf rows4 g = [])).map V.bl))) ⟨same_upd nD4, upd_same⟩ (fun j G7 _ h => ⟨SqL.of (h.1 _ _ (k6 _ _ gdue3)), SqL.of (h.1 _ _ (k6 _ _ gD33))⟩) ?_ ?_⟩⟩
                  · rintro j z G7 G8 hj ⟨s7, gD4⟩ ⟨T, x, y, rfl, nT, rfl, hx, hy⟩
                    have eg := List.getElem?_eq_getElem hj
                    obtain ⟨v, ev, hv⟩ := paired_get hdue3 j GS[j] eg
                    obtain ⟨h, eh, hh⟩ := paired_get hhl3 j GS[j] eg
                    have ex : (vs13.map V.ref)[j]? = some (.ref v) := by rw [List.getElem?_map, ev]; rfl
                    have ey : (hl.map V.ref)[j]? = some (.ref h) := by rw [List.getElem?_map, eh]; rfl
                    cases Option.some.inj (ex.symm.trans hx)
                    cases Option.some.inj (ey.symm.trans hy)
                    have sT : Same G7 (upd G7 T (.tup [.ref v, .ref h])) := same_upd nT
                    have k8 := k6.trans (s7.trans sT)
                    have hv8 := k8 _ _ hv
                    have hh8 := k8 _ _ hh
                    refine ⟨T, _, rfl, SqT.of upd_same, rfl, _, _, rfl, _, _, rfl, rfl, rfl, ?_⟩
                    have fs : (GS.take (j + 1)).filter (fun g => decide (g.length ≤ i)) = (GS.take j).filter (fun g => decide (g.length ≤ i)) ++ (if GS[j].length ≤ i then [GS[j]] else []) := by
                      rw [take_snoc eg, List.filter_append]
                      congr 1
                      by_cases h : GS[j].length ≤ i <;> simp [h]
                    refine ⟨_, rfl, _, _, rfl, .inr ⟨_, SqT.of hv8, rfl⟩, _, rfl, _, _, rfl, rfl, _, rfl, ite2 (fun c => ?_) (fun c => ?_)⟩
                    · have c2 : GS[j].length ≤ i := by
                        have := of_decide_eq_true c
                        rw [List.length_map] at this
                        omega
                      refine ⟨_, rfl, Nat.zero_le _, fun z nz => ?_⟩
                      refine eq_nilI (SqL.of (same_upd nz _ _ hh8)) (SqL.of upd_same) ⟨_, same_upd nz _ _ (sT _ _ gD4), ?_, ?_, ?_⟩
                      · rw [List.length_map, List.length_map]
                        have h1 := List.length_filter_le (fun g => decide (g.length ≤ i)) (GS.take j)
                        rw [List.length_take] at h1
                        exact small1000' (by omega)
                      · exact same_updF nD4 (s7.trans (sT.trans (same_upd nz)))
                      · rw [upd_same, fs, if_pos c2, List.map_append, List.map_append]
                        rfl
                    · have c2 : ¬ GS[j].length ≤ i := by
                        exact fun hc => c (decide_eq_true (by rw [List.length_map]; omega))
                      refine ⟨s7.trans sT, ?_⟩
                      rw [fs, if_neg c2, List.append_nil]
                      exact sT _ _ gD4
                  · rintro G7 ⟨s7, gD4⟩
                    rw [List.take_length] at gD4
                    refine ⟨D4, _, rfl, SqL.of gD4, ?_⟩
                    refine ⟨_, _, rfl, .inl ⟨?_, trivial⟩, fun G8 s8 => ⟨_, rfl, iteF ?_⟩⟩
                    · rw [ez, safe_eq huq (Nat.le_of_lt_succ hi) (fun r hr => (hok4 r hr).1.nd), hGS, List.all_map]
                      rfl
                    · exact ⟨_, _, _, rfl, k6.trans (s7.trans s8)⟩
                · rintro σ' G4 ⟨x14, x15, x16, rfl, s4⟩
                  have k4 := k3.trans s4
                  have hS4 := hS3.same s4
                  have gpe4 := s4 _ _ gpe3
                  obtain ⟨dx4, L4, Pp4, ts4, hst4, _⟩ := id hS4
                  have hr4 : ∀ r ∈ rows4, r.length ≤ 100 := fun r hr => by have := (hok4 r hr).2.2; omega
                  refine ⟨.ref st, rfl, st, dx4, _, rfl, hst4, rfl, .ref pe, rfl, st, rows4, pe, uq rows4.flatten, rfl, hS4, by omega, hr4, .inl (SqL.of gpe4), fun q G5 nq s5 gq => ?_⟩
                  rw [sole_all] at gq
                  obtain ⟨ls5, gR5, hls5⟩ := id ((hR3.same s4).same s5)
                  refine ⟨_, rfl, _, _, rfl, .inl ⟨_, SqL.of gR5, rfl⟩, ?_⟩
                  refine ⟨((rows4.length : Nat) : Int), congrArg V.int (by rw [List.length_map, hls5.length]), rg_ok (by omega), fun q2 nq2 => ?_⟩
                  rw [rg_ints]
                  refine ⟨_, _, rfl, lk_ints (n := 1) (same_upd nq2 _ _ gq) upd_same (by rw [List.length_range]; omega), fun G6 s6 => ⟨_, rfl, iteF ?_⟩⟩
                  have s7 := s5.trans ((same_upd (o := .lst (intsV (List.range rows4.length))) nq2).trans s6)
                  have hS6 := hS4.same s7
                  obtain ⟨dx6, L6, Pp6, ts6, hst6, _⟩ := id hS6
                  refine ⟨.ref st, rfl, st, dx6, _, rfl, hst6, rfl, Nat.zero_le _, fun e1 ne1 => ?_⟩
                  refine ⟨st, rows4, e1, [], rfl, hS6.same (same_upd ne1), by omega, hr4, .inl (SqL.of upd_same), fun q3 G7 nq3 s8 gq3 => ?_⟩
                  rw [sole_none fun r hr => (hok4 r hr).2.1] at gq3
                  refine ⟨Nat.zero_le _, fun e2 ne2 => ?_⟩
                  refine ⟨_, _, rfl, lk_ints (n := 1) (g := []) (same_upd ne2 _ _ gq3) upd_same (by decide), fun G8 s9 => ⟨_, rfl, ?_⟩⟩
                  have k8 := s7.trans ((same_upd (o := .lst []) ne1).trans (s8.trans ((same_upd (o := .lst []) ne2).trans s9)))
                  refine iteF ?_
                  have gpe8 := k8 _ _ gpe4
                  have hS8 := hS4.same k8
                  have hR8 := (hR3.same s4).same k8
                  have gpo8 := k8 _ _ (s4 _ _ gpo3)
                  have B8 := B3'.same (s4.trans k8)
                  have peb : pe ≠ b := B8.neT gpe8
                  have hps1 : 1 ≤ (uq rows4.flatten).length := by
                    cases e : rows4 with
                    | nil => rw [e] at h1; exact absurd h1 (by decide)
                    | cons r0 rs =>
                      have hr0 := (hok4 r0 (by rw [e]; exact List.mem_cons_self ..)).2.1
                      cases r0 with
                      | nil => exact absurd rfl hr0
                      | cons x0 r0 =>
                        refine List.length_pos_of_mem (a := x0) (mem_uq.mpr ?_)
                        simp
                  have pcod : ∀ x ∈ uq rows4.flatten, Cod x := fun x hx => by
                    obtain ⟨r, hr, hx⟩ := List.mem_flatten.mp (mem_uq.mp hx)
                    exact hcod4 r hr x hx
                  refine ⟨((4 : Nat) : Int), rfl, by omega, by omega, ?_⟩
                  rw [Int.toNat_natCast]
                  refine for_it (walk_range (lo := 0) (n := 4)) (fun i σ' G => ∃ y4 x14 x15 x16 x17 x18 x19 x20 x21, σ' = slots1 a b po R4 st pe m told due D2 D3 y4 x14 x15 x16 x17 x18 x19 x20 x21 ∧ But b G8 G ∧ BagC K G b c ns1) ⟨none, x14, x15, x16, none, none, none, none, none, rfl, But.refl, B8⟩ (fun _ _ _ _ _ => trivial) ?_ ?_
                  · rintro i x σ' Ga Gb hi ⟨y4, x14, x15, x16, x17, x18, x19, x20, x21, rfl, ta, Ba'⟩ ⟨rfl, rfl⟩
                    -- group
                    refine ⟨_, rfl, b, 5, c, ns1, rfl, Ba', by decide, by decide, fun r Gc r0 r1 Bc tc => ?_⟩
                    obtain ⟨n5, rfl⟩ : ∃ i : Nat, r = (i : Int) := ⟨r.toNat, by omega⟩
                    refine ⟨((n5 : Nat) : Int), rfl, by omega, by omega, fun gr ngr => ?_⟩
                    rw [Int.toNat_natCast]
                    have tac := ta.trans tc
                    have grb : gr ≠ b := Bc.ne ngr
                    refine lc_it (walk_range (lo := 0) (n := n5)) (fun j G => ∃ g : List (List Nat), G gr = some (.lst (g.map txV)) ∧ g.length = j ∧ (∀ x ∈ g, Cod x) ∧ BagC K G b c ns1 ∧ But b Gc G) ⟨[], upd_same, rfl, (fun x hx => by simp at hx), Bc.fresh ngr, But.of (same_upd ngr)⟩ (fun _ _ _ _ => trivial) ?_ ?_
                    · rintro j z Gd G hj ⟨g, gg, gl, gc, Bd, td⟩ ⟨rfl, rfl⟩
                      refine ⟨rfl, ?_⟩
                      unfold tYes
                      have gpod := td _ _ pob (tac _ _ pob gpo8)
                      have gped := td _ _ peb (tac _ _ peb gpe8)
                      have hp0 : 0 < pool.length := by omega
                      have e0 : (pool.map txV)[0]? = some (txV pool[0]) := by rw [List.getElem?_map, List.getElem?_eq_getElem hp0]; rfl
                      refine iteT ⟨_, rfl, _, rfl, _, rfl, po, _, (0 : Int), txV pool[0], rfl, rfl, SqL.of gpod, atI_nat (j := 0) e0, (by show 2 ≤ sizeLine; decide), fun l nl => ?_⟩
                      refine ⟨pe, l, _, _, rfl, rfl, same_upd nl _ _ gped, upd_same, (by rw [List.length_map]; exact Nat.le_trans (by show (uq rows4.flatten).length + 2 ≤ 1000; omega : _ ≤ 1000) (by decide)), fun p1 np1 => ?_⟩
                      have s2p : Same G (upd (upd G l (.lst [V.str "nobody", txV pool[0]])) p1 (.lst ((uq rows4.flatten).map txV ++ [V.str "nobody", txV pool[0]]))) := (same_upd nl).trans (same_upd np1)
                      have gp1 : (upd (upd G l (.lst [V.str "nobody", txV pool[0]])) p1 (.lst ((uq rows4.flatten).map txV ++ [V.str "nobody", txV pool[0]]))) p1 = some (.lst ((uq rows4.flatten).map txV ++ [V.str "nobody", txV pool[0]])) := upd_same
                      have p1b : p1 ≠ b := (Bd.fresh nl).ne np1
                      refine ⟨b, p1, _, c, ns1, rfl, Bd.same s2p, p1b, SqL.of gp1, (by rw [List.length_append]; show 0 < _ + 2; omega), (by rw [List.length_append, List.length_map]; show _ + 2 < 1000; omega), fun v G' hv B' t' => ?_⟩
                      obtain ⟨x, rfl, hx⟩ : ∃ x : List Nat, v = txV x ∧ Cod x := by
                        rcases List.mem_append.mp hv with hv | hv
                        · obtain ⟨x, hx, rfl⟩ := List.mem_map.mp hv
                          exact ⟨x, rfl, pcod x hx⟩
                        · rcases List.mem_cons.mp hv with rfl | hv
                          · exact ⟨NB, rfl, nb_cod⟩
                          · rw [List.mem_singleton.mp hv]
                            exact ⟨pool[0], rfl, (hN.ok _ (List.getElem_mem hp0)).cod⟩
                      have gg' := t' _ _ grb (s2p _ _ gg)
                      refine ⟨_, gg', ?_, g ++ [x], ?_, ?_, ?_, ?_, ?_⟩
                      · rw [List.length_map]
                        exact small1000' (by omega)
                      · rw [upd_same, List.map_append]
                        rfl
                      · rw [List.length_append, gl]
                        rfl
                      · intro y hy
                        rcases List.mem_append.mp hy with hy | hy
                        · exact gc y hy
                        · rw [List.mem_singleton.mp hy]
                          exact hx
                      · exact B'.upd (Bc.off ngr) grb
                      · intro p' o' n' e'
                        rw [upd_ne (ne_of_none e' ngr)]
                        exact t' _ _ n' (s2p _ _ (td _ _ n' e'))
                    · rintro G ⟨g, gg, gl, gc, Bd, td⟩
                      have tg := tac.trans td
                      have gped := tg _ _ peb gpe8
                      -- more, kept
                      refine ⟨_, rfl, _, rfl, _, rfl, b, pe, _, c, ns1, rfl, Bd, peb, SqL.of gped, (by rw [List.length_map]; omega), (by rw [List.length_map]; omega), fun v G1 hv B1 t1 => ?_⟩
                      obtain ⟨x, rfl, hx⟩ : ∃ x : List Nat, v = txV x ∧ Cod x := by
                        obtain ⟨x, hx, rfl⟩ := List.mem_map.mp hv
                        exact ⟨x, rfl, pcod x hx⟩
                      refine ⟨(by show 1 ≤ sizeLine; decide), fun l nl => ?_⟩
                      have gg1 := t1 _ _ grb gg
                      refine ⟨gr, l, _, _, rfl, rfl, same_upd nl _ _ gg1, upd_same, (by rw [List.length_map]; exact Nat.le_trans (by show g.length + 1 ≤ 1000; omega : _ ≤ 1000) (by decide)), fun mo nmo => ?_⟩
                      refine ⟨_, rfl, gr, _, rfl, .inl (SqL.of (same_upd nmo _ _ (same_upd nl _ _ gg1))), fun ke nke => ⟨_, _, rfl, ?_⟩⟩
                      have gmo : (upd (upd (upd G1 l (.lst [txV x])) mo (.lst (g.map txV ++ [txV x]))) ke (.lst (g.map txV))) mo = some (.lst ((g ++ [x]).map txV)) := by
                        rw [List.map_append]
                        exact same_upd nke _ _ upd_same
                      have gke : (upd (upd (upd G1 l (.lst [txV x])) mo (.lst (g.map txV ++ [txV x]))) ke (.lst (g.map txV))) ke = some (.lst (g.map txV)) := upd_same
                      have sA : Same G1 (upd (upd (upd G1 l (.lst [txV x])) mo (.lst (g.map txV ++ [txV x]))) ke (.lst (g.map txV))) := (same_upd nl).trans ((same_upd nmo).trans (same_upd nke))
                      generalize upd (upd (upd G1 l (.lst [txV x])) mo (.lst (g.map txV ++ [txV x]))) ke (.lst (g.map txV)) = J1 at gmo gke sA ⊢
                      have tJ1 : But b G8 J1 := tg.trans (t1.trans (But.of sA))
                      have hS1 := hS8.but B8 tJ1
                      have hR1 := hR8.but B8 tJ1
                      have BJ1 := B1.same sA
                      have gg2 := sA _ _ gg1
                      have cod2 : ∀ y ∈ g ++ [x], Cod y := fun y hy => by
                        rcases List.mem_append.mp hy with hy | hy
                        · exact gc y hy
                        · rw [List.mem_singleton.mp hy]
                          exact hx
                      have sl1 := soleOf_len rows4 g
                      have sl2 := soleOf_len rows4 (g ++ [x])
                      have r4l : ∀ r ∈ rows4, r.length ≤ 4 := fun r hr => (hok4 r hr).2.2
                      obtain ⟨dx1, L1, Pp1, ts1, hst1, _⟩ := id hS1
                      -- less, late
                      refine ⟨.ref st, rfl, st, dx1, _, rfl, hst1, rfl, .ref gr, rfl, st, rows4, gr, g, rfl, hS1, by omega, hr4, .inl (SqL.of gg2), fun le J2 nle sJ2 gle => ?_⟩
                      refine ⟨.ref st, rfl, st, dx1, _, rfl, sJ2 _ _ hst1, rfl, .ref mo, rfl, mo, _, rfl, .inl ⟨SqL.of (sJ2 _ _ gmo), fun tu ntu => ?_⟩⟩
                      have sJ3 := sJ2.trans (same_upd (o := .tup ((g ++ [x]).map txV)) ntu)
                      have gle3 := same_upd (o := .tup ((g ++ [x]).map txV)) ntu _ _ gle
                      have gtu : (upd J2 tu (.tup ((g ++ [x]).map txV))) tu = some (.tup ((g ++ [x]).map txV)) := upd_same
                      generalize upd J2 tu (.tup ((g ++ [x]).map txV)) = J3 at sJ3 gle3 gtu ⊢
                      refine ⟨st, rows4, tu, g ++ [x], rfl, hS1.same sJ3, by omega, hr4, .inr (SqT.of gtu), fun la J4 nla sJ4 gla => ?_⟩
                      refine ⟨(by show 2 ≤ sizeLine; decide), fun t nt => ⟨t, _, rfl, SqT.of upd_same, rfl, _, _, rfl, _, _, rfl, rfl, ?_⟩⟩
                      -- like
                      have sJ5 := sJ4.trans (same_upd (o := .tup [.ref le, .ref la]) nt)
                      have gla5 := same_upd (o := .tup [.ref le, .ref la]) nt _ _ gla
                      generalize upd J4 t (.tup [.ref le, .ref la]) = J5 at sJ5 gla5 ⊢
                      have kJ5 := sJ3.trans sJ5
                      refine ⟨_, rfl, _, rfl, (by show 2 ≤ sizeLine; decide), fun u1 nu1 => ?_⟩
                      have sJ6 := sJ5.trans (same_upd (o := .lst [.ref le, .ref la]) nu1)
                      have gla6 := same_upd (o := .lst [.ref le, .ref la]) nu1 _ _ gla5
                      have gu6 : (upd J5 u1 (.lst [.ref le, .ref la])) u1 = some (.lst [.ref le, .ref la]) := upd_same
                      generalize upd J5 u1 (.lst [.ref le, .ref la]) = J6 at sJ6 gla6 gu6 ⊢
                      have kJ6 := sJ3.trans sJ6
                      refine ⟨_, rfl, _, rfl, R4, rows4, ke, g, rfl, hR1.same kJ6, by omega, r4l, hcod4, .inl (SqL.of (kJ6 _ _ gke)), fun q1 J7 nq1 s7 gq1 => ?_⟩
                      refine ⟨_, rfl, _, rfl, R4, rows4, mo, g ++ [x], rfl, hR1.same (kJ6.trans s7), by omega, r4l, hcod4, .inl (SqL.of ((kJ6.trans s7) _ _ gmo)), fun q2 J8 nq2 s8 gq2 => ?_⟩
                      refine ⟨(by show 2 ≤ sizeLine; decide), fun u2 nu2 => ?_⟩
                      have s78 := s7.trans (s8.trans (same_upd (o := .lst [.ref q1, .ref q2]) nu2))
                      refine ⟨_, _, rfl, lk_two (s78 _ _ gu6) upd_same ((sJ6.trans s78) _ _ gle3) ((s8.trans (same_upd nu2)) _ _ gq1) (s78 _ _ gla6) (same_upd nu2 _ _ gq2) (by omega) (by omega), fun J9 s9 => ⟨_, rfl, iteF ?_⟩⟩
                      have s69 := s78.trans s9
                      have k9 := sJ6.trans s69
                      have kk9 := sJ3.trans k9
                      refine ⟨_, rfl, _, rfl, ne_self (SqL.of (kk9 _ _ gg2)) (SqL.of (kk9 _ _ gke)) gc ⟨_, rfl, iteF ?_⟩⟩
                      have gle9 := k9 _ _ gle3
                      have gla9 := s69 _ _ gla6
                      -- all in late
                      refine ⟨_, rfl, le, rfl, ⟨_, SqL.of gle9⟩, fun D5 nD5 => lc_it walk_list (fun j J => Same J9 J ∧ J D5 = some (.lst ((List.replicate j true).map V.bl))) ⟨same_upd nD5, upd_same⟩ (fun j J _ h => SqL.of (h.1 _ _ gle9)) ?_ ?_⟩
                      · rintro j y J J' hj ⟨sj, gD5⟩ ⟨rfl, ey⟩
                        have hj' : j < (soleOf rows4 g).length := by
                          unfold intsV at hj
                          rw [List.length_map] at hj
                          exact hj
                        have ek : (intsV (soleOf rows4 g))[j]? = some (.int ((soleOf rows4 g)[j] : Nat)) := by
                          unfold intsV
                          rw [List.getElem?_map, List.getElem?_eq_getElem hj']
                          rfl
                        cases Option.some.inj (ek.symm.trans ey)
                        refine ⟨rfl, ?_⟩
                        unfold tYes
                        refine iteT ⟨_, rfl, _, rfl, la, _, rfl, .inl (SqL.of (sj _ _ gla9)), rfl, flat_ints _, _, gD5, ?_, same_updF nD5 sj, ?_⟩
                        · rw [List.length_map, List.length_replicate]
                          exact small1000' (by omega)
                        · have hm : inV (V.int ((soleOf rows4 g)[j] : Nat)) (intsV (soleOf rows4 (g ++ [x]))) = true := by
                            rw [inV_ints, decide_eq_true_eq]
                            exact sole_mono (fun z hz => List.mem_append_left _ hz) (List.getElem_mem hj')
                          rw [upd_same, List.replicate_succ', List.map_append]
                          show some (HO.lst (_ ++ [V.bl (inV _ _)])) = _
                          rw [hm]
                          rfl
                      · rintro J ⟨sj, gD5⟩
                        refine ⟨D5, _, rfl, SqL.of gD5, ?_⟩
                        rw [show ∀ n, (List.replicate n true).all id = true from fun n => by simp]
                        refine ⟨_, rfl, iteF ?_⟩
                        -- late.append(0)
                        have gla10 := sj _ _ gla9
                        refine ⟨_, rfl, .inl ⟨rfl, _, SqL.of gla10⟩, la, _, _, rfl, rfl, gla10, (by unfold intsV; rw [List.length_map]; exact small1000' (by omega)), ?_⟩
                        have sz : Same J3 (upd J la (.lst (intsV (soleOf rows4 (g ++ [x])) ++ [.int 0]))) := same_updF nla (k9.trans sj)
                        have kz := sJ3.trans sz
                        generalize upd J la (.lst (intsV (soleOf rows4 (g ++ [x])) ++ [.int 0])) = Jz at sz kz ⊢
                        refine ⟨.ref st, rfl, st, dx1, _, rfl, kz _ _ hst1, rfl, .ref mo, rfl, st, rows4, mo, g ++ [x], rfl, hS1.same kz, by omega, hr4, .inl (SqL.of (kz _ _ gmo)), fun q3 Jy nq3 s10 gq3 => ?_⟩
                        refine ⟨_, rfl, _, rfl, R4, rows4, mo, g ++ [x], rfl, hR1.same (kz.trans s10), by omega, r4l, hcod4, .inl (SqL.of ((kz.trans s10) _ _ gmo)), fun q4 Jx nq4 s11 gq4 => ?_⟩
                        refine ⟨_, _, rfl, lk_ints (n := 1) (s11 _ _ gq3) gq4 (by omega), fun Jw s12 => ⟨_, rfl, iteF ?_⟩⟩
                        have kw := kz.trans (s10.trans (s11.trans s12))
                        exact ⟨_, _, _, _, _, _, _, _, _, rfl, tJ1.trans (But.of kw), BJ1.same kw⟩
                  · rintro σ' G ⟨y4, x14, x15, x16, x17, x18, x19, x20, x21, rfl, tG, BG⟩
                    have hSG := hS8.but B8 tG
                    have gpeG := tG _ _ peb gpe8
                    obtain ⟨dxG, LG, PpG, tsG, hstG, _⟩ := id hSG
                    refine ⟨_, rfl, st, dxG, _, rfl, hstG, rfl, st, rows4, 1, rfl, hSG, huq, fun us GA sA ndA ntA => fun fo nfo => ?_⟩
                    have s1 : Same GA (upd GA fo (.lst (us.map V.ref))) := same_upd nfo
                    have gfo : (upd GA fo (.lst (us.map V.ref))) fo = some (.lst (us.map V.ref)) := upd_same
                    generalize upd GA fo (.lst (us.map V.ref)) = GB at s1 gfo ⊢
                    refine ⟨(by show 0 ≤ sizeLine; exact Nat.zero_le _), fun t0 nt0 => ⟨(by show 1 ≤ sizeLine; decide), fun l1 nl1 => ?_⟩⟩
                    have s2 : Same GB (upd (upd GB t0 (.tup [])) l1 (.lst [.ref t0])) := (same_upd nt0).trans (same_upd nl1)
                    have gt0 : (upd (upd GB t0 (.tup [])) l1 (.lst [.ref t0])) t0 = some (.tup []) := same_upd nl1 _ _ upd_same
                    have gl1 : (upd (upd GB t0 (.tup [])) l1 (.lst [.ref t0])) l1 = some (.lst [.ref t0]) := upd_same
                    generalize upd (upd GB t0 (.tup [])) l1 (.lst [.ref t0]) = GC at s2 gt0 gl1 ⊢
                    have gpeC := (sA.trans (s1.trans s2)) _ _ gpeG
                    refine ⟨_, rfl, pe, rfl, ⟨_, SqL.of gpeC⟩, fun D5 nD5 => lc_it walk_list (fun j J => Same GC J ∧ ∃ ts, J D5 = some (.lst (ts.map V.ref)) ∧ ts.length = j ∧ RowsT J ts (((uq rows4.flatten).take j).map fun z => [z])) ⟨same_upd nD5, [], upd_same, rfl, .nil⟩ (fun j J _ h => SqL.of (h.1 _ _ gpeC)) ?_ ?_⟩
                    · rintro j y J J' hj ⟨sj, ts, gD5, tl, hts⟩ ⟨rfl, ey⟩
                      rw [List.length_map] at hj
                      have ek : ((uq rows4.flatten).map txV)[j]? = some (txV (uq rows4.flatten)[j]) := by rw [List.getElem?_map, List.getElem?_eq_getElem hj]; rfl
                      cases Option.some.inj (ek.symm.trans ey)
                      refine ⟨rfl, ?_⟩
                      unfold tYes
                      refine iteT ⟨_, rfl, (by show 1 ≤ sizeLine; decide), fun q5 nq5 => ?_⟩
                      have sq : Same J' (upd J' q5 (.tup [txV (uq rows4.flatten)[j]])) := same_upd nq5
                      refine ⟨_, sq _ _ gD5, ?_, same_updF nD5 (sj.trans sq), ts ++ [q5], ?_, ?_, ?_⟩
                      · rw [List.length_map, tl]
                        exact small1000' (by omega)
                      · rw [upd_same, List.map_append]
                        rfl
                      · rw [List.length_append, tl]
                        rfl
                      · rw [take_snoc (List.getElem?_eq_getElem hj), List.map_append]
                        refine Paired.snoc (Paired.mono (fun u w' eu => ?_) hts) ?_
                        · have hu : u ≠ D5 := fun z => by rw [z, gD5] at eu; cases eu
                          rw [upd_ne hu]
                          exact sq _ _ eu
                        · have hu : q5 ≠ D5 := fun z => by rw [z, gD5] at nq5; cases nq5
                          rw [upd_ne hu, upd_same]
                          rfl
                    · rintro J ⟨sj, ts, gD5, tl, hts⟩
                      rw [List.length_map, List.take_length] at hts
                      rw [List.length_map] at tl
                      refine ⟨l1, D5, _, _, rfl, rfl, sj _ _ gl1, gD5, (by rw [List.length_map]; exact Nat.le_trans (by show 1 + ts.length ≤ 1000; omega : _ ≤ 1000) (by decide)), fun fi nfi => ?_⟩
                      have sf : Same J (upd J fi (.lst ([.ref t0] ++ ts.map V.ref))) := same_upd nfi
                      have hts2 := RowsT.same hts sf
                      refine ⟨_, _, rfl, lk_groups (ps := uq rows4.flatten) (out := grp (uq rows4.flatten).length 1) (vs := t0 :: ts) (Paired.mono (fun _ _ e => ⟨e.1, (s1.trans (s2.trans (sj.trans sf))) _ _ e.2⟩) ntA) ?_ ((s2.trans (sj.trans sf)) _ _ gfo) upd_same ?_ ?_, fun JE sE => qEnd JE⟩
                      · rw [pick_one _ hps1 huq]
                        exact .cons ((sj.trans sf) _ _ gt0) hts2
                      · have := grp_len (m := 1) huq
                        omega
                      · intro ix hix
                        have := (grp_mem huq hix).1
                        omega
end
end My

set_option Elab.async false
set_option linter.all false
set_option maxRecDepth 100000
namespace My
open PySem PySem.Spec PyProof.Rows L2
set_option maxHeartbeats 4000000 in
theorem all_mk {l : PySem.W.OpenLaw} {w : World} {K : PySem.W.Frag} {h : Heap} {mg : Str → Option Value} {fa : Addr} (X : K.In h) (G : h.Ns mainGlobals mg) (hfa : mg "law" = some (.ref fa))
    {CStaff : Addr}
    {f0 : Addr} {od0 an0 : Option Addr} {sl0 : Array (Option Value)} {oc0 kV0 dc0 pm0 cd0 ct0 : Value}
    {f1 : Addr} {od1 an1 : Option Addr} {sl1 : Array (Option Value)} {oc1 kV1 dc1 pm1 cd1 ct1 : Value}
    {f2 : Addr} {od2 an2 : Option Addr} {sl2 : Array (Option Value)} {oc2 kV2 dc2 pm2 cd2 ct2 : Value}
    {f3 : Addr} {od3 an3 : Option Addr} {sl3 : Array (Option Value)} {oc3 kV3 dc3 pm3 cd3 ct3 : Value}
    {f4 : Addr} {od4 an4 : Option Addr} {sl4 : Array (Option Value)} {oc4 kV4 dc4 pm4 cd4 ct4 : Value}
    {f5 : Addr} {od5 an5 : Option Addr} {sl5 : Array (Option Value)} {oc5 kV5 dc5 pm5 cd5 ct5 : Value}
    {f6 : Addr} {od6 an6 : Option Addr} {sl6 : Array (Option Value)} {oc6 kV6 dc6 pm6 cd6 ct6 : Value}
    {f7 : Addr} {od7 an7 : Option Addr} {sl7 : Array (Option Value)} {oc7 kV7 dc7 pm7 cd7 ct7 : Value}
    {f8 : Addr} {od8 an8 : Option Addr} {sl8 : Array (Option Value)} {oc8 kV8 dc8 pm8 cd8 ct8 : Value}
    {f9 : Addr} {od9 an9 : Option Addr} {sl9 : Array (Option Value)} {oc9 kV9 dc9 pm9 cd9 ct9 : Value}
    {f10 : Addr} {od10 an10 : Option Addr} {sl10 : Array (Option Value)} {oc10 kV10 dc10 pm10 cd10 ct10 : Value}
    {f11 : Addr} {od11 an11 : Option Addr} {sl11 : Array (Option Value)} {oc11 kV11 dc11 pm11 cd11 ct11 : Value}
    {f12 : Addr} {od12 an12 : Option Addr} {sl12 : Array (Option Value)} {oc12 kV12 dc12 pm12 cd12 ct12 : Value}
    {f13 : Addr} {od13 an13 : Option Addr} {sl13 : Array (Option Value)} {oc13 kV13 dc13 pm13 cd13 ct13 : Value}
    {f14 : Addr} {od14 an14 : Option Addr} {sl14 : Array (Option Value)} {oc14 kV14 dc14 pm14 cd14 ct14 : Value}
    {f15 : Addr} {od15 an15 : Option Addr} {sl15 : Array (Option Value)} {oc15 kV15 dc15 pm15 cd15 ct15 : Value}
    {f16 : Addr} {od16 an16 : Option Addr} {sl16 : Array (Option Value)} {oc16 kV16 dc16 pm16 cd16 ct16 : Value}
    {f17 : Addr} {od17 an17 : Option Addr} {sl17 : Array (Option Value)} {oc17 kV17 dc17 pm17 cd17 ct17 : Value}
    {f18 : Addr} {od18 an18 : Option Addr} {sl18 : Array (Option Value)} {oc18 kV18 dc18 pm18 cd18 ct18 : Value}
    {f19 : Addr} {od19 an19 : Option Addr} {sl19 : Array (Option Value)} {oc19 kV19 dc19 pm19 cd19 ct19 : Value}
    {f20 : Addr} {od20 an20 : Option Addr} {sl20 : Array (Option Value)} {oc20 kV20 dc20 pm20 cd20 ct20 : Value}
    {t0 t1 t2 t3 : Tok}
    (nStaff : PySem.W.nsIn K mainGlobals "Staff" = some (some (.ref CStaff)))
    (a0 : PySem.W.nsIn K mainGlobals "is_word" = some (some (.ref f0)))
    (l0 : K.lookup f0 = some ⟨oc0, od0, .func (PySem.W.fnOf "is_word" "is_word" (defArgs sIsWord) (defBody sIsWord) (defScope sIsWord) .none kV0 dc0 pm0 an0 cd0 ct0), sl0⟩) (c0 : PySem.W.codeIn K cd0 "is_word" = true) (k0 : PySem.W.keepIn K (.ref f0) = true)
    (a1 : PySem.W.nsIn K mainGlobals "is_name" = some (some (.ref f1)))
    (l1 : K.lookup f1 = some ⟨oc1, od1, .func (PySem.W.fnOf "is_name" "is_name" (defArgs sIsName) (defBody sIsName) (defScope sIsName) .none kV1 dc1 pm1 an1 cd1 ct1), sl1⟩) (c1 : PySem.W.codeIn K cd1 "is_name" = true) (k1 : PySem.W.keepIn K (.ref f1) = true)
    (a2 : PySem.W.nsIn K mainGlobals "is_team" = some (some (.ref f2)))
    (l2 : K.lookup f2 = some ⟨oc2, od2, .func (PySem.W.fnOf "is_team" "is_team" (defArgs sIsTeam) (defBody sIsTeam) (defScope sIsTeam) .none kV2 dc2 pm2 an2 cd2 ct2), sl2⟩) (c2 : PySem.W.codeIn K cd2 "is_team" = true) (k2 : PySem.W.keepIn K (.ref f2) = true)
    (a3 : PySem.W.nsIn K mainGlobals "without_doubles" = some (some (.ref f3)))
    (l3 : K.lookup f3 = some ⟨oc3, od3, .func (PySem.W.fnOf "without_doubles" "without_doubles" (defArgs sWithoutDoubles) (defBody sWithoutDoubles) (defScope sWithoutDoubles) .none kV3 dc3 pm3 an3 cd3 ct3), sl3⟩) (c3 : PySem.W.codeIn K cd3 "without_doubles" = true) (k3 : PySem.W.keepIn K (.ref f3) = true)
    (a4 : PySem.W.nsIn K mainGlobals "groups_of" = some (some (.ref f4)))
    (l4 : K.lookup f4 = some ⟨oc4, od4, .func (PySem.W.fnOf "groups_of" "groups_of" (defArgs sGroupsOf) (defBody sGroupsOf) (defScope sGroupsOf) .none kV4 dc4 pm4 an4 cd4 ct4), sl4⟩) (c4 : PySem.W.codeIn K cd4 "groups_of" = true) (k4 : PySem.W.keepIn K (.ref f4) = true)
    (a5 : PySem.W.findIn K (.ref CStaff) "__init__" = some (some (.ref f5))) (i5 : PySem.W.isFn K (.ref f5) = true)
    (l5 : K.lookup f5 = some ⟨oc5, od5, .func (PySem.W.fnOf "__init__" "Staff.__init__" (defArgs sStaffInit) (defBody sStaffInit) (defScope sStaffInit) .none kV5 dc5 pm5 an5 cd5 ct5), sl5⟩) (c5 : PySem.W.codeIn K cd5 "Staff.__init__" = true) (k5 : PySem.W.keepIn K (.ref f5) = true)
    (a6 : PySem.W.findIn K (.ref CStaff) "persons" = some (some (.ref f6))) (i6 : PySem.W.isFn K (.ref f6) = true)
    (l6 : K.lookup f6 = some ⟨oc6, od6, .func (PySem.W.fnOf "persons" "Staff.persons" (defArgs sStaffPersons) (defBody sStaffPersons) (defScope sStaffPersons) .none kV6 dc6 pm6 an6 cd6 ct6), sl6⟩) (c6 : PySem.W.codeIn K cd6 "Staff.persons" = true) (k6 : PySem.W.keepIn K (.ref f6) = true)
    (a7 : PySem.W.findIn K (.ref CStaff) "sole" = some (some (.ref f7))) (i7 : PySem.W.isFn K (.ref f7) = true)
    (l7 : K.lookup f7 = some ⟨oc7, od7, .func (PySem.W.fnOf "sole" "Staff.sole" (defArgs sStaffSole) (defBody sStaffSole) (defScope sStaffSole) .none kV7 dc7 pm7 an7 cd7 ct7), sl7⟩) (c7 : PySem.W.codeIn K cd7 "Staff.sole" = true) (k7 : PySem.W.keepIn K (.ref f7) = true)
    (a8 : PySem.W.findIn K (.ref CStaff) "groups" = some (some (.ref f8))) (i8 : PySem.W.isFn K (.ref f8) = true)
    (l8 : K.lookup f8 = some ⟨oc8, od8, .func (PySem.W.fnOf "groups" "Staff.groups" (defArgs sStaffGroups) (defBody sStaffGroups) (defScope sStaffGroups) .none kV8 dc8 pm8 an8 cd8 ct8), sl8⟩) (c8 : PySem.W.codeIn K cd8 "Staff.groups" = true) (k8 : PySem.W.keepIn K (.ref f8) = true)
    (a9 : PySem.W.findIn K (.ref CStaff) "is_safe" = some (some (.ref f9))) (i9 : PySem.W.isFn K (.ref f9) = true)
    (l9 : K.lookup f9 = some ⟨oc9, od9, .func (PySem.W.fnOf "is_safe" "Staff.is_safe" (defArgs sStaffIsSafe) (defBody sStaffIsSafe) (defScope sStaffIsSafe) .none kV9 dc9 pm9 an9 cd9 ct9), sl9⟩) (c9 : PySem.W.codeIn K cd9 "Staff.is_safe" = true) (k9 : PySem.W.keepIn K (.ref f9) = true)
    (a10 : PySem.W.nsIn K mainGlobals "_law_bag" = some (some (.ref f10)))
    (l10 : K.lookup f10 = some ⟨oc10, od10, .func (PySem.W.fnOf "_law_bag" "_law_bag" (defArgs sLawBag) (defBody sLawBag) (defScope sLawBag) .none kV10 dc10 pm10 an10 cd10 ct10), sl10⟩) (c10 : PySem.W.codeIn K cd10 "_law_bag" = true) (k10 : PySem.W.keepIn K (.ref f10) = true)
    (a11 : PySem.W.nsIn K mainGlobals "_law_pull" = some (some (.ref f11)))
    (l11 : K.lookup f11 = some ⟨oc11, od11, .func (PySem.W.fnOf "_law_pull" "_law_pull" (defArgs sLawPull) (defBody sLawPull) (defScope sLawPull) .none kV11 dc11 pm11 an11 cd11 ct11), sl11⟩) (c11 : PySem.W.codeIn K cd11 "_law_pull" = true) (k11 : PySem.W.keepIn K (.ref f11) = true)
    (a12 : PySem.W.nsIn K mainGlobals "_law_of" = some (some (.ref f12)))
    (l12 : K.lookup f12 = some ⟨oc12, od12, .func (PySem.W.fnOf "_law_of" "_law_of" (defArgs sLawOf) (defBody sLawOf) (defScope sLawOf) .none kV12 dc12 pm12 an12 cd12 ct12), sl12⟩) (c12 : PySem.W.codeIn K cd12 "_law_of" = true) (k12 : PySem.W.keepIn K (.ref f12) = true)
    (a13 : PySem.W.nsIn K mainGlobals "_law_like" = some (some (.ref f13)))
    (l13 : K.lookup f13 = some ⟨oc13, od13, .func (PySem.W.fnOf "_law_like" "_law_like" (defArgs sLawLike) (defBody sLawLike) (defScope sLawLike) .none kV13 dc13 pm13 an13 cd13 ct13), sl13⟩) (c13 : PySem.W.codeIn K cd13 "_law_like" = true) (k13 : PySem.W.keepIn K (.ref f13) = true)
    (a14 : PySem.W.nsIn K mainGlobals "_law_names" = some (some (.ref f14)))
    (l14 : K.lookup f14 = some ⟨oc14, od14, .func (PySem.W.fnOf "_law_names" "_law_names" (defArgs sLawNames) (defBody sLawNames) (defScope sLawNames) .none kV14 dc14 pm14 an14 cd14 ct14), sl14⟩) (c14 : PySem.W.codeIn K cd14 "_law_names" = true) (k14 : PySem.W.keepIn K (.ref f14) = true)
    (a15 : PySem.W.nsIn K mainGlobals "_law_staff" = some (some (.ref f15)))
    (l15 : K.lookup f15 = some ⟨oc15, od15, .func (PySem.W.fnOf "_law_staff" "_law_staff" (defArgs sLawStaff) (defBody sLawStaff) (defScope sLawStaff) .none kV15 dc15 pm15 an15 cd15 ct15), sl15⟩) (c15 : PySem.W.codeIn K cd15 "_law_staff" = true) (k15 : PySem.W.keepIn K (.ref f15) = true)
    (a16 : PySem.W.nsIn K mainGlobals "_law_over" = some (some (.ref f16)))
    (l16 : K.lookup f16 = some ⟨oc16, od16, .func (PySem.W.fnOf "_law_over" "_law_over" (defArgs sLawOver) (defBody sLawOver) (defScope sLawOver) .none kV16 dc16 pm16 an16 cd16 ct16), sl16⟩) (c16 : PySem.W.codeIn K cd16 "_law_over" = true) (k16 : PySem.W.keepIn K (.ref f16) = true)
    (a17 : PySem.W.nsIn K mainGlobals "_law_persons" = some (some (.ref f17)))
    (l17 : K.lookup f17 = some ⟨oc17, od17, .func (PySem.W.fnOf "_law_persons" "_law_persons" (defArgs sLawPersons) (defBody sLawPersons) (defScope sLawPersons) .none kV17 dc17 pm17 an17 cd17 ct17), sl17⟩) (c17 : PySem.W.codeIn K cd17 "_law_persons" = true) (k17 : PySem.W.keepIn K (.ref f17) = true)
    (a18 : PySem.W.nsIn K mainGlobals "_law_groups" = some (some (.ref f18)))
    (l18 : K.lookup f18 = some ⟨oc18, od18, .func (PySem.W.fnOf "_law_groups" "_law_groups" (defArgs sLawGroups) (defBody sLawGroups) (defScope sLawGroups) .none kV18 dc18 pm18 an18 cd18 ct18), sl18⟩) (c18 : PySem.W.codeIn K cd18 "_law_groups" = true) (k18 : PySem.W.keepIn K (.ref f18) = true)
    (a19 : PySem.W.nsIn K mainGlobals "_law_sole" = some (some (.ref f19)))
    (l19 : K.lookup f19 = some ⟨oc19, od19, .func (PySem.W.fnOf "_law_sole" "_law_sole" (defArgs sLawSole) (defBody sLawSole) (defScope sLawSole) .none kV19 dc19 pm19 an19 cd19 ct19), sl19⟩) (c19 : PySem.W.codeIn K cd19 "_law_sole" = true) (k19 : PySem.W.keepIn K (.ref f19) = true)
    (a20 : PySem.W.nsIn K mainGlobals "law" = some (some (.ref f20)))
    (l20 : K.lookup f20 = some ⟨oc20, od20, .func (PySem.W.fnOf "law" "law" (defArgs sLaw) (defBody sLaw) (defScope sLaw) .none kV20 dc20 pm20 an20 cd20 ct20), sl20⟩) (c20 : PySem.W.codeIn K cd20 "law" = true) (k20 : PySem.W.keepIn K (.ref f20) = true)
    (pgS : PySem.W.plainGet K CStaff Str.empty = true) (hdS : PySem.W.hasDictIn K CStaff = true) (poS : PySem.W.plainOver K CStaff = true) (saS : PySem.W.findIn K (.ref CStaff) "__setattr__" = some (some (.builtin "object.__setattr__"))) (mkS : PySem.W.makesIn K CStaff = true) (kcS : PySem.W.keepIn K (.ref CStaff) = true) (nL : PySem.W.findIn K (.ref CStaff) "_lists" = some none) (nP : PySem.W.findIn K (.ref CStaff) "_persons" = some none)
    (gLN : PySem.W.nsIn K mainGlobals "LONGEST_NAME" = some (some (.int 8 t0))) (gMO : PySem.W.nsIn K mainGlobals "MOST_OVER" = some (some (.int 4 t1))) (gMB : PySem.W.nsIn K mainGlobals "MOST_BUNDLES" = some (some (.int 12 t2))) (gMP : PySem.W.nsIn K mainGlobals "MOST_PERSONS" = some (some (.int 8 t3))) (gCo : PySem.W.nsIn K mainGlobals "combinations" = some (some (.type "itertools.combinations")))
    (b_int : PySem.W.nsIn K mainGlobals "int" = some none)
    (b_list : PySem.W.nsIn K mainGlobals "list" = some none)
    (b_len : PySem.W.nsIn K mainGlobals "len" = some none)
    (b_isinstance : PySem.W.nsIn K mainGlobals "isinstance" = some none)
    (b_tuple : PySem.W.nsIn K mainGlobals "tuple" = some none)
    (b_bool : PySem.W.nsIn K mainGlobals "bool" = some none)
    (b_str : PySem.W.nsIn K mainGlobals "str" = some none)
    (b_all : PySem.W.nsIn K mainGlobals "all" = some none)
    (b_zip : PySem.W.nsIn K mainGlobals "zip" = some none)
    (b_range : PySem.W.nsIn K mainGlobals "range" = some none)
    (b_sum : PySem.W.nsIn K mainGlobals "sum" = some none)
    (b_min : PySem.W.nsIn K mainGlobals "min" = some none)
    (b_sorted : PySem.W.nsIn K mainGlobals "sorted" = some none)
    (b_abs : PySem.W.nsIn K mainGlobals "abs" = some none)
    (b_enumerate : PySem.W.nsIn K mainGlobals "enumerate" = some none) :
    ∃ fd : FuncData, (∀ (s : Shared) (v : Value), BindsTo s fd ⟨[v], []⟩ [("script", v)]) ∧ ∀ base : Heap, K.In base → base.Ns mainGlobals mg → FnOk l.prog w K mg base CX0 12 fa fd ["script"] (spLaw K) := by
  have e := hfa.symm.trans (PySem.W.mg_of X G a20)
  cases e
  have F0 := fun_mk (st := sIsWord) l0 c0 k0
  have B0 := F0.binds (ps := ["text"]) fun _ _ _ _ _ _ us hl => match us, hl with | [_], _ => rfl
  have F1 := fun_mk (st := sIsName) l1 c1 k1
  have B1 := F1.binds (ps := ["value"]) fun _ _ _ _ _ _ us hl => match us, hl with | [_], _ => rfl
  have F2 := fun_mk (st := sIsTeam) l2 c2 k2
  have B2 := F2.binds (ps := ["value"]) fun _ _ _ _ _ _ us hl => match us, hl with | [_], _ => rfl
  have F3 := fun_mk (st := sWithoutDoubles) l3 c3 k3
  have B3 := F3.binds (ps := ["names"]) fun _ _ _ _ _ _ us hl => match us, hl with | [_], _ => rfl
  have F4 := fun_mk (st := sGroupsOf) l4 c4 k4
  have B4 := F4.binds (ps := ["persons", "size"]) fun _ _ _ _ _ _ us hl => match us, hl with | [_, _], _ => rfl
  have F5 := fun_mk (st := sStaffInit) l5 c5 k5
  have F6 := fun_mk (st := sStaffPersons) l6 c6 k6
  have B6 := F6.binds (ps := ["self"]) fun _ _ _ _ _ _ us hl => match us, hl with | [_], _ => rfl
  have F7 := fun_mk (st := sStaffSole) l7 c7 k7
  have B7 := F7.binds (ps := ["self", "group"]) fun _ _ _ _ _ _ us hl => match us, hl with | [_, _], _ => rfl
  have F8 := fun_mk (st := sStaffGroups) l8 c8 k8
  have B8 := F8.binds (ps := ["self", "most"]) fun _ _ _ _ _ _ us hl => match us, hl with | [_, _], _ => rfl
  have F9 := fun_mk (st := sStaffIsSafe) l9 c9 k9
  have B9 := F9.binds (ps := ["self", "most"]) fun _ _ _ _ _ _ us hl => match us, hl with | [_, _], _ => rfl
  have F10 := fun_mk (st := sLawBag) l10 c10 k10
  have B10 := F10.binds (ps := ["script"]) fun _ _ _ _ _ _ us hl => match us, hl with | [_], _ => rfl
  have F11 := fun_mk (st := sLawPull) l11 c11 k11
  have B11 := F11.binds (ps := ["bag", "many"]) fun _ _ _ _ _ _ us hl => match us, hl with | [_, _], _ => rfl
  have F12 := fun_mk (st := sLawOf) l12 c12 k12
  have B12 := F12.binds (ps := ["bag", "some"]) fun _ _ _ _ _ _ us hl => match us, hl with | [_, _], _ => rfl
  have F13 := fun_mk (st := sLawLike) l13 c13 k13
  have B13 := F13.binds (ps := ["found", "due"]) fun _ _ _ _ _ _ us hl => match us, hl with | [_, _], _ => rfl
  have F14 := fun_mk (st := sLawNames) l14 c14 k14
  have B14 := F14.binds (ps := ["bag", "many"]) fun _ _ _ _ _ _ us hl => match us, hl with | [_, _], _ => rfl
  have F15 := fun_mk (st := sLawStaff) l15 c15 k15
  have B15 := F15.binds (ps := ["rows"]) fun _ _ _ _ _ _ us hl => match us, hl with | [_], _ => rfl
  have F16 := fun_mk (st := sLawOver) l16 c16 k16
  have B16 := F16.binds (ps := ["bag", "pool"]) fun _ _ _ _ _ _ us hl => match us, hl with | [_, _], _ => rfl
  have F17 := fun_mk (st := sLawPersons) l17 c17 k17
  have B17 := F17.binds (ps := ["rows"]) fun _ _ _ _ _ _ us hl => match us, hl with | [_], _ => rfl
  have F18 := fun_mk (st := sLawGroups) l18 c18 k18
  have B18 := F18.binds (ps := ["persons", "most"]) fun _ _ _ _ _ _ us hl => match us, hl with | [_, _], _ => rfl
  have F19 := fun_mk (st := sLawSole) l19 c19 k19
  have B19 := F19.binds (ps := ["rows", "group"]) fun _ _ _ _ _ _ us hl => match us, hl with | [_, _], _ => rfl
  have F20 := fun_mk (st := sLaw) l20 c20 k20
  have B20 := F20.binds (ps := ["script"]) fun _ _ _ _ _ _ us hl => match us, hl with | [_], _ => rfl
  have m_int := PySem.W.mg_none_of X G b_int
  have m_list := PySem.W.mg_none_of X G b_list
  have m_len := PySem.W.mg_none_of X G b_len
  have m_isinstance := PySem.W.mg_none_of X G b_isinstance
  have m_tuple := PySem.W.mg_none_of X G b_tuple
  have m_bool := PySem.W.mg_none_of X G b_bool
  have m_str := PySem.W.mg_none_of X G b_str
  have m_all := PySem.W.mg_none_of X G b_all
  have m_zip := PySem.W.mg_none_of X G b_zip
  have m_range := PySem.W.mg_none_of X G b_range
  have m_sum := PySem.W.mg_none_of X G b_sum
  have m_min := PySem.W.mg_none_of X G b_min
  have m_sorted := PySem.W.mg_none_of X G b_sorted
  have m_abs := PySem.W.mg_none_of X G b_abs
  have m_enumerate := PySem.W.mg_none_of X G b_enumerate
  refine ⟨PySem.W.fnOf "law" "law" (defArgs sLaw) (defBody sLaw) (defScope sLaw) .none kV20 dc20 pm20 an20 cd20 ct20, fun s v => .of_eq rfl, fun base _ _ => ?_⟩
  have TC : Cls K CStaff := ⟨pgS, hdS, poS, saS⟩
  have MS : Mk K CStaff f5 := ⟨mkS, a5, i5, kcS⟩
  have Iw : Cal l.prog w K mg base "is_word" 1 ["text"] spWordT f0 _ := ⟨ok_word (k := 0) F0, PySem.W.mg_of X G a0, k0, B0⟩
  have In : Cal l.prog w K mg base "is_name" 2 ["value"] spWordT f1 _ := ⟨ok_name (k := 0) F1 Iw m_isinstance m_str m_len (PySem.W.mg_of X G gLN), PySem.W.mg_of X G a1, k1, B1⟩
  have It : Cal l.prog w K mg base "is_team" 3 ["value"] (spTeam K) f2 _ := ⟨ok_team (k := 0) F2 In m_isinstance m_list m_tuple m_len m_all m_enumerate (PySem.W.mg_of X G gMO), PySem.W.mg_of X G a2, k2, B2⟩
  have Wd : Cal l.prog w K mg base "without_doubles" 1 ["names"] (spOnce K) f3 _ := ⟨ok_once (k := 0) F3 m_enumerate, PySem.W.mg_of X G a3, k3, B3⟩
  have Go : Cal l.prog w K mg base "groups_of" 1 ["persons", "size"] (spGrOf K) f4 _ := ⟨ok_grof (k := 0) F4 m_list (PySem.W.mg_of X G gCo), PySem.W.mg_of X G a4, k4, B4⟩
  have SI := ok_init (P := l.prog) (w := w) (mg := mg) (base := base) (k := 0) F5 TC nL nP It Wd m_len m_enumerate m_tuple (PySem.W.mg_of X G gMB) (PySem.W.mg_of X G gMP)
  have mPe : Meth K CStaff "persons" f6 := ⟨a6, i6, k6⟩
  have oPe := ok_persons (P := l.prog) (w := w) (mg := mg) (base := base) (k := 0) F6 TC nP m_list
  have Z : StaffFns l.prog w K mg base CStaff f7 f9 f8 _ _ _ := ⟨TC, ⟨a7, i7, k7⟩, ok_sole (k := 0) F7 TC nL m_enumerate m_all, B7, ⟨a9, i9, k9⟩, ok_safe (k := 0) F9 TC nL m_len m_all, B9, ⟨a8, i8, k8⟩,
    ok_groups (k := 0) F8 TC nP mPe oPe B6 Go.ok Go.g Go.kp Go.b m_min m_len m_range, ok_groupsF (k := 0) F8 TC nP mPe oPe B6 Go.ok Go.g Go.kp Go.b m_min m_len m_range, B8⟩
  have Ba : Cal l.prog w K mg base "_law_bag" 1 ["script"] (spBag K) f10 _ := ⟨ok_bag (k := 0) F10 m_int m_list m_len m_sum, PySem.W.mg_of X G a10, k10, B10⟩
  have D : Cal l.prog w K mg base "_law_pull" 1 ["bag", "many"] (spDrawC K) f11 _ := ⟨ok_pullC (k := 0) F11 m_int m_len m_abs, PySem.W.mg_of X G a11, k11, B11⟩
  have O : Cal l.prog w K mg base "_law_of" 2 ["bag", "some"] (spOfC K) f12 _ := ⟨ok_ofC (k := 0) F12 D m_len, PySem.W.mg_of X G a12, k12, B12⟩
  have OS : Cal l.prog w K mg base "_law_of" 2 ["bag", "some"] (spOfSC K) f12 _ := ⟨ok_ofSC (k := 0) F12 D m_len, PySem.W.mg_of X G a12, k12, B12⟩
  have Li : Cal l.prog w K mg base "_law_like" 3 ["found", "due"] (spLike K 2) f13 _ := ⟨ok_like F13 (PySem.W.mg_of X G a13) B13 m_isinstance m_list m_tuple m_bool m_str m_int m_len m_all m_zip 2, PySem.W.mg_of X G a13, k13, B13⟩
  have Na : Cal l.prog w K mg base "_law_names" 3 ["bag", "many"] (spNames K) f14 _ := ⟨ok_names (k := 0) F14 D O OS m_int m_range m_len, PySem.W.mg_of X G a14, k14, B14⟩
  have Sf : Cal l.prog w K mg base "_law_staff" 6 ["rows"] (spStaff K CStaff) f15 _ := ⟨ok_lstaff (k := 0) F15 MS SI (PySem.W.mg_of X G nStaff) m_len, PySem.W.mg_of X G a15, k15, B15⟩
  have Ov : Cal l.prog w K mg base "_law_over" 3 ["bag", "pool"] (spOver K) f16 _ := ⟨ok_over (k := 0) F16 D O m_list m_range m_len, PySem.W.mg_of X G a16, k16, B16⟩
  have Pe : Cal l.prog w K mg base "_law_persons" 1 ["rows"] (spLPers K) f17 _ := ⟨ok_lpers (k := 0) F17, PySem.W.mg_of X G a17, k17, B17⟩
  have Gr : Cal l.prog w K mg base "_law_groups" 1 ["persons", "most"] (spLGr K) f18 _ := ⟨ok_lgr (k := 0) F18 m_range m_len m_sorted m_tuple, PySem.W.mg_of X G a18, k18, B18⟩
  have So : Cal l.prog w K mg base "_law_sole" 1 ["rows", "group"] (spLSole K) f19 _ := ⟨ok_lsole (k := 0) F19 m_range m_len, PySem.W.mg_of X G a19, k19, B19⟩
  exact ok_law F20 Z Ba D O Li Na Sf Ov Pe Gr So m_range m_len m_list m_int m_all m_zip m_tuple
end My
open PySem PySem.W PyProof.Rows
set_option maxRecDepth 100000 in
set_option maxHeartbeats 0 in
theorem PySem.Challenge.cw_soleheld_k34_whole_groups_and_sole_held_holds : PySem.Challenge.rw_soleheld_k34_whole_groups_and_sole_held.Holds := by
  w_on; o_law; k_head; (case hw => w_witness2)
  k_fill
  refine L2.walk_of (l := PySem.Challenge.rw_soleheld_k34_whole_groups_and_sole_held) (n := 63) (k := 12) (x := "script") (CX := fun _ => L2.CX0) (sp := fun w => My.spLaw _) rfl (by decide) rfl ⟨rfl, by decide, by decide⟩ (fun w h Y => PySem.W.kIn_of Y) ?F (fun _ _ a ns hl _ hS => ⟨a, ns, rfl, hS, hl, fun _ => rfl⟩) (fun _ _ _ _ _ h => h)
  case F =>
    intro w mg fa h KX G hmg
    refine' My.all_mk KX G hmg ?nStaff ?a0 ?l0 ?c0 ?k0 ?a1 ?l1 ?c1 ?k1 ?a2 ?l2 ?c2 ?k2 ?a3 ?l3 ?c3 ?k3 ?a4 ?l4 ?c4 ?k4 ?a5 ?i5 ?l5 ?c5 ?k5 ?a6 ?i6 ?l6 ?c6 ?k6 ?a7 ?i7 ?l7 ?c7 ?k7 ?a8 ?i8 ?l8 ?c8 ?k8 ?a9 ?i9 ?l9 ?c9 ?k9 ?a10 ?l10 ?c10 ?k10 ?a11 ?l11 ?c11 ?k11 ?a12 ?l12 ?c12 ?k12 ?a13 ?l13 ?c13 ?k13 ?a14 ?l14 ?c14 ?k14 ?a15 ?l15 ?c15 ?k15 ?a16 ?l16 ?c16 ?k16 ?a17 ?l17 ?c17 ?k17 ?a18 ?l18 ?c18 ?k18 ?a19 ?l19 ?c19 ?k19 ?a20 ?l20 ?c20 ?k20 ?pgS ?hdS ?poS ?saS ?mkS ?kcS ?nL ?nP ?gLN ?gMO ?gMB ?gMP ?gCo ?b_int ?b_list ?b_len ?b_isinstance ?b_tuple ?b_bool ?b_str ?b_all ?b_zip ?b_range ?b_sum ?b_min ?b_sorted ?b_abs ?b_enumerate
    (case nStaff => k_is)
    (case a0 => k_is)
    (case l0 => k_is)
    (case c0 => k_is)
    (case k0 => k_is)
    (case a1 => k_is)
    (case l1 => k_is)
    (case c1 => k_is)
    (case k1 => k_is)
    (case a2 => k_is)
    (case l2 => k_is)
    (case c2 => k_is)
    (case k2 => k_is)
    (case a3 => k_is)
    (case l3 => k_is)
    (case c3 => k_is)
    (case k3 => k_is)
    (case a4 => k_is)
    (case l4 => k_is)
    (case c4 => k_is)
    (case k4 => k_is)
    (case a5 => k_is)
    (case i5 => k_is)
    (case l5 => k_is)
    (case c5 => k_is)
    (case k5 => k_is)
    (case a6 => k_is)
    (case i6 => k_is)
    (case l6 => k_is)
    (case c6 => k_is)
    (case k6 => k_is)
    (case a7 => k_is)
    (case i7 => k_is)
    (case l7 => k_is)
    (case c7 => k_is)
    (case k7 => k_is)
    (case a8 => k_is)
    (case i8 => k_is)
    (case l8 => k_is)
    (case c8 => k_is)
    (case k8 => k_is)
    (case a9 => k_is)
    (case i9 => k_is)
    (case l9 => k_is)
    (case c9 => k_is)
    (case k9 => k_is)
    (case a10 => k_is)
    (case l10 => k_is)
    (case c10 => k_is)
    (case k10 => k_is)
    (case a11 => k_is)
    (case l11 => k_is)
    (case c11 => k_is)
    (case k11 => k_is)
    (case a12 => k_is)
    (case l12 => k_is)
    (case c12 => k_is)
    (case k12 => k_is)
    (case a13 => k_is)
    (case l13 => k_is)
    (case c13 => k_is)
    (case k13 => k_is)
    (case a14 => k_is)
    (case l14 => k_is)
    (case c14 => k_is)
    (case k14 => k_is)
    (case a15 => k_is)
    (case l15 => k_is)
    (case c15 => k_is)
    (case k15 => k_is)
    (case a16 => k_is)
    (case l16 => k_is)
    (case c16 => k_is)
    (case k16 => k_is)
    (case a17 => k_is)
    (case l17 => k_is)
    (case c17 => k_is)
    (case k17 => k_is)
    (case a18 => k_is)
    (case l18 => k_is)
    (case c18 => k_is)
    (case k18 => k_is)
    (case a19 => k_is)
    (case l19 => k_is)
    (case c19 => k_is)
    (case k19 => k_is)
    (case a20 => k_is)
    (case l20 => k_is)
    (case c20 => k_is)
    (case k20 => k_is)
    (case pgS => k_is)
    (case hdS => k_is)
    (case poS => k_is)
    (case saS => k_is)
    (case mkS => k_is)
    (case kcS => k_is)
    (case nL => k_is)
    (case nP => k_is)
    (case gLN => k_is)
    (case gMO => k_is)
    (case gMB => k_is)
    (case gMP => k_is)
    (case gCo => k_is)
    (case b_int => k_is)
    (case b_list => k_is)
    (case b_len => k_is)
    (case b_isinstance => k_is)
    (case b_tuple => k_is)
    (case b_bool => k_is)
    (case b_str => k_is)
    (case b_all => k_is)
    (case b_zip => k_is)
    (case b_range => k_is)
    (case b_sum => k_is)
    (case b_min => k_is)
    (case b_sorted => k_is)
    (case b_abs => k_is)
    (case b_enumerate => k_is)
#print axioms PySem.Challenge.cw_soleheld_k34_whole_groups_and_sole_held_holds

