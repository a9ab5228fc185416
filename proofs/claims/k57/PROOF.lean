import PyProof.Rows.All
import Wide.All
import OpenK.AllK
import Wide.FinOn
import HandS.ForMost
import HandS.Lambda
import HandS.Nested
import HandS.NestedK
import HandS.EndTab
import HandS.HeadWalk
import HandS.Codes
import HandS.Style
import HandS.OwnEq
import KE.KRevSl
import PyProof.Rows.StrStep
import HandS.StrMore
import HandS.Wide
import HandS.Gcd
import HandS.IsInst
import HandS.Defaults
import HandS.Zip
import HandS.Walk
import HandS.Evl
import HandS.SortInts
import HandS.FStr
import HandS.RevRange
import HandS.TupAny
import PySem.Challenge.RW_soleheld_k57_whole_minutes_there_and_bac
import KE.IntTextLaws
import HandS.RaiseMore
import HandS.More
import HandS.Dict
import HandS.WrittenGet
import HandS.Deep
import PyProof.P3In
import KE.GoesNew
import KE.GoesEnumKw
import KE.GoesEnum
import HandS.List
import PyProof.SliceSyntax
import HandS.Rev
import PyProof.P3Eq
set_option Elab.async false
set_option linter.all false
set_option maxRecDepth 100000
/-! a lambda with a parameter and one captured name, that outlives its maker -/
namespace My
open PySem PySem.Spec PyProof.Rows L2 LamX NdefX
/-- the lambda at f -/
def LamO (f : Addr) (q : Str) (pr : Arguments) (bd : Expr) (sc : Scope) (cl : List (Str × Addr)) (c' : Addr) : HO :=
  .ext fun h => ∃ pm ctv : Value, h.get? f = some (PySem.W.kla_obj "<lambda>" q pr bd sc cl pm c' ctv)
/-- the cell at c holds v -/
def CellO (c : Addr) (v : V) : HO := .ext fun h => ∃ u, L2.RelV v u ∧ h.IsCell c (some u)
section
variable {X : Cx} {pins : List (Addr × Obj)} {σ : L2.St} {H : Hp} {s : Shared}
theorem inv_lam {q : Str} {pr : Arguments} {bd : Expr} {sc : Scope} {cl : List (Str × Addr)} {c' : Addr} {pm ctv : Value} {t' : Nat} (I : Inv X pins σ H s) :
    Inv X pins σ (upd H s.heap.objs.size (LamO s.heap.objs.size q pr bd sc cl c')) { s with heap := s.heap.push (PySem.W.kla_obj "<lambda>" q pr bd sc cl pm c' ctv), toks := t' } := by
  refine I.laid (a := s.heap.objs.size) (fun b u e => Heap.get?_push_of_some _ e) (Nat.le_refl _) ?_
  have e : (s.heap.push (PySem.W.kla_obj "<lambda>" q pr bd sc cl pm c' ctv)).get? s.heap.objs.size = some (PySem.W.kla_obj "<lambda>" q pr bd sc cl pm c' ctv) := Heap.get?_push_size _ rfl
  exact ⟨⟨_, _, e⟩, ⟨_, e⟩, fun h1 h2 ⟨p, t, z⟩ st => ⟨p, t, st _ z⟩⟩
theorem lam_make3 {c P : Addr} {params : Arguments} {body : Expr} {scope : Scope} {pos : Pos} {E : Value → Shared → Prop} {Q : Value → Shared → Prop} (I : Inv X pins σ H s) (TB : TabB X.base X.mg c P) (hcode : X.env.code = .ref c)
    (hT : TabS H P (X.env.qual ++ "<lambda>")) (hdef : defaultsOf params X.env = ([], [])) (hfree : ∀ y ∈ scope.names, y.2 = .free → ∃ c, X.env.cells.lookup y.1 = some c)
    (h : ∀ (f c' : Addr) (H1 : Hp) (s' : Shared), Inv X pins σ H1 s' → ExtN H H1 → TabS H1 P (X.env.qual ++ "<lambda>") → H f = none →
      H1 f = some (LamO f (X.env.qual ++ "<lambda>") params body scope (cloFrom X.env.cells scope.names []) c') → H1 c' = some (CodeO c' (X.env.qual ++ "<lambda>")) → Q (.ref f) s') :
    wpAny (model X.prog X.w) X.A (eval (.Lambda params body scope pos) X.env) Q E s := by
  obtain ⟨ps, hP, ht, ha⟩ := id hT
  refine PySem.W.kla_eval hdef ?_
  have bP : s.heap.BuiltinsAt X.mg P := TB.bm.keeps I.bk
  have hP' : s.heap.get? P = some { cls := .none, data := .fields ps } := I.hok P _ hP
  cases hc : codeAmong pos ps.toList with
  | none =>
    refine PySem.W.kla_makeFunction (mg := X.mg) (c := c) (P := P) (ps := ps) (closure_ok hfree) I.ok.glob (I.mod.glob.keeps I.bk) hcode (TB.code.keeps I.bk) hP' ht hc TB.gP bP fun c' ctv h' tk hx hge hlt hrec htb => ?_
    obtain ⟨c2, oc, vs, t, e2, hoc, hd, hv⟩ := hrec
    cases e2
    have nC : H c' = none := I.hok.fresh hge
    have I1 := inv_table (t' := tk) (more := #[rawInt pos.line, rawInt pos.col, .ref c']) (h' := h') I hP (fun b o hb e => hx b o hb e) htb hge ⟨oc, vs, t, hoc, hd, hv⟩
    have hE : ExtN H (upd (upd H P (.tbl (ps ++ #[rawInt pos.line, rawInt pos.col, .ref c']))) c' (CodeO c' (X.env.qual ++ "<lambda>"))) := fun b o e n => by
      rw [upd_ne (ne_of_none e nC), upd_ne (fun z => n ps (Option.some.inj (e.symm.trans (by rw [z]; exact hP))))]
      exact e
    have eL : (ps ++ #[rawInt pos.line, rawInt pos.col, .ref c']).toList = ps.toList ++ [rawInt pos.line, rawInt pos.col, .ref c'] := by simp
    have T1 : TabS (upd (upd H P (.tbl (ps ++ #[rawInt pos.line, rawInt pos.col, .ref c']))) c' (CodeO c' (X.env.qual ++ "<lambda>"))) P (X.env.qual ++ "<lambda>") := by
      refine ⟨_, by rw [upd_ne (ne_of_none hP nC), upd_same], by rw [eL]; exact PySem.TriplesOk_snoc _ _ _ _ ht, fun p' cv hcv => ?_⟩
      rw [eL] at hcv
      rcases among_app _ ht hcv with z | z
      · obtain ⟨c0, e1, e2⟩ := ha p' cv z
        exact ⟨c0, e1, hE _ _ e2 codeO_ne⟩
      · exact ⟨c', z, upd_same⟩
    have nF := I1.hok.fresh (Nat.le_refl _)
    have I2 := inv_lam (q := X.env.qual ++ "<lambda>") (pr := params) (bd := body) (sc := scope) (cl := cloFrom X.env.cells scope.names []) (c' := c') (pm := (X.mg "__name__").getD .none) (ctv := ctv) (t' := tk) I1
    refine h h'.objs.size c' _ _ I2 (fun b o e n => ?_) (T1.ext fun b o e => ?_) (I.hok.fresh (Nat.le_trans hge (Nat.le_of_lt hlt))) upd_same ?_
    · exact (upd_ne (ne_of_none (hE b o e n) nF)).trans (hE b o e n)
    · exact (upd_ne (ne_of_none e nF)).trans e
    · exact (upd_ne (Nat.ne_of_lt hlt)).trans upd_same
  | some cv =>
    obtain ⟨c', e, hco⟩ := ha pos cv hc
    subst e
    refine PySem.W.kla_makeFunctionHit (mg := X.mg) (c := c) (P := P) (ps := ps) (closure_ok hfree) I.ok.glob (I.mod.glob.keeps I.bk) hcode (TB.code.keeps I.bk) hP' ht hc bP fun ctv h' tk hx hsz => ?_
    have I1 : Inv X pins σ H { s with heap := h', toks := tk } := I.kept hx
    have nF : H h'.objs.size = none := I1.hok.fresh (Nat.le_refl _)
    have I2 := inv_lam (q := X.env.qual ++ "<lambda>") (pr := params) (bd := body) (sc := scope) (cl := cloFrom X.env.cells scope.names []) (c' := c') (pm := (X.mg "__name__").getD .none) (ctv := ctv) (t' := tk) I1
    refine h h'.objs.size c' _ _ I2 (fun b o e n => ?_) (hT.ext fun b o e => ?_) nF upd_same ?_
    · exact (upd_ne (ne_of_none e nF)).trans e
    · exact (upd_ne (ne_of_none e nF)).trans e
    · exact (upd_ne (ne_of_none hco nF)).trans hco
end
/-- the reading of a lambda -/
def tLamV (P : Addr) (q : Str) (mk : Addr → Addr → HO) : TE := fun _ H Q => TabS H P q ∧ ∀ f c' H1, ExtN H H1 → TabS H1 P q → H f = none → H1 f = some (mk f c') → H1 c' = some (CodeO c' q) → Q (.ref f) H1
theorem pe_lam {X : Cx} {c P : Addr} {params : Arguments} {body : Expr} {scope : Scope} {pos : Pos} (TB : TabB X.base X.mg c P) (hcode : X.env.code = .ref c)
    (hfree : ∀ y ∈ scope.names, y.2 = .free → X.env.scope.names.lookup y.1 = some .cell ∨ X.env.scope.names.lookup y.1 = some .free) (hdef : defaultsOf params X.env = ([], [])) :
    PE X (.Lambda params body scope pos) (tLamV P (X.env.qual ++ "<lambda>") fun f c' => LamO f (X.env.qual ++ "<lambda>") params body scope (cloFrom X.env.cells scope.names []) c') := by
  refine ⟨fun pins s σ H Q I h => ?_⟩
  obtain ⟨hT, h⟩ := h
  have hfr : ∀ y ∈ scope.names, y.2 = .free → ∃ c, X.env.cells.lookup y.1 = some c := fun y hy e => (hfree y hy e).elim (fun z => I.ok.has _ (.inl z)) fun z => I.ok.has _ (.inr z)
  exact lam_make3 I TB hcode hT hdef hfr fun f c' H1 s' I1 eN T1 f0 f1 c1 => ⟨.ref f, H1, I1, rfl, h f c' H1 eN T1 f0 f1 c1⟩
/-! ### statements whose return knows the slots -/
structure EndsR where
  nx : L2.St → Hp → Prop
  rt : L2.St → V → Hp → Prop
def SPR (X : Cx) (pins : List (Addr × Obj)) (D : EndsR) (f : Flow) (s' : Shared) : Prop :=
  match f with
  | .next => ∃ σ' H', Inv X pins σ' H' s' ∧ D.nx σ' H'
  | .ret u => ∃ v σ' H', Inv X pins σ' H' s' ∧ L2.RelV v u ∧ D.rt σ' v H'
  | _ => False
abbrev TSR := EndsR → L2.St → Hp → Prop
structure PRs (X : Cx) (st : List Stmt) (t : TSR) : Prop where
  run : ∀ (pins : List (Addr × Obj)) (s : Shared) (σ : L2.St) (H : Hp) (D : EndsR), Inv X pins σ H s → t D σ H → wpAny (model X.prog X.w) X.A (execs st X.env) (SPR X pins D) X.xe s
structure PR (X : Cx) (st : Stmt) (t : TSR) : Prop where
  run : ∀ (pins : List (Addr × Obj)) (s : Shared) (σ : L2.St) (H : Hp) (D : EndsR), Inv X pins σ H s → t D σ H → wpAny (model X.prog X.w) X.A (exec st X.env) (SPR X pins D) X.xe s
section
variable {X : Cx} {st : Stmt} {rest : List Stmt} {t u : TSR} {e : Expr} {te : TE} {pos : Pos}
def tOfS (t : TS) : TSR := fun D σ H => t { nx := D.nx, rt := fun _ _ => False } σ H
theorem pr_of {t : TS} (h : PS X st t) : PR X st (tOfS t) := by
  refine ⟨fun pins s σ H D I q => thn (h.run pins s σ H _ I q) fun f s' z => ?_⟩
  cases f with
  | next => exact z
  | ret v => obtain ⟨_, _, _, _, _, z⟩ := z; exact z.elim
  | brk => obtain ⟨_, _, _, z⟩ := z; exact z.elim
  | cont => obtain ⟨_, _, _, z⟩ := z; exact z.elim
def tRetR (te : TE) : TSR := fun D σ H => te σ H (D.rt σ)
theorem pr_ret (he : PE X e te) : PR X (.Return (some e) pos) (tRetR te) := by
  refine ⟨fun pins s σ H D I h => ?_⟩
  exact wpAny_Return_some (thn (he.run pins s σ H _ I h) fun v s1 ⟨x, H1, I1, r1, q1⟩ => ⟨x, σ, H1, I1, r1, q1⟩)
def tNilR : TSR := fun D σ H => D.nx σ H
theorem prs_nil : PRs X [] tNilR := ⟨fun _ _ σ H _ I h => wpAny_execs_nil ⟨σ, H, I, h⟩⟩
def tSeqR (t u : TSR) : TSR := fun D σ H => t { D with nx := u D } σ H
theorem prs_cons (h1 : PR X st t) (h2 : PRs X rest u) : PRs X (st :: rest) (tSeqR t u) := by
  refine ⟨fun pins s σ H D I h => ?_⟩
  refine wpAny_execs_cons (thn (h1.run pins s σ H { D with nx := u D } I h) fun f s1 q => ?_)
  cases f with
  | next =>
    obtain ⟨σ', H', I', q⟩ := q
    exact h2.run pins s1 σ' H' D I' q
  | ret v => exact q
  | brk => exact q
  | cont => exact q
theorem prs_one (h1 : PR X st t) : PRs X [st] t := by
  refine ⟨fun pins s σ H D I h => ?_⟩
  refine wpAny_execs_cons (thn (h1.run pins s σ H D I h) fun f s1 q => ?_)
  cases f with
  | next => exact wpAny_execs_nil q
  | ret v => exact q
  | brk => exact q
  | cont => exact q
def tIfR (c : TT) (t u : TSR) : TSR := fun D σ H => c σ H fun b H1 => if b = true then t D σ H1 else u D σ H1
theorem pr_if {c : Expr} {a b : List Stmt} {tc : TT} (hc : PT X c tc) (ha : PRs X a t) (hb : PRs X b u) : PR X (.If c a b pos) (tIfR tc t u) := by
  refine ⟨fun pins s σ H D I h => ?_⟩
  refine wpAny_If (thn (hc.run pins s σ H _ I h) fun d s1 ⟨H1, I1, q1⟩ => ?_)
  cases d with
  | true => exact ha.run pins s1 σ H1 D I1 q1
  | false => exact hb.run pins s1 σ H1 D I1 q1
end
/-- what a return wants: the end itself, or the end where the cell of the i-th name is known with its value -/
def RtR (X : Cx) (i : Nat) (nm : Str) (Q : VK) : L2.St → V → Hp → Prop := fun σ v H' => Q v H' ∨ ∃ kv c, σ[i]? = some (some kv) ∧ X.env.cells.lookup nm = some c ∧ (H' c = none → Q v (upd H' c (CellO c kv)))
/-- a def whose captured cell is known behind its return -/
theorem fn_ofR {CX : CXT} {P : Program} {w : World} {K : PySem.W.Frag} {mg : Str → Option Value} {base : Heap} {k : Nat} {f : Addr} {name qual : Str} {params : Arguments} {body : List Stmt} {scope : Scope} {dV kV doc pm cdv ct oc : Value} {an od : Option Addr}
    {osl : Array (Option Value)} {N ps : List Str} {sp : Sp} {i : Nat} {nm : Str} (hi : N[i]? = some nm) (hnm : scope.names.lookup nm = some .cell) (lk : K.lookup f = some ⟨oc, od, .func (PySem.W.fnOf name qual params body scope dV kV doc pm an cdv ct), osl⟩) (hcd : PySem.W.codeIn K cdv qual = true) (S : FnScope N ps scope)
    (len : ∀ vs H Q E, sp vs H Q E → vs.length = ps.length)
    (hbody : ∀ (A : Around) (outer : List Env) (s : Shared) (H : Hp) (vs : List V) (Q : VK) (E : XK), Room k (A.deeper (envOfC qual scope s.heap.objs.size f cdv)) → sp vs H Q E →
      ∃ t, PRs (cxOf CX P w K mg base N qual scope f cdv A outer s H E) body t ∧ t { nx := fun _ _ => False, rt := RtR (cxOf CX P w K mg base N qual scope f cdv A outer s H E) i nm Q } (L2.start N vs) H) :
    FnOk P w K mg base CX (k + 1) f (PySem.W.fnOf name qual params body scope dV kV doc pm an cdv ct) ps sp := by
  refine ⟨len, fun A outer s H args us vs Q E hr e0 hb r hsp => ?_⟩
  have hl := len _ _ _ _ hsp
  have KX : K.In s.heap := e0.mod.kin.keeps fun b o e => (e0.bs b o e).1
  have lim : s.heap.NoLimit := e0.mod.nolimit.keeps fun b o e => (e0.bs b o e).1
  have hkind : ∀ y ∈ ps.zip us, scope.names.lookup y.1 = some .local ∨ (scope.names.lookup y.1 = some .cell ∧ ((cellsFrom (s.heap.objs.size + 1) scope.names []).lookup y.1).isSome = true) := fun ⟨n, v⟩ hy => by
    rcases S.par n (List.of_mem_zip hy).1 with q | q
    · exact .inl q
    · exact .inr ⟨q, PySem.W.cellsFrom_some _ _ _ (.inl q)⟩
  refine codeAny_call_function hr.depth (KX _ _ lk) rfl S.co S.gen rfl (PySem.W.codeRec_of KX hcd) (hb _ _ _ _ ?_)
  refine wpAny_newFunctionEnv_cells S.kind hkind fun env he s1 x => ?_
  subst he
  refine ⟨lim.keeps x.toInCall.keep, codeAny_func ?_⟩
  obtain ⟨t, ht, hq⟩ := hbody A outer s H vs Q E (hr.deeper _) hsp
  have I : Inv (cxOf CX P w K mg base N qual scope f cdv A outer s H E) [] (L2.start N vs) H s1 := inv_start S hr.hd e0 hl r x
  refine wpAny_mono (ht.run [] s1 (L2.start N vs) H _ I hq) (fun fl s' hs => ?_) fun e s' hs => hs
  cases fl with
  | ret u =>
    obtain ⟨v, σ', H', J, rv, q⟩ := hs
    rcases q with q | ⟨kv, c, h1, h2, q⟩
    · exact ⟨v, H', J.os, J.bare, J.base, J.hok, rv, q⟩
    · have fc := J.freeC nm c h2
      obtain ⟨m, hn, hl'⟩ := J.loc
      obtain ⟨u', ru, lk'⟩ := hl' i nm kv hi h1 (.inr (.inl hnm))
      have hcell : s'.heap.IsCell c (some u') := by
        rcases lk' with ⟨z, _⟩ | ⟨_, c2, e2, hc⟩
        · have z' : scope.names.lookup nm = some .local := z
          rw [hnm] at z'
          cases z'
        · rw [h2] at e2
          cases e2
          exact hc
      have cab : s.heap.objs.size ≤ c := J.ok.cab nm c rfl h2
      have cnot : ∀ b o, s.heap.get? b = some o → b ≠ c := fun b o e z => by
        rw [z] at e
        exact Nat.lt_irrefl _ (Nat.lt_of_lt_of_le (Heap.lt_size e) cab)
      have un : Un (frs outer) [] H H' s.heap s'.heap := J.base
      have hok : HOk P w H' s'.heap := J.hok
      have cn : ∀ b u, H' b = some u → b ≠ c := fun b u e => ne_of_none e fc
      refine ⟨v, upd H' c (CellO c kv), J.os, J.bare, ⟨un.keep, un.slot, fun b o e n hx => ?_, un.there, fun b xs e => ?_, fun b o u e => ?_, fun b ps e => ?_⟩, fun b ob e => ?_, rv, q fc⟩
      · rw [upd_ne (cnot b o e)]
        exact un.free b o e n hx
      · rw [upd_ne (cn b _ (un.tups b xs e))]
        exact un.tups b xs e
      · rw [upd_ne (cn b _ (un.frzs b o u e))]
        exact un.frzs b o u e
      · obtain ⟨more, z⟩ := un.tbls b ps e
        exact ⟨more, by rw [upd_ne (cn b _ z)]; exact z⟩
      · by_cases hb : b = c
        · subst hb
          rw [upd_same] at e
          cases e
          obtain ⟨oc, hoc, hdc⟩ := id hcell
          exact ⟨⟨u', ru, hcell⟩, ⟨oc, hoc⟩, fun h1 h2 ⟨u2, r2, o2, e2, d2⟩ st => ⟨u2, r2, o2, st _ e2, d2⟩⟩
        · rw [upd_ne hb] at e
          exact (hok b ob e).stay (fun d w' _ q => q) (fun d q => by rw [upd_ne (cn d _ q)]; exact q) fun d xs q => by rw [upd_ne (cn d _ q)]; exact q
  | next =>
    obtain ⟨σ', H', J, q⟩ := hs
    exact q.elim
  | brk => exact (show False from hs).elim
  | cont => exact (show False from hs).elim
/-! ### the lambda called -/
/-- at f a lambda of these words whose one captured name k holds v -/
def LamAt (q : Str) (pr : Arguments) (bd : Expr) (sc : Scope) (nm : Str) (H : Hp) (f : Addr) (v : V) : Prop :=
  ∃ cl c c', H f = some (LamO f q pr bd sc cl c') ∧ cl.lookup nm = some c ∧ (∀ y a, cl.lookup y = some a → y = nm) ∧ H c = some (CellO c v) ∧ H c' = some (CodeO c' q)
theorem LamAt.ext {q : Str} {pr : Arguments} {bd : Expr} {sc : Scope} {nm : Str} {H H' : Hp} {f : Addr} {v : V} (h : LamAt q pr bd sc nm H f v) (e : ExtN H H') : LamAt q pr bd sc nm H' f v := by
  obtain ⟨cl, c, c', h1, h2, h3, h4, h5⟩ := h
  exact ⟨cl, c, c', e _ _ h1 (fun ps z => by unfold LamO at z; cases z), h2, h3, e _ _ h4 (fun ps z => by unfold CellO at z; cases z), e _ _ h5 codeO_ne⟩
theorem LamAt.same {q : Str} {pr : Arguments} {bd : Expr} {sc : Scope} {nm : Str} {H H' : Hp} {f : Addr} {v : V} (h : LamAt q pr bd sc nm H f v) (e : Same H H') : LamAt q pr bd sc nm H' f v := by
  obtain ⟨cl, c, c', h1, h2, h3, h4, h5⟩ := h
  exact ⟨cl, c, c', e _ _ h1, h2, h3, e _ _ h4, e _ _ h5⟩
section
variable {X : Cx} {q : Str} {pr : Arguments} {bd : Expr} {sc : Scope} {nm ar : Str}
theorem run_lam {pins : List (Addr × Obj)} {σ : L2.St} {H : Hp} {s : Shared} {f : Addr} {kv z : V} {u : Value} {k : Nat} {Q : VK} {tb : TE} (S : NScope [ar, nm] [ar] [nm] sc)
    (hbind : ∀ (cl : List (Str × Addr)) (pm cdv ct u : Value), bindArgs (PySem.W.kla_fn "<lambda>" q pr bd sc cl pm cdv ct) ⟨[u], []⟩ = pure [(ar, u)])
    (I : Inv X pins σ H s) (hr : Room (k + 1) X.A) (L : LamAt q pr bd sc nm H f kv) (rz : L2.RelV z u)
    (hbody : ∀ (F : NF) (A : Around) (outer : List Env) (s : Shared) (H : Hp), F.scope = sc → Room k (A.deeper (envF F f s.heap.objs.size)) → PE (ncx CX0 X.prog X.w X.K X.mg X.base [ar, nm] F f A outer s H E0) bd tb)
    (hq : ∀ H0, (∀ b o, H0 b = some o → H b = some o) → tb [some z, some kv] H0 (fun v H' => ∀ H2, (∀ b o, H b = some o → (H0 b = some o → H' b = some o) → H2 b = some o) → Q v H2)) :
    wpAny (model X.prog X.w) X.A (call (.ref f) [u]) (EP X pins σ Q) X.xe s := by
  obtain ⟨cl, c, c', h1, h2, h3, h4, h5⟩ := L
  obtain ⟨⟨pm, ctv, ho⟩, _, _⟩ := I.hok f _ h1
  obtain ⟨⟨uc, ruc, hcell⟩, _, _⟩ := I.hok c _ h4
  let F : NF := ⟨"<lambda>", q, pr, [], sc, cl, c'⟩
  let H0 : Hp := fun b => if b = c then none else H b
  have h0c : H0 c = none := if_pos rfl
  have h0n : ∀ b, b ≠ c → H0 b = H b := fun b n => if_neg n
  have h0s : ∀ b o, H0 b = some o → H b = some o := fun b o e => by
    by_cases hb : b = c
    · rw [hb, h0c] at e
      cases e
    · rw [h0n b hb] at e
      exact e
  have h0N : ∀ b, H b = none → H0 b = none := fun b e => by
    by_cases hb : b = c
    · rw [hb]
      exact h0c
    · rw [h0n b hb]
      exact e
  have e0 := I.env0
  have cO : ∀ b, (∃ y, H b = some (.own y)) ∨ (∃ xs, H b = some (.tup xs)) → b ≠ c := fun b hb z => by
    rw [z, h4] at hb
    rcases hb with ⟨y, e⟩ | ⟨y, e⟩
    · have e := Option.some.inj e
      unfold CellO at e
      cases e
    · have e := Option.some.inj e
      unfold CellO at e
      cases e
  have hok0 : HOk X.prog X.w H0 s.heap := fun b o e => (I.hok b o (h0s b o e)).stay (fun _ _ _ q => q) (fun d q => by rw [h0n d (cO d (.inl ⟨_, q⟩))]; exact q) fun d xs q => by rw [h0n d (cO d (.inr ⟨_, q⟩))]; exact q
  have e1 : Env0 X.prog X.w X.K X.mg X.base X.A X.stack s H0 := ⟨e0.frames, e0.mod, fun b o e => ⟨(e0.bs b o e).1, h0N b (e0.bs b o e).2⟩, e0.bsz, e0.funs, fun b hb => h0N b (e0.frf b hb), hok0, e0.bare⟩
  have lim : s.heap.NoLimit := I.nolimit
  have C : CellsAt F.cl [nm] [some kv] s.heap H0 := by
    refine ⟨rfl, fun y a e => ?_, fun x y a ex ey => (h3 x a ex).trans (h3 y a ey).symm, fun i y e => ?_⟩
    · have ey := h3 y a e
      rw [ey, h2] at e
      cases e
      exact ⟨h0c, _, hcell⟩
    · match i with
      | 0 =>
        have ey : nm = y := Option.some.inj e
        rw [← ey]
        exact ⟨c, h2, fun v ev => by
          have : kv = v := Option.some.inj (Option.some.inj ev)
          rw [← this]
          exact ⟨uc, ruc, hcell⟩⟩
      | i + 1 => cases e
  have rc : codeAny (model X.prog X.w) X.A (.call (.ref f) ⟨[u], []⟩) (CR CX0 X.stack X.prog X.w H0 s (fun v H' => ∀ H2, (∀ b o, H b = some o → (H0 b = some o → H' b = some o) → H2 b = some o) → Q v H2) E0) s := by
    refine PySem.W.kla_callFunE hr.depth ho rfl S.co S.gen rfl (codeO_at I.hok h5) ?_
    rw [hbind]
    refine wpAny_pure (wpAny_newFunctionEnv S.nocell (fun y hy => ?_) (fun h₁ hns hsb => ⟨lim.fresh _ hsb, ?_⟩) S.kind)
    · have : y = (ar, u) := List.mem_singleton.mp hy
      rw [this]
      exact S.par ar (List.mem_singleton.mpr rfl)
    show codeAny _ _ (.expr bd (envF F f s.heap.objs.size)) _ _
    have kp : ∀ b o, s.heap.get? b = some o → h₁.get? b = some o := fun b o e => hsb.extBut b o (Nat.ne_of_lt (Heap.lt_size e)) (Heap.get?_push_of_some _ e)
    have J : Inv (ncx CX0 X.prog X.w X.K X.mg X.base [ar, nm] F f X.A X.stack s H0 E0) [] (startF [ar, nm] [z] [some kv]) H0 { s with heap := h₁, toks := s.toks + ([(ar, u)] : List (Str × Value)).length } :=
      inv_startN (ps := [ar]) (fr := [nm]) S hr.hd e1 rfl (.cons rz .nil) C hns kp
    refine PySem.W.kla_codeExpr (wpAny_mono ((hbody F X.A X.stack s H0 rfl (hr.deeper _)).run [] _ _ H0 _ J (hq H0 h0s)) (fun v s' hv => ?_) fun e s' hv => hv)
    obtain ⟨w', H', J', rv, q'⟩ := hv
    exact ⟨w', H', J'.os, J'.bare, J'.base, J'.hok, rv, q'⟩
  refine wpAny_call (codeAny_mono rc fun r s' hv => ?_)
  cases r with
  | error e => exact (show False from hv).elim
  | ok fl =>
    cases fl with
    | ret u =>
      obtain ⟨v, H', os, bare, un, hok, rv, q'⟩ := hv
      obtain ⟨oc, hoc, hdc⟩ := id hcell
      have fc : H' c = none := un.free c oc hoc h0c (by simp)
      have nfr : c ∉ frs X.stack := fun hb => by
        have := I.stkFree c hb
        rw [h4] at this
        cases this
      have hoc' : s'.heap.get? c = some oc := un.keep c oc hoc h0c nfr (by simp)
      have cn : ∀ b o, H' b = some o → b ≠ c := fun b o e => ne_of_none e fc
      have nc : ∀ b, H b = none → b ≠ c := fun b e z => by rw [z, h4] at e; cases e
      have nt : ∀ b o, H b = some o → (∀ φ, o ≠ .ext φ) → b ≠ c := fun b o e n z => by
        rw [z, h4] at e
        have e := Option.some.inj e
        unfold CellO at e
        exact n _ e.symm
      have hok2 : HOk X.prog X.w (upd H' c (CellO c kv)) s'.heap := fun b ob e => by
        by_cases hb : b = c
        · subst hb
          rw [upd_same] at e
          cases e
          exact ⟨⟨uc, ruc, oc, hoc', hdc⟩, ⟨oc, hoc'⟩, fun h1 h2 ⟨u2, r2, o2, e2, d2⟩ st => ⟨u2, r2, o2, st _ e2, d2⟩⟩
        · rw [upd_ne hb] at e
          exact (hok b ob e).stay (fun d w' _ q => q) (fun d q => by rw [upd_ne (cn d _ q)]; exact q) fun d xs q => by rw [upd_ne (cn d _ q)]; exact q
      have un2 : Un (frs X.stack) [] H (upd H' c (CellO c kv)) s.heap s'.heap := by
        refine ⟨fun b o e n => un.keep b o e (h0N b n), fun b o e n => un.slot b o e (h0N b n), fun b o e n hx => ?_, un.there, fun b xs e => ?_, fun b o u e => ?_, fun b ps e => ?_⟩
        · rw [upd_ne (nc b n)]
          exact un.free b o e (h0N b n) hx
        · have := un.tups b xs (by rw [h0n b (nt b _ e (fun φ z => by cases z))]; exact e)
          rw [upd_ne (cn b _ this)]
          exact this
        · have := un.frzs b o u (by rw [h0n b (nt b _ e (fun φ z => by cases z))]; exact e)
          rw [upd_ne (cn b _ this)]
          exact this
        · obtain ⟨more, this⟩ := un.tbls b ps (by rw [h0n b (nt b _ e (fun φ z => by cases z))]; exact e)
          exact ⟨more, by rw [upd_ne (cn b _ this)]; exact this⟩
      refine I.after ⟨v, upd H' c (CellO c kv), os, bare, un2, hok2, rv, q' _ fun b o e h => ?_⟩
      by_cases hb : b = c
      · rw [hb, upd_same]
        rw [hb, h4] at e
        exact e
      · rw [upd_ne hb]
        exact h (by rw [h0n b hb]; exact e)
    | next => exact (show False from hv).elim
    | brk => exact (show False from hv).elim
    | cont => exact (show False from hv).elim
end
end My

set_option Elab.async false
set_option linter.all false
set_option maxRecDepth 100000
/-! rules that the hand layer has not -/
namespace My
open PySem PySem.Spec PyProof.Rows L2
/-! ### readings weakened, joined -/
section
variable {X : Cx} {e : Expr} {t t' : TE}
theorem PE.imp (h : PE X e t) (k : ∀ σ H Q, t' σ H Q → t σ H Q) : PE X e t' := ⟨fun pins s σ H Q I q => h.run pins s σ H Q I (k _ _ _ q)⟩
theorem pe_or (h : PE X e t) (h' : PE X e t') : PE X e (fun σ H Q => t σ H Q ∨ t' σ H Q) := ⟨fun pins s σ H Q I q => q.elim (fun q => h.run pins s σ H Q I q) fun q => h'.run pins s σ H Q I q⟩
end
/-! ### xs[a:b:k] of a list -/
theorem vals_pick {xs : List V} {us : List Value} (r : Vals xs us) : ∀ ix : List Nat, Vals (ix.filterMap (xs[·]?)) (ix.filterMap (us[·]?))
  | [] => .nil
  | i :: ix => by
    cases e : xs[i]? with
    | none =>
      have e2 := r.none_of e
      rw [List.filterMap_cons_none (f := (xs[·]?)) e, List.filterMap_cons_none (f := (us[·]?)) e2]
      exact vals_pick r ix
    | some x =>
      obtain ⟨u, hu, ru⟩ := r.get e
      rw [List.filterMap_cons_some (f := (xs[·]?)) e, List.filterMap_cons_some (f := (us[·]?)) hu]
      exact .cons ru (vals_pick r ix)
def stepIx (n : Nat) (lo hi st : Option Int) : List Nat := sliceRange (sliceBounds lo hi st n).1 (sliceBounds lo hi st n).2.1 (sliceBounds lo hi st n).2.2
def tStepL (K : PySem.W.Frag) (te : TE) (tl th ts : TO) : TE := fun σ H Q => te σ H fun x H1 => tl σ H1 fun lo H2 => th σ H2 fun hi H3 => ts σ H3 fun st H4 => ∃ a xs, x = .ref a ∧ SqL K H4 a xs ∧ st ≠ some 0 ∧ (stepIx xs.length lo hi st).length ≤ sizeLine ∧
  ∀ p, H4 p = none → Q (.ref p) (upd H4 p (.lst ((stepIx xs.length lo hi st).filterMap (xs[·]?))))
section
variable {X : Cx}
theorem pe_stepL {e b : Expr} {lo hi : Option Expr} {te : TE} {tl th ts : TO} {p3 pos : Pos} (he : PE X e te) (hl : PO X lo tl) (hh : PO X hi th) (hs : PO X (some b) ts)
    (hsub : ∀ l i : Addr, subscripted (.Slice lo hi (some b) p3) false (.ref l) (.ref i) = operate [.ref l, .ref i] (getItem (.ref l) (.ref i)) := by intro l i; with_unfolding_all rfl) :
    PE X (.Subscript e (.Slice lo hi (some b) p3) pos) (tStepL X.K te tl th ts) := by
  refine ⟨fun pins s σ H Q I h => ?_⟩
  refine Subscript_ (thn (he.run pins s σ H _ I h) fun v s1 ⟨x, H1, I1, r1, q1⟩ => ?_)
  refine wpAny_Slice (thn (hl.run pins s1 σ H1 _ I1 q1) fun vl s2 ⟨l, H2, I2, pl, q2⟩ => thn (hh.run pins s2 σ H2 _ I2 q2) fun vu s3 ⟨u, H3, I3, pu, q3⟩ => thn (hs.run pins s3 σ H3 _ I3 q3) fun vs s4 ⟨o, H4, I4, ps, q4⟩ => ?_)
  obtain ⟨a, xs, ex, hx, h0, hz2, q⟩ := q4
  subst ex
  cases r1
  have I5 : Inv X pins σ H4 { s4 with heap := s4.heap.push { cls := .type "slice", data := .fields #[vl, vu, vs] } } := I4.kept (t' := s4.toks) fun b ob q => Heap.get?_push_of_some _ q
  obtain ⟨its, r, ht, hz⟩ := I5.list hx
  have hlen := r.length
  show wpAny (model X.prog X.w) X.A (subscriptTail e (.Slice lo hi (some b) p3) (.ref a) (.ref s4.heap.objs.size)) (EP X pins σ Q) X.xe { s4 with heap := s4.heap.push { cls := .type "slice", data := .fields #[vl, vu, vs] } }
  refine tail_any (ops := [.ref a, .ref s4.heap.objs.size]) ht.isList.typeIs (PySem.slot_list_getitem.lookup) ?_ (hsub _ _)
  refine wpAny_getItem_list_slice ht.isList (Heap.IsSliceOf.new _ vl vu vs) pl pu ps h0 ?_ (by rw [List.size_toArray]; omega)
  have ep : slicePick its.toArray l u o = ((stepIx xs.length l u o).filterMap (its[·]?)).toArray := by
    unfold slicePick stepIx
    rw [List.size_toArray, ← hlen]
    congr 1
    congr 1
    funext i
    simp
  rw [ep]
  refine ⟨.ref _, _, I5.laid (t' := s4.toks) (o := .lst ((stepIx xs.length l u o).filterMap (xs[·]?))) (fun b ob q => Heap.get?_push_of_some _ q) (Nat.le_refl _) ?_, rfl, q _ (I5.hok.fresh (Nat.le_refl _))⟩
  exact ⟨Nat.le_trans (List.length_filterMap_le _ _) hz2, _, 0, vals_pick r _, Heap.get?_push_size _ rfl⟩
/-! ### s[::-1] of a text -/
def tRevS (te : TE) : TE := fun σ H Q => te σ H fun x H1 => ∃ l : List Nat, x = .str (SX.S l) ∧ l.length ≤ sizeLine ∧ Q (.str (SX.S l.reverse)) H1
theorem rev_pick (l : List Nat) (t : Tok) : Txt.sliceBy (SX.S l) none none (-1, t) = SX.S l.reverse := by
  unfold Txt.sliceBy
  have h1 : ((((some ((-1 : Int), t)).map (·.1)).getD 1 == 1 && (slicePicked (SX.S l) none none (some (-1, t))).length == (SX.S l).length) = true) = False := by simp
  rw [if_neg (by simp)]
  have e1 : slicePicked (SX.S l) none none (some (-1, t)) = (List.range l.length).map fun k => l.length - 1 - k := by
    unfold slicePicked Builtin.Str.strSliceIndices
    simp only [Option.map_none, Option.map_some, Option.getD_some]
    rw [if_neg (by decide), if_neg (by decide), SX.S_len]
    exact PySem.W.krv_sliceRange l.length
  rw [e1, PySem.W.krv_range, List.filterMap_reverse]
  have e2 := PySem.W.krv_all l.toArray
  rw [List.size_toArray] at e2
  show (⟨((List.range l.length).filterMap (l.toArray[·]?)).reverse.toArray⟩ : Str) = _
  rw [e2]
theorem pe_revS {e : Expr} {te : TE} {k : Nat} {p1 p2 p3 pos : Pos} (he : PE X e te) : PE X (.Subscript e (.Slice none none (some (.UnaryOp .USub (.Constant (.int 1) k p1) p2)) p3) pos) (tRevS te) := by
  refine ⟨fun pins s σ H Q I h => ?_⟩
  refine Subscript_ (thn (he.run pins s σ H _ I h) fun v s1 ⟨x, H1, I1, r1, q1⟩ => ?_)
  obtain ⟨z, ex, hz, q⟩ := q1
  subst ex
  obtain ⟨t, rfl⟩ := r1
  have hst : PO X (some (.UnaryOp .USub (.Constant (.int 1) k p1) p2)) (tPart (tUn (rU fun i => .int (-i)) (tC (.int 1)))) := po_some (pe_un un_neg pe_int)
  refine wpAny_Slice (thn (po_none.run pins s1 σ H1 (fun o H2 => o = none ∧ H2 = H1) I1 ⟨rfl, rfl⟩) fun vl s2 ⟨l, H2, I2, pl, el, e2⟩ => ?_)
  subst el e2
  refine thn (po_none.run pins s2 σ H2 (fun o H3 => o = none ∧ H3 = H2) I2 ⟨rfl, rfl⟩) fun vu s3 ⟨u, H3, I3, pu, eu, e3⟩ => ?_
  subst eu e3
  refine thn (hst.run pins s3 σ H3 (fun o H4 => o = some (-1) ∧ H4 = H3) I3 ⟨1, rfl, -1, rfl, rfl, rfl⟩) fun vs s4 ⟨o, H4, I4, ps, eo, e4⟩ => ?_
  subst eo e4
  cases pl
  cases pu
  cases ps with
  | int i t2 =>
  have I5 : Inv X pins σ H4 { s4 with heap := s4.heap.push { cls := .type "slice", data := .fields #[.none, .none, .int (-1) t2] } } := I4.kept (t' := s4.toks) fun b ob q => Heap.get?_push_of_some _ q
  show wpAny (model X.prog X.w) X.A (subscriptTail e (.Slice none none (some (.UnaryOp .USub (.Constant (.int 1) k p1) p2)) p3) (.str (SX.S z) t) (.ref s4.heap.objs.size)) (EP X pins σ Q) X.xe { s4 with heap := s4.heap.push { cls := .type "slice", data := .fields #[.none, .none, .int (-1) t2] } }
  refine tail_any (ops := [.ref s4.heap.objs.size, .str (SX.S z) t]) (T := "str") (PySem.typeIs_str _ _ _) PySem.F.slot_str_getitem.lookup ?_ (by with_unfolding_all rfl)
  refine wpAny_getItem_str_slice (l := none) (u := none) (st := some (-1, t2)) ⟨_, Heap.get?_push_size _ rfl, rfl, rfl⟩ rfl ?_
  refine post_val_or_str ⟨?_, fun t' c => ?_⟩
  · exact Nat.le_trans (Txt.sliceBy_le (SX.S z) none none (-1, t2) (by show (-1 : Int) ≠ 0; decide)) (by rw [SX.S_len]; exact hz)
  · have e := rev_pick z t2
    unfold Txt.sliceBy at e
    rw [e]
    exact ⟨.str (SX.S z.reverse), H4, I5.tok c, ⟨_, rfl⟩, q⟩
/-! ### == by an own __eq__, both answers -/
def rEqOwn (C : Addr) (sp : Sp) : R2 := fun x y H Q => ∃ a b dx dy fs gs, x = .ref a ∧ y = .ref b ∧ H a = some (.ins C dx fs) ∧ H b = some (.ins C dy gs) ∧ sp [x, y] H Q E0
theorem op_eqOwn {C f : Addr} {fd : FuncData} {ps : List Str} {n : Nat} {sp : Sp} (F : FnOk X.prog X.w X.K X.mg X.base CX0 n f fd ps sp)
    (hs : PySem.W.findIn X.K (.ref C) "__eq__" = some (some (.ref f))) (hf : PySem.W.isFn X.K (.ref f) = true) (hb : Binds X.K fd ps []) (hr : Room n X.A) : OpR X (compareOp .Eq) (rEqOwn C sp) := by
  intro pins s σ H x y u v Q I rx ry d
  obtain ⟨a, b, dx, dy, fs, gs, rfl, rfl, ha, hb', hsp⟩ := d
  cases rx
  cases ry
  show wpAny (model X.prog X.w) X.A (richCompare .Eq (.ref a) (.ref b)) (EP X pins σ Q) X.xe s
  obtain ⟨mA, J, _⟩ := ins_get I.hok ha
  obtain ⟨mB, J', _⟩ := ins_get I.hok hb'
  obtain ⟨od, J, _⟩ := J.look
  obtain ⟨od', J', _⟩ := J'.look
  obtain ⟨m, hF⟩ := I.fr
  refine PySem.W.cmp_K (op := .Eq) (tb := .ref C) hr.units0 hF I.ok.mod.kin J J'.type (by simp [PySem.W.notFirst]) hs hf ?_
  have hl := F.len _ _ _ _ hsp
  have r2 : Vals [V.ref a, V.ref b] [Value.ref a, Value.ref b] := .cons rfl (.cons rfl .nil)
  refine wpAny_call (codeAny_mono (F.run X.A X.stack s H ⟨[.ref a, .ref b], []⟩ [.ref a, .ref b] [.ref a, .ref b] _ E0 hr I.env0 (by
    have := hb s [.ref a, .ref b] I.kIn (by simpa using hl)
    simpa using this) r2 hsp) fun r s' hq => ?_)
  cases r with
  | error e => exact (show False from hq).elim
  | ok fl =>
    cases fl with
    | ret w =>
      obtain ⟨v, H', I', rv, q⟩ := I.after hq
      show PySem.W.CmpBack (EP X pins σ Q) w s'
      have g : EP X pins σ Q w s' := ⟨v, H', I', rv, q⟩
      cases v with
      | non => cases rv; exact g
      | bl b => cases rv; exact g
      | int i => obtain ⟨t, rfl⟩ := rv; exact g
      | str i => obtain ⟨t, rfl⟩ := rv; exact g
      | byt i => obtain ⟨t, rfl⟩ := rv; exact g
      | flt i => obtain ⟨t, rfl⟩ := rv; exact g
      | ref i => cases rv; exact g
      | ty i => cases rv; exact g
    | next => exact False.elim hq
    | brk => exact False.elim hq
    | cont => exact False.elim hq
/-! ### C() of a class without __init__ -/
def tMake00 (C : Addr) : TE := fun _ H Q => ∀ x dx, H x = none → H dx = none → dx ≠ x → Q (.ref x) (upd (upd H dx (.own x)) x (.ins C dx []))
theorem pe_make00 {C : Addr} {x : Str} {p pos : Pos} (hm1 : PySem.W.makesIn X.K C = true) (hi : PySem.W.findIn X.K (.ref C) "__init__" = some (some (.builtin "object.__init__"))) (hk : PySem.W.keepIn X.K (.ref C) = true) (hg : Gl X x) (hm : X.mg x = some (.ref C))
    (hdb : (x == ("__debug__" : Str)) = false := by decide) : PE X (.Call (.Name x p) [] [] pos) (tMake00 C) := by
  refine ⟨fun pins s σ H Q I h => ?_⟩
  refine wpAny_Call_Name_kw (ld_glob I hg hm ?_ hdb)
  refine PySem.W.callWith_K0 I.kIn hk ?_
  have q := h (s.heap.objs.size + 1) s.heap.objs.size (I.hok.fresh (Nat.le_succ _)) (I.hok.fresh (Nat.le_refl _)) (Nat.ne_of_lt (Nat.lt_succ_self _))
  have I2 := Inv.made (C := C) I
  refine wpAny_call (make_map0 I.kIn hm1 hi (fun self => PySem.W.Looks.of_pure (PySem.W.oi_bind self)) ?_)
  have Y := PySem.W.makes_of (M := model X.prog X.w) I.kIn hm1
  have hx : ((s.heap.push PySem.W.emptyDict).push (PySem.W.instObj C s.heap.objs.size)).get? (s.heap.objs.size + 1) = some (PySem.W.instObj C s.heap.objs.size) := by
    have := Heap.get?_push_size (s.heap.push PySem.W.emptyDict) (o := PySem.W.instObj C s.heap.objs.size) rfl
    rwa [Heap.size_push] at this
  have t1 : PySem.W.Looks (model X.prog X.w) ((s.heap.push PySem.W.emptyDict).push (PySem.W.instObj C s.heap.objs.size)) (typeOf (.ref (s.heap.objs.size + 1))) (.ref C) := (PySem.W.Looks.ld hx).andThen .now
  have t2 : PySem.W.Looks (model X.prog X.w) ((s.heap.push PySem.W.emptyDict).push (PySem.W.instObj C s.heap.objs.size)) (isInstance (.ref (s.heap.objs.size + 1)) (.type "object")) true := t1.andThen (Y.top.keeps fun b o e => Heap.get?_push_of_some _ (Heap.get?_push_of_some _ e))
  refine codeAny_call_builtin PySem.W.oi_plain PySem.W.entry_oi (@PySem.W.check_slot (model X.prog X.w) _ _ _ "object.__init__" "object" "__init__" (.ref (s.heap.objs.size + 1)) [] [] _ PySem.W.oi_kind PySem.W.oi_split t2 (PySem.W.oi_args (.ref (s.heap.objs.size + 1))) ?_)
  rw [PySem.W.oi_run]
  exact wpAny_pure (And.intro rfl ⟨.ref (s.heap.objs.size + 1), _, I2, rfl, q⟩)
end
end My

set_option Elab.async false
set_option linter.all false
set_option maxRecDepth 100000
namespace My
open PySem PySem.Spec PyProof.Rows L2 SX
open PySem.NumText (AllDigits digitsVal)
/-! ### digits -/
/-- the last k digits of n -/
def dk : Nat → Nat → List Nat
  | 0, _ => []
  | k + 1, n => dk k (n / 10) ++ [48 + n % 10]
theorem dk_len : ∀ k n, (dk k n).length = k
  | 0, _ => rfl
  | k + 1, n => by rw [dk, List.length_append, dk_len k]; rfl
theorem numL_dk : ∀ (k n : Nat), 10 ^ k ≤ n → TL.numL n = TL.numL (n / 10 ^ k) ++ dk k n
  | 0, n, _ => by rw [Nat.pow_zero, Nat.div_one, dk, List.append_nil]
  | k + 1, n, h => by
    have p : 0 < 10 ^ k := Nat.pow_pos (by decide)
    have h1 : 10 ^ k * 10 ≤ n := by rw [← Nat.pow_succ]; exact h
    have h10 : 10 ≤ n := Nat.le_trans (by omega) h1
    rw [TL.numL_step h10, numL_dk k (n / 10) (by rw [Nat.le_div_iff_mul_le (by decide)]; exact h1), dk, Nat.div_div_eq_div_mul, Nat.pow_succ, Nat.mul_comm 10, List.append_assoc]
theorem dk_mod : ∀ (k n : Nat), dk k n = dk k (n % 10 ^ k)
  | 0, n => rfl
  | k + 1, n => by
    have e1 : n % 10 ^ (k + 1) % 10 = n % 10 := by
      rw [Nat.pow_succ, Nat.mod_mul_left_mod]
    have e2 : n % 10 ^ (k + 1) / 10 = n / 10 % 10 ^ k := by
      rw [Nat.pow_succ, Nat.mul_comm, Nat.mod_mul_right_div_self]
    rw [dk, dk, e1, e2, dk_mod k (n / 10)]
theorem dk_pad : ∀ (k n : Nat), n < 10 ^ (k + 1) → dk (k + 1) n = List.replicate (k + 1 - (TL.numL n).length) 48 ++ TL.numL n := by
  intro k
  induction k with
  | zero =>
    intro n h
    have h' : n < 10 := h
    rw [TL.numL_lt h']
    show dk 0 (n / 10) ++ [48 + n % 10] = _
    rw [Nat.mod_eq_of_lt h']
    rfl
  | succ k ih =>
    intro n h
    by_cases h10 : n < 10
    · rw [dk, ih (n / 10) (by rw [Nat.div_eq_of_lt h10]; exact Nat.pow_pos (by decide)), Nat.div_eq_of_lt h10, TL.numL_lt h10, TL.numL_lt (by decide : 0 < 10), Nat.mod_eq_of_lt h10]
      show List.replicate k 48 ++ [48] ++ [48 + n] = List.replicate (k + 1) 48 ++ [48 + n]
      rw [← List.replicate_succ']
    · rw [dk, ih (n / 10) (by rw [Nat.div_lt_iff_lt_mul (by decide), ← Nat.pow_succ]; exact h), TL.numL_step (n := n) (by omega), List.length_append, List.append_assoc]
      have e : k + 1 - (TL.numL (n / 10)).length = k + 1 + 1 - ((TL.numL (n / 10)).length + [48 + n % 10].length) := by
        show _ = k + 1 + 1 - ((TL.numL (n / 10)).length + 1)
        omega
      rw [e]
/-- digits that write a number as Python does -/
structure Can (l : List Nat) : Prop where
  ne : l ≠ []
  dg : AllDigits l
  z : l.head? = some 48 → l = [48]
theorem digitsVal_snoc (l : List Nat) (c : Nat) : digitsVal (l ++ [c]) = digitsVal l * 10 + (c - 48) := by
  unfold digitsVal
  rw [List.foldl_append]
  rfl
theorem fold_lt : ∀ (l : List Nat) (a : Nat), AllDigits l → l.foldl (fun acc c => acc * 10 + (c - 48)) a < (a + 1) * 10 ^ l.length
  | [], a, _ => by show a < (a + 1) * 1; omega
  | c :: l, a, h => by
    have h2 := h.head
    have h1 := fold_lt l (a * 10 + (c - 48)) h.tail
    rw [List.foldl_cons, List.length_cons, Nat.pow_succ]
    refine Nat.lt_of_lt_of_le h1 ?_
    have e : (a + 1) * (10 ^ l.length * 10) = ((a + 1) * 10) * 10 ^ l.length := by
      rw [Nat.mul_comm (10 ^ l.length), Nat.mul_assoc]
    rw [e]
    exact Nat.mul_le_mul_right _ (by omega)
theorem val_lt {l : List Nat} (h : AllDigits l) : digitsVal l < 10 ^ l.length := by
  have := fold_lt l 0 h
  rw [Nat.zero_add, Nat.one_mul] at this
  exact this
theorem fold_ge : ∀ (l : List Nat) (a : Nat), a ≤ l.foldl (fun acc c => acc * 10 + (c - 48)) a
  | [], a => Nat.le_refl a
  | c :: l, a => by
    have h1 := fold_ge l (a * 10 + (c - 48))
    rw [List.foldl_cons]
    omega
theorem val_pos {l : List Nat} (h : AllDigits l) (h0 : l ≠ []) (h1 : l.head? ≠ some 48) : 0 < digitsVal l := by
  cases l with
  | nil => exact absurd rfl h0
  | cons c l =>
    have h2 := h.head
    have h3 : c ≠ 48 := fun e => h1 (by rw [e]; rfl)
    have h4 := fold_ge l (0 * 10 + (c - 48))
    show 0 < l.foldl (fun acc c => acc * 10 + (c - 48)) (0 * 10 + (c - 48))
    omega
theorem numL_val' : ∀ (k : Nat) (l : List Nat), l.length = k → Can l → TL.numL (digitsVal l) = l := by
  intro k
  induction k with
  | zero => exact fun l h C => absurd (List.length_eq_zero_iff.mp h) C.ne
  | succ k ih =>
    intro l hl C
    obtain ⟨p, c, rfl⟩ : ∃ p c, l = p ++ [c] := ⟨l.dropLast, l.getLast C.ne, (List.dropLast_concat_getLast C.ne).symm⟩
    have hc := C.dg c (by simp)
    rw [digitsVal_snoc]
    by_cases hp : p = []
    · subst hp
      show TL.numL (0 * 10 + (c - 48)) = [c]
      rw [TL.numL_lt (by omega)]
      have : 48 + (0 * 10 + (c - 48)) = c := by omega
      rw [this]
    · have hh : (p ++ [c]).head? = p.head? := by
        cases p with
        | nil => exact absurd rfl hp
        | cons a p => rfl
      have h1 : p.head? ≠ some 48 := fun e => by
        have := C.z (hh.trans e)
        have l2 := congrArg List.length this
        rw [List.length_append] at l2
        exact hp (List.length_eq_zero_iff.mp (by simpa using l2))
      have dp : AllDigits p := fun d hd => C.dg d (List.mem_append.mpr (.inl hd))
      have h2 := val_pos dp hp h1
      have e := ih p (by rw [List.length_append] at hl; exact Nat.succ.inj hl) ⟨hp, dp, fun e => absurd e h1⟩
      rw [TL.numL_step (by omega)]
      have e1 : (digitsVal p * 10 + (c - 48)) / 10 = digitsVal p := by omega
      have e2 : 48 + (digitsVal p * 10 + (c - 48)) % 10 = c := by omega
      rw [e1, e2, e]
theorem Can.num {l : List Nat} (C : Can l) : TL.numL (digitsVal l) = l := numL_val' _ l rfl C
theorem can_num (n : Nat) : Can (TL.numL n) := by
  refine ⟨TL.numL_ne n, TL.numL_digits n, ?_⟩
  induction n using Nat.strongRecOn with
  | _ n ih =>
    intro h
    by_cases h10 : n < 10
    · rw [TL.numL_lt h10] at h ⊢
      have : 48 + n = 48 := Option.some.inj h
      rw [this]
    · rw [TL.numL_step (by omega)] at h
      have hh : (TL.numL (n / 10) ++ [48 + n % 10]).head? = (TL.numL (n / 10)).head? := by
        cases e : TL.numL (n / 10) with
        | nil => exact absurd e (TL.numL_ne _)
        | cons a p => rfl
      have := ih (n / 10) (by omega) (hh.symm.trans h)
      have z := TL.numL_inj (this.trans (TL.numL_lt (by decide : 0 < 10)).symm)
      omega
theorem num_short {n : Nat} : (TL.numL n).length ≤ 200 ↔ n < 10 ^ 200 := by
  constructor
  · intro h
    have := val_lt (TL.numL_digits n)
    rw [TL.numL_val] at this
    exact Nat.lt_of_lt_of_le this (Nat.pow_le_pow_right (by decide) h)
  · exact fun h => TL.numL_len (by decide) h
/-! ### the text of a worth -/
def sgn (x : Int) : List Nat := if x < 0 then [45] else []
def ntx (x : Int) : List Nat := sgn x ++ TL.numL x.natAbs
def wtx (x y : Int) : List Nat := if y = 1 then ntx x else ntx x ++ 47 :: ntx y
theorem int_text (x : Int) : Str.ofString (toString x) = S (ntx x) := by
  by_cases h : x < 0
  · obtain ⟨n, rfl⟩ : ∃ n : Nat, x = Int.negSucc n := ⟨(-x - 1).toNat, by omega⟩
    unfold ntx sgn
    rw [if_pos h]
    have e : toString (Int.negSucc n) = "-" ++ toString (((n + 1 : Nat) : Int)) := rfl
    rw [e]
    refine TL.ext_tl ?_
    have h1 : TL.tl (Str.ofString ("-" ++ toString (((n + 1 : Nat) : Int)))) = [45] ++ TL.tl (Str.ofString (toString (((n + 1 : Nat) : Int)))) := by
      unfold TL.tl
      rw [Str.ofString_eq_toList, Str.ofString_eq_toList]
      simp
    rw [h1, TL.tl_num]
    rfl
  · obtain ⟨n, rfl⟩ := Int.eq_ofNat_of_zero_le (by omega : 0 ≤ x)
    unfold ntx sgn
    rw [if_neg h]
    exact num_S n
/-- l without a minus ahead -/
def un (l : List Nat) : List Nat := if l.head? = some 45 then l.tail else l
theorem un_ntx (x : Int) (r : List Nat) : un (ntx x ++ r) = TL.numL x.natAbs ++ r := by
  unfold ntx sgn un
  split
  · simp
  · have h : (([] ++ TL.numL x.natAbs) ++ r).head? ≠ some 45 := by
      rw [List.nil_append]
      cases e : TL.numL x.natAbs with
      | nil => exact absurd e (TL.numL_ne _)
      | cons a p =>
        intro z
        have : a = 45 := Option.some.inj z
        have := TL.numL_digits x.natAbs a (by rw [e]; simp)
        omega
    rw [if_neg h, List.nil_append]
theorem head_ntx (x : Int) (r : List Nat) : (ntx x ++ r).head? = some 45 ↔ x < 0 := by
  unfold ntx sgn
  split
  · rename_i h
    exact ⟨fun _ => h, fun _ => rfl⟩
  · rename_i h
    refine ⟨fun z => ?_, fun z => absurd z h⟩
    rw [List.nil_append] at z
    cases e : TL.numL x.natAbs with
    | nil => exact absurd e (TL.numL_ne _)
    | cons a p =>
      rw [e] at z
      have : a = 45 := Option.some.inj z
      have := TL.numL_digits x.natAbs a (by rw [e]; simp)
      omega

/-- l is the text of the worth x / y -/
structure IsT (l : List Nat) (x y : Int) : Prop where
  pos : 1 ≤ y
  low : Nat.gcd x.natAbs y.natAbs = 1
  bx : x.natAbs < 10 ^ 200
  bY : y.natAbs < 10 ^ 200
  eq : l = wtx x y
/-- the two numbers of a text without its minus -/
def cutp (l : List Nat) : List Nat × List Nat := match TL.par [47] [] l with
  | some r => r
  | none => (l, [49])
theorem ntx_pos {y : Int} (h : 1 ≤ y) : ntx y = TL.numL y.natAbs := by
  unfold ntx sgn
  rw [if_neg (by omega), List.nil_append]
theorem unE0 {l : List Nat} {x y : Int} (pos : 1 ≤ y) (eq : l = wtx x y) : un l = if y = 1 then TL.numL x.natAbs else TL.numL x.natAbs ++ 47 :: TL.numL y.natAbs := by
  rw [eq]
  unfold wtx
  split
  · have := un_ntx x []
    rw [List.append_nil, List.append_nil] at this
    exact this
  · rw [ntx_pos pos]
    exact un_ntx x _
theorem head0 {l : List Nat} {x y : Int} (eq : l = wtx x y) : l.head? = some 45 ↔ x < 0 := by
  rw [eq]
  unfold wtx
  split
  · have := head_ntx x []
    rw [List.append_nil] at this
    exact this
  · exact head_ntx x _
theorem cut0 {l : List Nat} {x y : Int} (pos : 1 ≤ y) (eq : l = wtx x y) : cutp (un l) = (TL.numL x.natAbs, TL.numL y.natAbs) := by
  have fr : 47 ∉ TL.numL x.natAbs := TL.numL_free (by decide)
  rw [unE0 pos eq]
  unfold cutp
  by_cases h : y = 1
  · rw [if_pos h, par_head_none fr, h]
    rfl
  · rw [if_neg h, show TL.numL x.natAbs ++ 47 :: TL.numL y.natAbs = TL.numL x.natAbs ++ ([47] ++ TL.numL y.natAbs) from rfl, par_head _ fr]
theorem wtx_inj {x y x' y' : Int} (p : 1 ≤ y) (p' : 1 ≤ y') (eq : wtx x y = wtx x' y') : x = x' ∧ y = y' := by
  have e := (cut0 p rfl).symm.trans (cut0 p' eq)
  have e1 := TL.numL_inj (congrArg Prod.fst e)
  have e2 := TL.numL_inj (congrArg Prod.snd e)
  have h := head0 (l := wtx x y) rfl
  have h' := head0 eq
  constructor
  · by_cases hx : x < 0
    · have := h'.mp (h.mpr hx)
      omega
    · have : ¬ x' < 0 := fun z => hx (h.mp (h'.mpr z))
      omega
  · omega
theorem IsT.unE {l : List Nat} {x y : Int} (T : IsT l x y) : un l = if y = 1 then TL.numL x.natAbs else TL.numL x.natAbs ++ 47 :: TL.numL y.natAbs := unE0 T.pos T.eq
theorem IsT.head {l : List Nat} {x y : Int} (T : IsT l x y) : l.head? = some 45 ↔ x < 0 := head0 T.eq
theorem IsT.cut {l : List Nat} {x y : Int} (T : IsT l x y) : cutp (un l) = (TL.numL x.natAbs, TL.numL y.natAbs) := cut0 T.pos T.eq
theorem IsT.uniq {l : List Nat} {x y x' y' : Int} (T : IsT l x y) (T' : IsT l x' y') : x = x' ∧ y = y' := wtx_inj T.pos T'.pos (T.eq.symm.trans T'.eq)
/-- the parts between the strokes -/
abbrev cuts (l : List Nat) : List (List Nat) := TL.spl [47] 0 [] l
theorem cuts_one {l : List Nat} (h : 47 ∉ l) : cuts l = [l] := by
  show TL.spl [47] 0 [] l = [l]
  rw [TL.spl_last1 h, List.nil_append]
theorem cuts_two {p q : List Nat} (h : 47 ∉ p) : cuts (p ++ 47 :: q) = p :: cuts q := by
  show TL.spl [47] 0 [] (p ++ ([47] ++ q)) = _
  rw [TL.spl_part1 h, List.nil_append]
theorem cuts_cases (l : List Nat) : (47 ∉ l ∧ cuts l = [l]) ∨ ∃ p q, l = p ++ 47 :: q ∧ 47 ∉ p ∧ cuts l = p :: cuts q := by
  by_cases h : 47 ∈ l
  · obtain ⟨p, q, e, hp⟩ := List.eq_append_cons_of_mem h
    exact .inr ⟨p, q, e, hp, by rw [e, cuts_two hp]⟩
  · exact .inl ⟨h, cuts_one h⟩
theorem cuts_ne (l : List Nat) : cuts l ≠ [] := by
  rcases cuts_cases l with ⟨_, e⟩ | ⟨_, _, _, _, e⟩ <;> rw [e] <;> simp
theorem IsT.cutsE {l : List Nat} {x y : Int} (T : IsT l x y) : cuts (un l) = if y = 1 then [TL.numL x.natAbs] else [TL.numL x.natAbs, TL.numL y.natAbs] := by
  have fr : ∀ n, 47 ∉ TL.numL n := fun n => TL.numL_free (by decide)
  rw [T.unE]
  split
  · exact cuts_one (fr _)
  · rw [cuts_two (fr _), cuts_one (fr _)]
/-- a part that the law lets through -/
def Ok (l : List Nat) : Prop := Can l ∧ l.length ≤ 200
theorem Ok.num {n : Nat} (h : n < 10 ^ 200) : Ok (TL.numL n) := ⟨can_num n, num_short.mpr h⟩
theorem Ok.lt {l : List Nat} (h : Ok l) : digitsVal l < 10 ^ 200 := Nat.lt_of_lt_of_le (val_lt h.1.dg) (Nat.pow_le_pow_right (by decide) h.2)
theorem IsT.ok {l : List Nat} {x y : Int} (T : IsT l x y) : ∀ p ∈ cuts (un l), Ok p := by
  rw [T.cutsE]
  intro p hp
  split at hp
  · rw [List.mem_singleton.mp hp]
    exact .num T.bx
  · rcases List.mem_cons.mp hp with e | hp
    · rw [e]; exact .num T.bx
    · rw [List.mem_singleton.mp hp]
      exact .num T.bY
theorem un_back (l : List Nat) : l = if l.head? = some 45 then 45 :: un l else un l := by
  unfold un
  split
  · rename_i h
    cases l with
    | nil => cases h
    | cons a l =>
      have : a = 45 := Option.some.inj h
      rw [this]
      rfl
  · rfl
theorem sgn_back {l : List Nat} {n : Nat} {r : List Nat} (e : un l = TL.numL n ++ r) (h : ¬ (l.head? = some 45 ∧ n = 0)) : l = ntx (if l.head? = some 45 then -(n : Int) else n) ++ r := by
  have b := un_back l
  unfold ntx sgn
  by_cases hh : l.head? = some 45
  · rw [if_pos hh] at b ⊢
    have hn : n ≠ 0 := fun z => h ⟨hh, z⟩
    rw [if_pos (by omega), Int.natAbs_neg, Int.natAbs_natCast]
    rw [b, e]
    simp
  · rw [if_neg hh] at b ⊢
    rw [if_neg (by omega), Int.natAbs_natCast, List.nil_append]
    exact b.trans e
/-- what the law reads is a worth's text -/
theorem read_one {l p : List Nat} (h : cuts (un l) = [p]) (hp : Ok p) (hg : Nat.gcd (digitsVal p) 1 = 1) (hz : ¬ (l.head? = some 45 ∧ digitsVal p = 0)) : IsT l (if l.head? = some 45 then -(digitsVal p : Int) else digitsVal p) 1 := by
  have e : un l = p := by
    rcases cuts_cases (un l) with ⟨_, e⟩ | ⟨p', q, e1, h1, e2⟩
    · rw [e] at h
      exact (List.cons.inj h).1
    · rw [e2] at h
      exact absurd (List.cons.inj h).2 (cuts_ne q)
  have e' : un l = TL.numL (digitsVal p) ++ [] := by rw [List.append_nil, hp.1.num, e]
  refine ⟨by decide, ?_, ?_, by decide, ?_⟩
  · split <;> simp
  · have := hp.lt
    split
    · rw [Int.natAbs_neg]; exact this
    · exact this
  · have := sgn_back e' hz
    rw [List.append_nil] at this
    exact this
theorem read_two {l p q : List Nat} (h : cuts (un l) = [p, q]) (hp : Ok p) (hq : Ok q) (h2 : 2 ≤ digitsVal q) (hg : Nat.gcd (digitsVal p) (digitsVal q) = 1) (hz : ¬ (l.head? = some 45 ∧ digitsVal p = 0)) : IsT l (if l.head? = some 45 then -(digitsVal p : Int) else digitsVal p) (digitsVal q) := by
  have e : un l = p ++ 47 :: q := by
    rcases cuts_cases (un l) with ⟨_, e⟩ | ⟨p', q', e1, h1, e2⟩
    · rw [e] at h
      exact absurd (List.cons.inj h).2 (by simp)
    · rw [e2] at h
      obtain ⟨ep, h⟩ := List.cons.inj h
      rw [← ep]
      rcases cuts_cases q' with ⟨_, e⟩ | ⟨p3, q3, _, _, e3⟩
      · rw [e] at h
        rw [e1, (List.cons.inj h).1]
      · rw [e3] at h
        exact absurd (List.cons.inj h).2 (cuts_ne q3)
  have e' : un l = TL.numL (digitsVal p) ++ 47 :: q := by rw [hp.1.num, e]
  refine ⟨by omega, ?_, ?_, ?_, ?_⟩
  · split
    · rw [Int.natAbs_neg]; exact hg
    · exact hg
  · have := hp.lt
    split
    · rw [Int.natAbs_neg]; exact this
    · exact this
  · exact hq.lt
  · have := sgn_back e' hz
    unfold wtx
    have e1 : ((digitsVal q : Nat) : Int) ≠ 1 := by omega
    have e2 : ntx ((digitsVal q : Nat) : Int) = q := by
      rw [ntx_pos (by omega), Int.natAbs_natCast, hq.1.num]
    rw [if_neg e1, e2]
    exact this
/-! ### the words of the language for these lists -/
theorem sub_S (l : List Nat) : Builtin.Str.subAt (S l) (S [45]) 0 = decide (l.head? = some 45) := by
  unfold Builtin.Str.subAt
  cases l with
  | nil => rfl
  | cons a l =>
    rw [Bool.eq_iff_iff]
    simp [S, Str.length]
theorem pref_S (l : List Nat) : Txt.removeprefix (S l) (S [45]) = S (un l) := by
  unfold Txt.removeprefix un
  rw [sub_S]
  by_cases h : l.head? = some 45
  · rw [if_pos (decide_eq_true h), if_pos h]
    cases l with
    | nil => cases h
    | cons a l =>
      refine TL.ext_tl ?_
      unfold Txt.affix
      simp [S, Str.length, Builtin.Str.strSub, TL.tl]
  · rw [if_neg (by rw [decide_eq_false h]; decide), if_neg h]
    rfl
theorem starts_S (l : List Nat) : Txt.startswith (S l) (S [45]) = decide (l.head? = some 45) := by
  unfold Txt.startswith
  rw [sub_S]
  cases l with
  | nil => rfl
  | cons a l => simp [S, Str.length]
instance (l : List Nat) : Decidable (AllDigits l) := by unfold AllDigits; exact inferInstance
theorem digit_tab : ∀ c : Fin 128, Unicode.isDigit c.1 = decide (48 ≤ c.1 ∧ c.1 ≤ 57) := by decide +kernel
theorem figures_S (l : List Nat) : (Txt.isascii (S l) && Txt.isdigit (S l)) = decide (l ≠ [] ∧ AllDigits l) := by
  unfold Txt.isascii Txt.isdigit
  rw [Bool.eq_iff_iff, Bool.and_eq_true, Bool.and_eq_true, ← Array.all_toList, ← Array.all_toList, List.all_eq_true, List.all_eq_true, decide_eq_true_eq, decide_eq_true_eq]
  show (∀ x, x ∈ l → decide (x < 128) = true) ∧ l.toArray.size > 0 ∧ (∀ x, x ∈ l → Unicode.isDigit x = true) ↔ _
  constructor
  · rintro ⟨h1, h2, h3⟩
    refine ⟨fun e => by rw [e] at h2; exact absurd h2 (by decide), fun c hc => ?_⟩
    have lt := of_decide_eq_true (h1 c hc)
    have := digit_tab ⟨c, lt⟩
    rw [h3 c hc] at this
    exact of_decide_eq_true this.symm
  · rintro ⟨h1, h2⟩
    refine ⟨fun c hc => decide_eq_true (by have := h2 c hc; omega), ?_, fun c hc => ?_⟩
    · rw [List.size_toArray]
      exact List.length_pos_iff.mpr h1
    · have := h2 c hc
      have t := digit_tab ⟨c, by omega⟩
      rw [decide_eq_true this] at t
      exact t
/-- nothing is left of a text of figures -/
theorem strip_all (z y : Str) : Txt.stripChars z y = S [] ↔ ∀ c ∈ z.cps.toList, y.cps.contains c = true := by
  have h0 : (∀ c ∈ z.cps.toList, y.cps.contains c = true) ↔ ∀ k, k < z.length → y.cps.contains (z.cps.getD k 0) = true := by
    constructor
    · intro h k hk
      have hk' : k < z.cps.size := hk
      refine h _ ?_
      rw [show z.cps.getD k 0 = z.cps[k] by simp [Array.getD, hk']]
      simp
    · intro h c hc
      rw [Array.mem_toList_iff] at hc
      obtain ⟨k, hk, rfl⟩ := Array.mem_iff_getElem.mp hc
      have := h k hk
      rw [show z.cps.getD k 0 = z.cps[k] by simp [Array.getD, hk]] at this
      exact this
  rw [h0]
  unfold Txt.stripChars
  rw [stripBy_eq]
  obtain ⟨l1, l2, l3⟩ := lo_facts y.cps.contains z
  obtain ⟨h1, h2, h3, h4⟩ := hi_facts y.cps.contains z _ l1
  have hsz : ∀ a b : Nat, a ≤ b → b ≤ z.length → (Builtin.Str.strSub z a b = S [] ↔ a = b) := by
    intro a b ha hb
    have hb' : b ≤ z.cps.size := hb
    constructor
    · intro h
      have e := congrArg (fun s : Str => s.cps.size) h
      have e2 : (z.cps.extract a b).size = 0 := e
      rw [Array.size_extract] at e2
      omega
    · rintro rfl
      show (⟨z.cps.extract a a⟩ : Str) = S []
      have : z.cps.extract a a = #[] := Array.eq_empty_of_size_eq_zero (by rw [Array.size_extract]; omega)
      rw [this]
  rw [hsz _ _ h1 h2]
  constructor
  · intro e k hk
    by_cases hlt : k < stripLo y.cps.contains true z
    · exact l2 k hlt
    · exact h3 k (by omega) hk
  · intro h
    rcases l3 with e | e
    · omega
    · by_cases hlt : stripLo y.cps.contains true z < z.length
      · rw [h _ hlt] at e
        cases e
      · omega
theorem strip_S (l : List Nat) : Txt.stripChars (S l) (S [48, 49, 50, 51, 52, 53, 54, 55, 56, 57]) = S [] ↔ AllDigits l := by
  rw [strip_all]
  have : ∀ c : Nat, ((S [48, 49, 50, 51, 52, 53, 54, 55, 56, 57]).cps.contains c = true) ↔ (48 ≤ c ∧ c ≤ 57) := by
    intro c
    rw [Array.contains_iff]
    simp
    omega
  exact ⟨fun h c hc => (this c).mp (h c hc), fun h c hc => (this c).mpr (h c hc)⟩
theorem zfill_S {m : Nat} (h : m < 10 ^ 200) : Txt.zfill (S (TL.numL m)) 200 = S (dk 200 m) := by
  rw [dk_pad 199 m h]
  have hl := num_short.mpr h
  unfold Txt.zfill
  rw [S_len]
  by_cases h2 : (200 : Int) ≤ (TL.numL m).length
  · rw [if_pos h2]
    have : 199 + 1 - (TL.numL m).length = 0 := by omega
    rw [this]
    rfl
  · rw [if_neg h2]
    have e : (200 : Int).toNat - (TL.numL m).length = 199 + 1 - (TL.numL m).length := rfl
    rw [e]
    generalize 199 + 1 - (TL.numL m).length = n
    unfold zfilled
    have hd := TL.numL_digits m
    have hne := TL.numL_ne m
    revert hd hne
    generalize TL.numL m = l
    intro hd hne
    cases l with
    | nil => exact absurd rfl hne
    | cons a l =>
      have ha := hd.head
      split
      · rename_i e1
        have : a = 43 := by simpa [S] using e1
        omega
      · rename_i e1
        have : a = 45 := by simpa [S] using e1
        omega
      · refine TL.ext_tl ?_
        simp [Builtin.Str.padded, S, TL.tl]
end My

set_option Elab.async false
set_option linter.all false
set_option maxRecDepth 100000
namespace My
open PySem PySem.Spec PyProof.Rows L2
/-! ### operators upon whole numbers of any size -/
section
variable {X : Cx}
theorem op_mulG : OpR X (binaryOp .Mult) (rI IntMulOk fun i j => .int (i * j)) := opI fun _ _ _ _ _ _ _ hc q => mul_int q hc
def CDivS (_ j : Int) : Prop := j ≠ 0 ∧ j.natAbs.log2 < 9000
theorem op_divS : OpR X (binaryOp .FloorDiv) (rI CDivS fun i j => .int (i.fdiv j)) := opI fun _ _ _ _ _ _ _ hc q => floordiv_int hc.1 q (.inl (PyProof.noPylong_of_log2 hc.2))
def CPowG (i j : Int) : Prop := 0 ≤ j ∧ (Builtin.Int.intBits i : Int) * j ≤ 2 ^ 27
theorem op_powG : OpR X (binaryOp .Pow) (rI CPowG fun i j => .int (i ^ j.toNat)) := opI fun _ _ _ _ _ _ _ hc q => pow_int hc.1 hc.2 q
end
/-- a def that stands at a module's name and keeps its promise -/
structure Cal (P : Program) (w : World) (K : PySem.W.Frag) (mg : Str → Option Value) (base : Heap) (x : Str) (k : Nat) (ps : List Str) (sp : Sp) (f : Addr) (fd : FuncData) : Prop where
  ok : FnOk P w K mg base CX0 k f fd ps sp
  g : mg x = some (.ref f)
  kp : PySem.W.keepIn K (.ref f) = true
  b : Binds K fd ps []
theorem same_upd {H : Hp} {p : Addr} {o : HO} (h : H p = none) : Same H (upd H p o) := fun b x e => by
  rw [upd_ne (ne_of_none e h)]
  exact e
/-! ### the bag -/
/-- a bag at b: its numbers at c, the rest bounded -/
structure BagIs (K : PySem.W.Frag) (H : Hp) (b c : Addr) (ns : List Int) (i : Nat) (g x n : Int) : Prop where
  ob : H b = some (.lst [.ref c, .int i, .int g, .int x, .int n])
  sq : SqL K H c (ns.map V.int)
  cb : c ≠ b
  hi : i ≤ ns.length
  x0 : 0 ≤ x
  x1 : x < 4294967296
def BagC (K : PySem.W.Frag) (H : Hp) (b c : Addr) (ns : List Int) : Prop := ∃ i g x n, BagIs K H b c ns i g x n
def BagAt (K : PySem.W.Frag) (H : Hp) (b : Addr) : Prop := ∃ c ns i g x n, BagIs K H b c ns i g x n
theorem BagC.at {K : PySem.W.Frag} {H : Hp} {b c : Addr} {ns : List Int} (h : BagC K H b c ns) : BagAt K H b := ⟨c, ns, h⟩
/-- what stands stays, but for what stands at b -/
def But (b : Addr) (H H' : Hp) : Prop := ∀ p o, p ≠ b → H p = some o → H' p = some o
theorem But.refl {b : Addr} {H : Hp} : But b H H := fun _ _ _ h => h
theorem But.trans {b : Addr} {H H1 H2 : Hp} (x : But b H H1) (y : But b H1 H2) : But b H H2 := fun p o n h => y p o n (x p o n h)
theorem But.upd {b : Addr} {H : Hp} {o : HO} : But b H (upd H b o) := fun p u n h => by rw [upd_ne n]; exact h
theorem But.of {b : Addr} {H H' : Hp} (s : Same H H') : But b H H' := fun p o _ h => s p o h
theorem But.seq {K : PySem.W.Frag} {b p : Addr} {H H' : Hp} {xs : List V} (h : But b H H') (n : p ≠ b) (s : SqL K H p xs) : SqL K H' p xs := by
  rcases s with (s | ⟨o, s⟩) | s
  · exact .inl (.inl (h _ _ n s))
  · exact .inl (.inr ⟨o, h _ _ n s⟩)
  · exact .inr s
theorem But.seqT {K : PySem.W.Frag} {b p : Addr} {H H' : Hp} {xs : List V} (h : But b H H') (n : p ≠ b) (s : SqT K H p xs) : SqT K H' p xs := by
  rcases s with (s | ⟨o, s⟩) | s
  · exact .inl (.inl (h _ _ n s))
  · exact .inl (.inr ⟨o, h _ _ n s⟩)
  · exact .inr s
theorem BagIs.same {K : PySem.W.Frag} {H H' : Hp} {b c : Addr} {ns : List Int} {i : Nat} {g x n : Int} (B : BagIs K H b c ns i g x n) (s : Same H H') : BagIs K H' b c ns i g x n :=
  ⟨s _ _ B.ob, s.seq B.sq, B.cb, B.hi, B.x0, B.x1⟩
theorem BagAt.same {K : PySem.W.Frag} {H H' : Hp} {b : Addr} (B : BagAt K H b) (s : Same H H') : BagAt K H' b :=
  let ⟨c, ns, i, g, x, n, B⟩ := B; ⟨c, ns, i, g, x, n, B.same s⟩
theorem BagIs.put {K : PySem.W.Frag} {H : Hp} {b c : Addr} {ns : List Int} {i : Nat} {g x n : Int} (B : BagIs K H b c ns i g x n) {i' : Nat} {g' x' n' : Int} (hi : i' ≤ ns.length) (x0 : 0 ≤ x') (x1 : x' < 4294967296) :
    BagIs K (upd H b (.lst [.ref c, .int i', .int g', .int x', .int n'])) b c ns i' g' x' n' :=
  ⟨upd_same, (But.upd (H := H)).seq B.cb B.sq, B.cb, hi, x0, x1⟩
/-! ### promises -/
def spBag (K : PySem.W.Frag) : Sp := fun vs H Q _ => ∃ (a : Addr) (ns : List Int), vs = [.ref a] ∧ SqL K H a (ns.map V.int) ∧ ∀ b H', Same H H' → BagAt K H' b → H b = none → Q (.ref b) H'
def spDraw (K : PySem.W.Frag) : Sp := fun vs H Q _ => ∃ (b : Addr) (m : Int), vs = [.ref b, .int m] ∧ BagAt K H b ∧ 0 < m ∧ m < 1000000000000000000000000000000000000000 ∧ ∀ r H', 0 ≤ r → r < m → BagAt K H' b → But b H H' → Q (.int r) H'
def spDrawC (K : PySem.W.Frag) : Sp := fun vs H Q _ => ∃ (b : Addr) (m : Int) (c : Addr) (ns : List Int), vs = [.ref b, .int m] ∧ BagC K H b c ns ∧ 0 < m ∧ m < 1000000000000000000000000000000000000000 ∧ ∀ r H', 0 ≤ r → r < m → BagC K H' b c ns → But b H H' → Q (.int r) H'
/-- the bag's numbers are not the list at L, or stand in the written part -/
def Off (K : PySem.W.Frag) (L c : Addr) (ns : List Int) : Prop := c ≠ L ∨ ∃ (o : Obj) (its : Array Value) (n : Nat), K.lookup c = some o ∧ o.cls = .type "list" ∧ o.dict = none ∧ o.data = .seq its n ∧ its.size ≤ sizeLine ∧ Vals (ns.map V.int) its.toList
theorem BagC.off {K : PySem.W.Frag} {H : Hp} {b c L : Addr} {ns : List Int} (h : BagC K H b c ns) (n : H L = none) : Off K L c ns := by
  obtain ⟨i, g, x, m, B⟩ := h
  rcases B.sq with (s | ⟨o, s⟩) | s
  · exact .inl (ne_of_none s n)
  · exact .inl (ne_of_none s n)
  · exact .inr s
theorem BagC.upd {K : PySem.W.Frag} {H : Hp} {b c L : Addr} {ns : List Int} {o : HO} (h : BagC K H b c ns) (f : Off K L c ns) (n : L ≠ b) : BagC K (upd H L o) b c ns := by
  obtain ⟨i, g, x, m, B⟩ := h
  refine ⟨i, g, x, m, by rw [upd_ne n.symm]; exact B.ob, ?_, B.cb, B.hi, B.x0, B.x1⟩
  rcases f with f | f
  · exact (But.upd (b := L)).seq f B.sq
  · exact .inr f
theorem BagC.same {K : PySem.W.Frag} {H H' : Hp} {b c : Addr} {ns : List Int} (h : BagC K H b c ns) (s : Same H H') : BagC K H' b c ns := by
  obtain ⟨i, g, x, m, B⟩ := h
  exact ⟨i, g, x, m, B.same s⟩
def topS (i : Nat) : Stmt := PySem.Challenge.pw_soleheld_k57_whole_minutes_there_and_bac.main.body.getD i (.Pass ⟨0, 0, 0, 0⟩)
abbrev sLawBag : Stmt := topS 46
theorem scLawBag : FnScope ["script", "seed", "cell"] ["script"] (defScope sLawBag) := ⟨rfl, rfl, rfl, by decide +kernel, rfl, by decide +kernel, by decide +kernel⟩
abbrev sLawDraw : Stmt := topS 47
theorem scLawDraw : FnScope ["bag", "many", "cell", "digit", "seed"] ["bag", "many"] (defScope sLawDraw) := ⟨rfl, rfl, rfl, by decide +kernel, rfl, by decide +kernel, by decide +kernel⟩
theorem mod_lo {a m : Int} (h : 0 < m) : 0 ≤ a % m := Int.emod_nonneg a (by omega)
theorem mod_hi {a m : Int} (h : 0 < m) : a % m < m := Int.emod_lt_of_pos a h
theorem mul_right {a : Int} {c : Int} (h : Builtin.Int.intBits c ≤ 64) : IntMulOk a c := IntMulOk.of_right h
section
variable {P : Program} {w : World} {K : PySem.W.Frag} {mg : Str → Option Value} {base : Heap}
theorem ok_bag {f : Addr} {fd : FuncData} {k : Nat} (F : Fun K "_law_bag" "_law_bag" sLawBag f fd) (b_int : mg "int" = none) (b_list : mg "list" = none) : FnOk P w K mg base CX0 (k + 1) f fd ["script"] (spBag K) := by
  refine F.ok scLawBag (fun vs H Q E h => ?_) (fun cdv A outer s H vs Q E hr h => ?_)
  · obtain ⟨a, ns, rfl, _⟩ := h
    rfl
  · obtain ⟨a, ns, rfl, hS, q⟩ := h
    refine ⟨_, (pss_cons (ps_set (i := 1) scLawBag.nd rfl (.inl rfl) pe_int)
      (pss_cons (ps_for PassesOwn.never rfl (pi_list (pe_slice sl_list (pv 0) po_none (po_some pe_int))) (pg_name (i := 2) scLawBag.nd rfl (.inl rfl))
        (pss_one (ps_set (i := 1) scLawBag.nd rfl (.inl rfl) (pe_op op_mod (pe_callTy call_int1 rfl b_int (by decide +kernel) (pa_cons (pe_op op_add (pe_op op_add (pe_op op_mulG (pv 1) pe_int) (pe_op op_mod (pe_callTy call_int1 rfl b_int (by decide +kernel) (pa_cons (pv 2) pa_nil)) pe_int)) pe_int) pa_nil)) pe_int))))
      (pss_one (ps_ret (pe_lst (pa_cons (pe_callTy call_list_of rfl b_list (by decide +kernel) (pa_cons (pe_slice sl_list (pv 0) po_none (po_some pe_int)) pa_nil)) (pa_cons pe_int (pa_cons pe_int (pa_cons (pv 1) (pa_cons pe_int pa_nil)))))))))), ?_⟩
    obtain ⟨ms, ec⟩ : ∃ ms : List Int, cutV (ns.map V.int) none (some 63) = ms.map V.int := ⟨(ns.drop _).take _, by
      unfold cutV
      rw [List.map_take, List.map_drop]⟩
    refine ⟨_, rfl, _, rfl, a, _, rfl, hS, fun c nc => ?_⟩
    rw [ec]
    have sc : Same H (upd H c (.lst (ms.map V.int))) := same_upd nc
    refine ⟨c, rfl, ⟨_, SqL.of upd_same⟩, for_list (K := K) (a := c) (xs := ms.map V.int) (fun i σ H2 => ∃ (m : Int) (v : Option V), σ = [some (.ref a), some (.int m), v] ∧ Same H H2 ∧ H2 c = some (.lst (ms.map V.int)) ∧ 0 ≤ m ∧ m < 4294967296)
      ⟨13964, none, rfl, sc, upd_same, by decide, by decide⟩ (fun i σ H2 _ ⟨_, _, _, _, e, _⟩ => SqL.of e) ?_ ?_⟩
    · rintro i y σ H2 hi ⟨m, v, rfl, s2, ce, m0, m1⟩
      obtain ⟨z, -, rfl⟩ : ∃ z, ms[i]? = some z ∧ y = .int z := by
        rw [List.getElem?_map] at hi
        cases e : ms[i]? with
        | none => rw [e] at hi; cases hi
        | some z => rw [e] at hi; exact ⟨z, rfl, (Option.some.inj hi).symm⟩
      refine ⟨_, rfl, _, _, rfl, rfl, mul_right (by decide +kernel), _, rfl, .inl ⟨_, rfl, _, _, rfl, rfl, (by show (0 : Int) < _; decide), _, _, rfl, rfl, _, _, rfl, rfl, .inl ⟨_, rfl, _, _, rfl, rfl, (by show (0 : Int) < _; decide), ?_⟩⟩⟩
      refine ⟨_, _, rfl, s2, ce, mod_lo (by decide), ?_⟩
      exact Int.lt_trans (mod_hi (by decide)) (by decide)
    · rintro σ H2 ⟨m, v, rfl, s2, ce, m0, m1⟩
      refine ⟨_, rfl, _, rfl, a, _, rfl, s2.seq hS, fun d nd => ?_⟩
      rw [ec]
      refine ⟨d, _, rfl, .inl (SqL.of upd_same), fun l nl => ⟨_, rfl, (by show 5 ≤ sizeLine; decide), fun b nb => ?_⟩⟩
      have s3 := (s2.trans (same_upd (o := .lst (ms.map V.int)) nd)).trans (same_upd (o := .lst (ms.map V.int)) nl)
      refine q b _ (s3.trans (same_upd nb)) ⟨l, ms, 0, 0, m, 0, upd_same, ?_, ?_, Nat.zero_le _, m0, m1⟩ (s3.free nb)
      · have e : l ≠ b := fun e => by rw [← e, upd_same] at nb; cases nb
        exact SqL.of (by rw [upd_ne e, upd_same])
      · exact fun e => by rw [← e, upd_same] at nb; cases nb
theorem ok_drawC {f : Addr} {fd : FuncData} {k : Nat} (F : Fun K "_law_draw" "_law_draw" sLawDraw f fd) (b_int : mg "int" = none) (b_len : mg "len" = none) : FnOk P w K mg base CX0 (k + 1) f fd ["bag", "many"] (spDrawC K) := by
  refine F.ok scLawDraw (fun vs H Q E h => ?_) (fun cdv A outer s H vs Q E hr h => ?_)
  · obtain ⟨b, m, c, ns, rfl, _⟩ := h
    rfl
  · obtain ⟨b, m, c, ns, rfl, ⟨i, g, x, n, B⟩, m0, m1, q⟩ := h
    refine ⟨_, (pss_cons (ps_asg (pe_op op_add (pe_ix ix_list (pv 0) pe_int (fun _ _ => rfl)) pe_int) (pg_sub (pv 0) pe_int set_list))
      (C8.pss_cut (ps_if (PW.pt (pw_and (pt_cmpR op_eq (pe_ix ix_list (pv 0) pe_int (fun _ _ => rfl)) pe_int (nomark _)) (pw_and1 (pt_cmpR op_lt (pe_ix ix_list (pv 0) pe_int (fun _ _ => rfl)) (pe_callB call_len rfl b_len (by decide +kernel) (pa_cons (pe_ix ix_list (pv 0) pe_int (fun _ _ => rfl)) pa_nil)) (nomark _))))) (pss_cons (ps_set (i := 2) scLawDraw.nd rfl (.inl rfl) (pe_ix ix_list (pe_ix ix_list (pv 0) pe_int (fun _ _ => rfl)) (pe_ix ix_list (pv 0) pe_int (fun _ _ => rfl)) (fun _ _ => rfl)))
        (pss_cons (ps_asg (pe_op op_add (pe_ix ix_list (pv 0) pe_int (fun _ _ => rfl)) pe_int) (pg_sub (pv 0) pe_int set_list))
        (pss_one (ps_if (pt_cmpR op_ge (pv 2) (pe_op op_powG pe_int pe_int) (nomark _)) (pss_one (ps_asg (pv 2) (pg_sub (pv 0) pe_int set_list))) (pss_one (ps_asg (pe_op op_mod (pe_callTy call_int1 rfl b_int (by decide +kernel) (pa_cons (pe_op op_add (pe_op op_add (pe_op op_mulG (pe_ix ix_list (pv 0) pe_int (fun _ _ => rfl)) pe_int) (pe_op op_mulG (pe_op op_mod (pe_callTy call_int1 rfl b_int (by decide +kernel) (pa_cons (pv 2) pa_nil)) pe_int) pe_int)) pe_int) pa_nil)) pe_int) (pg_sub (pv 0) pe_int set_list))))))) pss_nil)
      (pss_cons (ps_if (pt_cmpR op_gt (pe_ix ix_list (pv 0) pe_int (fun _ _ => rfl)) pe_int (nomark _)) (pss_cons (ps_set (i := 3) scLawDraw.nd rfl (.inl rfl) (pe_op op_mod (pe_callTy call_int1 rfl b_int (by decide +kernel) (pa_cons (pe_ix ix_list (pv 0) pe_int (fun _ _ => rfl)) pa_nil)) (pv 1)))
        (pss_cons (ps_asg (pe_op op_fdivW (pe_ix ix_list (pv 0) pe_int (fun _ _ => rfl)) (pv 1)) (pg_sub (pv 0) pe_int set_list))
        (pss_one (ps_ret (pv 3))))) pss_nil)
      (pss_cons (ps_set (i := 4) scLawDraw.nd rfl (.inl rfl) (pe_ix ix_list (pv 0) pe_int (fun _ _ => rfl)))
      (pss_cons (ps_asg (pe_op op_mod (pe_callTy call_int1 rfl b_int (by decide +kernel) (pa_cons (pe_op op_add (pe_op op_add (pe_op op_add (pe_op op_mulG (pe_op op_mulG (pv 4) (pv 4)) pe_int) (pe_op op_mulG (pv 4) pe_int)) (pe_op op_mulG (pe_ix ix_list (pv 0) pe_int (fun _ _ => rfl)) pe_int)) pe_int) pa_nil)) pe_int) (pg_sub (pv 0) pe_int set_list))
      (pss_one (ps_ret (pe_op op_mod (pe_callTy call_int1 rfl b_int (by decide +kernel) (pa_cons (pe_op op_add (pe_op op_fdivW (pe_ix ix_list (pv 0) pe_int (fun _ _ => rfl)) pe_int) (pe_op op_mulG (pe_op op_mod (pe_callTy call_int1 rfl b_int (by decide +kernel) (pa_cons (pe_ix ix_list (pv 0) pe_int (fun _ _ => rfl)) pa_nil)) pe_int) pe_int)) pa_nil)) (pv 1))))))))), ?_⟩
    -- bag[4] = bag[4] + 1
    refine ⟨.ref b, rfl, b, _, 4, _, rfl, rfl, SqL.of B.ob, (atI_nat (j := 4) rfl), _, _, rfl, rfl, .ref b, rfl, b, _, 4, 4, rfl, rfl, B.ob, rfl, ?_⟩
    have B1 : BagIs K (upd H b (.lst [.ref c, .int i, .int g, .int x, .int (n + 1)])) b c ns i g x (n + 1) := B.put B.hi B.x0 B.x1
    have t1 : But b H (upd H b (.lst [.ref c, .int i, .int g, .int x, .int (n + 1)])) := But.upd
    refine ⟨fun σ' H' => ∃ (v2 v3 v4 : Option V) (i' : Nat) (g' x' n' : Int), σ' = [some (.ref b), some (.int m), v2, v3, v4] ∧ BagIs K H' b c ns i' g' x' n' ∧ But b H H', ?_, ?_⟩
    · -- the if
      refine ⟨.ref b, rfl, b, _, 2, _, rfl, rfl, SqL.of B1.ob, (atI_nat (j := 2) rfl), rfl, _, rfl, ?_⟩
      refine ite2 (fun _ => ?_) (fun _ => ?_)
      · refine ⟨.ref b, rfl, b, _, 1, _, rfl, rfl, SqL.of B1.ob, (atI_nat (j := 1) rfl), .ref b, rfl, b, _, 0, _, rfl, rfl, SqL.of B1.ob, (atI_nat (j := 0) rfl), _, _, rfl, .inl ⟨_, B1.sq, rfl⟩, _, _, rfl, rfl, _, rfl, ?_⟩
        refine ite2 (fun e => ?_) (fun _ => ?_)
        · have hlt : i < ns.length := by
            have e2 := of_decide_eq_true e
            rw [List.length_map] at e2
            omega
          have gi : (ns.map V.int)[i]? = some (.int ns[i]) := by
            rw [List.getElem?_map, List.getElem?_eq_getElem hlt]
            rfl
          refine ⟨.ref b, rfl, b, _, 0, _, rfl, rfl, SqL.of B1.ob, (atI_nat (j := 0) rfl), .ref b, rfl, b, _, 1, _, rfl, rfl, SqL.of B1.ob, (atI_nat (j := 1) rfl), c, _, i, _, rfl, rfl, B1.sq, atI_nat gi, ?_⟩
          refine ⟨.ref b, rfl, b, _, 1, _, rfl, rfl, SqL.of B1.ob, (atI_nat (j := 1) rfl), _, _, rfl, rfl, .ref b, rfl, b, _, 1, 1, rfl, rfl, B1.ob, rfl, ?_⟩
          have B2 : BagIs K (upd (upd H b (.lst [.ref c, .int i, .int g, .int x, .int (n + 1)])) b (.lst [.ref c, .int ((i : Int) + 1), .int g, .int x, .int (n + 1)])) b c ns (i + 1) g x (n + 1) := B1.put (i' := i + 1) hlt B.x0 B.x1
          have t2 : But b H (upd (upd H b (.lst [.ref c, .int i, .int g, .int x, .int (n + 1)])) b (.lst [.ref c, .int ((i : Int) + 1), .int g, .int x, .int (n + 1)])) := t1.trans But.upd
          refine ⟨_, rfl, _, _, rfl, rfl, ⟨by decide, by decide +kernel⟩, _, _, rfl, rfl, _, rfl, ?_⟩
          refine ite2 (fun _ => ?_) (fun _ => ?_)
          · refine ⟨_, rfl, .ref b, rfl, b, _, 2, 2, rfl, rfl, B2.ob, rfl, ?_⟩
            exact ⟨_, _, _, i + 1, ns[i], x, n + 1, rfl, B2.put B2.hi B.x0 B.x1, t2.trans But.upd⟩
          · refine ⟨.ref b, rfl, b, _, 3, _, rfl, rfl, SqL.of B2.ob, (atI_nat (j := 3) rfl), _, _, rfl, rfl, mul_right (by decide +kernel), _, rfl, .inl ⟨_, rfl, _, _, rfl, rfl, (by show (0 : Int) < _; decide), _, _, rfl, rfl, mul_right (by decide +kernel), _, _, rfl, rfl, _, _, rfl, rfl, .inl ⟨_, rfl, _, _, rfl, rfl, (by show (0 : Int) < _; decide), ?_⟩⟩⟩
            refine ⟨.ref b, rfl, b, _, 3, 3, rfl, rfl, B2.ob, rfl, ?_⟩
            exact ⟨_, _, _, i + 1, g, _, n + 1, rfl, B2.put B2.hi (mod_lo (by decide)) (Int.lt_trans (mod_hi (by decide)) (by decide)), t2.trans But.upd⟩
        · exact ⟨_, _, _, i, g, x, n + 1, rfl, B1, t1⟩
      · exact ⟨_, _, _, i, g, x, n + 1, rfl, B1, t1⟩
    · rintro σ' H' ⟨v2, v3, v4, i', g', x', n', rfl, B', t'⟩
      refine ⟨.ref b, rfl, b, _, 2, _, rfl, rfl, SqL.of B'.ob, (atI_nat (j := 2) rfl), _, _, rfl, rfl, _, rfl, ?_⟩
      have d1 : CDivW g' m := wide_div m0 (b := 130) (by omega) (by decide) (by decide)
      refine ite2 (fun _ => ?_) (fun _ => ?_)
      · refine ⟨.ref b, rfl, b, _, 2, _, rfl, rfl, SqL.of B'.ob, (atI_nat (j := 2) rfl), .inl ⟨_, rfl, _, rfl, _, _, rfl, rfl, m0, ?_⟩⟩
        refine ⟨.ref b, rfl, b, _, 2, _, rfl, rfl, SqL.of B'.ob, (atI_nat (j := 2) rfl), _, rfl, _, _, rfl, rfl, d1, .ref b, rfl, b, _, 2, 2, rfl, rfl, B'.ob, rfl, ?_⟩
        exact ⟨_, rfl, q _ _ (mod_lo m0) (mod_hi m0) ⟨i', g' / m, x', n', B'.put B'.hi B'.x0 B'.x1⟩ (t'.trans But.upd)⟩
      · refine ⟨.ref b, rfl, b, _, 3, _, rfl, rfl, SqL.of B'.ob, (atI_nat (j := 3) rfl), ?_⟩
        have hx : IntMulOk x' x' := mul_right (intBits_le_64 (by have := B'.x0; omega) (by have := B'.x1; omega))
        refine ⟨_, rfl, _, rfl, _, _, rfl, rfl, hx, _, _, rfl, rfl, mul_right (by decide +kernel), _, rfl, _, _, rfl, rfl, mul_right (by decide +kernel), _, _, rfl, rfl, .ref b, rfl, b, _, 4, _, rfl, rfl, SqL.of B'.ob, (atI_nat (j := 4) rfl), _, _, rfl, rfl, mul_right (by decide +kernel), _, _, rfl, rfl, _, _, rfl, rfl, .inl ⟨_, rfl, _, _, rfl, rfl, (by show (0 : Int) < _; decide), ?_⟩⟩
        refine ⟨.ref b, rfl, b, _, 3, 3, rfl, rfl, B'.ob, rfl, ?_⟩
        have B3 : BagIs K (upd H' b (.lst [.ref c, .int i', .int g', .int ((x' * x' * 13 + x' * 42017 + n' * 1299709 + 50023) % 2147483563), .int n'])) b c ns i' g' ((x' * x' * 13 + x' * 42017 + n' * 1299709 + 50023) % 2147483563) n' := B'.put B'.hi (mod_lo (by decide)) (Int.lt_trans (mod_hi (by decide)) (by decide))
        refine ⟨.ref b, rfl, b, _, 3, _, rfl, rfl, SqL.of B3.ob, (atI_nat (j := 3) rfl), _, _, rfl, rfl, wide_div (b := 10) (by decide) (by decide) (by decide) (by decide), .ref b, rfl, b, _, 3, _, rfl, rfl, SqL.of B3.ob, (atI_nat (j := 3) rfl), .inl ⟨_, rfl, _, _, rfl, rfl, (by show (0 : Int) < _; decide), _, _, rfl, rfl, mul_right (by decide +kernel), _, _, rfl, rfl, .inl ⟨_, rfl, _, rfl, _, _, rfl, rfl, m0, ?_⟩⟩⟩
        exact q _ _ (mod_lo m0) (mod_hi m0) ⟨i', g', _, n', B3⟩ (t'.trans But.upd)
theorem ok_draw {f : Addr} {fd : FuncData} {k : Nat} (F : Fun K "_law_draw" "_law_draw" sLawDraw f fd) (b_int : mg "int" = none) (b_len : mg "len" = none) : FnOk P w K mg base CX0 (k + 1) f fd ["bag", "many"] (spDraw K) :=
  (ok_drawC F b_int b_len).imp fun vs H Q E ⟨b, m, e, ⟨c, ns, B⟩, m0, m1, q⟩ => ⟨b, m, c, ns, e, B, m0, m1, fun r H' r0 r1 B' t => q r H' r0 r1 B'.at t⟩
end
end My

set_option Elab.async false
set_option linter.all false
set_option maxRecDepth 100000
namespace My
open PySem PySem.Spec PyProof.Rows L2
abbrev sLawOf : Stmt := topS 48
theorem scLawOf : FnScope ["bag", "things"] ["bag", "things"] (defScope sLawOf) := ⟨rfl, rfl, rfl, by decide +kernel, rfl, by decide +kernel, by decide +kernel⟩
abbrev sLawLike : Stmt := topS 49
theorem scLawLike : FnScope ["found", "due", "a", "b"] ["found", "due"] (defScope sLawLike) := ⟨rfl, rfl, rfl, by decide +kernel, rfl, by decide +kernel, by decide +kernel⟩
/-- things are a list of whole numbers -/
def spOf (K : PySem.W.Frag) : Sp := fun vs H Q _ => ∃ (b a : Addr) (xs : List V), vs = [.ref b, .ref a] ∧ BagAt K H b ∧ a ≠ b ∧ SqL K H a xs ∧ 0 < xs.length ∧ xs.length < 1000 ∧ ∀ v H', v ∈ xs → BagAt K H' b → But b H H' → Q v H'
/-! ### data that are alike -/
def flat0 : V → Prop
  | .non => True
  | .bl _ => True
  | .int _ => True
  | .str _ => True
  | _ => False
def Lk (K : PySem.W.Frag) (H : Hp) : Nat → V → V → Prop
  | 0, v, w => v = w ∧ flat0 v
  | n + 1, v, w => (v = w ∧ flat0 v) ∨ ∃ a b xs ys, v = .ref a ∧ w = .ref b ∧ ((SqL K H a xs ∧ SqL K H b ys) ∨ (SqT K H a xs ∧ SqT K H b ys)) ∧ xs.length = ys.length ∧ xs.length < 1000 ∧ ∀ (i : Nat) x y, xs[i]? = some x → ys[i]? = some y → Lk K H n x y
theorem seqT_same {K : PySem.W.Frag} {H H' : Hp} {p : Addr} {xs : List V} (h : Same H H') (s : SqT K H p xs) : SqT K H' p xs := by
  rcases s with (s | ⟨o, s⟩) | s
  · exact .inl (.inl (h _ _ s))
  · exact .inl (.inr ⟨o, h _ _ s⟩)
  · exact .inr s
theorem Lk.same {K : PySem.W.Frag} {H H' : Hp} (s : Same H H') : ∀ {n : Nat} {v w : V}, Lk K H n v w → Lk K H' n v w
  | 0, _, _, h => h
  | n + 1, _, _, h => by
    rcases h with h | ⟨a, b, xs, ys, e1, e2, hs, hl, hb, hi⟩
    · exact .inl h
    · refine .inr ⟨a, b, xs, ys, e1, e2, ?_, hl, hb, fun i x y p q => (hi i x y p q).same s⟩
      rcases hs with ⟨p, q⟩ | ⟨p, q⟩
      · exact .inl ⟨s.seq p, s.seq q⟩
      · exact .inr ⟨seqT_same s p, seqT_same s q⟩
theorem Lk.flat {K : PySem.W.Frag} {H : Hp} {n : Nat} {v w : V} (e : v = w) (f : flat0 v) : Lk K H n v w := by
  cases n with
  | zero => exact ⟨e, f⟩
  | succ n => exact .inl ⟨e, f⟩
def spLike (K : PySem.W.Frag) (n : Nat) : Sp := fun vs H Q _ => ∃ v w, vs = [v, w] ∧ Lk K H n v w ∧ ∀ H', Same H H' → Q (.bl true) H'
theorem ty_list {K : PySem.W.Frag} {H : Hp} {a : Addr} {xs : List V} (h : SqL K H a xs) : TyX K H (.ref a) (.type "list") := by
  rcases h with (h | ⟨o, h⟩) | ⟨o, its, n, h, c, _⟩
  · exact .base (.lst h)
  · exact .base (.frz h)
  · exact .kList h c
theorem ty_tup {K : PySem.W.Frag} {H : Hp} {a : Addr} {xs : List V} (h : SqT K H a xs) : TyX K H (.ref a) (.type "tuple") := by
  rcases h with (h | ⟨o, h⟩) | ⟨o, its, n, h, c, _⟩
  · exact .base (.tup h)
  · exact .fTuple h
  · exact .kTuple h c
/-- the type of a flat value -/
def tyN : V → String
  | .non => "NoneType"
  | .bl _ => "bool"
  | .int _ => "int"
  | .str _ => "str"
  | _ => ""
theorem ty_flat {K : PySem.W.Frag} {H : Hp} {v : V} (h : flat0 v) : TyX K H v (.type (tyN v)) := by
  cases v with
  | non => exact .base .non
  | bl b => exact .base (.bl b)
  | int i => exact .base (.int i)
  | str x => exact .base (.str x)
  | _ => exact h.elim
theorem cls2 {a b : String} : Paired ClsV [.ty a, .ty b] [.type a, .type b] := .cons (.ty a) (.cons (.ty b) .nil)
section
variable {P : Program} {w : World} {K : PySem.W.Frag} {mg : Str → Option Value} {base : Heap}
theorem kit_ll : PySem.W.kitAny K (.type "list") [.type "list", .type "tuple"] = some true := by rfl
theorem kit_tl : PySem.W.kitAny K (.type "tuple") [.type "list", .type "tuple"] = some true := by rfl
theorem kit_flat {v : V} (h : flat0 v) : PySem.W.kitAny K (.type (tyN v)) [.type "list", .type "tuple"] = some false := by
  cases v <;> first | rfl | exact h.elim
theorem k1_ll : PySem.W.kitOne K (.type "list") (.type "list") = some true := by rfl
theorem k1_lt : PySem.W.kitOne K (.type "list") (.type "tuple") = some false := by rfl
theorem k1_tl : PySem.W.kitOne K (.type "tuple") (.type "list") = some false := by rfl
theorem k1_tt : PySem.W.kitOne K (.type "tuple") (.type "tuple") = some true := by rfl
theorem k1_flat {v : V} (h : flat0 v) (c : String) (hc : c = "bool" ∨ c = "str" ∨ c = "int") : ∃ b, PySem.W.kitOne K (.type (tyN v)) (.type c) = some b := by
  cases v <;> first | exact h.elim | (rcases hc with rfl | rfl | rfl <;> exact ⟨_, rfl⟩)
theorem pe_ty {X : Cx} (T : String) {x : Str} {pos : Pos} (hg : Gl X x) (hm : X.mg x = none) (hv : bootBuiltins x = some (.type T)) (hn : x ≠ "__name__" := by decide) (hd : (x == ("__debug__" : Str)) = false := by decide) : PE X (.Name x pos) (tC (.ty T)) := pe_bltn hg hm hv rfl hn hd
theorem walk_zipT {a b : Addr} {xs ys : List V} {n : Nat} (hn : n = min xs.length ys.length) : Walk (RZ.ItzT K a b) n (fun H => SqT K H a xs ∧ SqT K H b ys) (YPair (fun i => xs[i]?) (fun i => ys[i]?)) := by
  subst hn
  refine ⟨fun i _ hi q => ?_, fun _ q => ⟨xs, ys, q.1, q.2, by omega⟩, fun i H v H' _ q y => ?_⟩
  · have h1 : i < xs.length := by omega
    have h2 : i < ys.length := by omega
    exact ⟨xs, ys, xs[i], ys[i], q.1, q.2, by simp [h1], by simp [h2]⟩
  · obtain ⟨T, x, z, h1, h2, h3, h4, h5⟩ := y
    exact ⟨T, x, z, h1, h2, h3, h4 xs q.1, h5 ys q.2⟩
theorem ok_of {f fD : Addr} {fd fdD : FuncData} {k : Nat} (F : Fun K "_law_of" "_law_of" sLawOf f fd) (D : Cal P w K mg base "_law_draw" (k + 1) ["bag", "many"] (spDraw K) fD fdD) (b_len : mg "len" = none) : FnOk P w K mg base CX0 (k + 2) f fd ["bag", "things"] (spOf K) := by
  refine F.ok scLawOf (fun vs H Q E h => ?_) (fun cdv A outer s H vs Q E hr h => ?_)
  · obtain ⟨b, a, xs, rfl, _⟩ := h
    rfl
  · obtain ⟨b, a, xs, rfl, B, n, hs, h0, h1, q⟩ := h
    refine ⟨_, (pss_one (ps_ret (pe_ix ix_list (pv 1) (pe_call D.ok hr rfl D.g D.kp D.b .nil pass0 (pa_cons (pv 0) (pa_cons (pe_callB call_len rfl b_len (by decide +kernel) (pa_cons (pv 1) pa_nil)) pa_nil))) (fun _ _ => rfl)))), ?_⟩
    refine ⟨_, rfl, _, rfl, _, rfl, _, _, rfl, .inl ⟨_, hs, rfl⟩, b, _, rfl, B, by omega, by omega, fun r H' r0 r1 B' t => ?_⟩
    obtain ⟨j, rfl⟩ : ∃ j : Nat, r = (j : Int) := ⟨r.toNat, by omega⟩
    have hj : j < xs.length := by omega
    exact ⟨a, _, _, xs[j], rfl, rfl, t.seq n hs, atI_nat (List.getElem?_eq_getElem hj), q _ H' (List.getElem_mem hj) B' t⟩
theorem all_true : ∀ n : Nat, (List.replicate n true).all id = true := fun n => by
  induction n with
  | zero => rfl
  | succ n ih => rw [List.replicate_succ, List.all_cons, ih]; rfl
theorem FnOk.never {f : Addr} {fd : FuncData} {k : Nat} {ps : List Str} : FnOk P w K mg base CX0 k f fd ps (fun _ _ _ _ => False) := ⟨fun _ _ _ _ h => h.elim, fun _ _ _ _ _ _ _ _ _ _ _ _ _ h => h.elim⟩
def spLikeM (K : PySem.W.Frag) (M : Hp → V → V → Prop) : Sp := fun vs H Q _ => ∃ v w, vs = [v, w] ∧ ((v = w ∧ flat0 v) ∨ ∃ a b xs ys, v = .ref a ∧ w = .ref b ∧ ((SqL K H a xs ∧ SqL K H b ys) ∨ (SqT K H a xs ∧ SqT K H b ys)) ∧ xs.length = ys.length ∧ xs.length < 1000 ∧ ∀ (i : Nat) x y, xs[i]? = some x → ys[i]? = some y → M H x y) ∧ ∀ H', Same H H' → Q (.bl true) H'
theorem like_step {f : Addr} {fd : FuncData} {k : Nat} {R : Sp} {M : Hp → V → V → Prop} (F : Fun K "_law_like" "_law_like" sLawLike f fd) (g : mg "_law_like" = some (.ref f)) (b : Binds K fd ["found", "due"] [])
    (b_isinstance : mg "isinstance" = none) (b_list : mg "list" = none) (b_tuple : mg "tuple" = none) (b_bool : mg "bool" = none) (b_str : mg "str" = none) (b_len : mg "len" = none) (b_all : mg "all" = none) (b_zip : mg "zip" = none)
    (G : FnOk P w K mg base CX0 k f fd ["found", "due"] R) (hM : ∀ v w H Q E, M H v w → (∀ H', Same H H' → Q (.bl true) H') → R [v, w] H Q E) (hS : ∀ H H' v w, Same H H' → M H v w → M H' v w) : FnOk P w K mg base CX0 (k + 1) f fd ["found", "due"] (spLikeM K M) := by
  refine F.ok scLawLike (fun vs H Q E h => ?_) (fun cdv A outer s H vs Q E hr h => ?_)
  · obtain ⟨v, w', rfl, _⟩ := h
    rfl
  · obtain ⟨v, w', rfl, L, q⟩ := h
    refine ⟨_, (pss_cons (ps_if (pt_val (pe_callB call_isiT rfl b_isinstance (by decide +kernel) (pa_cons (pv 1) (pa_cons (pe_tup (pa_cons (pe_ty "list" rfl b_list (by decide +kernel)) (pa_cons (pe_ty "tuple" rfl b_tuple (by decide +kernel)) pa_nil))) pa_nil)))) (pss_cons (ps_if (PW.pt (pw_or (pt_cmpR op_ne (pe_callB call_isi rfl b_isinstance (by decide +kernel) (pa_cons (pv 0) (pa_cons (pe_ty "list" rfl b_list (by decide +kernel)) pa_nil))) (pe_callB call_isi rfl b_isinstance (by decide +kernel) (pa_cons (pv 1) (pa_cons (pe_ty "list" rfl b_list (by decide +kernel)) pa_nil))) rfl) (pw_or1 (pt_cmpR op_ne (pe_callB call_isi rfl b_isinstance (by decide +kernel) (pa_cons (pv 0) (pa_cons (pe_ty "tuple" rfl b_tuple (by decide +kernel)) pa_nil))) (pe_callB call_isi rfl b_isinstance (by decide +kernel) (pa_cons (pv 1) (pa_cons (pe_ty "tuple" rfl b_tuple (by decide +kernel)) pa_nil))) rfl)))) (pss_one (ps_ret pe_bl)) pss_nil)
        (pss_one (ps_ret (pe_and (pe_cmpR op_eq (pe_callB call_len rfl b_len (by decide +kernel) (pa_cons (pv 0) pa_nil)) (pe_callB call_len rfl b_len (by decide +kernel) (pa_cons (pv 1) pa_nil)) rfl) (pe_one (pe_callB (cr_all rfl) rfl b_all (by decide +kernel) (pa_cons (pe_lc (own := [("a", 2), ("b", 3)]) (g := gTup K 2 (gCons (gName 2) (gCons (gName 3) gNil))) (tt := tYes) (te := tCall R [] E0 (tCons (tVar 2) (tCons (tVar 3) tNil))) rfl scLawLike.nd (RZ.pi_zipA rfl b_zip (pa_cons (pv 0) (pa_cons (pv 1) pa_nil))) (blkOk_by (own := [("a", 2), ("b", 3)]) (N := ["found", "due", "a", "b"]) (sc := defScope sLawLike) (by decide +kernel)) (fun _ _ _ _ _ => (pg_tup rfl (pgs_cons (pg_name (i := 2) scLawLike.nd rfl (.inl rfl) (.inr rfl)) (pgs_cons (pg_name (i := 3) scLawLike.nd rfl (.inl rfl) (.inr rfl)) pgs_nil)))) (fun _ _ _ _ _ => pts_nil) (fun _ _ _ _ _ => (pe_call G (hr.mono (by omega)) rfl g F.kp b .nil pass0 (pa_cons (pv 2) (pa_cons (pv 3) pa_nil))))) pa_nil))))))) pss_nil)
      (pss_cons (ps_if (PW.pt (pw_or (pt_cmpR op_isN (pv 1) pe_non rfl) (pw_or (pt_cmpR op_isN (pv 0) pe_non rfl) (pw_or1 (pt_val (pe_callB call_isiT rfl b_isinstance (by decide +kernel) (pa_cons (pv 0) (pa_cons (pe_tup (pa_cons (pe_ty "list" rfl b_list (by decide +kernel)) (pa_cons (pe_ty "tuple" rfl b_tuple (by decide +kernel)) pa_nil))) pa_nil)))))))) (pss_one (ps_ret (pe_and (pe_cmpR op_isN (pv 1) pe_non rfl) (pe_one (pe_cmpR op_isN (pv 0) pe_non rfl))))) pss_nil)
      (pss_one (ps_ret (pe_and (pe_cmpR op_eq (pe_callB call_isi rfl b_isinstance (by decide +kernel) (pa_cons (pv 0) (pa_cons (pe_ty "bool" rfl b_bool (by decide +kernel)) pa_nil))) (pe_callB call_isi rfl b_isinstance (by decide +kernel) (pa_cons (pv 1) (pa_cons (pe_ty "bool" rfl b_bool (by decide +kernel)) pa_nil))) rfl) (pe_and (pe_cmpR op_eq (pe_callB call_isi rfl b_isinstance (by decide +kernel) (pa_cons (pv 0) (pa_cons (pe_ty "str" rfl b_str (by decide +kernel)) pa_nil))) (pe_callB call_isi rfl b_isinstance (by decide +kernel) (pa_cons (pv 1) (pa_cons (pe_ty "str" rfl b_str (by decide +kernel)) pa_nil))) rfl) (pe_one (pe_cmpR op_eq (pv 0) (pv 1) rfl)))))))), ?_⟩
    rcases L with ⟨rfl, fl⟩ | ⟨a, c, xs, ys, rfl, rfl, hs, hl, hb, hi⟩
    · have hf : flat0 v := fl
      refine ⟨_, rfl, (by show 2 ≤ sizeLine; decide), fun p np => ⟨_, p, _, _, _, _, rfl, upd_same, cls2, ty_flat hf, kit_flat hf, _, rfl, iteF ?_⟩⟩
      have s1 := same_upd (o := .tup [.ty "list", .ty "tuple"]) np
      refine ⟨v, rfl, rfl, _, rfl, ite2 (fun e => iteT ?_) (fun e => ⟨v, rfl, rfl, _, rfl, ite2 (fun e' => absurd e' e) (fun _ => ?_)⟩)⟩
      · refine ⟨v, rfl, rfl, _, rfl, ?_⟩
        rw [e]
        refine iteT ⟨v, rfl, rfl, ?_⟩
        rw [e]
        exact q _ s1
      · refine ⟨_, rfl, (by show 2 ≤ sizeLine; decide), fun p2 np2 => ⟨_, p2, _, _, _, _, rfl, upd_same, cls2, ty_flat hf, kit_flat hf, _, rfl, iteF ?_⟩⟩
        have s2 := s1.trans (same_upd (o := .tup [.ty "list", .ty "tuple"]) np2)
        obtain ⟨k1, e1⟩ := k1_flat (K := K) hf "bool" (.inl rfl)
        obtain ⟨k2, e2⟩ := k1_flat (K := K) hf "str" (.inr (.inl rfl))
        refine ⟨_, rfl, _, _, _, _, _, rfl, .ty _, ty_flat hf, e1, _, rfl, _, _, _, _, _, rfl, .ty _, ty_flat hf, e1, rfl, _, rfl, ?_⟩
        rw [decide_eq_true rfl]
        refine iteT ⟨_, rfl, _, _, _, _, _, rfl, .ty _, ty_flat hf, e2, _, rfl, _, _, _, _, _, rfl, .ty _, ty_flat hf, e2, rfl, _, rfl, ?_⟩
        rw [decide_eq_true rfl]
        refine iteT ⟨_, rfl, _, rfl, ?_, ?_⟩
        · cases v <;> first | rfl | exact hf.elim
        · rw [decide_eq_true rfl]
          exact q _ s2
    · -- lists or tuples
      have hr1 : ∀ (i : Nat) x y, xs[i]? = some x → ys[i]? = some y → M H x y := hi
      obtain ⟨T, kt, k1, k2, tya, tyc, hlen, hlen'⟩ : ∃ T, PySem.W.kitAny K (.type T) [.type "list", .type "tuple"] = some true ∧ (∃ k1, PySem.W.kitOne K (.type T) (.type "list") = some k1) ∧ (∃ k2, PySem.W.kitOne K (.type T) (.type "tuple") = some k2) ∧ (∀ H', Same H H' → TyX K H' (.ref a) (.type T)) ∧ (∀ H', Same H H' → TyX K H' (.ref c) (.type T)) ∧ (∀ H', Same H H' → LenV K (.ref a) H' xs.length) ∧ (∀ H', Same H H' → LenV K (.ref c) H' ys.length) := by
        rcases hs with ⟨p, q⟩ | ⟨p, q⟩
        · exact ⟨"list", kit_ll, ⟨_, k1_ll⟩, ⟨_, k1_lt⟩, fun _ s => ty_list (s.seq p), fun _ s => ty_list (s.seq q), fun _ s => .inl ⟨_, s.seq p, rfl⟩, fun _ s => .inl ⟨_, s.seq q, rfl⟩⟩
        · exact ⟨"tuple", kit_tl, ⟨_, k1_tl⟩, ⟨_, k1_tt⟩, fun _ s => ty_tup (seqT_same s p), fun _ s => ty_tup (seqT_same s q), fun _ s => .inr ⟨_, seqT_same s p, rfl⟩, fun _ s => .inr ⟨_, seqT_same s q, rfl⟩⟩
      obtain ⟨k1, e1⟩ := k1
      obtain ⟨k2, e2⟩ := k2
      refine ⟨_, rfl, (by show 2 ≤ sizeLine; decide), fun p0 np => ⟨_, p0, _, _, _, _, rfl, upd_same, cls2, tyc _ (same_upd np), kt, _, rfl, iteT ?_⟩⟩
      have s1 : Same H (upd H p0 (.tup [.ty "list", .ty "tuple"])) := same_upd np
      refine ⟨_, rfl, _, _, _, _, _, rfl, .ty _, tya _ s1, e1, _, rfl, _, _, _, _, _, rfl, .ty _, tyc _ s1, e1, rfl, _, rfl, ?_⟩
      rw [decide_eq_true rfl]
      refine iteF ⟨_, rfl, _, _, _, _, _, rfl, .ty _, tya _ s1, e2, _, rfl, _, _, _, _, _, rfl, .ty _, tyc _ s1, e2, rfl, _, rfl, ?_⟩
      rw [decide_eq_true rfl]
      refine iteF ⟨_, rfl, _, _, rfl, hlen _ s1, _, rfl, _, _, rfl, hlen' _ s1, rfl, _, rfl, ?_⟩
      rw [hl, decide_eq_true rfl]
      refine iteT ⟨_, rfl, _, rfl, a, c, xs, ys, rfl, ?_⟩
      rcases hs with ⟨p, q'⟩ | ⟨p, q'⟩
      ·
        refine .inl ⟨Same.seq s1 p, Same.seq s1 q', fun D nD => lc_it (walk_zip (K := K) (a := a) (b := c) (by omega : xs.length = min xs.length ys.length)) (fun i H2 => Same (upd H p0 (.tup [.ty "list", .ty "tuple"])) H2 ∧ H2 D = some (.lst ((List.replicate i true).map V.bl))) ⟨same_upd nD, upd_same⟩ (fun i H2 _ h => ⟨Same.seq (s1.trans h.1) p, Same.seq (s1.trans h.1) q'⟩) ?_ ?_⟩
        · rintro i z H2 H3 hlt ⟨s2, hD⟩ ⟨T, x, y, rfl, nT, rfl, hx, hy⟩
          have nTD : D ≠ T := ne_of_none hD nT
          refine ⟨T, [x, y], rfl, SqT.of upd_same, rfl, x, [y], rfl, y, [], rfl, rfl, rfl, ?_⟩
          unfold tYes
          refine iteT ?_
          refine ⟨x, rfl, y, rfl, hM x y _ _ _ (hS _ _ _ _ ((s1.trans s2).trans (same_upd nT)) (hr1 i x y hx hy)) fun H4 s4 => ?_⟩
          have hD4 : H4 D = some (.lst ((List.replicate i true).map V.bl)) := s4 _ _ (by rw [upd_ne nTD]; exact hD)
          refine ⟨_, hD4, ?_, ?_, ?_⟩
          · rw [List.length_map, List.length_replicate]
            exact small1000 (by omega)
          · intro p' o' h'
            have nq : p' ≠ D := ne_of_none h' nD
            rw [upd_ne nq]
            exact s4 _ _ (same_upd nT _ _ (s2 _ _ h'))
          · rw [upd_same, List.replicate_succ', List.map_append]
            rfl
        · rintro H2 ⟨s2, hD⟩
          refine ⟨D, _, rfl, SqL.of hD, ?_⟩
          rw [all_true]
          exact q _ (s1.trans s2)
      ·
        refine .inr ⟨seqT_same s1 p, seqT_same s1 q', fun D nD => lc_it (walk_zipT (K := K) (a := a) (b := c) (by omega : xs.length = min xs.length ys.length)) (fun i H2 => Same (upd H p0 (.tup [.ty "list", .ty "tuple"])) H2 ∧ H2 D = some (.lst ((List.replicate i true).map V.bl))) ⟨same_upd nD, upd_same⟩ (fun i H2 _ h => ⟨seqT_same (s1.trans h.1) p, seqT_same (s1.trans h.1) q'⟩) ?_ ?_⟩
        · rintro i z H2 H3 hlt ⟨s2, hD⟩ ⟨T, x, y, rfl, nT, rfl, hx, hy⟩
          have nTD : D ≠ T := ne_of_none hD nT
          refine ⟨T, [x, y], rfl, SqT.of upd_same, rfl, x, [y], rfl, y, [], rfl, rfl, rfl, ?_⟩
          unfold tYes
          refine iteT ?_
          refine ⟨x, rfl, y, rfl, hM x y _ _ _ (hS _ _ _ _ ((s1.trans s2).trans (same_upd nT)) (hr1 i x y hx hy)) fun H4 s4 => ?_⟩
          have hD4 : H4 D = some (.lst ((List.replicate i true).map V.bl)) := s4 _ _ (by rw [upd_ne nTD]; exact hD)
          refine ⟨_, hD4, ?_, ?_, ?_⟩
          · rw [List.length_map, List.length_replicate]
            exact small1000 (by omega)
          · intro p' o' h'
            have nq : p' ≠ D := ne_of_none h' nD
            rw [upd_ne nq]
            exact s4 _ _ (same_upd nT _ _ (s2 _ _ h'))
          · rw [upd_same, List.replicate_succ', List.map_append]
            rfl
        · rintro H2 ⟨s2, hD⟩
          refine ⟨D, _, rfl, SqL.of hD, ?_⟩
          rw [all_true]
          exact q _ (s1.trans s2)

theorem ok_like {f : Addr} {fd : FuncData} (F : Fun K "_law_like" "_law_like" sLawLike f fd) (g : mg "_law_like" = some (.ref f)) (b : Binds K fd ["found", "due"] [])
    (b_isinstance : mg "isinstance" = none) (b_list : mg "list" = none) (b_tuple : mg "tuple" = none) (b_bool : mg "bool" = none) (b_str : mg "str" = none) (b_len : mg "len" = none) (b_all : mg "all" = none) (b_zip : mg "zip" = none) :
    ∀ n : Nat, FnOk P w K mg base CX0 (n + 1) f fd ["found", "due"] (spLike K n) := by
  intro n
  induction n with
  | zero =>
    exact (like_step (M := fun _ _ _ => False) (R := fun _ _ _ _ => False) F g b b_isinstance b_list b_tuple b_bool b_str b_len b_all b_zip FnOk.never (fun _ _ _ _ _ h _ => h) (fun _ _ _ _ _ h => h)).imp
      fun vs H Q E ⟨v, w', e, L, q⟩ => ⟨v, w', e, .inl L, q⟩
  | succ n ih =>
    exact (like_step (M := fun H v w => Lk K H n v w) F g b b_isinstance b_list b_tuple b_bool b_str b_len b_all b_zip ih (fun v w H Q E h q => ⟨v, w, rfl, h, q⟩) (fun _ _ _ _ s h => h.same s)).imp
      fun vs H Q E ⟨v, w', e, L, q⟩ => ⟨v, w', e, L, q⟩
end
end My

set_option Elab.async false
set_option linter.all false
set_option maxRecDepth 100000
/-! entries of minutes, as data, and their texts -/
namespace My
open PySem PySem.Spec PyProof.Rows L2 SX
open NumText
def cd (x : Str) : List Nat := x.cps.toList
theorem S_cd (x : Str) : S (cd x) = x := S_tl x
inductive Kd where
  | number | name | reason | fin | sheet | ballots | shown | rows | seats
  deriving DecidableEq
inductive Wd where
  | sheet | which | show | opened | struck | clash | taken | told
  deriving DecidableEq
def kdS : Kd → Str
  | .number => "number"
  | .name => "name"
  | .reason => "reason"
  | .fin => "end"
  | .sheet => "sheet"
  | .ballots => "ballots"
  | .shown => "shown"
  | .rows => "rows"
  | .seats => "seats"
def wdS : Wd → Str
  | .sheet => "sheet"
  | .which => "which"
  | .show => "show"
  | .opened => "opened"
  | .struck => "struck"
  | .clash => "clash"
  | .taken => "taken"
  | .told => "told"
def wdT (w : Wd) : List Nat := cd (wdS w)
theorem S_wd (w : Wd) : S (wdT w) = wdS w := S_cd _
def pat : Wd → List Kd
  | .sheet => [.number, .number, .name, .sheet]
  | .which => [.number, .number, .name, .number, .number, .ballots]
  | .show => [.number, .number, .name, .shown]
  | .opened => [.number, .number]
  | .struck => [.name, .reason]
  | .clash => [.number, .number]
  | .taken => [.number, .number, .rows]
  | .told => [.fin, .seats]
def isLong : Kd → Bool
  | .sheet | .ballots | .shown | .rows | .seats => true
  | _ => false
inductive Part where
  | num (n : Nat)
  | word (l : List Nat)
  | nums (r : List Int)
  | rows (rs : List (List Int))
  | shown (s : Nat) (t : List Nat)
  deriving DecidableEq
def FAULTS : List (List Nat) := [cd "silent", cd "shape"]
def REASONS : List (List Nat) := [cd "silent", cd "shape", cd "below", cd "sum", cd "rows", cd "spoiled", cd "seal", cd "wrong"]
def ENDS : List (List Nat) := [cd "digits", cd "weighs", cd "whole"]
/-- a right name -/
structure Nm (l : List Nat) : Prop where
  ne : l ≠ []
  le : l.length ≤ 8
  lo : ∀ c ∈ l, 97 ≤ c ∧ c ≤ 122
def Sgd (r : List Int) : Prop := ∀ x ∈ r, -999999999 ≤ x ∧ x ≤ 999999999
def Uns (r : List Int) : Prop := ∀ x ∈ r, 0 ≤ x ∧ x ≤ 999999999
def RowsOk (P : List Int → Prop) (rs : List (List Int)) : Prop := rs ≠ [] ∧ rs.length ≤ 10 ∧ ∀ r ∈ rs, r ≠ [] ∧ r.length ≤ 10 ∧ P r
def okP : Kd → Part → Prop
  | .number, .num n => n ≤ 999999999
  | .name, .word l => Nm l
  | .reason, .word l => l ∈ REASONS
  | .fin, .word l => l ∈ ENDS
  | .sheet, .word l => l ∈ FAULTS
  | .sheet, .rows rs => RowsOk Sgd rs
  | .ballots, .word l => l ∈ FAULTS
  | .ballots, .nums r => r.length ≤ 40 ∧ Sgd r
  | .shown, .word l => l ∈ FAULTS
  | .shown, .shown s t => s ≤ 9999 ∧ t.length ≤ 60 ∧ ∀ c ∈ t, 32 ≤ c ∧ c ≤ 126
  | .rows, .rows rs => RowsOk Uns rs
  | .seats, .nums r => r.length ≤ 10 ∧ Uns r
  | _, _ => False
def okAll : List Kd → List Part → Prop
  | [], [] => True
  | k :: ks, p :: ps => okP k p ∧ okAll ks ps
  | _, _ => False
structure Ent where
  w : Wd
  ps : List Part
  deriving DecidableEq
def Ent.ok (e : Ent) : Prop := okAll (pat e.w) e.ps
theorem okAll_len : ∀ {ks : List Kd} {ps : List Part}, okAll ks ps → ks.length = ps.length
  | [], [], _ => rfl
  | _ :: _, _ :: _, h => congrArg (· + 1) (okAll_len h.2)
  | [], _ :: _, h => h.elim
  | _ :: _, [], h => h.elim
theorem okAll_get : ∀ {ks : List Kd} {ps : List Part} {i : Nat} {k : Kd} {p : Part}, okAll ks ps → ks[i]? = some k → ps[i]? = some p → okP k p
  | [], [], i, k, p, _, h, _ => by simp at h
  | _ :: _, _ :: _, 0, k, p, h, h1, h2 => by
    simp at h1 h2
    rw [← h1, ← h2]
    exact h.1
  | _ :: _, _ :: _, i + 1, k, p, h, h1, h2 => okAll_get (i := i) h.2 (by simpa using h1) (by simpa using h2)
  | [], _ :: _, _, _, _, h, _, _ => h.elim
  | _ :: _, [], _, _, _, h, _, _ => h.elim
/-! ### texts -/
abbrev SEP : List Nat := [32, 47, 32]
abbrev COL : List Nat := [32, 58]
def numsT (r : List Int) : List Nat := TL.joinL [32] (r.map ntx)
def rowsT (rs : List (List Int)) : List Nat := TL.joinL SEP (rs.map numsT)
def partT : Part → Option (List Nat)
  | .num n => some (ntx n)
  | .word l => some l
  | .nums r => if r = [] then none else some (numsT r)
  | .rows rs => some (rowsT rs)
  | .shown s t => some (ntx s ++ 32 :: t)
/-- what is put behind for a part -/
def stepT (k : Kd) (p : Part) : List Nat := (if isLong k then COL else []) ++ (match partT p with
  | none => []
  | some t => 32 :: t)
def tailT : List Kd → List Part → List Nat
  | k :: ks, p :: ps => stepT k p ++ tailT ks ps
  | _, _ => []
def entT (e : Ent) : List Nat := wdT e.w ++ tailT (pat e.w) e.ps
/-! ### the signs of a number's text -/
theorem ntx_mem {x : Int} {c : Nat} (h : c ∈ ntx x) : c = 45 ∨ (48 ≤ c ∧ c ≤ 57) := by
  unfold ntx at h
  rcases List.mem_append.mp h with h | h
  · unfold sgn at h
    split at h
    · exact .inl (List.mem_singleton.mp h)
    · cases h
  · exact .inr (TL.numL_digits _ c h)
theorem numL_ne (n : Nat) : TL.numL n ≠ [] := fun e => by
  have := can_num n
  rw [e] at this
  exact absurd rfl this.ne
theorem ntx_ne (x : Int) : ntx x ≠ [] := fun e => by
  unfold ntx at e
  exact numL_ne _ (List.append_eq_nil_iff.mp e).2
theorem ntx_len {x : Int} (h : -999999999 ≤ x ∧ x ≤ 999999999) : (ntx x).length ≤ 10 ∧ (TL.numL x.natAbs).length ≤ 9 := by
  have h1 := TL.numL_len (n := x.natAbs) (k := 9) (by decide) (by omega)
  refine ⟨?_, h1⟩
  unfold ntx sgn
  rw [List.length_append]
  split
  · rw [List.length_singleton]; omega
  · rw [List.length_nil]; omega
theorem ntx_int {x : Int} (h : -999999999 ≤ x ∧ x ≤ 999999999) : intText? (S (ntx x)) = some x := by
  obtain ⟨l1, l2⟩ := ntx_len h
  by_cases hx : x < 0
  · have e : ntx x = 45 :: TL.numL x.natAbs := by unfold ntx sgn; rw [if_pos hx]; rfl
    have := intText_neg (x := S (ntx x)) (cs := TL.numL x.natAbs) (by rw [e]) (TL.numL_digits _) (numL_ne _) (by rw [S_len]; omega)
    rw [this, TL.numL_val]
    congr 1
    omega
  · have e : ntx x = TL.numL x.natAbs := by unfold ntx sgn; rw [if_neg hx]; rfl
    have := intText_digits (x := S (ntx x)) (by rw [e]; exact TL.numL_digits _) (by rw [e]; exact numL_ne _) (by rw [S_len]; omega)
    rw [this, e, TL.numL_val]
    congr 1
    omega
theorem un_ntx0 (x : Int) : un (ntx x) = TL.numL x.natAbs := by
  have := un_ntx x []
  rw [List.append_nil, List.append_nil] at this
  exact this
/-! ### parts of texts -/
theorem join_mem {sep : List Nat} {c : Nat} : ∀ {l : List (List Nat)}, c ∈ TL.joinL sep l → c ∈ sep ∨ ∃ p ∈ l, c ∈ p
  | [], h => by cases h
  | [p], h => .inr ⟨p, List.mem_singleton.mpr rfl, h⟩
  | p :: q :: r, h => by
    have h : c ∈ p ++ (sep ++ TL.joinL sep (q :: r)) := h
    rcases List.mem_append.mp h with h | h
    · exact .inr ⟨p, List.mem_cons_self .., h⟩
    · rcases List.mem_append.mp h with h | h
      · exact .inl h
      · rcases join_mem h with h | ⟨z, hz, hc⟩
        · exact .inl h
        · exact .inr ⟨z, List.mem_cons_of_mem _ hz, hc⟩
theorem numsT_mem {r : List Int} {c : Nat} (h : c ∈ numsT r) : c = 32 ∨ c = 45 ∨ (48 ≤ c ∧ c ≤ 57) := by
  rcases join_mem h with h | ⟨p, hp, hc⟩
  · exact .inl (List.mem_singleton.mp h)
  · obtain ⟨x, _, rfl⟩ := List.mem_map.mp hp
    exact .inr (ntx_mem hc)
theorem rowsT_mem {rs : List (List Int)} {c : Nat} (h : c ∈ rowsT rs) : c = 32 ∨ c = 47 ∨ c = 45 ∨ (48 ≤ c ∧ c ≤ 57) := by
  rcases join_mem h with h | ⟨p, hp, hc⟩
  · simp at h
    omega
  · obtain ⟨x, _, rfl⟩ := List.mem_map.mp hp
    have := numsT_mem hc
    omega
theorem numsT_split (r : List Int) (h : r ≠ []) : TL.spl [32] 0 [] (numsT r) = r.map ntx :=
  spl_join (sep := []) (fun e => h (List.map_eq_nil_iff.mp e)) fun p hp hc => by
    obtain ⟨x, _, rfl⟩ := List.mem_map.mp hp
    have := ntx_mem hc
    omega
/-- the second sign of sep is not in p -/
theorem pre_second {a b c : Nat} {sep r : List Nat} (hab : a ≠ b) (h : ∀ d, r.head? = some d → d ≠ b) : TL.pre (a :: b :: sep) (c :: r) = false := by
  cases hp : TL.pre (a :: b :: sep) (c :: r) with
  | false => rfl
  | true =>
    exfalso
    have e : (c :: r).take (a :: b :: sep).length = a :: b :: sep := beq_iff_eq.mp hp
    cases r with
    | nil => simp at e
    | cons d r =>
      have h2 := h d rfl
      simp at e
      exact h2 e.2.1
theorem free_second {a b : Nat} {sep : List Nat} (hab : a ≠ b) : ∀ {p : List Nat}, b ∉ p → free (a :: b :: sep) p = true
  | [], _ => rfl
  | c :: r, h => by
    show (!(TL.pre (a :: b :: sep) (c :: (r ++ a :: b :: sep))) && free (a :: b :: sep) r) = true
    rw [Bool.and_eq_true, Bool.not_eq_true']
    refine ⟨pre_second hab fun d hd => ?_, free_second hab fun hm => h (List.mem_cons_of_mem _ hm)⟩
    cases r with
    | nil =>
      have : a = d := Option.some.inj hd
      rw [← this]
      exact hab
    | cons x r =>
      have : x = d := Option.some.inj hd
      rw [← this]
      exact fun z => h (by rw [← z]; simp)
theorem none_second {a b : Nat} {sep p : List Nat} (hab : a ≠ b) (h : b ∉ p) : ∀ i, i < p.length → TL.pre (a :: b :: sep) (p.drop i) = false := fun i hi => by
  rw [List.drop_eq_getElem_cons hi]
  refine pre_second hab fun d hd => fun z => h ?_
  rw [z] at hd
  exact List.mem_of_mem_drop (List.mem_of_mem_head? hd)
theorem join_split {a b : Nat} {sep : List Nat} (hab : a ≠ b) : ∀ {l : List (List Nat)}, l ≠ [] → (∀ p ∈ l, b ∉ p) → TL.spl (a :: b :: sep) 0 [] (TL.joinL (a :: b :: sep) l) = l
  | [], h, _ => absurd rfl h
  | [p], _, h => by
    show TL.spl (a :: b :: sep) 0 [] p = [p]
    have := TL.spl_last (acc := []) (none_second (sep := sep) hab (h p (List.mem_singleton.mpr rfl)))
    rw [List.nil_append] at this
    exact this
  | p :: q :: r, _, h => by
    show TL.spl (a :: b :: sep) 0 [] (p ++ (a :: b :: sep ++ TL.joinL (a :: b :: sep) (q :: r))) = p :: q :: r
    rw [spl_free _ (List.cons_ne_nil _ _) (free_second hab (h p (List.mem_cons_self ..))), join_split hab (by simp) fun z hz => h z (List.mem_cons_of_mem _ hz)]
theorem rowsT_split (rs : List (List Int)) (h : rs ≠ []) : TL.spl SEP 0 [] (rowsT rs) = rs.map numsT :=
  join_split (by decide) (fun e => h (List.map_eq_nil_iff.mp e)) fun p hp hc => by
    obtain ⟨x, _, rfl⟩ := List.mem_map.mp hp
    have := numsT_mem hc
    omega
end My

set_option Elab.async false
set_option linter.all false
set_option maxRecDepth 100000
namespace My
open PySem PySem.Spec PyProof.Rows L2 SX
abbrev sIsWord : Stmt := topS 8
theorem scIsWord : FnScope ["text"] ["text"] (defScope sIsWord) := ⟨rfl, rfl, rfl, by decide +kernel, rfl, by decide +kernel, by decide +kernel⟩
abbrev sIsFigures : Stmt := topS 9
theorem scIsFigures : FnScope ["text"] ["text"] (defScope sIsFigures) := ⟨rfl, rfl, rfl, by decide +kernel, rfl, by decide +kernel, by decide +kernel⟩
abbrev sIsName : Stmt := topS 10
theorem scIsName : FnScope ["value"] ["value"] (defScope sIsName) := ⟨rfl, rfl, rfl, by decide +kernel, rfl, by decide +kernel, by decide +kernel⟩
abbrev sIsInteger : Stmt := topS 11
theorem scIsInteger : FnScope ["value"] ["value"] (defScope sIsInteger) := ⟨rfl, rfl, rfl, by decide +kernel, rfl, by decide +kernel, by decide +kernel⟩
abbrev sIsNumber : Stmt := topS 12
theorem scIsNumber : FnScope ["value", "least", "most"] ["value", "least", "most"] (defScope sIsNumber) := ⟨rfl, rfl, rfl, by decide +kernel, rfl, by decide +kernel, by decide +kernel⟩
theorem let_uni : ∀ i < 26, Unicode.isAlpha (97 + i) = true ∧ Unicode.isLower (97 + i) = true ∧ (Unicode.isUpper (97 + i) || Unicode.isTitle (97 + i)) = false := by decide +kernel
theorem lo_uni {c : Nat} (h : 97 ≤ c ∧ c ≤ 122) : Unicode.isAlpha c = true ∧ Unicode.isLower c = true ∧ (Unicode.isUpper c || Unicode.isTitle c) = false := by
  have := let_uni (c - 97) (by omega)
  rwa [show 97 + (c - 97) = c by omega] at this
theorem word_nm {l : List Nat} (h : Nm l) : Txt.isascii (S l) = true ∧ Txt.isalpha (S l) = true ∧ Txt.islower (S l) = true := by
  have h0 : 0 < l.length := by
    rcases Nat.eq_zero_or_pos l.length with e | e
    · exact absurd (List.length_eq_zero_iff.mp e) h.ne
    · exact e
  refine ⟨?_, ?_, ?_⟩
  · show (S l).cps.all (· < 128) = true
    simp only [S, List.all_toArray, List.all_eq_true, decide_eq_true_eq]
    exact fun c hc => by have := h.lo c hc; omega
  · unfold Txt.isalpha
    rw [Bool.and_eq_true]
    refine ⟨by rw [S_len]; exact decide_eq_true h0, ?_⟩
    show l.toArray.all Unicode.isAlpha = true
    rw [List.all_toArray, List.all_eq_true]
    exact fun c hc => (lo_uni (h.lo c hc)).1
  · unfold Txt.islower
    obtain ⟨c, cs, rfl⟩ := List.exists_cons_of_ne_nil h.ne
    simp only [S, List.any_toArray, Bool.and_eq_true, Bool.not_eq_true']
    refine ⟨?_, ?_⟩
    · rw [List.any_eq_true]
      exact ⟨c, List.mem_cons_self .., (lo_uni (h.lo c (List.mem_cons_self ..))).2.1⟩
    · rw [List.any_eq_false]
      intro d hd
      rw [(lo_uni (h.lo d hd)).2.2]
      decide
theorem line_of {n : Nat} (h : n ≤ 10000) : n ≤ sizeLine := Nat.le_trans h (by decide +kernel)
theorem small1000' {n : Nat} (h : n ≤ 10000) : n < sizeLine := Nat.lt_of_le_of_lt h (by decide)
theorem same_updF {H H' : Hp} {p : Addr} {o : HO} (np : H p = none) (s : Same H H') : Same H (upd H' p o) := fun b x e => by
  rw [upd_ne (ne_of_none e np)]
  exact s _ _ e
theorem take_snoc {α : Type} {xs : List α} {i : Nat} {x : α} (h : xs[i]? = some x) : xs.take (i + 1) = xs.take i ++ [x] := by
  rw [List.take_add_one, h]
  rfl
def wd (l : List Nat) : Bool := Txt.isascii (S l) && Txt.isalpha (S l) && Txt.islower (S l)
def spWord : Sp := fun vs H Q _ => ∃ l, vs = [.str (S l)] ∧ Q (.bl (wd l)) H
theorem wd_nm {l : List Nat} (h : Nm l) : wd l = true := by
  obtain ⟨e1, e2, e3⟩ := word_nm h
  unfold wd
  rw [e1, e2, e3]
  rfl
def spNm : Sp := fun vs H Q _ => ∃ l, vs = [.str (S l)] ∧ Nm l ∧ Q (.bl true) H
def spFig : Sp := fun vs H Q _ => ∃ l, vs = [.str (S l)] ∧ l ≠ [] ∧ NumText.AllDigits l ∧ Q (.bl true) H
/-- flat, or a list or tuple -/
def AnyV (K : PySem.W.Frag) (H : Hp) (v : V) : Prop := flat0 v ∨ ∃ a xs, v = .ref a ∧ (SqL K H a xs ∨ SqT K H a xs)
def isI : V → Bool
  | .int _ => true
  | _ => false
/-- a whole number from lo to hi -/
def inI (lo hi : Int) : V → Bool
  | .int i => decide (lo ≤ i) && decide (i ≤ hi)
  | _ => false
def spIsInt (K : PySem.W.Frag) : Sp := fun vs H Q _ => ∃ v, vs = [v] ∧ AnyV K H v ∧ Q (.bl (isI v)) H
def spIsNum (K : PySem.W.Frag) : Sp := fun vs H Q _ => ∃ v lo hi, vs = [v, .int lo, .int hi] ∧ AnyV K H v ∧ Q (.bl (inI lo hi v)) H
section
variable {P : Program} {w : World} {K : PySem.W.Frag} {mg : Str → Option Value} {base : Heap}
theorem ok_is_int {f : Addr} {fd : FuncData} {k : Nat} (F : Fun K "is_integer" "is_integer" sIsInteger f fd) (b_isinstance : mg "isinstance" = none) (b_int : mg "int" = none) (b_bool : mg "bool" = none) : FnOk P w K mg base CX0 (k + 1) f fd ["value"] (spIsInt K) := by
  refine F.ok scIsInteger (fun vs H Q E h => ?_) (fun cdv A outer s H vs Q E hr h => ?_)
  · obtain ⟨v, rfl, _⟩ := h
    rfl
  · obtain ⟨v, rfl, hv, q⟩ := h
    refine ⟨_, (pss_one (ps_ret (pe_and (pe_callB call_isi rfl b_isinstance (by decide +kernel) (pa_cons (pv 0) (pa_cons (pe_ty "int" rfl b_int (by decide +kernel)) pa_nil))) (pe_one (pe_not (pe_callB call_isi rfl b_isinstance (by decide +kernel) (pa_cons (pv 0) (pa_cons (pe_ty "bool" rfl b_bool (by decide +kernel)) pa_nil)))))))), ?_⟩
    rcases hv with fl | ⟨a, xs, rfl, hs⟩
    · have ty := ty_flat (K := K) (H := H) fl
      cases v with
      | int i => exact ⟨_, rfl, _, _, _, _, true, rfl, .ty _, ty, rfl, _, rfl, iteT ⟨_, rfl, _, _, _, _, false, rfl, .ty _, ty, rfl, _, rfl, q⟩⟩
      | bl b => exact ⟨_, rfl, _, _, _, _, true, rfl, .ty _, ty, rfl, _, rfl, iteT ⟨_, rfl, _, _, _, _, true, rfl, .ty _, ty, rfl, _, rfl, q⟩⟩
      | non => exact ⟨_, rfl, _, _, _, _, false, rfl, .ty _, ty, rfl, _, rfl, iteF q⟩
      | str z => exact ⟨_, rfl, _, _, _, _, false, rfl, .ty _, ty, rfl, _, rfl, iteF q⟩
      | _ => exact fl.elim
    · rcases hs with hs | hs
      · exact ⟨_, rfl, _, _, _, _, false, rfl, .ty _, ty_list hs, rfl, _, rfl, iteF q⟩
      · exact ⟨_, rfl, _, _, _, _, false, rfl, .ty _, ty_tup hs, rfl, _, rfl, iteF q⟩
theorem ok_is_num {f fI : Addr} {fd fdI : FuncData} {k : Nat} (F : Fun K "is_number" "is_number" sIsNumber f fd) (II : Cal P w K mg base "is_integer" (k + 1) ["value"] (spIsInt K) fI fdI) : FnOk P w K mg base CX0 (k + 2) f fd ["value", "least", "most"] (spIsNum K) := by
  refine F.ok scIsNumber (fun vs H Q E h => ?_) (fun cdv A outer s H vs Q E hr h => ?_)
  · obtain ⟨v, lo, hi, rfl, _⟩ := h
    rfl
  · obtain ⟨v, lo, hi, rfl, hv, q⟩ := h
    refine ⟨_, (pss_one (ps_ret (pe_and (pe_call II.ok (hr.mono (by omega)) rfl II.g II.kp II.b .nil pass0 (pa_cons (pv 0) pa_nil)) (pe_one (pe_chain op_le op_le (pv 1) (pv 0) (pv 2)))))), ?_⟩
    refine ⟨_, rfl, v, rfl, hv, _, rfl, ?_⟩
    cases v with
    | int i =>
      refine iteT ⟨_, rfl, _, rfl, _, _, rfl, rfl, _, rfl, ite2 (fun c => ?_) (fun c => ?_)⟩
      · refine ⟨_, rfl, _, _, rfl, rfl, ?_⟩
        have e : inI lo hi (.int i) = decide (i ≤ hi) := by
          show (decide (lo ≤ i) && _) = _
          rw [c, Bool.true_and]
        rw [e] at q
        exact q
      · have e : inI lo hi (.int i) = false := by
          show (decide (lo ≤ i) && _) = _
          rw [Bool.eq_false_iff.mpr c, Bool.false_and]
        rw [e] at q
        exact q
    | _ => exact iteF q
theorem ok_word {f : Addr} {fd : FuncData} {k : Nat} (F : Fun K "is_word" "is_word" sIsWord f fd) : FnOk P w K mg base CX0 (k + 1) f fd ["text"] spWord := by
  refine F.ok scIsWord (fun vs H Q E h => ?_) (fun cdv A outer s H vs Q E hr h => ?_)
  · obtain ⟨z, rfl, _⟩ := h
    rfl
  · obtain ⟨l, rfl, q⟩ := h
    refine ⟨_, (pss_one (ps_ret (pe_and (pe_m0 PySem.F.slot_str_isascii PySem.F.type_str_isascii mt_isascii (pv 0)) (pe_and (pe_m0 PySem.F.slot_str_isalpha PySem.F.type_str_isalpha mt_isalpha (pv 0)) (pe_one (pe_m0 PySem.F.slot_str_islower PySem.F.type_str_islower mt_islower (pv 0))))))), ?_⟩
    unfold wd at q
    refine ⟨_, rfl, ⟨_, rfl⟩, S l, rfl, rfl, trivial, _, rfl, ?_⟩
    cases e1 : Txt.isascii (S l) with
    | false =>
      rw [e1] at q
      exact iteF q
    | true =>
      rw [e1] at q
      refine iteT ⟨_, rfl, ⟨_, rfl⟩, S l, rfl, rfl, trivial, _, rfl, ?_⟩
      cases e2 : Txt.isalpha (S l) with
      | false =>
        rw [e2] at q
        exact iteF q
      | true =>
        rw [e2] at q
        exact iteT ⟨_, rfl, ⟨_, rfl⟩, S l, rfl, rfl, trivial, q⟩
theorem ok_name {f fW : Addr} {fd fdW : FuncData} {k : Nat} {tk : Tok} (F : Fun K "is_name" "is_name" sIsName f fd) (Iw : Cal P w K mg base "is_word" (k + 1) ["text"] spWord fW fdW) (b_isinstance : mg "isinstance" = none) (b_str : mg "str" = none) (b_len : mg "len" = none) (g_LONGEST_NAME : mg "LONGEST_NAME" = some (.int 8 tk)) :
    FnOk P w K mg base CX0 (k + 2) f fd ["value"] spNm := by
  refine F.ok scIsName (fun vs H Q E h => ?_) (fun cdv A outer s H vs Q E hr h => ?_)
  · obtain ⟨v, rfl, _⟩ := h
    rfl
  · obtain ⟨l, rfl, hl, q⟩ := h
    refine ⟨_, (pss_one (ps_ret (pe_and (pe_callB call_isi rfl b_isinstance (by decide +kernel) (pa_cons (pv 0) (pa_cons (pe_ty "str" rfl b_str (by decide +kernel)) pa_nil))) (pe_and (pe_cmpR op_le (pe_callB call_len rfl b_len (by decide +kernel) (pa_cons (pv 0) pa_nil)) (pe_glob (v := .int 8) rfl g_LONGEST_NAME ⟨_, rfl⟩) rfl) (pe_one (pe_call Iw.ok (hr.mono (by omega)) rfl Iw.g Iw.kp Iw.b .nil pass0 (pa_cons (pv 0) pa_nil))))))), ?_⟩
    refine ⟨_, rfl, _, _, _, _, _, rfl, .ty _, .base (.str _), rfl, _, rfl, iteT ⟨_, rfl, _, _, rfl, ⟨line_of (by rw [S_len]; have := hl.le; omega), rfl⟩, _, _, rfl, rfl, _, rfl, ?_⟩⟩
    have h8 : decide (((S l).length : Int) ≤ 8) = true := decide_eq_true (by rw [S_len]; have := hl.le; omega)
    rw [h8]
    exact iteT ⟨_, rfl, l, rfl, by rw [wd_nm hl]; exact q⟩
theorem ok_figures {f : Addr} {fd : FuncData} {k : Nat} (F : Fun K "is_figures" "is_figures" sIsFigures f fd) : FnOk P w K mg base CX0 (k + 1) f fd ["text"] spFig := by
  refine F.ok scIsFigures (fun vs H Q E h => ?_) (fun cdv A outer s H vs Q E hr h => ?_)
  · obtain ⟨v, rfl, _⟩ := h
    rfl
  · obtain ⟨l, rfl, h1, h2, q⟩ := h
    refine ⟨_, (pss_one (ps_ret (pe_and (pe_m0 PySem.F.slot_str_isascii PySem.F.type_str_isascii mt_isascii (pv 0)) (pe_one (pe_m0 PySem.F.slot_str_isdigit PySem.F.type_str_isdigit mt_isdigit (pv 0)))))), ?_⟩
    have e := figures_S l
    rw [decide_eq_true (show l ≠ [] ∧ NumText.AllDigits l from ⟨h1, h2⟩), Bool.and_eq_true] at e
    refine ⟨_, rfl, ⟨_, rfl⟩, S l, rfl, rfl, trivial, _, rfl, ?_⟩
    rw [e.1]
    refine iteT ⟨_, rfl, ⟨_, rfl⟩, S l, rfl, rfl, trivial, ?_⟩
    rw [e.2]
    exact q
end
end My

set_option Elab.async false
set_option linter.all false
set_option maxRecDepth 100000
namespace My
open PySem PySem.Spec PyProof.Rows L2 SX
abbrev sWordsText : Stmt := topS 35
theorem scWordsText : FnScope ["values", "value"] ["values"] (defScope sWordsText) := ⟨rfl, rfl, rfl, by decide +kernel, rfl, by decide +kernel, by decide +kernel⟩
abbrev tx (l : List Nat) : V := .str (S l)
def rStr1 : List V → Hp → VK → Prop := fun xs H Q => (∃ i, xs = [.int i] ∧ i.natAbs.log2 < 1920 ∧ Q (.str (toString i)) H) ∨ ∃ a, xs = [.str a] ∧ Q (.str a) H
theorem call_str1 {X : Cx} : CallR X (.type "str") rStr1 := fun pins s σ H xs us Q I r h => by
  rcases h with h | h
  · exact call_str_int pins s σ H xs us Q I r h
  · exact SkE.call_str_str pins s σ H xs us Q I r h
/-- the signs of a number or a text -/
def valT : V → List Nat
  | .int i => ntx i
  | .str z => cd z
  | _ => []
/-- a number or a text, not too long -/
def ValOk : V → Prop
  | .int i => -999999999 ≤ i ∧ i ≤ 999999999
  | .str z => z.length ≤ 60
  | _ => False
theorem valT_len {v : V} (h : ValOk v) : (valT v).length ≤ 60 := by
  cases v with
  | int i => have := ntx_len h; show (ntx i).length ≤ 60; omega
  | str z => have : z.length ≤ 60 := h; show z.cps.toList.length ≤ 60; simpa [Str.length] using this
  | _ => exact h.elim
theorem log9 {i : Int} (h : -999999999 ≤ i ∧ i ≤ 999999999) : i.natAbs.log2 < 1920 := by
  have : i.natAbs.log2 ≤ 30 := by
    by_cases z : i.natAbs = 0
    · rw [z]; decide
    · have := (Nat.log2_lt z (k := 31)).mpr (by omega)
      omega
  omega
theorem sum_txt {m : Nat} : ∀ {ls : List (List Nat)}, (∀ l ∈ ls, l.length ≤ m) → ((ls.map S).map (·.length)).sum ≤ ls.length * m
  | [], _ => by simp
  | a :: ls, h => by
    have := sum_txt (ls := ls) fun l hl => h l (List.mem_cons_of_mem _ hl)
    have h1 := h a List.mem_cons_self
    rw [List.map_cons, List.map_cons, List.sum_cons, S_len, List.length_cons, Nat.succ_mul]
    omega
theorem join_len {m : Nat} {sep : List Nat} : ∀ {ls : List (List Nat)}, (∀ l ∈ ls, l.length ≤ m) → (TL.joinL sep ls).length ≤ ls.length * (m + sep.length)
  | [], _ => by show ([] : List Nat).length ≤ _; simp
  | [a], h => by
    show a.length ≤ _
    have h1 := h a List.mem_cons_self
    simp
    omega
  | a :: b :: ls, h => by
    have := join_len (sep := sep) (ls := b :: ls) fun l hl => h l (List.mem_cons_of_mem _ hl)
    have h1 := h a List.mem_cons_self
    show (a ++ (sep ++ TL.joinL sep (b :: ls))).length ≤ _
    rw [List.length_append, List.length_append, List.length_cons (as := b :: ls), Nat.succ_mul]
    omega
def spWT (K : PySem.W.Frag) : Sp := fun vs H Q _ => ∃ a xs, vs = [.ref a] ∧ SqT K H a xs ∧ xs.length ≤ 60 ∧ (∀ x ∈ xs, ValOk x) ∧ ∀ H', Same H H' → Q (tx (TL.joinL [32] (xs.map valT))) H'
section
variable {P : Program} {w : World} {K : PySem.W.Frag} {mg : Str → Option Value} {base : Heap}
theorem ok_words {f : Addr} {fd : FuncData} {k : Nat} (F : Fun K "words_text" "words_text" sWordsText f fd) (b_str : mg "str" = none) : FnOk P w K mg base CX0 (k + 1) f fd ["values"] (spWT K) := by
  refine F.ok scWordsText (fun vs H Q E h => ?_) (fun cdv A outer s H vs Q E hr h => ?_)
  · obtain ⟨a, xs, rfl, _⟩ := h
    rfl
  · obtain ⟨a, xs, rfl, hs, hl, hv, q⟩ := h
    refine ⟨_, (pss_one (ps_ret (pe_join pe_str (pe_lc (own := [("value", 1)]) (g := gName 1) (tt := tYes) (te := tCB rStr1 (tCons (tVar 1) tNil)) rfl scWordsText.nd (pi_tup (pv 0)) (blkOk_by (own := [("value", 1)]) (N := ["values", "value"]) (sc := defScope sWordsText) (by decide +kernel)) (fun _ _ _ _ _ => (pg_name (i := 1) scWordsText.nd rfl (.inl rfl) (.inr rfl))) (fun _ _ _ _ _ => pts_nil) (fun _ _ _ _ _ => (pe_callTy call_str1 rfl b_str (by decide +kernel) (pa_cons (pv 1) pa_nil))))))), ?_⟩
    refine ⟨⟨_, rfl⟩, _, rfl, a, rfl, ⟨_, hs⟩, fun D nD => lc_it walk_tup (fun i G => Same H G ∧ G D = some (.lst ((xs.take i).map fun x => tx (valT x)))) ⟨same_upd nD, upd_same⟩ (fun i G _ h => seqT_same h.1 hs) ?_ ?_⟩
    · rintro i x G1 G hi ⟨sG, gD⟩ ⟨rfl, ex⟩
      refine ⟨rfl, ?_⟩
      unfold tYes
      have hx := hv x (List.mem_of_getElem? ex)
      have push : ∃ acc, G D = some (.lst acc) ∧ acc.length < sizeLine ∧ Same H (upd G D (.lst (acc ++ [tx (valT x)]))) ∧ (upd G D (.lst (acc ++ [tx (valT x)]))) D = some (.lst ((xs.take (i + 1)).map fun x => tx (valT x))) := by
        refine ⟨_, gD, ?_, same_updF nD sG, ?_⟩
        · rw [List.length_map, List.length_take]
          exact small1000' (by omega)
        · rw [upd_same, take_snoc ex, List.map_append]
          rfl
      refine iteT ⟨_, rfl, ?_⟩
      cases x with
      | int j =>
        refine .inl ⟨j, rfl, log9 hx, ?_⟩
        have e : V.str (toString j) = tx (ntx j) := congrArg V.str (int_text j)
        rw [e]
        exact push
      | str z =>
        refine .inr ⟨z, rfl, ?_⟩
        have e : V.str z = tx (cd z) := congrArg V.str (S_cd z).symm
        rw [e]
        exact push
      | _ => exact hx.elim
    · rintro G ⟨sG, gD⟩
      rw [List.take_length] at gD
      have hb := sum_txt (ls := xs.map valT) (m := 60) fun l hl => by
        obtain ⟨x, hx, rfl⟩ := List.mem_map.mp hl
        exact valT_len (hv x hx)
      rw [List.length_map] at hb
      refine ⟨_, D, (xs.map valT).map S, rfl, rfl, .inl (SqL.of ?_), ?_, ?_⟩
      · rw [gD, List.map_map, List.map_map]
        rfl
      · rw [List.length_map, List.length_map]
        have : (" " : Str).length = 1 := rfl
        rw [this]
        omega
      · rw [show (" " : Str) = S [32] from rfl, join_S]
        exact q G sG
end
end My

set_option Elab.async false
set_option linter.all false
set_option maxRecDepth 100000
namespace My
open PySem PySem.Spec PyProof.Rows L2 SX
abbrev sPartText : Stmt := topS 34
theorem scPartText : FnScope ["kind", "part", "row"] ["kind", "part"] (defScope sPartText) := ⟨rfl, rfl, rfl, by decide +kernel, rfl, by decide +kernel, by decide +kernel⟩
abbrev intsI (r : List Int) : List V := r.map V.int
/-- a part stands at v -/
def PartAt (H : Hp) (v : V) : Part → Prop
  | .num n => v = .int (n : Nat)
  | .word l => v = tx l
  | .nums r => ∃ a, v = .ref a ∧ H a = some (.tup (intsI r))
  | .rows rs => ∃ a ts, v = .ref a ∧ H a = some (.tup (ts.map V.ref)) ∧ Paired (fun t r => H t = some (.tup (intsI r))) ts rs
  | .shown s t => ∃ a, v = .ref a ∧ H a = some (.tup [.int (s : Nat), tx t])
theorem PartAt.same {H H' : Hp} {v : V} (s : Same H H') : ∀ {p : Part}, PartAt H v p → PartAt H' v p
  | .num _, h => h
  | .word _, h => h
  | .nums _, ⟨a, e, h⟩ => ⟨a, e, s _ _ h⟩
  | .rows _, ⟨a, ts, e, h, z⟩ => ⟨a, ts, e, s _ _ h, Paired.mapP z fun _ _ y => s _ _ y⟩
  | .shown _ _, ⟨a, e, h⟩ => ⟨a, e, s _ _ h⟩
/-- texts of which we know that they are laid -/
def Low (l : List Nat) : Prop := ∀ c ∈ l, c < 1114112
theorem low_nm {l : List Nat} (h : Nm l) : Low l := fun c hc => by have := h.lo c hc; omega
theorem low_words {L : List (List Nat)} (hL : (L.all fun l => l.all fun c => decide (c < 1114112)) = true) {l : List Nat} (h : l ∈ L) : Low l := fun c hc => of_decide_eq_true (List.all_eq_true.mp (List.all_eq_true.mp hL l h) c hc)
def pdI (r : List Int) : PyData := .tuple (r.map PyData.int)
def pdP : Part → PyData
  | .num n => .int (n : Nat)
  | .word l => .str (S l)
  | .nums r => pdI r
  | .rows rs => .tuple (rs.map pdI)
  | .shown s t => .tuple [.int (s : Nat), .str (S t)]
theorem dp_ints {K : PySem.W.Frag} {H : Hp} : ∀ r : List Int, DpAll K H (intsI r) (r.map PyData.int)
  | [] => .nil
  | x :: r => .cons (.int x) (dp_ints r)
theorem dp_rows {K : PySem.W.Frag} {H : Hp} {ts : List Addr} {rs : List (List Int)} (h : Paired (fun t r => H t = some (.tup (intsI r))) ts rs) : DpAll K H (ts.map V.ref) (rs.map pdI) := by
  induction h with
  | nil => exact .nil
  | cons e _ ih => exact .cons (.tup (SqT.of e) (dp_ints _)) ih
theorem dp_part {K : PySem.W.Frag} {H : Hp} {v : V} : ∀ {p : Part}, PartAt H v p → Dp K H v (pdP p)
  | .num n, h => by
    have h : v = .int (n : Nat) := h
    rw [h]
    exact .int _
  | .word l, h => by
    have h : v = tx l := h
    rw [h]
    exact .str _
  | .nums r, ⟨a, e, h⟩ => by
    rw [e]
    exact .tup (SqT.of h) (dp_ints r)
  | .rows rs, ⟨a, ts, e, h, z⟩ => by
    rw [e]
    exact .tup (SqT.of h) (dp_rows z)
  | .shown s t, ⟨a, e, h⟩ => by
    rw [e]
    exact .tup (SqT.of h) (.cons (.int _) (.cons (.str _) .nil))
theorem strOk_S {l : List Nat} (h : Low l) : PyData.strOk (S l) = true := by
  unfold PyData.strOk
  rw [Array.all_eq_true]
  intro i hi
  have hi' : i < l.length := by simpa using hi
  have := h l[i] (List.getElem_mem hi')
  simpa using this
theorem lay_ints : ∀ r : List Int, PyData.canLayAll0 (r.map PyData.int) = true ∧ PyData.depthAll (r.map PyData.int) = 0
  | [] => ⟨by simp [PyData.canLayAll0], by simp [PyData.depthAll]⟩
  | k :: l => by
    obtain ⟨h1, h2⟩ := lay_ints l
    exact ⟨by simp [PyData.canLayAll0, PyData.canLay0, h1], by simp [PyData.depthAll, PyData.depth, h2]⟩
theorem lay_rows : ∀ rs : List (List Int), PyData.canLayAll0 (rs.map pdI) = true ∧ PyData.depthAll (rs.map pdI) ≤ 1
  | [] => ⟨by simp [PyData.canLayAll0], by simp [PyData.depthAll]⟩
  | r :: rs => by
    obtain ⟨h1, h2⟩ := lay_rows rs
    obtain ⟨h3, h4⟩ := lay_ints r
    refine ⟨by simp [PyData.canLayAll0, pdI, PyData.canLay0, h1, h3], ?_⟩
    rw [List.map_cons]
    unfold PyData.depthAll
    have : (pdI r).depth = 1 := by simp [pdI, PyData.depth, h4]
    rw [this]
    exact Nat.max_le.mpr ⟨Nat.le_refl _, h2⟩
/-- what is laid of a part -/
def LowP : Part → Prop
  | .word l => Low l
  | .shown _ t => Low t
  | _ => True
theorem lay_part : ∀ {p : Part}, LowP p → (pdP p).canLay0 = true ∧ (pdP p).depth ≤ 2
  | .num n, _ => ⟨by simp [pdP, PyData.canLay0], by simp [pdP, PyData.depth]⟩
  | .word l, h => ⟨by simp [pdP, PyData.canLay0, strOk_S h], by simp [pdP, PyData.depth]⟩
  | .nums r, _ => by
    obtain ⟨h1, h2⟩ := lay_ints r
    exact ⟨by simp [pdP, pdI, PyData.canLay0, h1], by simp [pdP, pdI, PyData.depth, h2]⟩
  | .rows rs, _ => by
    obtain ⟨h1, h2⟩ := lay_rows rs
    exact ⟨by simp [pdP, PyData.canLay0, h1], by simp [pdP, PyData.depth]; omega⟩
  | .shown s t, h => ⟨by simp [pdP, PyData.canLay0, PyData.canLayAll0, strOk_S h], by simp [pdP, PyData.depth, PyData.depthAll]⟩
theorem shaped_part {p : Part} (h : LowP p) : SeqAt.shaped (pdP p) = true := by
  obtain ⟨h1, h2⟩ := lay_part h
  unfold SeqAt.shaped
  rw [h1, decide_eq_true (by omega)]
  rfl
theorem ok_low {k : Kd} {p : Part} (h : okP k p) : LowP p := by
  cases p with
  | word l =>
    cases k with
    | name => exact low_nm h
    | reason => exact low_words (by decide +kernel) (show l ∈ REASONS from h)
    | fin => exact low_words (by decide +kernel) (show l ∈ ENDS from h)
    | sheet => exact low_words (by decide +kernel) (show l ∈ FAULTS from h)
    | ballots => exact low_words (by decide +kernel) (show l ∈ FAULTS from h)
    | shown => exact low_words (by decide +kernel) (show l ∈ FAULTS from h)
    | _ => exact h.elim
  | shown s t =>
    cases k with
    | shown => exact fun c hc => by have := h.2.2 c hc; omega
    | _ => exact h.elim
  | _ => trivial
theorem eqv_unit {k : Kd} {p : Part} (h : okP k p) : PyData.eqv (pdP p) (.tuple []) = decide (partT p = none) := by
  cases p with
  | num n => simp [pdP, PyData.eqv, partT]
  | word l => simp [pdP, PyData.eqv, partT]
  | nums r =>
    cases r with
    | nil => simp [pdP, pdI, PyData.eqv, PyData.eqvAll, partT]
    | cons a r => simp [pdP, pdI, PyData.eqv, PyData.eqvAll, partT]
  | rows rs =>
    have hr : rs ≠ [] := by
      cases k <;> first | exact h.1 | exact h.elim
    cases rs with
    | nil => exact absurd rfl hr
    | cons a rs => simp [pdP, PyData.eqv, PyData.eqvAll, partT]
  | shown s t => simp [pdP, PyData.eqv, PyData.eqvAll, partT]
theorem ty_part {K : PySem.W.Frag} {H : Hp} {v : V} : ∀ {p : Part}, PartAt H v p → TyX K H v (.type (match p with | .num _ => "int" | .word _ => "str" | _ => "tuple"))
  | .num n, h => by
    have h : v = .int (n : Nat) := h
    rw [h]
    exact .base (.int _)
  | .word l, h => by
    have h : v = tx l := h
    rw [h]
    exact .base (.str _)
  | .nums r, ⟨a, e, h⟩ => by
    rw [e]
    exact ty_tup (SqT.of h)
  | .rows rs, ⟨a, ts, e, h, z⟩ => by
    rw [e]
    exact ty_tup (SqT.of h)
  | .shown s t, ⟨a, e, h⟩ => by
    rw [e]
    exact ty_tup (SqT.of h)
def LPV : List V := [.str "sheet", .str "ballots", .str "shown", .str "rows", .str "seats"]
theorem in_long (k : Kd) : inV (.str (kdS k)) LPV = isLong k := by cases k <;> decide +kernel
theorem in_rows (k : Kd) : inV (.str (kdS k)) [.str "sheet", .str "rows"] = decide (k = .sheet ∨ k = .rows) := by cases k <;> decide +kernel
def vO : Option (List Nat) → V
  | none => .non
  | some t => tx t
theorem paired_at {α β : Type} {F : α → β → Prop} : ∀ {l : List α} {m : List β} {i : Nat} {y : β}, Paired F l m → m[i]? = some y → ∃ x, l[i]? = some x ∧ F x y
  | _, _, _, _, .nil, e => by simp at e
  | _, _, 0, y, .cons (a := a) h _, e => ⟨a, rfl, by rw [List.getElem?_cons_zero] at e; cases e; exact h⟩
  | _, _, i + 1, y, .cons _ t, e => by
    obtain ⟨x, e1, e2⟩ := paired_at (i := i) t (by simpa using e)
    exact ⟨x, by simpa using e1, e2⟩
def spPT (K : PySem.W.Frag) : Sp := fun vs H Q _ => ∃ k v p, vs = [.str (kdS k), v] ∧ okP k p ∧ PartAt H v p ∧ ∀ H', Same H H' → Q (vO (partT p)) H'
theorem vals_ints (r : List Int) : (intsI r).map valT = r.map ntx := by rw [List.map_map]; rfl
theorem sgd_row {k : Kd} {rs : List (List Int)} (h : okP k (.rows rs)) : rs ≠ [] ∧ rs.length ≤ 10 ∧ ∀ r ∈ rs, r ≠ [] ∧ r.length ≤ 10 ∧ Sgd r := by
  cases k with
  | sheet => exact h
  | rows => exact ⟨h.1, h.2.1, fun r hr => ⟨(h.2.2 r hr).1, (h.2.2 r hr).2.1, fun x hx => by have := (h.2.2 r hr).2.2 x hx; omega⟩⟩
  | _ => exact h.elim
theorem numsT_len {r : List Int} (h : Sgd r) : (numsT r).length ≤ r.length * 11 := by
  have := join_len (sep := [32]) (ls := r.map ntx) (m := 10) fun l hl => by
    obtain ⟨x, hx, rfl⟩ := List.mem_map.mp hl
    exact (ntx_len (h x hx)).1
  rw [List.length_map] at this
  exact this
section
variable {P : Program} {w : World} {K : PySem.W.Frag} {mg : Str → Option Value} {base : Heap}
theorem ok_part_text {f fW aLP : Addr} {fd fdW : FuncData} {k : Nat} (F : Fun K "part_text" "part_text" sPartText f fd) (Wt : Cal P w K mg base "words_text" (k + 1) ["values"] (spWT K) fW fdW) (b_isinstance : mg "isinstance" = none) (b_str : mg "str" = none) (g_LONG_PARTS : mg "LONG_PARTS" = some (.ref aLP)) (hLP : ∀ H, SqT K H aLP LPV) : FnOk P w K mg base CX0 (k + 2) f fd ["kind", "part"] (spPT K) := by
  refine F.ok scPartText (fun vs H Q E h => ?_) (fun cdv A outer s H vs Q E hr h => ?_)
  · obtain ⟨k, v, p, rfl, _⟩ := h
    rfl
  · obtain ⟨k, v, p, rfl, hok, hp, q⟩ := h
    refine ⟨_, (pss_cons (ps_if (pt_cmpR (op_eqD hr.units) (pv 1) (pe_tup pa_nil) rfl) (pss_one (ps_ret pe_non)) pss_nil)
      (pss_cons (ps_if (pt_val (pe_callB call_isi rfl b_isinstance (by decide +kernel) (pa_cons (pv 1) (pa_cons (pe_ty "str" rfl b_str (by decide +kernel)) pa_nil)))) (pss_one (ps_ret (pv 1))) pss_nil)
      (pss_cons (ps_if (pt_cmpR op_in_seq (pv 0) (pe_tup (pa_cons pe_str (pa_cons pe_str pa_nil))) rfl) (pss_one (ps_ret (pe_join pe_str (pe_lc (own := [("row", 2)]) (g := gName 2) (tt := tYes) (te := tCall (spWT K) [] E0 (tCons (tVar 2) tNil)) rfl scPartText.nd (pi_tup (pv 1)) (blkOk_by (own := [("row", 2)]) (N := ["kind", "part", "row"]) (sc := defScope sPartText) (by decide +kernel)) (fun _ _ _ _ _ => (pg_name (i := 2) scPartText.nd rfl (.inl rfl) (.inr rfl))) (fun _ _ _ _ _ => pts_nil) (fun _ _ _ _ _ => (pe_call Wt.ok (hr.mono (by omega)) rfl Wt.g Wt.kp Wt.b .nil pass0 (pa_cons (pv 2) pa_nil))))))) pss_nil)
      (pss_one (ps_ret (pe_ifExp (pt_cmpR op_in_seq (pv 0) (pe_glob (v := .ref aLP) rfl g_LONG_PARTS rfl) rfl) (pe_call Wt.ok (hr.mono (by omega)) rfl Wt.g Wt.kp Wt.b .nil pass0 (pa_cons (pv 1) pa_nil)) (pe_callTy call_str_int rfl b_str (by decide +kernel) (pa_cons (pv 1) pa_nil)))))))), ?_⟩
    refine ⟨_, rfl, Nat.zero_le _, fun z nz => ⟨_, _, dp_part (hp.same (same_upd nz)), .tup (SqT.of upd_same) .nil, shaped_part (ok_low hok), by decide +kernel, ?_⟩⟩
    have s1 : Same H (upd H z (.tup [])) := same_upd nz
    have hp1 := hp.same s1
    generalize upd H z (.tup []) = H1 at s1 hp1 ⊢
    rw [eqv_unit hok]
    refine ⟨_, rfl, ite2 (fun e => ?_) (fun e => ?_)⟩
    · have e := of_decide_eq_true e
      rw [e] at q
      exact q H1 s1
    have hne : partT p ≠ none := fun z => e (decide_eq_true z)
    have ty := ty_part (K := K) hp1
    cases p with
    | word l =>
      have hv : v = tx l := hp
      subst hv
      exact ⟨_, rfl, _, _, _, _, _, rfl, .ty _, ty, rfl, _, rfl, iteT ⟨_, rfl, q H1 s1⟩⟩
    | num n =>
      have hv : v = .int (n : Nat) := hp
      subst hv
      have hk : k = .number := by cases k <;> first | rfl | exact hok.elim
      subst hk
      have hn : n ≤ 999999999 := hok
      refine ⟨_, rfl, _, _, _, _, _, rfl, .ty _, ty, rfl, _, rfl, iteF ⟨_, rfl, (by show 2 ≤ sizeLine; decide), fun t nt => ⟨t, _, rfl, .inr (SqT.of upd_same), rfl, rfl, _, rfl, iteF ⟨_, rfl, aLP, _, rfl, .inr (hLP _), rfl, by decide +kernel, _, rfl, iteF ⟨_, rfl, _, rfl, log9 (by omega), ?_⟩⟩⟩⟩⟩
      rw [show V.str (toString ((n : Nat) : Int)) = tx (ntx (n : Nat)) from congrArg V.str (int_text _)]
      exact q _ (s1.trans (same_upd nt))
    | nums r =>
      obtain ⟨a, rfl, ha⟩ := hp1
      have hr : r.length ≤ 40 ∧ Sgd r := by
        cases k with
        | ballots => exact hok
        | seats => exact ⟨by have := hok.1; omega, fun x hx => by have := hok.2 x hx; omega⟩
        | _ => exact hok.elim
      have hk : ¬ (k = .sheet ∨ k = .rows) ∧ isLong k = true := by cases k <;> first | (exact ⟨by decide, rfl⟩) | exact hok.elim
      have hn : r ≠ [] := fun e => hne (by rw [e]; rfl)
      refine ⟨_, rfl, _, _, _, _, _, rfl, .ty _, ty, rfl, _, rfl, iteF ⟨_, rfl, (by show 2 ≤ sizeLine; decide), fun t nt => ⟨t, _, rfl, .inr (SqT.of upd_same), rfl, rfl, ?_⟩⟩⟩
      have s2 : Same H1 (upd H1 t (.tup [.str "sheet", .str "rows"])) := same_upd nt
      rw [if_neg (by decide), in_rows, decide_eq_false hk.1]
      refine ⟨_, rfl, iteF ⟨_, rfl, aLP, _, rfl, .inr (hLP _), rfl, by decide +kernel, ?_⟩⟩
      rw [if_neg (by decide), in_long, hk.2]
      refine ⟨_, rfl, iteT ⟨_, rfl, a, _, rfl, SqT.of (s2 _ _ ha), by rw [List.length_map]; omega, fun x hx => ?_, fun H3 s3 => ?_⟩⟩
      · obtain ⟨y, hy, rfl⟩ := List.mem_map.mp hx
        exact hr.2 y hy
      · rw [vals_ints]
        have e : partT (.nums r) = some (numsT r) := if_neg hn
        rw [e] at q
        exact q H3 (s1.trans (s2.trans s3))
    | rows rs =>
      obtain ⟨a, ts, rfl, ha, hts⟩ := hp1
      obtain ⟨r1, r2, r3⟩ := sgd_row hok
      have hk : k = .sheet ∨ k = .rows := by cases k <;> first | exact .inl rfl | exact .inr rfl | exact hok.elim
      have htl := hts.length
      refine ⟨_, rfl, _, _, _, _, _, rfl, .ty _, ty, rfl, _, rfl, iteF ⟨_, rfl, (by show 2 ≤ sizeLine; decide), fun t nt => ⟨t, _, rfl, .inr (SqT.of upd_same), rfl, rfl, ?_⟩⟩⟩
      have s2 : Same H1 (upd H1 t (.tup [.str "sheet", .str "rows"])) := same_upd nt
      rw [if_neg (by decide), in_rows, decide_eq_true hk]
      have ha2 := s2 _ _ ha
      have hts2 := Paired.mapP hts fun t r e => s2 _ _ e
      generalize upd H1 t (.tup [.str "sheet", .str "rows"]) = H2 at s2 ha2 hts2 ⊢
      refine ⟨_, rfl, iteT ⟨⟨_, rfl⟩, _, rfl, a, rfl, ⟨_, SqT.of ha2⟩, fun D nD => lc_it walk_tup (fun i G => Same H2 G ∧ G D = some (.lst ((rs.take i).map fun r => tx (numsT r)))) ⟨same_upd nD, upd_same⟩ (fun i G _ h => SqT.of (h.1 _ _ ha2)) ?_ ?_⟩⟩
      · rintro i x G1 G hi ⟨sG, gD⟩ ⟨rfl, ex⟩
        rw [List.length_map] at hi
        have er : rs[i]? = some rs[i] := List.getElem?_eq_getElem (by omega)
        obtain ⟨ta, ea, hta⟩ : ∃ ta, ts[i]? = some ta ∧ H2 ta = some (.tup (intsI rs[i])) := by
          obtain ⟨ta, e1, e2⟩ := paired_at hts2 er
          exact ⟨ta, e1, e2⟩
        rw [List.getElem?_map, ea] at ex
        cases ex
        obtain ⟨p1, p2, p3⟩ := r3 _ (List.mem_of_getElem? er)
        refine ⟨rfl, ?_⟩
        unfold tYes
        refine iteT ⟨_, rfl, ta, _, rfl, SqT.of (sG _ _ hta), by rw [List.length_map]; omega, fun x hx => ?_, fun G3 s3 => ?_⟩
        · obtain ⟨y, hy, rfl⟩ := List.mem_map.mp hx
          exact p3 y hy
        · rw [vals_ints]
          refine ⟨_, s3 _ _ gD, ?_, same_updF nD (sG.trans s3), ?_⟩
          · rw [List.length_map, List.length_take]
            exact small1000' (by omega)
          · rw [upd_same, take_snoc er, List.map_append]
            rfl
      · rintro G ⟨sG, gD⟩
        rw [List.length_map, htl, List.take_length] at gD
        have hb := sum_txt (ls := rs.map numsT) (m := 110) fun l hl => by
          obtain ⟨r, hr, rfl⟩ := List.mem_map.mp hl
          have := numsT_len (r3 r hr).2.2
          have := (r3 r hr).2.1
          omega
        rw [List.length_map] at hb
        refine ⟨_, D, (rs.map numsT).map S, rfl, rfl, .inl (SqL.of ?_), ?_, ?_⟩
        · rw [gD, List.map_map, List.map_map]
          rfl
        · rw [List.length_map, List.length_map]
          have : (" / " : Str).length = 3 := rfl
          rw [this]
          omega
        · rw [show (" / " : Str) = S SEP from rfl, join_S]
          exact q G (s1.trans (s2.trans sG))
    | shown n t =>
      obtain ⟨a, rfl, ha⟩ := hp1
      have hk : k = .shown := by cases k <;> first | rfl | exact hok.elim
      subst hk
      obtain ⟨h1, h2, h3⟩ := (hok : n ≤ 9999 ∧ t.length ≤ 60 ∧ ∀ c ∈ t, 32 ≤ c ∧ c ≤ 126)
      refine ⟨_, rfl, _, _, _, _, _, rfl, .ty _, ty, rfl, _, rfl, iteF ⟨_, rfl, (by show 2 ≤ sizeLine; decide), fun t2 nt => ⟨t2, _, rfl, .inr (SqT.of upd_same), rfl, rfl, _, rfl, iteF ⟨_, rfl, aLP, _, rfl, .inr (hLP _), rfl, by decide +kernel, _, rfl, iteT ⟨_, rfl, a, _, rfl, SqT.of (same_upd nt _ _ ha), (by show 2 ≤ 60; decide), fun x hx => ?_, fun H3 s3 => ?_⟩⟩⟩⟩⟩
      · rcases List.mem_cons.mp hx with rfl | hx
        · exact ⟨by omega, by omega⟩
        · rw [List.mem_singleton.mp hx]
          show (S t).length ≤ 60
          rw [S_len]
          exact h2
      · exact q H3 (s1.trans ((same_upd nt).trans s3))
end
end My

set_option Elab.async false
set_option linter.all false
set_option maxRecDepth 100000
/-! d.get(k), d.get(k, x) of a written dict with text keys -/
namespace KGt
open PySem PySem.Spec PyProof.Rows L2
/-- a written dict with text keys -/
def KDic (K : PySem.W.Frag) (w : World) (a : Addr) : Prop := ∃ es n, K.lookup a = some ⟨.type "dict", none, .dict es n, #[]⟩ ∧ PySem.W.KeysLit w.params es.toList ∧ (a == sysModules) = false
/-- what it has at x -/
def KHas (K : PySem.W.Frag) (a : Addr) (x : Str) (o : Option V) : Prop := ∃ r, PySem.W.nsIn K a x = some r ∧ RelO o r
theorem relO_get {o : Option V} {r : Option Value} {d : V} {u : Value} (h : RelO o r) (hd : RelV d u) : RelV (o.getD d) (r.getD u) := by
  cases o with
  | none => cases r with
    | none => exact hd
    | some _ => exact h.elim
  | some v => cases r with
    | none => exact h.elim
    | some _ => exact h
section
variable {X : Cx} {o e f : Expr} {apos cpos : Pos} {td ty tx : TE}
theorem pe_kget1 (ho : PE X o td) (he : PE X e ty) (m : M1 X o "get" apos e cpos) : PE X (.Call (.Attribute o "get" apos) [e] [] cpos)
    (fun σ H Q => td σ H fun x H1 => ∃ a, x = .ref a ∧ KDic X.K X.w a ∧ ty σ H1 fun y H2 => ∃ z r, y = .str z ∧ KHas X.K a z r ∧ Q (r.getD .non) H2) := by
  refine ⟨fun pins s σ H Q I h => ?_⟩
  refine wpAny_Call_method m.base m.few m.line PySem.F.plainAttrs_dict PySem.F.slot_dict_get PySem.F.type_dict_get (thn (ho.run pins s σ H _ I h) fun u s1 ⟨x, H1, I1, rx, a, ex, ⟨es, n, hl, hk, low⟩, q1⟩ => ?_)
  subst ex
  obtain rfl : u = Value.ref a := rx
  have hm1 := PySem.W.mapOf_K (prog := X.prog) (w := X.w) I1.kIn hl hk
  refine ⟨hm1.typeIs, fun b q => ?_, ?_⟩
  · cases q
    exact ⟨_, I1.kIn _ _ hl, rfl⟩
  rw [m.trees]
  refine Calls.callWith_builtin rfl (Calls.evalArgs_plain (Calls.spliced_cons (thn (he.run pins s1 σ H1 _ I1 q1) fun iv s2 ⟨y, H2, I2, ry, z, r, ey, ⟨r', hr, rr⟩, q2⟩ => Calls.spliced_nil ?_)))
  subst ey
  obtain ⟨t, rfl⟩ := (show ∃ t, iv = Value.str z t from ry)
  have hm := PySem.W.mapOf_K (prog := X.prog) (w := X.w) I2.kIn hl hk
  refine call_meetsIn PySem.F.slot_dict_get hm.typeIs PySem.F.entry_dict_get (PySem.F.args_dict_get_2 _ _) (meets_dict_get (strKind X.prog X.w) a (strKind_is X.prog X.w z t) low) ⟨_, hm, ⟨_, H2, I2.tok _, ?_, q2⟩⟩
  rw [PySem.W.find_K hl hr]
  exact relO_get rr rfl
theorem pe_kget2 (ho : PE X o td) (he : PE X e ty) (hf : PE X f tx) (m : M2 X o "get" apos e f cpos) : PE X (.Call (.Attribute o "get" apos) [e, f] [] cpos)
    (fun σ H Q => td σ H fun x H1 => ∃ a, x = .ref a ∧ KDic X.K X.w a ∧ ty σ H1 fun y H2 => tx σ H2 fun d H3 => ∃ z r, y = .str z ∧ KHas X.K a z r ∧ Q (r.getD d) H3) := by
  refine ⟨fun pins s σ H Q I h => ?_⟩
  refine wpAny_Call_method m.base m.few m.line PySem.F.plainAttrs_dict PySem.F.slot_dict_get PySem.F.type_dict_get (thn (ho.run pins s σ H _ I h) fun u s1 ⟨x, H1, I1, rx, a, ex, ⟨es, n, hl, hk, low⟩, q1⟩ => ?_)
  subst ex
  obtain rfl : u = Value.ref a := rx
  have hm1 := PySem.W.mapOf_K (prog := X.prog) (w := X.w) I1.kIn hl hk
  refine ⟨hm1.typeIs, fun b q => ?_, ?_⟩
  · cases q
    exact ⟨_, I1.kIn _ _ hl, rfl⟩
  rw [m.trees]
  refine Calls.callWith_builtin rfl (Calls.evalArgs_plain (Calls.spliced_cons (thn (he.run pins s1 σ H1 _ I1 q1) fun iv s2 ⟨y, H2, I2, ry, q2⟩ =>
    Calls.spliced_cons (thn (hf.run pins s2 σ H2 _ I2 q2) fun fv s3 ⟨d, H3, I3, rd, z, r, ey, ⟨r', hr, rr⟩, q3⟩ => Calls.spliced_nil ?_))))
  subst ey
  obtain ⟨t, rfl⟩ := (show ∃ t, iv = Value.str z t from ry)
  have hm := PySem.W.mapOf_K (prog := X.prog) (w := X.w) I3.kIn hl hk
  refine call_meetsIn PySem.F.slot_dict_get hm.typeIs PySem.F.entry_dict_get (PySem.F.args_dict_get_3 _ _ _) (meets_dict_get_default (strKind X.prog X.w) a (strKind_is X.prog X.w z t) low fv) ⟨_, hm, ⟨_, H3, I3.tok _, ?_, q3⟩⟩
  rw [PySem.W.find_K hl hr]
  exact relO_get rr rd
def rInT (K : PySem.W.Frag) : R2 := fun x y H Q => ∃ d ds, Dp K H x d ∧ Dp K H y (.tuple ds) ∧ SeqAt.shaped d = true ∧ SeqAt.shaped (.tuple ds) = true ∧ Q (.bl (ds.any fun z => PyData.eqv z d)) H
theorem op_inT (hu : X.A.units + 65 < cLine) : OpR X (compareOp .In) (rInT X.K) := by
  intro pins s σ H x y v u Q I rx ry h
  obtain ⟨d, ds, hd, he, sd, se, q⟩ := h
  obtain ⟨as, r1⟩ := Dp.reads I d x v hd rx
  obtain ⟨bs, r2⟩ := Dp.reads I (.tuple ds) y u he ry
  exact SeqAt.in_tuple_reads r2 r1 (SeqAt.canLay_of_shaped se) (SeqAt.canLay_of_shaped sd) (room_in_shaped sd hu) ⟨.bl _, H, I, rfl, q⟩
end
end KGt

set_option Elab.async false
set_option linter.all false
set_option maxRecDepth 100000
namespace My
open PySem PySem.Spec PyProof.Rows L2 SX
abbrev sEntryText : Stmt := topS 33
theorem scEntryText : FnScope ["entry", "found", "kind", "part", "text"] ["entry"] (defScope sEntryText) := ⟨rfl, rfl, rfl, by decide +kernel, rfl, by decide +kernel, by decide +kernel⟩
def lg (k : Kd) : List Nat := if isLong k then COL else []
theorem lg_t {k : Kd} (h : isLong k = true) : lg k = COL := by unfold lg; rw [if_pos h]
theorem lg_f {k : Kd} (h : isLong k = false) : lg k = [] := by unfold lg; rw [h]; rfl
def kdV (ks : List Kd) : List V := ks.map fun k => V.str (kdS k)
/-- PATTERNS, as it stands in the written part -/
structure Pats (K : PySem.W.Frag) (w : World) (aPA : Addr) : Prop where
  at_ : ∀ x : Wd, ∃ a, KDct K w aPA (wdS x) (.ref a) ∧ ∀ H, SqT K H a (kdV (pat x))
  dic : KGt.KDic K w aPA
/-- an entry stands at t -/
def EntAt (H : Hp) (t : Addr) (e : Ent) : Prop := ∃ vs, H t = some (.tup (.str (wdS e.w) :: vs)) ∧ Paired (PartAt H) vs e.ps
theorem EntAt.same {H H' : Hp} {t : Addr} {e : Ent} (h : EntAt H t e) (s : Same H H') : EntAt H' t e := by
  obtain ⟨vs, h1, h2⟩ := h
  exact ⟨vs, s _ _ h1, Paired.mapP h2 fun _ _ y => y.same s⟩
theorem tail_take : ∀ {ks : List Kd} {ps : List Part} {i : Nat} {k : Kd} {p : Part}, ks[i]? = some k → ps[i]? = some p → tailT (ks.take (i + 1)) (ps.take (i + 1)) = tailT (ks.take i) (ps.take i) ++ stepT k p
  | [], _, i, k, p, h, _ => by simp at h
  | _ :: _, [], i, k, p, _, h => by simp at h
  | a :: ks, b :: ps, 0, k, p, h1, h2 => by
    simp at h1 h2
    subst h1 h2
    simp [tailT]
  | a :: ks, b :: ps, i + 1, k, p, h1, h2 => by
    have := tail_take (i := i) (ks := ks) (ps := ps) (by simpa using h1) (by simpa using h2)
    rw [List.take_succ_cons, List.take_succ_cons, List.take_succ_cons, List.take_succ_cons]
    unfold tailT
    rw [this, List.append_assoc]
theorem partT_len {k : Kd} {p : Part} (h : okP k p) {t : List Nat} (e : partT p = some t) : t.length ≤ 1200 := by
  cases p with
  | num n =>
    cases e
    have hk : n ≤ 999999999 := by cases k <;> first | exact h | exact h.elim
    have := ntx_len (x := (n : Nat)) (by omega)
    omega
  | word l =>
    cases e
    have words : ∀ L : List (List Nat), (L.all fun l => decide (l.length ≤ 20)) = true → t ∈ L → t.length ≤ 1200 := fun L hL hm => by
      have := of_decide_eq_true (List.all_eq_true.mp hL t hm)
      omega
    cases k with
    | name => have := Nm.le h; omega
    | reason => exact words REASONS (by decide +kernel) h
    | fin => exact words ENDS (by decide +kernel) h
    | sheet => exact words FAULTS (by decide +kernel) h
    | ballots => exact words FAULTS (by decide +kernel) h
    | shown => exact words FAULTS (by decide +kernel) h
    | _ => exact h.elim
  | nums r =>
    have hr : r.length ≤ 40 ∧ Sgd r := by
      cases k with
      | ballots => exact h
      | seats => exact ⟨by have := h.1; omega, fun x hx => by have := h.2 x hx; omega⟩
      | _ => exact h.elim
    have e : (if r = [] then none else some (numsT r)) = some t := e
    split at e
    · cases e
    · cases e
      have := numsT_len hr.2
      omega
  | rows rs =>
    obtain ⟨r1, r2, r3⟩ := sgd_row h
    cases e
    have := join_len (sep := SEP) (ls := rs.map numsT) (m := 110) fun l hl => by
      obtain ⟨r, hr, rfl⟩ := List.mem_map.mp hl
      have := numsT_len (r3 r hr).2.2
      have := (r3 r hr).2.1
      omega
    rw [List.length_map] at this
    have h3 : SEP.length = 3 := rfl
    rw [h3] at this
    show (TL.joinL SEP (rs.map numsT)).length ≤ 1200
    omega
  | shown s t' =>
    cases e
    have hk : s ≤ 9999 ∧ t'.length ≤ 60 := by cases k <;> first | exact ⟨h.1, h.2.1⟩ | exact h.elim
    have := ntx_len (x := (s : Nat)) (by omega)
    show (ntx (s : Nat) ++ 32 :: t').length ≤ 1200
    rw [List.length_append, List.length_cons]
    omega
theorem step_len {k : Kd} {p : Part} (h : okP k p) : (stepT k p).length ≤ 1210 := by
  unfold stepT
  rw [List.length_append]
  have h1 : (if isLong k then COL else []).length ≤ 2 := by split <;> decide
  cases e : partT p with
  | none => simp only [List.length_nil]; omega
  | some t =>
    have := partT_len h e
    simp only [List.length_cons]
    omega
theorem tail_len : ∀ {ks : List Kd} {ps : List Part}, okAll ks ps → (tailT ks ps).length ≤ ks.length * 1210
  | [], [], _ => by simp [tailT]
  | k :: ks, p :: ps, h => by
    have h1 := step_len h.1
    have h2 := tail_len h.2
    unfold tailT
    rw [List.length_append, List.length_cons, Nat.succ_mul]
    omega
  | [], _ :: _, h => h.elim
  | _ :: _, [], h => h.elim
theorem okAll_take : ∀ {ks : List Kd} {ps : List Part} (i : Nat), okAll ks ps → okAll (ks.take i) (ps.take i)
  | [], [], i, _ => by rw [List.take_nil, List.take_nil]; trivial
  | _ :: _, _ :: _, 0, _ => trivial
  | _ :: _, _ :: _, i + 1, h => ⟨h.1, okAll_take i h.2⟩
  | [], _ :: _, _, h => h.elim
  | _ :: _, [], _, h => h.elim
theorem pat_len (x : Wd) : (pat x).length ≤ 6 ∧ 2 ≤ (pat x).length ∧ (wdT x).length ≤ 8 := by cases x <;> decide +kernel
theorem ent_len {e : Ent} (h : e.ok) (i : Nat) : (wdT e.w ++ tailT ((pat e.w).take i) (e.ps.take i)).length ≤ 8000 := by
  have h1 := tail_len (okAll_take i h)
  obtain ⟨h2, _, h3⟩ := pat_len e.w
  rw [List.length_take] at h1
  rw [List.length_append]
  have : min i (pat e.w).length * 1210 ≤ 6 * 1210 := Nat.mul_le_mul_right _ (by omega)
  omega
theorem cut_fromG {es : List V} (n : Nat) : cutV es (some (n : Nat)) none = es.drop n := by
  unfold cutV
  rw [HT.sIx_nat, show HT.sIx es.length es.length none = es.length from HT.sIx_none _ _]
  by_cases h : n ≤ es.length
  · rw [Nat.min_eq_left h]
    exact List.take_of_length_le (by rw [List.length_drop]; omega)
  · rw [Nat.min_eq_right (by omega), List.drop_length, List.drop_of_length_le (by omega), List.take_nil]
def spET (K : PySem.W.Frag) : Sp := fun vs H Q _ => ∃ t e, vs = [.ref t] ∧ e.ok ∧ EntAt H t e ∧ ∀ H', Same H H' → Q (tx (entT e)) H'
section
variable {P : Program} {w : World} {K : PySem.W.Frag} {mg : Str → Option Value} {base : Heap}
theorem ok_entry_text {f fP aLP aPA : Addr} {fd fdP : FuncData} {k : Nat} {tC : Tok} (F : Fun K "entry_text" "entry_text" sEntryText f fd) (Pt : Cal P w K mg base "part_text" (k + 1) ["kind", "part"] (spPT K) fP fdP) (b_zip : mg "zip" = none) (g_LONG_PARTS : mg "LONG_PARTS" = some (.ref aLP)) (hLP : ∀ H, SqT K H aLP LPV) (g_PATTERNS : mg "PATTERNS" = some (.ref aPA)) (hPA : Pats K w aPA) (g_COLON : mg "COLON" = some (.str " :" tC)) : FnOk P w K mg base CX0 (k + 2) f fd ["entry"] (spET K) := by
  refine F.ok scEntryText (fun vs H Q E h => ?_) (fun cdv A outer s H vs Q E hr h => ?_)
  · obtain ⟨t, e, rfl, _⟩ := h
    rfl
  · obtain ⟨t, e, rfl, hok, hE, q⟩ := h
    refine ⟨_, (pss_cons (ps_set (i := 1) scEntryText.nd rfl (.inl rfl) (pe_ix ix_tup (pv 0) pe_int (fun _ _ => rfl)))
      (pss_cons (ps_for PassesOwn.never rfl (RZ.pi_zipA rfl b_zip (pa_cons (pe_ix ix_kdict (pe_glob (v := .ref aPA) rfl g_PATTERNS rfl) (pe_ix ix_tup (pv 0) pe_int (fun _ _ => rfl)) (fun _ _ => rfl)) (pa_cons (pe_slice sl_tup (pv 0) (po_some pe_int) po_none) pa_nil))) (pg_tup rfl (pgs_cons (pg_name (i := 2) scEntryText.nd rfl (.inl rfl)) (pgs_cons (pg_name (i := 3) scEntryText.nd rfl (.inl rfl)) pgs_nil)))
        (C8.pss_cut (ps_if (pt_cmpR op_in_seq (pv 2) (pe_glob (v := .ref aLP) rfl g_LONG_PARTS rfl) rfl) (pss_one (ps_set (i := 1) scEntryText.nd rfl (.inl rfl) (pe_op op_add_str (pv 1) (pe_glob (v := .str " :") rfl g_COLON ⟨_, rfl⟩)))) pss_nil)
        (pss_cons (ps_set (i := 4) scEntryText.nd rfl (.inl rfl) (pe_call Pt.ok (hr.mono (by omega)) rfl Pt.g Pt.kp Pt.b .nil pass0 (pa_cons (pv 2) (pa_cons (pv 3) pa_nil))))
        (pss_one (ps_set (i := 1) scEntryText.nd rfl (.inl rfl) (pe_ifExp (pt_cmpR op_isN (pv 4) pe_non rfl) (pv 1) (pe_joined (PJ.cons (pe_fmt (pv 1)) (PJ.cons pe_str (PJ.cons (pe_fmt (pv 4)) PJ.nil))))))))))
      (pss_one (ps_ret (pv 1))))), ?_⟩
    obtain ⟨vs, ht, hvs⟩ := hE
    obtain ⟨aK, hD, hK⟩ := hPA.at_ e.w
    refine ⟨_, rfl, t, _, 0, _, rfl, rfl, SqT.of ht, atI_nat rfl, ?_⟩
    have hpl := okAll_len hok
    have hvl := hvs.length
    obtain ⟨pl6, pl2, wl8⟩ := pat_len e.w
    refine ⟨_, rfl, t, _, 0, _, rfl, rfl, SqT.of ht, atI_nat rfl, aPA, _, _, rfl, rfl, hD, _, rfl, 1, rfl, t, _, rfl, SqT.of ht, ?_, fun p np => ?_⟩
    · rintro ⟨z, _⟩
      have e1 : HT.sIx (V.str (wdS e.w) :: vs).length 0 (some ((1 : Nat) : Int)) = min 1 (V.str (wdS e.w) :: vs).length := HT.sIx_nat _ _ 1
      rw [List.length_cons] at e1
      have z : HT.sIx (V.str (wdS e.w) :: vs).length 0 (some ((1 : Nat) : Int)) = 0 := z
      rw [List.length_cons] at z
      omega
    have s1 : Same H (upd H p (.tup vs)) := same_upd np
    have ecut : cutV (V.str (wdS e.w) :: vs) (some 1) none = vs := cut_fromG 1
    rw [ecut]
    have gp : (upd H p (.tup vs)) p = some (.tup vs) := upd_same
    have hvs1 := Paired.mapP hvs fun _ _ y => PartAt.same s1 y
    generalize upd H p (.tup vs) = H1 at s1 gp hvs1 ⊢
    refine ⟨aK, p, _, _, rfl, .inr ⟨hK _, SqT.of gp, for_it (walk_zipT (K := K) (a := aK) (b := p) (xs := kdV (pat e.w)) (ys := vs) (n := e.ps.length) (by unfold kdV; rw [List.length_map]; omega)) (fun i σ' G => ∃ b2 b3 b4, σ' = [some (.ref t), some (tx (wdT e.w ++ tailT ((pat e.w).take i) (e.ps.take i))), b2, b3, b4] ∧ Same H1 G) ⟨none, none, none, ?_, Same.refl _⟩ (fun i σ' G _ h => by obtain ⟨_, _, _, _, s⟩ := h; exact ⟨hK _, SqT.of (s _ _ gp)⟩) ?_ ?_⟩⟩
    · rw [List.take_zero, List.take_zero]
      unfold tailT
      rw [List.append_nil]
      unfold tx
      rw [S_wd]
      rfl
    · rintro i z σ' G0 G hi ⟨b2, b3, b4, rfl, sG⟩ ⟨T, x, y, rfl, nT, rfl, hx, hy⟩
      refine ⟨T, [x, y], rfl, SqT.of upd_same, rfl, x, [y], rfl, y, [], rfl, rfl, ?_⟩
      have hil : i < (pat e.w).length := by omega
      have ek : (pat e.w)[i]? = some (pat e.w)[i] := List.getElem?_eq_getElem hil
      have ep : e.ps[i]? = some e.ps[i] := List.getElem?_eq_getElem hi
      generalize (pat e.w)[i] = kk at ek
      generalize e.ps[i] = pp at ep
      have hx : ((pat e.w).map fun k => V.str (kdS k))[i]? = some x := hx
      rw [List.getElem?_map, ek] at hx
      cases hx
      obtain ⟨v, ev, hpp⟩ := paired_at hvs1 ep
      have hy : vs[i]? = some y := hy
      rw [ev] at hy
      cases hy
      have sT : Same G0 (upd G0 T (.tup [.str (kdS kk), y])) := same_upd nT
      have hoki := okAll_get hok ek ep
      have hl := ent_len hok i
      have hl1 := step_len hoki
      refine ⟨fun σ2 G2 => ∃ b4, σ2 = [some (.ref t), some (tx (wdT e.w ++ tailT ((pat e.w).take i) (e.ps.take i) ++ lg kk)), some (.str (kdS kk)), some y, b4] ∧ Same H1 G2, ?_, ?_⟩
      · refine ⟨_, rfl, aLP, _, rfl, .inr (hLP _), rfl, by decide +kernel, ?_⟩
        rw [if_neg (by decide), in_long]
        refine ⟨_, rfl, ?_⟩
        cases hL : isLong kk with
        | true =>
          refine iteT ⟨_, rfl, _, _, rfl, rfl, ?_, ?_⟩
          · rw [S_len]
            exact line_of (show (wdT e.w ++ tailT ((pat e.w).take i) (e.ps.take i)).length + 2 ≤ 10000 by omega)
          · refine ⟨b4, ?_, sG.trans sT⟩
            rw [show (S (wdT e.w ++ tailT ((pat e.w).take i) (e.ps.take i)) ++ (" :" : Str)) = S (wdT e.w ++ tailT ((pat e.w).take i) (e.ps.take i) ++ COL) from S_cat _ COL, lg_t hL]
            rfl
        | false => exact iteF ⟨b4, by rw [lg_f hL, List.append_nil]; rfl, sG.trans sT⟩
      · rintro σ2 G2 ⟨b4, rfl, sG2⟩
        refine ⟨_, rfl, _, rfl, kk, y, pp, rfl, hoki, hpp.same sG2, fun G3 s3 => ?_⟩
        have et := tail_take ek ep
        have elg : stepT kk pp = lg kk ++ (match partT pp with | none => [] | some t => 32 :: t) := rfl
        have hlg : (lg kk).length ≤ 2 := by unfold lg; split <;> decide
        cases hT : partT pp with
        | none =>
          rw [hT, List.append_nil] at elg
          refine ⟨_, rfl, rfl, _, rfl, iteT ⟨_, rfl, some (.str (kdS kk)), some y, some .non, ?_, sG2.trans s3⟩⟩
          rw [et, elg, List.append_assoc]
          rfl
        | some u =>
          have hu := partT_len hoki hT
          rw [hT] at elg
          have eF : wdT e.w ++ tailT ((pat e.w).take (i + 1)) (e.ps.take (i + 1)) = (wdT e.w ++ tailT ((pat e.w).take i) (e.ps.take i) ++ lg kk) ++ [32] ++ u := by
            rw [et, elg]
            simp only [List.append_assoc, List.singleton_append]
          rw [eF]
          have l1 : (wdT e.w ++ tailT ((pat e.w).take i) (e.ps.take i) ++ lg kk).length ≤ 8002 := by rw [List.length_append]; omega
          generalize wdT e.w ++ tailT ((pat e.w).take i) (e.ps.take i) ++ lg kk = F at l1 ⊢
          refine ⟨_, rfl, rfl, _, rfl, iteF ⟨_, rfl, .inl ⟨_, rfl, by rw [S_len]; exact line_of (by omega), _, rfl, ?_, _, rfl, ?_, _, rfl, .inl ⟨_, rfl, by rw [S_len]; exact line_of (by omega), _, rfl, ?_, ?_⟩⟩⟩⟩
          · rw [show (Str.empty : Str) = S [] from rfl, S_cat, S_len, List.nil_append]
            exact line_of (by omega)
          · rw [show (Str.empty : Str) = S [] from rfl, show (" " : Str) = S [32] from rfl, S_cat, S_cat, S_len, List.nil_append, List.length_append]
            exact line_of (show F.length + 1 ≤ 10000 by omega)
          · rw [show (Str.empty : Str) = S [] from rfl, show (" " : Str) = S [32] from rfl, S_cat, S_cat, S_cat, S_len, List.nil_append, List.length_append, List.length_append]
            exact line_of (show F.length + 1 + u.length ≤ 10000 by omega)
          · refine ⟨some (.str (kdS kk)), some y, some (tx u), ?_, sG2.trans s3⟩
            rw [show (Str.empty : Str) = S [] from rfl, show (" " : Str) = S [32] from rfl, S_cat, S_cat, S_cat, List.nil_append]
            rfl
    · rintro σ' G ⟨b2, b3, b4, rfl, sG⟩
      have e1 : (pat e.w).take e.ps.length = pat e.w := List.take_of_length_le (by omega)
      have e2 : e.ps.take e.ps.length = e.ps := List.take_length
      rw [e1, e2]
      exact ⟨_, rfl, q G (s1.trans sG)⟩
end
end My

set_option Elab.async false
set_option linter.all false
set_option maxRecDepth 100000
namespace My
open PySem PySem.Spec PyProof.Rows L2 SX
abbrev sHasFigures : Stmt := topS 18
theorem scHasFigures : FnScope ["values", "value"] ["values"] (defScope sHasFigures) := ⟨rfl, rfl, rfl, by decide +kernel, rfl, by decide +kernel, by decide +kernel⟩
abbrev sAreSizes : Stmt := topS 32
theorem scAreSizes : FnScope ["values", "value"] ["values"] (defScope sAreSizes) := ⟨rfl, rfl, rfl, by decide +kernel, rfl, by decide +kernel, by decide +kernel⟩
abbrev sIsShown : Stmt := topS 19
theorem scIsShown : FnScope ["value", "salt", "text"] ["value"] (defScope sIsShown) := ⟨rfl, rfl, rfl, by decide +kernel, rfl, by decide +kernel, by decide +kernel⟩
abbrev sIsRowOf : Stmt := topS 31
theorem scIsRowOf : FnScope ["kind", "value"] ["kind", "value"] (defScope sIsRowOf) := ⟨rfl, rfl, rfl, by decide +kernel, rfl, by decide +kernel, by decide +kernel⟩
abbrev sIsPart : Stmt := topS 30
theorem scIsPart : FnScope ["kind", "value", "row"] ["kind", "value"] (defScope sIsPart) := ⟨rfl, rfl, rfl, by decide +kernel, rfl, by decide +kernel, by decide +kernel⟩
theorem iteTd {c : Bool} {a b : Prop} (h : c = true) (x : a) : if c = true then a else b := by rw [if_pos h]; exact x
theorem iteFd {c : Bool} {a b : Prop} (h : c = false) (x : b) : if c = true then a else b := by rw [if_neg (by rw [h]; decide)]; exact x
theorem units65 {k : Nat} {A : Around} (r : Room k A) : A.units + 65 < cLine := by have := r.un; omega
def spHF (K : PySem.W.Frag) : Sp := fun vs H Q _ => ∃ a r, vs = [.ref a] ∧ SqT K H a (intsI r) ∧ r.length ≤ 60 ∧ Sgd r ∧ ∀ H', Same H H' → Q (.bl true) H'
def spAS (K : PySem.W.Frag) : Sp := fun vs H Q _ => ∃ a r, vs = [.ref a] ∧ SqT K H a (intsI r) ∧ r.length ≤ 60 ∧ Uns r ∧ ∀ H', Same H H' → Q (.bl true) H'
def spSh (K : PySem.W.Frag) : Sp := fun vs H Q _ => ∃ a s t, vs = [.ref a] ∧ H a = some (.tup [.int (s : Nat), tx t]) ∧ s ≤ 9999 ∧ t.length ≤ 60 ∧ (∀ c ∈ t, 32 ≤ c ∧ c ≤ 126) ∧ ∀ H', Same H H' → Q (.bl true) H'
def spIR (K : PySem.W.Frag) : Sp := fun vs H Q _ => ∃ k a r, vs = [.str (kdS k), .ref a] ∧ H a = some (.tup (intsI r)) ∧ r ≠ [] ∧ r.length ≤ 10 ∧ ((k = .sheet ∧ Sgd r) ∨ (k = .rows ∧ Uns r)) ∧ ∀ H', Same H H' → Q (.bl true) H'
def spIP (K : PySem.W.Frag) : Sp := fun vs H Q _ => ∃ k v p, vs = [.str (kdS k), v] ∧ okP k p ∧ PartAt H v p ∧ ∀ H', Same H H' → Q (.bl true) H'
theorem all_rep (n : Nat) : (List.replicate n true).all id = true := by
  rw [List.all_eq_true]
  intro x hx
  rw [(List.mem_replicate.mp hx).2]
  rfl
def ANV : List V := [.str "sheet", .str "ballots", .str "shown"]
def FAV : List V := [.str "silent", .str "shape"]
def REV : List V := [.str "silent", .str "shape", .str "below", .str "sum", .str "rows", .str "spoiled", .str "seal", .str "wrong"]
def ENV : List V := [.str "digits", .str "weighs", .str "whole"]
def FAD : List PyData := [.str "silent", .str "shape"]
theorem inV_tx (l : List Nat) : ∀ L : List (List Nat), inV (tx l) (L.map tx) = decide (l ∈ L)
  | [] => rfl
  | b :: L => by
    show (eqV (tx b) (tx l) || inV (tx l) (L.map tx)) = _
    rw [inV_tx l L]
    show ((S b == S l) || _) = _
    rw [S_beq_eq]
    by_cases e : b = l
    · simp [e]
    · have e' : ¬ l = b := fun z => e z.symm
      simp [e, e']
theorem fa_any {p : Part} : (FAD.any fun z => PyData.eqv z (pdP p)) = (match p with | .word l => decide (l ∈ FAULTS) | _ => false) := by
  cases p with
  | word l =>
    show (PyData.eqv (.str "silent") (.str (S l)) || (PyData.eqv (.str "shape") (.str (S l)) || false)) = decide (l ∈ FAULTS)
    have h : ∀ z : Str, PyData.eqv (.str z) (.str (S l)) = decide (cd z = l) := fun z => by
      have : PyData.eqv (.str z) (.str (S l)) = (z == S l) := by simp [PyData.eqv]
      rw [this, ← S_cd z, S_beq_eq, S_cd]
    rw [h, h, Bool.or_false]
    unfold FAULTS
    by_cases e1 : cd "silent" = l
    · simp [e1]
    · by_cases e2 : cd "shape" = l
      · simp [e2]
      · have e1' : ¬ l = cd "silent" := fun z => e1 z.symm
        have e2' : ¬ l = cd "shape" := fun z => e2 z.symm
        simp [e1, e2, e1', e2']
  | num n => simp [FAD, pdP, PyData.eqv]
  | nums r => simp [FAD, pdP, pdI, PyData.eqv]
  | rows rs => simp [FAD, pdP, PyData.eqv]
  | shown s t => simp [FAD, pdP, PyData.eqv]
section
variable {P : Program} {w : World} {K : PySem.W.Frag} {mg : Str → Option Value} {base : Heap}
theorem push_true {H G : Hp} {D : Addr} {i n : Nat} (nD : H D = none) (sG : Same H G) (gD : G D = some (.lst ((List.replicate i true).map V.bl))) (hi : i < n) (hn : n ≤ 100) : ∃ acc, G D = some (.lst acc) ∧ acc.length < sizeLine ∧ Same H (upd G D (.lst (acc ++ [.bl true]))) ∧ (upd G D (.lst (acc ++ [.bl true]))) D = some (.lst ((List.replicate (i + 1) true).map V.bl)) :=
  ⟨_, gD, small1000' (by rw [List.length_map, List.length_replicate]; omega), same_updF nD sG, by rw [upd_same, List.replicate_succ', List.map_append]; rfl⟩
theorem ok_has_figures {f fN : Addr} {fd fdN : FuncData} {k : Nat} {t1 : Tok} (F : Fun K "has_figures" "has_figures" sHasFigures f fd) (Nu : Cal P w K mg base "is_number" (k + 1) ["value", "least", "most"] (spIsNum K) fN fdN) (b_all : mg "all" = none) (g_MOST_FIGURE : mg "MOST_FIGURE" = some (.int 999999999 t1)) : FnOk P w K mg base CX0 (k + 2) f fd ["values"] (spHF K) := by
  refine F.ok scHasFigures (fun vs H Q E h => ?_) (fun cdv A outer s H vs Q E hr h => ?_)
  · obtain ⟨a, r, rfl, _⟩ := h
    rfl
  · obtain ⟨a, r, rfl, hs, hl, hr', q⟩ := h
    refine ⟨_, (pss_one (ps_ret (pe_callB (cr_all rfl) rfl b_all (by decide +kernel) (pa_cons (pe_lc (own := [("value", 1)]) (g := gName 1) (tt := tYes) (te := tCall (spIsNum K) [] E0 (tCons (tVar 1) (tCons (tUn (rU fun i => .int (-i)) (tC (.int 999999999))) (tCons (tC (.int 999999999)) tNil)))) rfl scHasFigures.nd (pi_tup (pv 0)) (blkOk_by (own := [("value", 1)]) (N := ["values", "value"]) (sc := defScope sHasFigures) (by decide +kernel)) (fun _ _ _ _ _ => (pg_name (i := 1) scHasFigures.nd rfl (.inl rfl) (.inr rfl))) (fun _ _ _ _ _ => pts_nil) (fun _ _ _ _ _ => (pe_call Nu.ok (hr.mono (by omega)) rfl Nu.g Nu.kp Nu.b .nil pass0 (pa_cons (pv 1) (pa_cons (pe_un un_neg (pe_glob (v := .int 999999999) rfl g_MOST_FIGURE ⟨_, rfl⟩)) (pa_cons (pe_glob (v := .int 999999999) rfl g_MOST_FIGURE ⟨_, rfl⟩) pa_nil)))))) pa_nil)))), ?_⟩
    refine ⟨_, rfl, a, rfl, ⟨_, hs⟩, fun D nD => lc_it walk_tup (fun i G => Same H G ∧ G D = some (.lst ((List.replicate i true).map V.bl))) ⟨same_upd nD, upd_same⟩ (fun i G _ h => seqT_same h.1 hs) ?_ ?_⟩
    · rintro i x G1 G hi ⟨sG, gD⟩ ⟨rfl, ex⟩
      rw [List.length_map] at hi
      rw [List.getElem?_map, List.getElem?_eq_getElem hi] at ex
      cases ex
      have hx := hr' _ (List.getElem_mem hi)
      refine ⟨rfl, ?_⟩
      unfold tYes
      refine iteT ⟨_, rfl, _, rfl, .int r[i], -999999999, 999999999, rfl, .inl trivial, ?_⟩
      rw [show inI (-999999999) 999999999 (.int r[i]) = true by show (decide _ && decide _) = true; rw [decide_eq_true hx.1, decide_eq_true hx.2]; rfl]
      exact push_true nD sG gD hi (by omega)
    · rintro G ⟨sG, gD⟩
      refine ⟨D, _, rfl, SqL.of gD, ?_⟩
      rw [all_rep]
      exact q G sG
theorem ok_are_sizes {f fN : Addr} {fd fdN : FuncData} {k : Nat} {t1 : Tok} (F : Fun K "are_sizes" "are_sizes" sAreSizes f fd) (Nu : Cal P w K mg base "is_number" (k + 1) ["value", "least", "most"] (spIsNum K) fN fdN) (b_all : mg "all" = none) (g_MOST_FIGURE : mg "MOST_FIGURE" = some (.int 999999999 t1)) : FnOk P w K mg base CX0 (k + 2) f fd ["values"] (spAS K) := by
  refine F.ok scAreSizes (fun vs H Q E h => ?_) (fun cdv A outer s H vs Q E hr h => ?_)
  · obtain ⟨a, r, rfl, _⟩ := h
    rfl
  · obtain ⟨a, r, rfl, hs, hl, hr', q⟩ := h
    refine ⟨_, (pss_one (ps_ret (pe_callB (cr_all rfl) rfl b_all (by decide +kernel) (pa_cons (pe_lc (own := [("value", 1)]) (g := gName 1) (tt := tYes) (te := tCall (spIsNum K) [] E0 (tCons (tVar 1) (tCons (tC (.int 0)) (tCons (tC (.int 999999999)) tNil)))) rfl scAreSizes.nd (pi_tup (pv 0)) (blkOk_by (own := [("value", 1)]) (N := ["values", "value"]) (sc := defScope sAreSizes) (by decide +kernel)) (fun _ _ _ _ _ => (pg_name (i := 1) scAreSizes.nd rfl (.inl rfl) (.inr rfl))) (fun _ _ _ _ _ => pts_nil) (fun _ _ _ _ _ => (pe_call Nu.ok (hr.mono (by omega)) rfl Nu.g Nu.kp Nu.b .nil pass0 (pa_cons (pv 1) (pa_cons pe_int (pa_cons (pe_glob (v := .int 999999999) rfl g_MOST_FIGURE ⟨_, rfl⟩) pa_nil)))))) pa_nil)))), ?_⟩
    refine ⟨_, rfl, a, rfl, ⟨_, hs⟩, fun D nD => lc_it walk_tup (fun i G => Same H G ∧ G D = some (.lst ((List.replicate i true).map V.bl))) ⟨same_upd nD, upd_same⟩ (fun i G _ h => seqT_same h.1 hs) ?_ ?_⟩
    · rintro i x G1 G hi ⟨sG, gD⟩ ⟨rfl, ex⟩
      rw [List.length_map] at hi
      rw [List.getElem?_map, List.getElem?_eq_getElem hi] at ex
      cases ex
      have hx := hr' _ (List.getElem_mem hi)
      refine ⟨rfl, ?_⟩
      unfold tYes
      refine iteT ⟨_, rfl, .int r[i], 0, 999999999, rfl, .inl trivial, ?_⟩
      rw [show inI 0 999999999 (.int r[i]) = true by show (decide _ && decide _) = true; rw [decide_eq_true hx.1, decide_eq_true hx.2]; rfl]
      exact push_true nD sG gD hi (by omega)
    · rintro G ⟨sG, gD⟩
      refine ⟨D, _, rfl, SqL.of gD, ?_⟩
      rw [all_rep]
      exact q G sG
theorem ok_is_shown {f fN : Addr} {fd fdN : FuncData} {k : Nat} {t1 t2 : Tok} (F : Fun K "is_shown" "is_shown" sIsShown f fd) (Nu : Cal P w K mg base "is_number" (k + 1) ["value", "least", "most"] (spIsNum K) fN fdN) (b_isinstance : mg "isinstance" = none) (b_list : mg "list" = none) (b_tuple : mg "tuple" = none) (b_str : mg "str" = none) (b_len : mg "len" = none) (g_MOST_SALT : mg "MOST_SALT" = some (.int 9999 t1)) (g_LONGEST_TEXT : mg "LONGEST_TEXT" = some (.int 60 t2)) : FnOk P w K mg base CX0 (k + 2) f fd ["value"] (spSh K) := by
  refine F.ok scIsShown (fun vs H Q E h => ?_) (fun cdv A outer s H vs Q E hr h => ?_)
  · obtain ⟨a, s, t, rfl, _⟩ := h
    rfl
  · obtain ⟨a, n, t, rfl, ha, hn, ht, hc, q⟩ := h
    refine ⟨_, (pss_cons (ps_if (PW.pt (pw_or (pt_not (pt_val (pe_callB call_isiT rfl b_isinstance (by decide +kernel) (pa_cons (pv 0) (pa_cons (pe_tup (pa_cons (pe_ty "list" rfl b_list (by decide +kernel)) (pa_cons (pe_ty "tuple" rfl b_tuple (by decide +kernel)) pa_nil))) pa_nil))))) (pw_or1 (pt_cmpR op_ne (pe_callB call_len rfl b_len (by decide +kernel) (pa_cons (pv 0) pa_nil)) pe_int rfl)))) (pss_one (ps_ret pe_bl)) pss_nil)
      (pss_cons (ps_asg (pv 0) (pg_tup rfl (pgs_cons (pg_name (i := 1) scIsShown.nd rfl (.inl rfl)) (pgs_cons (pg_name (i := 2) scIsShown.nd rfl (.inl rfl)) pgs_nil))))
      (pss_one (ps_ret (pe_and (pe_call Nu.ok (hr.mono (by omega)) rfl Nu.g Nu.kp Nu.b .nil pass0 (pa_cons (pv 1) (pa_cons pe_int (pa_cons (pe_glob (v := .int 9999) rfl g_MOST_SALT ⟨_, rfl⟩) pa_nil)))) (pe_and (pe_callB call_isi rfl b_isinstance (by decide +kernel) (pa_cons (pv 2) (pa_cons (pe_ty "str" rfl b_str (by decide +kernel)) pa_nil))) (pe_and (pe_cmpR op_le (pe_callB call_len rfl b_len (by decide +kernel) (pa_cons (pv 2) pa_nil)) (pe_glob (v := .int 60) rfl g_LONGEST_TEXT ⟨_, rfl⟩) rfl) (pe_one (pe_cmpR op_notIn_sign pe_str (pv 2) rfl))))))))), ?_⟩
    refine ⟨_, rfl, (by show 2 ≤ sizeLine; decide), fun p np => ⟨_, p, _, _, _, _, rfl, upd_same, cls2, ty_tup (SqT.of (same_upd np _ _ ha)), kit_tl, _, rfl, iteF ⟨_, rfl, _, _, rfl, .inr ⟨_, SqT.of (same_upd np _ _ ha), rfl⟩, rfl, _, rfl, iteF ?_⟩⟩⟩
    have s1 : Same H (upd H p (.tup [.ty "list", .ty "tuple"])) := same_upd np
    refine ⟨_, rfl, a, _, rfl, SqT.of (s1 _ _ ha), rfl, _, _, rfl, _, _, rfl, rfl, ?_⟩
    refine ⟨_, rfl, .int (n : Nat), 0, 9999, rfl, .inl trivial, _, rfl, ?_⟩
    rw [show inI 0 9999 (.int (n : Nat)) = true by show (decide ((0 : Int) ≤ (n : Nat)) && decide (((n : Nat) : Int) ≤ 9999)) = true; rw [decide_eq_true (show (0 : Int) ≤ (n : Nat) by omega), decide_eq_true (show ((n : Nat) : Int) ≤ 9999 by omega)]; rfl]
    refine iteT ⟨_, rfl, _, _, _, _, _, rfl, .ty _, .base (.str _), rfl, _, rfl, iteT ⟨_, rfl, _, _, rfl, ⟨line_of (by rw [S_len]; omega), rfl⟩, _, _, rfl, rfl, _, rfl, ?_⟩⟩
    rw [show decide (((S t).length : Int) ≤ 60) = true from decide_eq_true (by rw [S_len]; omega)]
    refine iteT ⟨_, rfl, 10, S t, rfl, rfl, ?_⟩
    rw [show decide (10 ∈ (S t).cps.toList) = false from decide_eq_false fun z => by have := hc 10 (by simpa using z); omega]
    exact q _ s1
theorem ok_is_row {f fH fS : Addr} {fd fdH fdS : FuncData} {k : Nat} (F : Fun K "is_row_of" "is_row_of" sIsRowOf f fd) (Hf : Cal P w K mg base "has_figures" (k + 1) ["values"] (spHF K) fH fdH) (As : Cal P w K mg base "are_sizes" (k + 1) ["values"] (spAS K) fS fdS) (b_isinstance : mg "isinstance" = none) (b_tuple : mg "tuple" = none) : FnOk P w K mg base CX0 (k + 2) f fd ["kind", "value"] (spIR K) := by
  refine F.ok scIsRowOf (fun vs H Q E h => ?_) (fun cdv A outer s H vs Q E hr h => ?_)
  · obtain ⟨k, a, r, rfl, _⟩ := h
    rfl
  · obtain ⟨k, a, r, rfl, ha, hne, hl, hk, q⟩ := h
    refine ⟨_, (pss_cons (ps_if (PW.pt (pw_or (pt_not (pt_val (pe_callB call_isi rfl b_isinstance (by decide +kernel) (pa_cons (pv 1) (pa_cons (pe_ty "tuple" rfl b_tuple (by decide +kernel)) pa_nil))))) (pw_or1 (pt_cmpR (op_eqD hr.units) (pv 1) (pe_tup pa_nil) rfl)))) (pss_one (ps_ret pe_bl)) pss_nil)
      (pss_one (ps_ret (pe_ifExp (pt_cmpR op_eq (pv 0) pe_str rfl) (pe_call Hf.ok (hr.mono (by omega)) rfl Hf.g Hf.kp Hf.b .nil pass0 (pa_cons (pv 1) pa_nil)) (pe_call As.ok (hr.mono (by omega)) rfl As.g As.kp As.b .nil pass0 (pa_cons (pv 1) pa_nil)))))), ?_⟩
    refine ⟨_, rfl, _, _, _, _, _, rfl, .ty _, ty_tup (SqT.of ha), k1_tt, _, rfl, iteF ⟨_, rfl, Nat.zero_le _, fun z nz => ⟨_, _, .tup (SqT.of (same_upd nz _ _ ha)) (dp_ints r), .tup (SqT.of upd_same) .nil, ?_, by decide +kernel, ?_⟩⟩⟩
    · exact shaped_part (p := .nums r) trivial
    · have s1 : Same H (upd H z (.tup [])) := same_upd nz
      rw [show PyData.eqv (.tuple (r.map PyData.int)) (.tuple []) = false by
        cases r with
        | nil => exact absurd rfl hne
        | cons a r => simp [PyData.eqv, PyData.eqvAll]]
      refine ⟨_, rfl, iteF ?_⟩
      rcases hk with ⟨rfl, hs⟩ | ⟨rfl, hs⟩
      · exact ⟨_, rfl, rfl, _, rfl, iteTd (by decide +kernel) ⟨_, rfl, a, r, rfl, SqT.of (s1 _ _ ha), by omega, hs, fun H2 s2 => q H2 (s1.trans s2)⟩⟩
      · exact ⟨_, rfl, rfl, _, rfl, iteFd (by decide +kernel) ⟨_, rfl, a, r, rfl, SqT.of (s1 _ _ ha), by omega, hs, fun H2 s2 => q H2 (s1.trans s2)⟩⟩
end
end My

set_option Elab.async false
set_option linter.all false
set_option maxRecDepth 100000
namespace My
open PySem PySem.Spec PyProof.Rows L2 SX
abbrev sHasPattern : Stmt := topS 29
theorem scHasPattern : FnScope ["value", "kinds", "kind", "part"] ["value"] (defScope sHasPattern) := ⟨rfl, rfl, rfl, by decide +kernel, rfl, by decide +kernel, by decide +kernel⟩
theorem neE {H : Hp} (s : Same H H) : True := trivial
section
variable {P : Program} {w : World} {K : PySem.W.Frag} {mg : Str → Option Value} {base : Heap}
theorem dp_fa {H : Hp} {a : Addr} (h : SqT K H a FAV) : Dp K H (.ref a) (.tuple FAD) := .tup h (.cons (.str _) (.cons (.str _) .nil))
set_option maxHeartbeats 2000000 in
theorem ok_is_part {f fN fI fS fH fA fR aAN aFA aRE aEN : Addr} {fd fdN fdI fdS fdH fdA fdR : FuncData} {t1 t2 : Tok} (F : Fun K "is_part" "is_part" sIsPart f fd)
    (Nu : Cal P w K mg base "is_number" 2 ["value", "least", "most"] (spIsNum K) fN fdN) (In : Cal P w K mg base "is_name" 2 ["value"] spNm fI fdI) (Sh : Cal P w K mg base "is_shown" 3 ["value"] (spSh K) fS fdS) (Hf : Cal P w K mg base "has_figures" 3 ["values"] (spHF K) fH fdH) (As : Cal P w K mg base "are_sizes" 3 ["values"] (spAS K) fA fdA) (Ir : Cal P w K mg base "is_row_of" 4 ["kind", "value"] (spIR K) fR fdR)
    (b_isinstance : mg "isinstance" = none) (b_tuple : mg "tuple" = none) (b_len : mg "len" = none) (b_all : mg "all" = none) (g_ANSWERS : mg "ANSWERS" = some (.ref aAN)) (hAN : ∀ H, SqT K H aAN ANV) (g_FAULTS : mg "FAULTS" = some (.ref aFA)) (hFA' : ∀ H, SqT K H aFA FAV) (g_REASONS : mg "REASONS" = some (.ref aRE)) (hRE : ∀ H, SqT K H aRE REV) (g_ENDS : mg "ENDS" = some (.ref aEN)) (hEN : ∀ H, SqT K H aEN ENV) (g_MOST_FIGURE : mg "MOST_FIGURE" = some (.int 999999999 t1)) (g_MOST_BALLOTS : mg "MOST_BALLOTS" = some (.int 40 t2)) :
    FnOk P w K mg base CX0 5 f fd ["kind", "value"] (spIP K) := by
  refine F.ok scIsPart (fun vs H Q E h => ?_) (fun cdv A outer s H vs Q E hr h => ?_)
  · obtain ⟨k, v, p, rfl, _⟩ := h
    rfl
  · obtain ⟨k, v, p, rfl, hok, hp, q⟩ := h
    have hFA : ∀ H, Dp K H (.ref aFA) (.tuple FAD) := fun H => dp_fa (hFA' H)
    refine ⟨_, (pss_cons (ps_if (PW.pt (pw_and (pt_cmpR op_in_seq (pv 0) (pe_glob (v := .ref aAN) rfl g_ANSWERS rfl) rfl) (pw_and1 (pt_cmpR (KGt.op_inT (units65 hr)) (pv 1) (pe_glob (v := .ref aFA) rfl g_FAULTS rfl) rfl)))) (pss_one (ps_ret pe_bl)) pss_nil)
      (pss_cons (ps_if (pt_cmpR op_eq (pv 0) pe_str rfl) (pss_one (ps_ret (pe_call Nu.ok (hr.mono (by omega)) rfl Nu.g Nu.kp Nu.b .nil pass0 (pa_cons (pv 1) (pa_cons pe_int (pa_cons (pe_glob (v := .int 999999999) rfl g_MOST_FIGURE ⟨_, rfl⟩) pa_nil)))))) pss_nil)
      (pss_cons (ps_if (pt_cmpR op_eq (pv 0) pe_str rfl) (pss_one (ps_ret (pe_call In.ok (hr.mono (by omega)) rfl In.g In.kp In.b .nil pass0 (pa_cons (pv 1) pa_nil)))) pss_nil)
      (pss_cons (ps_if (pt_cmpR op_eq (pv 0) pe_str rfl) (pss_one (ps_ret (pe_cmpR op_in_seq (pv 1) (pe_glob (v := .ref aRE) rfl g_REASONS rfl) rfl))) pss_nil)
      (pss_cons (ps_if (pt_cmpR op_eq (pv 0) pe_str rfl) (pss_one (ps_ret (pe_cmpR op_in_seq (pv 1) (pe_glob (v := .ref aEN) rfl g_ENDS rfl) rfl))) pss_nil)
      (pss_cons (ps_if (pt_not (pt_val (pe_callB call_isi rfl b_isinstance (by decide +kernel) (pa_cons (pv 1) (pa_cons (pe_ty "tuple" rfl b_tuple (by decide +kernel)) pa_nil))))) (pss_one (ps_ret pe_bl)) pss_nil)
      (pss_cons (ps_if (pt_cmpR op_eq (pv 0) pe_str rfl) (pss_one (ps_ret (pe_call Sh.ok (hr.mono (by omega)) rfl Sh.g Sh.kp Sh.b .nil pass0 (pa_cons (pv 1) pa_nil)))) pss_nil)
      (pss_cons (ps_if (pt_cmpR op_eq (pv 0) pe_str rfl) (pss_one (ps_ret (pe_and (pe_call Hf.ok (hr.mono (by omega)) rfl Hf.g Hf.kp Hf.b .nil pass0 (pa_cons (pv 1) pa_nil)) (pe_one (pe_cmpR op_le (pe_callB call_len rfl b_len (by decide +kernel) (pa_cons (pv 1) pa_nil)) (pe_glob (v := .int 40) rfl g_MOST_BALLOTS ⟨_, rfl⟩) rfl))))) pss_nil)
      (pss_cons (ps_if (pt_cmpR op_eq (pv 0) pe_str rfl) (pss_one (ps_ret (pe_call As.ok (hr.mono (by omega)) rfl As.g As.kp As.b .nil pass0 (pa_cons (pv 1) pa_nil)))) pss_nil)
      (pss_one (ps_ret (pe_and (pe_cmpR (op_neD hr.units) (pv 1) (pe_tup pa_nil) rfl) (pe_one (pe_callB (cr_all rfl) rfl b_all (by decide +kernel) (pa_cons (pe_lc (own := [("row", 2)]) (g := gName 2) (tt := tYes) (te := tCall (spIR K) [] E0 (tCons (tVar 0) (tCons (tVar 2) tNil))) rfl scIsPart.nd (pi_tup (pv 1)) (blkOk_by (own := [("row", 2)]) (N := ["kind", "value", "row"]) (sc := defScope sIsPart) (by decide +kernel)) (fun _ _ _ _ _ => (pg_name (i := 2) scIsPart.nd rfl (.inl rfl) (.inr rfl))) (fun _ _ _ _ _ => pts_nil) (fun _ _ _ _ _ => (pe_call Ir.ok (hr.mono (by omega)) rfl Ir.g Ir.kp Ir.b .nil pass0 (pa_cons (pv 0) (pa_cons (pv 2) pa_nil))))) pa_nil))))))))))))))), ?_⟩
    have ty := ty_part (K := K) hp
    have q0 := q H (Same.refl H)
    cases k with
    | number =>
      cases p with
      | num n =>
        have hn : n ≤ 999999999 := hok
        have hv : v = .int (n : Nat) := hp
        subst hv
        refine ⟨_, rfl, aAN, _, rfl, .inr (hAN _), rfl, by decide +kernel, _, rfl, iteFd (by decide +kernel) ⟨_, rfl, rfl, _, rfl, iteTd (by decide +kernel) ⟨_, rfl, .int (n : Nat), 0, 999999999, rfl, .inl trivial, ?_⟩⟩⟩
        rw [show inI 0 999999999 (.int (n : Nat)) = true by show (decide ((0 : Int) ≤ (n : Nat)) && decide (((n : Nat) : Int) ≤ 999999999)) = true; rw [decide_eq_true (show (0 : Int) ≤ (n : Nat) by omega), decide_eq_true (show ((n : Nat) : Int) ≤ 999999999 by omega)]; rfl]
        exact q0
      | _ => exact hok.elim
    | name =>
      cases p with
      | word l =>
        have hv : v = tx l := hp
        subst hv
        exact ⟨_, rfl, aAN, _, rfl, .inr (hAN _), rfl, by decide +kernel, _, rfl, iteFd (by decide +kernel) ⟨_, rfl, rfl, _, rfl, iteFd (by decide +kernel) ⟨_, rfl, rfl, _, rfl, iteTd (by decide +kernel) ⟨_, rfl, l, rfl, hok, q0⟩⟩⟩⟩
      | _ => exact hok.elim
    | reason =>
      cases p with
      | word l =>
        have hv : v = tx l := hp
        subst hv
        refine ⟨_, rfl, aAN, _, rfl, .inr (hAN _), rfl, by decide +kernel, _, rfl, iteFd (by decide +kernel) ⟨_, rfl, rfl, _, rfl, iteFd (by decide +kernel) ⟨_, rfl, rfl, _, rfl, iteFd (by decide +kernel) ⟨_, rfl, rfl, _, rfl, iteTd (by decide +kernel) ⟨_, rfl, aRE, _, rfl, .inr (hRE _), rfl, by decide +kernel, ?_⟩⟩⟩⟩⟩
        rw [if_neg (by decide), show REV = REASONS.map tx from rfl, inV_tx, decide_eq_true (show l ∈ REASONS from hok)]
        exact q0
      | _ => exact hok.elim
    | fin =>
      cases p with
      | word l =>
        have hv : v = tx l := hp
        subst hv
        refine ⟨_, rfl, aAN, _, rfl, .inr (hAN _), rfl, by decide +kernel, _, rfl, iteFd (by decide +kernel) ⟨_, rfl, rfl, _, rfl, iteFd (by decide +kernel) ⟨_, rfl, rfl, _, rfl, iteFd (by decide +kernel) ⟨_, rfl, rfl, _, rfl, iteFd (by decide +kernel) ⟨_, rfl, rfl, _, rfl, iteTd (by decide +kernel) ⟨_, rfl, aEN, _, rfl, .inr (hEN _), rfl, by decide +kernel, ?_⟩⟩⟩⟩⟩⟩
        rw [if_neg (by decide), show ENV = ENDS.map tx from rfl, inV_tx, decide_eq_true (show l ∈ ENDS from hok)]
        exact q0
      | _ => exact hok.elim
    | sheet =>
      cases p with
      | word l => exact ⟨_, rfl, aAN, _, rfl, .inr (hAN _), rfl, by decide +kernel, _, rfl, iteTd (by decide +kernel) ⟨_, rfl, _, FAD, dp_part (p := .word l) hp, hFA _, shaped_part (ok_low hok), by decide +kernel, _, rfl, iteTd (by rw [fa_any]; exact decide_eq_true hok) q0⟩⟩
      | rows rs =>
        refine ⟨_, rfl, aAN, _, rfl, .inr (hAN _), rfl, by decide +kernel, _, rfl, iteTd (by decide +kernel) ⟨_, rfl, _, FAD, dp_part (p := .rows rs) hp, hFA _, shaped_part (ok_low hok), by decide +kernel, _, rfl, iteFd (by rw [fa_any]) ⟨_, rfl, rfl, _, rfl, iteFd (by decide +kernel) ⟨_, rfl, rfl, _, rfl, iteFd (by decide +kernel) ⟨_, rfl, rfl, _, rfl, iteFd (by decide +kernel) ⟨_, rfl, rfl, _, rfl, iteFd (by decide +kernel) ⟨_, rfl, _, _, _, _, _, rfl, .ty _, ty, k1_tt, _, rfl, iteF ⟨_, rfl, rfl, _, rfl, iteFd (by decide +kernel) ⟨_, rfl, rfl, _, rfl, iteFd (by decide +kernel) ⟨_, rfl, rfl, _, rfl, iteFd (by decide +kernel) ⟨_, rfl, Nat.zero_le _, fun z nz => ⟨_, _, dp_part (PartAt.same (same_upd nz) hp), .tup (SqT.of upd_same) .nil, shaped_part (ok_low hok), by decide +kernel, _, rfl, iteTd (by rw [eqv_unit hok]; rfl) ?_⟩⟩⟩⟩⟩⟩⟩⟩⟩⟩⟩⟩
        obtain ⟨r1, r2, r3⟩ := sgd_row hok
        have s1 : Same H (upd H z (.tup [])) := same_upd nz
        obtain ⟨a, ts, rfl, ha, hts⟩ := PartAt.same s1 hp
        have htl := hts.length
        generalize upd H z (.tup []) = H1 at s1 ha hts ⊢
        refine ⟨_, rfl, a, rfl, ⟨_, SqT.of ha⟩, fun D nD => lc_it walk_tup (fun i G => Same H1 G ∧ G D = some (.lst ((List.replicate i true).map V.bl))) ⟨same_upd nD, upd_same⟩ (fun i G _ h => SqT.of (h.1 _ _ ha)) ?_ ?_⟩
        · rintro i x G1 G hi ⟨sG, gD⟩ ⟨rfl, ex⟩
          rw [List.length_map] at hi
          have er : rs[i]? = some rs[i] := List.getElem?_eq_getElem (by omega)
          obtain ⟨ta, ea, hta⟩ := paired_at hts er
          rw [List.getElem?_map, ea] at ex
          cases ex
          obtain ⟨p1, p2, _⟩ := r3 _ (List.mem_of_getElem? er)
          refine ⟨rfl, ?_⟩
          unfold tYes
          refine iteT ⟨_, rfl, _, rfl, .sheet, ta, _, rfl, sG _ _ hta, p1, p2, .inl ⟨rfl, ((hok : RowsOk Sgd rs).2.2 _ (List.mem_of_getElem? er)).2.2⟩, fun G3 s3 => ?_⟩
          exact push_true nD (sG.trans s3) (s3 _ _ gD) hi (by omega)
        · rintro G ⟨sG, gD⟩
          refine ⟨D, _, rfl, SqL.of gD, ?_⟩
          rw [all_rep]
          exact q G (s1.trans sG)
      | _ => exact hok.elim
    | ballots =>
      cases p with
      | word l => exact ⟨_, rfl, aAN, _, rfl, .inr (hAN _), rfl, by decide +kernel, _, rfl, iteTd (by decide +kernel) ⟨_, rfl, _, FAD, dp_part (p := .word l) hp, hFA _, shaped_part (ok_low hok), by decide +kernel, _, rfl, iteTd (by rw [fa_any]; exact decide_eq_true hok) q0⟩⟩
      | nums r =>
        obtain ⟨a, rfl, ha⟩ := id hp
        obtain ⟨h40, hs⟩ := (id hok : r.length ≤ 40 ∧ Sgd r)
        refine ⟨_, rfl, aAN, _, rfl, .inr (hAN _), rfl, by decide +kernel, _, rfl, iteTd (by decide +kernel) ⟨_, rfl, _, FAD, dp_part (p := .nums r) hp, hFA _, shaped_part (ok_low hok), by decide +kernel, _, rfl, iteFd (by rw [fa_any]) ⟨_, rfl, rfl, _, rfl, iteFd (by decide +kernel) ⟨_, rfl, rfl, _, rfl, iteFd (by decide +kernel) ⟨_, rfl, rfl, _, rfl, iteFd (by decide +kernel) ⟨_, rfl, rfl, _, rfl, iteFd (by decide +kernel) ⟨_, rfl, _, _, _, _, _, rfl, .ty _, ty, k1_tt, _, rfl, iteF ⟨_, rfl, rfl, _, rfl, iteFd (by decide +kernel) ⟨_, rfl, rfl, _, rfl, iteTd (by decide +kernel) ⟨_, rfl, a, r, rfl, SqT.of ha, by omega, hs, fun H2 s2 => ⟨_, rfl, iteT ⟨_, rfl, _, _, rfl, .inr ⟨_, SqT.of (s2 _ _ ha), rfl⟩, _, _, rfl, rfl, ?_⟩⟩⟩⟩⟩⟩⟩⟩⟩⟩⟩⟩
        show Q (.bl (decide (((intsI r).length : Int) ≤ 40))) H2
        rw [show decide (((intsI r).length : Int) ≤ 40) = true from decide_eq_true (by rw [List.length_map]; omega)]
        exact q H2 s2
      | _ => exact hok.elim
    | shown =>
      cases p with
      | word l => exact ⟨_, rfl, aAN, _, rfl, .inr (hAN _), rfl, by decide +kernel, _, rfl, iteTd (by decide +kernel) ⟨_, rfl, _, FAD, dp_part (p := .word l) hp, hFA _, shaped_part (ok_low hok), by decide +kernel, _, rfl, iteTd (by rw [fa_any]; exact decide_eq_true hok) q0⟩⟩
      | shown n t =>
        obtain ⟨a, rfl, ha⟩ := id hp
        obtain ⟨h1, h2, h3⟩ := (id hok : n ≤ 9999 ∧ t.length ≤ 60 ∧ ∀ c ∈ t, 32 ≤ c ∧ c ≤ 126)
        exact ⟨_, rfl, aAN, _, rfl, .inr (hAN _), rfl, by decide +kernel, _, rfl, iteTd (by decide +kernel) ⟨_, rfl, _, FAD, dp_part (p := .shown n t) hp, hFA _, shaped_part (ok_low hok), by decide +kernel, _, rfl, iteFd (by rw [fa_any]) ⟨_, rfl, rfl, _, rfl, iteFd (by decide +kernel) ⟨_, rfl, rfl, _, rfl, iteFd (by decide +kernel) ⟨_, rfl, rfl, _, rfl, iteFd (by decide +kernel) ⟨_, rfl, rfl, _, rfl, iteFd (by decide +kernel) ⟨_, rfl, _, _, _, _, _, rfl, .ty _, ty, k1_tt, _, rfl, iteF ⟨_, rfl, rfl, _, rfl, iteTd (by decide +kernel) ⟨_, rfl, a, n, t, rfl, ha, h1, h2, h3, q⟩⟩⟩⟩⟩⟩⟩⟩⟩
      | _ => exact hok.elim
    | rows =>
      cases p with
      | rows rs =>
        refine ⟨_, rfl, aAN, _, rfl, .inr (hAN _), rfl, by decide +kernel, _, rfl, iteFd (by decide +kernel) ⟨_, rfl, rfl, _, rfl, iteFd (by decide +kernel) ⟨_, rfl, rfl, _, rfl, iteFd (by decide +kernel) ⟨_, rfl, rfl, _, rfl, iteFd (by decide +kernel) ⟨_, rfl, rfl, _, rfl, iteFd (by decide +kernel) ⟨_, rfl, _, _, _, _, _, rfl, .ty _, ty, k1_tt, _, rfl, iteF ⟨_, rfl, rfl, _, rfl, iteFd (by decide +kernel) ⟨_, rfl, rfl, _, rfl, iteFd (by decide +kernel) ⟨_, rfl, rfl, _, rfl, iteFd (by decide +kernel) ⟨_, rfl, Nat.zero_le _, fun z nz => ⟨_, _, dp_part (PartAt.same (same_upd nz) hp), .tup (SqT.of upd_same) .nil, shaped_part (ok_low hok), by decide +kernel, _, rfl, iteTd (by rw [eqv_unit hok]; rfl) ?_⟩⟩⟩⟩⟩⟩⟩⟩⟩⟩⟩
        obtain ⟨r1, r2, r3⟩ := sgd_row hok
        have s1 : Same H (upd H z (.tup [])) := same_upd nz
        obtain ⟨a, ts, rfl, ha, hts⟩ := PartAt.same s1 hp
        have htl := hts.length
        generalize upd H z (.tup []) = H1 at s1 ha hts ⊢
        refine ⟨_, rfl, a, rfl, ⟨_, SqT.of ha⟩, fun D nD => lc_it walk_tup (fun i G => Same H1 G ∧ G D = some (.lst ((List.replicate i true).map V.bl))) ⟨same_upd nD, upd_same⟩ (fun i G _ h => SqT.of (h.1 _ _ ha)) ?_ ?_⟩
        · rintro i x G1 G hi ⟨sG, gD⟩ ⟨rfl, ex⟩
          rw [List.length_map] at hi
          have er : rs[i]? = some rs[i] := List.getElem?_eq_getElem (by omega)
          obtain ⟨ta, ea, hta⟩ := paired_at hts er
          rw [List.getElem?_map, ea] at ex
          cases ex
          obtain ⟨p1, p2, _⟩ := r3 _ (List.mem_of_getElem? er)
          refine ⟨rfl, ?_⟩
          unfold tYes
          refine iteT ⟨_, rfl, _, rfl, .rows, ta, _, rfl, sG _ _ hta, p1, p2, .inr ⟨rfl, ((hok : RowsOk Uns rs).2.2 _ (List.mem_of_getElem? er)).2.2⟩, fun G3 s3 => ?_⟩
          exact push_true nD (sG.trans s3) (s3 _ _ gD) hi (by omega)
        · rintro G ⟨sG, gD⟩
          refine ⟨D, _, rfl, SqL.of gD, ?_⟩
          rw [all_rep]
          exact q G (s1.trans sG)
      | _ => exact hok.elim
    | seats =>
      cases p with
      | nums r =>
        obtain ⟨a, rfl, ha⟩ := id hp
        obtain ⟨h40, hs⟩ := (id hok : r.length ≤ 10 ∧ Uns r)
        exact ⟨_, rfl, aAN, _, rfl, .inr (hAN _), rfl, by decide +kernel, _, rfl, iteFd (by decide +kernel) ⟨_, rfl, rfl, _, rfl, iteFd (by decide +kernel) ⟨_, rfl, rfl, _, rfl, iteFd (by decide +kernel) ⟨_, rfl, rfl, _, rfl, iteFd (by decide +kernel) ⟨_, rfl, rfl, _, rfl, iteFd (by decide +kernel) ⟨_, rfl, _, _, _, _, _, rfl, .ty _, ty, k1_tt, _, rfl, iteF ⟨_, rfl, rfl, _, rfl, iteFd (by decide +kernel) ⟨_, rfl, rfl, _, rfl, iteFd (by decide +kernel) ⟨_, rfl, rfl, _, rfl, iteTd (by decide +kernel) ⟨_, rfl, a, r, rfl, SqT.of ha, by omega, hs, q⟩⟩⟩⟩⟩⟩⟩⟩⟩⟩
      | _ => exact hok.elim
end
end My

set_option Elab.async false
set_option linter.all false
set_option maxRecDepth 100000
namespace My
open PySem PySem.Spec PyProof.Rows L2 SX
abbrev sIsEntry : Stmt := topS 41
theorem scIsEntry : FnScope ["value"] ["value"] (defScope sIsEntry) := ⟨rfl, rfl, rfl, by decide +kernel, rfl, by decide +kernel, by decide +kernel⟩
def pdE (e : Ent) : PyData := .tuple (.str (wdS e.w) :: e.ps.map pdP)
theorem dp_parts {K : PySem.W.Frag} {H : Hp} {vs : List V} {ps : List Part} (h : Paired (PartAt H) vs ps) : DpAll K H vs (ps.map pdP) := by
  induction h with
  | nil => exact .nil
  | cons e _ ih => exact .cons (dp_part e) ih
theorem dp_ent {K : PySem.W.Frag} {H : Hp} {t : Addr} {e : Ent} (h : EntAt H t e) : Dp K H (.ref t) (pdE e) := by
  obtain ⟨vs, ht, hv⟩ := h
  exact .tup (SqT.of ht) (.cons (.str _) (dp_parts hv))
theorem lay_parts : ∀ {ps : List Part}, (∀ p ∈ ps, LowP p) → PyData.canLayAll0 (ps.map pdP) = true ∧ PyData.depthAll (ps.map pdP) ≤ 2
  | [], _ => ⟨by simp [PyData.canLayAll0], by simp [PyData.depthAll]⟩
  | p :: ps, h => by
    obtain ⟨h1, h2⟩ := lay_parts (ps := ps) fun q hq => h q (List.mem_cons_of_mem _ hq)
    obtain ⟨h3, h4⟩ := lay_part (h p List.mem_cons_self)
    refine ⟨by simp [PyData.canLayAll0, h1, h3], ?_⟩
    rw [List.map_cons]
    unfold PyData.depthAll
    exact Nat.max_le.mpr ⟨h4, h2⟩
theorem ok_lows : ∀ {ks : List Kd} {ps : List Part}, okAll ks ps → ∀ p ∈ ps, LowP p
  | [], [], _, p, h => by cases h
  | _ :: _, _ :: _, h, p, hp => by
    rcases List.mem_cons.mp hp with rfl | hp
    · exact ok_low h.1
    · exact ok_lows h.2 p hp
  | [], _ :: _, h, _, _ => h.elim
  | _ :: _, [], h, _, _ => h.elim
theorem wd_str (x : Wd) : PyData.strOk (wdS x) = true := by cases x <;> decide +kernel
theorem lay_ent {e : Ent} (h : e.ok) : (pdE e).canLay0 = true ∧ (pdE e).depth ≤ 3 := by
  obtain ⟨h1, h2⟩ := lay_parts (ok_lows h)
  refine ⟨by simp [pdE, PyData.canLay0, PyData.canLayAll0, h1, wd_str], ?_⟩
  unfold pdE PyData.depth
  rw [show PyData.depthAll (.str (wdS e.w) :: e.ps.map pdP) = max (PyData.depth (.str (wdS e.w))) (PyData.depthAll (e.ps.map pdP)) by simp [PyData.depthAll]]
  have : PyData.depth (.str (wdS e.w)) = 0 := by simp [PyData.depth]
  rw [this]
  omega
theorem shaped_ent {e : Ent} (h : e.ok) : SeqAt.shaped (pdE e) = true := by
  obtain ⟨h1, h2⟩ := lay_ent h
  unfold SeqAt.shaped
  rw [h1, decide_eq_true (by omega)]
  rfl
theorem kdct_has {K : PySem.W.Frag} {w : World} {a : Addr} {x : Str} {v : V} (h : KDct K w a x v) : KGt.KHas K a x (some v) := by
  obtain ⟨es, n, u, h1, h2, h3, h4⟩ := h
  exact ⟨some u, h3, h4⟩
theorem cut_nw {a : V} {vs : List V} : ¬(HT.sIx (a :: vs).length 0 (some 1) = 0 ∧ HT.sIx (a :: vs).length (a :: vs).length none = (a :: vs).length) := by
  rintro ⟨z, _⟩
  have e1 : HT.sIx (a :: vs).length 0 (some ((1 : Nat) : Int)) = min 1 (a :: vs).length := HT.sIx_nat _ _ 1
  have z : HT.sIx (a :: vs).length 0 (some ((1 : Nat) : Int)) = 0 := z
  rw [List.length_cons] at e1 z
  omega
def spHP (K : PySem.W.Frag) : Sp := fun vs H Q _ => ∃ t e, vs = [.ref t] ∧ e.ok ∧ EntAt H t e ∧ ∀ H', Same H H' → Q (.bl true) H'
section
variable {P : Program} {w : World} {K : PySem.W.Frag} {mg : Str → Option Value} {base : Heap}
theorem ok_pattern {f fI aPA : Addr} {fd fdI : FuncData} {k : Nat} (F : Fun K "has_pattern" "has_pattern" sHasPattern f fd) (Ip : Cal P w K mg base "is_part" (k + 1) ["kind", "value"] (spIP K) fI fdI) (b_isinstance : mg "isinstance" = none) (b_tuple : mg "tuple" = none) (b_str : mg "str" = none) (b_len : mg "len" = none) (b_all : mg "all" = none) (b_zip : mg "zip" = none) (g_PATTERNS : mg "PATTERNS" = some (.ref aPA)) (hPA : Pats K w aPA) : FnOk P w K mg base CX0 (k + 2) f fd ["value"] (spHP K) := by
  refine F.ok scHasPattern (fun vs H Q E h => ?_) (fun cdv A outer s H vs Q E hr h => ?_)
  · obtain ⟨t, e, rfl, _⟩ := h
    rfl
  · obtain ⟨t, e, rfl, hok, hE, q⟩ := h
    refine ⟨_, (pss_cons (ps_if (PW.pt (pw_or (pt_not (pt_val (pe_callB call_isi rfl b_isinstance (by decide +kernel) (pa_cons (pv 0) (pa_cons (pe_ty "tuple" rfl b_tuple (by decide +kernel)) pa_nil))))) (pw_or (pt_cmpR (op_eqD hr.units) (pv 0) (pe_tup pa_nil) rfl) (pw_or1 (pt_not (pt_val (pe_callB call_isi rfl b_isinstance (by decide +kernel) (pa_cons (pe_ix ix_tup (pv 0) pe_int (fun _ _ => rfl)) (pa_cons (pe_ty "str" rfl b_str (by decide +kernel)) pa_nil))))))))) (pss_one (ps_ret pe_bl)) pss_nil)
      (pss_cons (ps_set (i := 1) scHasPattern.nd rfl (.inl rfl) (KGt.pe_kget1 (pe_glob (v := .ref aPA) rfl g_PATTERNS rfl) (pe_ix ix_tup (pv 0) pe_int (fun _ _ => rfl)) ⟨rfl, rfl, rfl, rfl⟩))
      (pss_cons (ps_if (PW.pt (pw_or (pt_cmpR op_isN (pv 1) pe_non rfl) (pw_or1 (pt_cmpR op_ne (pe_callB call_len rfl b_len (by decide +kernel) (pa_cons (pv 0) pa_nil)) (pe_op op_add (pe_callB call_len rfl b_len (by decide +kernel) (pa_cons (pv 1) pa_nil)) pe_int) rfl)))) (pss_one (ps_ret pe_bl)) pss_nil)
      (pss_one (ps_ret (pe_callB (cr_all rfl) rfl b_all (by decide +kernel) (pa_cons (pe_lc (own := [("kind", 2), ("part", 3)]) (g := gTup K 2 (gCons (gName 2) (gCons (gName 3) gNil))) (tt := tYes) (te := tCall (spIP K) [] E0 (tCons (tVar 2) (tCons (tVar 3) tNil))) rfl scHasPattern.nd (RZ.pi_zipA rfl b_zip (pa_cons (pv 1) (pa_cons (pe_slice sl_tup (pv 0) (po_some pe_int) po_none) pa_nil))) (blkOk_by (own := [("kind", 2), ("part", 3)]) (N := ["value", "kinds", "kind", "part"]) (sc := defScope sHasPattern) (by decide +kernel)) (fun _ _ _ _ _ => (pg_tup rfl (pgs_cons (pg_name (i := 2) scHasPattern.nd rfl (.inl rfl) (.inr rfl)) (pgs_cons (pg_name (i := 3) scHasPattern.nd rfl (.inl rfl) (.inr rfl)) pgs_nil)))) (fun _ _ _ _ _ => pts_nil) (fun _ _ _ _ _ => (pe_call Ip.ok (hr.mono (by omega)) rfl Ip.g Ip.kp Ip.b .nil pass0 (pa_cons (pv 2) (pa_cons (pv 3) pa_nil))))) pa_nil))))))), ?_⟩
    obtain ⟨vs, ht, hvs⟩ := id hE
    obtain ⟨aK, hD, hK⟩ := hPA.at_ e.w
    have hpl := okAll_len hok
    have hvl := hvs.length
    obtain ⟨pl6, pl2, wl8⟩ := pat_len e.w
    refine ⟨_, rfl, _, _, _, _, _, rfl, .ty _, ty_tup (SqT.of ht), k1_tt, _, rfl, iteF ⟨_, rfl, Nat.zero_le _, fun z nz => ⟨_, _, dp_ent (hE.same (same_upd nz)), .tup (SqT.of upd_same) .nil, shaped_ent hok, by decide +kernel, _, rfl, iteFd (by simp [pdE, PyData.eqv, PyData.eqvAll]) ?_⟩⟩⟩
    have s1 : Same H (upd H z (.tup [])) := same_upd nz
    have ht1 := s1 _ _ ht
    have hvs1 := Paired.mapP hvs fun _ _ y => PartAt.same s1 y
    generalize upd H z (.tup []) = H1 at s1 ht1 hvs1 ⊢
    refine ⟨_, rfl, t, _, 0, _, rfl, rfl, SqT.of ht1, atI_nat rfl, _, _, _, _, _, rfl, .ty _, .base (.str _), rfl, _, rfl, iteF ?_⟩
    refine ⟨aPA, rfl, hPA.dic, _, rfl, t, _, 0, _, rfl, rfl, SqT.of ht1, atI_nat rfl, _, some (.ref aK), rfl, kdct_has hD, ?_⟩
    refine ⟨_, rfl, rfl, _, rfl, iteFd rfl ⟨_, rfl, _, _, rfl, .inr ⟨_, SqT.of ht1, rfl⟩, _, rfl, _, _, rfl, .inr ⟨_, hK _, rfl⟩, _, _, rfl, rfl, rfl, _, rfl, iteFd ?_ ?_⟩⟩
    · have e1 : ((V.str (wdS e.w) :: vs).length : Int) = ((kdV (pat e.w)).length : Int) + 1 := by
        unfold kdV
        rw [List.length_cons, List.length_map]
        omega
      rw [e1]
      simp
    refine ⟨_, rfl, _, rfl, 1, rfl, t, _, rfl, SqT.of ht1, cut_nw, fun p np => ?_⟩
    have s2 : Same H1 (upd H1 p (.tup vs)) := same_upd np
    have ecut : cutV (V.str (wdS e.w) :: vs) (some 1) none = vs := cut_fromG 1
    rw [ecut]
    have gp : (upd H1 p (.tup vs)) p = some (.tup vs) := upd_same
    have hvs2 := Paired.mapP hvs1 fun _ _ y => PartAt.same s2 y
    generalize upd H1 p (.tup vs) = H2 at s2 gp hvs2 ⊢
    refine ⟨aK, p, _, _, rfl, .inr ⟨hK _, SqT.of gp, fun D nD => lc_it (walk_zipT (K := K) (a := aK) (b := p) (xs := kdV (pat e.w)) (ys := vs) (n := e.ps.length) (by unfold kdV; rw [List.length_map]; omega)) (fun i G => Same H2 G ∧ G D = some (.lst ((List.replicate i true).map V.bl))) ⟨same_upd nD, upd_same⟩ (fun i G _ h => ⟨hK _, SqT.of (h.1 _ _ gp)⟩) ?_ ?_⟩⟩
    · rintro i z G0 G hi ⟨sG, gD⟩ ⟨T, x, y, rfl, nT, rfl, hx, hy⟩
      have hil : i < (pat e.w).length := by omega
      have ek : (pat e.w)[i]? = some (pat e.w)[i] := List.getElem?_eq_getElem hil
      have ep : e.ps[i]? = some e.ps[i] := List.getElem?_eq_getElem hi
      generalize (pat e.w)[i] = kk at ek
      generalize e.ps[i] = pp at ep
      have hx : ((pat e.w).map fun k => V.str (kdS k))[i]? = some x := hx
      rw [List.getElem?_map, ek] at hx
      cases hx
      obtain ⟨v, ev, hpp⟩ := paired_at hvs2 ep
      have hy : vs[i]? = some y := hy
      rw [ev] at hy
      cases hy
      have sT : Same G0 (upd G0 T (.tup [.str (kdS kk), y])) := same_upd nT
      refine ⟨T, _, rfl, SqT.of upd_same, rfl, _, _, rfl, _, _, rfl, rfl, rfl, ?_⟩
      unfold tYes
      refine iteT ⟨_, rfl, _, rfl, kk, y, pp, rfl, okAll_get hok ek ep, hpp.same (sG.trans sT), fun G3 s3 => ?_⟩
      exact push_true nD ((sG.trans sT).trans s3) (s3 _ _ (sT _ _ gD)) hi (by omega)
    · rintro G ⟨sG, gD⟩
      refine ⟨D, _, rfl, SqL.of gD, ?_⟩
      rw [all_rep]
      exact q G (s1.trans (s2.trans sG))
theorem ok_is_entry {f fP : Addr} {fd fdP : FuncData} {k : Nat} (F : Fun K "is_entry" "is_entry" sIsEntry f fd) (Hp : Cal P w K mg base "has_pattern" (k + 1) ["value"] (spHP K) fP fdP) : FnOk P w K mg base CX0 (k + 2) f fd ["value"] (spHP K) := by
  refine F.ok scIsEntry (fun vs H Q E h => ?_) (fun cdv A outer s H vs Q E hr h => ?_)
  · obtain ⟨t, e, rfl, _⟩ := h
    rfl
  · obtain ⟨t, e, rfl, hok, hE, q⟩ := h
    refine ⟨_, (pss_one (ps_ret (pe_call Hp.ok (hr.mono (by omega)) rfl Hp.g Hp.kp Hp.b .nil pass0 (pa_cons (pv 0) pa_nil)))), ?_⟩
    exact ⟨_, rfl, t, e, rfl, hok, hE, q⟩
end
end My

set_option Elab.async false
set_option linter.all false
set_option maxRecDepth 100000
namespace My
open PySem PySem.Spec PyProof.Rows L2 SX
abbrev sReadNumber : Stmt := topS 37
theorem scReadNumber : FnScope ["word", "figures"] ["word"] (defScope sReadNumber) := ⟨rfl, rfl, rfl, by decide +kernel, rfl, by decide +kernel, by decide +kernel⟩
abbrev sReadNumbers : Stmt := topS 38
theorem scReadNumbers : FnScope ["text", "word"] ["text"] (defScope sReadNumbers) := ⟨rfl, rfl, rfl, by decide +kernel, rfl, by decide +kernel, by decide +kernel⟩
def spRN (K : PySem.W.Frag) : Sp := fun vs H Q _ => ∃ x : Int, vs = [tx (ntx x)] ∧ -999999999 ≤ x ∧ x ≤ 999999999 ∧ Q (.int x) H
def spRNs (K : PySem.W.Frag) : Sp := fun vs H Q _ => ∃ r : List Int, vs = [tx (numsT r)] ∧ r ≠ [] ∧ r.length ≤ 60 ∧ Sgd r ∧ ∀ t H', Same H H' → H' t = some (.tup (intsI r)) → Q (.ref t) H'
section
variable {P : Program} {w : World} {K : PySem.W.Frag} {mg : Str → Option Value} {base : Heap}
theorem ok_rnum {f fF : Addr} {fd fdF : FuncData} {k : Nat} {t9 : Tok} (F : Fun K "read_number" "read_number" sReadNumber f fd) (If : Cal P w K mg base "is_figures" (k + 1) ["text"] spFig fF fdF) (b_int : mg "int" = none) (b_len : mg "len" = none) (g_LONGEST_FIGURES : mg "LONGEST_FIGURES" = some (.int 9 t9)) : FnOk P w K mg base CX0 (k + 2) f fd ["word"] (spRN K) := by
  refine F.ok scReadNumber (fun vs H Q E h => ?_) (fun cdv A outer s H vs Q E hr h => ?_)
  · obtain ⟨x, rfl, _⟩ := h
    rfl
  · obtain ⟨x, rfl, h1, h2, q⟩ := h
    refine ⟨_, (pss_cons (ps_set (i := 1) scReadNumber.nd rfl (.inl rfl) (pe_m1 PySem.F.slot_str_removeprefix PySem.F.type_str_removeprefix mt_removeprefix (pv 0) pe_str))
      (pss_one (ps_ret (pe_ifExp (PW.pt (pw_and (pt_val (pe_call If.ok (hr.mono (by omega)) rfl If.g If.kp If.b .nil pass0 (pa_cons (pv 1) pa_nil))) (pw_and1 (pt_cmpR op_le (pe_callB call_len rfl b_len (by decide +kernel) (pa_cons (pv 1) pa_nil)) (pe_glob (v := .int 9) rfl g_LONGEST_FIGURES ⟨_, rfl⟩) rfl)))) (pe_callTy call_int_str rfl b_int (by decide +kernel) (pa_cons (pv 0) pa_nil)) pe_non)))), ?_⟩
    obtain ⟨l1, l2⟩ := ntx_len ⟨h1, h2⟩
    refine ⟨_, rfl, ⟨_, rfl⟩, S (ntx x), S [45], rfl, rfl, line_of (by rw [S_len]; omega), ?_⟩
    have e : Txt.removeprefix (S (ntx x)) (S [45]) = S (TL.numL x.natAbs) := by
      rw [← un_ntx0]
      exact pref_S _
    rw [e]
    refine ⟨_, rfl, _, rfl, numL_ne _, TL.numL_digits _, _, rfl, iteT ⟨_, rfl, _, _, rfl, ⟨line_of (by rw [S_len]; omega), rfl⟩, _, _, rfl, rfl, _, rfl, ?_⟩⟩
    rw [decide_eq_true (by rw [S_len]; omega)]
    exact iteT ⟨_, rfl, _, _, rfl, ntx_int ⟨h1, h2⟩, by rw [S_len]; omega, q⟩
theorem ok_rnums {f fR : Addr} {fd fdR : FuncData} {k : Nat} (F : Fun K "read_numbers" "read_numbers" sReadNumbers f fd) (Rn : Cal P w K mg base "read_number" (k + 1) ["word"] (spRN K) fR fdR) (b_tuple : mg "tuple" = none) : FnOk P w K mg base CX0 (k + 2) f fd ["text"] (spRNs K) := by
  refine F.ok scReadNumbers (fun vs H Q E h => ?_) (fun cdv A outer s H vs Q E hr h => ?_)
  · obtain ⟨x, rfl, _⟩ := h
    rfl
  · obtain ⟨r, rfl, hn, hl, hv, q⟩ := h
    refine ⟨_, (pss_one (ps_ret (pe_callTy call_tuple_of rfl b_tuple (by decide +kernel) (pa_cons (pe_lc (own := [("word", 1)]) (g := gName 1) (tt := tYes) (te := tCall (spRN K) [] E0 (tCons (tVar 1) tNil)) rfl scReadNumbers.nd (pi_list (pe_m1 PySem.F.slot_str_split PySem.F.type_str_split mt_split (pv 0) pe_str)) (blkOk_by (own := [("word", 1)]) (N := ["text", "word"]) (sc := defScope sReadNumbers) (by decide +kernel)) (fun _ _ _ _ _ => (pg_name (i := 1) scReadNumbers.nd rfl (.inl rfl) (.inr rfl))) (fun _ _ _ _ _ => pts_nil) (fun _ _ _ _ _ => (pe_call Rn.ok (hr.mono (by omega)) rfl Rn.g Rn.kp Rn.b .nil pass0 (pa_cons (pv 1) pa_nil)))) pa_nil)))), ?_⟩
    have hsp : Txt.split (S (numsT r)) (S [32]) = (r.map ntx).map S := by
      rw [← numsT_split r hn]
      exact split_S (b := [32]) (by simp) rfl
    have hlen := numsT_len hv
    refine ⟨_, rfl, ⟨_, rfl⟩, S (numsT r), S [32], rfl, rfl, rfl, line_of (by rw [S_len]; omega), fun p np => ?_⟩
    rw [hsp]
    have s1 : Same H (upd H p (.lst (((r.map ntx).map S).map V.str))) := same_upd np
    have hp : SqL K (upd H p (.lst (((r.map ntx).map S).map V.str))) p (((r.map ntx).map S).map V.str) := SqL.of upd_same
    generalize upd H p (.lst (((r.map ntx).map S).map V.str)) = H1 at s1 hp ⊢
    refine ⟨p, rfl, ⟨_, hp⟩, fun D nD => lc_it walk_list (fun i G => Same H1 G ∧ G D = some (.lst (intsI (r.take i)))) ⟨same_upd nD, upd_same⟩ (fun i G _ h => h.1.seq hp) ?_ ?_⟩
    · rintro i x G1 G hi ⟨sG, gD⟩ ⟨rfl, ex⟩
      rw [List.length_map, List.length_map, List.length_map] at hi
      have er : r[i]? = some r[i] := List.getElem?_eq_getElem hi
      rw [List.getElem?_map, List.getElem?_map, List.getElem?_map, er] at ex
      cases ex
      have hx := hv _ (List.mem_of_getElem? er)
      refine ⟨rfl, ?_⟩
      unfold tYes
      refine iteT ⟨_, rfl, _, rfl, hx.1, hx.2, _, gD, ?_, same_updF nD sG, ?_⟩
      · rw [List.length_map, List.length_take]
        exact small1000' (by omega)
      · rw [upd_same, take_snoc er]
        show _ = some (HO.lst (List.map V.int (_ ++ _)))
        rw [List.map_append]
        rfl
    · rintro G ⟨sG, gD⟩
      rw [List.length_map, List.length_map, List.length_map, List.take_length] at gD
      exact ⟨D, _, rfl, .inl ⟨SqL.of gD, fun l nl => q l _ (s1.trans (sG.trans (same_upd nl))) upd_same⟩⟩
end
end My

set_option Elab.async false
set_option linter.all false
set_option maxRecDepth 100000
namespace My
open PySem PySem.Spec PyProof.Rows L2 SX
abbrev sReadLong : Stmt := topS 39
theorem scReadLong : FnScope ["kind", "rest", "text", "salt", "_", "shown", "row"] ["kind", "rest"] (defScope sReadLong) := ⟨rfl, rfl, rfl, by decide +kernel, rfl, by decide +kernel, by decide +kernel⟩
def restT (p : Part) : List Nat := match partT p with
  | none => []
  | some t => 32 :: t
theorem fa_head : ∀ t ∈ FAULTS, t.head? = some 115 := by decide +kernel
theorem not_fa {p : Part} {t : List Nat} (e : partT p = some t) (h : (∃ r, p = .nums r) ∨ (∃ rs, p = .rows rs) ∨ ∃ s u, p = .shown s u) : t ∉ FAULTS := fun hm => by
  have hh := fa_head t hm
  have ht : 115 ∈ t := List.mem_of_mem_head? hh
  rcases h with ⟨r, rfl⟩ | ⟨rs, rfl⟩ | ⟨s, u, rfl⟩
  · have e : (if r = [] then none else some (numsT r)) = some t := e
    split at e
    · cases e
    · cases e
      have := numsT_mem ht
      omega
  · cases e
    have := rowsT_mem ht
    omega
  · cases e
    have hn := ntx_ne (s : Nat)
    cases ec : ntx (s : Nat) with
    | nil => exact hn ec
    | cons c l =>
      rw [ec] at hh
      have : c = 115 := Option.some.inj hh
      have := ntx_mem (x := (s : Nat)) (c := c) (by rw [ec]; exact List.mem_cons_self ..)
      omega
theorem fa_in (t : List Nat) : inV (tx t) FAV = decide (t ∈ FAULTS) := inV_tx t FAULTS
theorem an_in (k : Kd) : inV (.str (kdS k)) ANV = decide (k = .sheet ∨ k = .ballots ∨ k = .shown) := by cases k <;> decide +kernel
def spRL (K : PySem.W.Frag) : Sp := fun vs H Q _ => ∃ k p, vs = [.str (kdS k), tx (restT p)] ∧ isLong k = true ∧ okP k p ∧ ∀ v H', Same H H' → PartAt H' v p → Q v H'
section
variable {P : Program} {w : World} {K : PySem.W.Frag} {mg : Str → Option Value} {base : Heap}
theorem ok_rlong {f fR fN aAN aFA : Addr} {fd fdR fdN : FuncData} (F : Fun K "read_long" "read_long" sReadLong f fd) (Rn : Cal P w K mg base "read_number" 2 ["word"] (spRN K) fN fdN) (Rs : Cal P w K mg base "read_numbers" 3 ["text"] (spRNs K) fR fdR) (b_tuple : mg "tuple" = none) (g_ANSWERS : mg "ANSWERS" = some (.ref aAN)) (hAN : ∀ H, SqT K H aAN ANV) (g_FAULTS : mg "FAULTS" = some (.ref aFA)) (hFA : ∀ H, SqT K H aFA FAV) : FnOk P w K mg base CX0 4 f fd ["kind", "rest"] (spRL K) := by
  refine F.ok scReadLong (fun vs H Q E h => ?_) (fun cdv A outer s H vs Q E hr h => ?_)
  · obtain ⟨k, p, rfl, _⟩ := h
    rfl
  · obtain ⟨kk, p, rfl, hk, hok, q⟩ := h
    refine ⟨_, (pss_cons (ps_if (pt_cmpR op_eq (pv 1) pe_str rfl) (pss_one (ps_ret (pe_tup pa_nil))) pss_nil)
      (pss_cons (ps_set (i := 2) scReadLong.nd rfl (.inl rfl) (pe_slice C8.sl_txt (pv 1) (po_some pe_int) po_none))
      (pss_cons (ps_if (PW.pt (pw_and (pt_cmpR op_in_seq (pv 0) (pe_glob (v := .ref aAN) rfl g_ANSWERS rfl) rfl) (pw_and1 (pt_cmpR op_in_seq (pv 2) (pe_glob (v := .ref aFA) rfl g_FAULTS rfl) rfl)))) (pss_one (ps_ret (pv 2))) pss_nil)
      (pss_cons (ps_if (pt_cmpR op_eq (pv 0) pe_str rfl) (pss_cons (ps_asg (pe_partition (pv 2) pe_str) (pg_tup rfl (pgs_cons (pg_name (i := 3) scReadLong.nd rfl (.inl rfl)) (pgs_cons (pg_name (i := 4) scReadLong.nd rfl (.inl rfl)) (pgs_cons (pg_name (i := 5) scReadLong.nd rfl (.inl rfl)) pgs_nil)))))
        (pss_one (ps_ret (pe_tup (pa_cons (pe_call Rn.ok (hr.mono (by omega)) rfl Rn.g Rn.kp Rn.b .nil pass0 (pa_cons (pv 3) pa_nil)) (pa_cons (pv 5) pa_nil)))))) pss_nil)
      (pss_cons (ps_if (pt_cmpR op_in_seq (pv 0) (pe_tup (pa_cons pe_str (pa_cons pe_str pa_nil))) rfl) (pss_one (ps_ret (pe_callTy call_tuple_of rfl b_tuple (by decide +kernel) (pa_cons (pe_lc (own := [("row", 6)]) (g := gName 6) (tt := tYes) (te := tCall (spRNs K) [] E0 (tCons (tVar 6) tNil)) rfl scReadLong.nd (pi_list (pe_m1 PySem.F.slot_str_split PySem.F.type_str_split mt_split (pv 2) pe_str)) (blkOk_by (own := [("row", 6)]) (N := ["kind", "rest", "text", "salt", "_", "shown", "row"]) (sc := defScope sReadLong) (by decide +kernel)) (fun _ _ _ _ _ => (pg_name (i := 6) scReadLong.nd rfl (.inl rfl) (.inr rfl))) (fun _ _ _ _ _ => pts_nil) (fun _ _ _ _ _ => (pe_call Rs.ok (hr.mono (by omega)) rfl Rs.g Rs.kp Rs.b .nil pass0 (pa_cons (pv 6) pa_nil)))) pa_nil)))) pss_nil)
      (pss_one (ps_ret (pe_call Rs.ok (hr.mono (by omega)) rfl Rs.g Rs.kp Rs.b .nil pass0 (pa_cons (pv 2) pa_nil))))))))), ?_⟩
    cases hT : partT p with
    | none =>
      have er : restT p = [] := by unfold restT; rw [hT]
      rw [er]
      have hp : p = .nums [] := by
        cases p with
        | nums r =>
          have e : (if r = [] then none else some (numsT r)) = none := hT
          split at e
          · rename_i h; rw [h]
          · cases e
        | _ => cases hT
      subst hp
      refine ⟨_, rfl, rfl, _, rfl, iteTd rfl ⟨Nat.zero_le _, fun t nt => q _ _ (same_upd nt) ⟨t, rfl, upd_same⟩⟩⟩
    | some t =>
      have er : restT p = 32 :: t := by unfold restT; rw [hT]
      rw [er]
      have etx : Txt.slice (S (32 :: t)) (some 1) none = S t := slice_from (a := 32 :: t) (i := 1) (by decide)
      refine ⟨_, rfl, rfl, _, rfl, iteFd ?_ ?_⟩
      · exact decide_eq_false fun z => by injection z with z; exact absurd (S_inj (b := []) z) (by simp)
      --@@
      have tl := partT_len hok hT
      refine ⟨_, rfl, 1, rfl, S (32 :: t), rfl, line_of (by rw [S_len, List.length_cons]; omega), ?_⟩
      rw [etx]
      cases p with
      | num n => exact absurd hk (by cases kk <;> first | exact hok.elim | decide)
      | word l =>
        obtain rfl : l = t := Option.some.inj hT
        have hl : l ∈ FAULTS := by cases kk <;> first | exact hok | (exact absurd hk (by decide)) | exact hok.elim
        have hkk : kk = .sheet ∨ kk = .ballots ∨ kk = .shown := by cases kk <;> first | decide | (exact absurd hk (by decide)) | exact hok.elim
        refine ⟨_, rfl, aAN, _, rfl, .inr (hAN _), rfl, by decide +kernel, ?_⟩
        rw [if_neg (by decide), an_in, decide_eq_true hkk]
        refine ⟨_, rfl, iteT ⟨_, rfl, aFA, _, rfl, .inr (hFA _), rfl, by decide +kernel, ?_⟩⟩
        rw [if_neg (by decide), fa_in, decide_eq_true hl]
        exact ⟨_, rfl, iteT ⟨_, rfl, q _ _ (Same.refl _) rfl⟩⟩
      | nums r =>
        have nf := not_fa hT (.inl ⟨r, rfl⟩)
        have hn : r ≠ [] := fun e => by
          have e2 : (if r = [] then none else some (numsT r)) = some t := hT
          rw [if_pos e] at e2
          cases e2
        have e2 : (if r = [] then none else some (numsT r)) = some t := hT
        rw [if_neg hn] at e2
        obtain rfl : numsT r = t := Option.some.inj e2
        cases kk with
        | ballots =>
          obtain ⟨h1, hs⟩ := (id hok : r.length ≤ 40 ∧ Sgd r)
          exact ⟨_, rfl, aAN, _, rfl, .inr (hAN _), rfl, by decide +kernel, _, rfl, iteTd (by decide +kernel) ⟨_, rfl, aFA, _, rfl, .inr (hFA _), rfl, by decide +kernel, _, rfl, iteFd (by rw [if_neg (by decide), fa_in]; exact decide_eq_false nf) ⟨_, rfl, rfl, _, rfl, iteFd (by decide +kernel) ⟨_, rfl, (by show 2 ≤ sizeLine; decide), fun t2 nt => ⟨t2, _, rfl, .inr (SqT.of upd_same), rfl, rfl, _, rfl, iteFd (by decide +kernel) ⟨_, rfl, r, rfl, hn, by omega, hs, fun u G s2 hu => q _ _ ((same_upd nt).trans s2) ⟨u, rfl, hu⟩⟩⟩⟩⟩⟩⟩
        | seats =>
          obtain ⟨h1, h2⟩ := (id hok : r.length ≤ 10 ∧ Uns r)
          have hs : Sgd r := fun x hx => by have := h2 x hx; omega
          exact ⟨_, rfl, aAN, _, rfl, .inr (hAN _), rfl, by decide +kernel, _, rfl, iteFd (by decide +kernel) ⟨_, rfl, rfl, _, rfl, iteFd (by decide +kernel) ⟨_, rfl, (by show 2 ≤ sizeLine; decide), fun t2 nt => ⟨t2, _, rfl, .inr (SqT.of upd_same), rfl, rfl, _, rfl, iteFd (by decide +kernel) ⟨_, rfl, r, rfl, hn, by omega, hs, fun u G s2 hu => q _ _ ((same_upd nt).trans s2) ⟨u, rfl, hu⟩⟩⟩⟩⟩⟩
        | _ => exact hok.elim
      | rows rs =>
        have nf := not_fa hT (.inr (.inl ⟨rs, rfl⟩))
        obtain ⟨r1, r2, r3⟩ := sgd_row hok
        obtain rfl : rowsT rs = t := Option.some.inj hT
        have hsp : Txt.split (S (rowsT rs)) (S SEP) = (rs.map numsT).map S := by
          rw [← rowsT_split rs r1]
          exact split_S (b := SEP) (by simp) rfl
        have bnd : ∀ r ∈ rs, r ≠ [] ∧ r.length ≤ 60 ∧ Sgd r := fun r hr => by
          obtain ⟨p1, p2, p3⟩ := r3 r hr
          exact ⟨p1, by omega, p3⟩
        have rl := r2
        cases kk with
        | sheet =>
          refine ⟨_, rfl, aAN, _, rfl, .inr (hAN _), rfl, by decide +kernel, _, rfl, iteTd (by decide +kernel) ⟨_, rfl, aFA, _, rfl, .inr (hFA _), rfl, by decide +kernel, _, rfl, iteFd (by rw [if_neg (by decide), fa_in]; exact decide_eq_false nf) ⟨_, rfl, rfl, _, rfl, iteFd (by decide +kernel) ⟨_, rfl, (by show 2 ≤ sizeLine; decide), fun t2 nt => ⟨t2, _, rfl, .inr (SqT.of upd_same), rfl, rfl, _, rfl, iteTd (by decide +kernel) ⟨_, rfl, ⟨_, rfl⟩, S (rowsT rs), S SEP, rfl, rfl, rfl, line_of (by rw [S_len]; omega), fun p np => ?_⟩⟩⟩⟩⟩⟩
          rw [hsp]
          have s1 := (same_upd (H := H) (o := .tup [.str "sheet", .str "rows"]) nt).trans (same_upd (o := .lst (((rs.map numsT).map S).map V.str)) np)
          have hp : SqL K (upd (upd H t2 (.tup [.str "sheet", .str "rows"])) p (.lst (((rs.map numsT).map S).map V.str))) p (((rs.map numsT).map S).map V.str) := SqL.of upd_same
          generalize upd (upd H t2 (.tup [.str "sheet", .str "rows"])) p (.lst (((rs.map numsT).map S).map V.str)) = H1 at s1 hp ⊢
          refine ⟨p, rfl, ⟨_, hp⟩, fun D nD => lc_it walk_list (fun i G => Same H1 G ∧ ∃ ts : List Addr, G D = some (.lst (ts.map V.ref)) ∧ Paired (fun t r => G t = some (.tup (intsI r))) ts (rs.take i)) ⟨same_upd nD, [], upd_same, .nil⟩ (fun i G _ h => h.1.seq hp) ?_ ?_⟩
          · rintro i x G1 G hi ⟨sG, ts, gD, hts⟩ ⟨rfl, ex⟩
            rw [List.length_map, List.length_map, List.length_map] at hi
            have er : rs[i]? = some rs[i] := List.getElem?_eq_getElem hi
            rw [List.getElem?_map, List.getElem?_map, List.getElem?_map, er] at ex
            cases ex
            obtain ⟨p1, p2, p3⟩ := bnd _ (List.mem_of_getElem? er)
            refine ⟨rfl, ?_⟩
            unfold tYes
            refine iteT ⟨_, rfl, _, rfl, p1, p2, p3, fun u G3 s3 hu => ⟨_, s3 _ _ gD, ?_, same_updF nD (sG.trans s3), ts ++ [u], ?_, ?_⟩⟩
            · have := hts.length
              rw [List.length_take] at this
              rw [List.length_map]
              exact small1000' (by omega)
            · rw [upd_same, List.map_append]
              rfl
            · rw [take_snoc er]
              have nu : u ≠ D := fun e => by rw [e, s3 _ _ gD] at hu; cases hu
              refine Paired.snoc (Paired.mapP hts fun t r e => ?_) ?_
              · have nt' : t ≠ D := fun z => by rw [z, gD] at e; cases e
                rw [upd_ne nt']
                exact s3 _ _ e
              · rw [upd_ne nu]
                exact hu
          · rintro G ⟨sG, ts, gD, hts⟩
            rw [List.length_map, List.length_map, List.length_map, List.take_length] at hts
            exact ⟨D, _, rfl, .inl ⟨SqL.of gD, fun l nl => q _ _ (s1.trans (sG.trans (same_upd nl))) ⟨l, ts, rfl, upd_same, Paired.mapP hts fun t r e => same_upd nl _ _ e⟩⟩⟩
        | rows =>
          refine ⟨_, rfl, aAN, _, rfl, .inr (hAN _), rfl, by decide +kernel, _, rfl, iteFd (by decide +kernel) ⟨_, rfl, rfl, _, rfl, iteFd (by decide +kernel) ⟨_, rfl, (by show 2 ≤ sizeLine; decide), fun t2 nt => ⟨t2, _, rfl, .inr (SqT.of upd_same), rfl, rfl, _, rfl, iteTd (by decide +kernel) ⟨_, rfl, ⟨_, rfl⟩, S (rowsT rs), S SEP, rfl, rfl, rfl, line_of (by rw [S_len]; omega), fun p np => ?_⟩⟩⟩⟩⟩
          rw [hsp]
          have s1 := (same_upd (H := H) (o := .tup [.str "sheet", .str "rows"]) nt).trans (same_upd (o := .lst (((rs.map numsT).map S).map V.str)) np)
          have hp : SqL K (upd (upd H t2 (.tup [.str "sheet", .str "rows"])) p (.lst (((rs.map numsT).map S).map V.str))) p (((rs.map numsT).map S).map V.str) := SqL.of upd_same
          generalize upd (upd H t2 (.tup [.str "sheet", .str "rows"])) p (.lst (((rs.map numsT).map S).map V.str)) = H1 at s1 hp ⊢
          refine ⟨p, rfl, ⟨_, hp⟩, fun D nD => lc_it walk_list (fun i G => Same H1 G ∧ ∃ ts : List Addr, G D = some (.lst (ts.map V.ref)) ∧ Paired (fun t r => G t = some (.tup (intsI r))) ts (rs.take i)) ⟨same_upd nD, [], upd_same, .nil⟩ (fun i G _ h => h.1.seq hp) ?_ ?_⟩
          · rintro i x G1 G hi ⟨sG, ts, gD, hts⟩ ⟨rfl, ex⟩
            rw [List.length_map, List.length_map, List.length_map] at hi
            have er : rs[i]? = some rs[i] := List.getElem?_eq_getElem hi
            rw [List.getElem?_map, List.getElem?_map, List.getElem?_map, er] at ex
            cases ex
            obtain ⟨p1, p2, p3⟩ := bnd _ (List.mem_of_getElem? er)
            refine ⟨rfl, ?_⟩
            unfold tYes
            refine iteT ⟨_, rfl, _, rfl, p1, p2, p3, fun u G3 s3 hu => ⟨_, s3 _ _ gD, ?_, same_updF nD (sG.trans s3), ts ++ [u], ?_, ?_⟩⟩
            · have := hts.length
              rw [List.length_take] at this
              rw [List.length_map]
              exact small1000' (by omega)
            · rw [upd_same, List.map_append]
              rfl
            · rw [take_snoc er]
              have nu : u ≠ D := fun e => by rw [e, s3 _ _ gD] at hu; cases hu
              refine Paired.snoc (Paired.mapP hts fun t r e => ?_) ?_
              · have nt' : t ≠ D := fun z => by rw [z, gD] at e; cases e
                rw [upd_ne nt']
                exact s3 _ _ e
              · rw [upd_ne nu]
                exact hu
          · rintro G ⟨sG, ts, gD, hts⟩
            rw [List.length_map, List.length_map, List.length_map, List.take_length] at hts
            exact ⟨D, _, rfl, .inl ⟨SqL.of gD, fun l nl => q _ _ (s1.trans (sG.trans (same_upd nl))) ⟨l, ts, rfl, upd_same, Paired.mapP hts fun t r e => same_upd nl _ _ e⟩⟩⟩
        | _ => exact hok.elim
      | shown n u =>
        have nf := not_fa hT (.inr (.inr ⟨n, u, rfl⟩))
        obtain rfl : ntx (n : Nat) ++ 32 :: u = t := Option.some.inj hT
        have hp : Txt.partition (S (ntx (n : Nat) ++ 32 :: u)) (S [32]) = (S (ntx (n : Nat)), S [32], S u) := partition_some (by simp) (par_head (sep := []) u fun hm => by have := ntx_mem hm; omega)
        cases kk with
        | shown =>
          obtain ⟨h1, h2, h3⟩ := (id hok : n ≤ 9999 ∧ u.length ≤ 60 ∧ ∀ c ∈ u, 32 ≤ c ∧ c ≤ 126)
          refine ⟨_, rfl, aAN, _, rfl, .inr (hAN _), rfl, by decide +kernel, _, rfl, iteTd (by decide +kernel) ⟨_, rfl, aFA, _, rfl, .inr (hFA _), rfl, by decide +kernel, _, rfl, iteFd (by rw [if_neg (by decide), fa_in]; exact decide_eq_false nf) ⟨_, rfl, rfl, _, rfl, iteTd (by decide +kernel) ?_⟩⟩⟩
          refine ⟨_, rfl, ⟨_, rfl⟩, S (ntx (n : Nat) ++ 32 :: u), S [32], rfl, rfl, rfl, line_of (by rw [S_len]; omega), fun a na => ?_⟩
          rw [hp]
          have s1 := same_upd (H := H) (o := .tup [tx (ntx (n : Nat)), tx [32], tx u]) na
          refine ⟨a, [tx (ntx (n : Nat)), tx [32], tx u], rfl, SqT.of upd_same, rfl, _, _, rfl, _, _, rfl, _, _, rfl, rfl, ?_⟩
          exact ⟨_, rfl, (n : Nat), rfl, by omega, by omega, _, rfl, (by show 2 ≤ sizeLine; decide), fun v nv => q _ _ (s1.trans (same_upd nv)) ⟨v, rfl, upd_same⟩⟩
        | _ => exact hok.elim
end
end My

set_option Elab.async false
set_option linter.all false
set_option maxRecDepth 100000
namespace My
open PySem PySem.Spec PyProof.Rows L2 SX
def shorts (w : Wd) : List Kd := (pat w).filter fun k => !isLong k
theorem shorts_short {w : Wd} {k : Kd} (h : k ∈ shorts w) : isLong k = false := by
  have := (List.mem_filter.mp h).2
  simpa using this
def longK : Wd → Option Kd
  | .sheet => some .sheet
  | .which => some .ballots
  | .show => some .shown
  | .taken => some .rows
  | .told => some .seats
  | _ => none
theorem pat_eq (w : Wd) : pat w = shorts w ++ (longK w).toList := by cases w <;> rfl
theorem longK_long {w : Wd} {k : Kd} (h : longK w = some k) : isLong k = true := by
  cases w <;> first | (cases h; rfl) | cases h
def stx (p : Part) : List Nat := (partT p).getD []
def partV : Part → V
  | .num n => .int (n : Nat)
  | .word l => tx l
  | _ => .non
theorem okAll_snoc : ∀ {ks : List Kd} {k : Kd} {ps : List Part}, okAll (ks ++ [k]) ps → ∃ ps0 p, ps = ps0 ++ [p] ∧ okAll ks ps0 ∧ okP k p
  | [], k, [p], h => ⟨[], p, rfl, trivial, h.1⟩
  | [], k, [], h => h.elim
  | [], k, _ :: _ :: _, h => h.2.elim
  | a :: ks, k, [], h => h.elim
  | a :: ks, k, b :: ps, h => by
    obtain ⟨ps0, p, rfl, h1, h2⟩ := okAll_snoc (ks := ks) h.2
    exact ⟨b :: ps0, p, rfl, ⟨h.1, h1⟩, h2⟩
theorem words_free (c : Nat) (h : c = 32 ∨ c = 58) (L : List (List Nat)) (hL : (L.all fun l => l.all fun c => decide (c ≠ 32 ∧ c ≠ 58)) = true) {l : List Nat} (hm : l ∈ L) : c ∉ l := fun hc => by
  have := of_decide_eq_true (List.all_eq_true.mp (List.all_eq_true.mp hL l hm) c hc)
  omega
theorem short_part {k : Kd} {p : Part} (hk : isLong k = false) (h : okP k p) : (∀ c, c = 32 ∨ c = 58 → c ∉ stx p) ∧ partT p = some (stx p) ∧ (∀ H, PartAt H (partV p) p) ∧ ((k = .number ∧ ∃ n : Nat, p = .num n ∧ n ≤ 999999999) ∨ (k ≠ .number ∧ ∃ l, p = .word l)) := by
  cases k with
  | number =>
    cases p with
    | num n => exact ⟨fun c hc hm => by have := ntx_mem (x := (n : Nat)) hm; omega, rfl, fun _ => rfl, .inl ⟨rfl, n, rfl, h⟩⟩
    | _ => exact h.elim
  | name =>
    cases p with
    | word l => exact ⟨fun c hc hm => by have := Nm.lo h c hm; omega, rfl, fun _ => rfl, .inr ⟨by decide, l, rfl⟩⟩
    | _ => exact h.elim
  | reason =>
    cases p with
    | word l => exact ⟨fun c hc => words_free c hc REASONS (by decide +kernel) h, rfl, fun _ => rfl, .inr ⟨by decide, l, rfl⟩⟩
    | _ => exact h.elim
  | fin =>
    cases p with
    | word l => exact ⟨fun c hc => words_free c hc ENDS (by decide +kernel) h, rfl, fun _ => rfl, .inr ⟨by decide, l, rfl⟩⟩
    | _ => exact h.elim
  | _ => exact absurd hk (by decide)
theorem join_cons (a : List Nat) : ∀ l : List (List Nat), TL.joinL [32] (a :: l) = a ++ (l.map fun x => 32 :: x).flatten
  | [] => by show a = _; simp
  | b :: l => by
    show a ++ ([32] ++ TL.joinL [32] (b :: l)) = _
    rw [join_cons b l]
    simp
theorem tail_short : ∀ {ks : List Kd} {ps : List Part}, okAll ks ps → (∀ k ∈ ks, isLong k = false) → tailT ks ps = ((ps.map stx).map fun x => 32 :: x).flatten
  | [], [], _, _ => rfl
  | k :: ks, p :: ps, h, hk => by
    have h1 := hk k List.mem_cons_self
    obtain ⟨_, e, _, _⟩ := short_part h1 h.1
    have := tail_short h.2 fun z hz => hk z (List.mem_cons_of_mem _ hz)
    unfold tailT
    rw [this]
    unfold stepT
    rw [h1, e]
    simp
  | [], _ :: _, h, _ => h.elim
  | _ :: _, [], h, _ => h.elim
theorem tail_app : ∀ {ks : List Kd} {ps : List Part} {k : Kd} {p : Part}, okAll ks ps → tailT (ks ++ [k]) (ps ++ [p]) = tailT ks ps ++ stepT k p
  | [], [], k, p, _ => by simp [tailT]
  | a :: ks, b :: ps, k, p, h => by
    have := tail_app (k := k) (p := p) h.2
    show stepT a b ++ tailT (ks ++ [k]) (ps ++ [p]) = _
    rw [this]
    simp [tailT]
  | [], _ :: _, _, _, h => h.elim
  | _ :: _, [], _, _, h => h.elim
def headT (w : Wd) (ps : List Part) : List Nat := TL.joinL [32] (wdT w :: ps.map stx)
theorem stepT_long {k : Kd} (p : Part) (h : isLong k = true) : stepT k p = COL ++ restT p := by
  unfold stepT restT
  rw [if_pos h]
  all_goals (cases partT p <;> rfl)
theorem ent_parts {e : Ent} (h : e.ok) : ∃ ps0, okAll (shorts e.w) ps0 ∧ ((longK e.w = none ∧ e.ps = ps0 ∧ entT e = headT e.w ps0) ∨ ∃ k p, longK e.w = some k ∧ isLong k = true ∧ e.ps = ps0 ++ [p] ∧ okP k p ∧ entT e = headT e.w ps0 ++ (COL ++ restT p)) := by
  obtain ⟨w, ps⟩ := e
  have h : okAll (pat w) ps := h
  rw [pat_eq w] at h
  have es : ∀ ps0, okAll (shorts w) ps0 → wdT w ++ tailT (shorts w) ps0 = headT w ps0 := fun ps0 h0 => by
    unfold headT
    rw [join_cons, tail_short h0 fun k hk => shorts_short hk]
  cases hl : longK w with
  | none =>
    rw [hl, show (none : Option Kd).toList = [] from rfl, List.append_nil] at h
    refine ⟨ps, h, .inl ⟨rfl, rfl, ?_⟩⟩
    show wdT w ++ tailT (pat w) ps = _
    rw [pat_eq w, hl, show (none : Option Kd).toList = [] from rfl, List.append_nil]
    exact es ps h
  | some k =>
    rw [hl, show (some k : Option Kd).toList = [k] from rfl] at h
    obtain ⟨ps0, p, rfl, h1, h2⟩ := okAll_snoc h
    refine ⟨ps0, h1, .inr ⟨k, p, rfl, longK_long hl, rfl, h2, ?_⟩⟩
    show wdT w ++ tailT (pat w) (ps0 ++ [p]) = _
    rw [pat_eq w, hl, show (some k : Option Kd).toList = [k] from rfl, tail_app h1, ← List.append_assoc, es ps0 h1, stepT_long p (longK_long hl)]
theorem wd_free (w : Wd) : 32 ∉ wdT w ∧ 58 ∉ wdT w := by cases w <;> decide +kernel
theorem shorts_free : ∀ {ks : List Kd} {ps : List Part}, okAll ks ps → (∀ k ∈ ks, isLong k = false) → ∀ c, c = 32 ∨ c = 58 → ∀ l ∈ ps.map stx, c ∉ l
  | [], [], _, _, _, _, l, hl => by cases hl
  | k :: ks, p :: ps, h, hk, c, hc, l, hl => by
    rcases List.mem_cons.mp hl with rfl | hl
    · exact (short_part (hk k List.mem_cons_self) h.1).1 c hc
    · exact shorts_free h.2 (fun z hz => hk z (List.mem_cons_of_mem _ hz)) c hc l hl
  | [], _ :: _, h, _, _, _, _, _ => h.elim
  | _ :: _, [], h, _, _, _, _, _ => h.elim
theorem head_split {w : Wd} {ps : List Part} (h : okAll (shorts w) ps) : TL.spl [32] 0 [] (headT w ps) = wdT w :: ps.map stx :=
  spl_join (sep := []) (List.cons_ne_nil _ _) fun p hp => by
    rcases List.mem_cons.mp hp with rfl | hp
    · exact (wd_free w).1
    · exact shorts_free h (fun k hk => shorts_short hk) 32 (.inl rfl) p hp
theorem head_free {w : Wd} {ps : List Part} (h : okAll (shorts w) ps) : 58 ∉ headT w ps := fun hm => by
  rcases join_mem hm with hm | ⟨p, hp, hc⟩
  · exact absurd (List.mem_singleton.mp hm) (by decide)
  · rcases List.mem_cons.mp hp with rfl | hp
    · exact (wd_free w).2 hc
    · exact shorts_free h (fun k hk => shorts_short hk) 58 (.inr rfl) p hp hc
theorem part_long {w : Wd} {ps : List Part} (h : okAll (shorts w) ps) (r : List Nat) : Txt.partition (S (headT w ps ++ (COL ++ r))) (S COL) = (S (headT w ps), S COL, S r) := partition_some (by simp) (par_free r (by simp) (free_second (by decide) (head_free h)))
theorem part_short {w : Wd} {ps : List Part} (h : okAll (shorts w) ps) : Txt.partition (S (headT w ps)) (S COL) = (S (headT w ps), S [], S []) := partition_none (by simp) (TL.par_none (none_second (by decide) (head_free h)))
theorem shorts_len (w : Wd) : (shorts w).length ≤ 5 := by cases w <;> decide
end My

set_option Elab.async false
set_option linter.all false
set_option maxRecDepth 100000
namespace My
open PySem PySem.Spec PyProof.Rows L2
/-- the list at a and the tuple at b, item by item in new pairs -/
def ItzMY (K : PySem.W.Frag) (a b : Addr) : It :=
  ⟨fun i H => ∃ (xs ys : List V) (x y : V), SqT K H a xs ∧ SqL K H b ys ∧ xs[i]? = some x ∧ ys[i]? = some y,
    fun i H v H' => ∃ T x y, v = .ref T ∧ H T = none ∧ H' = upd H T (.tup [x, y]) ∧ (∀ xs, SqT K H a xs → xs[i]? = some x) ∧ ∀ ys, SqL K H b ys → ys[i]? = some y,
    fun i H => ∃ xs ys : List V, SqT K H a xs ∧ SqL K H b ys ∧ min xs.length ys.length = i⟩
def tnMY (z TI TO i1 i2 a b : Addr) (i : Nat) (h : Heap) : Prop := IsZip h z TI TO .none ∧ IsTupOf2 h TI (.ref i1) (.ref i2) ∧ (∃ u v, IsTupOf2 h TO u v) ∧ h.IsTupleIter i1 a i ∧ h.IsListIter i2 b i
theorem turn_zipMY {P : Program} {w : World} {K : PySem.W.Frag} {elts : List Expr} {kk : Nat} {tpos : Pos} {z TI TO i1 i2 a b : Addr} (S : ZipSep2 z TI TO i1 i2 [i1, a] [i2, b]) (na : a ≠ i1) (nb : b ≠ i2) :
    Turn P w K (.Tuple elts kk tpos) (ItzMY K a b) [z, TI, TO, i1, i2] z (tnMY z TI TO i1 i2 a b) where
  mem := by simp
  obj := fun i h st c hc => by
    obtain ⟨hz, ht, ⟨u, v, ho⟩, h1, h2⟩ := st
    have e' : c = z ∨ c = TI ∨ c = TO ∨ c = i1 ∨ c = i2 := by simpa using hc
    rcases e' with rfl | rfl | rfl | rfl | rfl
    · exact ⟨_, hz, fun v q => nomatch q⟩
    · exact ⟨_, ht, fun v q => nomatch q⟩
    · exact ⟨_, ho, fun v q => nomatch q⟩
    · obtain ⟨o1, e1, _, d1⟩ := h1
      exact ⟨o1, e1, fun v q => by rw [d1] at q; cases q⟩
    · obtain ⟨o2, e2, _, d2⟩ := h2
      exact ⟨o2, e2, fun v q => by rw [d2] at q; cases q⟩
  keep := fun i h h' st k => by
    obtain ⟨hz, ht, ⟨u, v, ho⟩, h1, h2⟩ := st
    exact ⟨k z (by simp) _ hz, k TI (by simp) _ ht, ⟨u, v, k TO (by simp) _ ho⟩, h1.at fun o q => k i1 (by simp) o q, h2.at fun o q => k i2 (by simp) o q⟩
  item := by
    intro X hP hw hK hc i pins s σ H E I hf st hg
    subst hP hw hK
    obtain ⟨hz, ht, ho, h1, h2⟩ := st
    obtain ⟨xs, ys, x, y, qx, qy, ex, ey⟩ := hg
    obtain ⟨us, rx, px, _⟩ := I.tuple qx
    obtain ⟨vs, ry, py, _⟩ := I.list qy
    obtain ⟨u, eu, ru⟩ := rx.get ex
    obtain ⟨v, ev, rv⟩ := ry.get ey
    have hd : X.A.in1.handled = none := by simp [I.ok.hd hc]
    have lx : i < us.toArray.size := by rw [List.size_toArray]; exact (List.getElem?_eq_some_iff.mp eu).1
    have ly : i < vs.toArray.size := by rw [List.size_toArray]; exact (List.getElem?_eq_some_iff.mp ev).1
    have W := GoesN.zip2 (prog := X.prog) (w := X.w) (A := X.A) (elts := elts) (x1 := kk) (pos := tpos) S (Draws.tuple hd i1 a na us.toArray) (Draws.list hd i2 b nb vs.toArray)
    refine W.goes i s _ E (by omega) ⟨hz, ht, ho, ⟨h1, px⟩, ⟨h2, py.isList⟩⟩ fun v' h' tk hy st' kp tkl => ?_
    obtain ⟨T, u', w', rfl, hT, p1, p2, it⟩ := hy
    have eu' : u' = u := by
      have p1' : us[i]? = some u' := by simpa using p1
      exact Option.some.inj (p1'.symm.trans eu)
    have ev' : w' = v := by
      have p2' : vs[i]? = some w' := by simpa using p2
      exact Option.some.inj (p2'.symm.trans ev)
    subst eu' ev'
    obtain ⟨gz, gt, go, ⟨g1, _⟩, ⟨g2, _⟩⟩ := st'
    have new : ObjOk X.prog X.w (upd H T (.tup [x, y])) h' T (.tup [x, y]) := ⟨by show 2 ≤ sizeLine; decide, [u', w'], .cons ru (.cons rv .nil), it⟩
    have hn : H T = none := I.hok.fresh hT
    have I1 : Inv X pins σ (upd H T (.tup [x, y])) { s with heap := h', toks := tk } :=
      I.turnedNew (t' := tk) (ch := [z, TO, i1, i2]) (fun c o hb q => kp c o hb q) (fun c hc' => hf c (by
        have e' : c = z ∨ c = TO ∨ c = i1 ∨ c = i2 := by simpa using hc'
        rcases e' with rfl | rfl | rfl | rfl <;> simp)) hT new
    refine ⟨.ref T, _, I1, rfl, ⟨T, x, y, rfl, hn, rfl, fun l hl => by rw [I.tuple_inj hl qx]; exact ex, fun l hl => by rw [I.list_inj hl qy]; exact ey⟩, ⟨gz, gt, go, g1, g2⟩, fun c hcm => ?_⟩
    obtain ⟨oc, eo, _⟩ : ∃ o, s.heap.get? c = some o ∧ ∀ v, o.data ≠ .cell v := by
      obtain ⟨u0, v0, ho⟩ := ho
      have e' : c = z ∨ c = TI ∨ c = TO ∨ c = i1 ∨ c = i2 := by simpa using hcm
      rcases e' with rfl | rfl | rfl | rfl | rfl
      · exact ⟨_, hz, fun v q => nomatch q⟩
      · exact ⟨_, ht, fun v q => nomatch q⟩
      · exact ⟨_, ho, fun v q => nomatch q⟩
      · obtain ⟨o1, e1, _, d1⟩ := h1
        exact ⟨o1, e1, fun v q => by rw [d1] at q; cases q⟩
      · obtain ⟨o2, e2, _, d2⟩ := h2
        exact ⟨o2, e2, fun v q => by rw [d2] at q; cases q⟩
    have lt1 := Heap.lt_size eo
    rw [upd_ne (Nat.ne_of_lt (Nat.lt_of_lt_of_le lt1 hT))]
    exact (hf c hcm).1
  done := by
    intro X hP hw hK hc i pins s σ H E I hf st hg
    subst hP hw hK
    obtain ⟨hz, ht, ho, h1, h2⟩ := st
    obtain ⟨xs, ys, qx, qy, em0⟩ := hg
    obtain ⟨us, rx, px, _⟩ := I.tuple qx
    obtain ⟨vs, ry, py, _⟩ := I.list qy
    have hd : X.A.in1.handled = none := by simp [I.ok.hd hc]
    have lx : us.toArray.size = xs.length := by rw [List.size_toArray, ← rx.length]
    have ly : vs.toArray.size = ys.length := by rw [List.size_toArray, ← ry.length]
    have W := GoesN.zip2 (prog := X.prog) (w := X.w) (A := X.A) (elts := elts) (x1 := kk) (pos := tpos) S (Draws.tuple hd i1 a na us.toArray) (Draws.list hd i2 b nb vs.toArray)
    have em : min us.toArray.size vs.toArray.size = i := by omega
    rw [em] at W
    refine W.stops s _ E ⟨hz, ht, ho, ⟨h1, px⟩, ⟨h2, py.isList⟩⟩ fun h' tk kp tkl => ?_
    exact I.turnedL (t' := tk) (ch := [z, TO, i1, i2]) (fun c o hb q => kp c o hb q) (fun c hc' => hf c (by
        have e' : c = z ∨ c = TO ∨ c = i1 ∨ c = i2 := by simpa using hc'
        rcases e' with rfl | rfl | rfl | rfl <;> simp))
  self := fun A i s Q E st h => wpAny_pyIter_zip st.1 h
def iZipMY (K : PySem.W.Frag) (ta : TA) : L2.TI := fun σ H R => ta σ H fun vs H1 => ∃ a b xs ys, vs = [.ref a, .ref b] ∧ SqT K H1 a xs ∧ SqL K H1 b ys ∧ R (ItzMY K a b) H1
/-- zip of a list and a tuple -/
theorem pi_zipMY {X : Cx} {e e2 : Expr} {ta : TA} {p pos tpos : Pos} {elts : List Expr} {kk : Nat} (hg : Gl X "zip") (hm : X.mg "zip" = none) (ha : PA X [e, e2] ta)
    (hs : starEach [e, e2] X.env = (false, eval e X.env) :: starEach [e2] X.env := by rfl) (hpl : (backTo pos (starEach [e2] X.env)).any (·.1) = false := by rfl) :
    PI X (.Tuple elts kk tpos) (.Call (.Name "zip" p) [e, e2] [] pos) (iZipMY X.K ta) := by
  refine ⟨fun pins s σ H R I h => Call_ (ld_blt I hg hm PyProof.Rows.boot_zip (callWith_type1 (thn (ha.run pos pins s σ H _ I h) fun us s1 ⟨vs, H1, I1, r1, q1⟩ => ?_) hs hpl))⟩
  obtain ⟨a, b, xs, ys, ex, qx, qy, q⟩ := q1
  subst ex
  cases r1 with
  | cons r rr => cases rr with
    | cons r' rr =>
      cases rr; cases r; cases r'
      obtain ⟨us, rx, px, _⟩ := I1.tuple qx
      obtain ⟨ws, ry, py, _⟩ := I1.list qy
      have la : a < s1.heap.objs.size := by obtain ⟨o, e, _⟩ := px; exact Heap.lt_size e
      have lb : b < s1.heap.objs.size := by obtain ⟨o, e, _⟩ := py.isList; exact Heap.lt_size e
      refine zip_begins2 (begins_tuple a us.toArray) (begins_list b ws.toArray) px py.isList fun g hz ht ho g1 g2 sz kp => wpAny_pyIter_zip hz ?_
      have I2 : Inv X pins σ H1 { s1 with heap := g } := I1.kept (t' := s1.toks) kp
      refine ⟨_, [s1.heap.objs.size + 4, s1.heap.objs.size + 2, s1.heap.objs.size + 3, s1.heap.objs.size, s1.heap.objs.size + 1], _, _, H1, rfl, I2, turn_zipMY (a := a) (b := b) (zip_sep2 (N := s1.heap.objs.size) (fp1 := [a]) (fp2 := [b]) (fun c hc => by rw [List.mem_singleton.mp hc]; exact la) (fun c hc => by rw [List.mem_singleton.mp hc]; exact lb)) (Nat.ne_of_lt la) (Nat.ne_of_lt (Nat.lt_succ_of_lt lb)), ⟨hz, ht, ⟨_, _, ho⟩, ⟨_, g1, rfl, rfl⟩, ⟨_, g2, rfl, rfl⟩⟩, fun c hc => ?_, q⟩
      have le : s1.heap.objs.size ≤ c := by
        have e' : c = s1.heap.objs.size + 4 ∨ c = s1.heap.objs.size + 2 ∨ c = s1.heap.objs.size + 3 ∨ c = s1.heap.objs.size ∨ c = s1.heap.objs.size + 1 := by simpa using hc
        rcases e' with z | z | z | z | z
        · rw [z]; exact Nat.le_add_right _ _
        · rw [z]; exact Nat.le_add_right _ _
        · rw [z]; exact Nat.le_add_right _ _
        · rw [z]; exact Nat.le_refl _
        · rw [z]; exact Nat.le_add_right _ _
      exact I1.fpOk le (I1.hok.fresh le)
theorem walk_zipMY {K : PySem.W.Frag} {a b : Addr} {xs ys : List V} {n : Nat} (hn : n = min xs.length ys.length) : Walk (ItzMY K a b) n (fun H => SqT K H a xs ∧ SqL K H b ys) (YPair (fun i => xs[i]?) (fun i => ys[i]?)) := by
  subst hn
  refine ⟨fun i _ hi q => ?_, fun _ q => ⟨xs, ys, q.1, q.2, rfl⟩, fun i H v H' _ q y => ?_⟩
  · have h1 : i < xs.length := by omega
    have h2 : i < ys.length := by omega
    exact ⟨xs, ys, xs[i], ys[i], q.1, q.2, by simp [h1], by simp [h2]⟩
  · obtain ⟨T, x, z, h1, h2, h3, h4, h5⟩ := y
    exact ⟨T, x, z, h1, h2, h3, h4 xs q.1, h5 ys q.2⟩
/-- zip of a list with a list or a tuple -/
def iZipUY (K : PySem.W.Frag) (ta : TA) : TI := fun σ H R => RZ.iZipA K ta σ H R ∨ iZipMY K ta σ H R
theorem pi_zipUY {X : Cx} {e e2 : Expr} {ta : TA} {p pos tpos : Pos} {elts : List Expr} {kk : Nat} (hg : Gl X "zip") (hm : X.mg "zip" = none) (ha : PA X [e, e2] ta)
    (hs : starEach [e, e2] X.env = (false, eval e X.env) :: starEach [e2] X.env := by rfl) (hpl : (backTo pos (starEach [e2] X.env)).any (·.1) = false := by rfl) :
    PI X (.Tuple elts kk tpos) (.Call (.Name "zip" p) [e, e2] [] pos) (iZipUY X.K ta) :=
  ⟨fun pins s σ H R I h => h.elim (fun h => (RZ.pi_zipA hg hm ha hs hpl).run pins s σ H R I h) fun h => (pi_zipMY hg hm ha hs hpl).run pins s σ H R I h⟩
end My

set_option Elab.async false
set_option linter.all false
set_option maxRecDepth 100000
namespace My
open PySem PySem.Spec PyProof.Rows L2 SX
abbrev sReadEntry : Stmt := topS 36
theorem scReadEntry : FnScope ["text", "head", "_", "rest", "words", "kinds", "found", "kind", "word", "entry"] ["text"] (defScope sReadEntry) := ⟨rfl, rfl, rfl, by decide +kernel, rfl, by decide +kernel, by decide +kernel⟩
def spRE (K : PySem.W.Frag) : Sp := fun vs H Q _ => ∃ e : Ent, vs = [tx (entT e)] ∧ e.ok ∧ ∀ t H', Same H H' → EntAt H' t e → Q (.ref t) H'
theorem short_paired {H : Hp} : ∀ {ks : List Kd} {ps : List Part}, okAll ks ps → (∀ k ∈ ks, isLong k = false) → Paired (PartAt H) (ps.map partV) ps
  | [], [], _, _ => .nil
  | k :: ks, p :: ps, h, hk => .cons ((short_part (hk k List.mem_cons_self) h.1).2.2.1 H) (short_paired h.2 fun z hz => hk z (List.mem_cons_of_mem _ hz))
  | [], _ :: _, h, _ => h.elim
  | _ :: _, [], h, _ => h.elim
def lastKd : Wd → Kd
  | .sheet => .sheet
  | .which => .ballots
  | .show => .shown
  | .opened => .number
  | .struck => .reason
  | .clash => .number
  | .taken => .rows
  | .told => .seats
theorem pat_last (w : Wd) : kdV (pat w) = kdV (pat w).dropLast ++ [V.str (kdS (lastKd w))] := by cases w <;> rfl
theorem last_long (w : Wd) : isLong (lastKd w) = (longK w).isSome := by cases w <;> rfl
theorem last_is {w : Wd} {k : Kd} (h : longK w = some k) : lastKd w = k := by
  cases w <;> first | (cases h; rfl) | cases h
theorem dp_kds {K : PySem.W.Frag} {H : Hp} : ∀ ks : List Kd, DpAll K H (kdV ks) (ks.map fun k => PyData.str (kdS k))
  | [] => .nil
  | _ :: ks => .cons (.str _) (dp_kds ks)
theorem kds_ne (w : Wd) : PyData.eqv (.tuple ((pat w).map fun k => PyData.str (kdS k))) (.tuple []) = false := by cases w <;> simp [pat, PyData.eqv, PyData.eqvAll]
theorem kds_shaped (w : Wd) : SeqAt.shaped (.tuple ((pat w).map fun k => PyData.str (kdS k))) = true := by cases w <;> decide +kernel
theorem PartAt.updL {H : Hp} {b : Addr} {l : List V} {o : HO} (hb : H b = some (.lst l)) {v : V} : ∀ {p : Part}, PartAt H v p → PartAt (upd H b o) v p := by
  have ne : ∀ {a : Addr} {xs : List V}, H a = some (.tup xs) → (upd H b o) a = some (.tup xs) := fun {a xs} h => by
    rw [upd_ne (fun e => by rw [e, hb] at h; cases h)]
    exact h
  intro p h
  cases p with
  | num n => exact h
  | word l => exact h
  | nums r =>
    obtain ⟨a, e, h⟩ := h
    exact ⟨a, e, ne h⟩
  | rows rs =>
    obtain ⟨a, ts, e, h, z⟩ := h
    exact ⟨a, ts, e, ne h, Paired.mapP z fun _ _ y => ne y⟩
  | shown s t =>
    obtain ⟨a, e, h⟩ := h
    exact ⟨a, e, ne h⟩
section
variable {P : Program} {w : World} {K : PySem.W.Frag} {mg : Str → Option Value} {base : Heap}
theorem ok_rentry {f fN fL fH fE aPA aLP : Addr} {fd fdN fdL fdH fdE : FuncData} {tC : Tok} (F : Fun K "read_entry" "read_entry" sReadEntry f fd) (Rn : Cal P w K mg base "read_number" 2 ["word"] (spRN K) fN fdN) (Rl : Cal P w K mg base "read_long" 4 ["kind", "rest"] (spRL K) fL fdL) (Hp : Cal P w K mg base "has_pattern" 6 ["value"] (spHP K) fH fdH) (Et : Cal P w K mg base "entry_text" 3 ["entry"] (spET K) fE fdE) (b_tuple : mg "tuple" = none) (b_zip : mg "zip" = none) (g_LONG_PARTS : mg "LONG_PARTS" = some (.ref aLP)) (hLP : ∀ H, SqT K H aLP LPV) (g_PATTERNS : mg "PATTERNS" = some (.ref aPA)) (hPA : Pats K w aPA) (g_COLON : mg "COLON" = some (.str " :" tC)) : FnOk P w K mg base CX0 7 f fd ["text"] (spRE K) := by
  refine F.ok scReadEntry (fun vs H Q E h => ?_) (fun cdv A outer s H vs Q E hr h => ?_)
  · obtain ⟨e, rfl, _⟩ := h
    rfl
  · obtain ⟨e, rfl, hok, q⟩ := h
    refine ⟨_, (pss_cons (ps_asg (pe_partition (pv 0) (pe_glob (v := .str " :") rfl g_COLON ⟨_, rfl⟩)) (pg_tup rfl (pgs_cons (pg_name (i := 1) scReadEntry.nd rfl (.inl rfl)) (pgs_cons (pg_name (i := 2) scReadEntry.nd rfl (.inl rfl)) (pgs_cons (pg_name (i := 3) scReadEntry.nd rfl (.inl rfl)) pgs_nil)))))
      (pss_cons (ps_set (i := 4) scReadEntry.nd rfl (.inl rfl) (pe_m1 PySem.F.slot_str_split PySem.F.type_str_split mt_split (pv 1) pe_str))
      (pss_cons (ps_set (i := 5) scReadEntry.nd rfl (.inl rfl) (KGt.pe_kget2 (pe_glob (v := .ref aPA) rfl g_PATTERNS rfl) (pe_ix ix_list (pv 4) pe_int (fun _ _ => rfl)) (pe_tup pa_nil) ⟨rfl, rfl, rfl, rfl⟩))
      (pss_cons (ps_set (i := 6) scReadEntry.nd rfl (.inl rfl) (pe_lst (pa_cons (pe_ix ix_list (pv 4) pe_int (fun _ _ => rfl)) pa_nil)))
      (pss_cons (ps_for PassesOwn.never rfl (pi_zipMY rfl b_zip (pa_cons (pv 5) (pa_cons (pe_slice sl_list (pv 4) (po_some pe_int) po_none) pa_nil))) (pg_tup rfl (pgs_cons (pg_name (i := 7) scReadEntry.nd rfl (.inl rfl)) (pgs_cons (pg_name (i := 8) scReadEntry.nd rfl (.inl rfl)) pgs_nil)))
        (pss_one (ps_expr (pe_bm PySem.F.plainAttrs_list PySem.F.slot_list_append PySem.F.type_list_append mt_append (pv 6) (pa_cons (pe_ifExp (pt_cmpR op_eq (pv 7) pe_str rfl) (pe_call Rn.ok (hr.mono (by omega)) rfl Rn.g Rn.kp Rn.b .nil pass0 (pa_cons (pv 8) pa_nil)) (pv 8)) pa_nil)))))
      (C8.pss_cut (ps_if (PW.pt (pw_and (pt_cmpR (op_neD hr.units) (pv 5) (pe_tup pa_nil) rfl) (pw_and1 (pt_cmpR op_in_seq (pe_ix ix_tup (pv 5) (pe_un un_neg pe_int) (fun _ _ => rfl)) (pe_glob (v := .ref aLP) rfl g_LONG_PARTS rfl) rfl)))) (pss_one (ps_expr (pe_bm PySem.F.plainAttrs_list PySem.F.slot_list_append PySem.F.type_list_append mt_append (pv 6) (pa_cons (pe_call Rl.ok (hr.mono (by omega)) rfl Rl.g Rl.kp Rl.b .nil pass0 (pa_cons (pe_ix ix_tup (pv 5) (pe_un un_neg pe_int) (fun _ _ => rfl)) (pa_cons (pv 3) pa_nil))) pa_nil)))) pss_nil)
      (pss_cons (ps_set (i := 9) scReadEntry.nd rfl (.inl rfl) (pe_callTy call_tuple_of rfl b_tuple (by decide +kernel) (pa_cons (pv 6) pa_nil)))
      (pss_one (ps_ret (pe_ifExp (PW.pt (pw_and (pt_val (pe_call Hp.ok (hr.mono (by omega)) rfl Hp.g Hp.kp Hp.b .nil pass0 (pa_cons (pv 9) pa_nil))) (pw_and1 (pt_cmpR op_eq (pe_call Et.ok (hr.mono (by omega)) rfl Et.g Et.kp Et.b .nil pass0 (pa_cons (pv 9) pa_nil)) (pv 0) rfl)))) (pv 9) pe_non)))))))))), ?_⟩
    obtain ⟨ps0, h0, hcase⟩ := ent_parts hok
    have hlen : (entT e).length ≤ 8000 := by
      have := ent_len hok (pat e.w).length
      rw [List.take_length, okAll_len hok, List.take_length] at this
      exact this
    obtain ⟨hd, hrest, hhd⟩ : ∃ b c, Txt.partition (S (entT e)) (S COL) = (S (headT e.w ps0), b, S c) ∧ ∀ k p, longK e.w = some k → e.ps = ps0 ++ [p] → c = restT p := by
      rcases hcase with ⟨hl, _, he⟩ | ⟨k, p, hl, _, hp, _, he⟩
      · exact ⟨S [], [], by rw [he]; exact part_short h0, fun k p hl2 _ => by rw [hl] at hl2; cases hl2⟩
      · exact ⟨S COL, restT p, by rw [he]; exact part_long h0 _, fun k2 p2 _ hp2 => by
          rw [hp] at hp2
          have := List.append_inj_right' hp2 rfl
          injection this with this
          rw [this]⟩
    --@@
    refine ⟨_, rfl, ⟨_, rfl⟩, S (entT e), S COL, rfl, rfl, rfl, line_of (by rw [S_len]; omega), fun a na => ?_⟩
    rw [hhd.1]
    refine ⟨a, [tx (headT e.w ps0), .str hd, tx hrest], rfl, SqT.of upd_same, rfl, _, _, rfl, _, _, rfl, _, _, rfl, rfl, ?_⟩
    have hsp : Txt.split (S (headT e.w ps0)) (S [32]) = wdS e.w :: (ps0.map stx).map S := by
      have := split_S (a := headT e.w ps0) (b := [32]) (by simp) rfl
      rw [this, head_split h0, List.map_cons, S_wd]
    have hhl : (headT e.w ps0).length ≤ 8000 := by
      rcases hcase with ⟨_, _, he⟩ | ⟨k, p, _, _, _, _, he⟩
      · rw [← he]; exact hlen
      · rw [he, List.length_append] at hlen; omega
    refine ⟨_, rfl, ⟨_, rfl⟩, S (headT e.w ps0), S [32], rfl, rfl, rfl, line_of (by rw [S_len]; omega), fun pw nw => ?_⟩
    rw [hsp]
    have s1 : Same H (upd (upd H a (.tup [tx (headT e.w ps0), .str hd, tx hrest])) pw (.lst ((wdS e.w :: (ps0.map stx).map S).map V.str))) := (same_upd na).trans (same_upd nw)
    have hw : SqL K (upd (upd H a (.tup [tx (headT e.w ps0), .str hd, tx hrest])) pw (.lst ((wdS e.w :: (ps0.map stx).map S).map V.str))) pw (.str (wdS e.w) :: ((ps0.map stx).map S).map V.str) := SqL.of upd_same
    generalize upd (upd H a (.tup [tx (headT e.w ps0), .str hd, tx hrest])) pw (.lst ((wdS e.w :: (ps0.map stx).map S).map V.str)) = H1 at s1 hw ⊢
    obtain ⟨aK, hD, hK⟩ := hPA.at_ e.w
    refine ⟨aPA, rfl, hPA.dic, _, rfl, pw, _, 0, _, rfl, rfl, hw, atI_nat rfl, Nat.zero_le _, fun z nz => ⟨_, some (.ref aK), rfl, kdct_has hD, ?_⟩⟩
    have s2 : Same H1 (upd H1 z (.tup [])) := same_upd nz
    have hw2 := s2.seq hw
    generalize upd H1 z (.tup []) = H2 at s2 hw2 ⊢
    refine ⟨_, rfl, pw, _, 0, _, rfl, rfl, hw2, atI_nat rfl, (by show 1 ≤ sizeLine; decide), fun pf nf => ?_⟩
    have s3 : Same H2 (upd H2 pf (.lst [.str (wdS e.w)])) := same_upd nf
    have hw3 := s3.seq hw2
    have hf3 : (upd H2 pf (.lst [.str (wdS e.w)])) pf = some (.lst [.str (wdS e.w)]) := upd_same
    generalize upd H2 pf (.lst [.str (wdS e.w)]) = H3 at s3 hw3 hf3 ⊢
    refine ⟨_, rfl, _, rfl, ?_⟩
    refine ⟨1, rfl, pw, _, rfl, hw3, fun p np => ?_⟩
    rw [show cutV (V.str (wdS e.w) :: ((ps0.map stx).map S).map V.str) (some 1) none = ((ps0.map stx).map S).map V.str from cut_fromG 1]
    have s4 : Same H3 (upd H3 p (.lst (((ps0.map stx).map S).map V.str))) := same_upd np
    have hp4 : (upd H3 p (.lst (((ps0.map stx).map S).map V.str))) p = some (.lst (((ps0.map stx).map S).map V.str)) := upd_same
    have hf4 := s4 _ _ hf3
    have npf : p ≠ pf := (ne_of_none hf3 np).symm
    generalize upd H3 p (.lst (((ps0.map stx).map S).map V.str)) = H4 at s4 hp4 hf4 ⊢
    have h0l := okAll_len h0
    have h0s := shorts_len e.w
    refine ⟨aK, p, _, _, rfl, hK _, SqL.of hp4, for_it (walk_zipMY (K := K) (a := aK) (b := p) (xs := kdV (pat e.w)) (ys := ((ps0.map stx).map S).map V.str) (n := ps0.length) ?_) (fun i σ' G => ∃ b7 b8, σ' = [some (tx (entT e)), some (tx (headT e.w ps0)), some (.str hd), some (tx hrest), some (.ref pw), some (.ref aK), some (.ref pf), b7, b8, none] ∧ But pf H4 G ∧ G pf = some (.lst (.str (wdS e.w) :: (ps0.take i).map partV))) ⟨none, none, rfl, But.refl, hf4⟩ (fun i σ' G _ h => by obtain ⟨_, _, _, s, _⟩ := h; exact ⟨hK _, SqL.of (s _ _ npf hp4)⟩) ?_ ?_⟩
    · unfold kdV
      rw [pat_eq, List.length_map, List.length_append, List.length_map, List.length_map, List.length_map]
      omega
    · rintro i z' σ' G0 G hi ⟨b7, b8, rfl, sG, gf⟩ ⟨T, x, y, rfl, nT, rfl, hx, hy⟩
      refine ⟨T, [x, y], rfl, SqT.of upd_same, rfl, x, [y], rfl, y, [], rfl, rfl, ?_⟩
      have hil : i < (shorts e.w).length := by omega
      have ek : (shorts e.w)[i]? = some (shorts e.w)[i] := List.getElem?_eq_getElem hil
      have ep : ps0[i]? = some ps0[i] := List.getElem?_eq_getElem hi
      have hks := shorts_short (List.mem_of_getElem? ek)
      have hoki := okAll_get h0 ek ep
      generalize (shorts e.w)[i] = kk at ek hks hoki
      generalize ps0[i] = pp at ep hoki
      have hx : ((pat e.w).map fun k => V.str (kdS k))[i]? = some x := hx
      rw [List.getElem?_map, pat_eq, List.getElem?_append_left hil, ek] at hx
      cases hx
      have hy : (((ps0.map stx).map S).map V.str)[i]? = some y := hy
      rw [List.getElem?_map, List.getElem?_map, List.getElem?_map, ep] at hy
      cases hy
      have nTp : pf ≠ T := ne_of_none gf nT
      have sT : Same G0 (upd G0 T (.tup [.str (kdS kk), tx (stx pp)])) := same_upd nT
      have gf1 := sT _ _ gf
      have sG1 : But pf H4 (upd G0 T (.tup [.str (kdS kk), tx (stx pp)])) := sG.trans (But.of sT)
      generalize upd G0 T (.tup [.str (kdS kk), tx (stx pp)]) = G1 at sT gf1 sG1 ⊢
      obtain ⟨_, _, _, hv⟩ := short_part hks hoki
      have push : ∀ v, v = partV pp → (V.str (wdS e.w) :: (ps0.take i).map partV).length < sizeLine ∧ But pf H4 (upd G1 pf (.lst ((V.str (wdS e.w) :: (ps0.take i).map partV) ++ [v]))) ∧ (upd G1 pf (.lst ((V.str (wdS e.w) :: (ps0.take i).map partV) ++ [v]))) pf = some (.lst (V.str (wdS e.w) :: (ps0.take (i + 1)).map partV)) := by
        rintro v rfl
        refine ⟨?_, sG1.trans But.upd, ?_⟩
        · rw [List.length_cons, List.length_map, List.length_take]
          exact small1000' (by omega)
        · rw [upd_same, take_snoc ep, List.map_append]
          rfl
      refine ⟨_, rfl, .inl ⟨rfl, _, SqL.of gf1⟩, ?_⟩
      rcases hv with ⟨rfl, n, rfl, hn⟩ | ⟨hk2, l, rfl⟩
      · obtain ⟨p1, p2, p3⟩ := push (.int (n : Nat)) rfl
        exact ⟨_, rfl, rfl, _, rfl, iteTd (by decide +kernel) ⟨_, rfl, (n : Nat), rfl, by omega, by omega, pf, _, _, rfl, rfl, gf1, p1, some (.str "number"), some (tx (ntx (n : Nat))), rfl, p2, p3⟩⟩
      · obtain ⟨p1, p2, p3⟩ := push (tx l) rfl
        exact ⟨_, rfl, rfl, _, rfl, iteFd (by cases kk <;> first | (exact absurd rfl hk2) | decide +kernel) ⟨_, rfl, pf, _, _, rfl, rfl, gf1, p1, some (.str (kdS kk)), some (tx l), rfl, p2, p3⟩⟩
    · rintro σ' G ⟨b7, b8, rfl, sG, gf⟩
      rw [List.take_length] at gf
      have hpf : H pf = none := by
        cases hx : H pf with
        | none => rfl
        | some o => rw [s2 _ _ (s1 _ _ hx)] at nf; cases nf
      have sHG : Same H G := fun x o hx => sG _ _ (ne_of_none hx hpf) (s4 _ _ (s3 _ _ (s2 _ _ (s1 _ _ hx))))
      have hshort : Paired (PartAt G) (ps0.map partV) ps0 := short_paired h0 fun k hk => shorts_short hk
      refine ⟨fun σ2 G2 => ∃ b7 b8 vs, σ2 = [some (tx (entT e)), some (tx (headT e.w ps0)), some (.str hd), some (tx hrest), some (.ref pw), some (.ref aK), some (.ref pf), b7, b8, none] ∧ Same H G2 ∧ G2 pf = some (.lst (.str (wdS e.w) :: vs)) ∧ Paired (PartAt G2) vs e.ps, ?_, ?_⟩
      · refine ⟨_, rfl, Nat.zero_le _, fun y ny => ⟨_, _, .tup (hK _) (dp_kds (pat e.w)), .tup (SqT.of upd_same) .nil, kds_shaped _, by decide +kernel, _, rfl, iteTd (by rw [kds_ne]; rfl) ?_⟩⟩
        have s5 : Same G (upd G y (.tup [])) := same_upd ny
        have gf5 := s5 _ _ gf
        have hsh5 := Paired.mapP hshort fun _ _ y => PartAt.same s5 y
        generalize upd G y (.tup []) = G5 at s5 gf5 hsh5 ⊢
        have hat : atI (kdV (pat e.w)) (-1) = some (V.str (kdS (lastKd e.w))) := by
          rw [pat_last]
          exact atI_last _ _
        refine ⟨_, rfl, 1, rfl, aK, _, -1, _, rfl, rfl, hK _, hat, aLP, _, rfl, .inr (hLP _), rfl, by decide +kernel, ?_⟩
        rw [if_neg (by decide), in_long, last_long]
        rcases hcase with ⟨hl, hps, he⟩ | ⟨k, p, hl, hkl, hps, hokp, he⟩
        · rw [hl]
          exact ⟨_, rfl, iteF ⟨b7, b8, _, rfl, sHG.trans s5, gf5, by rw [hps]; exact hsh5⟩⟩
        · rw [hl]
          have er := hhd.2 k p hl hps
          subst er
          have ek := last_is hl
          refine ⟨_, rfl, iteT ⟨_, rfl, .inl ⟨rfl, _, SqL.of gf5⟩, _, rfl, 1, rfl, aK, _, -1, _, rfl, rfl, hK _, hat, _, rfl, k, p, by rw [ek]; rfl, hkl, hokp, fun v G6 s6 hv => ⟨pf, _, _, rfl, rfl, s6 _ _ gf5, ?_, b7, b8, ps0.map partV ++ [v], rfl, ?_, upd_same, ?_⟩⟩⟩
          · rw [List.length_cons, List.length_map]
            exact small1000' (by omega)
          · exact same_updF hpf (sHG.trans (s5.trans s6))
          · rw [hps]
            have gf6 := s6 _ _ gf5
            exact Paired.snoc (Paired.mapP hsh5 fun _ _ y => (y.same s6).updL gf6) (hv.updL gf6)
      · rintro σ2 G2 ⟨b7, b8, vs, rfl, sG2, gf2, hvs⟩
        refine ⟨_, rfl, pf, _, rfl, .inl ⟨SqL.of gf2, fun t nt => ?_⟩⟩
        have hE : EntAt (upd G2 t (.tup (.str (wdS e.w) :: vs))) t e := ⟨vs, upd_same, Paired.mapP hvs fun _ _ y => PartAt.same (same_upd nt) y⟩
        exact ⟨_, rfl, t, e, rfl, hok, hE, fun G3 s3 => ⟨_, rfl, iteT ⟨_, rfl, t, e, rfl, hok, hE.same s3, fun G4 s4 => ⟨_, rfl, rfl, _, rfl, iteTd (decide_eq_true rfl) ⟨_, rfl, q _ _ ((sG2.trans (same_upd nt)).trans (s3.trans s4)) (hE.same (s3.trans s4))⟩⟩⟩⟩⟩
end
end My

/-! enumerate(xs, start=k) over a list or a tuple. -/
set_option Elab.async false
set_option linter.all false
set_option maxRecDepth 100000
namespace My
open PySem PySem.Spec PyProof.Rows L2
/-- the turns over a list (or tuple) at a: new pairs, counted from c -/
def ItS (S : Hp → Addr → List V → Prop) (c : Int) (a : Addr) : It :=
  ⟨fun i H => ∃ (xs : List V) (x : V), S H a xs ∧ xs[i]? = some x, fun i H v H' => ∃ T x, v = .ref T ∧ H T = none ∧ H' = upd H T (.tup [.int (c + (i : Nat)), x]) ∧ ∀ xs, S H a xs → xs[i]? = some x, fun i H => ∃ xs : List V, S H a xs ∧ xs.length ≤ i⟩
theorem enum_endL {e it l : Addr} {P : Program} {w : World} {A : Around} {E : Value → Shared → Prop} {s : Shared} {i : Nat} {c : Int} {items : Array Value} {old : Value} {Q : Option Value → Shared → Prop} (hh : A.handled = none) (hne : l ≠ it)
    (he : IsEnum s.heap e it c old) (hit : s.heap.IsListIter it l i) (hl : s.heap.IsList l items) (hx : items[i]? = none)
    (hQ : ∀ h', Heap.ExtBut it s.heap h' → Q none { s with heap := h' }) : wpAny (model P w) A (pyNext (.ref e)) Q E s := by
  have hTy : s.TypeIs (.ref e) "enumerate" := ⟨_, he, rfl⟩
  unfold pyNext
  refine wpAny_bind (wpAny_attempt (wpAny_callSpecial?_slot (name := Str.ofString "__next__") hTy F.slot_enumerate_next
    (wpAny_call_entry F.slot_enumerate_next hTy F.entry_enumerate_next ?_ (F.args_enumerate_next_1 _))))
  show wpAny _ _ (field (.ref e) 2 >>= _) _ _ _
  refine wpAny_bind (wpAny_field he rfl (x := .ref it) rfl ?_)
  refine wpAny_bind (wpAny_nextOf_list_end hh hit hl hx fun h' x he' hx' => ?_)
  obtain ⟨o, ho, hc⟩ := hx'
  refine wpAny_bind (wpAny_isInstance (T := "StopIteration") (b := true) ⟨o, ho, hc⟩ isSubtype_stop ?_)
  exact wpAny_pure (hQ _ he')
theorem turn_enumL {P : Program} {w : World} {K : PySem.W.Frag} {elts : List Expr} {kk : Nat} {tpos : Pos} (a e it : Addr) (c : Int) :
    Turn P w K (.Tuple elts kk tpos) (ItS (SqL K) c a) [e, it] e (fun i h => (∃ old, IsEnum h e it (c + ((i : Nat) : Int)) old) ∧ h.IsListIter it a i ∧ e ≠ it) where
  mem := by simp
  obj := fun i h st b hb => by
    obtain ⟨⟨old, he⟩, ⟨o, ho, hc, hd⟩, _⟩ := st
    have e' : b = e ∨ b = it := by simpa using hb
    rcases e' with z | z
    · rw [z]; exact ⟨_, he, fun v q => nomatch q⟩
    · rw [z]; exact ⟨o, ho, fun v q => by rw [hd] at q; cases q⟩
  keep := fun i h h' st k => let ⟨⟨old, he⟩, hi, hne⟩ := st; ⟨⟨old, k e (by simp) _ he⟩, hi.at fun o q => k it (by simp) o q, hne⟩
  item := by
    intro X hP hw hK hc i pins s σ H E I hf st hg
    subst hP hw hK
    obtain ⟨⟨old, he⟩, hit, hne⟩ := st
    obtain ⟨xs, x, hq, hx⟩ := hg
    obtain ⟨its, rv, p, hz⟩ := I.list hq
    obtain ⟨u, hu, ru⟩ := rv.get hx
    have hel : e < s.heap.objs.size := Heap.lt_size he
    have hil : it < s.heap.objs.size := by obtain ⟨_, q, _⟩ := hit; exact Heap.lt_size q
    have p' : s.heap.IsList a its.toArray := p.isList
    have hai : a ≠ it := fun z => by
      obtain ⟨o1, e1, c1, _⟩ := hit
      obtain ⟨o2, e2, c2, _⟩ := p'
      rw [z, e1] at e2
      cases e2
      rw [c1] at c2
      injection c2 with z2
      exact absurd z2 (by decide)
    have hea : e ≠ a := fun z => by
      obtain ⟨o2, e2, c2, _⟩ := p'
      rw [← z, he] at e2
      cases e2
      injection c2 with z2
      exact absurd z2 (by decide)
    have hi : i < its.toArray.size := by
      obtain ⟨z, _⟩ := List.getElem?_eq_some_iff.mp hu
      simpa using z
    refine wpAny_pyNext_enum_itemC (Draws.list (A := X.A.in1) (show X.A.in1.handled = none from I.ok.hd hc) it a hai its.toArray) he ⟨hit, p'⟩ hi hne (by simp [hne, hea]) fun x2 h' tk hx2 ho hit' hT hsz hk => ?_
    have hxu : x2 = u := by
      have z : its.toArray[i]? = some u := by simpa using hu
      rw [z] at hx2
      exact (Option.some.inj hx2).symm
    subst hxu
    refine ⟨_, rfl, wpAny_letOwnedTupleGo_enum (s := { s with heap := h', toks := tk + 1 }) ho fun h'' he' sb => ?_⟩
    have hT2 : h''.get? s.heap.objs.size = some { cls := .type "tuple", data := .seq #[.int (c + (i : Nat)) tk, x2] } := (sb.2 _ (Nat.ne_of_gt hel)).trans hT
    have new : ObjOk X.prog X.w (upd H s.heap.objs.size (.tup [.int (c + (i : Nat)), x])) h'' s.heap.objs.size (.tup [.int (c + (i : Nat)), x]) :=
      ⟨by show 2 ≤ sizeLine; decide, [.int (c + (i : Nat)) tk, x2], .cons ⟨_, rfl⟩ (.cons ru .nil), ⟨_, hT2, rfl, _, rfl⟩⟩
    have I1 : Inv X pins σ (upd H s.heap.objs.size (.tup [.int (c + (i : Nat)), x])) { s with heap := h'', toks := tk + 1 } :=
      I.turnedNew (ch := [e, it]) (fun b ob hb q => (sb.2 b (fun z => hb (by simp [z]))).trans (hk b ob (fun z => hb (by simp [z])) (fun z => hb (by simp [z])) q)) hf (Nat.le_refl _) new
    refine ⟨.ref s.heap.objs.size, _, I1, rfl, ⟨_, x, rfl, I.hok.fresh (Nat.le_refl _), rfl, fun ys hy => by rw [I.list_inj hy hq]; exact hx⟩, ⟨⟨x2, ?_⟩, hit'.1.at fun o q => (sb.2 it (Ne.symm hne)).trans q, hne⟩, fun b hb => ?_⟩
    · have e1 : c + ((i + 1 : Nat) : Int) = c + (i : Int) + 1 := by omega
      rw [e1]; exact he'
    · have hb' : b < s.heap.objs.size := by
        have e' : b = e ∨ b = it := by simpa using hb
        rcases e' with z | z
        · rw [z]; exact hel
        · rw [z]; exact hil
      rw [upd_ne (Nat.ne_of_lt hb')]
      exact (hf b hb).1
  done := by
    intro X hP hw hK hc i pins s σ H E I hf st hg
    subst hP hw hK
    obtain ⟨⟨old, he⟩, hit, hne⟩ := st
    obtain ⟨xs, hq, hx⟩ := hg
    obtain ⟨its, rv, p, hz⟩ := I.list hq
    obtain ⟨f0, f1, f2, f3, f4, f5⟩ := hf it (by simp)
    have p' : s.heap.IsList a its.toArray := p.isList
    have hai : a ≠ it := fun z => by
      obtain ⟨o1, e1, c1, _⟩ := hit
      obtain ⟨o2, e2, c2, _⟩ := p'
      rw [z, e1] at e2
      cases e2
      rw [c1] at c2
      injection c2 with z2
      exact absurd z2 (by decide)
    exact enum_endL (I.ok.hd hc) hai he hit p' (by have hl := rv.length; simp; omega) fun h' eb => ⟨rfl, I.turned (t' := s.toks) (fun b o hb q => eb b o hb q) f0 f1 f3 f4 f5⟩
  self := fun A i s Q E st h => let ⟨⟨_, he⟩, _⟩ := st; wpAny_pyIter_enum he h
theorem enum_endT {e it l : Addr} {P : Program} {w : World} {A : Around} {E : Value → Shared → Prop} {s : Shared} {i : Nat} {c : Int} {items : Array Value} {old : Value} {Q : Option Value → Shared → Prop} (hh : A.handled = none) (hne : l ≠ it)
    (he : IsEnum s.heap e it c old) (hit : s.heap.IsTupleIter it l i) (hl : s.heap.IsTuple l items) (hx : items[i]? = none)
    (hQ : ∀ h', Heap.ExtBut it s.heap h' → Q none { s with heap := h' }) : wpAny (model P w) A (pyNext (.ref e)) Q E s := by
  have hTy : s.TypeIs (.ref e) "enumerate" := ⟨_, he, rfl⟩
  unfold pyNext
  refine wpAny_bind (wpAny_attempt (wpAny_callSpecial?_slot (name := Str.ofString "__next__") hTy F.slot_enumerate_next
    (wpAny_call_entry F.slot_enumerate_next hTy F.entry_enumerate_next ?_ (F.args_enumerate_next_1 _))))
  show wpAny _ _ (field (.ref e) 2 >>= _) _ _ _
  refine wpAny_bind (wpAny_field he rfl (x := .ref it) rfl ?_)
  refine wpAny_bind (wpAny_nextOf_tuple_end hh hit hl hx fun h' x he' hx' => ?_)
  obtain ⟨o, ho, hc⟩ := hx'
  refine wpAny_bind (wpAny_isInstance (T := "StopIteration") (b := true) ⟨o, ho, hc⟩ isSubtype_stop ?_)
  exact wpAny_pure (hQ _ he')
theorem turn_enumT {P : Program} {w : World} {K : PySem.W.Frag} {elts : List Expr} {kk : Nat} {tpos : Pos} (a e it : Addr) (c : Int) :
    Turn P w K (.Tuple elts kk tpos) (ItS (SqT K) c a) [e, it] e (fun i h => (∃ old, IsEnum h e it (c + ((i : Nat) : Int)) old) ∧ h.IsTupleIter it a i ∧ e ≠ it) where
  mem := by simp
  obj := fun i h st b hb => by
    obtain ⟨⟨old, he⟩, ⟨o, ho, hc, hd⟩, _⟩ := st
    have e' : b = e ∨ b = it := by simpa using hb
    rcases e' with z | z
    · rw [z]; exact ⟨_, he, fun v q => nomatch q⟩
    · rw [z]; exact ⟨o, ho, fun v q => by rw [hd] at q; cases q⟩
  keep := fun i h h' st k => let ⟨⟨old, he⟩, hi, hne⟩ := st; ⟨⟨old, k e (by simp) _ he⟩, hi.at fun o q => k it (by simp) o q, hne⟩
  item := by
    intro X hP hw hK hc i pins s σ H E I hf st hg
    subst hP hw hK
    obtain ⟨⟨old, he⟩, hit, hne⟩ := st
    obtain ⟨xs, x, hq, hx⟩ := hg
    obtain ⟨its, rv, p, hz⟩ := I.tuple hq
    obtain ⟨u, hu, ru⟩ := rv.get hx
    have hel : e < s.heap.objs.size := Heap.lt_size he
    have hil : it < s.heap.objs.size := by obtain ⟨_, q, _⟩ := hit; exact Heap.lt_size q
    have p' : s.heap.IsTuple a its.toArray := p
    have hai : a ≠ it := fun z => by
      obtain ⟨o1, e1, c1, _⟩ := hit
      obtain ⟨o2, e2, c2, _⟩ := p'
      rw [z, e1] at e2
      cases e2
      rw [c1] at c2
      injection c2 with z2
      exact absurd z2 (by decide)
    have hea : e ≠ a := fun z => by
      obtain ⟨o2, e2, c2, _⟩ := p'
      rw [← z, he] at e2
      cases e2
      injection c2 with z2
      exact absurd z2 (by decide)
    have hi : i < its.toArray.size := by
      obtain ⟨z, _⟩ := List.getElem?_eq_some_iff.mp hu
      simpa using z
    refine wpAny_pyNext_enum_itemC (Draws.tuple (A := X.A.in1) (show X.A.in1.handled = none from I.ok.hd hc) it a hai its.toArray) he ⟨hit, p'⟩ hi hne (by simp [hne, hea]) fun x2 h' tk hx2 ho hit' hT hsz hk => ?_
    have hxu : x2 = u := by
      have z : its.toArray[i]? = some u := by simpa using hu
      rw [z] at hx2
      exact (Option.some.inj hx2).symm
    subst hxu
    refine ⟨_, rfl, wpAny_letOwnedTupleGo_enum (s := { s with heap := h', toks := tk + 1 }) ho fun h'' he' sb => ?_⟩
    have hT2 : h''.get? s.heap.objs.size = some { cls := .type "tuple", data := .seq #[.int (c + (i : Nat)) tk, x2] } := (sb.2 _ (Nat.ne_of_gt hel)).trans hT
    have new : ObjOk X.prog X.w (upd H s.heap.objs.size (.tup [.int (c + (i : Nat)), x])) h'' s.heap.objs.size (.tup [.int (c + (i : Nat)), x]) :=
      ⟨by show 2 ≤ sizeLine; decide, [.int (c + (i : Nat)) tk, x2], .cons ⟨_, rfl⟩ (.cons ru .nil), ⟨_, hT2, rfl, _, rfl⟩⟩
    have I1 : Inv X pins σ (upd H s.heap.objs.size (.tup [.int (c + (i : Nat)), x])) { s with heap := h'', toks := tk + 1 } :=
      I.turnedNew (ch := [e, it]) (fun b ob hb q => (sb.2 b (fun z => hb (by simp [z]))).trans (hk b ob (fun z => hb (by simp [z])) (fun z => hb (by simp [z])) q)) hf (Nat.le_refl _) new
    refine ⟨.ref s.heap.objs.size, _, I1, rfl, ⟨_, x, rfl, I.hok.fresh (Nat.le_refl _), rfl, fun ys hy => by rw [I.tuple_inj hy hq]; exact hx⟩, ⟨⟨x2, ?_⟩, hit'.1.at fun o q => (sb.2 it (Ne.symm hne)).trans q, hne⟩, fun b hb => ?_⟩
    · have e1 : c + ((i + 1 : Nat) : Int) = c + (i : Int) + 1 := by omega
      rw [e1]; exact he'
    · have hb' : b < s.heap.objs.size := by
        have e' : b = e ∨ b = it := by simpa using hb
        rcases e' with z | z
        · rw [z]; exact hel
        · rw [z]; exact hil
      rw [upd_ne (Nat.ne_of_lt hb')]
      exact (hf b hb).1
  done := by
    intro X hP hw hK hc i pins s σ H E I hf st hg
    subst hP hw hK
    obtain ⟨⟨old, he⟩, hit, hne⟩ := st
    obtain ⟨xs, hq, hx⟩ := hg
    obtain ⟨its, rv, p, hz⟩ := I.tuple hq
    obtain ⟨f0, f1, f2, f3, f4, f5⟩ := hf it (by simp)
    have p' : s.heap.IsTuple a its.toArray := p
    have hai : a ≠ it := fun z => by
      obtain ⟨o1, e1, c1, _⟩ := hit
      obtain ⟨o2, e2, c2, _⟩ := p'
      rw [z, e1] at e2
      cases e2
      rw [c1] at c2
      injection c2 with z2
      exact absurd z2 (by decide)
    exact enum_endT (I.ok.hd hc) hai he hit p' (by have hl := rv.length; simp; omega) fun h' eb => ⟨rfl, I.turned (t' := s.toks) (fun b o hb q => eb b o hb q) f0 f1 f3 f4 f5⟩
  self := fun A i s Q E st h => let ⟨⟨_, he⟩, _⟩ := st; wpAny_pyIter_enum he h
theorem callWith_typeKw {M : Model} {A : Around} {E : Value → Shared → Prop} {s : Shared} {env : Env} {pos : Pos} {T : String} {e : Expr} {rest : List Expr} {kws : List Keyword} {Q : Value → Shared → Prop}
    (h : wpAny M A (spliced (backTo pos (starEach (e :: rest) env))) (fun vs s₁ => wpAny M A (evalAll ((backToKw pos (keywordEach kws env)).map (·.2)))
      (fun kvs s₂ => wpAny M A (call (.type T) vs (((backToKw pos (keywordEach kws env)).filterMap (·.1)).zip kvs)) Q E s₂) E s₁) E s)
    (he : backTo pos (starEach (e :: rest) env) = (false, eval e env) :: backTo pos (starEach rest env) := by rfl)
    (hplain : (backTo pos (starEach (e :: rest) env)).any (·.1) = false := by rfl)
    (hall : (backToKw pos (keywordEach kws env)).all (·.1.isSome) = true := by rfl)
    (hkw : (backToKw pos (keywordEach kws env)).any (·.1.isNone) = false := by rfl) :
    wpAny M A (callWith pos (.type T) [] (backTo pos (starEach (e :: rest) env)) (backToKw pos (keywordEach kws env))) Q E s := by
  unfold callWith
  refine wpAny_bind (wpAny_holding (wpAny_mono (Q := fun a s₁ => wpAny M A (call (.type T) ([] ++ a.pos) a.kw) Q E s₁) ?_ (fun a s₁ h₁ => wpAny_bind (wpAny_standAt ?_)) fun _ _ x => x))
  · rw [he] at h ⊢
    exact evalArgs_kwB hall h
  · simp only [hplain, hkw, Bool.or_false]
    refine wpAny_bind (wpAny_pure ?_)
    exact wpAny_bind (wpAny_mono h₁ (fun r s₂ hr => wpAny_bind (wpAny_holding (wpAny_point (wpAny_pure hr)))) fun _ _ x => x)
/-- a list or a tuple at a -/
def SqU (K : PySem.W.Frag) (H : Hp) (a : Addr) (xs : List V) : Prop := SqL K H a xs ∨ SqT K H a xs
def iEnumS (K : PySem.W.Frag) (ta : TA) (ts : TE) : TI := fun σ H R => ta σ H fun vs H1 => ∃ a xs, vs = [.ref a] ∧ ts σ H1 fun v H2 => ∃ c : Int, v = .int c ∧ -(2 ^ 63) ≤ c ∧ c < 2 ^ 63 ∧ ((SqL K H2 a xs ∧ R (ItS (SqL K) c a) H2) ∨ (SqT K H2 a xs ∧ R (ItS (SqT K) c a) H2))
theorem pi_enumS {X : Cx} {e es : Expr} {ta : TA} {ts : TE} {p pos tpos kp : Pos} {elts : List Expr} {kk : Nat} (hg : Gl X "enumerate") (hm : X.mg "enumerate" = none) (ha : PA X [e] ta) (hst : PE X es ts) (hs : starEach [e] X.env = [(false, eval e X.env)] := by rfl) :
    PI X (.Tuple elts kk tpos) (.Call (.Name "enumerate" p) [e] [⟨some "start", es, kp⟩] pos) (iEnumS X.K ta ts) := by
  refine ⟨fun pins s σ H R I h => ?_⟩
  refine wpAny_bind (ld_blt I hg hm boot_enumerate (callWith_typeKw (thn (ha.run pos pins s σ H _ I h) fun us s1 ⟨vs, H1, I1, r1, q1⟩ => ?_) (by rw [hs]; rfl) (by rw [hs]; rfl)))
  obtain ⟨a, xs, ex, q⟩ := q1
  subst ex
  refine kws_cons (thn (hst.run pins s1 σ H1 _ I1 q) fun u s2 ⟨v, H2, I2, r2, c, ev, c0, c1, q2⟩ => evalAll_nil ?_)
  subst ev
  obtain ⟨tk, rfl⟩ : ∃ tk, u = .int c tk := r2
  cases r1 with
  | cons r rr =>
    cases rr
    cases r
    rcases q2 with ⟨hq, q⟩ | ⟨hq, q⟩
    · obtain ⟨its, rv, p', hz⟩ := I2.list hq
      refine enum_begins_start (begins_list a its.toArray) p'.isList c0 c1 fun h' he hit hsz hk => wpAny_pyIter_enum he ?_
      have I3 : Inv X pins σ H2 { s2 with heap := h' } := I2.kept (t' := s2.toks) hk
      refine ⟨s2.heap.objs.size + 1, [s2.heap.objs.size + 1, s2.heap.objs.size], _, _, H2, rfl, I3, turn_enumL a (s2.heap.objs.size + 1) s2.heap.objs.size c, ⟨⟨.none, by rw [show c + ((0 : Nat) : Int) = c by omega]; exact he⟩, ⟨_, hit, rfl, rfl⟩, Nat.succ_ne_self _⟩, fun b hb => ?_, q⟩
      have e' : b = s2.heap.objs.size + 1 ∨ b = s2.heap.objs.size := by simpa using hb
      have hle : s2.heap.objs.size ≤ b := by
        rcases e' with z | z
        · rw [z]; exact Nat.le_add_right _ _
        · rw [z]; exact Nat.le_refl _
      exact I2.fpOk hle (I2.hok.fresh hle)
    · obtain ⟨its, rv, p', hz⟩ := I2.tuple hq
      refine enum_begins_start (begins_tuple a its.toArray) (show s2.heap.IsTuple a its.toArray from p') c0 c1 fun h' he hit hsz hk => wpAny_pyIter_enum he ?_
      have I3 : Inv X pins σ H2 { s2 with heap := h' } := I2.kept (t' := s2.toks) hk
      refine ⟨s2.heap.objs.size + 1, [s2.heap.objs.size + 1, s2.heap.objs.size], _, _, H2, rfl, I3, turn_enumT a (s2.heap.objs.size + 1) s2.heap.objs.size c, ⟨⟨.none, by rw [show c + ((0 : Nat) : Int) = c by omega]; exact he⟩, ⟨_, hit, rfl, rfl⟩, Nat.succ_ne_self _⟩, fun b hb => ?_, q⟩
      have e' : b = s2.heap.objs.size + 1 ∨ b = s2.heap.objs.size := by simpa using hb
      have hle : s2.heap.objs.size ≤ b := by
        rcases e' with z | z
        · rw [z]; exact Nat.le_add_right _ _
        · rw [z]; exact Nat.le_refl _
      exact I2.fpOk hle (I2.hok.fresh hle)
theorem walk_enumS {S : Hp → Addr → List V → Prop} {c : Int} {a : Addr} {xs : List V} : Walk (ItS S c a) xs.length (fun H => S H a xs) (YPair (fun i => some (.int (c + (i : Nat)))) (fun i => xs[i]?)) := by
  refine ⟨fun i _ hi q => ⟨xs, xs[i], q, by simp [hi]⟩, fun _ q => ⟨xs, q, Nat.le_refl _⟩, fun i H v H' _ q y => ?_⟩
  obtain ⟨T, x, h1, h2, h3, h4⟩ := y
  exact ⟨T, .int (c + (i : Nat)), x, h1, h2, h3, rfl, h4 xs q⟩
end My

set_option Elab.async false
set_option linter.all false
set_option maxRecDepth 100000
/-! enumerate(xs) over a list or a tuple -/
namespace My
open PySem PySem.Spec PyProof.Rows L2
set_option maxHeartbeats 1000000 in
theorem meets_enumerate_newB1 {v : Value} {o : Obj} {H : Heap → Prop} (B : Begins v o H) :
    Meets (Builtin.«enumerate.__new__» ⟨[.type "enumerate", v], []⟩) (fun _ R s => H s.heap ∧
      R (.ok (.ret (.ref (s.heap.push o).objs.size))) { s with heap := (s.heap.push o).push { cls := .type "enumerate", data := .fields #[.none, .bool false, .ref s.heap.objs.size, rawInt 0, .none, .none] } }) :=
  .of_wp fun prog w A R s h => by
    obtain ⟨hp, g, d, tk, os⟩ := s; obtain ⟨h1, h⟩ := h
    have hsub := sub_enumerate
    have q1 : ∀ {A' : Around} {E : Value → Shared → Prop} {Q : Value → Shared → Prop}, Q (.ref hp.objs.size) ⟨hp.push o, g, d, tk, os⟩ → wpAny (model prog w) A' (pyIter v) Q E ⟨hp, g, d, tk, os⟩ :=
      fun q => B.iter prog w _ _ ⟨hp, g, d, tk, os⟩ _ h1 q
    wp_walk using q1
    refine wpAny_stack_any fun st => wpAny_pure ?_
    split
    · rename_i c _ _ _ _ _
      cases (c == Value.type "enumerate")
      · wp_walk using q1
        exact ⟨_, rfl, h⟩
      · wp_walk using q1
        exact ⟨_, rfl, h⟩
    · wp_walk using q1
      exact ⟨_, rfl, h⟩
section
variable {prog : Program} {w : World} {A : Around} {E : Value → Shared → Prop} {s : Shared}
theorem enum_begins1 {v : Value} {o : Obj} {H : Heap → Prop} {Q : Value → Shared → Prop} (B : Begins v o H) (h1 : H s.heap)
    (h : ∀ h', IsEnum h' (s.heap.objs.size + 1) s.heap.objs.size 0 .none → h'.get? s.heap.objs.size = some o → h'.objs.size = s.heap.objs.size + 2 →
      (∀ b o, s.heap.get? b = some o → h'.get? b = some o) → Q (.ref (s.heap.objs.size + 1)) { s with heap := h' }) :
    wpAny (model prog w) A (call (.type "enumerate") [v]) Q E s := by
  refine callType_new F.called_enumerate (by decide) (F.typeCall_enumerate_1 _) (F.newCall_enumerate_1 _) (fun obj => F.args_object_init_2 obj _) F.entry_enumerate_new
    (meets_enumerate_newB1 B) ⟨h1, ?_⟩
  have hz : (s.heap.push o).objs.size = s.heap.objs.size + 1 := Heap.size_push ..
  show _ ∧ _
  rw [hz]
  have he : IsEnum ((s.heap.push o).push { cls := .type "enumerate", data := .fields #[.none, .bool false, .ref s.heap.objs.size, rawInt 0, .none, .none] }) (s.heap.objs.size + 1) s.heap.objs.size 0 .none := by
    have := Heap.get?_push_size (s.heap.push o) (o := { cls := .type "enumerate", data := .fields #[.none, .bool false, .ref s.heap.objs.size, rawInt 0, .none, .none] }) rfl
    rw [hz] at this; exact this
  refine ⟨⟨_, he, rfl⟩, h _ he (Heap.get?_push_of_some _ (Heap.get?_push_size _ B.free)) (by rw [Heap.size_push, hz]) fun b o x => Heap.get?_push_of_some _ (Heap.get?_push_of_some _ x)⟩
end
def iEnumU (K : PySem.W.Frag) (ta : TA) : TI := fun σ H R => ta σ H fun vs H2 => ∃ a xs, vs = [.ref a] ∧ ((SqL K H2 a xs ∧ R (ItS (SqL K) 0 a) H2) ∨ (SqT K H2 a xs ∧ R (ItS (SqT K) 0 a) H2))
theorem pi_enumU {X : Cx} {e : Expr} {ta : TA} {p pos tpos : Pos} {elts : List Expr} {kk : Nat} (hg : Gl X "enumerate") (hm : X.mg "enumerate" = none) (ha : PA X [e] ta) (hs : starEach [e] X.env = [(false, eval e X.env)] := by rfl) :
    PI X (.Tuple elts kk tpos) (.Call (.Name "enumerate" p) [e] [] pos) (iEnumU X.K ta) := by
  refine ⟨fun pins s σ H R I h => ?_⟩
  refine Call_ (ld_blt I hg hm boot_enumerate (PyProof.Rows.callWith_type1 (thn (ha.run pos pins s σ H _ I h) fun us s2 ⟨vs, H2, I2, r1, q1⟩ => ?_) hs rfl))
  obtain ⟨a, xs, ex, q2⟩ := q1
  subst ex
  cases r1 with
  | cons r rr =>
    cases rr
    cases r
    rcases q2 with ⟨hq, q⟩ | ⟨hq, q⟩
    · obtain ⟨its, rv, p', hz⟩ := I2.list hq
      refine enum_begins1 (begins_list a its.toArray) p'.isList fun h' he hit hsz hk => wpAny_pyIter_enum he ?_
      have I3 : Inv X pins σ H2 { s2 with heap := h' } := I2.kept (t' := s2.toks) hk
      refine ⟨s2.heap.objs.size + 1, [s2.heap.objs.size + 1, s2.heap.objs.size], _, _, H2, rfl, I3, turn_enumL a (s2.heap.objs.size + 1) s2.heap.objs.size 0, ⟨⟨.none, by rw [show (0 : Int) + ((0 : Nat) : Int) = 0 by omega]; exact he⟩, ⟨_, hit, rfl, rfl⟩, Nat.succ_ne_self _⟩, fun b hb => ?_, q⟩
      have e' : b = s2.heap.objs.size + 1 ∨ b = s2.heap.objs.size := by simpa using hb
      have hle : s2.heap.objs.size ≤ b := by
        rcases e' with z | z
        · rw [z]; exact Nat.le_add_right _ _
        · rw [z]; exact Nat.le_refl _
      exact I2.fpOk hle (I2.hok.fresh hle)
    · obtain ⟨its, rv, p', hz⟩ := I2.tuple hq
      refine enum_begins1 (begins_tuple a its.toArray) (show s2.heap.IsTuple a its.toArray from p') fun h' he hit hsz hk => wpAny_pyIter_enum he ?_
      have I3 : Inv X pins σ H2 { s2 with heap := h' } := I2.kept (t' := s2.toks) hk
      refine ⟨s2.heap.objs.size + 1, [s2.heap.objs.size + 1, s2.heap.objs.size], _, _, H2, rfl, I3, turn_enumT a (s2.heap.objs.size + 1) s2.heap.objs.size 0, ⟨⟨.none, by rw [show (0 : Int) + ((0 : Nat) : Int) = 0 by omega]; exact he⟩, ⟨_, hit, rfl, rfl⟩, Nat.succ_ne_self _⟩, fun b hb => ?_, q⟩
      have e' : b = s2.heap.objs.size + 1 ∨ b = s2.heap.objs.size := by simpa using hb
      have hle : s2.heap.objs.size ≤ b := by
        rcases e' with z | z
        · rw [z]; exact Nat.le_add_right _ _
        · rw [z]; exact Nat.le_refl _
      exact I2.fpOk hle (I2.hok.fresh hle)
end My

set_option Elab.async false
set_option linter.all false
set_option maxRecDepth 100000
namespace My
open PySem PySem.Spec PyProof.Rows L2 SX
abbrev sCheckEntries : Stmt := topS 42
theorem scCheckEntries : FnScope ["entries", "at", "value"] ["entries"] (defScope sCheckEntries) := ⟨rfl, rfl, rfl, by decide +kernel, rfl, by decide +kernel, by decide +kernel⟩
abbrev sMinutesText : Stmt := topS 43
theorem scMinutesText : FnScope ["entries", "entry"] ["entries"] (defScope sMinutesText) := ⟨rfl, rfl, rfl, by decide +kernel, rfl, by decide +kernel, by decide +kernel⟩
abbrev sReadMinutes : Stmt := topS 44
theorem scReadMinutes : FnScope ["text", "lines", "feeds", "found", "number", "line", "entry"] ["text"] (defScope sReadMinutes) := ⟨rfl, rfl, rfl, by decide +kernel, rfl, by decide +kernel, by decide +kernel⟩
theorem PI.or {X : Cx} {tg e : Expr} {w1 w2 : TI} (p1 : PI X tg e w1) (p2 : PI X tg e w2) : PI X tg e (fun σ H R => w1 σ H R ∨ w2 σ H R) := ⟨fun pins s σ H R I h => h.elim (fun h => p1.run pins s σ H R I h) (fun h => p2.run pins s σ H R I h)⟩
theorem pi_LT {X : Cx} {tg e : Expr} {te : TE} (h : PE X e te) : PI X tg e (fun σ H R => iList X.K te σ H R ∨ iTup X.K te σ H R) := PI.or (pi_list h) (pi_tup h)
def tEl (K : PySem.W.Frag) : TE := fun σ H Q => tJs [tFmt (tCall (spET K) [] E0 (tCons (tVar 1) tNil)), tC (.str "\n")] Str.empty σ H fun out H1 => Q (.str out) H1
/-! ### lines -/
def linesT (es : List Ent) : List Nat := (es.map fun e => entT e ++ [10]).flatten
def Oks (es : List Ent) : Prop := ∀ e ∈ es, e.ok
/-- a list or a tuple of entries -/
def SqE (K : PySem.W.Frag) (H : Hp) (a : Addr) (ts : List Addr) (es : List Ent) : Prop := (SqL K H a (ts.map V.ref) ∨ SqT K H a (ts.map V.ref)) ∧ Paired (EntAt H) ts es
theorem SqE.same {K : PySem.W.Frag} {H H' : Hp} {a : Addr} {ts : List Addr} {es : List Ent} (s : Same H H') (h : SqE K H a ts es) : SqE K H' a ts es := ⟨h.1.elim (fun h => .inl (s.seq h)) fun h => .inr (seqT_same s h), Paired.mapP h.2 fun _ _ y => y.same s⟩
abbrev good (c : Nat) : Prop := 32 ≤ c ∧ c ≤ 126
theorem words_good (L : List (List Nat)) (hL : (L.all fun l => l.all fun c => decide (32 ≤ c ∧ c ≤ 126)) = true) {l : List Nat} (hm : l ∈ L) : ∀ c ∈ l, good c := fun c hc => of_decide_eq_true (List.all_eq_true.mp (List.all_eq_true.mp hL l hm) c hc)
theorem part_good {k : Kd} {p : Part} (h : okP k p) {t : List Nat} (e : partT p = some t) : ∀ c ∈ t, good c := by
  cases p with
  | num n =>
    cases e
    intro c hc
    have := ntx_mem hc
    omega
  | word l =>
    cases e
    cases k with
    | name => intro c hc; have := Nm.lo h c hc; omega
    | reason => exact words_good REASONS (by decide +kernel) h
    | fin => exact words_good ENDS (by decide +kernel) h
    | sheet => exact words_good FAULTS (by decide +kernel) h
    | ballots => exact words_good FAULTS (by decide +kernel) h
    | shown => exact words_good FAULTS (by decide +kernel) h
    | _ => exact h.elim
  | nums r =>
    have e : (if r = [] then none else some (numsT r)) = some t := e
    split at e
    · cases e
    · cases e
      intro c hc
      have := numsT_mem hc
      omega
  | rows rs =>
    cases e
    intro c hc
    have := rowsT_mem hc
    omega
  | shown s u =>
    cases e
    have hu : ∀ c ∈ u, 32 ≤ c ∧ c ≤ 126 := by cases k <;> first | exact h.2.2 | exact h.elim
    intro c hc
    rcases List.mem_append.mp hc with hc | hc
    · have := ntx_mem hc
      omega
    · rcases List.mem_cons.mp hc with rfl | hc
      · omega
      · exact hu c hc
theorem step_good {k : Kd} {p : Part} (h : okP k p) : ∀ c ∈ stepT k p, good c := by
  intro c hc
  unfold stepT at hc
  rcases List.mem_append.mp hc with hc | hc
  · split at hc
    · simp at hc; omega
    · cases hc
  · cases e : partT p with
    | none => rw [e] at hc; cases hc
    | some t =>
      rw [e] at hc
      rcases List.mem_cons.mp hc with rfl | hc
      · omega
      · exact part_good h e c hc
theorem tail_good : ∀ {ks : List Kd} {ps : List Part}, okAll ks ps → ∀ c ∈ tailT ks ps, good c
  | [], [], _, c, hc => by cases hc
  | k :: ks, p :: ps, h, c, hc => by
    unfold tailT at hc
    rcases List.mem_append.mp hc with hc | hc
    · exact step_good h.1 c hc
    · exact tail_good h.2 c hc
  | [], _ :: _, h, _, _ => h.elim
  | _ :: _, [], h, _, _ => h.elim
theorem ent_good {e : Ent} (h : e.ok) : ∀ c ∈ entT e, good c := by
  intro c hc
  unfold entT at hc
  rcases List.mem_append.mp hc with hc | hc
  · have : ∀ w : Wd, ((wdT w).all fun c => decide (32 ≤ c ∧ c ≤ 126)) = true := by intro w; cases w <;> decide +kernel
    exact of_decide_eq_true (List.all_eq_true.mp (this e.w) c hc)
  · exact tail_good h c hc
theorem lines_split : ∀ {es : List Ent}, Oks es → TL.spl [10] 0 [] (linesT es) = es.map entT ++ [[]]
  | [], _ => by
    have := TL.spl_last1 (s := 10) (S := []) (p := []) (acc := []) (by simp)
    exact this
  | e :: es, h => by
    have ih := lines_split (es := es) fun x hx => h x (List.mem_cons_of_mem _ hx)
    have hn : 10 ∉ entT e := fun hc => by
      have := ent_good (h e List.mem_cons_self) 10 hc
      omega
    have e1 : linesT (e :: es) = entT e ++ ([10] ++ linesT es) := by simp [linesT]
    rw [e1, TL.spl_part1 hn, List.nil_append, ih]
    rfl
theorem join_nil : ∀ ls : List (List Nat), TL.joinL [] ls = ls.flatten
  | [] => rfl
  | [a] => by show a = _; simp
  | a :: b :: ls => by
    show a ++ ([] ++ TL.joinL [] (b :: ls)) = _
    rw [join_nil (b :: ls)]
    simp
theorem ent_len0 {e : Ent} (h : e.ok) : (entT e).length ≤ 8000 := by
  have := ent_len h (pat e.w).length
  rw [List.take_length, okAll_len h, List.take_length] at this
  exact this
theorem lines_len : ∀ {es : List Ent}, Oks es → (linesT es).length ≤ es.length * 8001
  | [], _ => by simp [linesT]
  | e :: es, h => by
    have ih := lines_len (es := es) fun x hx => h x (List.mem_cons_of_mem _ hx)
    have h1 := ent_len0 (h e List.mem_cons_self)
    have e1 : linesT (e :: es) = entT e ++ ([10] ++ linesT es) := by simp [linesT]
    rw [e1, List.length_append, List.length_append, List.length_cons (as := es), Nat.succ_mul]
    simp
    omega
theorem big_line {n : Nat} (h : n ≤ 200000) : n ≤ sizeLine := Nat.le_trans h (by decide +kernel)
theorem cut_toG {es : List V} {n : Nat} (h : n ≤ es.length) : cutV es none (some (n : Nat)) = es.take n := by
  unfold cutV
  rw [HT.sIx_nat, show HT.sIx es.length 0 none = 0 from HT.sIx_none _ _, Nat.min_eq_left h]
  simp
theorem EntAt.updL {H : Hp} {b : Addr} {l : List V} {o : HO} (hb : H b = some (.lst l)) {t : Addr} {e : Ent} (h : EntAt H t e) : EntAt (upd H b o) t e := by
  obtain ⟨vs, h1, h2⟩ := h
  refine ⟨vs, ?_, Paired.mapP h2 fun _ _ y => y.updL hb⟩
  rw [upd_ne (fun z => by rw [z, hb] at h1; cases h1)]
  exact h1
def spCE (K : PySem.W.Frag) : Sp := fun vs H Q _ => ∃ a ts es, vs = [.ref a] ∧ SqE K H a ts es ∧ Oks es ∧ es.length ≤ 20 ∧ ∀ H', Same H H' → Q .non H'
def spMT (K : PySem.W.Frag) : Sp := fun vs H Q _ => ∃ a ts es, vs = [.ref a] ∧ SqE K H a ts es ∧ Oks es ∧ es.length ≤ 20 ∧ ∀ H', Same H H' → Q (tx (linesT es)) H'
def spRM (K : PySem.W.Frag) : Sp := fun vs H Q _ => ∃ es, vs = [tx (linesT es)] ∧ Oks es ∧ es.length ≤ 20 ∧ ∀ a ts H', Same H H' → H a = none → H' a = some (.lst (ts.map V.ref)) → Paired (EntAt H') ts es → Q (.ref a) H'
section
variable {P : Program} {w : World} {K : PySem.W.Frag} {mg : Str → Option Value} {base : Heap}
theorem ok_check {f fE : Addr} {fd fdE : FuncData} (F : Fun K "check_entries" "check_entries" sCheckEntries f fd) (Ie : Cal P w K mg base "is_entry" 7 ["value"] (spHP K) fE fdE) (b_isinstance : mg "isinstance" = none) (b_list : mg "list" = none) (b_tuple : mg "tuple" = none) (b_enumerate : mg "enumerate" = none) : FnOk P w K mg base CX0 8 f fd ["entries"] (spCE K) := by
  refine F.ok scCheckEntries (fun vs H Q E h => ?_) (fun cdv A outer s H vs Q E hr h => ?_)
  · obtain ⟨a, ts, es, rfl, _⟩ := h
    rfl
  · obtain ⟨a, ts, es, rfl, hs, hok, hl, q⟩ := h
    refine ⟨_, (pss_cons (ps_if (pt_not (pt_val (pe_callB call_isiT rfl b_isinstance (by decide +kernel) (pa_cons (pv 0) (pa_cons (pe_tup (pa_cons (pe_ty "list" rfl b_list (by decide +kernel)) (pa_cons (pe_ty "tuple" rfl b_tuple (by decide +kernel)) pa_nil))) pa_nil))))) (pss_one ps_never) pss_nil)
      (pss_one (ps_for PassesOwn.never rfl (pi_enumU rfl b_enumerate (pa_cons (pv 0) pa_nil)) (pg_tup rfl (pgs_cons (pg_name (i := 1) scCheckEntries.nd rfl (.inl rfl)) (pgs_cons (pg_name (i := 2) scCheckEntries.nd rfl (.inl rfl)) pgs_nil)))
        (pss_one (ps_if (pt_not (pt_val (pe_call Ie.ok (hr.mono (by omega)) rfl Ie.g Ie.kp Ie.b .nil pass0 (pa_cons (pv 2) pa_nil)))) (pss_one ps_never) pss_nil))))), ?_⟩
    have s1 : ∀ {p}, H p = none → Same H (upd H p (.tup [.ty "list", .ty "tuple"])) := fun h => same_upd h
    have hlen := hs.2.length
    obtain ⟨T, tya, kt⟩ : ∃ T, (∀ H', Same H H' → TyX K H' (.ref a) (.type T)) ∧ PySem.W.kitAny K (.type T) [.type "list", .type "tuple"] = some true := by
      rcases hs.1 with h | h
      · exact ⟨"list", fun H' s => ty_list (s.seq h), kit_ll⟩
      · exact ⟨"tuple", fun H' s => ty_tup (seqT_same s h), kit_tl⟩
    refine ⟨_, rfl, (by show 2 ≤ sizeLine; decide), fun p np => ⟨_, p, _, _, _, _, rfl, upd_same, cls2, tya _ (s1 np), kt, _, rfl, iteF ?_⟩⟩
    have hs1 := hs.same (s1 np)
    have s1 := s1 np
    generalize upd H p (.tup [.ty "list", .ty "tuple"]) = H1 at s1 hs1 ⊢
    refine ⟨_, rfl, a, ts.map V.ref, rfl, ?_⟩
    rcases hs1.1 with hq | hq
    · refine .inl ⟨hq, for_it walk_enumS (fun i σ' G => ∃ b1 b2, σ' = [some (.ref a), b1, b2] ∧ Same H1 G) ⟨none, none, rfl, Same.refl _⟩ (fun i σ' G _ h => by obtain ⟨_, _, _, s⟩ := h; exact s.seq hq) ?_ ?_⟩
      · rintro i z' σ' G0 G hi ⟨b7, b8, rfl, sG⟩ ⟨T, x, y, rfl, nT, rfl, hx, hy⟩
        cases hx
        rw [List.length_map] at hi
        have er : es[i]? = some es[i] := List.getElem?_eq_getElem (by omega)
        obtain ⟨t, et, ht⟩ := paired_at hs1.2 er
        have hy : (ts.map V.ref)[i]? = some y := hy
        rw [List.getElem?_map, et] at hy
        cases hy
        exact ⟨T, _, rfl, SqT.of upd_same, rfl, _, _, rfl, _, _, rfl, rfl, _, rfl, t, _, rfl, hok _ (List.mem_of_getElem? er), ht.same (sG.trans (same_upd nT)), fun G3 s3 => ⟨_, rfl, iteF ⟨_, _, rfl, (sG.trans (same_upd nT)).trans s3⟩⟩⟩
      · rintro σ' G ⟨b7, b8, rfl, sG⟩
        exact q G (s1.trans sG)
    · refine .inr ⟨hq, for_it walk_enumS (fun i σ' G => ∃ b1 b2, σ' = [some (.ref a), b1, b2] ∧ Same H1 G) ⟨none, none, rfl, Same.refl _⟩ (fun i σ' G _ h => by obtain ⟨_, _, _, s⟩ := h; exact seqT_same s hq) ?_ ?_⟩
      · rintro i z' σ' G0 G hi ⟨b7, b8, rfl, sG⟩ ⟨T, x, y, rfl, nT, rfl, hx, hy⟩
        cases hx
        rw [List.length_map] at hi
        have er : es[i]? = some es[i] := List.getElem?_eq_getElem (by omega)
        obtain ⟨t, et, ht⟩ := paired_at hs1.2 er
        have hy : (ts.map V.ref)[i]? = some y := hy
        rw [List.getElem?_map, et] at hy
        cases hy
        exact ⟨T, _, rfl, SqT.of upd_same, rfl, _, _, rfl, _, _, rfl, rfl, _, rfl, t, _, rfl, hok _ (List.mem_of_getElem? er), ht.same (sG.trans (same_upd nT)), fun G3 s3 => ⟨_, rfl, iteF ⟨_, _, rfl, (sG.trans (same_upd nT)).trans s3⟩⟩⟩
      · rintro σ' G ⟨b7, b8, rfl, sG⟩
        exact q G (s1.trans sG)
theorem ok_mtext {f fC fE : Addr} {fd fdC fdE : FuncData} (F : Fun K "minutes_text" "minutes_text" sMinutesText f fd) (Ce : Cal P w K mg base "check_entries" 8 ["entries"] (spCE K) fC fdC) (Et : Cal P w K mg base "entry_text" 3 ["entry"] (spET K) fE fdE) : FnOk P w K mg base CX0 9 f fd ["entries"] (spMT K) := by
  refine F.ok scMinutesText (fun vs H Q E h => ?_) (fun cdv A outer s H vs Q E hr h => ?_)
  · obtain ⟨a, ts, es, rfl, _⟩ := h
    rfl
  · obtain ⟨a, ts, es, rfl, hs, hok, hl, q⟩ := h
    refine ⟨_, (pss_cons (ps_expr (pe_call Ce.ok (hr.mono (by omega)) rfl Ce.g Ce.kp Ce.b .nil pass0 (pa_cons (pv 0) pa_nil)))
      (pss_one (ps_ret (pe_join pe_str (pe_lc (own := [("entry", 1)]) (g := gName 1) (tt := tYes) (te := tEl K) rfl scMinutesText.nd (pi_LT (pv 0)) (blkOk_by (own := [("entry", 1)]) (N := ["entries", "entry"]) (sc := defScope sMinutesText) (by decide +kernel)) (fun _ _ _ _ _ => (pg_name (i := 1) scMinutesText.nd rfl (.inl rfl) (.inr rfl))) (fun _ _ _ _ _ => pts_nil) (fun _ _ _ _ _ => (pe_joined (PJ.cons (pe_fmt (pe_call Et.ok (hr.mono (by omega)) rfl Et.g Et.kp Et.b .nil pass0 (pa_cons (pv 1) pa_nil))) (PJ.cons pe_str PJ.nil))))))))), ?_⟩
    refine ⟨_, rfl, a, ts, es, rfl, hs, hok, hl, fun H1 s1 => ?_⟩
    have hs1 := hs.same s1
    have hlen := hs.2.length
    rcases hs1.1 with hq | hq
    · refine ⟨⟨_, rfl⟩, .inl ⟨_, rfl, a, rfl, ⟨_, hq⟩, fun D nD => lc_it walk_list (fun i G => Same H1 G ∧ G D = some (.lst ((es.take i).map fun e => tx (entT e ++ [10])))) ⟨same_upd nD, upd_same⟩ (fun i G _ h => h.1.seq hq) ?_ ?_⟩⟩
      · rintro i x G1 G hi ⟨sG, gD⟩ ⟨rfl, ex⟩
        rw [List.length_map] at hi
        have er : es[i]? = some es[i] := List.getElem?_eq_getElem (by omega)
        obtain ⟨t, et, ht⟩ := paired_at hs1.2 er
        rw [List.getElem?_map, et] at ex
        cases ex
        have hoke := hok _ (List.mem_of_getElem? er)
        have hle := ent_len0 hoke
        refine ⟨rfl, ?_⟩
        unfold tYes
        refine iteT ⟨_, rfl, t, _, rfl, hoke, ht.same sG, fun G3 s3 => .inl ⟨S (entT es[i]), rfl, line_of (by rw [S_len]; omega), S (entT es[i]), rfl, ?_, S [10], rfl, ?_, _, s3 _ _ gD, ?_, same_updF nD (sG.trans s3), ?_⟩⟩
        · rw [show (Str.empty : Str) = S [] from rfl, S_cat, S_len]
          exact line_of (by simp; omega)
        · rw [show (Str.empty : Str) = S [] from rfl, S_cat, S_cat, S_len]
          exact line_of (by simp; omega)
        · rw [List.length_map, List.length_take]
          exact small1000' (by omega)
        · rw [upd_same, take_snoc er, List.map_append, show (Str.empty : Str) = S [] from rfl, S_cat, S_cat]
          rfl
      · rintro G ⟨sG, gD⟩
        rw [List.length_map, hlen, List.take_length] at gD
        have hb := sum_txt (ls := es.map fun e => entT e ++ [10]) (m := 8001) fun l hl => by
          obtain ⟨e, he, rfl⟩ := List.mem_map.mp hl
          have := ent_len0 (hok e he)
          simp
          omega
        rw [List.length_map] at hb
        refine ⟨_, D, (es.map fun e => entT e ++ [10]).map S, rfl, rfl, .inl (SqL.of ?_), ?_, ?_⟩
        · rw [gD, List.map_map, List.map_map]
          rfl
        · rw [show ("" : Str).length = 0 from rfl]
          omega
        · rw [show ("" : Str) = S [] from rfl, join_S, join_nil]
          exact q G (s1.trans sG)
    · refine ⟨⟨_, rfl⟩, .inr ⟨_, rfl, a, rfl, ⟨_, hq⟩, fun D nD => lc_it walk_tup (fun i G => Same H1 G ∧ G D = some (.lst ((es.take i).map fun e => tx (entT e ++ [10])))) ⟨same_upd nD, upd_same⟩ (fun i G _ h => seqT_same h.1 hq) ?_ ?_⟩⟩
      · rintro i x G1 G hi ⟨sG, gD⟩ ⟨rfl, ex⟩
        rw [List.length_map] at hi
        have er : es[i]? = some es[i] := List.getElem?_eq_getElem (by omega)
        obtain ⟨t, et, ht⟩ := paired_at hs1.2 er
        rw [List.getElem?_map, et] at ex
        cases ex
        have hoke := hok _ (List.mem_of_getElem? er)
        have hle := ent_len0 hoke
        refine ⟨rfl, ?_⟩
        unfold tYes
        refine iteT ⟨_, rfl, t, _, rfl, hoke, ht.same sG, fun G3 s3 => .inl ⟨S (entT es[i]), rfl, line_of (by rw [S_len]; omega), S (entT es[i]), rfl, ?_, S [10], rfl, ?_, _, s3 _ _ gD, ?_, same_updF nD (sG.trans s3), ?_⟩⟩
        · rw [show (Str.empty : Str) = S [] from rfl, S_cat, S_len]
          exact line_of (by simp; omega)
        · rw [show (Str.empty : Str) = S [] from rfl, S_cat, S_cat, S_len]
          exact line_of (by simp; omega)
        · rw [List.length_map, List.length_take]
          exact small1000' (by omega)
        · rw [upd_same, take_snoc er, List.map_append, show (Str.empty : Str) = S [] from rfl, S_cat, S_cat]
          rfl
      · rintro G ⟨sG, gD⟩
        rw [List.length_map, hlen, List.take_length] at gD
        have hb := sum_txt (ls := es.map fun e => entT e ++ [10]) (m := 8001) fun l hl => by
          obtain ⟨e, he, rfl⟩ := List.mem_map.mp hl
          have := ent_len0 (hok e he)
          simp
          omega
        rw [List.length_map] at hb
        refine ⟨_, D, (es.map fun e => entT e ++ [10]).map S, rfl, rfl, .inl (SqL.of ?_), ?_, ?_⟩
        · rw [gD, List.map_map, List.map_map]
          rfl
        · rw [show ("" : Str).length = 0 from rfl]
          omega
        · rw [show ("" : Str) = S [] from rfl, join_S, join_nil]
          exact q G (s1.trans sG)
theorem ok_rmin {f fE : Addr} {fd fdE : FuncData} (F : Fun K "read_minutes" "read_minutes" sReadMinutes f fd) (Re : Cal P w K mg base "read_entry" 7 ["text"] (spRE K) fE fdE) (b_isinstance : mg "isinstance" = none) (b_str : mg "str" = none) (b_len : mg "len" = none) (b_enumerate : mg "enumerate" = none) : FnOk P w K mg base CX0 8 f fd ["text"] (spRM K) := by
  refine F.ok scReadMinutes (fun vs H Q E h => ?_) (fun cdv A outer s H vs Q E hr h => ?_)
  · obtain ⟨es, rfl, _⟩ := h
    rfl
  · obtain ⟨es, rfl, hok, hl, q⟩ := h
    refine ⟨_, (pss_cons (ps_if (pt_not (pt_val (pe_callB call_isi rfl b_isinstance (by decide +kernel) (pa_cons (pv 0) (pa_cons (pe_ty "str" rfl b_str (by decide +kernel)) pa_nil))))) (pss_one ps_never) pss_nil)
      (pss_cons (ps_set (i := 1) scReadMinutes.nd rfl (.inl rfl) (pe_m1 PySem.F.slot_str_split PySem.F.type_str_split mt_split (pv 0) pe_str))
      (pss_cons (ps_set (i := 2) scReadMinutes.nd rfl (.inl rfl) (pe_op op_sub (pe_callB call_len rfl b_len (by decide +kernel) (pa_cons (pv 1) pa_nil)) pe_int))
      (pss_cons (ps_set (i := 3) scReadMinutes.nd rfl (.inl rfl) (pe_lst pa_nil))
      (pss_cons (ps_for PassesOwn.never rfl (pi_enumU rfl b_enumerate (pa_cons (pe_slice sl_list (pv 1) po_none (po_some (pv 2))) pa_nil)) (pg_tup rfl (pgs_cons (pg_name (i := 4) scReadMinutes.nd rfl (.inl rfl)) (pgs_cons (pg_name (i := 5) scReadMinutes.nd rfl (.inl rfl)) pgs_nil)))
        (pss_cons (ps_set (i := 6) scReadMinutes.nd rfl (.inl rfl) (pe_call Re.ok (hr.mono (by omega)) rfl Re.g Re.kp Re.b .nil pass0 (pa_cons (pv 5) pa_nil)))
        (pss_cons (ps_if (pt_cmpR op_isN (pv 6) pe_non rfl) (pss_one ps_never) pss_nil)
        (pss_one (ps_expr (pe_bm PySem.F.plainAttrs_list PySem.F.slot_list_append PySem.F.type_list_append mt_append (pv 3) (pa_cons (pv 6) pa_nil)))))))
      (pss_cons (ps_if (pt_cmpR op_ne (pe_ix ix_list (pv 1) (pv 2) (fun _ _ => rfl)) pe_str rfl) (pss_one ps_never) pss_nil)
      (pss_one (ps_ret (pv 3))))))))), ?_⟩
    have hll := lines_len hok
    have hsp : Txt.split (S (linesT es)) (S [10]) = (es.map entT ++ [[]]).map S := by
      rw [← lines_split hok]
      exact split_S (b := [10]) (by simp) rfl
    refine ⟨_, rfl, _, _, _, _, _, rfl, .ty _, .base (.str _), rfl, _, rfl, iteF ⟨_, rfl, ⟨_, rfl⟩, S (linesT es), S [10], rfl, rfl, rfl, ?_, fun pw nw => ?_⟩⟩
    · rw [S_len]
      exact big_line (by omega)
    rw [hsp]
    have s1 : Same H (upd H pw (.lst (((es.map entT ++ [[]]).map S).map V.str))) := same_upd nw
    have hwr : (upd H pw (.lst (((es.map entT ++ [[]]).map S).map V.str))) pw = some (.lst (((es.map entT ++ [[]]).map S).map V.str)) := upd_same
    generalize upd H pw (.lst (((es.map entT ++ [[]]).map S).map V.str)) = H1 at s1 hwr ⊢
    have hw : SqL K H1 pw (((es.map entT ++ [[]]).map S).map V.str) := SqL.of hwr
    have hwl : (((es.map entT ++ [[]]).map S).map V.str).length = es.length + 1 := by simp
    refine ⟨_, rfl, _, _, rfl, .inl ⟨_, hw, rfl⟩, _, _, rfl, rfl, ?_⟩
    rw [hwl]
    have e1 : (fun i j : Int => V.int (i - j)) ((es.length + 1 : Nat) : Int) 1 = V.int ((es.length : Nat) : Int) := congrArg V.int (by omega)
    rw [e1]
    refine ⟨Nat.zero_le _, fun pf nf => ?_⟩
    have s2 : Same H1 (upd H1 pf (.lst [])) := same_upd nf
    have hw2 := s2.seq hw
    have hf2 : (upd H1 pf (.lst [])) pf = some (.lst []) := upd_same
    generalize upd H1 pf (.lst []) = H2 at s2 hw2 hf2 ⊢
    refine ⟨_, rfl, _, rfl, (es.length : Nat), rfl, pw, _, rfl, hw2, fun p np => ?_⟩
    rw [cut_toG (by rw [hwl]; omega)]
    have ecut : (((es.map entT ++ [[]]).map S).map V.str).take es.length = (es.map entT).map tx := by
      rw [List.map_append, List.map_append, List.take_append_of_le_length (by simp), List.take_of_length_le (by simp), List.map_map]
      rfl
    rw [ecut]
    have s3 : Same H2 (upd H2 p (.lst ((es.map entT).map tx))) := same_upd np
    have hp3 : (upd H2 p (.lst ((es.map entT).map tx))) p = some (.lst ((es.map entT).map tx)) := upd_same
    have hf3 := s3 _ _ hf2
    have npf : p ≠ pf := (ne_of_none hf2 np).symm
    have hw3 := s3.seq hw2
    have hpf : H pf = none := by
      cases hx : H pf with
      | none => rfl
      | some o => rw [s1 _ _ hx] at nf; cases nf
    have sH3 : Same H (upd H2 p (.lst ((es.map entT).map tx))) := s1.trans (s2.trans s3)
    have nwf : pw ≠ pf := ne_of_none hwr nf
    generalize upd H2 p (.lst ((es.map entT).map tx)) = H3 at s3 hp3 hf3 hw3 sH3 ⊢
    refine ⟨p, _, rfl, .inl ⟨SqL.of hp3, for_it walk_enumS (fun i σ' G => ∃ b4 b5 b6 ts, σ' = [some (tx (linesT es)), some (.ref pw), some (.int (es.length : Nat)), some (.ref pf), b4, b5, b6] ∧ But pf H3 G ∧ G pf = some (.lst ((ts : List Addr).map V.ref)) ∧ Paired (EntAt G) ts (es.take i)) ⟨none, none, none, [], rfl, But.refl, hf3, .nil⟩ (fun i σ' G _ h => by obtain ⟨_, _, _, _, _, s, _⟩ := h; exact SqL.of (s _ _ npf hp3)) ?_ ?_⟩⟩
    · rintro i z' σ' G0 G hi ⟨b4, b5, b6, ts, rfl, sG, gf, hts⟩ ⟨T, x, y, rfl, nT, rfl, hx, hy⟩
      cases hx
      rw [List.length_map, List.length_map] at hi
      have er : es[i]? = some es[i] := List.getElem?_eq_getElem hi
      have hy : ((es.map entT).map tx)[i]? = some y := hy
      rw [List.getElem?_map, List.getElem?_map, er] at hy
      cases hy
      have hoke := hok _ (List.mem_of_getElem? er)
      refine ⟨T, _, rfl, SqT.of upd_same, rfl, _, _, rfl, _, _, rfl, rfl, ?_⟩
      have sT : Same G0 (upd G0 T (.tup [.int (0 + (i : Nat)), tx (entT es[i])])) := same_upd nT
      have gf1 := sT _ _ gf
      have sG1 : But pf H3 (upd G0 T (.tup [.int (0 + (i : Nat)), tx (entT es[i])])) := sG.trans (But.of sT)
      have hts1 := Paired.mapP hts fun _ _ y => EntAt.same y sT
      refine ⟨_, rfl, es[i], rfl, hoke, fun t G3 s3 ht => ?_⟩
      have gf3 := s3 _ _ gf1
      refine ⟨_, rfl, rfl, _, rfl, iteFd rfl ⟨_, rfl, .inl ⟨rfl, _, SqL.of gf3⟩, _, rfl, pf, _, _, rfl, rfl, gf3, ?_, _, _, _, ts ++ [t], rfl, (sG1.trans (But.of s3)).trans But.upd, ?_, ?_⟩⟩
      · have := hts.length
        rw [List.length_take] at this
        rw [List.length_map]
        exact small1000' (by omega)
      · rw [upd_same, List.map_append]
        rfl
      · rw [take_snoc er]
        exact Paired.snoc (Paired.mapP hts1 fun _ _ y => (y.same s3).updL gf3) (ht.updL gf3)
    · rintro σ' G ⟨b4, b5, b6, ts, rfl, sG, gf, hts⟩
      rw [List.length_map, List.length_map, List.take_length] at hts
      have hget : (((es.map entT ++ [[]]).map S).map V.str)[es.length]? = some (V.str (S [])) := by simp
      refine ⟨_, rfl, _, rfl, pw, _, _, _, rfl, rfl, sG.seq nwf hw3, atI_nat hget, rfl, _, rfl, iteFd rfl ⟨_, rfl, q pf ts G (fun x o hx => sG _ _ (ne_of_none hx hpf) (sH3 _ _ hx)) hpf gf hts⟩⟩
end
end My

set_option Elab.async false
set_option linter.all false
set_option maxRecDepth 100000
namespace My
open PySem PySem.Spec PyProof.Rows L2 SX
abbrev sLawNumbersText : Stmt := topS 50
theorem scLawNumbersText : FnScope ["row", "one"] ["row"] (defScope sLawNumbersText) := ⟨rfl, rfl, rfl, by decide +kernel, rfl, by decide +kernel, by decide +kernel⟩
abbrev sLawEntryText : Stmt := topS 51
theorem scLawEntryText : FnScope ["entry", "one", "last", "head", "row"] ["entry"] (defScope sLawEntryText) := ⟨rfl, rfl, rfl, by decide +kernel, rfl, by decide +kernel, by decide +kernel⟩
abbrev sLawLined : Stmt := topS 52
theorem scLawLined : FnScope ["entries", "entry"] ["entries"] (defScope sLawLined) := ⟨rfl, rfl, rfl, by decide +kernel, rfl, by decide +kernel, by decide +kernel⟩
theorem cd_S (l : List Nat) : cd (S l) = l := by simp [cd]
theorem valT_tx (l : List Nat) : valT (tx l) = l := cd_S l
theorem words_short (L : List (List Nat)) (hL : (L.all fun l => decide (l.length ≤ 20)) = true) {t : List Nat} (hm : t ∈ L) : t.length ≤ 60 := by
  have := of_decide_eq_true (List.all_eq_true.mp hL t hm)
  omega
theorem short_val {k : Kd} {p : Part} (hk : isLong k = false) (h : okP k p) : valT (partV p) = stx p ∧ ValOk (partV p) ∧ ∀ H v, PartAt H v p → v = partV p := by
  cases k with
  | number =>
    cases p with
    | num n => exact ⟨rfl, by have : n ≤ 999999999 := h; exact ⟨by omega, by omega⟩, fun _ _ h => h⟩
    | _ => exact h.elim
  | name =>
    cases p with
    | word l => exact ⟨valT_tx l, by show (S l).length ≤ 60; rw [S_len]; have := Nm.le h; omega, fun _ _ h => h⟩
    | _ => exact h.elim
  | reason =>
    cases p with
    | word l => exact ⟨valT_tx l, by show (S l).length ≤ 60; rw [S_len]; exact words_short REASONS (by decide +kernel) h, fun _ _ h => h⟩
    | _ => exact h.elim
  | fin =>
    cases p with
    | word l => exact ⟨valT_tx l, by show (S l).length ≤ 60; rw [S_len]; exact words_short ENDS (by decide +kernel) h, fun _ _ h => h⟩
    | _ => exact h.elim
  | _ => exact absurd hk (by decide)
theorem short_vals {H : Hp} : ∀ {ks : List Kd} {ps : List Part} {vs : List V}, okAll ks ps → (∀ k ∈ ks, isLong k = false) → Paired (PartAt H) vs ps → vs = ps.map partV
  | [], [], _, _, _, .nil => rfl
  | k :: ks, p :: ps, _, h, hk, .cons h1 h2 => by
    rw [(short_val (hk k List.mem_cons_self) h.1).2.2 H _ h1, short_vals h.2 (fun z hz => hk z (List.mem_cons_of_mem _ hz)) h2]
    rfl
  | [], _ :: _, _, h, _, _ => h.elim
  | _ :: _, [], _, h, _, _ => h.elim
theorem short_txt : ∀ {ks : List Kd} {ps : List Part}, okAll ks ps → (∀ k ∈ ks, isLong k = false) → (ps.map partV).map valT = ps.map stx ∧ ∀ v ∈ ps.map partV, ValOk v
  | [], [], _, _ => ⟨rfl, fun v h => by cases h⟩
  | k :: ks, p :: ps, h, hk => by
    obtain ⟨h1, h2, _⟩ := short_val (hk k List.mem_cons_self) h.1
    obtain ⟨i1, i2⟩ := short_txt h.2 fun z hz => hk z (List.mem_cons_of_mem _ hz)
    refine ⟨by rw [List.map_cons, List.map_cons, i1, h1]; rfl, fun v hv => ?_⟩
    rcases List.mem_cons.mp hv with rfl | hv
    · exact h2
    · exact i2 v hv
  | [], _ :: _, h, _ => h.elim
  | _ :: _, [], h, _ => h.elim
theorem wd_ok (w : Wd) : ValOk (.str (wdS w)) := by cases w <;> (show _ ≤ 60; decide +kernel)
theorem in_short (w : Wd) : inV (.str (wdS w)) [.str "opened", .str "struck", .str "clash"] = (longK w).isNone := by cases w <;> decide +kernel
theorem paired_snoc_inv {α β : Type} {F : α → β → Prop} : ∀ {xs : List α} {ys : List β} {y : β}, Paired F xs (ys ++ [y]) → ∃ xs0 x, xs = xs0 ++ [x] ∧ Paired F xs0 ys ∧ F x y
  | _, [], y, .cons h .nil => ⟨[], _, rfl, .nil, h⟩
  | _, b :: ys, y, .cons h t => by
    obtain ⟨xs0, x, rfl, h1, h2⟩ := paired_snoc_inv t
    exact ⟨_ :: xs0, x, rfl, .cons h h1, h2⟩
section
variable {P : Program} {w : World} {K : PySem.W.Frag} {mg : Str → Option Value} {base : Heap}
theorem ok_lnums {f : Addr} {fd : FuncData} {k : Nat} (F : Fun K "_law_numbers_text" "_law_numbers_text" sLawNumbersText f fd) (b_str : mg "str" = none) : FnOk P w K mg base CX0 (k + 1) f fd ["row"] (spWT K) := by
  refine F.ok scLawNumbersText (fun vs H Q E h => ?_) (fun cdv A outer s H vs Q E hr h => ?_)
  · obtain ⟨a, xs, rfl, _⟩ := h
    rfl
  · obtain ⟨a, xs, rfl, hs, hl, hv, q⟩ := h
    refine ⟨_, (pss_one (ps_ret (pe_join pe_str (pe_lc (own := [("one", 1)]) (g := gName 1) (tt := tYes) (te := tCB rStr1 (tCons (tVar 1) tNil)) rfl scLawNumbersText.nd (pi_tup (pv 0)) (blkOk_by (own := [("one", 1)]) (N := ["row", "one"]) (sc := defScope sLawNumbersText) (by decide +kernel)) (fun _ _ _ _ _ => (pg_name (i := 1) scLawNumbersText.nd rfl (.inl rfl) (.inr rfl))) (fun _ _ _ _ _ => pts_nil) (fun _ _ _ _ _ => (pe_callTy call_str1 rfl b_str (by decide +kernel) (pa_cons (pv 1) pa_nil))))))), ?_⟩
    have hsX : SqT K H a xs := hs
    have hlX : (xs).length ≤ 60 := hl
    refine ⟨⟨_, rfl⟩, _, rfl, a, rfl, ⟨_, hsX⟩, fun D nD => lc_it walk_tup (fun i G => Same H G ∧ G D = some (.lst (((xs).take i).map fun x => tx (valT x)))) ⟨same_upd nD, upd_same⟩ (fun i G _ h => seqT_same h.1 hsX) ?_ ?_⟩
    · rintro i x G1 G hi ⟨sG, gD⟩ ⟨rfl, ex⟩
      refine ⟨rfl, ?_⟩
      unfold tYes
      have hx := hv x (List.mem_of_getElem? ex)
      have push : ∃ acc, G D = some (.lst acc) ∧ acc.length < sizeLine ∧ Same H (upd G D (.lst (acc ++ [tx (valT x)]))) ∧ (upd G D (.lst (acc ++ [tx (valT x)]))) D = some (.lst (((xs).take (i + 1)).map fun x => tx (valT x))) := by
        refine ⟨_, gD, ?_, same_updF nD sG, ?_⟩
        · rw [List.length_map, List.length_take]
          exact small1000' (by omega)
        · rw [upd_same, take_snoc ex, List.map_append]
          rfl
      refine iteT ⟨_, rfl, ?_⟩
      cases x with
      | int j =>
        refine .inl ⟨j, rfl, log9 hx, ?_⟩
        have e : V.str (toString j) = tx (ntx j) := congrArg V.str (int_text j)
        rw [e]
        exact push
      | str z =>
        refine .inr ⟨z, rfl, ?_⟩
        have e : V.str z = tx (cd z) := congrArg V.str (S_cd z).symm
        rw [e]
        exact push
      | _ => exact hx.elim
    · rintro G ⟨sG, gD⟩
      rw [List.take_length] at gD
      have hb := sum_txt (ls := (xs).map valT) (m := 60) fun l hl => by
        obtain ⟨x, hx, rfl⟩ := List.mem_map.mp hl
        exact valT_len (hv x hx)
      rw [List.length_map] at hb
      refine ⟨_, D, ((xs).map valT).map S, rfl, rfl, .inl (SqL.of ?_), ?_, ?_⟩
      · rw [gD, List.map_map, List.map_map]
        rfl
      · rw [List.length_map, List.length_map]
        have : (" " : Str).length = 1 := rfl
        rw [this]
        omega
      · rw [show (" " : Str) = S [32] from rfl, join_S]
        exact q G sG
theorem ok_letext {f fL : Addr} {fd fdL : FuncData} (F : Fun K "_law_entry_text" "_law_entry_text" sLawEntryText f fd) (Ln : Cal P w K mg base "_law_numbers_text" 1 ["row"] (spWT K) fL fdL) (b_str : mg "str" = none) (b_len : mg "len" = none) (b_isinstance : mg "isinstance" = none) : FnOk P w K mg base CX0 2 f fd ["entry"] (spET K) := by
  refine F.ok scLawEntryText (fun vs H Q E h => ?_) (fun cdv A outer s H vs Q E hr h => ?_)
  · obtain ⟨t, e, rfl, _⟩ := h
    rfl
  · obtain ⟨t, e, rfl, hok, hE, q⟩ := h
    refine ⟨_, (pss_cons (ps_if (pt_cmpR op_in_seq (pe_ix ix_tup (pv 0) pe_int (fun _ _ => rfl)) (pe_tup (pa_cons pe_str (pa_cons pe_str (pa_cons pe_str pa_nil)))) rfl) (pss_one (ps_ret (pe_join pe_str (pe_lc (own := [("one", 1)]) (g := gName 1) (tt := tYes) (te := tCB rStr1 (tCons (tVar 1) tNil)) rfl scLawEntryText.nd (pi_tup (pv 0)) (blkOk_by (own := [("one", 1)]) (N := ["entry", "one", "last", "head", "row"]) (sc := defScope sLawEntryText) (by decide +kernel)) (fun _ _ _ _ _ => (pg_name (i := 1) scLawEntryText.nd rfl (.inl rfl) (.inr rfl))) (fun _ _ _ _ _ => pts_nil) (fun _ _ _ _ _ => (pe_callTy call_str1 rfl b_str (by decide +kernel) (pa_cons (pv 1) pa_nil))))))) pss_nil)
      (pss_cons (ps_par (i := 2) (j := 3) rfl scLawEntryText.nd rfl rfl (by decide) rfl rfl (pa_cons (pe_ix ix_tup (pv 0) (pe_op op_sub (pe_callB call_len rfl b_len (by decide +kernel) (pa_cons (pv 0) pa_nil)) pe_int) (fun _ _ => rfl)) (pa_cons (pe_op op_add_str (pe_join pe_str (pe_lc (own := [("one", 1)]) (g := gName 1) (tt := tYes) (te := tCB rStr1 (tCons (tVar 1) tNil)) rfl scLawEntryText.nd (pi_tup (pe_slice sl_tup (pv 0) po_none (po_some (pe_op op_sub (pe_callB call_len rfl b_len (by decide +kernel) (pa_cons (pv 0) pa_nil)) pe_int)))) (blkOk_by (own := [("one", 1)]) (N := ["entry", "one", "last", "head", "row"]) (sc := defScope sLawEntryText) (by decide +kernel)) (fun _ _ _ _ _ => (pg_name (i := 1) scLawEntryText.nd rfl (.inl rfl) (.inr rfl))) (fun _ _ _ _ _ => pts_nil) (fun _ _ _ _ _ => (pe_callTy call_str1 rfl b_str (by decide +kernel) (pa_cons (pv 1) pa_nil))))) pe_str) pa_nil)) rfl)
      (pss_cons (ps_if (pt_val (pe_callB call_isi rfl b_isinstance (by decide +kernel) (pa_cons (pv 2) (pa_cons (pe_ty "str" rfl b_str (by decide +kernel)) pa_nil)))) (pss_one (ps_ret (pe_op op_add_str (pe_op op_add_str (pv 3) pe_str) (pv 2)))) pss_nil)
      (pss_cons (ps_if (pt_cmpR op_eq (pe_ix ix_tup (pv 0) pe_int (fun _ _ => rfl)) pe_str rfl) (pss_one (ps_ret (pe_op op_add_str (pe_op op_add_str (pe_op op_add_str (pe_op op_add_str (pv 3) pe_str) (pe_callTy call_str_int rfl b_str (by decide +kernel) (pa_cons (pe_ix ix_tup (pv 2) pe_int (fun _ _ => rfl)) pa_nil))) pe_str) (pe_ix ix_tup (pv 2) pe_int (fun _ _ => rfl))))) pss_nil)
      (pss_cons (ps_if (pt_cmpR op_in_seq (pe_ix ix_tup (pv 0) pe_int (fun _ _ => rfl)) (pe_tup (pa_cons pe_str (pa_cons pe_str pa_nil))) rfl) (pss_one (ps_ret (pe_op op_add_str (pe_op op_add_str (pv 3) pe_str) (pe_join pe_str (pe_lc (own := [("row", 4)]) (g := gName 4) (tt := tYes) (te := tCall (spWT K) [] E0 (tCons (tVar 4) tNil)) rfl scLawEntryText.nd (pi_tup (pv 2)) (blkOk_by (own := [("row", 4)]) (N := ["entry", "one", "last", "head", "row"]) (sc := defScope sLawEntryText) (by decide +kernel)) (fun _ _ _ _ _ => (pg_name (i := 4) scLawEntryText.nd rfl (.inl rfl) (.inr rfl))) (fun _ _ _ _ _ => pts_nil) (fun _ _ _ _ _ => (pe_call Ln.ok (hr.mono (by omega)) rfl Ln.g Ln.kp Ln.b .nil pass0 (pa_cons (pv 4) pa_nil)))))))) pss_nil)
      (pss_one (ps_ret (pe_op op_add_str (pv 3) (pe_ifExp (pt_cmpR (op_neD hr.units) (pv 2) (pe_tup pa_nil) rfl) (pe_op op_add_str pe_str (pe_call Ln.ok (hr.mono (by omega)) rfl Ln.g Ln.kp Ln.b .nil pass0 (pa_cons (pv 2) pa_nil))) pe_str))))))))), ?_⟩
    obtain ⟨ps0, h0, hcase⟩ := ent_parts hok
    obtain ⟨vs, ht, hvs⟩ := id hE
    have h0l := okAll_len h0
    have h0s := shorts_len e.w
    obtain ⟨stxt, sval⟩ := short_txt h0 fun k hk => shorts_short hk
    refine ⟨_, rfl, t, _, 0, _, rfl, rfl, SqT.of ht, atI_nat rfl, (by show 3 ≤ sizeLine; decide), fun z nz => ⟨z, _, rfl, .inr (SqT.of upd_same), rfl, rfl, ?_⟩⟩
    rw [if_neg (by decide), in_short]
    have s1 : Same H (upd H z (.tup [.str "opened", .str "struck", .str "clash"])) := same_upd nz
    have ht1 := s1 _ _ ht
    have hvs1 := Paired.mapP hvs fun _ _ y => PartAt.same s1 y
    generalize upd H z (.tup [.str "opened", .str "struck", .str "clash"]) = H1 at s1 ht1 hvs1 ⊢
    rcases hcase with ⟨hlk, hps, he⟩ | ⟨k, p, hlk, hkl, hps, hokp, he⟩
    · rw [hlk]
      rw [hps] at hvs1
      have ev := short_vals h0 (fun k hk => shorts_short hk) hvs1
      subst ev
      refine ⟨_, rfl, iteT ?_⟩
      have hall : ∀ x ∈ V.str (wdS e.w) :: ps0.map partV, ValOk x := fun x hx => by
        rcases List.mem_cons.mp hx with rfl | hx
        · exact wd_ok _
        · exact sval x hx
      have hsX : SqT K H1 t (V.str (wdS e.w) :: ps0.map partV) := (SqT.of ht1)
      have hlX : ((V.str (wdS e.w) :: ps0.map partV)).length ≤ 60 := (by simp; omega)
      refine ⟨⟨_, rfl⟩, _, rfl, t, rfl, ⟨_, hsX⟩, fun D nD => lc_it walk_tup (fun i G => Same H1 G ∧ G D = some (.lst ((((V.str (wdS e.w) :: ps0.map partV)).take i).map fun x => tx (valT x)))) ⟨same_upd nD, upd_same⟩ (fun i G _ h => seqT_same h.1 hsX) ?_ ?_⟩
      · rintro i x G1 G hi ⟨sG, gD⟩ ⟨rfl, ex⟩
        refine ⟨rfl, ?_⟩
        unfold tYes
        have hx := hall x (List.mem_of_getElem? ex)
        have push : ∃ acc, G D = some (.lst acc) ∧ acc.length < sizeLine ∧ Same H1 (upd G D (.lst (acc ++ [tx (valT x)]))) ∧ (upd G D (.lst (acc ++ [tx (valT x)]))) D = some (.lst ((((V.str (wdS e.w) :: ps0.map partV)).take (i + 1)).map fun x => tx (valT x))) := by
          refine ⟨_, gD, ?_, same_updF nD sG, ?_⟩
          · rw [List.length_map, List.length_take]
            exact small1000' (by omega)
          · rw [upd_same, take_snoc ex, List.map_append]
            rfl
        refine iteT ⟨_, rfl, ?_⟩
        cases x with
        | int j =>
          refine .inl ⟨j, rfl, log9 hx, ?_⟩
          have e : V.str (toString j) = tx (ntx j) := congrArg V.str (int_text j)
          rw [e]
          exact push
        | str z =>
          refine .inr ⟨z, rfl, ?_⟩
          have e : V.str z = tx (cd z) := congrArg V.str (S_cd z).symm
          rw [e]
          exact push
        | _ => exact hx.elim
      · rintro G ⟨sG, gD⟩
        rw [List.take_length] at gD
        have hb := sum_txt (ls := ((V.str (wdS e.w) :: ps0.map partV)).map valT) (m := 60) fun l hl => by
          obtain ⟨x, hx, rfl⟩ := List.mem_map.mp hl
          exact valT_len (hall x hx)
        rw [List.length_map] at hb
        refine ⟨_, D, (((V.str (wdS e.w) :: ps0.map partV)).map valT).map S, rfl, rfl, .inl (SqL.of ?_), ?_, ?_⟩
        · rw [gD, List.map_map, List.map_map]
          rfl
        · rw [List.length_map, List.length_map]
          have : (" " : Str).length = 1 := rfl
          rw [this]
          omega
        · rw [show (" " : Str) = S [32] from rfl, join_S]
          have e3 : TL.joinL [32] ((V.str (wdS e.w) :: ps0.map partV).map valT) = headT e.w ps0 := by rw [List.map_cons, stxt]; rfl
          rw [e3]
          have q2 := q G (s1.trans sG)
          rw [he] at q2
          exact q2
    · rw [hlk]
      rw [hps] at hvs1
      obtain ⟨vs0, v, rfl, hv0, hv⟩ := paired_snoc_inv hvs1
      have ev := short_vals h0 (fun k hk => shorts_short hk) hv0
      subst ev
      refine ⟨_, rfl, iteF ?_⟩
      have hlen : (V.str (wdS e.w) :: (ps0.map partV ++ [v])).length = (ps0.length + 1) + 1 := by simp
      have hlast : (V.str (wdS e.w) :: (ps0.map partV ++ [v]))[ps0.length + 1]? = some v := by simp
      refine ⟨_, rfl, _, rfl, _, _, rfl, .inr ⟨_, SqT.of ht1, rfl⟩, _, _, rfl, rfl, t, _, _, v, rfl, rfl, SqT.of ht1, ?_, ?_⟩
      · rw [hlen, show (((ps0.length + 1 + 1 : Nat) : Int) - 1) = ((ps0.length + 1 : Nat) : Int) by omega]
        exact atI_nat hlast
      refine ⟨⟨_, rfl⟩, _, rfl, _, rfl, _, _, rfl, .inr ⟨_, SqT.of ht1, rfl⟩, _, _, rfl, rfl, ((ps0.length + 1 : Nat) : Int), ?_, t, _, rfl, SqT.of ht1, ?_, fun pq nq => ?_⟩
      · show V.int _ = _
        rw [hlen]
        exact congrArg V.int (by omega)
      · rintro ⟨_, z⟩
        rw [show HT.sIx (V.str (wdS e.w) :: (ps0.map partV ++ [v])).length (V.str (wdS e.w) :: (ps0.map partV ++ [v])).length (some ((ps0.length + 1 : Nat) : Int)) = min (ps0.length + 1) (V.str (wdS e.w) :: (ps0.map partV ++ [v])).length from HT.sIx_nat _ _ _, hlen] at z
        omega
      have ecut : cutV (V.str (wdS e.w) :: (ps0.map partV ++ [v])) none (some ((ps0.length + 1 : Nat) : Int)) = V.str (wdS e.w) :: ps0.map partV := by
        rw [cut_toG (by rw [hlen]; omega), List.take_succ_cons, List.take_append_of_le_length (by simp), List.take_of_length_le (by simp)]
      rw [ecut]
      have s2 : Same H1 (upd H1 pq (.tup (V.str (wdS e.w) :: ps0.map partV))) := same_upd nq
      have hp2 : (upd H1 pq (.tup (V.str (wdS e.w) :: ps0.map partV))) pq = some (.tup (V.str (wdS e.w) :: ps0.map partV)) := upd_same
      have ht2 := s2 _ _ ht1
      have hv2 := hv.same s2
      generalize upd H1 pq (.tup (V.str (wdS e.w) :: ps0.map partV)) = H2 at s2 hp2 ht2 hv2 ⊢
      have hall : ∀ x ∈ V.str (wdS e.w) :: ps0.map partV, ValOk x := fun x hx => by
        rcases List.mem_cons.mp hx with rfl | hx
        · exact wd_ok _
        · exact sval x hx
      have hsX : SqT K H2 pq (V.str (wdS e.w) :: ps0.map partV) := (SqT.of hp2)
      have hlX : ((V.str (wdS e.w) :: ps0.map partV)).length ≤ 60 := (by simp; omega)
      refine ⟨pq, rfl, ⟨_, hsX⟩, fun D nD => lc_it walk_tup (fun i G => Same H2 G ∧ G D = some (.lst ((((V.str (wdS e.w) :: ps0.map partV)).take i).map fun x => tx (valT x)))) ⟨same_upd nD, upd_same⟩ (fun i G _ h => seqT_same h.1 hsX) ?_ ?_⟩
      · rintro i x G1 G hi ⟨sG, gD⟩ ⟨rfl, ex⟩
        refine ⟨rfl, ?_⟩
        unfold tYes
        have hx := hall x (List.mem_of_getElem? ex)
        have push : ∃ acc, G D = some (.lst acc) ∧ acc.length < sizeLine ∧ Same H2 (upd G D (.lst (acc ++ [tx (valT x)]))) ∧ (upd G D (.lst (acc ++ [tx (valT x)]))) D = some (.lst ((((V.str (wdS e.w) :: ps0.map partV)).take (i + 1)).map fun x => tx (valT x))) := by
          refine ⟨_, gD, ?_, same_updF nD sG, ?_⟩
          · rw [List.length_map, List.length_take]
            exact small1000' (by omega)
          · rw [upd_same, take_snoc ex, List.map_append]
            rfl
        refine iteT ⟨_, rfl, ?_⟩
        cases x with
        | int j =>
          refine .inl ⟨j, rfl, log9 hx, ?_⟩
          have e : V.str (toString j) = tx (ntx j) := congrArg V.str (int_text j)
          rw [e]
          exact push
        | str z =>
          refine .inr ⟨z, rfl, ?_⟩
          have e : V.str z = tx (cd z) := congrArg V.str (S_cd z).symm
          rw [e]
          exact push
        | _ => exact hx.elim
      · rintro G ⟨sG, gD⟩
        rw [List.take_length] at gD
        have hb := sum_txt (ls := ((V.str (wdS e.w) :: ps0.map partV)).map valT) (m := 60) fun l hl => by
          obtain ⟨x, hx, rfl⟩ := List.mem_map.mp hl
          exact valT_len (hall x hx)
        rw [List.length_map] at hb
        refine ⟨_, D, (((V.str (wdS e.w) :: ps0.map partV)).map valT).map S, rfl, rfl, .inl (SqL.of ?_), ?_, ?_⟩
        · rw [gD, List.map_map, List.map_map]
          rfl
        · rw [List.length_map, List.length_map]
          have : (" " : Str).length = 1 := rfl
          rw [this]
          omega
        · rw [show (" " : Str) = S [32] from rfl, join_S]
          have e3 : TL.joinL [32] ((V.str (wdS e.w) :: ps0.map partV).map valT) = headT e.w ps0 := by rw [List.map_cons, stxt]; rfl
          rw [e3]
          have hle := ent_len0 hok
          rw [he, List.length_append, List.length_append, show COL.length = 2 from rfl] at hle
          refine ⟨S (headT e.w ps0), S COL, rfl, rfl, line_of (by rw [S_len, S_len]; show _ + 2 ≤ _; omega), ?_⟩
          rw [S_cat]
          refine ⟨v, _, rfl, ?_⟩
          have ht3 := sG _ _ ht2
          have hv3 := hv2.same sG
          have sH := s1.trans (s2.trans sG)
          rw [he] at q
          have lh : (S (headT e.w ps0 ++ COL)).length + (S [32]).length ≤ 10000 := by rw [S_len, S_len, List.length_append]; show _ + 2 + 1 ≤ _; omega
          cases p with
          | num n => exact absurd hkl (by cases k <;> first | exact hokp.elim | decide)
          | word l =>
            have ev : v = tx l := hv3
            subst ev
            refine ⟨_, rfl, _, _, _, _, _, rfl, .ty _, .base (.str _), rfl, _, rfl, iteT ⟨_, rfl, _, _, rfl, rfl, line_of lh, ?_⟩⟩
            rw [S_cat]
            have hr : restT (.word l) = 32 :: l := rfl
            rw [hr] at hle q
            refine ⟨_, rfl, _, _, rfl, rfl, line_of ?_, ?_⟩
            · rw [S_len, S_len, List.length_append, List.length_append]
              simp at hle ⊢
              omega
            · rw [S_cat]
              have q2 := q G sH
              rw [show headT e.w ps0 ++ (COL ++ 32 :: l) = headT e.w ps0 ++ COL ++ [32] ++ l by simp] at q2
              exact q2
          | nums r =>
            obtain ⟨a, ea, ha⟩ := id hv3
            subst ea
            have hw : e.w = .which ∨ e.w = .told := by
              cases hw : e.w <;> rw [hw] at hlk <;> first | exact .inl rfl | exact .inr rfl | (cases hlk; exact hokp.elim) | cases hlk
            have hr : r.length ≤ 40 ∧ Sgd r := by
              cases k with
              | ballots => exact hokp
              | seats => exact ⟨by have := hokp.1; omega, fun x hx => by have := hokp.2 x hx; omega⟩
              | _ => exact hokp.elim
            refine ⟨_, rfl, _, _, _, _, _, rfl, .ty _, ty_tup (SqT.of ha), rfl, _, rfl, iteF ⟨_, rfl, t, _, 0, _, rfl, rfl, SqT.of ht3, atI_nat rfl, rfl, _, rfl, iteFd (by rcases hw with hw | hw <;> rw [hw] <;> decide +kernel) ?_⟩⟩
            refine ⟨_, rfl, t, _, 0, _, rfl, rfl, SqT.of ht3, atI_nat rfl, (by show 2 ≤ sizeLine; decide), fun z2 nz2 => ⟨z2, _, rfl, .inr (SqT.of upd_same), rfl, rfl, ?_⟩⟩
            rw [if_neg (by decide), show inV (.str (wdS e.w)) [.str "sheet", .str "taken"] = false by rcases hw with hw | hw <;> rw [hw] <;> decide +kernel]
            have s5 : Same G (upd G z2 (.tup [.str "sheet", .str "taken"])) := same_upd nz2
            have ha5 := s5 _ _ ha
            have hv5 : PartAt (upd G z2 (.tup [.str "sheet", .str "taken"])) (.ref a) (.nums r) := hv3.same s5
            generalize upd G z2 (.tup [.str "sheet", .str "taken"]) = G5 at s5 ha5 hv5 ⊢
            refine ⟨_, rfl, iteF ⟨_, rfl, _, rfl, Nat.zero_le _, fun z3 nz3 => ⟨_, _, dp_part (hv5.same (same_upd nz3)), .tup (SqT.of upd_same) .nil, shaped_part (ok_low hokp), by decide +kernel, ?_⟩⟩⟩
            have s6 : Same G5 (upd G5 z3 (.tup [])) := same_upd nz3
            have ha6 := s6 _ _ ha5
            generalize upd G5 z3 (.tup []) = G6 at s6 ha6 ⊢
            have sH6 := sH.trans (s5.trans s6)
            by_cases hrn : r = []
            · subst hrn
              have hr2 : restT (.nums []) = [] := rfl
              rw [hr2] at q
              refine ⟨_, rfl, iteFd (by rw [show PyData.eqv (pdP (.nums [])) (.tuple []) = true by simp [pdP, pdI, PyData.eqv, PyData.eqvAll]]; rfl) ⟨_, _, rfl, rfl, line_of (by show _ + 0 ≤ _; omega), ?_⟩⟩
              have q2 := q G6 sH6
              rw [List.append_nil] at q2
              rw [show (S (headT e.w ps0 ++ COL) ++ Str.ofString "") = S (headT e.w ps0 ++ COL) by rw [show Str.ofString "" = S [] from rfl, S_cat, List.append_nil]]
              exact q2
            · have hr2 : restT (.nums r) = 32 :: numsT r := by
                have e2 : partT (.nums r) = some (numsT r) := if_neg hrn
                unfold restT
                rw [e2]
              rw [hr2] at q hle
              have hln : (headT e.w ps0).length + 2 + ((numsT r).length + 1) ≤ 8000 := by simp at hle; omega
              refine ⟨_, rfl, iteTd (by rw [show PyData.eqv (pdP (.nums r)) (.tuple []) = false by
                cases r with
                | nil => exact absurd rfl hrn
                | cons x r => simp [pdP, pdI, PyData.eqv, PyData.eqvAll]]; rfl) ⟨_, rfl, a, _, rfl, SqT.of ha6, by rw [List.length_map]; omega, fun x hx => ?_, fun G7 s7 => ?_⟩⟩
              · obtain ⟨y, hy, rfl⟩ := List.mem_map.mp hx
                exact hr.2 y hy
              · rw [vals_ints]
                refine ⟨S [32], S (numsT r), rfl, rfl, line_of (by rw [S_len, S_len]; simp; omega), ?_⟩
                rw [S_cat]
                refine ⟨_, _, rfl, rfl, line_of (by rw [S_len, S_len]; simp; omega), ?_⟩
                rw [S_cat]
                have q2 := q G7 (sH6.trans s7)
                rw [show headT e.w ps0 ++ (COL ++ 32 :: numsT r) = headT e.w ps0 ++ COL ++ ([32] ++ numsT r) by simp] at q2
                exact q2
          | rows rs =>
            obtain ⟨a, ts, ea, ha, hts⟩ := id hv3
            subst ea
            have hw : e.w = .sheet ∨ e.w = .taken := by
              cases hw : e.w <;> rw [hw] at hlk <;> first | exact .inl rfl | exact .inr rfl | (cases hlk; exact hokp.elim) | cases hlk
            obtain ⟨r1, r2, r3⟩ := sgd_row hokp
            refine ⟨_, rfl, _, _, _, _, _, rfl, .ty _, ty_tup (SqT.of ha), rfl, _, rfl, iteF ⟨_, rfl, t, _, 0, _, rfl, rfl, SqT.of ht3, atI_nat rfl, rfl, _, rfl, iteFd (by rcases hw with hw | hw <;> rw [hw] <;> decide +kernel) ?_⟩⟩
            refine ⟨_, rfl, t, _, 0, _, rfl, rfl, SqT.of ht3, atI_nat rfl, (by show 2 ≤ sizeLine; decide), fun z2 nz2 => ⟨z2, _, rfl, .inr (SqT.of upd_same), rfl, rfl, ?_⟩⟩
            rw [if_neg (by decide), show inV (.str (wdS e.w)) [.str "sheet", .str "taken"] = true by rcases hw with hw | hw <;> rw [hw] <;> decide +kernel]
            have s5 : Same G (upd G z2 (.tup [.str "sheet", .str "taken"])) := same_upd nz2
            have ha5 := s5 _ _ ha
            have hts5 := Paired.mapP hts fun t r e => s5 _ _ e
            generalize upd G z2 (.tup [.str "sheet", .str "taken"]) = G5 at s5 ha5 hts5 ⊢
            refine ⟨_, rfl, iteT ⟨_, rfl, _, _, rfl, rfl, line_of lh, ?_⟩⟩
            rw [S_cat]
            have htl := hts5.length
            have hr2 : restT (.rows rs) = 32 :: rowsT rs := rfl
            rw [hr2] at q hle
            have hln : (headT e.w ps0).length + 2 + ((rowsT rs).length + 1) ≤ 8000 := by simp at hle; omega
            refine ⟨⟨_, rfl⟩, _, rfl, a, rfl, ⟨_, SqT.of ha5⟩, fun D nD => lc_it walk_tup (fun i G => Same G5 G ∧ G D = some (.lst ((rs.take i).map fun r => tx (numsT r)))) ⟨same_upd nD, upd_same⟩ (fun i G _ h => SqT.of (h.1 _ _ ha5)) ?_ ?_⟩
            · rintro i x G1 G hi ⟨sG, gD⟩ ⟨rfl, ex⟩
              rw [List.length_map] at hi
              have er : rs[i]? = some rs[i] := List.getElem?_eq_getElem (by omega)
              obtain ⟨ta, ea, hta⟩ := paired_at hts5 er
              rw [List.getElem?_map, ea] at ex
              cases ex
              obtain ⟨p1, p2, p3⟩ := r3 _ (List.mem_of_getElem? er)
              refine ⟨rfl, ?_⟩
              unfold tYes
              refine iteT ⟨_, rfl, ta, _, rfl, SqT.of (sG _ _ hta), by rw [List.length_map]; omega, fun x hx => ?_, fun G3 s3 => ?_⟩
              · obtain ⟨y, hy, rfl⟩ := List.mem_map.mp hx
                exact p3 y hy
              · rw [vals_ints]
                refine ⟨_, s3 _ _ gD, ?_, same_updF nD (sG.trans s3), ?_⟩
                · rw [List.length_map, List.length_take]
                  exact small1000' (by omega)
                · rw [upd_same, take_snoc er, List.map_append]
                  rfl
            · rintro G ⟨sG, gD⟩
              rw [List.length_map, htl, List.take_length] at gD
              have hb := sum_txt (ls := rs.map numsT) (m := 110) fun l hl => by
                obtain ⟨r, hr, rfl⟩ := List.mem_map.mp hl
                have := numsT_len (r3 r hr).2.2
                have := (r3 r hr).2.1
                omega
              rw [List.length_map] at hb
              refine ⟨_, D, (rs.map numsT).map S, rfl, rfl, .inl (SqL.of ?_), ?_, ?_⟩
              · rw [gD, List.map_map, List.map_map]
                rfl
              · rw [List.length_map, List.length_map]
                have : (" / " : Str).length = 3 := rfl
                rw [this]
                omega
              · rw [show (" / " : Str) = S SEP from rfl, join_S]
                refine ⟨_, _, rfl, rfl, line_of ?_, ?_⟩
                · rw [S_len, S_len]
                  show _ + (rowsT rs).length ≤ _
                  simp
                  omega
                · rw [S_cat]
                  have q2 := q G (sH.trans (s5.trans sG))
                  rw [show headT e.w ps0 ++ (COL ++ 32 :: rowsT rs) = headT e.w ps0 ++ COL ++ [32] ++ rowsT rs by simp] at q2
                  exact q2
          | shown n u =>
            obtain ⟨a, ea, ha⟩ := id hv3
            subst ea
            have hw : e.w = .show := by
              cases hw : e.w <;> rw [hw] at hlk <;> first | rfl | (cases hlk; exact hokp.elim) | cases hlk
            have hk2 : n ≤ 9999 ∧ u.length ≤ 60 := by cases k <;> first | exact ⟨hokp.1, hokp.2.1⟩ | exact hokp.elim
            have hr : restT (.shown n u) = 32 :: (ntx (n : Nat) ++ 32 :: u) := rfl
            rw [hr] at hle q
            have hl9 := ntx_len (x := (n : Nat)) (by omega)
            have lb : (headT e.w ps0).length ≤ 8000 := by omega
            refine ⟨_, rfl, _, _, _, _, _, rfl, .ty _, ty_tup (SqT.of ha), rfl, _, rfl, iteF ⟨_, rfl, t, _, 0, _, rfl, rfl, SqT.of ht3, atI_nat rfl, rfl, _, rfl, iteTd (by rw [hw]; decide +kernel) ⟨_, rfl, _, _, rfl, rfl, line_of lh, ?_⟩⟩⟩
            rw [S_cat]
            refine ⟨_, rfl, a, _, 0, _, rfl, rfl, SqT.of ha, atI_nat rfl, (n : Nat), rfl, log9 (by omega), ?_⟩
            have es : V.str (toString ((n : Nat) : Int)) = tx (ntx (n : Nat)) := congrArg V.str (int_text _)
            rw [es]
            refine ⟨_, _, rfl, rfl, line_of (by rw [S_len, S_len]; simp; omega), ?_⟩
            rw [S_cat]
            refine ⟨_, _, rfl, rfl, line_of (by rw [S_len, S_len]; simp; omega), ?_⟩
            rw [S_cat]
            refine ⟨_, rfl, a, _, 1, _, rfl, rfl, SqT.of ha, atI_nat rfl, _, _, rfl, rfl, line_of (by rw [S_len, S_len]; simp; omega), ?_⟩
            rw [S_cat]
            have q2 := q G sH
            rw [show headT e.w ps0 ++ (COL ++ 32 :: (ntx (n : Nat) ++ 32 :: u)) = headT e.w ps0 ++ COL ++ [32] ++ ntx (n : Nat) ++ [32] ++ u by simp] at q2
            exact q2
end
end My

set_option Elab.async false
set_option linter.all false
set_option maxRecDepth 100000
namespace My
open PySem PySem.Spec PyProof.Rows L2 SX
abbrev sLawSmall : Stmt := topS 53
theorem scLawSmall : FnScope ["bag"] ["bag"] (defScope sLawSmall) := ⟨rfl, rfl, rfl, by decide +kernel, rfl, by decide +kernel, by decide +kernel⟩
abbrev sLawSigned : Stmt := topS 54
theorem scLawSigned : FnScope ["bag", "number"] ["bag"] (defScope sLawSigned) := ⟨rfl, rfl, rfl, by decide +kernel, rfl, by decide +kernel, by decide +kernel⟩
abbrev sLawAnyText : Stmt := topS 55
theorem scLawAnyText : FnScope ["bag", "signs", "size", "k"] ["bag"] (defScope sLawAnyText) := ⟨rfl, rfl, rfl, by decide +kernel, rfl, by decide +kernel, by decide +kernel⟩
abbrev sLawAnyName : Stmt := topS 56
theorem scLawAnyName : FnScope ["bag", "k"] ["bag"] (defScope sLawAnyName) := ⟨rfl, rfl, rfl, by decide +kernel, rfl, by decide +kernel, by decide +kernel⟩
def rCat : R2 := fun x y H Q => ∃ i j, x = .str i ∧ y = .str j ∧ i.length + j.length ≤ sizeLine ∧ Q (.str (i ++ j)) H
theorem BagC.ne {K : PySem.W.Frag} {H : Hp} {b c L : Addr} {ns : List Int} (h : BagC K H b c ns) (n : H L = none) : L ≠ b := by
  obtain ⟨i, g, x, m, B⟩ := h
  exact (ne_of_none B.ob n).symm
theorem BagC.new {K : PySem.W.Frag} {H : Hp} {b c L : Addr} {ns : List Int} {o : HO} (h : BagC K H b c ns) (n : H L = none) : BagC K (L2.upd H L o) b c ns := h.same (same_upd n)
theorem But.new {b L : Addr} {H : Hp} {o : HO} (n : H L = none) : But b H (L2.upd H L o) := But.of (same_upd n)
theorem But.updF {b L : Addr} {H G : Hp} {o : HO} (h : But b H G) (n : H L = none) : But b H (L2.upd G L o) := fun p u hp hu => by
  rw [upd_ne (ne_of_none hu n)]
  exact h p u hp hu
/-- a list or a text -/
def SeqV (K : PySem.W.Frag) (H : Hp) (b : Addr) (t : V) (xs : List V) : Prop := (∃ a, t = .ref a ∧ a ≠ b ∧ SqL K H a xs) ∨ (∃ l : List Nat, t = tx l ∧ xs = l.map fun c => tx [c])
def spOfC (K : PySem.W.Frag) : Sp := fun vs H Q _ => ∃ (b : Addr) (t : V) (c : Addr) (ns : List Int) (xs : List V), vs = [.ref b, t] ∧ BagC K H b c ns ∧ SeqV K H b t xs ∧ 0 < xs.length ∧ xs.length < 1000 ∧ ∀ v H', v ∈ xs → BagC K H' b c ns → But b H H' → Q v H'
/-- a def of the bag alone that gives what R says -/
def spBagR (K : PySem.W.Frag) (R : Hp → V → Prop) : Sp := fun vs H Q _ => ∃ (b c : Addr) (ns : List Int), vs = [.ref b] ∧ BagC K H b c ns ∧ ∀ v H', R H' v → BagC K H' b c ns → But b H H' → Q v H'
def RInt (lo hi : Int) : Hp → V → Prop := fun _ v => ∃ i, v = .int i ∧ lo ≤ i ∧ i ≤ hi
def RTxt : Hp → V → Prop := fun _ v => ∃ l, v = tx l ∧ l.length ≤ 60 ∧ ∀ c ∈ l, good c
def RNm : Hp → V → Prop := fun _ v => ∃ l, v = tx l ∧ Nm l
abbrev SIGNS : Str := " !\"#$&'()*+,-./0123456789:;<=>?@ABCDEFGHIJKLMNOPQRSTUVWXYZ[\\]^_`abcdefghijklmnopqrstuvwxyz{|}~"
abbrev ABC : Str := "abcdefghijklmnopqrstuvwxyz"
theorem signs_good : ∀ c ∈ cd SIGNS, good c := by
  have : ((cd SIGNS).all fun c => decide (32 ≤ c ∧ c ≤ 126)) = true := by decide +kernel
  exact fun c hc => of_decide_eq_true (List.all_eq_true.mp this c hc)
theorem abc_low : ∀ c ∈ cd ABC, 97 ≤ c ∧ c ≤ 122 := by
  have : ((cd ABC).all fun c => decide (97 ≤ c ∧ c ≤ 122)) = true := by decide +kernel
  exact fun c hc => of_decide_eq_true (List.all_eq_true.mp this c hc)
theorem flat_one {R : Nat → Prop} : ∀ {ls : List (List Nat)}, (∀ l ∈ ls, ∃ c, l = [c] ∧ R c) → ls.flatten.length = ls.length ∧ ∀ c ∈ ls.flatten, R c
  | [], _ => ⟨rfl, fun c h => by cases h⟩
  | l :: ls, h => by
    obtain ⟨c, rfl, hc⟩ := h l List.mem_cons_self
    obtain ⟨h1, h2⟩ := flat_one (ls := ls) fun x hx => h x (List.mem_cons_of_mem _ hx)
    refine ⟨by simp [h1], fun d hd => ?_⟩
    rw [List.flatten_cons] at hd
    rcases List.mem_append.mp hd with hd | hd
    · rw [List.mem_singleton.mp hd]; exact hc
    · exact h2 d hd
theorem len_one {R : Nat → Prop} {ls : List (List Nat)} (h : ∀ l ∈ ls, ∃ c, l = [c] ∧ R c) : ((ls.map S).map (·.length)).sum ≤ ls.length := by
  have := sum_txt (ls := ls) (m := 1) fun l hl => by
    obtain ⟨c, rfl, _⟩ := h l hl
    simp
  omega
section
variable {P : Program} {w : World} {K : PySem.W.Frag} {mg : Str → Option Value} {base : Heap}
theorem ok_ofC {f fD : Addr} {fd fdD : FuncData} {k : Nat} (F : Fun K "_law_of" "_law_of" sLawOf f fd) (D : Cal P w K mg base "_law_draw" (k + 1) ["bag", "many"] (spDrawC K) fD fdD) (b_len : mg "len" = none) : FnOk P w K mg base CX0 (k + 2) f fd ["bag", "things"] (spOfC K) := by
  refine F.ok scLawOf (fun vs H Q E h => ?_) (fun cdv A outer s H vs Q E hr h => ?_)
  · obtain ⟨b, t, c, ns, xs, rfl, _⟩ := h
    rfl
  · obtain ⟨b, t, c, ns, xs, rfl, B, hs, h0, h1, q⟩ := h
    refine ⟨_, (pss_one (ps_ret (pe_ix ix_seq (pv 1) (pe_call D.ok (hr.mono (by omega)) rfl D.g D.kp D.b .nil pass0 (pa_cons (pv 0) (pa_cons (pe_callB call_len rfl b_len (by decide +kernel) (pa_cons (pv 1) pa_nil)) pa_nil))) (fun _ _ => rfl)))), ?_⟩
    rcases hs with ⟨a, rfl, n, hs⟩ | ⟨l, rfl, rfl⟩
    · refine ⟨_, rfl, _, rfl, _, rfl, _, _, rfl, .inl ⟨_, hs, rfl⟩, b, _, c, ns, rfl, B, by omega, by omega, fun r H' r0 r1 B' t => ?_⟩
      obtain ⟨j, rfl⟩ : ∃ j : Nat, r = (j : Int) := ⟨r.toNat, by omega⟩
      have hj : j < xs.length := by omega
      exact .inl ⟨a, _, _, xs[j], rfl, rfl, t.seq n hs, atI_nat (List.getElem?_eq_getElem hj), q _ H' (List.getElem_mem hj) B' t⟩
    · rw [List.length_map] at h0 h1
      refine ⟨_, rfl, _, rfl, _, rfl, _, _, rfl, ⟨line_of (by rw [S_len]; omega), rfl⟩, b, _, c, ns, rfl, B, by rw [S_len]; omega, by rw [S_len]; omega, fun r H' r0 r1 B' t => ?_⟩
      rw [S_len] at r1
      obtain ⟨j, rfl⟩ : ∃ j : Nat, r = (j : Int) := ⟨r.toNat, by omega⟩
      have hj : j < l.length := by omega
      refine .inr (.inr ⟨S l, _, l[j], rfl, rfl, line_of (by rw [S_len]; omega), ?_, ?_⟩)
      · have : (S l).cps.toList = l := by simp
        rw [this]
        exact atI_nat (List.getElem?_eq_getElem hj)
      · exact q _ H' (List.mem_map.mpr ⟨l[j], List.getElem_mem hj, rfl⟩) B' t
theorem ok_small {f fD fO : Addr} {fd fdD fdO : FuncData} (F : Fun K "_law_small" "_law_small" sLawSmall f fd) (D : Cal P w K mg base "_law_draw" 1 ["bag", "many"] (spDrawC K) fD fdD) (O : Cal P w K mg base "_law_of" 2 ["bag", "things"] (spOfC K) fO fdO) : FnOk P w K mg base CX0 3 f fd ["bag"] (spBagR K (RInt 0 999999999)) := by
  refine F.ok scLawSmall (fun vs H Q E h => ?_) (fun cdv A outer s H vs Q E hr h => ?_)
  · obtain ⟨b, c, ns, rfl, _⟩ := h
    rfl
  · obtain ⟨b, c, ns, rfl, B, q⟩ := h
    refine ⟨_, (pss_one (ps_ret (pe_call O.ok (hr.mono (by omega)) rfl O.g O.kp O.b .nil pass0 (pa_cons (pv 0) (pa_cons (pe_lst (pa_cons pe_int (pa_cons pe_int (pa_cons pe_int (pa_cons pe_int (pa_cons pe_int (pa_cons (pe_call D.ok (hr.mono (by omega)) rfl D.g D.kp D.b .nil pass0 (pa_cons (pv 0) (pa_cons pe_int pa_nil))) (pa_cons (pe_call D.ok (hr.mono (by omega)) rfl D.g D.kp D.b .nil pass0 (pa_cons (pv 0) (pa_cons (pe_op op_powG pe_int pe_int) pa_nil))) (pa_cons pe_int pa_nil))))))))) pa_nil))))), ?_⟩
    refine ⟨_, rfl, _, rfl, b, 40, c, ns, rfl, B, by decide, by decide, fun x H1 x0 x1 B1 t1 => ⟨_, rfl, _, _, rfl, rfl, ⟨by decide, by decide +kernel⟩, b, _, c, ns, rfl, B1, ?_, ?_, fun y H2 y0 y1 B2 t2 => ⟨by show 8 ≤ sizeLine; decide, fun L nL => ?_⟩⟩⟩
    · decide
    · decide
    · have y1 : y < 1000000000 := Int.lt_of_lt_of_le y1 (by decide)
      refine ⟨b, _, c, ns, _, rfl, B2.new nL, .inl ⟨L, rfl, B2.ne nL, SqL.of upd_same⟩, by show 0 < 8; decide, by show 8 < 1000; decide, fun v H' hv B' t => q v H' ?_ B' (t1.trans (t2.trans ((But.new nL).trans t)))⟩
      have big : ∀ i : Int, 0 ≤ i → i ≤ 999999999 → RInt 0 999999999 H' (.int i) := fun i h1 h2 => ⟨i, rfl, h1, h2⟩
      simp only [List.mem_cons, List.not_mem_nil, or_false] at hv
      rcases hv with rfl | rfl | rfl | rfl | rfl | rfl | rfl | rfl <;> exact big _ (by omega) (by omega)
theorem ok_signed {f fS fO : Addr} {fd fdS fdO : FuncData} (F : Fun K "_law_signed" "_law_signed" sLawSigned f fd) (Sm : Cal P w K mg base "_law_small" 3 ["bag"] (spBagR K (RInt 0 999999999)) fS fdS) (O : Cal P w K mg base "_law_of" 2 ["bag", "things"] (spOfC K) fO fdO) : FnOk P w K mg base CX0 4 f fd ["bag"] (spBagR K (RInt (-999999999) 999999999)) := by
  refine F.ok scLawSigned (fun vs H Q E h => ?_) (fun cdv A outer s H vs Q E hr h => ?_)
  · obtain ⟨b, c, ns, rfl, _⟩ := h
    rfl
  · obtain ⟨b, c, ns, rfl, B, q⟩ := h
    refine ⟨_, (pss_cons (ps_set (i := 1) scLawSigned.nd rfl (.inl rfl) (pe_call Sm.ok (hr.mono (by omega)) rfl Sm.g Sm.kp Sm.b .nil pass0 (pa_cons (pv 0) pa_nil)))
      (pss_one (ps_ret (pe_call O.ok (hr.mono (by omega)) rfl O.g O.kp O.b .nil pass0 (pa_cons (pv 0) (pa_cons (pe_lst (pa_cons (pv 1) (pa_cons (pv 1) (pa_cons (pe_op op_sub pe_int (pv 1)) pa_nil)))) pa_nil)))))), ?_⟩
    refine ⟨_, rfl, b, c, ns, rfl, B, fun v H1 ⟨x, ev, x0, x1⟩ B1 t1 => ?_⟩
    subst ev
    refine ⟨_, rfl, _, rfl, _, rfl, _, rfl, _, _, rfl, rfl, (by show 3 ≤ sizeLine; decide), fun L nL => ?_⟩
    refine ⟨b, _, c, ns, _, rfl, B1.new nL, .inl ⟨L, rfl, B1.ne nL, SqL.of upd_same⟩, by show 0 < 3; decide, by show 3 < 1000; decide, fun v H' hv B' t => q v H' ?_ B' (t1.trans ((But.new nL).trans t))⟩
    have big : ∀ i : Int, -999999999 ≤ i → i ≤ 999999999 → RInt (-999999999) 999999999 H' (.int i) := fun i h1 h2 => ⟨i, rfl, h1, h2⟩
    simp only [List.mem_cons, List.not_mem_nil, or_false] at hv
    rcases hv with rfl | rfl | rfl
    · exact big _ (by omega) (by omega)
    · exact big _ (by omega) (by omega)
    · exact big (0 - x) (by omega) (by omega)
theorem ok_text {f fD fO : Addr} {fd fdD fdO : FuncData} (F : Fun K "_law_any_text" "_law_any_text" sLawAnyText f fd) (D : Cal P w K mg base "_law_draw" 1 ["bag", "many"] (spDrawC K) fD fdD) (O : Cal P w K mg base "_law_of" 2 ["bag", "things"] (spOfC K) fO fdO) (b_range : mg "range" = none) : FnOk P w K mg base CX0 3 f fd ["bag"] (spBagR K RTxt) := by
  refine F.ok scLawAnyText (fun vs H Q E h => ?_) (fun cdv A outer s H vs Q E hr h => ?_)
  · obtain ⟨b, c, ns, rfl, _⟩ := h
    rfl
  · obtain ⟨b, c, ns, rfl, B, q⟩ := h
    refine ⟨_, (pss_cons (ps_set (i := 1) scLawAnyText.nd rfl (.inr rfl) pe_str)
      (pss_cons (ps_set (i := 2) scLawAnyText.nd rfl (.inl rfl) (pe_call O.ok (hr.mono (by omega)) rfl O.g O.kp O.b .nil pass0 (pa_cons (pv 0) (pa_cons (pe_lst (pa_cons pe_int (pa_cons pe_int (pa_cons pe_int (pa_cons pe_int (pa_cons (pe_call D.ok (hr.mono (by omega)) rfl D.g D.kp D.b .nil pass0 (pa_cons (pv 0) (pa_cons pe_int pa_nil))) (pa_cons (pe_call D.ok (hr.mono (by omega)) rfl D.g D.kp D.b .nil pass0 (pa_cons (pv 0) (pa_cons pe_int pa_nil))) (pa_cons pe_int pa_nil)))))))) pa_nil))))
      (pss_one (ps_ret (pe_join pe_str (pe_lc (own := [("k", 3)]) (g := gName 3) (tt := tYes) (te := tCall (spOfC K) [] E0 (tCons (tVar 0) (tCons (tVar 1) tNil))) rfl scLawAnyText.nd (pi_range1 rfl b_range (pa_cons (pv 2) pa_nil)) (blkOk_by (own := [("k", 3)]) (N := ["bag", "signs", "size", "k"]) (sc := defScope sLawAnyText) (by decide +kernel)) (fun _ _ _ _ _ => (pg_name (i := 3) scLawAnyText.nd rfl (.inl rfl) (.inr rfl))) (fun _ _ _ _ _ => pts_nil) (fun _ _ _ _ _ => (pe_call O.ok (hr.mono (by omega)) rfl O.g O.kp O.b .nil pass0 (pa_cons (pv 0) (pa_cons (pv 1) pa_nil)))))))))), ?_⟩
    refine ⟨_, rfl, _, rfl, b, 12, c, ns, rfl, B, by decide, by decide, fun x H1 x0 x1 B1 t1 => ⟨_, rfl, b, 61, c, ns, rfl, B1, by decide, by decide, fun y H2 y0 y1 B2 t2 => ⟨by show 7 ≤ sizeLine; decide, fun L nL => ?_⟩⟩⟩
    refine ⟨b, _, c, ns, _, rfl, B2.new nL, .inl ⟨L, rfl, B2.ne nL, SqL.of upd_same⟩, by show 0 < 7; decide, by show 7 < 1000; decide, fun v H3 hv B3 t3 => ?_⟩
    have tH : But b H H3 := t1.trans (t2.trans ((But.new nL).trans t3))
    obtain ⟨n, rfl, hn⟩ : ∃ n : Nat, v = .int n ∧ n ≤ 60 := by
      simp only [List.mem_cons, List.not_mem_nil, or_false] at hv
      have mk : ∀ i : Int, 0 ≤ i → i ≤ 60 → ∃ n : Nat, V.int i = .int n ∧ n ≤ 60 := fun i h1 h2 => ⟨i.toNat, congrArg V.int (by omega), by omega⟩
      rcases hv with rfl | rfl | rfl | rfl | rfl | rfl | rfl <;> exact mk _ (by omega) (by omega)
    refine ⟨⟨_, rfl⟩, _, rfl, ?_⟩
    refine ⟨(n : Nat), rfl, by omega, by omega, fun D nD => lc_it (walk_range (lo := 0)) (fun i G => But b H3 G ∧ BagC K G b c ns ∧ ∃ ls : List (List Nat), G D = some (.lst (ls.map tx)) ∧ ls.length = i ∧ ∀ l ∈ ls, ∃ c, l = [c] ∧ good c) ⟨But.new nD, B3.new nD, [], upd_same, rfl, fun l h => by cases h⟩ (fun _ _ _ _ => trivial) ?_ ?_⟩
    · rintro i x G1 G hi ⟨sG, BG, ls, gD, hls, hch⟩ ⟨rfl, rfl⟩
      refine ⟨rfl, ?_⟩
      unfold tYes
      have nDb := B3.ne nD
      refine iteT ⟨_, rfl, _, rfl, b, _, c, ns, _, rfl, BG, .inr ⟨cd SIGNS, congrArg V.str (S_cd _).symm, rfl⟩, by show 0 < _; decide +kernel, by decide +kernel, fun v G2 hv B2 t2 => ?_⟩
      obtain ⟨ch, hc, rfl⟩ := List.mem_map.mp hv
      have gD2 := t2 _ _ nDb gD
      refine ⟨_, gD2, ?_, (sG.trans t2).updF nD, B2.upd (B3.off nD) nDb, ls ++ [[ch]], ?_, by simp [hls], fun l hl => ?_⟩
      · rw [List.length_map]
        exact small1000' (by omega)
      · rw [upd_same, List.map_append]
        rfl
      · rcases List.mem_append.mp hl with hl | hl
        · exact hch l hl
        · exact ⟨ch, List.mem_singleton.mp hl, signs_good ch hc⟩
    · rintro G ⟨sG, BG, ls, gD, hls, hch⟩
      obtain ⟨f1, f2⟩ := flat_one hch
      have hb := len_one hch
      refine ⟨_, D, ls.map S, rfl, rfl, .inl (SqL.of ?_), ?_, ?_⟩
      · rw [gD, List.map_map]
        rfl
      · rw [show ("" : Str).length = 0 from rfl]
        omega
      · rw [show ("" : Str) = S [] from rfl, join_S, join_nil]
        exact q _ G ⟨_, rfl, by omega, f2⟩ BG (tH.trans sG)
theorem ok_nm {f fD fO : Addr} {fd fdD fdO : FuncData} (F : Fun K "_law_any_name" "_law_any_name" sLawAnyName f fd) (D : Cal P w K mg base "_law_draw" 1 ["bag", "many"] (spDrawC K) fD fdD) (O : Cal P w K mg base "_law_of" 2 ["bag", "things"] (spOfC K) fO fdO) (b_range : mg "range" = none) : FnOk P w K mg base CX0 3 f fd ["bag"] (spBagR K RNm) := by
  refine F.ok scLawAnyName (fun vs H Q E h => ?_) (fun cdv A outer s H vs Q E hr h => ?_)
  · obtain ⟨b, c, ns, rfl, _⟩ := h
    rfl
  · obtain ⟨b, c, ns, rfl, B, q⟩ := h
    refine ⟨_, (pss_one (ps_ret (pe_join pe_str (pe_lc (own := [("k", 1)]) (g := gName 1) (tt := tYes) (te := tCall (spOfC K) [] E0 (tCons (tVar 0) (tCons (tC (.str "abcdefghijklmnopqrstuvwxyz")) tNil))) rfl scLawAnyName.nd (pi_range1 rfl b_range (pa_cons (pe_op op_add pe_int (pe_call D.ok (hr.mono (by omega)) rfl D.g D.kp D.b .nil pass0 (pa_cons (pv 0) (pa_cons pe_int pa_nil)))) pa_nil)) (blkOk_by (own := [("k", 1)]) (N := ["bag", "k"]) (sc := defScope sLawAnyName) (by decide +kernel)) (fun _ _ _ _ _ => (pg_name (i := 1) scLawAnyName.nd rfl (.inl rfl) (.inr rfl))) (fun _ _ _ _ _ => pts_nil) (fun _ _ _ _ _ => (pe_call O.ok (hr.mono (by omega)) rfl O.g O.kp O.b .nil pass0 (pa_cons (pv 0) (pa_cons pe_str pa_nil)))))))), ?_⟩
    refine ⟨⟨_, rfl⟩, _, rfl, b, 8, c, ns, rfl, B, by decide, by decide, fun x H1 x0 x1 B1 t1 => ?_⟩
    obtain ⟨n, rfl⟩ : ∃ n : Nat, x = n := ⟨x.toNat, by omega⟩
    refine ⟨_, _, rfl, rfl, ?_⟩
    rw [show (fun i j : Int => V.int (i + j)) 1 (n : Nat) = V.int ((n + 1 : Nat) : Int) from congrArg V.int (by omega)]
    refine ⟨((n + 1 : Nat) : Int), rfl, by omega, by omega, fun D nD => lc_it (walk_range (lo := 0)) (fun i G => But b H1 G ∧ BagC K G b c ns ∧ ∃ ls : List (List Nat), G D = some (.lst (ls.map tx)) ∧ ls.length = i ∧ ∀ l ∈ ls, ∃ c, l = [c] ∧ (fun c => 97 ≤ c ∧ c ≤ 122) c) ⟨But.new nD, B1.new nD, [], upd_same, rfl, fun l h => by cases h⟩ (fun _ _ _ _ => trivial) ?_ ?_⟩
    · rintro i x G1 G hi ⟨sG, BG, ls, gD, hls, hch⟩ ⟨rfl, rfl⟩
      refine ⟨rfl, ?_⟩
      unfold tYes
      have nDb := B1.ne nD
      refine iteT ⟨_, rfl, b, _, c, ns, _, rfl, BG, .inr ⟨cd ABC, congrArg V.str (S_cd _).symm, rfl⟩, by show 0 < _; decide +kernel, by decide +kernel, fun v G2 hv B2 t2 => ?_⟩
      obtain ⟨ch, hc, rfl⟩ := List.mem_map.mp hv
      have gD2 := t2 _ _ nDb gD
      refine ⟨_, gD2, ?_, (sG.trans t2).updF nD, B2.upd (B1.off nD) nDb, ls ++ [[ch]], ?_, by simp [hls], fun l hl => ?_⟩
      · rw [List.length_map]
        exact small1000' (by omega)
      · rw [upd_same, List.map_append]
        rfl
      · rcases List.mem_append.mp hl with hl | hl
        · exact hch l hl
        · exact ⟨ch, List.mem_singleton.mp hl, abc_low ch hc⟩
    · rintro G ⟨sG, BG, ls, gD, hls, hch⟩
      obtain ⟨f1, f2⟩ := flat_one hch
      have hb := len_one hch
      refine ⟨_, D, ls.map S, rfl, rfl, .inl (SqL.of ?_), ?_, ?_⟩
      · rw [gD, List.map_map]
        rfl
      · rw [show ("" : Str).length = 0 from rfl]
        omega
      · rw [show ("" : Str) = S [] from rfl, join_S, join_nil]
        exact q _ G ⟨_, rfl, ⟨fun z => by rw [z] at f1; simp at f1; omega, by omega, f2⟩⟩ BG (t1.trans sG)
end
end My

set_option Elab.async false
set_option linter.all false
set_option maxRecDepth 100000
namespace My
open PySem PySem.Spec PyProof.Rows L2 SX
abbrev sLawAnyRows : Stmt := topS 57
theorem scLawAnyRows : FnScope ["bag", "signed", "found", "k", "j"] ["bag", "signed"] (defScope sLawAnyRows) := ⟨rfl, rfl, rfl, by decide +kernel, rfl, by decide +kernel, by decide +kernel⟩
def spLined (K : PySem.W.Frag) : Sp := fun vs H Q _ => ∃ a ts es, vs = [.ref a] ∧ SqL K H a (ts.map V.ref) ∧ Paired (EntAt H) ts es ∧ Oks es ∧ es.length ≤ 20 ∧ ∀ H', Same H H' → Q (tx (linesT es)) H'
/-- rows as drawn -/
def RRows (sg : Bool) : Hp → V → Prop := fun H v => ∃ rs, PartAt H v (.rows rs) ∧ (if sg = true then RowsOk Sgd rs else RowsOk Uns rs)
def spRows (K : PySem.W.Frag) : Sp := fun vs H Q _ => ∃ (b c : Addr) (ns : List Int) (sg : Bool), vs = [.ref b, .bl sg] ∧ BagC K H b c ns ∧ ∀ v H', RRows sg H' v → BagC K H' b c ns → But b H H' → Q v H'
def bd (sg : Bool) (x : Int) : Prop := (if sg = true then -999999999 else 0) ≤ x ∧ x ≤ 999999999
theorem BagC.tup {K : PySem.W.Frag} {H H' : Hp} {b c t : Addr} {ns : List Int} {xs : List V} (B : BagC K H b c ns) (h : But b H H') (e : H t = some (.tup xs)) : H' t = some (.tup xs) := by
  obtain ⟨i, g, x, m, B⟩ := B
  exact h _ _ (fun z => by rw [z, B.ob] at e; cases e) e
theorem rows_ok {sg : Bool} {rs : List (List Int)} (h0 : rs ≠ []) (h1 : rs.length ≤ 3) (h : ∀ r ∈ rs, r ≠ [] ∧ r.length ≤ 4 ∧ ∀ x ∈ r, bd sg x) : if sg = true then RowsOk Sgd rs else RowsOk Uns rs := by
  cases sg with
  | true => exact ⟨h0, by omega, fun r hr => ⟨(h r hr).1, by have := (h r hr).2.1; omega, fun x hx => (h r hr).2.2 x hx⟩⟩
  | false => exact ⟨h0, by omega, fun r hr => ⟨(h r hr).1, by have := (h r hr).2.1; omega, fun x hx => (h r hr).2.2 x hx⟩⟩
section
variable {P : Program} {w : World} {K : PySem.W.Frag} {mg : Str → Option Value} {base : Heap}
theorem ok_lined {f fE : Addr} {fd fdE : FuncData} (F : Fun K "_law_lined" "_law_lined" sLawLined f fd) (Le : Cal P w K mg base "_law_entry_text" 2 ["entry"] (spET K) fE fdE) : FnOk P w K mg base CX0 3 f fd ["entries"] (spLined K) := by
  refine F.ok scLawLined (fun vs H Q E h => ?_) (fun cdv A outer s H vs Q E hr h => ?_)
  · obtain ⟨a, ts, es, rfl, _⟩ := h
    rfl
  · obtain ⟨a, ts, es, rfl, hq, hpr, hok, hl, q⟩ := h
    refine ⟨_, (pss_one (ps_ret (pe_join pe_str (pe_lc (own := [("entry", 1)]) (g := gName 1) (tt := tYes) (te := tOp rCat (tCall (spET K) [] E0 (tCons (tVar 1) tNil)) (tC (.str "\n"))) rfl scLawLined.nd (pi_list (pv 0)) (blkOk_by (own := [("entry", 1)]) (N := ["entries", "entry"]) (sc := defScope sLawLined) (by decide +kernel)) (fun _ _ _ _ _ => (pg_name (i := 1) scLawLined.nd rfl (.inl rfl) (.inr rfl))) (fun _ _ _ _ _ => pts_nil) (fun _ _ _ _ _ => (pe_op op_add_str (pe_call Le.ok (hr.mono (by omega)) rfl Le.g Le.kp Le.b .nil pass0 (pa_cons (pv 1) pa_nil)) pe_str)))))), ?_⟩
    have hlen := hpr.length
    refine ⟨⟨_, rfl⟩, _, rfl, a, rfl, ⟨_, hq⟩, fun D nD => lc_it walk_list (fun i G => Same H G ∧ G D = some (.lst ((es.take i).map fun e => tx (entT e ++ [10])))) ⟨same_upd nD, upd_same⟩ (fun i G _ h => h.1.seq hq) ?_ ?_⟩
    · rintro i x G1 G hi ⟨sG, gD⟩ ⟨rfl, ex⟩
      rw [List.length_map] at hi
      have er : es[i]? = some es[i] := List.getElem?_eq_getElem (by omega)
      obtain ⟨t, et, ht⟩ := paired_at hpr er
      rw [List.getElem?_map, et] at ex
      cases ex
      have hoke := hok _ (List.mem_of_getElem? er)
      have hle := ent_len0 hoke
      refine ⟨rfl, ?_⟩
      unfold tYes
      refine iteT ⟨_, rfl, t, _, rfl, hoke, ht.same sG, fun G3 s3 => ⟨S (entT es[i]), S [10], rfl, rfl, ?_, _, s3 _ _ gD, ?_, same_updF nD (sG.trans s3), ?_⟩⟩
      · rw [S_len, S_len]
        exact line_of (by show _ + 1 ≤ _; omega)
      · rw [List.length_map, List.length_take]
        exact small1000' (by omega)
      · rw [upd_same, take_snoc er, List.map_append, S_cat]
        rfl
    · rintro G ⟨sG, gD⟩
      rw [List.length_map, hlen, List.take_length] at gD
      have hb := sum_txt (ls := es.map fun e => entT e ++ [10]) (m := 8001) fun l hl => by
        obtain ⟨e, he, rfl⟩ := List.mem_map.mp hl
        have := ent_len0 (hok e he)
        simp
        omega
      rw [List.length_map] at hb
      refine ⟨_, D, (es.map fun e => entT e ++ [10]).map S, rfl, rfl, .inl (SqL.of ?_), ?_, ?_⟩
      · rw [gD, List.map_map, List.map_map]
        rfl
      · rw [show ("" : Str).length = 0 from rfl]
        omega
      · rw [show ("" : Str) = S [] from rfl, join_S, join_nil]
        exact q G sG
theorem ok_rows {f fD fO fS fG : Addr} {fd fdD fdO fdS fdG : FuncData} (F : Fun K "_law_any_rows" "_law_any_rows" sLawAnyRows f fd) (D : Cal P w K mg base "_law_draw" 1 ["bag", "many"] (spDrawC K) fD fdD) (O : Cal P w K mg base "_law_of" 2 ["bag", "things"] (spOfC K) fO fdO) (Sm : Cal P w K mg base "_law_small" 3 ["bag"] (spBagR K (RInt 0 999999999)) fS fdS) (Sg : Cal P w K mg base "_law_signed" 4 ["bag"] (spBagR K (RInt (-999999999) 999999999)) fG fdG) (b_range : mg "range" = none) (b_tuple : mg "tuple" = none) : FnOk P w K mg base CX0 5 f fd ["bag", "signed"] (spRows K) := by
  refine F.ok scLawAnyRows (fun vs H Q E h => ?_) (fun cdv A outer s H vs Q E hr h => ?_)
  · obtain ⟨b, c, ns, sg, rfl, _⟩ := h
    rfl
  · obtain ⟨b, c, ns, sg, rfl, B, q⟩ := h
    refine ⟨_, (pss_cons (ps_set (i := 2) scLawAnyRows.nd rfl (.inl rfl) (pe_lst pa_nil))
      (pss_cons (ps_for PassesOwn.never rfl (pi_range1 rfl b_range (pa_cons (pe_call O.ok (hr.mono (by omega)) rfl O.g O.kp O.b .nil pass0 (pa_cons (pv 0) (pa_cons (pe_lst (pa_cons pe_int (pa_cons pe_int (pa_cons pe_int (pa_cons pe_int pa_nil))))) pa_nil))) pa_nil)) (pg_name (i := 3) scLawAnyRows.nd rfl (.inl rfl))
        (pss_one (ps_expr (pe_bm PySem.F.plainAttrs_list PySem.F.slot_list_append PySem.F.type_list_append mt_append (pv 2) (pa_cons (pe_callTy call_tuple_of rfl b_tuple (by decide +kernel) (pa_cons (pe_lc (own := [("j", 4)]) (g := gName 4) (tt := tYes) (te := tIf (tB (tVar 1)) (tCall (spBagR K (RInt (-999999999) 999999999)) [] E0 (tCons (tVar 0) tNil)) (tCall (spBagR K (RInt 0 999999999)) [] E0 (tCons (tVar 0) tNil))) rfl scLawAnyRows.nd (pi_range1 rfl b_range (pa_cons (pe_op op_add pe_int (pe_call D.ok (hr.mono (by omega)) rfl D.g D.kp D.b .nil pass0 (pa_cons (pv 0) (pa_cons pe_int pa_nil)))) pa_nil)) (blkOk_by (own := [("j", 4)]) (N := ["bag", "signed", "found", "k", "j"]) (sc := defScope sLawAnyRows) (by decide +kernel)) (fun _ _ _ _ _ => (pg_name (i := 4) scLawAnyRows.nd rfl (.inl rfl) (.inr rfl))) (fun _ _ _ _ _ => pts_nil) (fun _ _ _ _ _ => (pe_ifExp (pt_val (pv 1)) (pe_call Sg.ok (hr.mono (by omega)) rfl Sg.g Sg.kp Sg.b .nil pass0 (pa_cons (pv 0) pa_nil)) (pe_call Sm.ok (hr.mono (by omega)) rfl Sm.g Sm.kp Sm.b .nil pass0 (pa_cons (pv 0) pa_nil))))) pa_nil)) pa_nil)))))
      (pss_one (ps_ret (pe_callTy call_tuple_of rfl b_tuple (by decide +kernel) (pa_cons (pv 2) pa_nil)))))), ?_⟩
    refine ⟨Nat.zero_le _, fun Fd nF => ?_⟩
    have B0 := B.new (o := .lst []) nF
    have nFb := B.ne nF
    have offF := B.off nF
    have tF : But b H (upd H Fd (.lst [])) := But.new nF
    have gF0 : (upd H Fd (.lst [])) Fd = some (.lst []) := upd_same
    generalize upd H Fd (.lst []) = H1 at B0 tF gF0 ⊢
    refine ⟨_, rfl, (by show 4 ≤ sizeLine; decide), fun L nL => ⟨b, _, c, ns, _, rfl, B0.new nL, .inl ⟨L, rfl, B0.ne nL, SqL.of upd_same⟩, by show 0 < 4; decide, by show 4 < 1000; decide, fun v H2 hv B2 t2 => ?_⟩⟩
    have gF2 : H2 Fd = some (.lst []) := t2 _ _ nFb (same_upd nL _ _ gF0)
    have tH2 : But b H H2 := tF.trans ((But.new nL).trans t2)
    obtain ⟨n, rfl, hn0, hn⟩ : ∃ n : Nat, v = .int n ∧ 0 < n ∧ n ≤ 3 := by
      simp only [List.mem_cons, List.not_mem_nil, or_false] at hv
      rcases hv with rfl | rfl | rfl | rfl
      · exact ⟨1, rfl, by decide, by decide⟩
      · exact ⟨1, rfl, by decide, by decide⟩
      · exact ⟨2, rfl, by decide, by decide⟩
      · exact ⟨3, rfl, by decide, by decide⟩
    refine ⟨(n : Nat), rfl, by omega, by omega, for_it (walk_range (lo := 0)) (fun i σ' G => ∃ x3, σ' = [some (.ref b), some (.bl sg), some (.ref Fd), x3, none] ∧ But b H G ∧ BagC K G b c ns ∧ ∃ (ts : List Addr) (rs : List (List Int)), G Fd = some (.lst (ts.map V.ref)) ∧ Paired (fun t r => G t = some (.tup (intsI r))) ts rs ∧ rs.length = i ∧ ∀ r ∈ rs, r ≠ [] ∧ r.length ≤ 4 ∧ ∀ x ∈ r, bd sg x) ⟨none, rfl, tH2, B2, [], [], gF2, .nil, rfl, fun r hr => by cases hr⟩ (fun _ _ _ _ _ => trivial) ?_ ?_⟩
    · rintro i z' σ' G0 G hi ⟨x3, rfl, tG, BG, ts, rs, gF, hts, hrl, hrs⟩ ⟨rfl, rfl⟩
      refine ⟨_, rfl, .inl ⟨rfl, _, SqL.of gF⟩, _, rfl, b, 4, c, ns, rfl, BG, by decide, by decide, fun x G1 x0 x1 B1 t1 => ?_⟩
      have gF1 := t1 _ _ nFb gF
      have hts1 := Paired.mapP hts fun _ _ y => BG.tup t1 y
      obtain ⟨m, rfl⟩ : ∃ m : Nat, x = m := ⟨x.toNat, by omega⟩
      refine ⟨_, _, rfl, rfl, ?_⟩
      rw [show (fun i j : Int => V.int (i + j)) 1 (m : Nat) = V.int ((m + 1 : Nat) : Int) from congrArg V.int (by omega)]
      refine ⟨((m + 1 : Nat) : Int), rfl, by omega, by omega, fun D nD => lc_it (walk_range (lo := 0)) (fun j G2 => But b G1 G2 ∧ BagC K G2 b c ns ∧ ∃ r : List Int, G2 D = some (.lst (intsI r)) ∧ r.length = j ∧ ∀ x ∈ r, bd sg x) ⟨But.new nD, B1.new nD, [], upd_same, rfl, fun l h => by cases h⟩ (fun _ _ _ _ => trivial) ?_ ?_⟩
      · rintro j x G3 G2 hj ⟨sG, BG2, r, gD, hrl, hr⟩ ⟨rfl, rfl⟩
        refine ⟨rfl, ?_⟩
        unfold tYes
        have nDb := B1.ne nD
        have key : ∀ (v : V) (G4 : Hp), RInt (if sg = true then -999999999 else 0) 999999999 G4 v → BagC K G4 b c ns → But b G2 G4 → ∃ acc, G4 D = some (.lst acc) ∧ acc.length < sizeLine ∧ But b G1 (upd G4 D (.lst (acc ++ [v]))) ∧ BagC K (upd G4 D (.lst (acc ++ [v]))) b c ns ∧ ∃ r : List Int, (upd G4 D (.lst (acc ++ [v]))) D = some (.lst (intsI r)) ∧ r.length = j + 1 ∧ ∀ x ∈ r, bd sg x := by
          rintro v G4 ⟨y, rfl, y0, y1⟩ B4 t4
          refine ⟨_, t4 _ _ nDb gD, ?_, (sG.trans t4).updF nD, B4.upd (B1.off nD) nDb, r ++ [y], ?_, by simp [hrl], fun z hz => ?_⟩
          · rw [List.length_map]
            exact small1000' (by omega)
          · rw [upd_same]
            show _ = some (HO.lst (List.map V.int (r ++ [y])))
            rw [List.map_append]
            rfl
          · rcases List.mem_append.mp hz with hz | hz
            · exact hr z hz
            · rw [List.mem_singleton.mp hz]
              exact ⟨y0, y1⟩
        cases sg with
        | true => exact iteT ⟨_, rfl, _, rfl, iteT ⟨_, rfl, b, c, ns, rfl, BG2, key⟩⟩
        | false => exact iteT ⟨_, rfl, _, rfl, iteF ⟨_, rfl, b, c, ns, rfl, BG2, key⟩⟩
      · rintro G2 ⟨sG, BG2, r, gD, hrl2, hr⟩
        refine ⟨D, _, rfl, .inl ⟨SqL.of gD, fun l nl => ?_⟩⟩
        have gF2 := same_upd (o := .tup (intsI r)) nl _ _ (sG _ _ nFb gF1)
        have B3 := BG2.new (o := .tup (intsI r)) nl
        have t3 : But b H (upd G2 l (.tup (intsI r))) := tG.trans (t1.trans (sG.trans (But.new nl)))
        have hts3 := Paired.mapP hts1 fun _ _ y => same_upd (o := .tup (intsI r)) nl _ _ (B1.tup sG y)
        have hl3 : (upd G2 l (.tup (intsI r))) l = some (.tup (intsI r)) := upd_same
        generalize upd G2 l (.tup (intsI r)) = G3 at gF2 B3 t3 hts3 hl3 ⊢
        have up : ∀ {a : Addr} {xs : List V} {o : HO}, G3 a = some (.tup xs) → (upd G3 Fd o) a = some (.tup xs) := fun {a xs o} h => by
          rw [upd_ne (fun e => by rw [e, gF2] at h; cases h)]
          exact h
        refine ⟨Fd, _, _, rfl, rfl, gF2, ?_, _, rfl, t3.updF nF, B3.upd offF nFb, ts ++ [l], rs ++ [r], ?_, Paired.snoc (Paired.mapP hts3 fun _ _ y => up y) (up hl3), by simp [hrl], fun z hz => ?_⟩
        · have := hts.length
          rw [List.length_map]
          exact small1000' (by omega)
        · rw [upd_same, List.map_append]
          rfl
        · rcases List.mem_append.mp hz with hz | hz
          · exact hrs z hz
          · rw [List.mem_singleton.mp hz]
            exact ⟨fun e => by rw [e] at hrl2; simp at hrl2, by omega, hr⟩
    · rintro σ' G ⟨x3, rfl, tG, BG, ts, rs, gF, hts, hrl, hrs⟩
      refine ⟨_, rfl, Fd, _, rfl, .inl ⟨SqL.of gF, fun l nl => ?_⟩⟩
      exact q _ _ ⟨rs, ⟨l, ts, rfl, upd_same, Paired.mapP hts fun _ _ y => same_upd nl _ _ y⟩, rows_ok (fun e => by rw [e] at hrl; simp at hrl; omega) (by omega) hrs⟩ (BG.new nl) (tG.trans (But.new nl))
end
end My

set_option Elab.async false
set_option linter.all false
set_option maxRecDepth 100000
namespace My
open PySem PySem.Spec PyProof.Rows L2 SX
abbrev sLawAnyEntry : Stmt := topS 58
theorem scLawAnyEntry : FnScope ["bag", "way", "one", "two", "name", "word", "row", "k", "salt", "seats"] ["bag"] (defScope sLawAnyEntry) := ⟨rfl, rfl, rfl, by decide +kernel, rfl, by decide +kernel, by decide +kernel⟩
def seatsLen (e : Ent) : Nat := match e.ps with
  | [_, .nums r] => r.length
  | _ => 0
/-- a right entry, with m seats at most -/
def RE (m : Nat) : Hp → V → Prop := fun H v => ∃ t e, v = .ref t ∧ EntAt H t e ∧ e.ok ∧ seatsLen e ≤ m
theorem ent_new {H : Hp} {t : Addr} {w : Wd} {vs : List V} {ps : List Part} {m : Nat} (nt : H t = none) (hp : Paired (PartAt H) vs ps) (ok : okAll (pat w) ps) (hs : seatsLen ⟨w, ps⟩ ≤ m) : RE m (L2.upd H t (.tup (.str (wdS w) :: vs))) (.ref t) :=
  ⟨t, ⟨w, ps⟩, rfl, ⟨vs, L2.upd_same, Paired.mapP hp fun _ _ y => y.same (same_upd nt)⟩, ok, hs⟩
theorem PartAt.but {K : PySem.W.Frag} {H H' : Hp} {b c : Addr} {ns : List Int} (B : BagC K H b c ns) (s : But b H H') {v : V} : ∀ {p : Part}, PartAt H v p → PartAt H' v p
  | .num _, h => h
  | .word _, h => h
  | .nums _, ⟨a, e, h⟩ => ⟨a, e, B.tup s h⟩
  | .rows _, ⟨a, ts, e, h, z⟩ => ⟨a, ts, e, B.tup s h, Paired.mapP z fun _ _ y => B.tup s y⟩
  | .shown _ _, ⟨a, e, h⟩ => ⟨a, e, B.tup s h⟩
/-- drawn: nothing, or a fault -/
def WordV (v : V) : Prop := v = .str "" ∨ ∃ l, v = tx l ∧ l ∈ FAULTS
theorem num_at {H : Hp} {x : Int} (h0 : 0 ≤ x) : PartAt H (.int x) (.num x.toNat) := congrArg V.int (by omega)
theorem word_ne {l : List Nat} (h : l ∈ FAULTS) : decide (tx l = .str "") = false := by
  have : ∀ l ∈ FAULTS, decide (l = []) = false := by decide +kernel
  exact decide_eq_false fun z => by
    injection z with z
    exact of_decide_eq_false (this l h) (S_inj (b := []) z)
theorem reason_in {v : V} (h : v ∈ [V.str "silent", .str "shape", .str "below", .str "sum", .str "rows", .str "spoiled", .str "seal", .str "wrong"]) : ∃ l, v = tx l ∧ l ∈ REASONS := by
  obtain ⟨l, hl, e⟩ := List.mem_map.mp (show v ∈ REASONS.map tx from h)
  exact ⟨l, e.symm, hl⟩
theorem end_in {v : V} (h : v ∈ [V.str "digits", .str "weighs", .str "whole"]) : ∃ l, v = tx l ∧ l ∈ ENDS := by
  obtain ⟨l, hl, e⟩ := List.mem_map.mp (show v ∈ ENDS.map tx from h)
  exact ⟨l, e.symm, hl⟩
theorem const_txt (z : Str) (h : (decide ((cd z).length ≤ 60) && (cd z).all fun c => decide (32 ≤ c ∧ c ≤ 126)) = true) : ∃ u, V.str z = tx u ∧ u.length ≤ 60 ∧ ∀ c ∈ u, good c := by
  rw [Bool.and_eq_true] at h
  exact ⟨cd z, congrArg V.str (S_cd z).symm, of_decide_eq_true h.1, fun c hc => of_decide_eq_true (List.all_eq_true.mp h.2 c hc)⟩
section
variable {P : Program} {w : World} {K : PySem.W.Frag} {mg : Str → Option Value} {base : Heap}
theorem ok_any {f fD fO fS fG fN fR fT : Addr} {fd fdD fdO fdS fdG fdN fdR fdT : FuncData} (F : Fun K "_law_any_entry" "_law_any_entry" sLawAnyEntry f fd) (D : Cal P w K mg base "_law_draw" 1 ["bag", "many"] (spDrawC K) fD fdD) (O : Cal P w K mg base "_law_of" 2 ["bag", "things"] (spOfC K) fO fdO) (Sm : Cal P w K mg base "_law_small" 3 ["bag"] (spBagR K (RInt 0 999999999)) fS fdS) (Sg : Cal P w K mg base "_law_signed" 4 ["bag"] (spBagR K (RInt (-999999999) 999999999)) fG fdG) (An : Cal P w K mg base "_law_any_name" 3 ["bag"] (spBagR K RNm) fN fdN) (At : Cal P w K mg base "_law_any_text" 3 ["bag"] (spBagR K RTxt) fT fdT) (Ar : Cal P w K mg base "_law_any_rows" 5 ["bag", "signed"] (spRows K) fR fdR) (b_range : mg "range" = none) (b_tuple : mg "tuple" = none) : FnOk P w K mg base CX0 6 f fd ["bag"] (spBagR K (RE 3)) := by
  refine F.ok scLawAnyEntry (fun vs H Q E h => ?_) (fun cdv A outer s H vs Q E hr h => ?_)
  · obtain ⟨b, c, ns, rfl, _⟩ := h
    rfl
  · obtain ⟨b, c, ns, rfl, B, q⟩ := h
    refine ⟨_, (pss_cons (ps_asg (pe_tup (pa_cons (pe_call D.ok (hr.mono (by omega)) rfl D.g D.kp D.b .nil pass0 (pa_cons (pv 0) (pa_cons pe_int pa_nil))) (pa_cons (pe_call Sm.ok (hr.mono (by omega)) rfl Sm.g Sm.kp Sm.b .nil pass0 (pa_cons (pv 0) pa_nil)) (pa_cons (pe_call Sm.ok (hr.mono (by omega)) rfl Sm.g Sm.kp Sm.b .nil pass0 (pa_cons (pv 0) pa_nil)) (pa_cons (pe_call An.ok (hr.mono (by omega)) rfl An.g An.kp An.b .nil pass0 (pa_cons (pv 0) pa_nil)) pa_nil))))) (pg_tup rfl (pgs_cons (pg_name (i := 1) scLawAnyEntry.nd rfl (.inl rfl)) (pgs_cons (pg_name (i := 2) scLawAnyEntry.nd rfl (.inl rfl)) (pgs_cons (pg_name (i := 3) scLawAnyEntry.nd rfl (.inl rfl)) (pgs_cons (pg_name (i := 4) scLawAnyEntry.nd rfl (.inl rfl)) pgs_nil))))))
      (pss_cons (ps_set (i := 5) scLawAnyEntry.nd rfl (.inl rfl) (pe_call O.ok (hr.mono (by omega)) rfl O.g O.kp O.b .nil pass0 (pa_cons (pv 0) (pa_cons (pe_lst (pa_cons pe_str (pa_cons pe_str (pa_cons pe_str (pa_cons pe_str (pa_cons pe_str (pa_cons pe_str pa_nil))))))) pa_nil))))
      (pss_cons (ps_if (pt_cmpR op_eq (pv 1) pe_int rfl) (pss_one (ps_ret (pe_tup (pa_cons pe_str (pa_cons (pv 2) (pa_cons (pv 3) (pa_cons (pv 4) (pa_cons (pe_ifExp (pt_cmpR op_ne (pv 5) pe_str rfl) (pv 5) (pe_call Ar.ok (hr.mono (by omega)) rfl Ar.g Ar.kp Ar.b .nil pass0 (pa_cons (pv 0) (pa_cons pe_bl pa_nil)))) pa_nil)))))))) pss_nil)
      (pss_cons (ps_if (pt_cmpR op_eq (pv 1) pe_int rfl) (pss_cons (ps_set (i := 6) scLawAnyEntry.nd rfl (.inl rfl) (pe_callTy call_tuple_of rfl b_tuple (by decide +kernel) (pa_cons (pe_lc (own := [("k", 7)]) (g := gName 7) (tt := tYes) (te := tCall (spBagR K (RInt (-999999999) 999999999)) [] E0 (tCons (tVar 0) tNil)) rfl scLawAnyEntry.nd (pi_range1 rfl b_range (pa_cons (pe_call O.ok (hr.mono (by omega)) rfl O.g O.kp O.b .nil pass0 (pa_cons (pv 0) (pa_cons (pe_lst (pa_cons pe_int (pa_cons pe_int (pa_cons pe_int (pa_cons pe_int (pa_cons pe_int pa_nil)))))) pa_nil))) pa_nil)) (blkOk_by (own := [("k", 7)]) (N := ["bag", "way", "one", "two", "name", "word", "row", "k", "salt", "seats"]) (sc := defScope sLawAnyEntry) (by decide +kernel)) (fun _ _ _ _ _ => (pg_name (i := 7) scLawAnyEntry.nd rfl (.inl rfl) (.inr rfl))) (fun _ _ _ _ _ => pts_nil) (fun _ _ _ _ _ => (pe_call Sg.ok (hr.mono (by omega)) rfl Sg.g Sg.kp Sg.b .nil pass0 (pa_cons (pv 0) pa_nil)))) pa_nil)))
        (pss_one (ps_ret (pe_tup (pa_cons pe_str (pa_cons (pv 2) (pa_cons (pv 3) (pa_cons (pv 4) (pa_cons (pe_call Sm.ok (hr.mono (by omega)) rfl Sm.g Sm.kp Sm.b .nil pass0 (pa_cons (pv 0) pa_nil)) (pa_cons (pe_call Sm.ok (hr.mono (by omega)) rfl Sm.g Sm.kp Sm.b .nil pass0 (pa_cons (pv 0) pa_nil)) (pa_cons (pe_ifExp (pt_cmpR op_ne (pv 5) pe_str rfl) (pv 5) (pv 6)) pa_nil))))))))))) pss_nil)
      (pss_cons (ps_if (pt_cmpR op_eq (pv 1) pe_int rfl) (pss_cons (ps_set (i := 8) scLawAnyEntry.nd rfl (.inl rfl) (pe_call O.ok (hr.mono (by omega)) rfl O.g O.kp O.b .nil pass0 (pa_cons (pv 0) (pa_cons (pe_lst (pa_cons pe_int (pa_cons pe_int (pa_cons (pe_call D.ok (hr.mono (by omega)) rfl D.g D.kp D.b .nil pass0 (pa_cons (pv 0) (pa_cons pe_int pa_nil))) pa_nil)))) pa_nil))))
        (pss_one (ps_ret (pe_tup (pa_cons pe_str (pa_cons (pv 2) (pa_cons (pv 3) (pa_cons (pv 4) (pa_cons (pe_ifExp (pt_cmpR op_ne (pv 5) pe_str rfl) (pv 5) (pe_tup (pa_cons (pv 8) (pa_cons (pe_call O.ok (hr.mono (by omega)) rfl O.g O.kp O.b .nil pass0 (pa_cons (pv 0) (pa_cons (pe_lst (pa_cons (pe_call At.ok (hr.mono (by omega)) rfl At.g At.kp At.b .nil pass0 (pa_cons (pv 0) pa_nil)) (pa_cons (pe_call At.ok (hr.mono (by omega)) rfl At.g At.kp At.b .nil pass0 (pa_cons (pv 0) pa_nil)) (pa_cons pe_str (pa_cons pe_str (pa_cons pe_str (pa_cons pe_str (pa_cons pe_str (pa_cons pe_str (pa_cons pe_str pa_nil)))))))))) pa_nil))) pa_nil)))) pa_nil))))))))) pss_nil)
      (pss_cons (ps_if (pt_cmpR op_eq (pv 1) pe_int rfl) (pss_one (ps_ret (pe_tup (pa_cons pe_str (pa_cons (pv 4) (pa_cons (pe_call O.ok (hr.mono (by omega)) rfl O.g O.kp O.b .nil pass0 (pa_cons (pv 0) (pa_cons (pe_lst (pa_cons pe_str (pa_cons pe_str (pa_cons pe_str (pa_cons pe_str (pa_cons pe_str (pa_cons pe_str (pa_cons pe_str (pa_cons pe_str pa_nil))))))))) pa_nil))) pa_nil)))))) pss_nil)
      (pss_cons (ps_if (pt_cmpR op_eq (pv 1) pe_int rfl) (pss_one (ps_ret (pe_tup (pa_cons pe_str (pa_cons (pv 2) (pa_cons (pv 3) (pa_cons (pe_call Ar.ok (hr.mono (by omega)) rfl Ar.g Ar.kp Ar.b .nil pass0 (pa_cons (pv 0) (pa_cons pe_bl pa_nil))) pa_nil))))))) pss_nil)
      (pss_cons (ps_if (pt_cmpR op_eq (pv 1) pe_int rfl) (pss_cons (ps_set (i := 9) scLawAnyEntry.nd rfl (.inl rfl) (pe_callTy call_tuple_of rfl b_tuple (by decide +kernel) (pa_cons (pe_lc (own := [("k", 7)]) (g := gName 7) (tt := tYes) (te := tCall (spBagR K (RInt 0 999999999)) [] E0 (tCons (tVar 0) tNil)) rfl scLawAnyEntry.nd (pi_range1 rfl b_range (pa_cons (pe_call D.ok (hr.mono (by omega)) rfl D.g D.kp D.b .nil pass0 (pa_cons (pv 0) (pa_cons pe_int pa_nil))) pa_nil)) (blkOk_by (own := [("k", 7)]) (N := ["bag", "way", "one", "two", "name", "word", "row", "k", "salt", "seats"]) (sc := defScope sLawAnyEntry) (by decide +kernel)) (fun _ _ _ _ _ => (pg_name (i := 7) scLawAnyEntry.nd rfl (.inl rfl) (.inr rfl))) (fun _ _ _ _ _ => pts_nil) (fun _ _ _ _ _ => (pe_call Sm.ok (hr.mono (by omega)) rfl Sm.g Sm.kp Sm.b .nil pass0 (pa_cons (pv 0) pa_nil)))) pa_nil)))
        (pss_one (ps_ret (pe_tup (pa_cons pe_str (pa_cons (pe_call O.ok (hr.mono (by omega)) rfl O.g O.kp O.b .nil pass0 (pa_cons (pv 0) (pa_cons (pe_lst (pa_cons pe_str (pa_cons pe_str (pa_cons pe_str pa_nil)))) pa_nil))) (pa_cons (pv 9) pa_nil))))))) pss_nil)
      (pss_one (ps_ret (pe_tup (pa_cons (pe_call O.ok (hr.mono (by omega)) rfl O.g O.kp O.b .nil pass0 (pa_cons (pv 0) (pa_cons (pe_lst (pa_cons pe_str (pa_cons pe_str pa_nil))) pa_nil))) (pa_cons (pv 2) (pa_cons (pv 3) pa_nil)))))))))))))), ?_⟩
    refine ⟨_, rfl, b, 8, c, ns, rfl, B, by decide, by decide, fun way H1 w0 w1 B1 t1 => ⟨_, rfl, b, c, ns, rfl, B1, fun v1 H2 ⟨x1, e1, x10, x11⟩ B2 t2 => ⟨_, rfl, b, c, ns, rfl, B2, fun v2 H3 ⟨x2, e2, x20, x21⟩ B3 t3 => ⟨_, rfl, b, c, ns, rfl, B3, fun v3 H4 ⟨nm, e3, hnm⟩ B4 t4 => ?_⟩⟩⟩⟩
    subst e1 e2 e3
    refine ⟨by show 4 ≤ sizeLine; decide, fun T nT => ⟨T, _, rfl, SqT.of upd_same, rfl, _, _, rfl, _, _, rfl, _, _, rfl, _, _, rfl, rfl, ?_⟩⟩
    have B5 := B4.new (o := .tup [.int way, .int x1, .int x2, tx nm]) nT
    have t5 : But b H (upd H4 T (.tup [.int way, .int x1, .int x2, tx nm])) := t1.trans (t2.trans (t3.trans (t4.trans (But.new nT))))
    generalize upd H4 T (.tup [.int way, .int x1, .int x2, tx nm]) = H5 at B5 t5 ⊢
    refine ⟨_, rfl, (by show 6 ≤ sizeLine; decide), fun L nL => ⟨b, _, c, ns, _, rfl, B5.new nL, .inl ⟨L, rfl, B5.ne nL, SqL.of upd_same⟩, by show 0 < 6; decide, by show 6 < 1000; decide, fun v H6 hv B6 t6 => ?_⟩⟩
    have tH : But b H H6 := t5.trans ((But.new nL).trans t6)
    have hw : WordV v := by
      simp only [List.mem_cons, List.not_mem_nil, or_false] at hv
      rcases hv with rfl | rfl | rfl | rfl | rfl | rfl
      · exact .inr ⟨cd "silent", congrArg V.str (S_cd _).symm, by decide +kernel⟩
      · exact .inr ⟨cd "shape", congrArg V.str (S_cd _).symm, by decide +kernel⟩
      · exact .inl rfl
      · exact .inl rfl
      · exact .inl rfl
      · exact .inl rfl
    clear hv t6 nL t1 t2 t3 t4 nT
    have hx1 : x1.toNat ≤ 999999999 := by omega
    have hx2 : x2.toNat ≤ 999999999 := by omega
    have P1 : ∀ G, PartAt G (.int x1) (.num x1.toNat) := fun G => num_at x10
    have P2 : ∀ G, PartAt G (.int x2) (.num x2.toNat) := fun G => num_at x20
    have P3 : ∀ G, PartAt G (tx nm) (.word nm) := fun G => rfl
    obtain ⟨n, rfl⟩ : ∃ n : Nat, way = n := ⟨way.toNat, by omega⟩
    have hn : n < 8 := by omega
    match n, hn with
    | 0, _ =>
      refine ⟨_, rfl, rfl, _, rfl, iteTd rfl ?_⟩
      rcases hw with rfl | ⟨l, rfl, hl⟩
      · refine ⟨_, rfl, _, rfl, _, rfl, _, rfl, rfl, _, rfl, iteFd rfl ⟨_, rfl, b, c, ns, true, rfl, B6, fun v7 H7 ⟨rs, pr, hrs⟩ B7 t7 => ⟨by show 5 ≤ sizeLine; decide, fun t nt => ?_⟩⟩⟩
        exact q _ _ (ent_new (w := .sheet) nt (.cons (P1 _) (.cons (P2 _) (.cons (P3 _) (.cons pr .nil)))) ⟨hx1, hx2, hnm, hrs, trivial⟩ (Nat.zero_le _)) (B7.new nt) (tH.trans (t7.trans (But.new nt)))
      · refine ⟨_, rfl, _, rfl, _, rfl, _, rfl, rfl, _, rfl, iteTd (by rw [word_ne hl]; rfl) ⟨_, rfl, by show 5 ≤ sizeLine; decide, fun t nt => ?_⟩⟩
        exact q _ _ (ent_new (w := .sheet) nt (.cons (P1 _) (.cons (P2 _) (.cons (P3 _) (.cons (b := Part.word l) rfl .nil)))) ⟨hx1, hx2, hnm, hl, trivial⟩ (Nat.zero_le _)) (B6.new nt) (tH.trans (But.new nt))
    | 1, _ =>
      refine ⟨_, rfl, rfl, _, rfl, iteFd rfl ⟨_, rfl, rfl, _, rfl, iteTd rfl ⟨_, rfl, (by show 5 ≤ sizeLine; decide), fun L nL => ⟨b, _, c, ns, _, rfl, B6.new nL, .inl ⟨L, rfl, B6.ne nL, SqL.of upd_same⟩, by show 0 < 5; decide, by show 5 < 1000; decide, fun v7 H7 hv B7 t7 => ?_⟩⟩⟩⟩
      have t7 : But b H H7 := tH.trans ((But.new nL).trans t7)
      obtain ⟨m, rfl, hm⟩ : ∃ m : Nat, v7 = .int m ∧ m ≤ 40 := by
        simp only [List.mem_cons, List.not_mem_nil, or_false] at hv
        rcases hv with rfl | rfl | rfl | rfl | rfl
        · exact ⟨0, rfl, by decide⟩
        · exact ⟨1, rfl, by decide⟩
        · exact ⟨2, rfl, by decide⟩
        · exact ⟨3, rfl, by decide⟩
        · exact ⟨40, rfl, by decide⟩
      refine ⟨(m : Nat), rfl, by omega, by omega, fun D nD => lc_it (walk_range (lo := 0)) (fun i G => But b H7 G ∧ BagC K G b c ns ∧ ∃ r : List Int, G D = some (.lst (intsI r)) ∧ r.length = i ∧ ∀ x ∈ r, -999999999 ≤ x ∧ x ≤ 999999999) ⟨But.new nD, B7.new nD, [], upd_same, rfl, fun l h => by cases h⟩ (fun _ _ _ _ => trivial) ?_ ?_⟩
      · rintro i x G1 G hi ⟨sG, BG, r, gD, hrl, hr⟩ ⟨rfl, rfl⟩
        refine ⟨rfl, ?_⟩
        unfold tYes
        have nDb := B7.ne nD
        refine iteT ⟨_, rfl, b, c, ns, rfl, BG, fun v G4 ⟨y, ev, y0, y1⟩ B9 t9 => ⟨_, t9 _ _ nDb gD, ?_, (sG.trans t9).updF nD, B9.upd (B7.off nD) nDb, r ++ [y], ?_, by simp [hrl], fun z hz => ?_⟩⟩
        · rw [List.length_map]
          exact small1000' (by omega)
        · subst ev
          rw [upd_same]
          show _ = some (HO.lst (List.map V.int (r ++ [y])))
          rw [List.map_append]
          rfl
        · rcases List.mem_append.mp hz with hz | hz
          · exact hr z hz
          · rw [List.mem_singleton.mp hz]
            exact ⟨y0, y1⟩
      · rintro G ⟨sG, BG, r, gD, hrl, hr⟩
        refine ⟨D, _, rfl, .inl ⟨SqL.of gD, fun l nl => ?_⟩⟩
        have B8 := BG.new (o := .tup (intsI r)) nl
        have t8 : But b H (upd G l (.tup (intsI r))) := t7.trans (sG.trans (But.new nl))
        have h8 : PartAt (upd G l (.tup (intsI r))) (.ref l) (.nums r) := ⟨l, rfl, upd_same⟩
        generalize upd G l (.tup (intsI r)) = H8 at B8 t8 h8 ⊢
        refine ⟨_, rfl, _, rfl, _, rfl, _, rfl, b, c, ns, rfl, B8, fun v9 H9 ⟨x5, e5, x50, x51⟩ B9 t9 => ⟨_, rfl, b, c, ns, rfl, B9, fun v10 H10 ⟨x6, e6, x60, x61⟩ B10 t10 => ?_⟩⟩
        subst e5 e6
        have h10 := (h8.but B8 t9).but B9 t10
        have t11 := t8.trans (t9.trans t10)
        rcases hw with rfl | ⟨wl, rfl, hl⟩
        · refine ⟨_, rfl, rfl, _, rfl, iteFd rfl ⟨_, rfl, by show 7 ≤ sizeLine; decide, fun t nt => ?_⟩⟩
          exact q _ _ (ent_new (w := .which) nt (.cons (P1 _) (.cons (P2 _) (.cons (P3 _) (.cons (num_at x50) (.cons (num_at x60) (.cons h10 .nil)))))) ⟨hx1, hx2, hnm, (by omega : x5.toNat ≤ 999999999), (by omega : x6.toNat ≤ 999999999), ⟨by omega, hr⟩, trivial⟩ (Nat.zero_le _)) (B10.new nt) (t11.trans (But.new nt))
        · refine ⟨_, rfl, rfl, _, rfl, iteTd (by rw [word_ne hl]; rfl) ⟨_, rfl, by show 7 ≤ sizeLine; decide, fun t nt => ?_⟩⟩
          exact q _ _ (ent_new (w := .which) nt (.cons (P1 _) (.cons (P2 _) (.cons (P3 _) (.cons (num_at x50) (.cons (num_at x60) (.cons (b := Part.word wl) rfl .nil)))))) ⟨hx1, hx2, hnm, (by omega : x5.toNat ≤ 999999999), (by omega : x6.toNat ≤ 999999999), hl, trivial⟩ (Nat.zero_le _)) (B10.new nt) (t11.trans (But.new nt))
    | 2, _ =>
      refine ⟨_, rfl, rfl, _, rfl, iteFd rfl ⟨_, rfl, rfl, _, rfl, iteFd rfl ⟨_, rfl, rfl, _, rfl, iteTd rfl ⟨_, rfl, _, rfl, b, 10000, c, ns, rfl, B6, by decide, by decide, fun sx H7 s0 s1 B7 t7 => ⟨(by show 3 ≤ sizeLine; decide), fun L nL => ⟨b, _, c, ns, _, rfl, B7.new nL, .inl ⟨L, rfl, B7.ne nL, SqL.of upd_same⟩, by show 0 < 3; decide, by show 3 < 1000; decide, fun v8 H8 hv B8 t8 => ?_⟩⟩⟩⟩⟩⟩
      have t8 : But b H H8 := tH.trans (t7.trans ((But.new nL).trans t8))
      obtain ⟨m, rfl, hm⟩ : ∃ m : Nat, v8 = .int m ∧ m ≤ 9999 := by
        simp only [List.mem_cons, List.not_mem_nil, or_false] at hv
        rcases hv with rfl | rfl | rfl
        · exact ⟨0, rfl, by decide⟩
        · exact ⟨9999, rfl, by decide⟩
        · exact ⟨sx.toNat, congrArg V.int (by omega), by omega⟩
      rcases hw with rfl | ⟨wl, rfl, hl⟩
      · refine ⟨_, rfl, _, rfl, _, rfl, _, rfl, rfl, _, rfl, iteFd rfl ⟨_, rfl, _, rfl, _, rfl, b, c, ns, rfl, B8, fun v9 H9 ⟨l9, e9, h9, g9⟩ B9 t9 => ⟨_, rfl, b, c, ns, rfl, B9, fun v10 H10 ⟨l10, e10, h10, g10⟩ B10 t10 => ⟨by show 9 ≤ sizeLine; decide, fun L2' nL2 => ⟨b, _, c, ns, _, rfl, B10.new nL2, .inl ⟨L2', rfl, B10.ne nL2, SqL.of upd_same⟩, by show 0 < 9; decide, by show 9 < 1000; decide, fun v11 H11 hv B11 t11 => ⟨by show 2 ≤ sizeLine; decide, fun tt ntt => ⟨by show 5 ≤ sizeLine; decide, fun t nt => ?_⟩⟩⟩⟩⟩⟩⟩
        subst e9 e10
        obtain ⟨u, rfl, hu, gu⟩ : ∃ u, v11 = tx u ∧ u.length ≤ 60 ∧ ∀ c ∈ u, good c := by
          simp only [List.mem_cons, List.not_mem_nil, or_false] at hv
          rcases hv with rfl | rfl | rfl | rfl | rfl | rfl | rfl | rfl | rfl
          · exact ⟨l9, rfl, h9, g9⟩
          · exact ⟨l10, rfl, h10, g10⟩
          all_goals exact const_txt _ (by decide +kernel)
        have tA := t8.trans (t9.trans (t10.trans ((But.new nL2).trans t11)))
        exact q _ _ (ent_new (w := .show) nt (.cons (P1 _) (.cons (P2 _) (.cons (P3 _) (.cons (b := Part.shown m u) ⟨tt, rfl, upd_same⟩ .nil)))) ⟨hx1, hx2, hnm, ⟨hm, hu, gu⟩, trivial⟩ (Nat.zero_le _)) ((B11.new ntt).new nt) (tA.trans ((But.new ntt).trans (But.new nt)))
      · refine ⟨_, rfl, _, rfl, _, rfl, _, rfl, rfl, _, rfl, iteTd (by rw [word_ne hl]; rfl) ⟨_, rfl, by show 5 ≤ sizeLine; decide, fun t nt => ?_⟩⟩
        exact q _ _ (ent_new (w := .show) nt (.cons (P1 _) (.cons (P2 _) (.cons (P3 _) (.cons (b := Part.word wl) rfl .nil)))) ⟨hx1, hx2, hnm, hl, trivial⟩ (Nat.zero_le _)) (B8.new nt) (t8.trans (But.new nt))
    | 3, _ =>
      refine ⟨_, rfl, rfl, _, rfl, iteFd rfl ⟨_, rfl, rfl, _, rfl, iteFd rfl ⟨_, rfl, rfl, _, rfl, iteFd rfl ⟨_, rfl, rfl, _, rfl, iteTd rfl ⟨_, rfl, _, rfl, (by show 8 ≤ sizeLine; decide), fun L nL => ⟨b, _, c, ns, _, rfl, B6.new nL, .inl ⟨L, rfl, B6.ne nL, SqL.of upd_same⟩, by show 0 < 8; decide, by show 8 < 1000; decide, fun v7 H7 hv B7 t7 => ⟨by show 3 ≤ sizeLine; decide, fun t nt => ?_⟩⟩⟩⟩⟩⟩⟩
      have t7 : But b H H7 := tH.trans ((But.new nL).trans t7)
      obtain ⟨l, rfl, hl⟩ : ∃ l, v7 = tx l ∧ l ∈ REASONS := reason_in hv
      exact q _ _ (ent_new (w := .struck) nt (.cons (P3 _) (.cons (b := Part.word l) rfl .nil)) ⟨hnm, hl, trivial⟩ (Nat.zero_le _)) (B7.new nt) (t7.trans (But.new nt))
    | 4, _ =>
      refine ⟨_, rfl, rfl, _, rfl, iteFd rfl ⟨_, rfl, rfl, _, rfl, iteFd rfl ⟨_, rfl, rfl, _, rfl, iteFd rfl ⟨_, rfl, rfl, _, rfl, iteFd rfl ⟨_, rfl, rfl, _, rfl, iteTd rfl ⟨_, rfl, _, rfl, _, rfl, b, c, ns, false, rfl, B6, fun v7 H7 ⟨rs, pr, hrs⟩ B7 t7 => ⟨by show 4 ≤ sizeLine; decide, fun t nt => ?_⟩⟩⟩⟩⟩⟩⟩
      exact q _ _ (ent_new (w := .taken) nt (.cons (P1 _) (.cons (P2 _) (.cons pr .nil))) ⟨hx1, hx2, hrs, trivial⟩ (Nat.zero_le _)) (B7.new nt) (tH.trans (t7.trans (But.new nt)))
    | 5, _ =>
      refine ⟨_, rfl, rfl, _, rfl, iteFd rfl ⟨_, rfl, rfl, _, rfl, iteFd rfl ⟨_, rfl, rfl, _, rfl, iteFd rfl ⟨_, rfl, rfl, _, rfl, iteFd rfl ⟨_, rfl, rfl, _, rfl, iteFd rfl ⟨_, rfl, rfl, _, rfl, iteTd rfl ⟨_, rfl, b, 4, c, ns, rfl, B6, by decide, by decide, fun m H7 m0 m1 B7 t7 => ?_⟩⟩⟩⟩⟩⟩⟩
      have t7 : But b H H7 := tH.trans t7
      obtain ⟨m, rfl⟩ : ∃ k : Nat, m = k := ⟨m.toNat, by omega⟩
      refine ⟨(m : Nat), rfl, by omega, by omega, fun D nD => lc_it (walk_range (lo := 0)) (fun i G => But b H7 G ∧ BagC K G b c ns ∧ ∃ r : List Int, G D = some (.lst (intsI r)) ∧ r.length = i ∧ ∀ x ∈ r, 0 ≤ x ∧ x ≤ 999999999) ⟨But.new nD, B7.new nD, [], upd_same, rfl, fun l h => by cases h⟩ (fun _ _ _ _ => trivial) ?_ ?_⟩
      · rintro i x G1 G hi ⟨sG, BG, r, gD, hrl, hr⟩ ⟨rfl, rfl⟩
        refine ⟨rfl, ?_⟩
        unfold tYes
        have nDb := B7.ne nD
        refine iteT ⟨_, rfl, b, c, ns, rfl, BG, fun v G4 ⟨y, ev, y0, y1⟩ B9 t9 => ⟨_, t9 _ _ nDb gD, ?_, (sG.trans t9).updF nD, B9.upd (B7.off nD) nDb, r ++ [y], ?_, by simp [hrl], fun z hz => ?_⟩⟩
        · rw [List.length_map]
          exact small1000' (by omega)
        · subst ev
          rw [upd_same]
          show _ = some (HO.lst (List.map V.int (r ++ [y])))
          rw [List.map_append]
          rfl
        · rcases List.mem_append.mp hz with hz | hz
          · exact hr z hz
          · rw [List.mem_singleton.mp hz]
            exact ⟨y0, y1⟩
      · rintro G ⟨sG, BG, r, gD, hrl, hr⟩
        refine ⟨D, _, rfl, .inl ⟨SqL.of gD, fun l nl => ?_⟩⟩
        have B8 := BG.new (o := .tup (intsI r)) nl
        have t8 : But b H (upd G l (.tup (intsI r))) := t7.trans (sG.trans (But.new nl))
        have h8 : PartAt (upd G l (.tup (intsI r))) (.ref l) (.nums r) := ⟨l, rfl, upd_same⟩
        generalize upd G l (.tup (intsI r)) = H8 at B8 t8 h8 ⊢
        refine ⟨_, rfl, (by show 3 ≤ sizeLine; decide), fun L nL => ⟨b, _, c, ns, _, rfl, B8.new nL, .inl ⟨L, rfl, B8.ne nL, SqL.of upd_same⟩, by show 0 < 3; decide, by show 3 < 1000; decide, fun v9 H9 hv B9 t9 => ⟨_, rfl, by show 3 ≤ sizeLine; decide, fun t nt => ?_⟩⟩⟩
        have t9 : But b H8 H9 := (But.new nL).trans t9
        obtain ⟨z, rfl, hz⟩ : ∃ z, v9 = tx z ∧ z ∈ ENDS := end_in hv
        exact q _ _ (ent_new (w := .told) nt (.cons (b := Part.word z) rfl (.cons (h8.but B8 t9) .nil)) ⟨hz, ⟨by omega, hr⟩, trivial⟩ (show r.length ≤ 3 by omega)) (B9.new nt) (t8.trans (t9.trans (But.new nt)))
    | 6, _ =>
      refine ⟨_, rfl, rfl, _, rfl, iteFd rfl ⟨_, rfl, rfl, _, rfl, iteFd rfl ⟨_, rfl, rfl, _, rfl, iteFd rfl ⟨_, rfl, rfl, _, rfl, iteFd rfl ⟨_, rfl, rfl, _, rfl, iteFd rfl ⟨_, rfl, rfl, _, rfl, iteFd rfl ⟨_, rfl, (by show 2 ≤ sizeLine; decide), fun L nL => ⟨b, _, c, ns, _, rfl, B6.new nL, .inl ⟨L, rfl, B6.ne nL, SqL.of upd_same⟩, by show 0 < 2; decide, by show 2 < 1000; decide, fun v7 H7 hv B7 t7 => ⟨_, rfl, _, rfl, by show 3 ≤ sizeLine; decide, fun t nt => ?_⟩⟩⟩⟩⟩⟩⟩⟩⟩
      have t7 : But b H H7 := tH.trans ((But.new nL).trans t7)
      simp only [List.mem_cons, List.not_mem_nil, or_false] at hv
      rcases hv with rfl | rfl
      · exact q _ _ (ent_new (w := .opened) nt (.cons (P1 _) (.cons (P2 _) .nil)) ⟨hx1, hx2, trivial⟩ (Nat.zero_le _)) (B7.new nt) (t7.trans (But.new nt))
      · exact q _ _ (ent_new (w := .clash) nt (.cons (P1 _) (.cons (P2 _) .nil)) ⟨hx1, hx2, trivial⟩ (Nat.zero_le _)) (B7.new nt) (t7.trans (But.new nt))
    | 7, _ =>
      refine ⟨_, rfl, rfl, _, rfl, iteFd rfl ⟨_, rfl, rfl, _, rfl, iteFd rfl ⟨_, rfl, rfl, _, rfl, iteFd rfl ⟨_, rfl, rfl, _, rfl, iteFd rfl ⟨_, rfl, rfl, _, rfl, iteFd rfl ⟨_, rfl, rfl, _, rfl, iteFd rfl ⟨_, rfl, (by show 2 ≤ sizeLine; decide), fun L nL => ⟨b, _, c, ns, _, rfl, B6.new nL, .inl ⟨L, rfl, B6.ne nL, SqL.of upd_same⟩, by show 0 < 2; decide, by show 2 < 1000; decide, fun v7 H7 hv B7 t7 => ⟨_, rfl, _, rfl, by show 3 ≤ sizeLine; decide, fun t nt => ?_⟩⟩⟩⟩⟩⟩⟩⟩⟩
      have t7 : But b H H7 := tH.trans ((But.new nL).trans t7)
      simp only [List.mem_cons, List.not_mem_nil, or_false] at hv
      rcases hv with rfl | rfl
      · exact q _ _ (ent_new (w := .opened) nt (.cons (P1 _) (.cons (P2 _) .nil)) ⟨hx1, hx2, trivial⟩ (Nat.zero_le _)) (B7.new nt) (t7.trans (But.new nt))
      · exact q _ _ (ent_new (w := .clash) nt (.cons (P1 _) (.cons (P2 _) .nil)) ⟨hx1, hx2, trivial⟩ (Nat.zero_le _)) (B7.new nt) (t7.trans (But.new nt))
end
end My

set_option Elab.async false
set_option linter.all false
set_option maxRecDepth 100000
namespace My
open PySem PySem.Spec PyProof.Rows L2 SX
abbrev sLawMoved : Stmt := topS 59
theorem scLawMoved : FnScope ["bag", "rows", "at", "row", "spot", "other"] ["bag", "rows"] (defScope sLawMoved) := ⟨rfl, rfl, rfl, by decide +kernel, rfl, by decide +kernel, by decide +kernel⟩
theorem cat_any {K : PySem.W.Frag} {H : Hp} {a b : Addr} {xs ys : List V} {Q : VK} (ha : H a = some (.tup xs)) (hb : H b = some (.tup ys)) (hz : xs.length + ys.length ≤ 1000) (q : ∀ p H', Same H H' → H' p = some (.tup (xs ++ ys)) → Q (.ref p) H') : rCatA K (.ref a) (.ref b) H Q := by
  refine ⟨a, b, xs, ys, rfl, rfl, SqT.of ha, SqT.of hb, line_of (by omega), ?_, ?_, ?_⟩
  · rintro rfl
    exact q b H (Same.refl _) hb
  · rintro _ rfl
    exact q a H (Same.refl _) (by rw [List.append_nil]; exact ha)
  · intro _ _ p np
    exact q p _ (same_upd np) upd_same
def spMo (K : PySem.W.Frag) : Sp := fun vs H Q _ => ∃ (b c : Addr) (ns : List Int) (v : V) (sg : Bool) (rs : List (List Int)), vs = [.ref b, v] ∧ BagC K H b c ns ∧ PartAt H v (.rows rs) ∧ (if sg = true then RowsOk Sgd rs else RowsOk Uns rs) ∧ ∀ v H', RRows sg H' v → BagC K H' b c ns → But b H H' → Q v H'
theorem rows_of {sg : Bool} {rs : List (List Int)} (h : if sg = true then RowsOk Sgd rs else RowsOk Uns rs) : rs ≠ [] ∧ rs.length ≤ 10 ∧ ∀ r ∈ rs, r ≠ [] ∧ r.length ≤ 10 ∧ ∀ x ∈ r, bd sg x := by
  cases sg with
  | true => exact h
  | false => exact h
theorem rows_to {sg : Bool} {rs : List (List Int)} (h : rs ≠ [] ∧ rs.length ≤ 10 ∧ ∀ r ∈ rs, r ≠ [] ∧ r.length ≤ 10 ∧ ∀ x ∈ r, bd sg x) : if sg = true then RowsOk Sgd rs else RowsOk Uns rs := by
  cases sg with
  | true => exact h
  | false => exact h
theorem bd_set {sg : Bool} {r : List Int} {j : Nat} {y : Int} (h : ∀ x ∈ r, bd sg x) (hy : bd sg y) : ∀ x ∈ r.set j y, bd sg x := fun x hx => by
  rcases List.mem_or_eq_of_mem_set hx with hx | rfl
  · exact h x hx
  · exact hy
theorem intsI_set (r : List Int) (j : Nat) (y : Int) : (intsI r).set j (.int y) = intsI (r.set j y) := by
  show (r.map V.int).set j (V.int y) = (r.set j y).map V.int
  rw [List.map_set]
theorem rows_set {H : Hp} {ts : List Addr} {rs : List (List Int)} {i : Nat} {u : Addr} {r : List Int} (h : Paired (fun t r => H t = some (.tup (intsI r))) ts rs) (hu : H u = some (.tup (intsI r))) (hi : i < rs.length) : Paired (fun t r => H t = some (.tup (intsI r))) (ts.take i ++ [u] ++ ts.drop (i + 1)) (rs.take i ++ [r] ++ rs.drop (i + 1)) := by
  have tk : ∀ {i : Nat} {ts : List Addr} {rs : List (List Int)}, Paired (fun t r => H t = some (.tup (intsI r))) ts rs → Paired (fun t r => H t = some (.tup (intsI r))) (ts.take i) (rs.take i) := by
    intro i
    induction i with
    | zero => intro ts rs _; exact .nil
    | succ i ih =>
      intro ts rs h
      cases h with
      | nil => exact .nil
      | cons a b => exact .cons a (ih b)
  have dr : ∀ {i : Nat} {ts : List Addr} {rs : List (List Int)}, Paired (fun t r => H t = some (.tup (intsI r))) ts rs → Paired (fun t r => H t = some (.tup (intsI r))) (ts.drop i) (rs.drop i) := by
    intro i
    induction i with
    | zero => intro ts rs h; exact h
    | succ i ih =>
      intro ts rs h
      cases h with
      | nil => exact .nil
      | cons a b => exact ih b
  have app : ∀ {xs ys : List Addr} {us vs : List (List Int)}, Paired (fun t r => H t = some (.tup (intsI r))) xs us → Paired (fun t r => H t = some (.tup (intsI r))) ys vs → Paired (fun t r => H t = some (.tup (intsI r))) (xs ++ ys) (us ++ vs) := by
    intro xs ys us vs h1 h2
    induction h1 with
    | nil => exact h2
    | cons a _ ih => exact .cons a ih
  exact app (app (tk h) (.cons hu .nil)) (dr h)
section
variable {P : Program} {w : World} {K : PySem.W.Frag} {mg : Str → Option Value} {base : Heap}
theorem ok_moved {f fD : Addr} {fd fdD : FuncData} (F : Fun K "_law_moved" "_law_moved" sLawMoved f fd) (D : Cal P w K mg base "_law_draw" 1 ["bag", "many"] (spDrawC K) fD fdD) (b_len : mg "len" = none) (b_list : mg "list" = none) (b_tuple : mg "tuple" = none) (b_min : mg "min" = none) (b_max : mg "max" = none) : FnOk P w K mg base CX0 2 f fd ["bag", "rows"] (spMo K) := by
  refine F.ok scLawMoved (fun vs H Q E h => ?_) (fun cdv A outer s H vs Q E hr h => ?_)
  · obtain ⟨b, c, ns, v, sg, rs, rfl, _⟩ := h
    rfl
  · obtain ⟨b, c, ns, v, sg, rs, rfl, B, ⟨a, ts, rfl, ha, hts⟩, hok, q⟩ := h
    refine ⟨_, (pss_cons (ps_set (i := 2) scLawMoved.nd rfl (.inl rfl) (pe_call D.ok (hr.mono (by omega)) rfl D.g D.kp D.b .nil pass0 (pa_cons (pv 0) (pa_cons (pe_callB call_len rfl b_len (by decide +kernel) (pa_cons (pv 1) pa_nil)) pa_nil))))
      (pss_cons (ps_set (i := 3) scLawMoved.nd rfl (.inl rfl) (pe_callTy call_list_of rfl b_list (by decide +kernel) (pa_cons (pe_ix ix_tup (pv 1) (pv 2) (fun _ _ => rfl)) pa_nil)))
      (pss_cons (ps_par (i := 4) (j := 5) rfl scLawMoved.nd rfl rfl (by decide) rfl rfl (pa_cons (pe_call D.ok (hr.mono (by omega)) rfl D.g D.kp D.b .nil pass0 (pa_cons (pv 0) (pa_cons (pe_callB call_len rfl b_len (by decide +kernel) (pa_cons (pv 3) pa_nil)) pa_nil))) (pa_cons (pe_call D.ok (hr.mono (by omega)) rfl D.g D.kp D.b .nil pass0 (pa_cons (pv 0) (pa_cons (pe_callB call_len rfl b_len (by decide +kernel) (pa_cons (pv 3) pa_nil)) pa_nil))) pa_nil)) rfl)
      (pss_cons (ps_asg (pe_callB (call_min2 rfl) rfl b_min (by decide +kernel) (pa_cons pe_int (pa_cons (pe_op op_add (pe_ix ix_list (pv 3) (pv 4) (fun _ _ => rfl)) pe_int) pa_nil))) (pg_sub (pv 3) (pv 4) set_list))
      (C8.pss_cut (ps_if (pt_cmpR op_gt (pe_call D.ok (hr.mono (by omega)) rfl D.g D.kp D.b .nil pass0 (pa_cons (pv 0) (pa_cons pe_int pa_nil))) pe_int rfl) (pss_one (ps_asg (pe_callB (call_max2 rfl) rfl b_max (by decide +kernel) (pa_cons pe_int (pa_cons (pe_op op_sub (pe_ix ix_list (pv 3) (pv 5) (fun _ _ => rfl)) pe_int) pa_nil))) (pg_sub (pv 3) (pv 5) set_list))) pss_nil)
      (pss_one (ps_ret (pe_op op_catA (pe_op op_catA (pe_slice sl_tup (pv 1) po_none (po_some (pv 2))) (pe_tup (pa_cons (pe_callTy call_tuple_of rfl b_tuple (by decide +kernel) (pa_cons (pv 3) pa_nil)) pa_nil))) (pe_slice sl_tup (pv 1) (po_some (pe_op op_add (pv 2) pe_int)) po_none))))))))), ?_⟩
    obtain ⟨r1, r2, r3⟩ := rows_of hok
    have hl := hts.length
    have h0 : 0 < rs.length := List.length_pos_iff.mpr r1
    refine ⟨_, rfl, _, rfl, _, _, rfl, .inr ⟨_, SqT.of ha, rfl⟩, b, _, c, ns, rfl, B, by rw [List.length_map]; omega, by rw [List.length_map]; omega, fun x H1 x0 x1 B1 t1 => ?_⟩
    rw [List.length_map] at x1
    obtain ⟨i, rfl⟩ : ∃ i : Nat, x = i := ⟨x.toNat, by omega⟩
    have hi : i < rs.length := by omega
    have er : rs[i]? = some rs[i] := List.getElem?_eq_getElem hi
    obtain ⟨t, et, ht⟩ := paired_at hts er
    obtain ⟨p1, p2, p3⟩ := r3 _ (List.mem_of_getElem? er)
    generalize rs[i] = r at er ht p1 p2 p3
    have ha1 := B.tup t1 ha
    have ht1 := B.tup t1 ht
    have hts1 := Paired.mapP hts fun _ _ y => B.tup t1 y
    refine ⟨_, rfl, _, rfl, a, _, _, _, rfl, rfl, SqT.of ha1, atI_nat (by rw [List.getElem?_map, et]; rfl), t, _, rfl, .inr (SqT.of ht1), fun L nL => ?_⟩
    have hL : (upd H1 L (.lst (intsI r))) L = some (.lst (intsI r)) := upd_same
    have B2 := B1.new (o := .lst (intsI r)) nL
    have nLb := B1.ne nL
    have offL := B1.off nL
    have ha2 := same_upd (o := .lst (intsI r)) nL _ _ ha1
    have hts2 := Paired.mapP hts1 fun _ _ y => same_upd (o := .lst (intsI r)) nL _ _ y
    have t2 : But b H (upd H1 L (.lst (intsI r))) := t1.trans (But.new nL)
    have nLH : H L = none := by
      cases hx : H L with
      | none => rfl
      | some o => rw [t1 _ _ nLb hx] at nL; cases nL
    generalize upd H1 L (.lst (intsI r)) = H2 at hL B2 ha2 hts2 t2 ⊢
    have hr0 : 0 < r.length := List.length_pos_iff.mpr p1
    refine ⟨_, rfl, _, rfl, _, _, rfl, .inl ⟨_, SqL.of hL, rfl⟩, b, _, c, ns, rfl, B2, by rw [List.length_map]; omega, by rw [List.length_map]; omega, fun x H3 x0 x1' B3 t3 => ?_⟩
    have hL3 := t3 _ _ nLb hL
    refine ⟨_, rfl, _, rfl, _, _, rfl, .inl ⟨_, SqL.of hL3, rfl⟩, b, _, c, ns, rfl, B3, by rw [List.length_map]; omega, by rw [List.length_map]; omega, fun y H4 y0 y1 B4 t4 => ?_⟩
    have hL4 := t4 _ _ nLb hL3
    rw [List.length_map] at x1' y1
    obtain ⟨j, rfl⟩ : ∃ j : Nat, x = j := ⟨x.toNat, by omega⟩
    obtain ⟨m, rfl⟩ : ∃ m : Nat, y = m := ⟨y.toNat, by omega⟩
    have hj : j < r.length := by omega
    have hm : m < r.length := by omega
    have ha4 := B3.tup t4 (B2.tup t3 ha2)
    have hts4 := Paired.mapP hts2 fun _ _ y => B3.tup t4 (B2.tup t3 y)
    have tH4 := t2.trans (t3.trans t4)
    have hrj : (intsI r)[j]? = some (.int r[j]) := by rw [List.getElem?_map, List.getElem?_eq_getElem hj]; rfl
    have bj := p3 _ (List.getElem_mem hj)
    refine ⟨_, _, rfl, _, rfl, _, rfl, L, _, _, _, rfl, rfl, SqL.of hL4, atI_nat hrj, _, _, rfl, rfl, _, _, rfl, _, rfl, _, rfl, L, _, _, j, rfl, rfl, hL4, Evl.ixN_nat (by rw [List.length_map]; exact hj), ?_⟩
    rw [intsI_set]
    have by1 : bd sg (if r[j] + 1 < 999999999 then r[j] + 1 else 999999999) := by
      obtain ⟨b1, b2⟩ := bj
      unfold bd
      cases sg <;> simp at b1 ⊢ <;> split <;> omega
    generalize (if r[j] + 1 < 999999999 then r[j] + 1 else 999999999) = y1 at by1 ⊢
    have up : ∀ {G : Hp} {a : Addr} {xs l : List V} {o : HO}, G L = some (.lst l) → G a = some (.tup xs) → (upd G L o) a = some (.tup xs) := fun {G a xs l o} hl h => by
      rw [upd_ne (fun e => by rw [e, hl] at h; cases h)]
      exact h
    have hL5 : (upd H4 L (.lst (intsI (r.set j y1)))) L = some (.lst (intsI (r.set j y1))) := upd_same
    have B5 : BagC K (upd H4 L (.lst (intsI (r.set j y1)))) b c ns := B4.upd offL nLb
    have t5 : But b H (upd H4 L (.lst (intsI (r.set j y1)))) := tH4.updF nLH
    have ha5 := up (o := .lst (intsI (r.set j y1))) hL4 ha4
    have hts5 := Paired.mapP hts4 fun _ _ y => up (o := .lst (intsI (r.set j y1))) hL4 y
    have p5 := bd_set (j := j) p3 by1
    have l5 : (r.set j y1).length = r.length := List.length_set
    generalize upd H4 L (.lst (intsI (r.set j y1))) = H5 at hL5 B5 t5 ha5 hts5 ⊢
    generalize r.set j y1 = r5 at hL5 p5 l5
    refine ⟨fun σ2 G => σ2 = [some (.ref b), some (.ref a), some (.int (i : Nat)), some (.ref L), some (.int (j : Nat)), some (.int (m : Nat))] ∧ But b H G ∧ BagC K G b c ns ∧ G a = some (.tup (ts.map V.ref)) ∧ Paired (fun t r => G t = some (.tup (intsI r))) ts rs ∧ ∃ r2, G L = some (.lst (intsI r2)) ∧ r2.length = r.length ∧ ∀ x ∈ r2, bd sg x, ?_, ?_⟩
    · refine ⟨_, rfl, b, 4, c, ns, rfl, B5, by decide, by decide, fun z H6 z0 z1 B6 t6 => ?_⟩
      have hL6 := t6 _ _ nLb hL5
      have ha6 := B5.tup t6 ha5
      have hts6 := Paired.mapP hts5 fun _ _ y => B5.tup t6 y
      refine ⟨_, _, rfl, rfl, _, rfl, ite2 (fun _ => ?_) (fun _ => ⟨rfl, t5.trans t6, B6, ha6, hts6, r5, hL6, l5, p5⟩)⟩
      have hm5 : m < r5.length := by omega
      have hrm : (intsI r5)[m]? = some (.int r5[m]) := by rw [List.getElem?_map, List.getElem?_eq_getElem hm5]; rfl
      have bm := p5 _ (List.getElem_mem hm5)
      refine ⟨_, rfl, _, rfl, L, _, _, _, rfl, rfl, SqL.of hL6, atI_nat hrm, _, _, rfl, rfl, _, _, rfl, _, rfl, _, rfl, L, _, _, m, rfl, rfl, hL6, Evl.ixN_nat (by rw [List.length_map]; exact hm5), ?_⟩
      rw [intsI_set]
      have by2 : bd sg (if r5[m] - 1 > 0 then r5[m] - 1 else 0) := by
        obtain ⟨b1, b2⟩ := bm
        unfold bd
        cases sg <;> simp at b1 ⊢ <;> split <;> omega
      exact ⟨rfl, (t5.trans t6).updF nLH, B6.upd offL nLb, up hL6 ha6, Paired.mapP hts6 fun _ _ y => up hL6 y, _, upd_same, by rw [List.length_set]; exact l5, bd_set p5 by2⟩
    · rintro σ2 G ⟨rfl, tG, BG, haG, htsG, r2, gL, l2, b2⟩
      have nwA : ¬ (HT.sIx (ts.map V.ref).length 0 none = 0 ∧ HT.sIx (ts.map V.ref).length (ts.map V.ref).length (some ((i : Nat) : Int)) = (ts.map V.ref).length) := by
        rintro ⟨_, z⟩
        rw [show HT.sIx (ts.map V.ref).length (ts.map V.ref).length (some ((i : Nat) : Int)) = min i (ts.map V.ref).length from HT.sIx_nat _ _ _, List.length_map] at z
        omega
      have nwB : ¬ (HT.sIx (ts.map V.ref).length 0 (some ((i + 1 : Nat) : Int)) = 0 ∧ HT.sIx (ts.map V.ref).length (ts.map V.ref).length none = (ts.map V.ref).length) := by
        rintro ⟨z, _⟩
        rw [show HT.sIx (ts.map V.ref).length 0 (some ((i + 1 : Nat) : Int)) = min (i + 1) (ts.map V.ref).length from HT.sIx_nat _ _ _, List.length_map] at z
        omega
      refine ⟨_, rfl, _, rfl, _, rfl, a, _, rfl, SqT.of haG, nwA, fun q1 n1 => ?_⟩
      rw [cut_toG (by rw [List.length_map]; omega)]
      have s1 := same_upd (H := G) (o := .tup ((ts.map V.ref).take i)) n1
      have hq1 : (upd G q1 (.tup ((ts.map V.ref).take i))) q1 = some (.tup ((ts.map V.ref).take i)) := upd_same
      generalize upd G q1 (.tup ((ts.map V.ref).take i)) = G1 at s1 hq1 ⊢
      refine ⟨_, rfl, L, _, rfl, .inl ⟨SqL.of (s1 _ _ gL), fun u nu => ⟨by show 1 ≤ sizeLine; decide, fun q2 n2 => ?_⟩⟩⟩
      have s2 := (same_upd (H := G1) (o := .tup (intsI r2)) nu).trans (same_upd (o := .tup [.ref u]) n2)
      have hq2 : (upd (upd G1 u (.tup (intsI r2))) q2 (.tup [.ref u])) q2 = some (.tup [.ref u]) := upd_same
      have hu2 : (upd (upd G1 u (.tup (intsI r2))) q2 (.tup [.ref u])) u = some (.tup (intsI r2)) := same_upd n2 _ _ upd_same
      generalize upd (upd G1 u (.tup (intsI r2))) q2 (.tup [.ref u]) = G2 at s2 hq2 hu2 ⊢
      refine cat_any (s2 _ _ hq1) hq2 (by rw [List.length_take, List.length_map]; show _ + 1 ≤ _; omega) fun q3 G3 s3 h3 => ?_
      refine ⟨_, rfl, _, rfl, _, _, rfl, rfl, ((i + 1 : Nat) : Int), congrArg V.int (by omega), a, _, rfl, SqT.of (s3 _ _ (s2 _ _ (s1 _ _ haG))), nwB, fun q4 n4 => ?_⟩
      rw [cut_fromG]
      have s4 := same_upd (H := G3) (o := .tup ((ts.map V.ref).drop (i + 1))) n4
      have hq4 : (upd G3 q4 (.tup ((ts.map V.ref).drop (i + 1)))) q4 = some (.tup ((ts.map V.ref).drop (i + 1))) := upd_same
      generalize upd G3 q4 (.tup ((ts.map V.ref).drop (i + 1))) = G4 at s4 hq4 ⊢
      refine cat_any (s4 _ _ h3) hq4 (by rw [List.length_append, List.length_take, List.length_drop, List.length_map]; show _ + 1 + _ ≤ _; omega) fun q5 G5 s5 h5 => ?_
      have sA := s1.trans (s2.trans (s3.trans (s4.trans s5)))
      have hu5 := s5 _ _ (s4 _ _ (s3 _ _ hu2))
      refine q _ _ ⟨rs.take i ++ [r2] ++ rs.drop (i + 1), ⟨q5, ts.take i ++ [u] ++ ts.drop (i + 1), rfl, ?_, rows_set (Paired.mapP htsG fun _ _ y => sA _ _ y) hu5 hi⟩, rows_to ⟨by simp, ?_, fun z hz => ?_⟩⟩ (BG.same sA) (tG.trans (But.of sA))
      · rw [h5, List.map_append, List.map_append, List.map_take, List.map_drop]
        rfl
      · rw [List.length_append, List.length_append, List.length_take, List.length_drop]
        show _ + 1 + _ ≤ _
        omega
      · rcases List.mem_append.mp hz with hz | hz
        · rcases List.mem_append.mp hz with hz | hz
          · exact r3 z (List.mem_of_mem_take hz)
          · rw [List.mem_singleton.mp hz]
            exact ⟨fun e => by rw [e] at l2; simp at l2; omega, by omega, b2⟩
        · exact r3 z (List.mem_of_mem_drop hz)
end
end My

set_option Elab.async false
set_option linter.all false
set_option maxRecDepth 100000
namespace My
open PySem PySem.Spec PyProof.Rows L2 SX
abbrev sLawNearEntry : Stmt := topS 60
theorem scLawNearEntry : FnScope ["bag", "world", "entry", "word", "head", "last", "quiet", "number", "some", "one", "salt", "text", "other"] ["bag", "world", "entry"] (defScope sLawNearEntry) := ⟨rfl, rfl, rfl, by decide +kernel, rfl, by decide +kernel, by decide +kernel⟩
theorem hu_of {k : Nat} {A : Around} (r : Room k A) : A.units + 1 < cLine := by have := r.un; omega
/-- the law's world -/
def WorldAt (H : Hp) (b wd : Addr) : Prop := ∃ tl l1 l2, wd ≠ b ∧ tl ≠ b ∧ H wd = some (.dK [(.inr "texts", .ref tl)]) ∧ H tl = some (.lst [tx l1, tx l2]) ∧ (l1.length ≤ 60 ∧ ∀ c ∈ l1, good c) ∧ (l2.length ≤ 60 ∧ ∀ c ∈ l2, good c)
theorem WorldAt.but {H H' : Hp} {b wd : Addr} (h : WorldAt H b wd) (s : But b H H') : WorldAt H' b wd := by
  obtain ⟨tl, l1, l2, n1, n2, e1, e2, r⟩ := h
  exact ⟨tl, l1, l2, n1, n2, s _ _ n1 e1, s _ _ n2 e2, r⟩
def spNe (K : PySem.W.Frag) : Sp := fun vs H Q _ => ∃ (b c : Addr) (ns : List Int) (wd t : Addr) (e : Ent) (m : Nat), vs = [.ref b, .ref wd, .ref t] ∧ BagC K H b c ns ∧ WorldAt H b wd ∧ EntAt H t e ∧ e.ok ∧ seatsLen e ≤ m ∧ m ≤ 8 ∧ ∀ v H', RE (m + 1) H' v → BagC K H' b c ns → But b H H' → Q v H'
theorem pat_last0 (w : Wd) : pat w = (pat w).dropLast ++ [lastKd w] := by cases w <;> rfl
theorem okAll_put : ∀ {ks : List Kd} {ps : List Part} {k : Kd} {p : Part}, okAll ks ps → okP k p → okAll (ks ++ [k]) (ps ++ [p])
  | [], [], _, _, _, h => ⟨h, trivial⟩
  | _ :: _, _ :: _, _, _, h, hk => ⟨h.1, okAll_put h.2 hk⟩
  | [], _ :: _, _, _, h, _ => h.elim
  | _ :: _, [], _, _, h, _ => h.elim
def seatsP : Part → Nat
  | .nums r => r.length
  | _ => 0
theorem seats_put (w : Wd) : ∀ (ps0 : List Part) (p : Part), seatsLen ⟨w, ps0 ++ [p]⟩ = if ps0.length = 1 then seatsP p else 0
  | [], p => by cases p <;> rfl
  | [a], p => by cases p <;> rfl
  | a :: b :: ps, p => by
    have : (a :: b :: ps).length ≠ 1 := by simp
    rw [if_neg this]
    cases b <;> cases ps <;> rfl
theorem paired_put {α β : Type} {F : α → β → Prop} {xs : List α} {ys : List β} {x : α} {y : β} (h : Paired F xs ys) (e : F x y) : Paired F (xs ++ [x]) (ys ++ [y]) := Paired.snoc h e
/-- head + (X,): an entry -/
theorem fin_cat {K : PySem.W.Frag} {G : Hp} {hd : Addr} {w : Wd} {vs0 : List V} {ps0 : List Part} {X : V} {p : Part} {m : Nat} {Q : VK} (h : G hd = some (.tup (.str (wdS w) :: vs0))) (h0 : Paired (PartAt G) vs0 ps0) (k0 : okAll (pat w).dropLast ps0) (hX : PartAt G X p) (kp : okP (lastKd w) p) (hm : seatsLen ⟨w, ps0 ++ [p]⟩ ≤ m) (q : ∀ v H', RE m H' v → Same G H' → Q v H') : 1 ≤ sizeLine ∧ ∀ u, G u = none → rCatA K (.ref hd) (.ref u) (L2.upd G u (.tup [X])) Q := by
  refine ⟨by decide, fun u nu => cat_any (same_upd nu _ _ h) upd_same ?_ fun r H' s hr => ?_⟩
  · have h1 := h0.length
    have h2 := okAll_len k0
    have h3 : (pat w).dropLast.length ≤ 6 := by cases w <;> decide
    rw [List.length_cons]
    show _ + 1 ≤ 1000
    omega
  · have sA := (same_upd nu).trans s
    refine q _ _ ⟨r, ⟨w, ps0 ++ [p]⟩, rfl, ⟨vs0 ++ [X], hr, paired_put (Paired.mapP h0 fun _ _ y => y.same sA) (hX.same sA)⟩, ?_, hm⟩ sA
    show okAll (pat w) (ps0 ++ [p])
    rw [pat_last0]
    exact okAll_put k0 kp
theorem row1_at {G : Hp} {a1 a2 : Addr} {r : List Int} (n1 : G a1 = none) (n2 : (L2.upd G a1 (.tup (intsI r))) a2 = none) : PartAt (L2.upd (L2.upd G a1 (.tup (intsI r))) a2 (.tup [.ref a1])) (.ref a2) (.rows [r]) ∧ Same G (L2.upd (L2.upd G a1 (.tup (intsI r))) a2 (.tup [.ref a1])) :=
  ⟨⟨a2, [a1], rfl, upd_same, .cons (same_upd n2 _ _ upd_same) .nil⟩, (same_upd n1).trans (same_upd n2)⟩
theorem slice1 {K : PySem.W.Frag} {G : Hp} {a : Addr} {xs : List V} {Q : VK} (ha : G a = some (.tup xs)) (q : ∀ r G', Same G G' → G' r = some (.tup (xs.drop 1)) → Q (.ref r) G') : rSlA K (.ref a) (some 1) none G Q := by
  refine ⟨a, xs, rfl, SqT.of ha, fun h => ?_, fun _ p np => ?_⟩
  · have e1 : HT.sIx xs.length 0 (some ((1 : Nat) : Int)) = min 1 xs.length := HT.sIx_nat _ _ 1
    have h1 : HT.sIx xs.length 0 (some ((1 : Nat) : Int)) = 0 := h.1
    rw [e1] at h1
    have : xs = [] := List.length_eq_zero_iff.mp (by omega)
    subst this
    exact q a G (Same.refl _) ha
  · rw [show cutV xs (some 1) none = xs.drop 1 from cut_fromG 1]
    exact q p _ (same_upd np) upd_same
theorem RE.same {m : Nat} {H H' : Hp} {v : V} (h : RE m H v) (s : Same H H') : RE m H' v := by
  obtain ⟨t, e, rfl, hE, r⟩ := h
  exact ⟨t, e, rfl, hE.same s, r⟩
theorem RE.but {K : PySem.W.Frag} {m : Nat} {H H' : Hp} {b c : Addr} {ns : List Int} {v : V} (h : RE m H v) (B : BagC K H b c ns) (s : But b H H') : RE m H' v := by
  obtain ⟨t, e, rfl, ⟨vs, h1, h2⟩, r⟩ := h
  exact ⟨t, e, rfl, ⟨vs, B.tup s h1, Paired.mapP h2 fun _ _ y => y.but B s⟩, r⟩
section
variable {P : Program} {w : World} {K : PySem.W.Frag} {mg : Str → Option Value} {base : Heap}
set_option maxHeartbeats 4000000 in
theorem ok_near {f fD fO fM : Addr} {fd fdD fdO fdM : FuncData} (F : Fun K "_law_near_entry" "_law_near_entry" sLawNearEntry f fd) (D : Cal P w K mg base "_law_draw" 1 ["bag", "many"] (spDrawC K) fD fdD) (O : Cal P w K mg base "_law_of" 2 ["bag", "things"] (spOfC K) fO fdO) (Mo : Cal P w K mg base "_law_moved" 2 ["bag", "rows"] (spMo K) fM fdM) (b_len : mg "len" = none) (b_isinstance : mg "isinstance" = none) (b_str : mg "str" = none) (b_int : mg "int" = none) (b_tuple : mg "tuple" = none) (b_sorted : mg "sorted" = none) (b_min : mg "min" = none) (b_max : mg "max" = none) : FnOk P w K mg base CX0 3 f fd ["bag", "world", "entry"] (spNe K) := by
  refine F.ok scLawNearEntry (fun vs H Q E h => ?_) (fun cdv A outer s H vs Q E hr h => ?_)
  · obtain ⟨b, c, ns, wd, t, e, m, rfl, _⟩ := h
    rfl
  · obtain ⟨b, c, ns, wd, t, e, m, rfl, B, W, hE, hok, hs, hm, q⟩ := h
    refine ⟨_, (pss_cons (ps_par3 (i := 3) (j := 4) (l := 5) rfl scLawNearEntry.nd rfl rfl rfl (by decide) (by decide) (by decide) rfl rfl rfl (pa_cons (pe_ix ix_tup (pv 2) pe_int (fun _ _ => rfl)) (pa_cons (pe_slice sl_tup (pv 2) po_none (po_some (pe_op op_sub (pe_callB call_len rfl b_len (by decide +kernel) (pa_cons (pv 2) pa_nil)) pe_int))) (pa_cons (pe_ix ix_tup (pv 2) (pe_op op_sub (pe_callB call_len rfl b_len (by decide +kernel) (pa_cons (pv 2) pa_nil)) pe_int) (fun _ _ => rfl)) pa_nil))) rfl)
      (pss_cons (ps_set (i := 6) scLawNearEntry.nd rfl (.inl rfl) (pe_call O.ok (hr.mono (by omega)) rfl O.g O.kp O.b .nil pass0 (pa_cons (pv 0) (pa_cons (pe_lst (pa_cons pe_str (pa_cons pe_str pa_nil))) pa_nil))))
      (pss_cons (ps_if (pt_cmpR op_eq (pv 3) pe_str rfl) (pss_cons (ps_if (pt_val (pe_callB call_isi rfl b_isinstance (by decide +kernel) (pa_cons (pv 5) (pa_cons (pe_ty "str" rfl b_str (by decide +kernel)) pa_nil)))) (pss_one (ps_ret (pe_op op_catA (pv 4) (pe_tup (pa_cons (pe_call O.ok (hr.mono (by omega)) rfl O.g O.kp O.b .nil pass0 (pa_cons (pv 0) (pa_cons (pe_lst (pa_cons (pv 6) (pa_cons (pe_tup (pa_cons (pe_tup (pa_cons pe_int pa_nil)) pa_nil)) (pa_cons (pe_tup (pa_cons (pe_tup (pa_cons pe_int (pa_cons pe_int pa_nil))) pa_nil)) (pa_cons (pe_tup (pa_cons (pe_tup (pa_cons pe_int (pa_cons pe_int (pa_cons pe_int pa_nil)))) pa_nil)) pa_nil))))) pa_nil))) pa_nil))))) pss_nil)
        (pss_one (ps_ret (pe_op op_catA (pv 4) (pe_tup (pa_cons (pe_call O.ok (hr.mono (by omega)) rfl O.g O.kp O.b .nil pass0 (pa_cons (pv 0) (pa_cons (pe_lst (pa_cons (pv 6) (pa_cons (pe_call Mo.ok (hr.mono (by omega)) rfl Mo.g Mo.kp Mo.b .nil pass0 (pa_cons (pv 0) (pa_cons (pv 5) pa_nil))) (pa_cons (pe_call Mo.ok (hr.mono (by omega)) rfl Mo.g Mo.kp Mo.b .nil pass0 (pa_cons (pv 0) (pa_cons (pv 5) pa_nil))) (pa_cons (pe_call Mo.ok (hr.mono (by omega)) rfl Mo.g Mo.kp Mo.b .nil pass0 (pa_cons (pv 0) (pa_cons (pv 5) pa_nil))) pa_nil))))) pa_nil))) pa_nil)))))) pss_nil)
      (pss_cons (ps_if (pt_cmpR op_eq (pv 3) pe_str rfl) (pss_cons (ps_set (i := 7) scLawNearEntry.nd rfl (.inr rfl) (pe_call D.ok (hr.mono (by omega)) rfl D.g D.kp D.b .nil pass0 (pa_cons (pv 0) (pa_cons pe_int pa_nil))))
        (pss_cons (ps_set (i := 8) scLawNearEntry.nd rfl (.inl rfl) (pe_ifExp (pt_val (pe_callB call_isi rfl b_isinstance (by decide +kernel) (pa_cons (pv 5) (pa_cons (pe_ty "str" rfl b_str (by decide +kernel)) pa_nil)))) (pe_lst (pa_cons pe_int pa_nil)) (pe_lc (own := [("one", 9)]) (g := gName 9) (tt := tTest (tOp rNe (tVar 9) (tVar 7))) (te := tVar 9) rfl scLawNearEntry.nd (pi_tup (pv 5)) (blkOk_by (own := [("one", 9)]) (N := ["bag", "world", "entry", "word", "head", "last", "quiet", "number", "some", "one", "salt", "text", "other"]) (sc := defScope sLawNearEntry) (by decide +kernel)) (fun _ _ _ _ _ => (pg_name (i := 9) scLawNearEntry.nd rfl (.inl rfl) (.inr rfl))) (fun _ _ _ _ _ => (pts_one (pt_cmpR op_ne (pv 9) (pv 7) rfl))) (fun _ _ _ _ _ => (pv 9)))))
        (C8.pss_cut (ps_set (i := 8) scLawNearEntry.nd rfl (.inl rfl) (pe_ifExp (pt_not (pt_val (pe_callB call_isi rfl b_isinstance (by decide +kernel) (pa_cons (pv 5) (pa_cons (pe_ty "str" rfl b_str (by decide +kernel)) pa_nil))))) (pe_op op_cat (pv 8) (pe_ifExp (PW.pt (pw_and (pt_cmpR op_notIn_seq (pv 7) (pv 5) rfl) (pw_and1 (pt_cmpR op_lt (pe_callB call_len rfl b_len (by decide +kernel) (pa_cons (pv 8) pa_nil)) pe_int rfl)))) (pe_lst (pa_cons (pv 7) pa_nil)) (pe_lst pa_nil))) (pv 8)))
        (pss_one (ps_ret (pe_op op_catA (pv 4) (pe_tup (pa_cons (pe_call O.ok (hr.mono (by omega)) rfl O.g O.kp O.b .nil pass0 (pa_cons (pv 0) (pa_cons (pe_lst (pa_cons (pv 6) (pa_cons (pe_callTy call_tuple_of rfl b_tuple (by decide +kernel) (pa_cons (pe_callB cr_sortedI rfl b_sorted (by decide +kernel) (pa_cons (pv 8) pa_nil)) pa_nil)) (pa_cons (pe_callTy call_tuple_of rfl b_tuple (by decide +kernel) (pa_cons (pe_callB cr_sortedI rfl b_sorted (by decide +kernel) (pa_cons (pv 8) pa_nil)) pa_nil)) (pa_cons (pe_callTy call_tuple_of rfl b_tuple (by decide +kernel) (pa_cons (pv 8) pa_nil)) pa_nil))))) pa_nil))) pa_nil)))))))) pss_nil)
      (pss_cons (ps_if (pt_cmpR op_eq (pv 3) pe_str rfl) (pss_cons (ps_asg (pe_ifExp (pt_val (pe_callB call_isi rfl b_isinstance (by decide +kernel) (pa_cons (pv 5) (pa_cons (pe_ty "str" rfl b_str (by decide +kernel)) pa_nil)))) (pe_tup (pa_cons pe_int (pa_cons pe_str pa_nil))) (pv 5)) (pg_tup rfl (pgs_cons (pg_name (i := 10) scLawNearEntry.nd rfl (.inl rfl)) (pgs_cons (pg_name (i := 11) scLawNearEntry.nd rfl (.inl rfl)) pgs_nil))))
        (pss_cons (ps_set (i := 12) scLawNearEntry.nd rfl (.inl rfl) (pe_tup (pa_cons (pv 10) (pa_cons (pe_call O.ok (hr.mono (by omega)) rfl O.g O.kp O.b .nil pass0 (pa_cons (pv 0) (pa_cons (pe_dget (hu_of hr) (pv 1) pe_str (fun _ _ => rfl)) pa_nil))) pa_nil))))
        (pss_one (ps_ret (pe_op op_catA (pv 4) (pe_tup (pa_cons (pe_call O.ok (hr.mono (by omega)) rfl O.g O.kp O.b .nil pass0 (pa_cons (pv 0) (pa_cons (pe_lst (pa_cons (pv 6) (pa_cons (pe_tup (pa_cons (pe_op op_mod (pe_callTy call_int1 rfl b_int (by decide +kernel) (pa_cons (pe_op op_add (pv 10) pe_int) pa_nil)) pe_int) (pa_cons (pv 11) pa_nil))) (pa_cons (pv 12) (pa_cons (pv 12) pa_nil))))) pa_nil))) pa_nil))))))) pss_nil)
      (pss_cons (ps_if (pt_cmpR op_eq (pv 3) pe_str rfl) (pss_one (ps_ret (pe_op op_catA (pv 4) (pe_tup (pa_cons (pe_call Mo.ok (hr.mono (by omega)) rfl Mo.g Mo.kp Mo.b .nil pass0 (pa_cons (pv 0) (pa_cons (pv 5) pa_nil))) pa_nil))))) pss_nil)
      (pss_cons (ps_if (pt_cmpR op_eq (pv 3) pe_str rfl) (pss_one (ps_ret (pe_call O.ok (hr.mono (by omega)) rfl O.g O.kp O.b .nil pass0 (pa_cons (pv 0) (pa_cons (pe_lst (pa_cons (pe_op op_catA (pv 4) (pe_tup (pa_cons (pe_op op_catA (pv 5) (pe_tup (pa_cons pe_int pa_nil))) pa_nil))) (pa_cons (pe_op op_catA (pv 4) (pe_tup (pa_cons (pe_slice sl_tupA (pv 5) (po_some pe_int) po_none) pa_nil))) (pa_cons (pe_tup (pa_cons pe_str (pa_cons pe_str (pa_cons (pv 5) pa_nil)))) (pa_cons (pe_tup (pa_cons pe_str (pa_cons pe_str (pa_cons (pv 5) pa_nil)))) pa_nil))))) pa_nil))))) pss_nil)
      (pss_cons (ps_if (pt_cmpR op_eq (pv 3) pe_str rfl) (pss_one (ps_ret (pe_op op_catA (pv 4) (pe_tup (pa_cons (pe_call O.ok (hr.mono (by omega)) rfl O.g O.kp O.b .nil pass0 (pa_cons (pv 0) (pa_cons (pe_lst (pa_cons pe_str (pa_cons pe_str (pa_cons pe_str (pa_cons pe_str (pa_cons pe_str (pa_cons pe_str (pa_cons pe_str (pa_cons pe_str pa_nil))))))))) pa_nil))) pa_nil))))) pss_nil)
      (pss_one (ps_ret (pe_op op_catA (pv 4) (pe_tup (pa_cons (pe_call O.ok (hr.mono (by omega)) rfl O.g O.kp O.b .nil pass0 (pa_cons (pv 0) (pa_cons (pe_lst (pa_cons (pe_callB (call_min2 rfl) rfl b_min (by decide +kernel) (pa_cons (pe_op op_add (pv 5) pe_int) (pa_cons pe_int pa_nil))) (pa_cons (pe_callB (call_max2 rfl) rfl b_max (by decide +kernel) (pa_cons (pe_op op_sub (pv 5) pe_int) (pa_cons pe_int pa_nil))) pa_nil))) pa_nil))) pa_nil))))))))))))), ?_⟩
    obtain ⟨vs, ht, hvs⟩ := id hE
    obtain ⟨w', ps⟩ := e
    have hk : okAll (pat w') ps := hok
    rw [pat_last0] at hk
    obtain ⟨ps0, p, eps, k0, kp⟩ := okAll_snoc hk
    have eps : ps = ps0 ++ [p] := eps
    subst eps
    obtain ⟨vs0, v, evs, h0, hv⟩ := paired_snoc_inv hvs
    subst evs
    have ht : H t = some (.tup (.str (wdS w') :: (vs0 ++ [v]))) := ht
    have h0l := h0.length
    have k0l := okAll_len k0
    have hlen : (V.str (wdS w') :: (vs0 ++ [v])).length = (vs0.length + 1) + 1 := by simp
    have hlast : (V.str (wdS w') :: (vs0 ++ [v]))[vs0.length + 1]? = some v := by simp
    refine ⟨_, rfl, t, _, 0, _, rfl, rfl, SqT.of ht, atI_nat rfl, _, rfl, _, rfl, _, _, rfl, .inr ⟨_, SqT.of ht, rfl⟩, _, _, rfl, rfl, ((vs0.length + 1 : Nat) : Int), ?_, t, _, rfl, SqT.of ht, ?_, fun hd nhd => ?_⟩
    · show V.int _ = _
      rw [hlen]
      exact congrArg V.int (by omega)
    · rintro ⟨_, z⟩
      rw [show HT.sIx (V.str (wdS w') :: (vs0 ++ [v])).length (V.str (wdS w') :: (vs0 ++ [v])).length (some ((vs0.length + 1 : Nat) : Int)) = min (vs0.length + 1) (V.str (wdS w') :: (vs0 ++ [v])).length from HT.sIx_nat _ _ _, hlen] at z
      omega
    have ecut : cutV (V.str (wdS w') :: (vs0 ++ [v])) none (some ((vs0.length + 1 : Nat) : Int)) = V.str (wdS w') :: vs0 := by
      rw [cut_toG (by rw [hlen]; omega), List.take_succ_cons, List.take_append_of_le_length (by simp), List.take_of_length_le (by simp)]
    rw [ecut]
    have s1 : Same H (upd H hd (.tup (V.str (wdS w') :: vs0))) := same_upd nhd
    have hhd : (upd H hd (.tup (V.str (wdS w') :: vs0))) hd = some (.tup (V.str (wdS w') :: vs0)) := upd_same
    have ht1 := s1 _ _ ht
    have h01 := Paired.mapP h0 fun _ _ y => PartAt.same s1 y
    have hv1 := hv.same s1
    have B1 := B.same s1
    have W1 := W.but (But.of s1)
    generalize upd H hd (.tup (V.str (wdS w') :: vs0)) = H1 at s1 hhd ht1 h01 hv1 B1 W1 ⊢
    refine ⟨_, rfl, _, rfl, _, _, rfl, .inr ⟨_, SqT.of ht1, rfl⟩, _, _, rfl, rfl, t, _, _, v, rfl, rfl, SqT.of ht1, ?_, ?_⟩
    · rw [hlen, show (((vs0.length + 1 + 1 : Nat) : Int) - 1) = ((vs0.length + 1 : Nat) : Int) by omega]
      exact atI_nat hlast
    refine ⟨_, _, _, rfl, _, rfl, (by show 2 ≤ sizeLine; decide), fun L nL => ⟨b, _, c, ns, _, rfl, B1.new nL, .inl ⟨L, rfl, B1.ne nL, SqL.of upd_same⟩, by show 0 < 2; decide, by show 2 < 1000; decide, fun v7 H2 hq B2 t2 => ?_⟩⟩
    obtain ⟨ql, rfl, hql⟩ : ∃ ql, v7 = tx ql ∧ ql ∈ FAULTS := by
      obtain ⟨l, hl, e⟩ := List.mem_map.mp (show v7 ∈ FAULTS.map tx from hq)
      exact ⟨l, e.symm, hl⟩
    have t12 : But b H1 H2 := (But.new nL).trans t2
    have tH : But b H H2 := (But.of s1).trans t12
    have hhd2 := B1.tup t12 hhd
    have h02 := Paired.mapP h01 fun _ _ y => PartAt.but B1 t12 y
    have hv2 := hv1.but B1 t12
    have W2 := W1.but t12
    have key : ∀ {G : Hp} {X : V} {p' : Part} {Q' : VK}, BagC K G b c ns → But b H2 G → PartAt G X p' → okP (lastKd w') p' → seatsLen ⟨w', ps0 ++ [p']⟩ ≤ m + 1 → (∀ v H', RE (m + 1) H' v → BagC K H' b c ns → But b H H' → Q' v H') → 1 ≤ sizeLine ∧ ∀ u, G u = none → rCatA K (.ref hd) (.ref u) (upd G u (.tup [X])) Q' := fun {G X p' Q'} BG tG hX ho hs' q' =>
      fin_cat (B2.tup tG hhd2) (Paired.mapP h02 fun _ _ y => PartAt.but B2 tG y) k0 hX ho hs' fun v H' r s => q' v H' r (BG.same s) (tH.trans (tG.trans (But.of s)))
    have sp := seats_put w' ps0
    have hms := hs
    clear hE hvs nhd ecut hlen hlast ht ht1 hv hv1 h0 h01 nL hq t2 t12 W W1 B B1 hhd
    cases w' with
    | sheet =>
      have z0 : ∀ p', seatsLen ⟨Wd.sheet, ps0 ++ [p']⟩ ≤ m + 1 := fun p' => by rw [sp, if_neg (by rw [← k0l]; decide)]; exact Nat.zero_le _
      cases p with
      | word l =>
        have ev : v = tx l := hv2
        subst ev
        refine ⟨_, rfl, rfl, _, rfl, iteTd rfl ⟨_, rfl, _, _, _, _, _, rfl, .ty _, .base (.str _), rfl, _, rfl, iteT ⟨_, rfl, _, rfl, _, rfl, (by show 1 ≤ sizeLine; decide), fun a1 n1 => ⟨by show 1 ≤ sizeLine; decide, fun a2 n2 => ⟨by show 2 ≤ sizeLine; decide, fun a3 n3 => ⟨by show 1 ≤ sizeLine; decide, fun a4 n4 => ⟨by show 3 ≤ sizeLine; decide, fun a5 n5 => ⟨by show 1 ≤ sizeLine; decide, fun a6 n6 => ?_⟩⟩⟩⟩⟩⟩⟩⟩
        have r1 := row1_at (r := [0]) n1 n2
        have r2 := row1_at (r := [1, 0]) n3 n4
        have r3 := row1_at (r := [0, 0, 1]) n5 n6
        have p1 := (r1.1.same r2.2).same r3.2
        have p2 := r2.1.same r3.2
        have p3 := r3.1
        have sA := r1.2.trans (r2.2.trans r3.2)
        clear r1 r2 r3
        refine ⟨by show 4 ≤ sizeLine; decide, fun L nL => ⟨b, _, c, ns, _, rfl, (B2.same sA).new nL, .inl ⟨L, rfl, (B2.same sA).ne nL, SqL.of upd_same⟩, by show 0 < 4; decide, by show 4 < 1000; decide, fun v8 H8 hv8 B8 t8 => ?_⟩⟩
        have t8' := (But.new nL).trans t8
        have BA := B2.same sA
        simp only [List.mem_cons, List.not_mem_nil, or_false] at hv8
        have rk : ∀ r : List Int, r ≠ [] → r.length ≤ 10 → (∀ x ∈ r, x = 0 ∨ x = 1) → okP .sheet (.rows [r]) := fun r h1 h2 h3 => ⟨by simp, by simp, fun z hz => by
          rw [List.mem_singleton.mp hz]
          exact ⟨h1, h2, fun x hx => by rcases h3 x hx with e | e <;> rw [e] <;> exact ⟨by decide, by decide⟩⟩⟩
        rcases hv8 with rfl | rfl | rfl | rfl
        · exact key B8 ((But.of sA).trans t8') (p' := .word ql) rfl hql (z0 _) q
        · exact key B8 ((But.of sA).trans t8') (p1.but BA t8') (rk _ (by simp) (by simp) (by simp)) (z0 _) q
        · exact key B8 ((But.of sA).trans t8') (p2.but BA t8') (rk _ (by simp) (by simp) (by simp)) (z0 _) q
        · exact key B8 ((But.of sA).trans t8') (p3.but BA t8') (rk _ (by simp) (by simp) (by simp)) (z0 _) q
      | rows rs =>
        obtain ⟨a, ts, rfl, ha, hts⟩ := id hv2
        refine ⟨_, rfl, rfl, _, rfl, iteTd rfl ⟨_, rfl, _, _, _, _, _, rfl, .ty _, ty_tup (SqT.of ha), rfl, _, rfl, iteF ⟨_, rfl, _, rfl, _, rfl, _, rfl, _, rfl, b, c, ns, _, true, rs, rfl, B2, hv2, kp, fun v3 H3 ⟨rs3, p3, k3⟩ B3 t3 => ⟨_, rfl, _, rfl, b, c, ns, _, true, rs, rfl, B3, hv2.but B2 t3, kp, fun v4 H4 ⟨rs4, p4, k4⟩ B4 t4 => ⟨_, rfl, _, rfl, b, c, ns, _, true, rs, rfl, B4, (hv2.but B2 t3).but B3 t4, kp, fun v5 H5 ⟨rs5, p5, k5⟩ B5 t5 => ⟨by show 4 ≤ sizeLine; decide, fun L nL => ⟨b, _, c, ns, _, rfl, B5.new nL, .inl ⟨L, rfl, B5.ne nL, SqL.of upd_same⟩, by show 0 < 4; decide, by show 4 < 1000; decide, fun v8 H8 hv8 B8 t8 => ?_⟩⟩⟩⟩⟩⟩⟩
        have t58 := (But.new nL).trans t8
        have tA := t3.trans (t4.trans (t5.trans t58))
        simp only [List.mem_cons, List.not_mem_nil, or_false] at hv8
        rcases hv8 with rfl | rfl | rfl | rfl
        · exact key B8 tA (p' := .word ql) rfl hql (z0 _) q
        · exact key B8 tA (((p3.but B3 t4).but B4 t5).but B5 t58) k3 (z0 _) q
        · exact key B8 tA ((p4.but B4 t5).but B5 t58) k4 (z0 _) q
        · exact key B8 tA (p5.but B5 t58) k5 (z0 _) q
      | _ => exact kp.elim
    | which =>
      have z0 : ∀ p', seatsLen ⟨Wd.which, ps0 ++ [p']⟩ ≤ m + 1 := fun p' => by rw [sp, if_neg (by rw [← k0l]; decide)]; exact Nat.zero_le _
      refine ⟨_, rfl, rfl, _, rfl, iteFd rfl ⟨_, rfl, rfl, _, rfl, iteTd rfl ⟨_, rfl, b, 4, c, ns, rfl, B2, by decide, by decide, fun num H3 m0 m1 B3 t3 => ?_⟩⟩⟩
      have hv3 := hv2.but B2 t3
      cases p with
      | word l =>
        have ev : v = tx l := hv2
        subst ev
        refine ⟨_, rfl, _, _, _, _, _, rfl, .ty _, .base (.str _), rfl, _, rfl, iteT ⟨by show 1 ≤ sizeLine; decide, fun M nM => ⟨(fun σ2 G => ∃ (M : Addr) (lx : List Int), σ2 = [some (.ref b), some (.ref wd), some (.ref t), some (.str (wdS .which)), some (.ref hd), some (tx l), some (tx ql), some (.int num), some (.ref M), none, none, none, none] ∧ But b H2 G ∧ BagC K G b c ns ∧ G M = some (.lst (intsI lx)) ∧ lx.length ≤ 40 ∧ Sgd lx), ?_, ?_⟩⟩⟩
        · exact ⟨_, rfl, _, _, _, _, _, rfl, .ty _, .base (.str _), rfl, _, rfl, iteF ⟨_, rfl, M, [0], rfl, t3.trans (But.new nM), B3.new nM, upd_same, by decide, fun x hx => by rw [List.mem_singleton.mp hx]; exact ⟨by decide, by decide⟩⟩⟩
        · skip
          rintro σ2 G ⟨M, l', rfl, tG, BG, gM, l40, lS⟩
          refine ⟨_, rfl, _, rfl, _, rfl, _, rfl, M, l', rfl, SqL.of gM, fun y1 p1 e1 _ n1 => ⟨p1, _, rfl, .inl ⟨SqL.of upd_same, fun u1 m1 => ?_⟩⟩⟩
          have h1 : PartAt (upd (upd G p1 (.lst (intsI y1))) u1 (.tup (intsI y1))) (.ref u1) (.nums y1) := ⟨u1, rfl, upd_same⟩
          have s1 := (same_upd (H := G) (o := .lst (intsI y1)) n1).trans (same_upd (o := .tup (intsI y1)) m1)
          have gM1 := s1 _ _ gM
          have B1 := BG.same s1
          have t1 := tG.trans (But.of s1)
          generalize upd (upd G p1 (.lst (intsI y1))) u1 (.tup (intsI y1)) = G1 at h1 s1 gM1 B1 t1 ⊢
          refine ⟨_, rfl, M, l', rfl, SqL.of gM1, fun y2 p2 e2 _ n2 => ⟨p2, _, rfl, .inl ⟨SqL.of upd_same, fun u2 m2 => ?_⟩⟩⟩
          have h2 : PartAt (upd (upd G1 p2 (.lst (intsI y2))) u2 (.tup (intsI y2))) (.ref u2) (.nums y2) := ⟨u2, rfl, upd_same⟩
          have s2 := (same_upd (H := G1) (o := .lst (intsI y2)) n2).trans (same_upd (o := .tup (intsI y2)) m2)
          have gM2 := s2 _ _ gM1
          have B2' := B1.same s2
          have t2 := t1.trans (But.of s2)
          have h1' := h1.same s2
          generalize upd (upd G1 p2 (.lst (intsI y2))) u2 (.tup (intsI y2)) = G2 at h2 s2 gM2 B2' t2 h1' ⊢
          refine ⟨_, rfl, M, _, rfl, .inl ⟨SqL.of gM2, fun u3 m3 => ⟨by show 4 ≤ sizeLine; decide, fun L nL => ⟨b, _, c, ns, _, rfl, (B2'.new m3).new nL, .inl ⟨L, rfl, (B2'.new m3).ne nL, SqL.of upd_same⟩, by show 0 < 4; decide, by show 4 < 1000; decide, fun v11 H11 hv11 B11 t11 => ?_⟩⟩⟩⟩
          have h3 : PartAt (upd G2 u3 (.tup (intsI l'))) (.ref u3) (.nums l') := ⟨u3, rfl, upd_same⟩
          have s3 := same_upd (H := G2) (o := .tup (intsI l')) m3
          have B3' := B2'.same s3
          have t12 := (But.new nL).trans t11
          have tA := (t2.trans (But.of s3)).trans t12
          have pk : ∀ y : List Int, y.Perm l' → okP .ballots (.nums y) := fun y e => ⟨by rw [e.length_eq]; exact l40, fun x hx => lS x (e.mem_iff.mp hx)⟩
          simp only [List.mem_cons, List.not_mem_nil, or_false] at hv11
          rcases hv11 with rfl | rfl | rfl | rfl
          · exact key B11 tA (p' := .word ql) rfl hql (z0 _) q
          · exact key B11 tA ((h1'.same s3).but B3' t12) (pk _ e1) (z0 _) q
          · exact key B11 tA ((h2.same s3).but B3' t12) (pk _ e2) (z0 _) q
          · exact key B11 tA (h3.but B3' t12) (pk _ (List.Perm.refl _)) (z0 _) q
      | nums r =>
        obtain ⟨a, rfl, ha⟩ := id hv3
        obtain ⟨kr, ks⟩ := (id kp : r.length ≤ 40 ∧ Sgd r)
        refine ⟨_, rfl, _, _, _, _, _, rfl, .ty _, ty_tup (SqT.of ha), rfl, _, rfl, iteF ⟨_, rfl, a, rfl, ⟨_, SqT.of ha⟩, fun M nM => lc_it walk_tup (fun i G => Same H3 G ∧ G M = some (.lst (intsI ((r.take i).filter fun x => decide (x ≠ num))))) ⟨same_upd nM, upd_same⟩ (fun i G _ h => SqT.of (h.1 _ _ ha)) ?_ ?_⟩⟩
        · rintro i x G1 G hi ⟨sG, gD⟩ ⟨rfl, ex⟩
          rw [List.length_map] at hi
          have er : r[i]? = some r[i] := List.getElem?_eq_getElem hi
          rw [List.getElem?_map, er] at ex
          cases ex
          refine ⟨rfl, ?_⟩
          have hf : (r.take (i + 1)).filter (fun x => decide (x ≠ num)) = (r.take i).filter (fun x => decide (x ≠ num)) ++ [r[i]].filter (fun x => decide (x ≠ num)) := by
            rw [take_snoc er, List.filter_append]
          have hd2 : (!decide (V.int r[i] = V.int num)) = decide (r[i] ≠ num) := by
            rw [dec_int]
            by_cases e : r[i] = num
            · simp [e]
            · simp [e]
          refine ⟨_, rfl, _, rfl, rfl, _, rfl, ite2 (fun cc => ?_) (fun cc => ?_)⟩
          · rw [hd2] at cc
            refine ⟨_, rfl, _, gD, ?_, same_updF nM sG, ?_⟩
            · have := List.length_filter_le (fun x => decide (x ≠ num)) (r.take i)
              rw [List.length_take] at this
              rw [List.length_map]
              exact small1000' (by omega)
            · rw [upd_same, hf, List.filter_cons_of_pos (p := fun x => decide (x ≠ num)) cc]
              show some (HO.lst (List.map V.int _ ++ [V.int r[i]])) = some (HO.lst (List.map V.int (_ ++ [r[i]])))
              rw [List.map_append]
              rfl
          · rw [hd2] at cc
            refine ⟨sG, ?_⟩
            rw [gD, hf, List.filter_cons_of_neg (p := fun x => decide (x ≠ num)) cc, List.filter_nil, List.append_nil]
        · rintro G ⟨sG, gM⟩
          rw [List.length_map, List.take_length] at gM
          refine ⟨(fun σ2 G => ∃ (M : Addr) (lx : List Int), σ2 = [some (.ref b), some (.ref wd), some (.ref t), some (.str (wdS .which)), some (.ref hd), some (.ref a), some (tx ql), some (.int num), some (.ref M), none, none, none, none] ∧ But b H2 G ∧ BagC K G b c ns ∧ G M = some (.lst (intsI lx)) ∧ lx.length ≤ 40 ∧ Sgd lx), ?_, ?_⟩
          · have lf := List.length_filter_le (fun x => decide (x ≠ num)) r
            have lS : Sgd (r.filter fun x => decide (x ≠ num)) := fun x hx => ks x (List.mem_filter.mp hx).1
            refine ⟨_, rfl, _, _, _, _, _, rfl, .ty _, ty_tup (SqT.of (sG _ _ ha)), rfl, _, rfl, iteT ⟨_, rfl, _, rfl, _, rfl, a, _, rfl, .inr (SqT.of (sG _ _ ha)), rfl, ?_, _, rfl, ite2 (fun _ => ?_) (fun _ => ?_)⟩⟩
            · rw [List.all_eq_true]
              intro x hx
              obtain ⟨y, _, rfl⟩ := List.mem_map.mp hx
              rfl
            · refine ⟨_, rfl, _, _, rfl, .inl ⟨_, SqL.of gM, rfl⟩, _, _, rfl, rfl, _, rfl, ite2 (fun cc => ⟨_, rfl, by show 1 ≤ sizeLine; decide, fun N nN => ?_⟩) (fun _ => ⟨Nat.zero_le _, fun N nN => ?_⟩)⟩
              · have c40 : (r.filter fun x => decide (x ≠ num)).length < 40 := by
                  have := of_decide_eq_true cc
                  rw [List.length_map] at this
                  omega
                refine ⟨M, N, _, _, rfl, rfl, same_upd nN _ _ gM, upd_same, line_of ?_, fun p np => ⟨p, (r.filter fun x => decide (x ≠ num)) ++ [num], rfl, t3.trans (But.of (sG.trans ((same_upd nN).trans (same_upd np)))), B3.same (sG.trans ((same_upd nN).trans (same_upd np))), ?_, by rw [List.length_append]; show _ + 1 ≤ 40; omega, fun x hx => ?_⟩⟩
                · rw [List.length_map]
                  show _ + 1 ≤ 10000
                  omega
                · rw [upd_same]
                  show some (HO.lst (List.map V.int _ ++ [V.int num])) = some (HO.lst (List.map V.int (_ ++ [num])))
                  rw [List.map_append]
                  rfl
                · rcases List.mem_append.mp hx with hx | hx
                  · exact lS x hx
                  · rw [List.mem_singleton.mp hx]
                    exact ⟨by omega, by omega⟩
              · refine ⟨M, N, _, _, rfl, rfl, same_upd nN _ _ gM, upd_same, line_of ?_, fun p np => ⟨p, (r.filter fun x => decide (x ≠ num)), rfl, t3.trans (But.of (sG.trans ((same_upd nN).trans (same_upd np)))), B3.same (sG.trans ((same_upd nN).trans (same_upd np))), ?_, by omega, lS⟩⟩
                · rw [List.length_map]
                  show _ + 0 ≤ 10000
                  omega
                · rw [upd_same, List.append_nil]
            · refine ⟨Nat.zero_le _, fun N nN => ?_⟩
              refine ⟨M, N, _, _, rfl, rfl, same_upd nN _ _ gM, upd_same, line_of ?_, fun p np => ⟨p, (r.filter fun x => decide (x ≠ num)), rfl, t3.trans (But.of (sG.trans ((same_upd nN).trans (same_upd np)))), B3.same (sG.trans ((same_upd nN).trans (same_upd np))), ?_, by omega, lS⟩⟩
              · rw [List.length_map]
                show _ + 0 ≤ 10000
                omega
              · rw [upd_same, List.append_nil]
          · skip
            rintro σ2 G ⟨M, l', rfl, tG, BG, gM, l40, lS⟩
            refine ⟨_, rfl, _, rfl, _, rfl, _, rfl, M, l', rfl, SqL.of gM, fun y1 p1 e1 _ n1 => ⟨p1, _, rfl, .inl ⟨SqL.of upd_same, fun u1 m1 => ?_⟩⟩⟩
            have h1 : PartAt (upd (upd G p1 (.lst (intsI y1))) u1 (.tup (intsI y1))) (.ref u1) (.nums y1) := ⟨u1, rfl, upd_same⟩
            have s1 := (same_upd (H := G) (o := .lst (intsI y1)) n1).trans (same_upd (o := .tup (intsI y1)) m1)
            have gM1 := s1 _ _ gM
            have B1 := BG.same s1
            have t1 := tG.trans (But.of s1)
            generalize upd (upd G p1 (.lst (intsI y1))) u1 (.tup (intsI y1)) = G1 at h1 s1 gM1 B1 t1 ⊢
            refine ⟨_, rfl, M, l', rfl, SqL.of gM1, fun y2 p2 e2 _ n2 => ⟨p2, _, rfl, .inl ⟨SqL.of upd_same, fun u2 m2 => ?_⟩⟩⟩
            have h2 : PartAt (upd (upd G1 p2 (.lst (intsI y2))) u2 (.tup (intsI y2))) (.ref u2) (.nums y2) := ⟨u2, rfl, upd_same⟩
            have s2 := (same_upd (H := G1) (o := .lst (intsI y2)) n2).trans (same_upd (o := .tup (intsI y2)) m2)
            have gM2 := s2 _ _ gM1
            have B2' := B1.same s2
            have t2 := t1.trans (But.of s2)
            have h1' := h1.same s2
            generalize upd (upd G1 p2 (.lst (intsI y2))) u2 (.tup (intsI y2)) = G2 at h2 s2 gM2 B2' t2 h1' ⊢
            refine ⟨_, rfl, M, _, rfl, .inl ⟨SqL.of gM2, fun u3 m3 => ⟨by show 4 ≤ sizeLine; decide, fun L nL => ⟨b, _, c, ns, _, rfl, (B2'.new m3).new nL, .inl ⟨L, rfl, (B2'.new m3).ne nL, SqL.of upd_same⟩, by show 0 < 4; decide, by show 4 < 1000; decide, fun v11 H11 hv11 B11 t11 => ?_⟩⟩⟩⟩
            have h3 : PartAt (upd G2 u3 (.tup (intsI l'))) (.ref u3) (.nums l') := ⟨u3, rfl, upd_same⟩
            have s3 := same_upd (H := G2) (o := .tup (intsI l')) m3
            have B3' := B2'.same s3
            have t12 := (But.new nL).trans t11
            have tA := (t2.trans (But.of s3)).trans t12
            have pk : ∀ y : List Int, y.Perm l' → okP .ballots (.nums y) := fun y e => ⟨by rw [e.length_eq]; exact l40, fun x hx => lS x (e.mem_iff.mp hx)⟩
            simp only [List.mem_cons, List.not_mem_nil, or_false] at hv11
            rcases hv11 with rfl | rfl | rfl | rfl
            · exact key B11 tA (p' := .word ql) rfl hql (z0 _) q
            · exact key B11 tA ((h1'.same s3).but B3' t12) (pk _ e1) (z0 _) q
            · exact key B11 tA ((h2.same s3).but B3' t12) (pk _ e2) (z0 _) q
            · exact key B11 tA (h3.but B3' t12) (pk _ (List.Perm.refl _)) (z0 _) q
      | _ => exact kp.elim
    | «show» =>
      have z0 : ∀ p', seatsLen ⟨Wd.show, ps0 ++ [p']⟩ ≤ m + 1 := fun p' => by rw [sp, if_neg (by rw [← k0l]; decide)]; exact Nat.zero_le _
      cases p with
      | word l =>
        have ev : v = tx l := hv2
        subst ev
        refine ⟨_, rfl, rfl, _, rfl, iteFd rfl ⟨_, rfl, rfl, _, rfl, iteFd rfl ⟨_, rfl, rfl, _, rfl, iteTd rfl ⟨_, rfl, _, _, _, _, _, rfl, .ty _, .base (.str _), rfl, _, rfl, iteT ⟨by show 2 ≤ sizeLine; decide, fun z nz => ⟨z, _, rfl, SqT.of upd_same, rfl, _, _, rfl, _, _, rfl, rfl, ?_⟩⟩⟩⟩⟩⟩
        have B3 := B2.new (o := .tup [.int 7, .str "-"]) nz
        have t3 : But b H2 (upd H2 z (.tup [.int 7, .str "-"])) := But.new nz
        generalize upd H2 z (.tup [.int 7, .str "-"]) = H3 at B3 t3 ⊢
        obtain ⟨tl, l1, l2, w1, w2, e1, e2, g1, g2⟩ := W2.but t3
        refine ⟨_, rfl, _, rfl, _, rfl, wd, .ref tl, rfl, DGet.k (k := .inr "texts") e1, b, _, c, ns, _, rfl, B3, .inl ⟨tl, rfl, w2, SqL.of e2⟩, by show 0 < 2; decide, by show 2 < 1000; decide, fun v8 H8 hv8 B8 t8 => ⟨by show 2 ≤ sizeLine; decide, fun o no => ?_⟩⟩
        obtain ⟨ul, rfl, hul, gul⟩ : ∃ l, v8 = tx l ∧ l.length ≤ 60 ∧ ∀ c ∈ l, good c := by
          simp only [List.mem_cons, List.not_mem_nil, or_false] at hv8
          rcases hv8 with rfl | rfl
          · exact ⟨l1, rfl, g1.1, g1.2⟩
          · exact ⟨l2, rfl, g2.1, g2.2⟩
        have po : PartAt (upd H8 o (.tup [.int 7, tx ul])) (.ref o) (.shown 7 ul) := ⟨o, rfl, upd_same⟩
        have B9 := B8.new (o := .tup [.int 7, tx ul]) no
        have t9 : But b H2 (upd H8 o (.tup [.int 7, tx ul])) := t3.trans (t8.trans (But.new no))
        generalize upd H8 o (.tup [.int 7, tx ul]) = H9 at po B9 t9 ⊢
        refine ⟨_, rfl, _, rfl, _, rfl, _, rfl, _, _, rfl, rfl, .inl ⟨_, rfl, _, _, rfl, rfl, ?c1, _, rfl, by show 2 ≤ sizeLine; decide, fun z nz => ?_⟩⟩
        case c1 => show (0 : Int) < 10000; decide
        have hm1 : 0 ≤ ((7 : Int) + 1) % 10000 ∧ ((7 : Int) + 1) % 10000 ≤ 9999 := by omega
        rw [show (fun i j : Int => V.int (i % j)) ((7 : Int) + 1) 10000 = V.int (((((7 : Int) + 1) % 10000).toNat : Nat) : Int) from congrArg V.int (by omega)]
        generalize hk1 : (((7 : Int) + 1) % 10000).toNat = k1
        have hk1' : k1 ≤ 9999 := by omega
        have pz : PartAt (upd H9 z (.tup [.int (k1 : Nat), .str "-"])) (.ref z) (.shown k1 (cd "-")) := ⟨z, rfl, by rw [show tx (cd "-") = .str "-" from congrArg V.str (S_cd _)]; exact upd_same⟩
        have po2 := po.same (same_upd (o := .tup [.int (k1 : Nat), .str "-"]) nz)
        have B10 := B9.new (o := .tup [.int (k1 : Nat), .str "-"]) nz
        have t10 : But b H2 (upd H9 z (.tup [.int (k1 : Nat), .str "-"])) := t9.trans (But.new nz)
        generalize upd H9 z (.tup [.int (k1 : Nat), .str "-"]) = H10 at pz po2 B10 t10 ⊢
        refine ⟨_, rfl, _, rfl, by show 4 ≤ sizeLine; decide, fun L nL => ⟨b, _, c, ns, _, rfl, B10.new nL, .inl ⟨L, rfl, B10.ne nL, SqL.of upd_same⟩, by show 0 < 4; decide, by show 4 < 1000; decide, fun v11 H11 hv11 B11 t11 => ?_⟩⟩
        have t12 := (But.new nL).trans t11
        simp only [List.mem_cons, List.not_mem_nil, or_false] at hv11
        rcases hv11 with rfl | rfl | rfl | rfl
        · exact key B11 (t10.trans t12) (p' := .word ql) rfl hql (z0 _) q
        · exact key B11 (t10.trans t12) (pz.but B10 t12) ⟨hk1', (by decide +kernel), (by decide +kernel)⟩ (z0 _) q
        · exact key B11 (t10.trans t12) (po2.but B10 t12) ⟨(by decide), hul, gul⟩ (z0 _) q
        · exact key B11 (t10.trans t12) (po2.but B10 t12) ⟨(by decide), hul, gul⟩ (z0 _) q
      | shown n u =>
        obtain ⟨a, rfl, ha⟩ := id hv2
        obtain ⟨kn, ku, kg⟩ := (id kp : n ≤ 9999 ∧ u.length ≤ 60 ∧ ∀ c ∈ u, 32 ≤ c ∧ c ≤ 126)
        refine ⟨_, rfl, rfl, _, rfl, iteFd rfl ⟨_, rfl, rfl, _, rfl, iteFd rfl ⟨_, rfl, rfl, _, rfl, iteTd rfl ⟨_, rfl, _, _, _, _, _, rfl, .ty _, ty_tup (SqT.of ha), rfl, _, rfl, iteF ⟨_, rfl, a, _, rfl, SqT.of ha, rfl, _, _, rfl, _, _, rfl, rfl, ?_⟩⟩⟩⟩⟩
        have t3 : But b H2 H2 := But.refl
        obtain ⟨tl, l1, l2, w1, w2, e1, e2, g1, g2⟩ := W2.but t3
        refine ⟨_, rfl, _, rfl, _, rfl, wd, .ref tl, rfl, DGet.k (k := .inr "texts") e1, b, _, c, ns, _, rfl, B2, .inl ⟨tl, rfl, w2, SqL.of e2⟩, by show 0 < 2; decide, by show 2 < 1000; decide, fun v8 H8 hv8 B8 t8 => ⟨by show 2 ≤ sizeLine; decide, fun o no => ?_⟩⟩
        obtain ⟨ul, rfl, hul, gul⟩ : ∃ l, v8 = tx l ∧ l.length ≤ 60 ∧ ∀ c ∈ l, good c := by
          simp only [List.mem_cons, List.not_mem_nil, or_false] at hv8
          rcases hv8 with rfl | rfl
          · exact ⟨l1, rfl, g1.1, g1.2⟩
          · exact ⟨l2, rfl, g2.1, g2.2⟩
        have po : PartAt (upd H8 o (.tup [.int (n : Nat), tx ul])) (.ref o) (.shown n ul) := ⟨o, rfl, upd_same⟩
        have B9 := B8.new (o := .tup [.int (n : Nat), tx ul]) no
        have t9 : But b H2 (upd H8 o (.tup [.int (n : Nat), tx ul])) := t3.trans (t8.trans (But.new no))
        generalize upd H8 o (.tup [.int (n : Nat), tx ul]) = H9 at po B9 t9 ⊢
        refine ⟨_, rfl, _, rfl, _, rfl, _, rfl, _, _, rfl, rfl, .inl ⟨_, rfl, _, _, rfl, rfl, ?c1, _, rfl, by show 2 ≤ sizeLine; decide, fun z nz => ?_⟩⟩
        case c1 => show (0 : Int) < 10000; decide
        have hm1 : 0 ≤ (((n : Nat) : Int) + 1) % 10000 ∧ (((n : Nat) : Int) + 1) % 10000 ≤ 9999 := by omega
        rw [show (fun i j : Int => V.int (i % j)) (((n : Nat) : Int) + 1) 10000 = V.int ((((((n : Nat) : Int) + 1) % 10000).toNat : Nat) : Int) from congrArg V.int (by omega)]
        generalize hk1 : ((((n : Nat) : Int) + 1) % 10000).toNat = k1
        have hk1' : k1 ≤ 9999 := by omega
        have pz : PartAt (upd H9 z (.tup [.int (k1 : Nat), tx u])) (.ref z) (.shown k1 u) := ⟨z, rfl, upd_same⟩
        have po2 := po.same (same_upd (o := .tup [.int (k1 : Nat), tx u]) nz)
        have B10 := B9.new (o := .tup [.int (k1 : Nat), tx u]) nz
        have t10 : But b H2 (upd H9 z (.tup [.int (k1 : Nat), tx u])) := t9.trans (But.new nz)
        generalize upd H9 z (.tup [.int (k1 : Nat), tx u]) = H10 at pz po2 B10 t10 ⊢
        refine ⟨_, rfl, _, rfl, by show 4 ≤ sizeLine; decide, fun L nL => ⟨b, _, c, ns, _, rfl, B10.new nL, .inl ⟨L, rfl, B10.ne nL, SqL.of upd_same⟩, by show 0 < 4; decide, by show 4 < 1000; decide, fun v11 H11 hv11 B11 t11 => ?_⟩⟩
        have t12 := (But.new nL).trans t11
        simp only [List.mem_cons, List.not_mem_nil, or_false] at hv11
        rcases hv11 with rfl | rfl | rfl | rfl
        · exact key B11 (t10.trans t12) (p' := .word ql) rfl hql (z0 _) q
        · exact key B11 (t10.trans t12) (pz.but B10 t12) ⟨hk1', ku, kg⟩ (z0 _) q
        · exact key B11 (t10.trans t12) (po2.but B10 t12) ⟨kn, hul, gul⟩ (z0 _) q
        · exact key B11 (t10.trans t12) (po2.but B10 t12) ⟨kn, hul, gul⟩ (z0 _) q
      | _ => exact kp.elim
    | taken =>
      have z0 : ∀ p', seatsLen ⟨Wd.taken, ps0 ++ [p']⟩ ≤ m + 1 := fun p' => by rw [sp, if_neg (by rw [← k0l]; decide)]; exact Nat.zero_le _
      cases p with
      | rows rs =>
        exact ⟨_, rfl, rfl, _, rfl, iteFd rfl ⟨_, rfl, rfl, _, rfl, iteFd rfl ⟨_, rfl, rfl, _, rfl, iteFd rfl ⟨_, rfl, rfl, _, rfl, iteTd rfl ⟨_, rfl, _, rfl, _, rfl, b, c, ns, _, false, rs, rfl, B2, hv2, kp, fun v3 H3 ⟨rs3, p3, k3⟩ B3 t3 => key B3 t3 p3 k3 (z0 _) q⟩⟩⟩⟩⟩
      | _ => exact kp.elim
    | told =>
      cases p with
      | nums r =>
        obtain ⟨a, rfl, ha⟩ := id hv2
        obtain ⟨kr, ku⟩ := (id kp : r.length ≤ 10 ∧ Uns r)
        have one1 : ps0.length = 1 := by rw [← k0l]; decide
        have z0 : ∀ r', r'.length ≤ m + 1 → seatsLen ⟨Wd.told, ps0 ++ [.nums r']⟩ ≤ m + 1 := fun r' h => by rw [sp, if_pos one1]; exact h
        have hrm : r.length ≤ m := by
          have h2 := hms
          rw [sp, if_pos one1] at h2
          exact h2
        refine ⟨_, rfl, rfl, _, rfl, iteFd rfl ⟨_, rfl, rfl, _, rfl, iteFd rfl ⟨_, rfl, rfl, _, rfl, iteFd rfl ⟨_, rfl, rfl, _, rfl, iteFd rfl ⟨_, rfl, rfl, _, rfl, iteTd rfl ⟨_, rfl, _, rfl, _, rfl, (by show 1 ≤ sizeLine; decide), fun u1 n1 => cat_any (same_upd n1 _ _ ha) upd_same (by rw [List.length_map]; show _ + 1 ≤ _; omega) fun x1 G1 s1 hx1 => ?_⟩⟩⟩⟩⟩⟩
        have sA := (same_upd n1).trans s1
        have hx1 : G1 x1 = some (.tup (intsI (r ++ [0]))) := by rw [hx1]; show _ = some (HO.tup (List.map V.int (r ++ [0]))); rw [List.map_append]; rfl
        refine fin_cat (sA _ _ hhd2) (Paired.mapP h02 fun _ _ y => PartAt.same sA y) k0 (p := .nums (r ++ [0])) ⟨x1, rfl, hx1⟩ ⟨by simp; omega, fun x hx => ?_⟩ (z0 _ (by simp; omega)) fun e1 G2 R1 s2 => ?_
        · rcases List.mem_append.mp hx with hx | hx
          · exact ku x hx
          · rw [List.mem_singleton.mp hx]
            exact ⟨by decide, by decide⟩
        have sB := sA.trans s2
        refine ⟨_, rfl, _, rfl, 1, rfl, ?_⟩
        delta tNoPart
        refine slice1 (K := K) (xs := intsI r) (sB _ _ ha) fun x2 G3 s3 hx2 => ?_
        have sC := sB.trans s3
        have hx2 : G3 x2 = some (.tup (intsI (r.drop 1))) := by rw [hx2]; show _ = some (HO.tup (List.map V.int (r.drop 1))); rw [List.map_drop]
        refine fin_cat (sC _ _ hhd2) (Paired.mapP h02 fun _ _ y => PartAt.same sC y) k0 (p := .nums (r.drop 1)) ⟨x2, rfl, hx2⟩ ⟨by rw [List.length_drop]; omega, fun x hx => ku x (List.mem_of_mem_drop hx)⟩ (z0 _ (by rw [List.length_drop]; omega)) fun e2 G4 R2 s4 => ?_
        have sD := sC.trans s4
        refine ⟨_, rfl, (by show 3 ≤ sizeLine; decide), fun t3 n3 => ⟨_, rfl, by show 3 ≤ sizeLine; decide, fun t4 n4 => ?_⟩⟩
        have R3 := ent_new (w := .told) (m := m + 1) n3 (.cons (b := Part.word (cd "digits")) (congrArg V.str (S_cd _).symm) (.cons (hv2.same sD) .nil)) ⟨(show cd "digits" ∈ ENDS by decide +kernel), kp, trivial⟩ (show r.length ≤ m + 1 by omega)
        have sE := sD.trans (same_upd (o := .tup [.str (wdS .told), .str "digits", .ref a]) n3)
        have R4 := ent_new (w := .told) (m := m + 1) n4 (.cons (b := Part.word (cd "weighs")) (congrArg V.str (S_cd _).symm) (.cons (hv2.same sE) .nil)) ⟨(show cd "weighs" ∈ ENDS by decide +kernel), kp, trivial⟩ (show r.length ≤ m + 1 by omega)
        have sF := sE.trans (same_upd (o := .tup [.str (wdS .told), .str "weighs", .ref a]) n4)
        have R3' := R3.same (same_upd (o := .tup [.str (wdS .told), .str "weighs", .ref a]) n4)
        have R1' := ((R1.same (s3.trans s4)).same (same_upd (o := .tup [.str (wdS .told), .str "digits", .ref a]) n3)).same (same_upd (o := .tup [.str (wdS .told), .str "weighs", .ref a]) n4)
        have R2' := (R2.same (same_upd (o := .tup [.str (wdS .told), .str "digits", .ref a]) n3)).same (same_upd (o := .tup [.str (wdS .told), .str "weighs", .ref a]) n4)
        have BF := B2.same sF
        refine ⟨(by show 4 ≤ sizeLine; decide), fun L nL => ⟨b, _, c, ns, _, rfl, BF.new nL, .inl ⟨L, rfl, BF.ne nL, SqL.of upd_same⟩, by show 0 < 4; decide, by show 4 < 1000; decide, fun v8 H8 hv8 B8 t8 => ?_⟩⟩
        have t9 := (But.new nL).trans t8
        simp only [List.mem_cons, List.not_mem_nil, or_false] at hv8
        have RR : RE (m + 1) (upd (upd G4 t3 (.tup [.str (wdS .told), .str "digits", .ref a])) t4 (.tup [.str (wdS .told), .str "weighs", .ref a])) v8 := by
          rcases hv8 with rfl | rfl | rfl | rfl
          · exact R1'
          · exact R2'
          · exact R3'
          · exact R4
        exact q _ _ (RR.but BF t9) B8 (tH.trans ((But.of sF).trans t9))
      | _ => exact kp.elim
    | struck =>
      have z0 : ∀ l, seatsLen ⟨Wd.struck, ps0 ++ [.word l]⟩ ≤ m + 1 := fun p' => by rw [sp, if_pos (by rw [← k0l]; decide)]; exact Nat.zero_le _
      refine ⟨_, rfl, rfl, _, rfl, iteFd rfl ⟨_, rfl, rfl, _, rfl, iteFd rfl ⟨_, rfl, rfl, _, rfl, iteFd rfl ⟨_, rfl, rfl, _, rfl, iteFd rfl ⟨_, rfl, rfl, _, rfl, iteFd rfl ⟨_, rfl, rfl, _, rfl, iteTd rfl ⟨_, rfl, _, rfl, (by show 8 ≤ sizeLine; decide), fun L nL => ⟨b, _, c, ns, _, rfl, B2.new nL, .inl ⟨L, rfl, B2.ne nL, SqL.of upd_same⟩, by show 0 < 8; decide, by show 8 < 1000; decide, fun v8 H8 hv8 B8 t8 => ?_⟩⟩⟩⟩⟩⟩⟩⟩
      obtain ⟨l, rfl, hl⟩ := reason_in hv8
      exact key B8 ((But.new nL).trans t8) (p' := .word l) rfl hl (z0 _) q
    | opened =>
      cases p with
      | num n =>
        have ev : v = .int (n : Nat) := hv2
        subst ev
        have kn : n ≤ 999999999 := kp
        have z0 : ∀ n, seatsLen ⟨Wd.opened, ps0 ++ [.num n]⟩ ≤ m + 1 := fun p' => by rw [sp, if_pos (by rw [← k0l]; decide)]; exact Nat.zero_le _
        refine ⟨_, rfl, rfl, _, rfl, iteFd rfl ⟨_, rfl, rfl, _, rfl, iteFd rfl ⟨_, rfl, rfl, _, rfl, iteFd rfl ⟨_, rfl, rfl, _, rfl, iteFd rfl ⟨_, rfl, rfl, _, rfl, iteFd rfl ⟨_, rfl, rfl, _, rfl, iteFd rfl ⟨_, rfl, _, rfl, _, rfl, _, _, rfl, rfl, _, _, rfl, _, rfl, _, _, rfl, rfl, _, _, rfl, (by show 2 ≤ sizeLine; decide), fun L nL => ⟨b, _, c, ns, _, rfl, B2.new nL, .inl ⟨L, rfl, B2.ne nL, SqL.of upd_same⟩, by show 0 < 2; decide, by show 2 < 1000; decide, fun v8 H8 hv8 B8 t8 => ?_⟩⟩⟩⟩⟩⟩⟩⟩
        simp only [List.mem_cons, List.not_mem_nil, or_false] at hv8
        obtain ⟨i, g0, g1, rfl⟩ : ∃ i : Int, 0 ≤ i ∧ i ≤ 999999999 ∧ v8 = .int i := by
          rcases hv8 with e | e
          · exact ⟨_, by split <;> omega, by split <;> omega, e⟩
          · exact ⟨_, by split <;> omega, by split <;> omega, e⟩
        exact key B8 ((But.new nL).trans t8) (p' := .num i.toNat) (num_at g0) (show i.toNat ≤ 999999999 by omega) (z0 _) q
      | _ => exact kp.elim
    | clash =>
      cases p with
      | num n =>
        have ev : v = .int (n : Nat) := hv2
        subst ev
        have kn : n ≤ 999999999 := kp
        have z0 : ∀ n, seatsLen ⟨Wd.clash, ps0 ++ [.num n]⟩ ≤ m + 1 := fun p' => by rw [sp, if_pos (by rw [← k0l]; decide)]; exact Nat.zero_le _
        refine ⟨_, rfl, rfl, _, rfl, iteFd rfl ⟨_, rfl, rfl, _, rfl, iteFd rfl ⟨_, rfl, rfl, _, rfl, iteFd rfl ⟨_, rfl, rfl, _, rfl, iteFd rfl ⟨_, rfl, rfl, _, rfl, iteFd rfl ⟨_, rfl, rfl, _, rfl, iteFd rfl ⟨_, rfl, _, rfl, _, rfl, _, _, rfl, rfl, _, _, rfl, _, rfl, _, _, rfl, rfl, _, _, rfl, (by show 2 ≤ sizeLine; decide), fun L nL => ⟨b, _, c, ns, _, rfl, B2.new nL, .inl ⟨L, rfl, B2.ne nL, SqL.of upd_same⟩, by show 0 < 2; decide, by show 2 < 1000; decide, fun v8 H8 hv8 B8 t8 => ?_⟩⟩⟩⟩⟩⟩⟩⟩
        simp only [List.mem_cons, List.not_mem_nil, or_false] at hv8
        obtain ⟨i, g0, g1, rfl⟩ : ∃ i : Int, 0 ≤ i ∧ i ≤ 999999999 ∧ v8 = .int i := by
          rcases hv8 with e | e
          · exact ⟨_, by split <;> omega, by split <;> omega, e⟩
          · exact ⟨_, by split <;> omega, by split <;> omega, e⟩
        exact key B8 ((But.new nL).trans t8) (p' := .num i.toNat) (num_at g0) (show i.toNat ≤ 999999999 by omega) (z0 _) q
      | _ => exact kp.elim
end
end My

set_option Elab.async false
set_option linter.all false
set_option maxRecDepth 100000
/-! xs[a:c] = ys, where c may lie beyond the end -/
namespace Slc
open PySem PySem.Spec PyProof.Rows L2
theorem bounds_end {a c n : Nat} (ha : a ≤ n) (hac : a ≤ c) : sliceBounds (some (a : Int)) (some (c : Int)) none n = ((a : Int), ((min c n : Nat) : Int), 1) := by
  simp only [sliceBounds, Option.getD_none]
  rw [if_neg (show ¬ ((a : Int) < 0) by omega), if_neg (show ¬ ((c : Int) < 0) by omega)]
  simp only [show (1 : Int) > 0 by decide, if_true]
  congr 1
  · omega
  · congr 1; omega
section
variable {prog : Program} {w : World} {A : Around} {E : Value → Shared → Prop} {s : Shared}
theorem put_slice {l b sl : Addr} {old new : Array Value} {n n2 : Nat} {vl vu : Value} {a c : Nat} {Q : Unit → Shared → Prop}
    (e : s.heap.get? l = some { cls := .type "list", data := .seq old n }) (e2 : s.heap.get? b = some { cls := .type "list", data := .seq new n2 }) (hne : l ≠ b)
    (hs : s.heap.IsSliceOf sl vl vu .none) (pl : IsPart vl (some (a : Int))) (pu : IsPart vu (some (c : Int))) (ha : a ≤ old.size) (hac : a ≤ c) (hsz : old.size + new.size ≤ sizeLine)
    (h : Q () { s with heap := s.heap.update l (Obj.mapSeq fun xs => xs.extract 0 a ++ new ++ xs.extract (min c old.size) xs.size) }) :
    wpAny (model prog w) A (setItem (.ref l) (.ref sl) (.ref b)) Q E s := by
  have hl : s.heap.IsList l old := PySem.IsL.isList e
  have hb : s.heap.IsList b new := PySem.IsL.isList e2
  obtain ⟨os, hos, hcs, hds⟩ := id hs
  have hT : s.TypeIs (.ref sl) "slice" := ⟨os, hos, hcs⟩
  have other : Builtin.List.listSameRef (.ref l) (.ref b) = false := by
    unfold Builtin.List.listSameRef
    exact beq_eq_false_iff_ne.mpr hne
  have top : (max (a : Int) ((min c old.size : Nat) : Int)).toNat = min c old.size := by omega
  have fits : ((fun xs : Array Value => xs.extract 0 a ++ new ++ xs.extract (min c old.size) xs.size) old).size ≤ sizeLine + 1 := by
    simp only [Array.size_append, Array.size_extract]
    omega
  unfold setItem
  try with_reducible refine wpAny_holding ?_
  first | refine wpAny_bind (wpAny_pure ?_) | skip
  refine wpAny_bind (wpAny_sequenceKey hl.typeIs (by decide) ?_)
  refine wpAny_bind (wpAny_callSpecial?_slot (name := Str.ofString "__setitem__") hl.typeIs slot_list_setitem (wpAny_call_entry slot_list_setitem hl.typeIs entry_list_setitem ?_ (args_list_setitem _ _ _)))
  show wpAny _ _ (Builtin.List.listSubscript? (.ref sl) >>= _) _ _ s
  refine wpAny_bind ?_
  unfold Builtin.List.listSubscript?
  refine wpAny_bind (wpAny_specialOf hT slice_no_index ?_)
  simp only [Option.isNone_none, if_true]
  refine wpAny_pure ?_
  show wpAny _ _ (typeOf (.ref sl) >>= _) _ _ s
  refine wpAny_bind (wpAny_typeOf hT ?_)
  first | rw [if_neg (by decide)] | refine PySem.W.KFB.if_not (by decide) ?_
  rw [listSliceParts_eq]
  refine wpAny_bind (wpAny_bind (wpAny_field hos hds (x := .none) rfl (wpAny_bind (wpAny_listPart .none ?_))))
  rw [if_neg (show ¬ ((rawPart none == rawInt 0) = true) from Bool.false_ne_true)]
  refine wpAny_bind (wpAny_field hos hds (x := vl) rfl (wpAny_bind (wpAny_listPart pl ?_)))
  refine wpAny_bind (wpAny_field hos hds (x := vu) rfl (wpAny_bind (wpAny_listPart pu (wpAny_pure ?_))))
  first | simp only [other, Bool.false_eq_true, if_false] | refine PySem.W.KFB.if_not other ?_
  refine wpAny_bind (m := Builtin.List.listAllItems (.ref b) "must assign iterable to extended slice") ?_
  unfold Builtin.List.listAllItems
  refine wpAny_bind (wpAny_typeOf hb.typeIs ?_)
  first | refine PySem.W.KFB.if_so (by decide) ?_ | rw [if_pos (by decide)]
  unfold Builtin.List.listItems
  refine wpAny_bind (wpAny_seqItems e2 rfl (wpAny_pure ?_))
  refine wpAny_bind (wpAny_bind (wpAny_seqItems e rfl (wpAny_pure ?_)))
  refine wpAny_bind (wpAny_of_eq ((sliceIndices_raw (some (a : Int)) (some (c : Int)) none old.size (by simp)).trans (congrArg (pure : Int × Int × Int → Sem (Int × Int × Int)) (bounds_end ha hac))) ?_)
  show wpAny _ _ (if ((1 : Int) == 1) = true then _ else _) _ _ s
  rw [if_pos (by decide)]
  refine wpAny_bind (wpAny_rule ?_)
  first | simp only [notLongL hsz, Bool.false_eq_true, if_false] | refine PySem.W.KFB.if_not (notLongL hsz) ?_
  first | refine wpAny_bind (wpAny_pure ?_) | skip
  show wpAny _ _ (updateSeq l (fun xs => xs.extract 0 ((a : Int)).toNat ++ new ++ xs.extract (max (a : Int) ((min c old.size : Nat) : Int)).toNat xs.size) >>= _) _ _ s
  rw [top, Int.toNat_natCast]
  refine wpAny_bind (wpAny_updateSeq (hz := Nat.le_trans (Nat.le_add_right _ _) hsz) (_hz' := fits) e rfl ?_)
  refine wpAny_bind (wpAny_letGo ?_)
  first | exact wpAny_bind (wpAny_pure (wpAny_pure ⟨.none, rfl, wpAny_pure h⟩)) | exact wpAny_pure ⟨.none, rfl, wpAny_pure h⟩
end
section
variable {X : Cx}
def gSlc (to : TE) (tl th : TO) : TG := fun v σ H Q => to σ H fun o H1 => tl σ H1 fun l H2 => th σ H2 fun u H3 => ∃ (p b : Addr) (xs ys : List V) (a c : Nat), o = .ref p ∧ v = .ref b ∧ l = some (a : Int) ∧ u = some (c : Int) ∧ H3 p = some (.lst xs) ∧ H3 b = some (.lst ys) ∧ p ≠ b ∧ a ≤ xs.length ∧ a ≤ c ∧ xs.length + ys.length ≤ sizeLine ∧ Q σ (upd H3 p (.lst (xs.take a ++ ys ++ xs.drop c)))
theorem pg_slc {o : Expr} {lo hi : Option Expr} {p2 pos : Pos} {to : TE} {tl th : TO} (ho : PE X o to) (hl : PO X lo tl) (hu : PO X hi th)
    (ha : ∀ v, assign (.Subscript o (.Slice lo hi none p2) pos) X.env v = (do
      let ov ← holding [v] (eval o X.env)
      let iv ← holding [v, ov] (eval (.Slice lo hi none p2) X.env)
      standAt pos
      holding [v, ov, iv] (setItem ov iv v)
      release [iv, v, ov] []) := by intro _; rfl) : PG X (.Subscript o (.Slice lo hi none p2) pos) (gSlc to tl th) := by
  refine ⟨fun pins s σ H v u Q I r h => ?_⟩
  rw [ha]
  refine wpAny_bind (wpAny_holding (thn (ho.run pins s σ H _ I h) fun ov s1 ⟨x, H1, I1, r1, q1⟩ => ?_))
  refine wpAny_bind (wpAny_holding (wpAny_Slice (thn (hl.run pins s1 σ H1 _ I1 q1) fun vl s2 ⟨l, H2, I2, pl, q2⟩ => thn (hu.run pins s2 σ H2 _ I2 q2) fun vu s3 ⟨u', H3, I3, pu, q3⟩ => ?_)))
  rw [evalPart_none]
  refine wpAny_pure ?_
  obtain ⟨p, b, xs, ys, a, c, rfl, rfl, rfl, rfl, hp, hb, hne, hax, hac, hz, q⟩ := q3
  cases r
  cases r1
  have I4 : Inv X pins σ H3 { s3 with heap := s3.heap.push { cls := .type "slice", data := .fields #[vl, vu, .none] } } := I3.kept (t' := s3.toks) fun b ob q => Heap.get?_push_of_some _ q
  refine wpAny_bind (wpAny_standAt (wpAny_bind (wpAny_holding ?_)))
  obtain ⟨z, its, n, rr, hl1, e⟩ := I4.lstM hp
  obtain ⟨z2, its2, n2, r2, hl2, e2⟩ := I4.lstM hb
  refine put_slice (a := a) (c := c) e e2 hne (Heap.IsSliceOf.new ..) pl pu (by rw [List.size_toArray]; omega) hac (by rw [List.size_toArray, List.size_toArray]; omega) ?_
  refine wpAny_release ⟨σ, _, ?_, q⟩
  refine I4.lset (its' := its.take a ++ its2 ++ its.drop c) (t' := s3.toks) hp e ?_ (Vals.append (Vals.append (rr.take _) r2) (rr.drop _)) ?_
  · have : its.drop (min c its.toArray.size) = its.drop c := by
      rw [List.size_toArray]
      by_cases hc : c ≤ its.length
      · rw [Nat.min_eq_left hc]
      · rw [Nat.min_eq_right (by omega), List.drop_length, List.drop_of_length_le (by omega)]
    rw [← this]
    exact splice_eq its its2 a (min c its.toArray.size)
  · rw [List.length_append, List.length_append, List.length_take, List.length_drop]
    omega
end
end Slc

set_option Elab.async false
set_option linter.all false
set_option maxRecDepth 100000
set_option maxHeartbeats 1000000
/-! list(reversed(a list)) -/
namespace RT
open PySem PySem.Spec PyProof.Rows L2
open Sem (wp)
section
variable {prog : Program} {w : World} {A : Around} {E : Value → Shared → Prop} {s : Shared}
theorem call_list_rev {it l : Addr} {items : Array Value} {Q : Value → Shared → Prop} (hh : A.handled = none) (hit : s.heap.IsRevIter it l ((items.size : Int) - 1)) (hl : s.heap.IsList l items) (hne : l ≠ it) (hn : items.size ≤ sizeLine)
    (hQ : ∀ (h' : Heap) (tk : Nat) (acc : Array Value) (c' : Nat), (∀ b o, b ≠ it → s.heap.get? b = some o → h'.get? b = some o) → h'.get? s.heap.objs.size = some { cls := .type "list", dict := none, data := .seq acc c', slots := #[] } → ItemsOf (fun i v => items[items.size - 1 - i]? = some v) acc items.size →
      Q (.ref s.heap.objs.size) { s with heap := h', toks := tk }) :
    wpAny (model prog w) A (call (.type "list") [.ref it]) Q E s := by
  have W := (Walks.listRev (prog := prog) (w := w) (A := A.in1.in1) hh it l hne items).toS
  obtain ⟨oi, hoi, _⟩ := id hit
  obtain ⟨ol, hol, _⟩ := id hl
  have hSi : s.heap.objs.size ≠ it := Nat.ne_of_gt (Heap.lt_size hoi)
  have hSl : s.heap.objs.size ≠ l := Nat.ne_of_gt (Heap.lt_size hol)
  have hSf : s.heap.objs.size ∉ [it, l] := by simp only [List.mem_cons, List.not_mem_nil, or_false, not_or]; exact ⟨hSi, hSl⟩
  refine callType_codes (Q₁ := fun obj s₁ => obj = .ref s.heap.objs.size ∧ s₁ = { s with heap := s.heap.push { cls := .type "list", data := .seq #[] } }) F.called_list (F.typeCall_list_1 _) F.entry_list_init
    (code_list_new _ ⟨rfl, rfl⟩) fun obj s₁ h₁ => ?_
  obtain ⟨rfl, rfl⟩ := h₁
  have hS : (s.heap.push { cls := .type "list", data := .seq #[] }).get? s.heap.objs.size = some { cls := .type "list", data := .seq #[] } := Heap.get?_push_size _ rfl
  have hit1 : (s.heap.push { cls := .type "list", data := .seq #[] }).IsRevIter it l ((items.size : Int) - 1) := hit.at fun o e => Heap.get?_push_of_some _ e
  have hl1 : (s.heap.push { cls := .type "list", data := .seq #[] }).IsList l items := hl.push _
  refine ⟨⟨_, hS, rfl⟩, F.args_list_init_2 _ _, ?_⟩
  show wpAny _ A.in1.in1 (do let old ← Builtin.List.listItems (.ref s.heap.objs.size); Builtin.List.listUpdate (.ref s.heap.objs.size) (fun _ => #[]); letGo old.toList.reverse; Builtin.List.listExtendWith (.ref s.heap.objs.size) (.ref it) .none) _ _ _
  refine wpAny_bind ?_
  unfold Builtin.List.listItems
  refine wpAny_bind (wpAny_seqItems hS rfl (wpAny_pure ?_))
  show wpAny _ A.in1.in1 (updateSeq s.heap.objs.size (fun _ => #[]) >>= fun _ => letGo (#[] : Array Value).toList.reverse >>= fun _ => Builtin.List.listExtendWith (.ref s.heap.objs.size) (.ref it) .none) _ _ _
  refine wpAny_bind (wpAny_updateSeq hS rfl ?_)
  have hS₂ := Heap.get?_update_self (Obj.mapSeq (fun _ => (#[] : Array Value))) hS rfl
  have oth : ∀ b o, b ≠ s.heap.objs.size → (s.heap.push { cls := .type "list", data := .seq #[] }).get? b = some o → ((s.heap.push { cls := .type "list", data := .seq #[] }).update s.heap.objs.size (Obj.mapSeq (fun _ => (#[] : Array Value)))).get? b = some o :=
    fun b o hb e => (Heap.get?_update_other _ _ (Ne.symm hb)).trans e
  refine wpAny_bind (wpAny_letGo ?_)
  have hit2 : ((s.heap.push { cls := .type "list", data := .seq #[] }).update s.heap.objs.size (Obj.mapSeq (fun _ => (#[] : Array Value)))).IsRevIter it l ((items.size : Int) - 1) := hit1.at fun o e => oth _ _ hSi.symm e
  have hl2 : ((s.heap.push { cls := .type "list", data := .seq #[] }).update s.heap.objs.size (Obj.mapSeq (fun _ => (#[] : Array Value)))).IsList l items := by
    obtain ⟨o, ho, r⟩ := hl1
    exact ⟨o, oth _ _ hSl.symm ho, r⟩
  have hT : ({ s with heap := (s.heap.push { cls := .type "list", data := .seq #[] }).update s.heap.objs.size (Obj.mapSeq (fun _ => (#[] : Array Value))) } : Shared).TypeIs (.ref it) "list_reverseiterator" := Heap.IsRevIter.typeIs (s := { s with heap := (s.heap.push { cls := .type "list", data := .seq #[] }).update s.heap.objs.size (Obj.mapSeq (fun _ => (#[] : Array Value))) }) hit2
  have h1 : Builtin.List.listSameRef (.ref s.heap.objs.size) (.ref it) = false := by simp [Builtin.List.listSameRef, hSi]
  unfold Builtin.List.listExtendWith
  refine wpAny_bind (wpAny_typeOf hT ?_)
  rw [if_neg (by rw [h1]; decide)]
  refine wpAny_bind (wpAny_pyIter_revIter (s := { s with heap := (s.heap.push { cls := .type "list", data := .seq #[] }).update s.heap.objs.size (Obj.mapSeq (fun _ => (#[] : Array Value))) }) hit2 ?_)
  refine wpAny_bind (wpAny_holding ?_)
  unfold Builtin.List.listLengthHint
  refine wpAny_bind (wpAny_specialOf hT nolen_lri ?_)
  show wpAny _ A.in1.in1 (specialOf (Value.ref it) (Str.ofString "__length_hint__") >>= _) _ _ _
  refine wpAny_bind (wpAny_specialOf hT hint_lri ?_)
  generalize hid : ("list_reverseiterator.__length_hint__" : String) = id0
  wp_delta
  rw [show splitId id0 = some ("list_reverseiterator", "__length_hint__") from by subst hid; decide +kernel]
  subst hid
  refine wpAny_bind (wpAny_isInstance (b := true) hT (by rw [isSubtype_type]; kernel_rfl) ?_)
  refine wpAny_pure ?_
  rw [if_neg (by decide)]
  have e0 : ((items.size : Nat) : Int) - 1 - ((0 : Nat) : Int) = (items.size : Int) - 1 := by omega
  refine wpAny_pure ⟨plainId_quiet F.plain_extend_loop _, codeAny_extend_loopS W hn _ hSf _ items.size 0 _ _ _ rfl (Nat.zero_le _) ⟨Nat.zero_le _, by rw [e0]; exact hit2, hl2⟩ hS₂ (ItemsOf.nil _) fun s' acc' c' hm hS' hacc => ?_⟩
  rw [Moved.eq_with hm]
  refine ⟨rfl, hQ s'.heap s'.toks acc' c' (fun b o hb e => hm.heap b o (fun hmem => ?_) (oth b o (Nat.ne_of_lt (Heap.lt_size e)) (Heap.get?_push_of_some _ e))) hS' hacc⟩
  rcases List.mem_cons.mp hmem with e' | hmem
  · exact absurd (Heap.lt_size e) (by rw [e']; exact Nat.lt_irrefl _)
  · exact hb (List.mem_singleton.mp hmem)
end
/-- list(reversed(x)), x a list: a new list -/
def tLstRev (K : PySem.W.Frag) (te : TE) : TE := fun σ H Q => te σ H fun v H1 => ∃ (a : Addr) (xs : List V), v = .ref a ∧ SqL K H1 a xs ∧ ∀ q, H1 q = none → Q (.ref q) (upd H1 q (.lst xs.reverse))
section
variable {X : Cx}
theorem pe_listRev {e : Expr} {te : TE} {p p2 pos pos2 : Pos} (hc : X.calm = true) (hg : Gl X "list") (hm : X.mg "list" = none) (hg2 : Gl X "reversed") (hm2 : X.mg "reversed" = none) (he : PE X e te)
    (hs : starEach [e] X.env = (false, eval e X.env) :: starEach [] X.env := by rfl)
    (hs2 : starEach [.Call (.Name "reversed" p2) [e] [] pos2] X.env = (false, eval (.Call (.Name "reversed" p2) [e] [] pos2) X.env) :: starEach [] X.env := by rfl) :
    PE X (.Call (.Name "list" p) [.Call (.Name "reversed" p2) [e] [] pos2] [] pos) (tLstRev X.K te) := by
  refine ⟨fun pins s σ H Q I h => ?_⟩
  refine Call_ (ld_blt I hg hm boot_list (PyProof.Rows.callWith_type1 (args_cons (Call_ (ld_blt I hg2 hm2 PyProof.Rows.boot_reversed (PyProof.Rows.callWith_type1 (args_cons (thn (he.run pins s σ H _ I h) fun u s1 ⟨v, H1, I1, r1, q1⟩ => args_nil ?_) hs) hs rfl))) hs2) hs2 rfl))
  obtain ⟨a, xs, ev, hq, q⟩ := q1
  subst ev
  obtain rfl : u = Value.ref a := r1
  obtain ⟨its, rv, p', hz⟩ := I1.list hq
  refine call_reversed_list p'.isList (args_nil ?_)
  have hl := p'.isList
  obtain ⟨ol, hol, _⟩ := id hl
  have hne : a ≠ s1.heap.objs.size := Nat.ne_of_lt (Heap.lt_size hol)
  have hn : its.toArray.size ≤ sizeLine := by rw [List.size_toArray, ← rv.length]; exact hz
  refine call_list_rev (s := { s1 with heap := s1.heap.push (revObj a ((its.toArray.size : Int) - 1)) }) (I1.ok.hd hc) ⟨_, Heap.get?_push_size _ rfl, rfl, rfl⟩ (hl.push _) hne hn fun h' tk acc c' hk hS hi => ?_
  have hk2 : ∀ b o, s1.heap.get? b = some o → h'.get? b = some o := fun b o e => hk b o (Nat.ne_of_lt (Heap.lt_size e)) (Heap.get?_push_of_some _ e)
  have hle : s1.heap.objs.size ≤ (s1.heap.push (revObj a ((its.toArray.size : Int) - 1))).objs.size := by rw [Heap.size_push]; exact Nat.le_succ _
  refine ⟨.ref _, upd H1 _ (.lst xs.reverse), I1.laid (t' := tk) hk2 hle (show ObjOk X.prog X.w _ _ _ (.lst xs.reverse) from ⟨by rw [List.length_reverse]; exact hz, acc.toList, c', vals_rev rv hi, ?_⟩), rfl, q _ (I1.hok.fresh hle)⟩
  rw [Array.toArray_toList]
  exact hS
end
end RT

set_option Elab.async false
set_option linter.all false
set_option maxRecDepth 100000
namespace My
open PySem PySem.Spec PyProof.Rows L2 SX
abbrev sLawAltered : Stmt := topS 61
theorem scLawAltered : FnScope ["bag", "world", "entries", "found", "k", "way", "at", "one", "put"] ["bag", "world", "entries"] (defScope sLawAltered) := ⟨rfl, rfl, rfl, by decide +kernel, rfl, by decide +kernel, by decide +kernel⟩
theorem EntAt.but {K : PySem.W.Frag} {H H' : Hp} {b c t : Addr} {ns : List Int} {e : Ent} (h : EntAt H t e) (B : BagC K H b c ns) (s : But b H H') : EntAt H' t e := by
  obtain ⟨vs, h1, h2⟩ := h
  exact ⟨vs, B.tup s h1, Paired.mapP h2 fun _ _ y => y.but B s⟩
section
variable {α β : Type} {F : α → β → Prop}
theorem pr_take (i : Nat) {xs : List α} {ys : List β} (h : Paired F xs ys) : Paired F (xs.take i) (ys.take i) := by
  induction i generalizing xs ys with
  | zero => exact .nil
  | succ i ih => cases h with
    | nil => exact .nil
    | cons a b => exact .cons a (ih b)
theorem pr_drop (i : Nat) {xs : List α} {ys : List β} (h : Paired F xs ys) : Paired F (xs.drop i) (ys.drop i) := by
  induction i generalizing xs ys with
  | zero => exact h
  | succ i ih => cases h with
    | nil => exact .nil
    | cons a b => exact ih b
theorem pr_app {xs us : List α} {ys vs : List β} (h1 : Paired F xs ys) (h2 : Paired F us vs) : Paired F (xs ++ us) (ys ++ vs) := by
  induction h1 with
  | nil => exact h2
  | cons a _ ih => exact .cons a ih
theorem pr_rev {xs : List α} {ys : List β} (h : Paired F xs ys) : Paired F xs.reverse ys.reverse := by
  induction h with
  | nil => exact .nil
  | cons a _ ih => rw [List.reverse_cons, List.reverse_cons]; exact pr_app ih (.cons a .nil)
end
theorem cut_mid {es : List V} {i j : Nat} (hi : i ≤ es.length) (hj : i ≤ j) : cutV es (some (i : Nat)) (some (j : Nat)) = (es.drop i).take (j - i) := by
  unfold cutV
  rw [HT.sIx_nat, HT.sIx_nat, Nat.min_eq_left hi]
  by_cases h : j ≤ es.length
  · rw [Nat.min_eq_left h]
  · rw [Nat.min_eq_right (by omega), List.take_of_length_le (by rw [List.length_drop]; omega), List.take_of_length_le (by rw [List.length_drop]; omega)]
/-- entries in a list of our own -/
structure FIn (K : PySem.W.Frag) (H : Hp) (b c : Addr) (ns : List Int) (G : Hp) (F : Addr) : Prop where
  new : H F = none
  ne : F ≠ b
  off : Off K F c ns
def Fnd (G : Hp) (F : Addr) (m n : Nat) : Prop := ∃ (ts : List Addr) (es : List Ent), G F = some (.lst (ts.map V.ref)) ∧ Paired (EntAt G) ts es ∧ (∀ e ∈ es, e.ok ∧ seatsLen e ≤ m) ∧ es.length ≤ n
theorem Fnd.splice {G : Hp} {F : Addr} {ts us : List Addr} {es fs : List Ent} {m n : Nat} (h : G F = some (.lst (ts.map V.ref))) (P : Paired (EntAt G) ts es) (U : Paired (EntAt G) us fs) (he : ∀ e ∈ es, e.ok ∧ seatsLen e ≤ m) (hf : ∀ e ∈ fs, e.ok ∧ seatsLen e ≤ m) (a c : Nat) (hn : (es.take a ++ fs ++ es.drop c).length ≤ n) : Fnd (L2.upd G F (.lst ((ts.map V.ref).take a ++ us.map V.ref ++ (ts.map V.ref).drop c))) F m n := by
  refine ⟨ts.take a ++ us ++ ts.drop c, es.take a ++ fs ++ es.drop c, ?_, Paired.mapP (pr_app (pr_app (pr_take a P) U) (pr_drop c P)) fun _ _ y => y.updL h, fun e hm => ?_, hn⟩
  · rw [upd_same, List.map_append, List.map_append, List.map_take, List.map_drop]
  · rcases List.mem_append.mp hm with hm | hm
    · rcases List.mem_append.mp hm with hm | hm
      · exact he e (List.mem_of_mem_take hm)
      · exact hf e hm
    · exact he e (List.mem_of_mem_drop hm)
def spAl (K : PySem.W.Frag) : Sp := fun vs H Q _ => ∃ (b c : Addr) (ns : List Int) (wd a : Addr) (ts : List Addr) (es : List Ent), vs = [.ref b, .ref wd, .ref a] ∧ BagC K H b c ns ∧ WorldAt H b wd ∧ H a = some (.lst (ts.map V.ref)) ∧ Paired (EntAt H) ts es ∧ (∀ e ∈ es, e.ok ∧ seatsLen e ≤ 3) ∧ es.length ≤ 12 ∧ ∀ F H', H F = none → F ≠ b → Fnd H' F 5 14 → BagC K H' b c ns → But b H H' → Q (.ref F) H'
theorem pdE_list {K : PySem.W.Frag} {G : Hp} {ts : List Addr} {es : List Ent} (h : Paired (EntAt G) ts es) : DpAll K G (ts.map V.ref) (es.map pdE) := by
  induction h with
  | nil => exact .nil
  | cons a _ ih => exact .cons (dp_ent a) ih
theorem lay_ents : ∀ {es : List Ent}, Oks es → PyData.canLayAll0 (es.map pdE) = true ∧ PyData.depthAll (es.map pdE) ≤ 3
  | [], _ => ⟨by simp [PyData.canLayAll0], by simp [PyData.depthAll]⟩
  | e :: es, h => by
    obtain ⟨h1, h2⟩ := lay_ents (es := es) fun q hq => h q (List.mem_cons_of_mem _ hq)
    obtain ⟨h3, h4⟩ := lay_ent (h e List.mem_cons_self)
    refine ⟨by simp [PyData.canLayAll0, h1, h3], ?_⟩
    rw [List.map_cons]
    unfold PyData.depthAll
    exact Nat.max_le.mpr ⟨h4, h2⟩
theorem shaped_ents {es : List Ent} (h : Oks es) : SeqAt.shaped (.list (es.map pdE)) = true := by
  obtain ⟨h1, h2⟩ := lay_ents h
  have h3 : (PyData.list (es.map pdE)).canLay0 = true := by simp [PyData.canLay0, h1]
  have h4 : (PyData.list (es.map pdE)).depth ≤ 4 := by
    unfold PyData.depth
    omega
  unfold SeqAt.shaped
  rw [h3, decide_eq_true (by omega)]
  rfl
theorem re_list {m : Nat} {G : Hp} {x : V} (h : RE m G x) : ∃ t e, x = .ref t ∧ EntAt G t e ∧ e.ok ∧ seatsLen e ≤ m := h
section
variable {P : Program} {w : World} {K : PySem.W.Frag} {mg : Str → Option Value} {base : Heap}
set_option maxHeartbeats 4000000 in
theorem ok_alt {f fD fO fN : Addr} {fd fdD fdO fdN : FuncData} (F : Fun K "_law_altered" "_law_altered" sLawAltered f fd) (D : Cal P w K mg base "_law_draw" 1 ["bag", "many"] (spDrawC K) fD fdD) (O : Cal P w K mg base "_law_of" 2 ["bag", "things"] (spOfC K) fO fdO) (Ne : Cal P w K mg base "_law_near_entry" 3 ["bag", "world", "entry"] (spNe K) fN fdN) (b_len : mg "len" = none) (b_list : mg "list" = none) (b_range : mg "range" = none) (b_reversed : mg "reversed" = none) (b_min : mg "min" = none) : FnOk P w K mg base CX0 4 f fd ["bag", "world", "entries"] (spAl K) := by
  refine F.ok scLawAltered (fun vs H Q E h => ?_) (fun cdv A outer s H vs Q E hr h => ?_)
  · obtain ⟨b, c, ns, wd, a, ts, es, rfl, _⟩ := h
    rfl
  · obtain ⟨b, c, ns, wd, a, ts, es, rfl, B, W, ha, hp, hok, hl, q⟩ := h
    refine ⟨_, (pss_cons (ps_set (i := 3) scLawAltered.nd rfl (.inl rfl) (pe_callTy call_list_of rfl b_list (by decide +kernel) (pa_cons (pv 2) pa_nil)))
      (pss_cons (ps_for PassesOwn.never rfl (pi_range1 rfl b_range (pa_cons (pe_call O.ok (hr.mono (by omega)) rfl O.g O.kp O.b .nil pass0 (pa_cons (pv 0) (pa_cons (pe_lst (pa_cons pe_int (pa_cons pe_int (pa_cons pe_int (pa_cons pe_int pa_nil))))) pa_nil))) pa_nil)) (pg_name (i := 4) scLawAltered.nd rfl (.inl rfl))
        (pss_cons (ps_par (i := 5) (j := 6) rfl scLawAltered.nd rfl rfl (by decide) rfl rfl (pa_cons (pe_call D.ok (hr.mono (by omega)) rfl D.g D.kp D.b .nil pass0 (pa_cons (pv 0) (pa_cons pe_int pa_nil))) (pa_cons (pe_call D.ok (hr.mono (by omega)) rfl D.g D.kp D.b .nil pass0 (pa_cons (pv 0) (pa_cons (pe_op op_add (pe_callB call_len rfl b_len (by decide +kernel) (pa_cons (pv 3) pa_nil)) pe_int) pa_nil))) pa_nil)) rfl)
        (C8.pss_cut (ps_set (i := 7) scLawAltered.nd rfl (.inl rfl) (pe_ifExp (pt_cmpR (op_neD hr.units) (pv 3) (pe_lst pa_nil) rfl) (pe_call Ne.ok (hr.mono (by omega)) rfl Ne.g Ne.kp Ne.b .nil pass0 (pa_cons (pv 0) (pa_cons (pv 1) (pa_cons (pe_ix ix_list (pv 3) (pe_callB (call_min2 rfl) rfl b_min (by decide +kernel) (pa_cons (pv 6) (pa_cons (pe_op op_sub (pe_callB call_len rfl b_len (by decide +kernel) (pa_cons (pv 3) pa_nil)) pe_int) pa_nil))) (fun _ _ => rfl)) pa_nil)))) (pe_tup (pa_cons pe_str (pa_cons pe_int (pa_cons pe_int pa_nil))))))
        (pss_cons (ps_set (i := 8) scLawAltered.nd rfl (.inl rfl) (pe_lst (pa_cons (pv 7) (pa_cons (pv 7) (pa_cons (pe_tup (pa_cons pe_str (pa_cons pe_str (pa_cons (pe_tup pa_nil) pa_nil)))) (pa_cons (pe_tup (pa_cons pe_str (pa_cons pe_int (pa_cons (pe_call D.ok (hr.mono (by omega)) rfl D.g D.kp D.b .nil pass0 (pa_cons (pv 0) (pa_cons pe_int pa_nil))) pa_nil)))) (pa_cons (pe_tup (pa_cons pe_str (pa_cons pe_str (pa_cons pe_str pa_nil)))) (pa_cons (pe_tup (pa_cons pe_str (pa_cons pe_int (pa_cons pe_int (pa_cons pe_str (pa_cons pe_str pa_nil)))))) pa_nil))))))))
        (pss_one (ps_if (pt_cmpR op_lt (pv 5) pe_int rfl) (pss_one (ps_asg (pe_lst (pa_cons (pv 7) pa_nil)) (Slc.pg_slc (pv 3) (po_some (pv 6)) (po_some (pe_op op_add (pv 6) pe_int))))) (pss_one (ps_if (pt_cmpR op_lt (pv 5) pe_int rfl) (pss_one (ps_asg (pe_ifExp (pt_cmpR op_eq (pv 5) pe_int rfl) (pe_slice sl_list (pv 3) (po_some (pv 6)) (po_some (pe_op op_add (pv 6) pe_int))) (pe_lst pa_nil)) (Slc.pg_slc (pv 3) (po_some (pv 6)) (po_some (pe_op op_sub (pe_op op_add (pv 6) (pv 5)) pe_int))))) (pss_one (ps_if (pt_cmpR op_eq (pv 5) pe_int rfl) (pss_one (ps_asg (pe_lst (pa_cons (pe_call O.ok (hr.mono (by omega)) rfl O.g O.kp O.b .nil pass0 (pa_cons (pv 0) (pa_cons (pv 8) pa_nil))) pa_nil)) (Slc.pg_slc (pv 3) (po_some (pv 6)) (po_some (pv 6))))) (pss_one (ps_if (pt_cmpR op_eq (pv 5) pe_int rfl) (pss_one (ps_asg (RT.pe_listRev rfl rfl b_list rfl b_reversed (pe_slice sl_list (pv 3) (po_some (pv 6)) (po_some (pe_op op_add (pv 6) pe_int)))) (Slc.pg_slc (pv 3) (po_some (pv 6)) (po_some (pe_op op_add (pv 6) pe_int))))) (pss_one (ps_set (i := 3) scLawAltered.nd rfl (.inl rfl) (pe_slice sl_list (pv 3) po_none (po_some (pv 6)))))))))))))))))
      (pss_one (ps_ret (pv 3))))), ?_⟩
    refine ⟨_, rfl, a, _, rfl, .inl (SqL.of ha), fun F0 nF0 => ?_⟩
    have B0 := B.new (o := .lst (ts.map V.ref)) nF0
    have t0 : But b H (upd H F0 (.lst (ts.map V.ref))) := But.new nF0
    have f0 : Fnd (upd H F0 (.lst (ts.map V.ref))) F0 3 12 := ⟨ts, es, upd_same, Paired.mapP hp fun _ _ y => y.same (same_upd nF0), hok, hl⟩
    have i0 : FIn K H b c ns H F0 := ⟨nF0, B.ne nF0, B.off nF0⟩
    generalize upd H F0 (.lst (ts.map V.ref)) = H1 at B0 t0 f0 ⊢
    refine ⟨_, rfl, (by show 4 ≤ sizeLine; decide), fun L nL => ⟨b, _, c, ns, _, rfl, B0.new nL, .inl ⟨L, rfl, B0.ne nL, SqL.of upd_same⟩, by show 0 < 4; decide, by show 4 < 1000; decide, fun v H2 hv B2 t2 => ?_⟩⟩
    obtain ⟨n, rfl, hn⟩ : ∃ n : Nat, v = .int n ∧ n ≤ 2 := by
      simp only [List.mem_cons, List.not_mem_nil, or_false] at hv
      rcases hv with rfl | rfl | rfl | rfl
      · exact ⟨1, rfl, by decide⟩
      · exact ⟨1, rfl, by decide⟩
      · exact ⟨1, rfl, by decide⟩
      · exact ⟨2, rfl, by decide⟩
    have t02 := (But.new (b := b) (o := .lst [.int 1, .int 1, .int 1, .int 2]) nL).trans t2
    have f2 : Fnd H2 F0 3 12 := by
      obtain ⟨ts, es, e1, e2, e3⟩ := f0
      exact ⟨ts, es, t02 _ _ i0.ne e1, Paired.mapP e2 fun _ _ y => y.but B0 t02, e3⟩
    refine ⟨(n : Nat), rfl, by omega, by omega, for_it (walk_range (lo := 0)) (fun i σ' G => ∃ F x4 x5 x6 x7 x8, σ' = [some (.ref b), some (.ref wd), some (.ref a), some (.ref F), x4, x5, x6, x7, x8] ∧ But b H G ∧ BagC K G b c ns ∧ FIn K H b c ns H F ∧ Fnd G F (3 + i) (12 + i)) ⟨F0, none, none, none, none, none, rfl, t0.trans t02, B2, i0, f2⟩ (fun _ _ _ _ _ => trivial) ?_ ?_⟩
    · rintro i z' σ' G0 G hi ⟨F, x4, x5, x6, x7, x8, rfl, tG, BG, iF, fG⟩ ⟨rfl, rfl⟩
      obtain ⟨ts, es, gF, pE, hE, lE⟩ := fG
      have hlen := pE.length
      refine ⟨_, rfl, b, 9, c, ns, rfl, BG, by decide, by decide, fun way G1 w0 w1 B1 t1 => ?_⟩
      have gF1 := t1 _ _ iF.ne gF
      have pE1 := Paired.mapP pE fun _ _ y => EntAt.but y BG t1
      refine ⟨_, rfl, _, rfl, _, _, rfl, .inl ⟨_, SqL.of gF1, rfl⟩, _, _, rfl, rfl, b, _, c, ns, rfl, B1, by rw [List.length_map]; omega, by rw [List.length_map]; omega, fun at' G2 a0 a1 B2 t2 => ?_⟩
      have gF2 := t2 _ _ iF.ne gF1
      have pE2 := Paired.mapP pE1 fun _ _ y => EntAt.but y B1 t2
      have tG2 := tG.trans (t1.trans t2)
      rw [List.length_map] at a1
      obtain ⟨k, rfl⟩ : ∃ k : Nat, at' = k := ⟨at'.toNat, by omega⟩
      obtain ⟨y, rfl⟩ : ∃ y : Nat, way = y := ⟨way.toNat, by omega⟩
      have hk : k ≤ ts.length := by omega
      refine ⟨_, _, rfl, ?_⟩
      refine ⟨fun σ2 G3 => ∃ o x4', σ2 = [some (.ref b), some (.ref wd), some (.ref a), some (.ref F), x4', some (.int (y : Nat)), some (.int (k : Nat)), some o, x8] ∧ But b H G3 ∧ BagC K G3 b c ns ∧ G3 F = some (.lst (ts.map V.ref)) ∧ Paired (EntAt G3) ts es ∧ RE (3 + (i + 1)) G3 o, ?_, ?_⟩
      · refine ⟨_, rfl, Nat.zero_le _, fun z nz => ⟨_, _, .lst (SqL.of (same_upd nz _ _ gF2)) (pdE_list (Paired.mapP pE2 fun _ _ y => EntAt.same y (same_upd nz))), .lst (SqL.of upd_same) .nil, shaped_ents (fun e he => (hE e he).1), by decide +kernel, ?_⟩⟩
        have s3 : Same G2 (upd G2 z (.lst [])) := same_upd nz
        have gF3 := s3 _ _ gF2
        have pE3 := Paired.mapP pE2 fun _ _ y => EntAt.same y s3
        have B3 := B2.same s3
        have tG3 := tG2.trans (But.of s3)
        generalize upd G2 z (.lst []) = G3 at s3 gF3 pE3 B3 tG3 ⊢
        by_cases he : es = []
        · subst he
          refine ⟨_, rfl, iteFd (by simp [PyData.eqv, PyData.eqvAll]) ⟨by show 3 ≤ sizeLine; decide, fun t nt => ?_⟩⟩
          exact ⟨.ref t, _, rfl, tG3.trans (But.new nt), B3.new nt, same_upd nt _ _ gF3, Paired.mapP pE3 fun _ _ y => EntAt.same y (same_upd nt), ent_new (w := .opened) nt (.cons (b := Part.num 0) rfl (.cons (b := Part.num 0) rfl .nil)) ⟨Nat.zero_le _, Nat.zero_le _, trivial⟩ (Nat.zero_le _)⟩
        · have h0 : 0 < es.length := List.length_pos_iff.mpr he
          obtain ⟨j, ej, hj⟩ : ∃ j : Nat, (if (((ts.map V.ref).length : Nat) : Int) - 1 < (k : Int) then (((ts.map V.ref).length : Nat) : Int) - 1 else (k : Int)) = (j : Int) ∧ j < es.length := by
            rw [List.length_map]
            by_cases hc : ((ts.length : Nat) : Int) - 1 < (k : Int)
            · exact ⟨ts.length - 1, by rw [if_pos hc]; omega, by omega⟩
            · exact ⟨k, by rw [if_neg hc], by omega⟩
          have er : es[j]? = some es[j] := List.getElem?_eq_getElem hj
          obtain ⟨t, et, hEt⟩ := paired_at pE3 er
          obtain ⟨k1, k2⟩ := hE _ (List.mem_of_getElem? er)
          refine ⟨_, rfl, iteTd (by cases es <;> first | exact absurd rfl he | simp [PyData.eqv, PyData.eqvAll]) ?_⟩
          refine ⟨_, rfl, _, rfl, _, rfl, _, rfl, _, rfl, _, _, rfl, .inl ⟨_, SqL.of gF3, rfl⟩, _, _, rfl, rfl, _, _, rfl, ?_⟩
          rw [ej]
          exact ⟨F, _, _, .ref t, rfl, rfl, SqL.of gF3, atI_nat (by rw [List.getElem?_map, et]; rfl), b, c, ns, wd, t, _, 3 + i, rfl, B3, W.but tG3, hEt, k1, k2, by omega, fun v G4 R B4 t4 => ⟨v, _, rfl, tG3.trans t4, B4, t4 _ _ iF.ne gF3, Paired.mapP pE3 fun _ _ y => EntAt.but y B3 t4, R⟩⟩
      · rintro σ2 G3 ⟨o, x4', rfl, tG3, B3, gF3, pE3, ot, oe, rfl, hoE, hoo, hos⟩
        have R0 : RE (3 + (i + 1)) G3 (.ref ot) := ⟨ot, oe, rfl, hoE, hoo, hos⟩
        refine ⟨_, rfl, _, rfl, Nat.zero_le _, fun e1 ne1 => ⟨by show 3 ≤ sizeLine; decide, fun p1 np1 => ?_⟩⟩
        have R1 := ent_new (w := .told) (m := 3 + (i + 1)) np1 (.cons (b := Part.word (cd "whole")) (congrArg V.str (S_cd _).symm) (.cons (b := Part.nums []) ⟨e1, rfl, upd_same⟩ .nil)) ⟨(show cd "whole" ∈ ENDS by decide +kernel), ⟨Nat.zero_le _, fun x hx => by cases hx⟩, trivial⟩ (Nat.zero_le _)
        have sA := (same_upd (H := G3) (o := .tup []) ne1).trans (same_upd (o := .tup [.str "told", .str "whole", .ref e1]) np1)
        have B4 := B3.same sA
        have tA := But.of (b := b) sA
        have R1 : RE (3 + (i + 1)) (upd (upd G3 e1 (.tup [])) p1 (.tup [.str "told", .str "whole", .ref e1])) (.ref p1) := R1
        generalize upd (upd G3 e1 (.tup [])) p1 (.tup [.str "told", .str "whole", .ref e1]) = G4 at R1 sA B4 tA ⊢
        refine ⟨_, rfl, b, 3, c, ns, rfl, B4, by decide, by decide, fun d G5 d0 d1 B5 t5 => ⟨by show 3 ≤ sizeLine; decide, fun p2 np2 => ?_⟩⟩
        have R2 := ent_new (w := .opened) (m := 3 + (i + 1)) np2 (.cons (b := Part.num 0) rfl (.cons (num_at d0) .nil)) ⟨Nat.zero_le _, (show d.toNat ≤ 999999999 by omega), trivial⟩ (Nat.zero_le _)
        have B6 := B5.new (o := .tup [.str "opened", .int 0, .int d]) np2
        have t6 := tA.trans (t5.trans (But.new (b := b) (o := .tup [.str "opened", .int 0, .int d]) np2))
        have R1' := (R1.but B4 t5).same (same_upd (o := .tup [.str "opened", .int 0, .int d]) np2)
        have R2 : RE (3 + (i + 1)) (upd G5 p2 (.tup [.str "opened", .int 0, .int d])) (.ref p2) := R2
        generalize upd G5 p2 (.tup [.str "opened", .int 0, .int d]) = G6 at R2 B6 t6 R1' ⊢
        refine ⟨by show 3 ≤ sizeLine; decide, fun p3 np3 => ?_⟩
        have R3 := ent_new (w := .struck) (m := 3 + (i + 1)) np3 (.cons (b := Part.word (cd "ann")) (congrArg V.str (S_cd _).symm) (.cons (b := Part.word (cd "wrong")) (congrArg V.str (S_cd _).symm) .nil)) ⟨⟨by decide +kernel, by decide +kernel, by decide +kernel⟩, (show cd "wrong" ∈ REASONS by decide +kernel), trivial⟩ (Nat.zero_le _)
        have s7 := same_upd (H := G6) (o := .tup [.str "struck", .str "ann", .str "wrong"]) np3
        have R3 : RE (3 + (i + 1)) (upd G6 p3 (.tup [.str "struck", .str "ann", .str "wrong"])) (.ref p3) := R3
        generalize upd G6 p3 (.tup [.str "struck", .str "ann", .str "wrong"]) = G7 at R3 s7 ⊢
        refine ⟨by show 5 ≤ sizeLine; decide, fun p4 np4 => ?_⟩
        have R4 := ent_new (w := .sheet) (m := 3 + (i + 1)) np4 (.cons (b := Part.num 0) rfl (.cons (b := Part.num 0) rfl (.cons (b := Part.word (cd "b")) (congrArg V.str (S_cd _).symm) (.cons (b := Part.word (cd "silent")) (congrArg V.str (S_cd _).symm) .nil)))) ⟨Nat.zero_le _, Nat.zero_le _, ⟨by decide +kernel, by decide +kernel, by decide +kernel⟩, (show cd "silent" ∈ FAULTS by decide +kernel), trivial⟩ (Nat.zero_le _)
        have s8 := same_upd (H := G7) (o := .tup [.str "sheet", .int 0, .int 0, .str "b", .str "silent"]) np4
        have R4 : RE (3 + (i + 1)) (upd G7 p4 (.tup [.str "sheet", .int 0, .int 0, .str "b", .str "silent"])) (.ref p4) := R4
        generalize upd G7 p4 (.tup [.str "sheet", .int 0, .int 0, .str "b", .str "silent"]) = G8 at R4 s8 ⊢
        refine ⟨by show 6 ≤ sizeLine; decide, fun PL nPL => ?_⟩
        have s9 := same_upd (H := G8) (o := .lst [.ref ot, .ref ot, .ref p1, .ref p2, .ref p3, .ref p4]) nPL
        have gPL : (upd G8 PL (.lst [.ref ot, .ref ot, .ref p1, .ref p2, .ref p3, .ref p4])) PL = some (.lst [.ref ot, .ref ot, .ref p1, .ref p2, .ref p3, .ref p4]) := upd_same
        have s79 := s7.trans (s8.trans s9)
        have nP : F ≠ PL := ne_of_none (s8 _ _ (s7 _ _ (t6 _ _ iF.ne gF3))) nPL
        have B9 := B6.same s79
        have t9 := t6.trans (But.of s79)
        have nPLb : PL ≠ b := (B6.same (s7.trans s8)).ne nPL
        have all9 : ∀ x ∈ [V.ref ot, .ref ot, .ref p1, .ref p2, .ref p3, .ref p4], RE (3 + (i + 1)) (upd G8 PL (.lst [.ref ot, .ref ot, .ref p1, .ref p2, .ref p3, .ref p4])) x := fun x hx => by
          simp only [List.mem_cons, List.not_mem_nil, or_false] at hx
          rcases hx with rfl | rfl | rfl | rfl | rfl | rfl
          · exact R0.but B3 t9
          · exact R0.but B3 t9
          · exact R1'.same s79
          · exact R2.same s79
          · exact R3.same (s8.trans s9)
          · exact R4.same s9
        generalize upd G8 PL (.lst [.ref ot, .ref ot, .ref p1, .ref p2, .ref p3, .ref p4]) = G9 at gPL B9 t9 all9 ⊢
        have gF9 := t9 _ _ iF.ne gF3
        have pE9 := Paired.mapP pE3 fun _ _ y => EntAt.but y B3 t9
        have tH9 := tG3.trans t9
        have hE' : ∀ e ∈ es, e.ok ∧ seatsLen e ≤ 3 + (i + 1) := fun e he => ⟨(hE e he).1, by have := (hE e he).2; omega⟩
        clear R0 R1 R1' R2 R3 R4 s79 s7 s8 sA
        have lst_ne : ∀ {G : Hp} {N : Addr} {o : HO}, G F = some (.lst (ts.map V.ref)) → G N = none → F ≠ N := fun h n => ne_of_none h n
        have done : ∀ (G : Hp) (us : List Addr) (fs : List Ent) (c' : Nat), But b H G → BagC K G b c ns → G F = some (.lst (ts.map V.ref)) → Paired (EntAt G) ts es → Paired (EntAt G) us fs → (∀ e ∈ fs, e.ok ∧ seatsLen e ≤ 3 + (i + 1)) → (es.take k ++ fs ++ es.drop c').length ≤ 12 + (i + 1) → ∃ F' x4 x5 x6 x7 x8, ([some (V.ref b), some (.ref wd), some (.ref a), some (.ref F), x4', some (.int (y : Nat)), some (.int (k : Nat)), some (.ref ot), some (.ref PL)] : L2.St) = [some (.ref b), some (.ref wd), some (.ref a), some (.ref F'), x4, x5, x6, x7, x8] ∧ But b H (upd G F (.lst ((ts.map V.ref).take k ++ us.map V.ref ++ (ts.map V.ref).drop c'))) ∧ BagC K (upd G F (.lst ((ts.map V.ref).take k ++ us.map V.ref ++ (ts.map V.ref).drop c'))) b c ns ∧ FIn K H b c ns H F' ∧ Fnd (upd G F (.lst ((ts.map V.ref).take k ++ us.map V.ref ++ (ts.map V.ref).drop c'))) F' (3 + (i + 1)) (12 + (i + 1)) := fun G us fs c' tG BG gF pE pU hU hn =>
          ⟨F, _, _, _, _, _, rfl, tG.updF iF.new, BG.upd iF.off iF.ne, iF, Fnd.splice gF pE pU hE' hU k c' hn⟩
        have ltk : (ts.map V.ref).length = es.length := by rw [List.length_map, hlen]
        have cut1 : cutV (ts.map V.ref) (some (k : Int)) (some ((k : Int) + 1)) = ((ts.drop k).take 1).map V.ref := by
          have := cut_mid (es := ts.map V.ref) (i := k) (j := k + 1) (by rw [ltk]; omega) (by omega)
          rw [show k + 1 - k = 1 by omega] at this
          rw [List.map_take, List.map_drop]
          exact this
        have cut2 : cutV (ts.map V.ref) (some (k : Int)) (some ((k : Int) + 2)) = ((ts.drop k).take 2).map V.ref := by
          have := cut_mid (es := ts.map V.ref) (i := k) (j := k + 2) (by rw [ltk]; omega) (by omega)
          rw [show k + 2 - k = 2 by omega] at this
          rw [List.map_take, List.map_drop]
          exact this
        by_cases y4 : y < 4
        · refine ⟨_, rfl, _, _, rfl, rfl, _, rfl, iteTd (decide_eq_true (by omega)) ⟨_, rfl, by show 1 ≤ sizeLine; decide, fun N nN => ⟨_, rfl, _, rfl, _, rfl, _, rfl, _, _, rfl, rfl, _, rfl, F, N, _, _, k, k + 1, rfl, rfl, rfl, rfl, same_upd nN _ _ gF9, upd_same, ne_of_none gF9 nN, by omega, by omega, line_of (by rw [ltk]; show _ + 1 ≤ _; omega), ?_⟩⟩⟩
          exact done _ [ot] [oe] (k + 1) (tH9.trans (But.new nN)) (B9.new nN) (same_upd nN _ _ gF9) (Paired.mapP pE9 fun _ _ y => EntAt.same y (same_upd nN)) (.cons ((hoE.but B3 t9).same (same_upd nN)) .nil) (fun e he => by rw [List.mem_singleton.mp he]; exact ⟨hoo, hos⟩) (by simp; omega)
        by_cases y6 : y < 6
        · by_cases e4 : y = 4
          · subst e4
            refine ⟨_, rfl, _, _, rfl, rfl, _, rfl, iteFd (by decide) ⟨_, rfl, _, _, rfl, rfl, _, rfl, iteTd (by decide) ⟨_, rfl, rfl, _, rfl, iteTd rfl ?_⟩⟩⟩
            refine ⟨_, rfl, _, rfl, _, rfl, _, rfl, _, _, rfl, rfl, _, rfl, F, _, rfl, SqL.of gF9, fun N nN => ?_⟩
            rw [cut1]
            refine ⟨_, rfl, _, rfl, _, rfl, _, rfl, _, rfl, _, _, rfl, rfl, _, _, rfl, rfl, _, rfl, F, N, _, _, k, k, rfl, rfl, rfl, congrArg some (by omega), same_upd nN _ _ gF9, upd_same, ne_of_none gF9 nN, by omega, Nat.le_refl _, line_of (by rw [ltk, List.length_map, List.length_take]; omega), ?_⟩
            exact done _ ((ts.drop k).take 1) ((es.drop k).take 1) k (tH9.trans (But.new nN)) (B9.new nN) (same_upd nN _ _ gF9) (Paired.mapP pE9 fun _ _ y => EntAt.same y (same_upd nN)) (pr_take 1 (pr_drop k (Paired.mapP pE9 fun _ _ y => EntAt.same y (same_upd nN)))) (fun e he => hE' e (List.mem_of_mem_drop (List.mem_of_mem_take he))) (by simp; omega)
          · obtain rfl : y = 5 := by omega
            refine ⟨_, rfl, _, _, rfl, rfl, _, rfl, iteFd (by decide) ⟨_, rfl, _, _, rfl, rfl, _, rfl, iteTd (by decide) ⟨_, rfl, rfl, _, rfl, iteFd rfl ?_⟩⟩⟩
            refine ⟨Nat.zero_le _, fun N nN => ?_⟩
            refine ⟨_, rfl, _, rfl, _, rfl, _, rfl, _, rfl, _, _, rfl, rfl, _, _, rfl, rfl, _, rfl, F, N, _, _, k, k + 1, rfl, rfl, rfl, congrArg some (by omega), same_upd nN _ _ gF9, upd_same, ne_of_none gF9 nN, by omega, by omega, line_of (by rw [ltk]; show _ + 0 ≤ _; omega), ?_⟩
            exact done _ [] [] (k + 1) (tH9.trans (But.new nN)) (B9.new nN) (same_upd nN _ _ gF9) (Paired.mapP pE9 fun _ _ y => EntAt.same y (same_upd nN)) .nil (fun e he => by cases he) (by simp; omega)
        by_cases e6 : y = 6
        · subst e6
          refine ⟨_, rfl, _, _, rfl, rfl, _, rfl, iteFd (by decide) ⟨_, rfl, _, _, rfl, rfl, _, rfl, iteFd (by decide) ⟨_, rfl, rfl, _, rfl, iteTd rfl ?_⟩⟩⟩
          refine ⟨_, rfl, _, rfl, b, _, c, ns, _, rfl, B9, .inl ⟨PL, rfl, nPLb, SqL.of gPL⟩, by show 0 < 6; decide, by show 6 < 1000; decide, fun v G10 hv B10 t10 => ⟨by show 1 ≤ sizeLine; decide, fun N nN => ?_⟩⟩
          obtain ⟨vt, ve, rfl, hvE, hvo, hvs⟩ := (all9 v hv).but B9 t10
          have gF10 := t10 _ _ iF.ne gF9
          have pE10 := Paired.mapP pE9 fun _ _ y => EntAt.but y B9 t10
          refine ⟨_, rfl, _, rfl, _, rfl, _, rfl, _, rfl, F, N, _, _, k, k, rfl, rfl, rfl, rfl, same_upd nN _ _ gF10, upd_same, ne_of_none gF10 nN, by omega, Nat.le_refl _, line_of (by rw [ltk]; show _ + 1 ≤ _; omega), ?_⟩
          exact done _ [vt] [ve] k (tH9.trans (t10.trans (But.new nN))) (B10.new nN) (same_upd nN _ _ gF10) (Paired.mapP pE10 fun _ _ y => EntAt.same y (same_upd nN)) (.cons (hvE.same (same_upd nN)) .nil) (fun e he => by rw [List.mem_singleton.mp he]; exact ⟨hvo, hvs⟩) (by simp; omega)
        by_cases e7 : y = 7
        · subst e7
          refine ⟨_, rfl, _, _, rfl, rfl, _, rfl, iteFd (by decide) ⟨_, rfl, _, _, rfl, rfl, _, rfl, iteFd (by decide) ⟨_, rfl, rfl, _, rfl, iteFd rfl ⟨_, rfl, rfl, _, rfl, iteTd rfl ?_⟩⟩⟩⟩
          refine ⟨_, rfl, _, rfl, _, rfl, _, rfl, _, _, rfl, rfl, _, rfl, F, _, rfl, SqL.of gF9, fun N nN => ?_⟩
          rw [cut2]
          refine ⟨N, _, rfl, SqL.of upd_same, fun N2 nN2 => ?_⟩
          rw [← List.map_reverse]
          have s10 := (same_upd (H := G9) (o := .lst (((ts.drop k).take 2).map V.ref)) nN).trans (same_upd (o := .lst (((ts.drop k).take 2).reverse.map V.ref)) nN2)
          have gN2 : (upd (upd G9 N (.lst (((ts.drop k).take 2).map V.ref))) N2 (.lst (((ts.drop k).take 2).reverse.map V.ref))) N2 = some (.lst (((ts.drop k).take 2).reverse.map V.ref)) := upd_same
          have nFN : F ≠ N2 := ne_of_none (same_upd nN _ _ gF9) nN2
          generalize upd (upd G9 N (.lst (((ts.drop k).take 2).map V.ref))) N2 (.lst (((ts.drop k).take 2).reverse.map V.ref)) = G10 at s10 gN2 ⊢
          have pE10 := Paired.mapP pE9 fun _ _ y => EntAt.same y s10
          refine ⟨_, rfl, _, rfl, _, rfl, _, rfl, _, _, rfl, rfl, _, rfl, F, N2, _, _, k, k + 2, rfl, rfl, rfl, rfl, s10 _ _ gF9, gN2, nFN, by omega, by omega, line_of (by rw [ltk, List.length_map, List.length_reverse, List.length_take]; omega), ?_⟩
          exact done _ ((ts.drop k).take 2).reverse ((es.drop k).take 2).reverse (k + 2) (tH9.trans (But.of s10)) (B9.same s10) (s10 _ _ gF9) pE10 (pr_rev (pr_take 2 (pr_drop k pE10))) (fun e he => hE' e (List.mem_of_mem_drop (List.mem_of_mem_take (List.mem_reverse.mp he)))) (by simp; omega)
        · obtain rfl : y = 8 := by omega
          refine ⟨_, rfl, _, _, rfl, rfl, _, rfl, iteFd (by decide) ⟨_, rfl, _, _, rfl, rfl, _, rfl, iteFd (by decide) ⟨_, rfl, rfl, _, rfl, iteFd rfl ⟨_, rfl, rfl, _, rfl, iteFd rfl ?_⟩⟩⟩⟩
          refine ⟨_, rfl, _, rfl, _, rfl, F, _, rfl, SqL.of gF9, fun N nN => ?_⟩
          rw [cut_toG (by rw [ltk]; omega), ← List.map_take]
          have nNH : H N = none := by
            cases hx : H N with
            | none => rfl
            | some o => rw [tH9 _ _ (B9.ne nN) hx] at nN; cases nN
          exact ⟨N, _, _, _, _, _, rfl, tH9.trans (But.new nN), B9.new nN, ⟨nNH, B9.ne nN, B9.off nN⟩, ts.take k, es.take k, upd_same, pr_take k (Paired.mapP pE9 fun _ _ y => EntAt.same y (same_upd nN)), fun e he => hE' e (List.mem_of_mem_take he), by rw [List.length_take]; omega⟩
    · rintro σ' G ⟨F, x4, x5, x6, x7, x8, rfl, tG, BG, iF, ts', es', e1, e2, e3, e4⟩
      exact ⟨_, rfl, q F G iF.new iF.ne ⟨ts', es', e1, e2, fun e he => ⟨(e3 e he).1, by have := (e3 e he).2; omega⟩, by omega⟩ BG tG⟩
end
end My

set_option Elab.async false
set_option linter.all false
set_option maxRecDepth 100000
namespace My
open PySem PySem.Spec PyProof.Rows L2 SX
abbrev sLawThere : Stmt := topS 62
theorem scLawThere : FnScope ["entries", "text", "handed", "told"] ["entries"] (defScope sLawThere) := ⟨rfl, rfl, rfl, by decide +kernel, rfl, by decide +kernel, by decide +kernel⟩
theorem lk_ints {K : PySem.W.Frag} {H : Hp} {a b : Addr} {r : List Int} {n : Nat} (ha : H a = some (.tup (intsI r))) (hb : H b = some (.tup (intsI r))) (hl : r.length < 1000) : Lk K H (n + 1) (.ref a) (.ref b) :=
  .inr ⟨a, b, _, _, rfl, rfl, .inr ⟨SqT.of ha, SqT.of hb⟩, rfl, by rw [List.length_map]; exact hl, fun i x y hx hy => by
    rw [hx] at hy
    cases hy
    rw [List.getElem?_map] at hx
    cases e : r[i]? with
    | none => rw [e] at hx; cases hx
    | some z => rw [e] at hx; cases hx; exact Lk.flat rfl trivial⟩
theorem paired_get {α β : Type} {F : α → β → Prop} {xs : List α} {ys : List β} (h : Paired F xs ys) {i : Nat} {x : α} (e : xs[i]? = some x) : ∃ y, ys[i]? = some y ∧ F x y := by
  induction h generalizing i with
  | nil => simp at e
  | cons a _ ih =>
    cases i with
    | zero => simp at e; subst e; exact ⟨_, rfl, a⟩
    | succ i => exact ih (by simpa using e)
theorem lk_part {K : PySem.W.Frag} {H : Hp} {k : Kd} : ∀ {p : Part} {v v' : V}, okP k p → PartAt H v p → PartAt H v' p → Lk K H 2 v v'
  | .num n, v, v', _, h, h' => by
    have h : v = .int (n : Nat) := h
    have h' : v' = .int (n : Nat) := h'
    rw [h, h']
    exact Lk.flat rfl trivial
  | .word l, v, v', _, h, h' => by
    have h : v = tx l := h
    have h' : v' = tx l := h'
    rw [h, h']
    exact Lk.flat rfl trivial
  | .nums r, v, v', ok, ⟨a, e, h⟩, ⟨a', e', h'⟩ => by
    rw [e, e']
    have : r.length < 1000 := by
      cases k with
      | ballots => have := ok.1; omega
      | seats => have := ok.1; omega
      | _ => exact ok.elim
    exact lk_ints h h' this
  | .rows rs, v, v', ok, ⟨a, ts, e, h, z⟩, ⟨a', ts', e', h', z'⟩ => by
    rw [e, e']
    obtain ⟨r1, r2, r3⟩ := sgd_row ok
    have l1 := z.length
    have l2 := z'.length
    refine .inr ⟨a, a', _, _, rfl, rfl, .inr ⟨SqT.of h, SqT.of h'⟩, by rw [List.length_map, List.length_map]; omega, by rw [List.length_map]; omega, fun i x y hx hy => ?_⟩
    rw [List.getElem?_map] at hx hy
    cases e1 : ts[i]? with
    | none => rw [e1] at hx; cases hx
    | some t =>
      rw [e1] at hx
      cases hx
      obtain ⟨r, er, ht⟩ := paired_get z e1
      obtain ⟨t', et, ht'⟩ := paired_at z' er
      rw [et] at hy
      cases hy
      have := (r3 r (List.mem_of_getElem? er)).2.1
      exact lk_ints ht ht' (by omega)
  | .shown s t, v, v', ok, ⟨a, e, h⟩, ⟨a', e', h'⟩ => by
    rw [e, e']
    refine .inr ⟨a, a', _, _, rfl, rfl, .inr ⟨SqT.of h, SqT.of h'⟩, rfl, by show 2 < 1000; decide, fun i x y hx hy => ?_⟩
    rw [hx] at hy
    cases hy
    match i, hx with
    | 0, hx => cases hx; exact Lk.flat rfl trivial
    | 1, hx => cases hx; exact Lk.flat rfl trivial
    | i + 2, hx => simp at hx
theorem lk_ent {K : PySem.W.Frag} {H : Hp} {e : Ent} {t t' : Addr} (ok : e.ok) (h : EntAt H t e) (h' : EntAt H t' e) : Lk K H 3 (.ref t) (.ref t') := by
  obtain ⟨vs, e1, p1⟩ := h
  obtain ⟨vs', e2, p2⟩ := h'
  have l1 := p1.length
  have l2 := p2.length
  have l3 := okAll_len ok
  have l4 := (pat_len e.w).1
  refine .inr ⟨t, t', _, _, rfl, rfl, .inr ⟨SqT.of e1, SqT.of e2⟩, by rw [List.length_cons, List.length_cons]; omega, by rw [List.length_cons]; omega, fun i x y hx hy => ?_⟩
  cases i with
  | zero =>
    cases hx
    cases hy
    exact Lk.flat rfl trivial
  | succ i =>
    have hx : vs[i]? = some x := hx
    have hy : vs'[i]? = some y := hy
    obtain ⟨p, ep, hp⟩ := paired_get p1 hx
    obtain ⟨y', ey, hp'⟩ := paired_at p2 ep
    rw [ey] at hy
    cases hy
    have hi : i < (pat e.w).length := by
      have := (List.getElem?_eq_some_iff.mp ep).1
      omega
    exact lk_part (okAll_get ok (List.getElem?_eq_getElem hi) ep) hp hp'
theorem lk_ents {K : PySem.W.Frag} {H : Hp} {a b : Addr} {ts ts' : List Addr} {es : List Ent} (ok : Oks es) (hl : es.length ≤ 20) (ha : H a = some (.lst (ts.map V.ref))) (hb : H b = some (.lst (ts'.map V.ref))) (p1 : Paired (EntAt H) ts es) (p2 : Paired (EntAt H) ts' es) : Lk K H 4 (.ref a) (.ref b) := by
  have l1 := p1.length
  have l2 := p2.length
  refine .inr ⟨a, b, _, _, rfl, rfl, .inl ⟨SqL.of ha, SqL.of hb⟩, by rw [List.length_map, List.length_map]; omega, by rw [List.length_map]; omega, fun i x y hx hy => ?_⟩
  rw [List.getElem?_map] at hx hy
  cases e1 : ts[i]? with
  | none => rw [e1] at hx; cases hx
  | some t =>
    rw [e1] at hx
    cases hx
    obtain ⟨e, er, ht⟩ := paired_get p1 e1
    obtain ⟨t', et, ht'⟩ := paired_at p2 er
    rw [et] at hy
    cases hy
    exact lk_ent (ok e (List.mem_of_getElem? er)) ht ht'
def spTh (K : PySem.W.Frag) : Sp := fun vs H Q _ => ∃ (a : Addr) (ts : List Addr) (es : List Ent), vs = [.ref a] ∧ H a = some (.lst (ts.map V.ref)) ∧ Paired (EntAt H) ts es ∧ Oks es ∧ es.length ≤ 20 ∧ ∀ H', Same H H' → Q (.bl true) H'
section
variable {P : Program} {w : World} {K : PySem.W.Frag} {mg : Str → Option Value} {base : Heap}
set_option maxHeartbeats 4000000 in
theorem ok_there {f fL fI fM fR : Addr} {fd fdL fdI fdM fdR : FuncData} (F : Fun K "_law_there" "_law_there" sLawThere f fd) (Ll : Cal P w K mg base "_law_lined" 3 ["entries"] (spLined K) fL fdL) (Li : Cal P w K mg base "_law_like" 5 ["found", "due"] (spLike K 4) fI fdI) (Mt : Cal P w K mg base "minutes_text" 9 ["entries"] (spMT K) fM fdM) (Rm : Cal P w K mg base "read_minutes" 8 ["text"] (spRM K) fR fdR) (b_list : mg "list" = none) (b_tuple : mg "tuple" = none) : FnOk P w K mg base CX0 10 f fd ["entries"] (spTh K) := by
  refine F.ok scLawThere (fun vs H Q E h => ?_) (fun cdv A outer s H vs Q E hr h => ?_)
  · obtain ⟨a, ts, es, rfl, _⟩ := h
    rfl
  · obtain ⟨a, ts, es, rfl, ha, hp, hok, hl, q⟩ := h
    refine ⟨_, (pss_cons (ps_par (i := 1) (j := 2) rfl scLawThere.nd rfl rfl (by decide) rfl rfl (pa_cons (pe_call Ll.ok (hr.mono (by omega)) rfl Ll.g Ll.kp Ll.b .nil pass0 (pa_cons (pv 0) pa_nil)) (pa_cons (pe_callTy call_list_of rfl b_list (by decide +kernel) (pa_cons (pv 0) pa_nil)) pa_nil)) rfl)
      (pss_cons (ps_if (PW.pt (pw_or (pt_not (pt_val (pe_call Li.ok (hr.mono (by omega)) rfl Li.g Li.kp Li.b .nil pass0 (pa_cons (pe_call Mt.ok (hr.mono (by omega)) rfl Mt.g Mt.kp Mt.b .nil pass0 (pa_cons (pv 2) pa_nil)) (pa_cons (pv 1) pa_nil))))) (pw_or1 (pt_cmpR (op_neD hr.units) (pv 2) (pv 0) rfl)))) (pss_one (ps_ret pe_bl)) pss_nil)
      (pss_cons (ps_set (i := 3) scLawThere.nd rfl (.inl rfl) (pe_call Rm.ok (hr.mono (by omega)) rfl Rm.g Rm.kp Rm.b .nil pass0 (pa_cons (pv 1) pa_nil)))
      (pss_cons (ps_if (pt_not (pt_val (pe_call Li.ok (hr.mono (by omega)) rfl Li.g Li.kp Li.b .nil pass0 (pa_cons (pv 3) (pa_cons (pv 0) pa_nil))))) (pss_one (ps_ret pe_bl)) pss_nil)
      (pss_cons (ps_expr (pe_bm PySem.F.plainAttrs_list PySem.F.slot_list_append PySem.F.type_list_append mt_append (pv 3) (pa_cons (pe_tup (pa_cons pe_str (pa_cons pe_int (pa_cons pe_int pa_nil)))) pa_nil)))
      (pss_cons (ps_expr (pe_bm0 PySem.F.plainAttrs_list PySem.F.slot_list_reverse PySem.F.type_list_reverse mt_reverse (pv 3)))
      (pss_one (ps_ret (pe_and (pe_call Li.ok (hr.mono (by omega)) rfl Li.g Li.kp Li.b .nil pass0 (pa_cons (pe_call Rm.ok (hr.mono (by omega)) rfl Rm.g Rm.kp Rm.b .nil pass0 (pa_cons (pv 1) pa_nil)) (pa_cons (pv 0) pa_nil))) (pe_one (pe_call Li.ok (hr.mono (by omega)) rfl Li.g Li.kp Li.b .nil pass0 (pa_cons (pe_call Mt.ok (hr.mono (by omega)) rfl Mt.g Mt.kp Mt.b .nil pass0 (pa_cons (pe_callTy call_tuple_of rfl b_tuple (by decide +kernel) (pa_cons (pv 0) pa_nil)) pa_nil)) (pa_cons (pv 1) pa_nil))))))))))))), ?_⟩
    refine ⟨_, rfl, a, ts, es, rfl, SqL.of ha, hp, hok, hl, fun H1 s1 => ⟨_, rfl, a, _, rfl, .inl (SqL.of (s1 _ _ ha)), fun hd nhd => ⟨_, _, rfl, ?_⟩⟩⟩
    have s2 := s1.trans (same_upd (o := .lst (ts.map V.ref)) nhd)
    have hhd : (upd H1 hd (.lst (ts.map V.ref))) hd = some (.lst (ts.map V.ref)) := upd_same
    generalize upd H1 hd (.lst (ts.map V.ref)) = H2 at s2 hhd ⊢
    have at_ : ∀ {G : Hp}, Same H G → Paired (EntAt G) ts es := fun s => Paired.mapP hp fun _ _ y => EntAt.same y s
    have self : PyData.eqv (.list (es.map pdE)) (.list (es.map pdE)) = true := SeqAt.eqv_refl _ (by
      have := (lay_ents hok).1
      simp [PyData.canLay0, this])
    refine ⟨_, rfl, hd, ts, es, rfl, ⟨.inl (SqL.of hhd), at_ s2⟩, hok, hl, fun H3 s3 => ⟨_, rfl, _, _, rfl, Lk.flat rfl trivial, fun H4 s4 => ⟨_, rfl, iteF ⟨_, rfl, _, rfl, _, _, .lst (SqL.of (s4 _ _ (s3 _ _ hhd))) (pdE_list (at_ (s2.trans (s3.trans s4)))), .lst (SqL.of ((s2.trans (s3.trans s4)) _ _ ha)) (pdE_list (at_ (s2.trans (s3.trans s4)))), shaped_ents hok, shaped_ents hok, _, rfl, iteFd (by rw [self]; rfl) ?_⟩⟩⟩⟩
    have s5 := s2.trans (s3.trans s4)
    clear s3 s4 hhd
    refine ⟨_, rfl, es, rfl, hok, hl, fun d td H5 s6 nd gd pd => ?_⟩
    have sH5 := s5.trans s6
    refine ⟨_, rfl, _, rfl, _, _, rfl, lk_ents hok hl gd (sH5 _ _ ha) pd (at_ sH5), fun H6 s7 => ⟨_, rfl, iteF ?_⟩⟩
    have sH6 := sH5.trans s7
    have ndH : H d = none := by
      cases hx : H d with
      | none => rfl
      | some o => rw [s5 _ _ hx] at nd; cases nd
    have gd6 := s7 _ _ gd
    refine ⟨_, rfl, .inl ⟨rfl, _, SqL.of gd6⟩, by show 3 ≤ sizeLine; decide, fun x nx => ⟨d, _, _, rfl, rfl, same_upd nx _ _ gd6, ?_, ?_⟩⟩
    · have := pd.length
      rw [List.length_map]
      exact small1000' (by omega)
    have sx := sH6.trans (same_upd (o := .tup [.str "opened", .int 0, .int 0]) nx)
    generalize upd H6 x (.tup [.str "opened", .int 0, .int 0]) = H7 at sx ⊢
    have s8 := same_updF (o := .lst (td.map V.ref ++ [V.ref x])) ndH sx
    have gd8 : (upd H7 d (.lst (td.map V.ref ++ [V.ref x]))) d = some (.lst (td.map V.ref ++ [V.ref x])) := upd_same
    generalize upd H7 d (.lst (td.map V.ref ++ [V.ref x])) = H8 at s8 gd8 ⊢
    refine ⟨_, rfl, .inl ⟨rfl, _, SqL.of gd8⟩, d, _, rfl, rfl, gd8, ?_⟩
    have s9 := same_updF (o := .lst (td.map V.ref ++ [V.ref x]).reverse) ndH s8
    generalize upd H8 d (.lst (td.map V.ref ++ [V.ref x]).reverse) = H9 at s9 ⊢
    refine ⟨_, rfl, es, rfl, hok, hl, fun d2 td2 H10 s10 nd2 gd2 pd2 => ?_⟩
    have sH10 := s9.trans s10
    refine ⟨_, rfl, _, _, rfl, lk_ents hok hl gd2 (sH10 _ _ ha) pd2 (at_ sH10), fun H11 s11 => ?_⟩
    have sH11 := sH10.trans s11
    exact ⟨_, rfl, iteT ⟨_, rfl, a, _, rfl, .inl ⟨SqL.of (sH11 _ _ ha), fun u nu => ⟨u, ts, es, rfl, ⟨.inr (SqT.of upd_same), at_ (sH11.trans (same_upd nu))⟩, hok, hl, fun H12 s12 => ⟨_, rfl, _, _, rfl, Lk.flat rfl trivial, fun H13 s13 => q H13 (sH11.trans ((same_upd nu).trans (s12.trans s13)))⟩⟩⟩⟩⟩
end
end My

set_option Elab.async false
set_option linter.all false
set_option maxRecDepth 100000
namespace My
open PySem PySem.Spec PyProof.Rows L2 SX
theorem op_isBl {X : Cx} : OpR X (compareOp .Is) (fun x y H Q => ∃ a b, x = .bl a ∧ y = .bl b ∧ Q (.bl (decide (a = b))) H) := by
  intro pins s σ H x y v u Q I rx ry h
  obtain ⟨a, b, rfl, rfl, q⟩ := h
  cases (show v = Value.bool a from rx)
  cases (show u = Value.bool b from ry)
  exact wpAny_is_plain rfl (fin_bl I q (by cases a <;> cases b <;> rfl))
theorem ntx_inj {x y : Int} (hx : -999999999 ≤ x ∧ x ≤ 999999999) (hy : -999999999 ≤ y ∧ y ≤ 999999999) (h : ntx x = ntx y) : x = y := by
  have h1 := ntx_int hx
  rw [h, ntx_int hy] at h1
  exact (Option.some.inj h1).symm
theorem ntxs_inj : ∀ {r r' : List Int}, Sgd r → Sgd r' → r.map ntx = r'.map ntx → r = r'
  | [], [], _, _, _ => rfl
  | x :: r, y :: r', h, h', e => by
    rw [List.map_cons, List.map_cons] at e
    obtain ⟨e1, e2⟩ := List.cons.inj e
    rw [ntx_inj (h x List.mem_cons_self) (h' y List.mem_cons_self) e1, ntxs_inj (fun z hz => h z (List.mem_cons_of_mem _ hz)) (fun z hz => h' z (List.mem_cons_of_mem _ hz)) e2]
  | [], _ :: _, _, _, e => by cases e
  | _ :: _, [], _, _, e => by cases e
theorem numsT_inj {r r' : List Int} (h : Sgd r) (h' : Sgd r') (n : r ≠ []) (n' : r' ≠ []) (e : numsT r = numsT r') : r = r' := ntxs_inj h h' (by rw [← numsT_split r n, ← numsT_split r' n', e])
theorem numss_inj : ∀ {rs rs' : List (List Int)}, (∀ r ∈ rs, r ≠ [] ∧ Sgd r) → (∀ r ∈ rs', r ≠ [] ∧ Sgd r) → rs.map numsT = rs'.map numsT → rs = rs'
  | [], [], _, _, _ => rfl
  | x :: r, y :: r', h, h', e => by
    rw [List.map_cons, List.map_cons] at e
    obtain ⟨e1, e2⟩ := List.cons.inj e
    obtain ⟨a1, a2⟩ := h x List.mem_cons_self
    obtain ⟨b1, b2⟩ := h' y List.mem_cons_self
    rw [numsT_inj a2 b2 a1 b1 e1, numss_inj (fun z hz => h z (List.mem_cons_of_mem _ hz)) (fun z hz => h' z (List.mem_cons_of_mem _ hz)) e2]
  | [], _ :: _, _, _, e => by cases e
  | _ :: _, [], _, _, e => by cases e
theorem none_nums {p : Part} (h : partT p = none) : p = .nums [] := by
  cases p with
  | nums r =>
    have e : (if r = [] then none else some (numsT r)) = none := h
    split at e
    · rename_i h; rw [h]
    · cases e
  | _ => cases h
theorem some_nums {r : List Int} {t : List Nat} (h : partT (.nums r) = some t) : r ≠ [] ∧ t = numsT r := by
  have e : (if r = [] then none else some (numsT r)) = some t := h
  split at e
  · cases e
  · rename_i h
    exact ⟨h, (Option.some.inj e).symm⟩
theorem nums_sgd {k : Kd} {r : List Int} (h : okP k (.nums r)) : Sgd r := by
  cases k with
  | ballots => exact h.2
  | seats => exact fun x hx => by have := h.2 x hx; omega
  | _ => exact h.elim
theorem partT_inj {k : Kd} {p p' : Part} (hk : isLong k = true) (h : okP k p) (h' : okP k p') (e : partT p = partT p') : p = p' := by
  cases hT : partT p with
  | none => rw [none_nums hT, none_nums (p := p') (e.symm.trans hT)]
  | some t =>
    have hT' : partT p' = some t := e.symm.trans hT
    have fw : ∀ {l}, okP k (.word l) → l ∈ FAULTS := fun {l} h => by cases k <;> first | exact h | exact absurd hk (by decide) | exact h.elim
    cases p with
    | num n => exact absurd hk (by cases k <;> first | exact h.elim | decide)
    | word l =>
      obtain rfl : l = t := Option.some.inj hT
      cases p' with
      | num n => exact absurd hk (by cases k <;> first | exact h'.elim | decide)
      | word l' =>
        obtain rfl : l' = l := Option.some.inj hT'
        rfl
      | nums r => exact absurd (fw h) (not_fa hT' (.inl ⟨_, rfl⟩))
      | rows r => exact absurd (fw h) (not_fa hT' (.inr (.inl ⟨_, rfl⟩)))
      | shown a b => exact absurd (fw h) (not_fa hT' (.inr (.inr ⟨_, _, rfl⟩)))
    | nums r =>
      cases p' with
      | word l' =>
        obtain rfl : l' = t := Option.some.inj hT'
        exact absurd (fw h') (not_fa hT (.inl ⟨_, rfl⟩))
      | nums r' =>
        obtain ⟨n1, e1⟩ := some_nums hT
        obtain ⟨n2, e2⟩ := some_nums hT'
        rw [numsT_inj (nums_sgd h) (nums_sgd h') n1 n2 (e1.symm.trans e2)]
      | _ => cases k <;> first | exact h.elim | exact h'.elim
    | rows rs =>
      cases p' with
      | word l' =>
        obtain rfl : l' = t := Option.some.inj hT'
        exact absurd (fw h') (not_fa hT (.inr (.inl ⟨_, rfl⟩)))
      | rows rs' =>
        obtain ⟨a1, a2, a3⟩ := sgd_row h
        obtain ⟨b1, b2, b3⟩ := sgd_row h'
        have et : rowsT rs = rowsT rs' := (Option.some.inj hT).trans (Option.some.inj hT').symm
        rw [numss_inj (fun r hr => ⟨(a3 r hr).1, (a3 r hr).2.2⟩) (fun r hr => ⟨(b3 r hr).1, (b3 r hr).2.2⟩) (by rw [← rowsT_split rs a1, ← rowsT_split rs' b1, et])]
      | _ => cases k <;> first | exact h.elim | exact h'.elim
    | shown s u =>
      cases p' with
      | word l' =>
        obtain rfl : l' = t := Option.some.inj hT'
        exact absurd (fw h') (not_fa hT (.inr (.inr ⟨_, _, rfl⟩)))
      | shown s' u' =>
        have et : ntx (s : Nat) ++ 32 :: u = ntx (s' : Nat) ++ 32 :: u' := (Option.some.inj hT).trans (Option.some.inj hT').symm
        have f1 : 32 ∉ ntx (s : Nat) := fun hm => by have := ntx_mem hm; omega
        have f2 : 32 ∉ ntx (s' : Nat) := fun hm => by have := ntx_mem hm; omega
        have g1 := par_head (sep := []) u f1
        have g2 := par_head (sep := []) u' f2
        have g3 : ntx (s : Nat) ++ ([32] ++ u) = ntx (s' : Nat) ++ ([32] ++ u') := et
        rw [g3, g2] at g1
        have g4 := Option.some.inj g1
        have k1 : s ≤ 9999 := by cases k <;> first | exact h.1 | exact h.elim
        have k2 : s' ≤ 9999 := by cases k <;> first | exact h'.1 | exact h'.elim
        have k3 := ntx_inj (by omega) (by omega) (congrArg Prod.fst g4)
        have k4 : u' = u := congrArg Prod.snd g4
        obtain rfl : s' = s := by omega
        rw [k4]
      | _ => cases k <;> first | exact h.elim | exact h'.elim
theorem restT_inj {k : Kd} {p p' : Part} (hk : isLong k = true) (h : okP k p) (h' : okP k p') (e : restT p = restT p') : p = p' := by
  refine partT_inj hk h h' ?_
  unfold restT at e
  cases h1 : partT p <;> cases h2 : partT p' <;> rw [h1, h2] at e
  · cases e
  · cases e
  · rw [(List.cons.inj e).2]
theorem stx_inj : ∀ {ks : List Kd} {ps ps' : List Part}, okAll ks ps → okAll ks ps' → (∀ k ∈ ks, isLong k = false) → ps.map stx = ps'.map stx → ps = ps'
  | [], [], [], _, _, _, _ => rfl
  | k :: ks, p :: ps, p' :: ps', h, h', hk, e => by
    rw [List.map_cons, List.map_cons] at e
    obtain ⟨e1, e2⟩ := List.cons.inj e
    rw [stx_inj h.2 h'.2 (fun z hz => hk z (List.mem_cons_of_mem _ hz)) e2]
    obtain ⟨_, a1, _, a2⟩ := short_part (hk k List.mem_cons_self) h.1
    obtain ⟨_, b1, _, b2⟩ := short_part (hk k List.mem_cons_self) h'.1
    congr 1
    rcases a2 with ⟨rfl, n, rfl, hn⟩ | ⟨hk2, l, rfl⟩
    · rcases b2 with ⟨_, n', rfl, hn'⟩ | ⟨hk2, _⟩
      · have e1 : ntx (n : Nat) = ntx (n' : Nat) := e1
        have := ntx_inj (by omega) (by omega) e1
        obtain rfl : n = n' := by omega
        rfl
      · exact absurd rfl hk2
    · rcases b2 with ⟨h3, _⟩ | ⟨_, l', rfl⟩
      · exact absurd h3 hk2
      · have e1 : l = l' := e1
        rw [e1]
  | [], _ :: _, _, h, _, _, _ => h.elim
  | [], [], _ :: _, _, h, _, _ => h.elim
  | _ :: _, [], _, h, _, _, _ => h.elim
  | _ :: _, _ :: _, [], _, h, _, _ => h.elim
theorem wdT_inj {w w' : Wd} (h : wdT w = wdT w') : w = w' := by
  cases w <;> cases w' <;> first | rfl | exact absurd h (by decide +kernel)
theorem head_inj {w w' : Wd} {ps ps' : List Part} (h : okAll (shorts w) ps) (h' : okAll (shorts w') ps') (e : headT w ps = headT w' ps') : w = w' ∧ ps = ps' := by
  have e1 := head_split h
  rw [e, head_split h'] at e1
  obtain ⟨e2, e3⟩ := List.cons.inj e1
  have e4 := wdT_inj e2
  subst e4
  exact ⟨rfl, (stx_inj h' h (fun k hk => shorts_short hk) e3).symm⟩
theorem entT_inj {e e' : Ent} (h : e.ok) (h' : e'.ok) (heq : entT e = entT e') : e = e' := by
  obtain ⟨ps0, a0, ha⟩ := ent_parts h
  obtain ⟨ps1, b0, hb⟩ := ent_parts h'
  have p1 := fun r => par_free (sep := COL) (p := headT e.w ps0) r (by simp) (free_second (by decide) (head_free a0))
  have p2 := fun r => par_free (sep := COL) (p := headT e'.w ps1) r (by simp) (free_second (by decide) (head_free b0))
  have n1 : TL.par COL [] (headT e.w ps0) = none := TL.par_none (none_second (by decide) (head_free a0))
  have n2 : TL.par COL [] (headT e'.w ps1) = none := TL.par_none (none_second (by decide) (head_free b0))
  have fin : ∀ {e e' : Ent}, e.w = e'.w → e.ps = e'.ps → e = e' := fun {e e'} h1 h2 => by
    cases e
    cases e'
    cases h1
    cases h2
    rfl
  rcases ha with ⟨l1, q1, t1⟩ | ⟨k, p, l1, hk, q1, ok1, t1⟩
  · rcases hb with ⟨l2, q2, t2⟩ | ⟨k', p', l2, hk', q2, ok2, t2⟩
    · obtain ⟨w1, w2⟩ := head_inj a0 b0 (t1.symm.trans (heq.trans t2))
      exact fin w1 (by rw [q1, q2, w2])
    · have := p2 (restT p')
      rw [← t2, ← heq, t1, n1] at this
      cases this
  · rcases hb with ⟨l2, q2, t2⟩ | ⟨k', p', l2, hk', q2, ok2, t2⟩
    · have := p1 (restT p)
      rw [← t1, heq, t2, n2] at this
      cases this
    · have g1 := p1 (restT p)
      rw [← t1, heq, t2, p2 (restT p')] at g1
      have g2 := Option.some.inj g1
      obtain ⟨w1, w2⟩ := head_inj b0 a0 (congrArg Prod.fst g2)
      have g3 : restT p' = restT p := congrArg Prod.snd g2
      rw [w1] at l2
      obtain rfl : k' = k := Option.some.inj (l2.symm.trans l1)
      exact fin w1.symm (by rw [q1, q2, w2, restT_inj hk ok2 ok1 g3])
theorem ents_inj : ∀ {es es' : List Ent}, Oks es → Oks es' → es.map entT = es'.map entT → es = es'
  | [], [], _, _, _ => rfl
  | x :: r, y :: r', h, h', e => by
    rw [List.map_cons, List.map_cons] at e
    obtain ⟨e1, e2⟩ := List.cons.inj e
    rw [entT_inj (h x List.mem_cons_self) (h' y List.mem_cons_self) e1, ents_inj (fun z hz => h z (List.mem_cons_of_mem _ hz)) (fun z hz => h' z (List.mem_cons_of_mem _ hz)) e2]
  | [], _ :: _, _, _, e => by cases e
  | _ :: _, [], _, _, e => by cases e
theorem lines_inj {es es' : List Ent} (h : Oks es) (h' : Oks es') (e : linesT es = linesT es') : es = es' := by
  have e1 := lines_split h
  rw [e, lines_split h'] at e1
  exact (ents_inj h' h (List.append_inj_left' e1 rfl)).symm
/-! ### data that are equal -/
theorem eqv_ints : ∀ {r r' : List Int}, PyData.eqvAll (r.map PyData.int) (r'.map PyData.int) = true → r = r'
  | [], [], _ => rfl
  | x :: r, y :: r', h => by
    simp only [List.map_cons, PyData.eqvAll, PyData.eqv, Bool.and_eq_true, beq_iff_eq] at h
    rw [h.1, eqv_ints h.2]
  | [], _ :: _, h => by simp [PyData.eqvAll] at h
  | _ :: _, [], h => by simp [PyData.eqvAll] at h
theorem eqv_rows : ∀ {r r' : List (List Int)}, PyData.eqvAll (r.map pdI) (r'.map pdI) = true → r = r'
  | [], [], _ => rfl
  | x :: r, y :: r', h => by
    simp only [List.map_cons, PyData.eqvAll, pdI, PyData.eqv, Bool.and_eq_true] at h
    rw [eqv_ints h.1, eqv_rows h.2]
  | [], _ :: _, h => by simp [PyData.eqvAll] at h
  | _ :: _, [], h => by simp [PyData.eqvAll] at h
theorem str_of_eq {l l' : List Nat} (h : (S l == S l') = true) : l = l' := S_inj (beq_iff_eq.mp h)
theorem eqv_part {k : Kd} {p p' : Part} (h : okP k p) (h' : okP k p') (e : PyData.eqv (pdP p) (pdP p') = true) : p = p' := by
  cases p <;> cases p' <;> first
    | (simp [pdP, pdI, PyData.eqv] at e; done)
    | (cases k <;> first | exact h.elim | exact h'.elim)
    | skip
  · rename_i n n'
    simp only [pdP, PyData.eqv, beq_iff_eq] at e
    obtain rfl : n = n' := by omega
    rfl
  · rename_i l l'
    simp only [pdP, PyData.eqv] at e
    rw [str_of_eq e]
  · rename_i r r'
    simp only [pdP, pdI, PyData.eqv] at e
    rw [eqv_ints e]
  · rename_i r r'
    simp only [pdP, PyData.eqv] at e
    rw [eqv_rows e]
  · rename_i s u s' u'
    simp only [pdP, PyData.eqv, PyData.eqvAll, Bool.and_eq_true, beq_iff_eq, Bool.and_true] at e
    obtain rfl : s = s' := by omega
    rw [S_inj e.2]
theorem eqv_parts : ∀ {ks : List Kd} {ps ps' : List Part}, okAll ks ps → okAll ks ps' → PyData.eqvAll (ps.map pdP) (ps'.map pdP) = true → ps = ps'
  | [], [], [], _, _, _ => rfl
  | k :: ks, p :: ps, p' :: ps', h, h', e => by
    simp only [List.map_cons, PyData.eqvAll, Bool.and_eq_true] at e
    rw [eqv_part h.1 h'.1 e.1, eqv_parts h.2 h'.2 e.2]
  | [], _ :: _, _, h, _, _ => h.elim
  | [], [], _ :: _, _, h, _ => h.elim
  | _ :: _, [], _, h, _, _ => h.elim
  | _ :: _, _ :: _, [], _, h, _ => h.elim
theorem wdS_inj {w w' : Wd} (h : wdS w = wdS w') : w = w' := wdT_inj (congrArg cd h)
theorem eqv_ents : ∀ {es es' : List Ent}, Oks es → Oks es' → PyData.eqvAll (es.map pdE) (es'.map pdE) = true → es = es'
  | [], [], _, _, _ => rfl
  | x :: r, y :: r', h, h', e => by
    simp only [List.map_cons, PyData.eqvAll, pdE, PyData.eqv, Bool.and_eq_true, beq_iff_eq] at e
    obtain ⟨⟨e1, e2⟩, e3⟩ := e
    obtain ⟨w, ps⟩ := x
    obtain ⟨w', ps'⟩ := y
    have e4 := wdS_inj e1
    have e4 : w = w' := e4
    subst e4
    have e5 : ps = ps' := eqv_parts (ks := pat w) (h ⟨w, ps⟩ List.mem_cons_self) (h' ⟨w, ps'⟩ List.mem_cons_self) e2
    subst e5
    rw [eqv_ents (fun z hz => h z (List.mem_cons_of_mem _ hz)) (fun z hz => h' z (List.mem_cons_of_mem _ hz)) e3]
  | [], _ :: _, _, _, h => by simp [PyData.eqvAll] at h
  | _ :: _, [], _, _, h => by simp [PyData.eqvAll] at h
theorem eqv_list {es es' : List Ent} (h : Oks es) (h' : Oks es') : PyData.eqv (.list (es.map pdE)) (.list (es'.map pdE)) = decide (es = es') := by
  by_cases e : es = es'
  · subst e
    rw [decide_eq_true rfl]
    exact SeqAt.eqv_refl _ (by
      have := (lay_ents h).1
      simp [PyData.canLay0, this])
  · rw [decide_eq_false e]
    cases hx : PyData.eqv (.list (es.map pdE)) (.list (es'.map pdE)) with
    | false => rfl
    | true =>
      simp only [PyData.eqv] at hx
      exact absurd (eqv_ents h h' hx) e
theorem txt_list {es es' : List Ent} (h : Oks es) (h' : Oks es') : decide (tx (linesT es) = tx (linesT es')) = decide (es = es') := by
  by_cases e : es = es'
  · subst e
    rw [decide_eq_true rfl, decide_eq_true rfl]
  · rw [decide_eq_false e]
    exact decide_eq_false fun z => e (lines_inj h h' (S_inj (V.str.inj z)))
end My

set_option Elab.async false
set_option linter.all false
set_option maxRecDepth 100000
namespace My
open PySem PySem.Spec PyProof.Rows L2 SX
abbrev sLaw : Stmt := topS 63
theorem scLaw : FnScope ["script", "bag", "turn", "entries", "k", "at", "texts", "one", "other"] ["script"] (defScope sLaw) := ⟨rfl, rfl, rfl, by decide +kernel, rfl, by decide +kernel, by decide +kernel⟩
def rIsB : R2 := fun x y H Q => ∃ a b, x = .bl a ∧ y = .bl b ∧ Q (.bl (decide (a = b))) H
def spLaw (K : PySem.W.Frag) : Sp := fun vs H Q _ => ∃ (a : Addr) (ns : List Int), vs = [.ref a] ∧ SqL K H a (ns.map V.int) ∧ ns.length ≤ 63 ∧ ∀ H', Q (.bl true) H'
section
variable {P : Program} {w : World} {K : PySem.W.Frag} {mg : Str → Option Value} {base : Heap}
set_option maxHeartbeats 4000000 in
theorem ok_law {f fBa fD fAe fAt fTh fIe fAl fMt : Addr} {fd dBa dD dAe dAt dTh dIe dAl dMt : FuncData} (F : Fun K "law" "law" sLaw f fd) (Ba : Cal P w K mg base "_law_bag" 1 ["script"] (spBag K) fBa dBa) (D : Cal P w K mg base "_law_draw" 1 ["bag", "many"] (spDrawC K) fD dD) (Ae : Cal P w K mg base "_law_any_entry" 6 ["bag"] (spBagR K (RE 3)) fAe dAe) (At : Cal P w K mg base "_law_any_text" 3 ["bag"] (spBagR K RTxt) fAt dAt) (Th : Cal P w K mg base "_law_there" 10 ["entries"] (spTh K) fTh dTh) (Ie : Cal P w K mg base "is_entry" 7 ["value"] (spHP K) fIe dIe) (Al : Cal P w K mg base "_law_altered" 4 ["bag", "world", "entries"] (spAl K) fAl dAl) (Mt : Cal P w K mg base "minutes_text" 9 ["entries"] (spMT K) fMt dMt) (b_range : mg "range" = none) (b_len : mg "len" = none) (b_all : mg "all" = none) : FnOk P w K mg base CX0 11 f fd ["script"] (spLaw K) := by
  refine F.ok scLaw (fun vs H Q E h => ?_) (fun cdv A outer s H vs Q E hr h => ?_)
  · obtain ⟨a, ns, rfl, _⟩ := h
    rfl
  · obtain ⟨a, ns0, rfl, hs, hl, q⟩ := h
    refine ⟨_, (pss_cons (ps_set (i := 1) scLaw.nd rfl (.inr rfl) (pe_call Ba.ok (hr.mono (by omega)) rfl Ba.g Ba.kp Ba.b .nil pass0 (pa_cons (pv 0) pa_nil)))
      (pss_cons (ps_for PassesOwn.never rfl (pi_range1 rfl b_range (pa_cons pe_int pa_nil)) (pg_name (i := 2) scLaw.nd rfl (.inl rfl))
        (pss_cons (ps_setLc (i := 3) (own := [("k", 4)]) (g := gName 4) (tt := tYes) (te := tCall (spBagR K (RE 3)) [] E0 (tCons (tVar 1) tNil)) rfl scLaw.nd rfl rfl (sw_true rfl rfl rfl (by decide +kernel)) (pi_range1 rfl b_range (pa_cons (pe_call D.ok (hr.mono (by omega)) rfl D.g D.kp D.b .nil pass0 (pa_cons (pv 1) (pa_cons pe_int pa_nil))) pa_nil)) (blkOk_by (own := [("k", 4)]) (N := ["script", "bag", "turn", "entries", "k", "at", "texts", "one", "other"]) (sc := defScope sLaw) (by decide +kernel)) (fun _ _ _ _ _ => (pg_name (i := 4) scLaw.nd rfl (.inl rfl) (.inr rfl))) (fun _ _ _ _ _ => pts_nil) (fun _ _ _ _ _ => (pe_call Ae.ok (hr.mono (by omega)) rfl Ae.g Ae.kp Ae.b .nil pass0 (pa_cons (pv 1) pa_nil))))
        (pss_cons (ps_par (i := 5) (j := 6) rfl scLaw.nd rfl rfl (by decide) rfl rfl (pa_cons (pe_call D.ok (hr.mono (by omega)) rfl D.g D.kp D.b .nil pass0 (pa_cons (pv 1) (pa_cons (pe_op op_add (pe_callB call_len rfl b_len (by decide +kernel) (pa_cons (pv 3) pa_nil)) pe_int) pa_nil))) (pa_cons (pe_lst (pa_cons (pe_call At.ok (hr.mono (by omega)) rfl At.g At.kp At.b .nil pass0 (pa_cons (pv 1) pa_nil)) (pa_cons pe_str pa_nil))) pa_nil)) rfl)
        (pss_cons (ps_if (PW.pt (pw_or (pt_not (pt_val (pe_call Th.ok (hr.mono (by omega)) rfl Th.g Th.kp Th.b .nil pass0 (pa_cons (pv 3) pa_nil)))) (pw_or (pt_not (pt_val (pe_call Th.ok (hr.mono (by omega)) rfl Th.g Th.kp Th.b .nil pass0 (pa_cons (pe_slice sl_list (pv 3) (po_some (pv 5)) po_none) pa_nil)))) (pw_or1 (pt_not (pt_val (pe_callB (cr_all rfl) rfl b_all (by decide +kernel) (pa_cons (pe_lc (own := [("one", 7)]) (g := gName 7) (tt := tYes) (te := tOp rIsB (tCall (spHP K) [] E0 (tCons (tVar 7) tNil)) (tC (.bl true))) rfl scLaw.nd (pi_list (pv 3)) (blkOk_by (own := [("one", 7)]) (N := ["script", "bag", "turn", "entries", "k", "at", "texts", "one", "other"]) (sc := defScope sLaw) (by decide +kernel)) (fun _ _ _ _ _ => (pg_name (i := 7) scLaw.nd rfl (.inl rfl) (.inr rfl))) (fun _ _ _ _ _ => pts_nil) (fun _ _ _ _ _ => (pe_cmpR op_isBl (pe_call Ie.ok (hr.mono (by omega)) rfl Ie.g Ie.kp Ie.b .nil pass0 (pa_cons (pv 7) pa_nil)) pe_bl rfl))) pa_nil)))))))) (pss_one (ps_ret pe_bl)) pss_nil)
        (pss_cons (ps_set (i := 8) scLaw.nd rfl (.inl rfl) (pe_call Al.ok (hr.mono (by omega)) rfl Al.g Al.kp Al.b .nil pass0 (pa_cons (pv 1) (pa_cons (pe_disp (pps_cons pe_str (pv 6) pps_nil) rfl rfl (fun z => by cases z) (by decide)) (pa_cons (pv 3) pa_nil)))))
        (pss_one (ps_if (PW.pt (pw_or (pt_not (pt_val (pe_call Th.ok (hr.mono (by omega)) rfl Th.g Th.kp Th.b .nil pass0 (pa_cons (pv 8) pa_nil)))) (pw_or1 (pt_cmpR op_ne (pe_cmpR op_eq (pe_call Mt.ok (hr.mono (by omega)) rfl Mt.g Mt.kp Mt.b .nil pass0 (pa_cons (pv 8) pa_nil)) (pe_call Mt.ok (hr.mono (by omega)) rfl Mt.g Mt.kp Mt.b .nil pass0 (pa_cons (pv 3) pa_nil)) rfl) (pe_cmpR (op_eqD hr.units) (pv 8) (pv 3) rfl) rfl)))) (pss_one (ps_ret pe_bl)) pss_nil)))))))
      (pss_one (ps_ret pe_bl)))), ?_⟩
    refine ⟨_, rfl, a, ns0, rfl, hs, fun b H1 s1 ⟨c, ns, B1⟩ nb => ?_⟩
    refine ⟨2, rfl, by decide, by decide, for_it (walk_range (lo := 0)) (fun i σ' G => ∃ x2 x3 x5 x6 x8, σ' = [some (.ref a), some (.ref b), x2, x3, none, x5, x6, none, x8] ∧ BagC K G b c ns) ⟨none, none, none, none, none, rfl, B1⟩ (fun _ _ _ _ _ => trivial) ?_ ?_⟩
    · rintro i z' σ' G0 G hi ⟨x2, x3, x5, x6, x8, rfl, BG⟩ ⟨rfl, rfl⟩
      refine ⟨_, rfl, b, 13, c, ns, rfl, BG, by decide, by decide, fun n G1 n0 n1 B1 t1 => ?_⟩
      obtain ⟨n, rfl⟩ : ∃ k : Nat, n = k := ⟨n.toNat, by omega⟩
      refine ⟨(n : Nat), rfl, by omega, by omega, fun D nD => lc_it (walk_range (lo := 0)) (fun j G2 => But b G1 G2 ∧ BagC K G2 b c ns ∧ ∃ (ts : List Addr) (es : List Ent), G2 D = some (.lst (ts.map V.ref)) ∧ Paired (EntAt G2) ts es ∧ (∀ e ∈ es, e.ok ∧ seatsLen e ≤ 3) ∧ es.length = j) ⟨But.new nD, B1.new nD, [], [], upd_same, .nil, (fun e he => by cases he), rfl⟩ (fun _ _ _ _ => trivial) ?_ ?_⟩
      · rintro j x G3 G2 hj ⟨sG, BG2, ts, es, gD, pE, hE, hel⟩ ⟨rfl, rfl⟩
        refine ⟨rfl, ?_⟩
        unfold tYes
        have nDb := B1.ne nD
        refine iteT ⟨_, rfl, b, c, ns, rfl, BG2, fun v G4 ⟨t, e, ev, hEt, ho, hs2⟩ B4 t4 => ?_⟩
        subst ev
        have gD4 := t4 _ _ nDb gD
        refine ⟨_, gD4, ?_, (sG.trans t4).updF nD, B4.upd (B1.off nD) nDb, ts ++ [t], es ++ [e], ?_, Paired.snoc (Paired.mapP pE fun _ _ y => (EntAt.but y BG2 t4).updL gD4) (hEt.updL gD4), fun z hz => ?_, by simp [hel]⟩
        · have := pE.length
          rw [List.length_map]
          exact small1000' (by omega)
        · rw [upd_same, List.map_append]
          rfl
        · rcases List.mem_append.mp hz with hz | hz
          · exact hE z hz
          · rw [List.mem_singleton.mp hz]
            exact ⟨ho, hs2⟩
      · rintro G2 ⟨sG, B2, ts, es, gD, pE, hE, hel⟩
        have nDb := B1.ne nD
        have hlen := pE.length
        have oks : Oks es := fun e he => (hE e he).1
        refine ⟨_, rfl, _, rfl, _, _, rfl, .inl ⟨_, SqL.of gD, rfl⟩, _, _, rfl, rfl, b, _, c, ns, rfl, B2, by rw [List.length_map]; omega, by rw [List.length_map]; omega, fun at' G3 a0 a1 B3 t3 => ⟨_, rfl, b, c, ns, rfl, B3, fun v G4 ⟨l, ev, hl1, hg1⟩ B4 t4 => ⟨by show 2 ≤ sizeLine; decide, fun TL nTL => ⟨_, _, rfl, ?_⟩⟩⟩⟩
        subst ev
        rw [List.length_map] at a1
        obtain ⟨k, rfl⟩ : ∃ k : Nat, at' = k := ⟨at'.toNat, by omega⟩
        have gD4 := t4 _ _ nDb (t3 _ _ nDb gD)
        have pE4 := Paired.mapP (Paired.mapP pE fun _ _ y => EntAt.but y B2 t3) fun _ _ y => EntAt.but y B3 t4
        have gD5 := same_upd (o := .lst [tx l, .str "-"]) nTL _ _ gD4
        have pE5 := Paired.mapP pE4 fun _ _ y => EntAt.same y (same_upd (o := .lst [tx l, .str "-"]) nTL)
        have B5 := B4.new (o := .lst [tx l, .str "-"]) nTL
        have gTL : (upd G4 TL (.lst [tx l, .str "-"])) TL = some (.lst [tx l, .str "-"]) := upd_same
        have nTLb := B4.ne nTL
        generalize upd G4 TL (.lst [tx l, .str "-"]) = G5 at gD5 pE5 B5 gTL ⊢
        have at_ : ∀ {G : Hp}, Same G5 G → Paired (EntAt G) ts es := fun s => Paired.mapP pE5 fun _ _ y => EntAt.same y s
        refine ⟨_, rfl, D, ts, es, rfl, gD5, pE5, oks, by omega, fun G6 s6 => ⟨_, rfl, iteF ⟨_, rfl, _, rfl, (k : Nat), rfl, D, _, rfl, SqL.of (s6 _ _ gD5), fun p np => ?_⟩⟩⟩
        rw [cut_fromG, ← List.map_drop]
        refine ⟨p, ts.drop k, es.drop k, rfl, upd_same, pr_drop k (at_ (s6.trans (same_upd np))), fun e he => oks e (List.mem_of_mem_drop he), by rw [List.length_drop]; omega, fun G7 s7 => ⟨_, rfl, iteF ?_⟩⟩
        have sH7 := s6.trans ((same_upd np).trans s7)
        have gD7 := sH7 _ _ gD5
        refine ⟨_, rfl, D, rfl, ⟨_, SqL.of gD7⟩, fun D2 nD2 => lc_it walk_list (fun i G => Same G7 G ∧ G D2 = some (.lst ((List.replicate i true).map V.bl))) ⟨same_upd nD2, upd_same⟩ (fun i G _ h => SqL.of (h.1 _ _ gD7)) ?_ ?_⟩
        · rintro j x G8 G9 hj ⟨sG9, gD9⟩ ⟨rfl, ex⟩
          rw [List.length_map] at hj
          have er : es[j]? = some es[j] := List.getElem?_eq_getElem (by omega)
          obtain ⟨t, et, ht⟩ := paired_at (at_ (sH7.trans sG9)) er
          rw [List.getElem?_map, et] at ex
          cases ex
          refine ⟨rfl, ?_⟩
          unfold tYes
          exact iteT ⟨_, rfl, t, _, rfl, oks _ (List.mem_of_getElem? er), ht, fun G10 s10 => ⟨true, true, rfl, rfl, push_true nD2 (sG9.trans s10) (s10 _ _ gD9) hj (by omega)⟩⟩
        · rintro G9 ⟨sG9, gD9⟩
          refine ⟨D2, _, rfl, SqL.of gD9, ?_⟩
          rw [all_rep]
          refine ⟨_, rfl, iteF ?_⟩
          have s9 := sH7.trans sG9
          refine ⟨_, rfl, fun wd nwd => ⟨_, rfl, upd_same, [(.inr "texts", .ref TL)], rfl, by show 1 ≤ 15; decide, ?_⟩⟩
          have s10 : Same G9 (upd (upd G9 wd (.dK [])) wd (.dK (mergeK [] [(.inr "texts", .ref TL)]))) := same_updF nwd (same_upd nwd)
          have gwd : (upd (upd G9 wd (.dK [])) wd (.dK (mergeK [] [(.inr "texts", .ref TL)]))) wd = some (.dK [(.inr "texts", .ref TL)]) := upd_same
          have nwdb : wd ≠ b := (B5.same s9).ne nwd
          generalize upd (upd G9 wd (.dK [])) wd (.dK (mergeK [] [(.inr "texts", .ref TL)])) = G10 at s10 gwd ⊢
          have sH10 := s9.trans s10
          have hdash : [45].length ≤ 60 ∧ ∀ c ∈ [45], good c := ⟨by decide, fun c hc => by rw [List.mem_singleton.mp hc]; exact ⟨by decide, by decide⟩⟩
          refine ⟨_, rfl, b, c, ns, wd, D, ts, es, rfl, B5.same sH10, ⟨TL, l, [45], nwdb, nTLb, gwd, sH10 _ _ gTL, ⟨hl1, hg1⟩, hdash⟩, sH10 _ _ gD5, at_ sH10, hE, by omega, fun F G11 nF nFb ⟨ts', es', gF, pF, hF, lF⟩ B11 t11 => ?_⟩
          have B10 := B5.same sH10
          have oks' : Oks es' := fun e he => (hF e he).1
          have gD11 := t11 _ _ nDb (sH10 _ _ gD5)
          have pE11 := Paired.mapP (at_ sH10) fun _ _ y => EntAt.but y B10 t11
          refine ⟨_, rfl, F, ts', es', rfl, gF, pF, oks', by omega, fun G12 s12 => ⟨_, rfl, iteF ?_⟩⟩
          have fE := fun {G : Hp} (s : Same G12 G) => Paired.mapP pE11 fun _ _ y => EntAt.same y (s12.trans s)
          have fF := fun {G : Hp} (s : Same G12 G) => Paired.mapP pF fun _ _ y => EntAt.same y (s12.trans s)
          refine ⟨_, rfl, F, ts', es', rfl, ⟨.inl (SqL.of (s12 _ _ gF)), fF (Same.refl _)⟩, oks', by omega, fun G13 s13 => ⟨_, rfl, D, ts, es, rfl, ⟨.inl (SqL.of (s13 _ _ (s12 _ _ gD11))), fE s13⟩, oks, by omega, fun G14 s14 => ?_⟩⟩
          have s15 := s13.trans s14
          refine ⟨rfl, _, rfl, _, rfl, _, _, .lst (SqL.of (s15 _ _ (s12 _ _ gF))) (pdE_list (fF s15)), .lst (SqL.of (s15 _ _ (s12 _ _ gD11))) (pdE_list (fE s15)), shaped_ents oks', shaped_ents oks, ?_⟩
          rw [txt_list oks' oks, eqv_list oks' oks]
          refine ⟨rfl, _, rfl, iteFd (by simp) ?_⟩
          exact ⟨_, _, _, _, _, rfl, (B11.same (s12.trans s15))⟩
    · rintro σ' G ⟨x2, x3, x5, x6, x8, rfl, BG⟩
      exact q G
end
end My

set_option Elab.async false
set_option linter.all false
set_option maxRecDepth 100000
namespace My
open PySem PySem.Spec PyProof.Rows L2
set_option maxHeartbeats 4000000 in
theorem all_mk {l : PySem.W.OpenLaw} {w : World} {K : PySem.W.Frag} {h : Heap} {mg : Str → Option Value} {fa : Addr} (X : K.In h) (G : h.Ns mainGlobals mg) (hfa : mg "law" = some (.ref fa))
    {f0 : Addr} {od0 an0 : Option Addr} {sl0 : Array (Option Value)} {oc0 kV0 dc0 pm0 cd0 ct0 : Value}
    {f1 : Addr} {od1 an1 : Option Addr} {sl1 : Array (Option Value)} {oc1 kV1 dc1 pm1 cd1 ct1 : Value}
    {f2 : Addr} {od2 an2 : Option Addr} {sl2 : Array (Option Value)} {oc2 kV2 dc2 pm2 cd2 ct2 : Value}
    {f3 : Addr} {od3 an3 : Option Addr} {sl3 : Array (Option Value)} {oc3 kV3 dc3 pm3 cd3 ct3 : Value}
    {f4 : Addr} {od4 an4 : Option Addr} {sl4 : Array (Option Value)} {oc4 kV4 dc4 pm4 cd4 ct4 : Value}
    {f5 : Addr} {od5 an5 : Option Addr} {sl5 : Array (Option Value)} {oc5 kV5 dc5 pm5 cd5 ct5 : Value}
    {f6 : Addr} {od6 an6 : Option Addr} {sl6 : Array (Option Value)} {oc6 kV6 dc6 pm6 cd6 ct6 : Value}
    {f7 : Addr} {od7 an7 : Option Addr} {sl7 : Array (Option Value)} {oc7 kV7 dc7 pm7 cd7 ct7 : Value}
    {f8 : Addr} {od8 an8 : Option Addr} {sl8 : Array (Option Value)} {oc8 kV8 dc8 pm8 cd8 ct8 : Value}
    {f9 : Addr} {od9 an9 : Option Addr} {sl9 : Array (Option Value)} {oc9 kV9 dc9 pm9 cd9 ct9 : Value}
    {f10 : Addr} {od10 an10 : Option Addr} {sl10 : Array (Option Value)} {oc10 kV10 dc10 pm10 cd10 ct10 : Value}
    {f11 : Addr} {od11 an11 : Option Addr} {sl11 : Array (Option Value)} {oc11 kV11 dc11 pm11 cd11 ct11 : Value}
    {f12 : Addr} {od12 an12 : Option Addr} {sl12 : Array (Option Value)} {oc12 kV12 dc12 pm12 cd12 ct12 : Value}
    {f13 : Addr} {od13 an13 : Option Addr} {sl13 : Array (Option Value)} {oc13 kV13 dc13 pm13 cd13 ct13 : Value}
    {f14 : Addr} {od14 an14 : Option Addr} {sl14 : Array (Option Value)} {oc14 kV14 dc14 pm14 cd14 ct14 : Value}
    {f15 : Addr} {od15 an15 : Option Addr} {sl15 : Array (Option Value)} {oc15 kV15 dc15 pm15 cd15 ct15 : Value}
    {f16 : Addr} {od16 an16 : Option Addr} {sl16 : Array (Option Value)} {oc16 kV16 dc16 pm16 cd16 ct16 : Value}
    {f17 : Addr} {od17 an17 : Option Addr} {sl17 : Array (Option Value)} {oc17 kV17 dc17 pm17 cd17 ct17 : Value}
    {f18 : Addr} {od18 an18 : Option Addr} {sl18 : Array (Option Value)} {oc18 kV18 dc18 pm18 cd18 ct18 : Value}
    {f19 : Addr} {od19 an19 : Option Addr} {sl19 : Array (Option Value)} {oc19 kV19 dc19 pm19 cd19 ct19 : Value}
    {f20 : Addr} {od20 an20 : Option Addr} {sl20 : Array (Option Value)} {oc20 kV20 dc20 pm20 cd20 ct20 : Value}
    {f21 : Addr} {od21 an21 : Option Addr} {sl21 : Array (Option Value)} {oc21 kV21 dc21 pm21 cd21 ct21 : Value}
    {f22 : Addr} {od22 an22 : Option Addr} {sl22 : Array (Option Value)} {oc22 kV22 dc22 pm22 cd22 ct22 : Value}
    {f23 : Addr} {od23 an23 : Option Addr} {sl23 : Array (Option Value)} {oc23 kV23 dc23 pm23 cd23 ct23 : Value}
    {f24 : Addr} {od24 an24 : Option Addr} {sl24 : Array (Option Value)} {oc24 kV24 dc24 pm24 cd24 ct24 : Value}
    {f25 : Addr} {od25 an25 : Option Addr} {sl25 : Array (Option Value)} {oc25 kV25 dc25 pm25 cd25 ct25 : Value}
    {f26 : Addr} {od26 an26 : Option Addr} {sl26 : Array (Option Value)} {oc26 kV26 dc26 pm26 cd26 ct26 : Value}
    {f27 : Addr} {od27 an27 : Option Addr} {sl27 : Array (Option Value)} {oc27 kV27 dc27 pm27 cd27 ct27 : Value}
    {f28 : Addr} {od28 an28 : Option Addr} {sl28 : Array (Option Value)} {oc28 kV28 dc28 pm28 cd28 ct28 : Value}
    {f29 : Addr} {od29 an29 : Option Addr} {sl29 : Array (Option Value)} {oc29 kV29 dc29 pm29 cd29 ct29 : Value}
    {f30 : Addr} {od30 an30 : Option Addr} {sl30 : Array (Option Value)} {oc30 kV30 dc30 pm30 cd30 ct30 : Value}
    {f31 : Addr} {od31 an31 : Option Addr} {sl31 : Array (Option Value)} {oc31 kV31 dc31 pm31 cd31 ct31 : Value}
    {f32 : Addr} {od32 an32 : Option Addr} {sl32 : Array (Option Value)} {oc32 kV32 dc32 pm32 cd32 ct32 : Value}
    {f33 : Addr} {od33 an33 : Option Addr} {sl33 : Array (Option Value)} {oc33 kV33 dc33 pm33 cd33 ct33 : Value}
    {f34 : Addr} {od34 an34 : Option Addr} {sl34 : Array (Option Value)} {oc34 kV34 dc34 pm34 cd34 ct34 : Value}
    {f35 : Addr} {od35 an35 : Option Addr} {sl35 : Array (Option Value)} {oc35 kV35 dc35 pm35 cd35 ct35 : Value}
    {f36 : Addr} {od36 an36 : Option Addr} {sl36 : Array (Option Value)} {oc36 kV36 dc36 pm36 cd36 ct36 : Value}
    {f37 : Addr} {od37 an37 : Option Addr} {sl37 : Array (Option Value)} {oc37 kV37 dc37 pm37 cd37 ct37 : Value}
    {f38 : Addr} {od38 an38 : Option Addr} {sl38 : Array (Option Value)} {oc38 kV38 dc38 pm38 cd38 ct38 : Value}
    {f39 : Addr} {od39 an39 : Option Addr} {sl39 : Array (Option Value)} {oc39 kV39 dc39 pm39 cd39 ct39 : Value}
    {t_LONGEST_NAME : Tok}
    {t_MOST_BALLOTS : Tok}
    {t_MOST_SALT : Tok}
    {t_LONGEST_TEXT : Tok}
    {t_MOST_FIGURE : Tok}
    {t_LONGEST_FIGURES : Tok}
    {t_COLON : Tok}
    {aAN : Addr} {tANSWERS0 tANSWERS1 tANSWERS2 : Tok} {odANSWERS : Option Addr} {nANSWERS : Nat} {slANSWERS : Array (Option Value)}
    {aLP : Addr} {tLONG_PARTS0 tLONG_PARTS1 tLONG_PARTS2 tLONG_PARTS3 tLONG_PARTS4 : Tok} {odLONG_PARTS : Option Addr} {nLONG_PARTS : Nat} {slLONG_PARTS : Array (Option Value)}
    {aFA : Addr} {tFAULTS0 tFAULTS1 : Tok} {odFAULTS : Option Addr} {nFAULTS : Nat} {slFAULTS : Array (Option Value)}
    {aRE : Addr} {tREASONS0 tREASONS1 tREASONS2 tREASONS3 tREASONS4 tREASONS5 tREASONS6 tREASONS7 : Tok} {odREASONS : Option Addr} {nREASONS : Nat} {slREASONS : Array (Option Value)}
    {aEN : Addr} {tENDS0 tENDS1 tENDS2 : Tok} {odENDS : Option Addr} {nENDS : Nat} {slENDS : Array (Option Value)}
    {aPA : Addr}
    {aPsheet : Addr} {tPsheet0 tPsheet1 tPsheet2 tPsheet3 : Tok} {odPsheet : Option Addr} {nPsheet : Nat} {slPsheet : Array (Option Value)}
    {aPwhich : Addr} {tPwhich0 tPwhich1 tPwhich2 tPwhich3 tPwhich4 tPwhich5 : Tok} {odPwhich : Option Addr} {nPwhich : Nat} {slPwhich : Array (Option Value)}
    {aPshow : Addr} {tPshow0 tPshow1 tPshow2 tPshow3 : Tok} {odPshow : Option Addr} {nPshow : Nat} {slPshow : Array (Option Value)}
    {aPopened : Addr} {tPopened0 tPopened1 : Tok} {odPopened : Option Addr} {nPopened : Nat} {slPopened : Array (Option Value)}
    {aPstruck : Addr} {tPstruck0 tPstruck1 : Tok} {odPstruck : Option Addr} {nPstruck : Nat} {slPstruck : Array (Option Value)}
    {aPclash : Addr} {tPclash0 tPclash1 : Tok} {odPclash : Option Addr} {nPclash : Nat} {slPclash : Array (Option Value)}
    {aPtaken : Addr} {tPtaken0 tPtaken1 tPtaken2 : Tok} {odPtaken : Option Addr} {nPtaken : Nat} {slPtaken : Array (Option Value)}
    {aPtold : Addr} {tPtold0 tPtold1 : Tok} {odPtold : Option Addr} {nPtold : Nat} {slPtold : Array (Option Value)}
    (a0 : PySem.W.nsIn K mainGlobals "is_word" = some (some (.ref f0)))
    (l0 : K.lookup f0 = some ⟨oc0, od0, .func (PySem.W.fnOf "is_word" "is_word" (defArgs sIsWord) (defBody sIsWord) (defScope sIsWord) .none kV0 dc0 pm0 an0 cd0 ct0), sl0⟩) (c0 : PySem.W.codeIn K cd0 "is_word" = true) (k0 : PySem.W.keepIn K (.ref f0) = true)
    (a1 : PySem.W.nsIn K mainGlobals "is_figures" = some (some (.ref f1)))
    (l1 : K.lookup f1 = some ⟨oc1, od1, .func (PySem.W.fnOf "is_figures" "is_figures" (defArgs sIsFigures) (defBody sIsFigures) (defScope sIsFigures) .none kV1 dc1 pm1 an1 cd1 ct1), sl1⟩) (c1 : PySem.W.codeIn K cd1 "is_figures" = true) (k1 : PySem.W.keepIn K (.ref f1) = true)
    (a2 : PySem.W.nsIn K mainGlobals "is_name" = some (some (.ref f2)))
    (l2 : K.lookup f2 = some ⟨oc2, od2, .func (PySem.W.fnOf "is_name" "is_name" (defArgs sIsName) (defBody sIsName) (defScope sIsName) .none kV2 dc2 pm2 an2 cd2 ct2), sl2⟩) (c2 : PySem.W.codeIn K cd2 "is_name" = true) (k2 : PySem.W.keepIn K (.ref f2) = true)
    (a3 : PySem.W.nsIn K mainGlobals "is_integer" = some (some (.ref f3)))
    (l3 : K.lookup f3 = some ⟨oc3, od3, .func (PySem.W.fnOf "is_integer" "is_integer" (defArgs sIsInteger) (defBody sIsInteger) (defScope sIsInteger) .none kV3 dc3 pm3 an3 cd3 ct3), sl3⟩) (c3 : PySem.W.codeIn K cd3 "is_integer" = true) (k3 : PySem.W.keepIn K (.ref f3) = true)
    (a4 : PySem.W.nsIn K mainGlobals "is_number" = some (some (.ref f4)))
    (l4 : K.lookup f4 = some ⟨oc4, od4, .func (PySem.W.fnOf "is_number" "is_number" (defArgs sIsNumber) (defBody sIsNumber) (defScope sIsNumber) .none kV4 dc4 pm4 an4 cd4 ct4), sl4⟩) (c4 : PySem.W.codeIn K cd4 "is_number" = true) (k4 : PySem.W.keepIn K (.ref f4) = true)
    (a5 : PySem.W.nsIn K mainGlobals "has_figures" = some (some (.ref f5)))
    (l5 : K.lookup f5 = some ⟨oc5, od5, .func (PySem.W.fnOf "has_figures" "has_figures" (defArgs sHasFigures) (defBody sHasFigures) (defScope sHasFigures) .none kV5 dc5 pm5 an5 cd5 ct5), sl5⟩) (c5 : PySem.W.codeIn K cd5 "has_figures" = true) (k5 : PySem.W.keepIn K (.ref f5) = true)
    (a6 : PySem.W.nsIn K mainGlobals "is_shown" = some (some (.ref f6)))
    (l6 : K.lookup f6 = some ⟨oc6, od6, .func (PySem.W.fnOf "is_shown" "is_shown" (defArgs sIsShown) (defBody sIsShown) (defScope sIsShown) .none kV6 dc6 pm6 an6 cd6 ct6), sl6⟩) (c6 : PySem.W.codeIn K cd6 "is_shown" = true) (k6 : PySem.W.keepIn K (.ref f6) = true)
    (a7 : PySem.W.nsIn K mainGlobals "has_pattern" = some (some (.ref f7)))
    (l7 : K.lookup f7 = some ⟨oc7, od7, .func (PySem.W.fnOf "has_pattern" "has_pattern" (defArgs sHasPattern) (defBody sHasPattern) (defScope sHasPattern) .none kV7 dc7 pm7 an7 cd7 ct7), sl7⟩) (c7 : PySem.W.codeIn K cd7 "has_pattern" = true) (k7 : PySem.W.keepIn K (.ref f7) = true)
    (a8 : PySem.W.nsIn K mainGlobals "is_part" = some (some (.ref f8)))
    (l8 : K.lookup f8 = some ⟨oc8, od8, .func (PySem.W.fnOf "is_part" "is_part" (defArgs sIsPart) (defBody sIsPart) (defScope sIsPart) .none kV8 dc8 pm8 an8 cd8 ct8), sl8⟩) (c8 : PySem.W.codeIn K cd8 "is_part" = true) (k8 : PySem.W.keepIn K (.ref f8) = true)
    (a9 : PySem.W.nsIn K mainGlobals "is_row_of" = some (some (.ref f9)))
    (l9 : K.lookup f9 = some ⟨oc9, od9, .func (PySem.W.fnOf "is_row_of" "is_row_of" (defArgs sIsRowOf) (defBody sIsRowOf) (defScope sIsRowOf) .none kV9 dc9 pm9 an9 cd9 ct9), sl9⟩) (c9 : PySem.W.codeIn K cd9 "is_row_of" = true) (k9 : PySem.W.keepIn K (.ref f9) = true)
    (a10 : PySem.W.nsIn K mainGlobals "are_sizes" = some (some (.ref f10)))
    (l10 : K.lookup f10 = some ⟨oc10, od10, .func (PySem.W.fnOf "are_sizes" "are_sizes" (defArgs sAreSizes) (defBody sAreSizes) (defScope sAreSizes) .none kV10 dc10 pm10 an10 cd10 ct10), sl10⟩) (c10 : PySem.W.codeIn K cd10 "are_sizes" = true) (k10 : PySem.W.keepIn K (.ref f10) = true)
    (a11 : PySem.W.nsIn K mainGlobals "entry_text" = some (some (.ref f11)))
    (l11 : K.lookup f11 = some ⟨oc11, od11, .func (PySem.W.fnOf "entry_text" "entry_text" (defArgs sEntryText) (defBody sEntryText) (defScope sEntryText) .none kV11 dc11 pm11 an11 cd11 ct11), sl11⟩) (c11 : PySem.W.codeIn K cd11 "entry_text" = true) (k11 : PySem.W.keepIn K (.ref f11) = true)
    (a12 : PySem.W.nsIn K mainGlobals "part_text" = some (some (.ref f12)))
    (l12 : K.lookup f12 = some ⟨oc12, od12, .func (PySem.W.fnOf "part_text" "part_text" (defArgs sPartText) (defBody sPartText) (defScope sPartText) .none kV12 dc12 pm12 an12 cd12 ct12), sl12⟩) (c12 : PySem.W.codeIn K cd12 "part_text" = true) (k12 : PySem.W.keepIn K (.ref f12) = true)
    (a13 : PySem.W.nsIn K mainGlobals "words_text" = some (some (.ref f13)))
    (l13 : K.lookup f13 = some ⟨oc13, od13, .func (PySem.W.fnOf "words_text" "words_text" (defArgs sWordsText) (defBody sWordsText) (defScope sWordsText) .none kV13 dc13 pm13 an13 cd13 ct13), sl13⟩) (c13 : PySem.W.codeIn K cd13 "words_text" = true) (k13 : PySem.W.keepIn K (.ref f13) = true)
    (a14 : PySem.W.nsIn K mainGlobals "read_entry" = some (some (.ref f14)))
    (l14 : K.lookup f14 = some ⟨oc14, od14, .func (PySem.W.fnOf "read_entry" "read_entry" (defArgs sReadEntry) (defBody sReadEntry) (defScope sReadEntry) .none kV14 dc14 pm14 an14 cd14 ct14), sl14⟩) (c14 : PySem.W.codeIn K cd14 "read_entry" = true) (k14 : PySem.W.keepIn K (.ref f14) = true)
    (a15 : PySem.W.nsIn K mainGlobals "read_number" = some (some (.ref f15)))
    (l15 : K.lookup f15 = some ⟨oc15, od15, .func (PySem.W.fnOf "read_number" "read_number" (defArgs sReadNumber) (defBody sReadNumber) (defScope sReadNumber) .none kV15 dc15 pm15 an15 cd15 ct15), sl15⟩) (c15 : PySem.W.codeIn K cd15 "read_number" = true) (k15 : PySem.W.keepIn K (.ref f15) = true)
    (a16 : PySem.W.nsIn K mainGlobals "read_numbers" = some (some (.ref f16)))
    (l16 : K.lookup f16 = some ⟨oc16, od16, .func (PySem.W.fnOf "read_numbers" "read_numbers" (defArgs sReadNumbers) (defBody sReadNumbers) (defScope sReadNumbers) .none kV16 dc16 pm16 an16 cd16 ct16), sl16⟩) (c16 : PySem.W.codeIn K cd16 "read_numbers" = true) (k16 : PySem.W.keepIn K (.ref f16) = true)
    (a17 : PySem.W.nsIn K mainGlobals "read_long" = some (some (.ref f17)))
    (l17 : K.lookup f17 = some ⟨oc17, od17, .func (PySem.W.fnOf "read_long" "read_long" (defArgs sReadLong) (defBody sReadLong) (defScope sReadLong) .none kV17 dc17 pm17 an17 cd17 ct17), sl17⟩) (c17 : PySem.W.codeIn K cd17 "read_long" = true) (k17 : PySem.W.keepIn K (.ref f17) = true)
    (a18 : PySem.W.nsIn K mainGlobals "is_entry" = some (some (.ref f18)))
    (l18 : K.lookup f18 = some ⟨oc18, od18, .func (PySem.W.fnOf "is_entry" "is_entry" (defArgs sIsEntry) (defBody sIsEntry) (defScope sIsEntry) .none kV18 dc18 pm18 an18 cd18 ct18), sl18⟩) (c18 : PySem.W.codeIn K cd18 "is_entry" = true) (k18 : PySem.W.keepIn K (.ref f18) = true)
    (a19 : PySem.W.nsIn K mainGlobals "check_entries" = some (some (.ref f19)))
    (l19 : K.lookup f19 = some ⟨oc19, od19, .func (PySem.W.fnOf "check_entries" "check_entries" (defArgs sCheckEntries) (defBody sCheckEntries) (defScope sCheckEntries) .none kV19 dc19 pm19 an19 cd19 ct19), sl19⟩) (c19 : PySem.W.codeIn K cd19 "check_entries" = true) (k19 : PySem.W.keepIn K (.ref f19) = true)
    (a20 : PySem.W.nsIn K mainGlobals "minutes_text" = some (some (.ref f20)))
    (l20 : K.lookup f20 = some ⟨oc20, od20, .func (PySem.W.fnOf "minutes_text" "minutes_text" (defArgs sMinutesText) (defBody sMinutesText) (defScope sMinutesText) .none kV20 dc20 pm20 an20 cd20 ct20), sl20⟩) (c20 : PySem.W.codeIn K cd20 "minutes_text" = true) (k20 : PySem.W.keepIn K (.ref f20) = true)
    (a21 : PySem.W.nsIn K mainGlobals "read_minutes" = some (some (.ref f21)))
    (l21 : K.lookup f21 = some ⟨oc21, od21, .func (PySem.W.fnOf "read_minutes" "read_minutes" (defArgs sReadMinutes) (defBody sReadMinutes) (defScope sReadMinutes) .none kV21 dc21 pm21 an21 cd21 ct21), sl21⟩) (c21 : PySem.W.codeIn K cd21 "read_minutes" = true) (k21 : PySem.W.keepIn K (.ref f21) = true)
    (a22 : PySem.W.nsIn K mainGlobals "_law_bag" = some (some (.ref f22)))
    (l22 : K.lookup f22 = some ⟨oc22, od22, .func (PySem.W.fnOf "_law_bag" "_law_bag" (defArgs sLawBag) (defBody sLawBag) (defScope sLawBag) .none kV22 dc22 pm22 an22 cd22 ct22), sl22⟩) (c22 : PySem.W.codeIn K cd22 "_law_bag" = true) (k22 : PySem.W.keepIn K (.ref f22) = true)
    (a23 : PySem.W.nsIn K mainGlobals "_law_draw" = some (some (.ref f23)))
    (l23 : K.lookup f23 = some ⟨oc23, od23, .func (PySem.W.fnOf "_law_draw" "_law_draw" (defArgs sLawDraw) (defBody sLawDraw) (defScope sLawDraw) .none kV23 dc23 pm23 an23 cd23 ct23), sl23⟩) (c23 : PySem.W.codeIn K cd23 "_law_draw" = true) (k23 : PySem.W.keepIn K (.ref f23) = true)
    (a24 : PySem.W.nsIn K mainGlobals "_law_of" = some (some (.ref f24)))
    (l24 : K.lookup f24 = some ⟨oc24, od24, .func (PySem.W.fnOf "_law_of" "_law_of" (defArgs sLawOf) (defBody sLawOf) (defScope sLawOf) .none kV24 dc24 pm24 an24 cd24 ct24), sl24⟩) (c24 : PySem.W.codeIn K cd24 "_law_of" = true) (k24 : PySem.W.keepIn K (.ref f24) = true)
    (a25 : PySem.W.nsIn K mainGlobals "_law_like" = some (some (.ref f25)))
    (l25 : K.lookup f25 = some ⟨oc25, od25, .func (PySem.W.fnOf "_law_like" "_law_like" (defArgs sLawLike) (defBody sLawLike) (defScope sLawLike) .none kV25 dc25 pm25 an25 cd25 ct25), sl25⟩) (c25 : PySem.W.codeIn K cd25 "_law_like" = true) (k25 : PySem.W.keepIn K (.ref f25) = true)
    (a26 : PySem.W.nsIn K mainGlobals "_law_numbers_text" = some (some (.ref f26)))
    (l26 : K.lookup f26 = some ⟨oc26, od26, .func (PySem.W.fnOf "_law_numbers_text" "_law_numbers_text" (defArgs sLawNumbersText) (defBody sLawNumbersText) (defScope sLawNumbersText) .none kV26 dc26 pm26 an26 cd26 ct26), sl26⟩) (c26 : PySem.W.codeIn K cd26 "_law_numbers_text" = true) (k26 : PySem.W.keepIn K (.ref f26) = true)
    (a27 : PySem.W.nsIn K mainGlobals "_law_entry_text" = some (some (.ref f27)))
    (l27 : K.lookup f27 = some ⟨oc27, od27, .func (PySem.W.fnOf "_law_entry_text" "_law_entry_text" (defArgs sLawEntryText) (defBody sLawEntryText) (defScope sLawEntryText) .none kV27 dc27 pm27 an27 cd27 ct27), sl27⟩) (c27 : PySem.W.codeIn K cd27 "_law_entry_text" = true) (k27 : PySem.W.keepIn K (.ref f27) = true)
    (a28 : PySem.W.nsIn K mainGlobals "_law_lined" = some (some (.ref f28)))
    (l28 : K.lookup f28 = some ⟨oc28, od28, .func (PySem.W.fnOf "_law_lined" "_law_lined" (defArgs sLawLined) (defBody sLawLined) (defScope sLawLined) .none kV28 dc28 pm28 an28 cd28 ct28), sl28⟩) (c28 : PySem.W.codeIn K cd28 "_law_lined" = true) (k28 : PySem.W.keepIn K (.ref f28) = true)
    (a29 : PySem.W.nsIn K mainGlobals "_law_small" = some (some (.ref f29)))
    (l29 : K.lookup f29 = some ⟨oc29, od29, .func (PySem.W.fnOf "_law_small" "_law_small" (defArgs sLawSmall) (defBody sLawSmall) (defScope sLawSmall) .none kV29 dc29 pm29 an29 cd29 ct29), sl29⟩) (c29 : PySem.W.codeIn K cd29 "_law_small" = true) (k29 : PySem.W.keepIn K (.ref f29) = true)
    (a30 : PySem.W.nsIn K mainGlobals "_law_signed" = some (some (.ref f30)))
    (l30 : K.lookup f30 = some ⟨oc30, od30, .func (PySem.W.fnOf "_law_signed" "_law_signed" (defArgs sLawSigned) (defBody sLawSigned) (defScope sLawSigned) .none kV30 dc30 pm30 an30 cd30 ct30), sl30⟩) (c30 : PySem.W.codeIn K cd30 "_law_signed" = true) (k30 : PySem.W.keepIn K (.ref f30) = true)
    (a31 : PySem.W.nsIn K mainGlobals "_law_any_text" = some (some (.ref f31)))
    (l31 : K.lookup f31 = some ⟨oc31, od31, .func (PySem.W.fnOf "_law_any_text" "_law_any_text" (defArgs sLawAnyText) (defBody sLawAnyText) (defScope sLawAnyText) .none kV31 dc31 pm31 an31 cd31 ct31), sl31⟩) (c31 : PySem.W.codeIn K cd31 "_law_any_text" = true) (k31 : PySem.W.keepIn K (.ref f31) = true)
    (a32 : PySem.W.nsIn K mainGlobals "_law_any_name" = some (some (.ref f32)))
    (l32 : K.lookup f32 = some ⟨oc32, od32, .func (PySem.W.fnOf "_law_any_name" "_law_any_name" (defArgs sLawAnyName) (defBody sLawAnyName) (defScope sLawAnyName) .none kV32 dc32 pm32 an32 cd32 ct32), sl32⟩) (c32 : PySem.W.codeIn K cd32 "_law_any_name" = true) (k32 : PySem.W.keepIn K (.ref f32) = true)
    (a33 : PySem.W.nsIn K mainGlobals "_law_any_rows" = some (some (.ref f33)))
    (l33 : K.lookup f33 = some ⟨oc33, od33, .func (PySem.W.fnOf "_law_any_rows" "_law_any_rows" (defArgs sLawAnyRows) (defBody sLawAnyRows) (defScope sLawAnyRows) .none kV33 dc33 pm33 an33 cd33 ct33), sl33⟩) (c33 : PySem.W.codeIn K cd33 "_law_any_rows" = true) (k33 : PySem.W.keepIn K (.ref f33) = true)
    (a34 : PySem.W.nsIn K mainGlobals "_law_any_entry" = some (some (.ref f34)))
    (l34 : K.lookup f34 = some ⟨oc34, od34, .func (PySem.W.fnOf "_law_any_entry" "_law_any_entry" (defArgs sLawAnyEntry) (defBody sLawAnyEntry) (defScope sLawAnyEntry) .none kV34 dc34 pm34 an34 cd34 ct34), sl34⟩) (c34 : PySem.W.codeIn K cd34 "_law_any_entry" = true) (k34 : PySem.W.keepIn K (.ref f34) = true)
    (a35 : PySem.W.nsIn K mainGlobals "_law_moved" = some (some (.ref f35)))
    (l35 : K.lookup f35 = some ⟨oc35, od35, .func (PySem.W.fnOf "_law_moved" "_law_moved" (defArgs sLawMoved) (defBody sLawMoved) (defScope sLawMoved) .none kV35 dc35 pm35 an35 cd35 ct35), sl35⟩) (c35 : PySem.W.codeIn K cd35 "_law_moved" = true) (k35 : PySem.W.keepIn K (.ref f35) = true)
    (a36 : PySem.W.nsIn K mainGlobals "_law_near_entry" = some (some (.ref f36)))
    (l36 : K.lookup f36 = some ⟨oc36, od36, .func (PySem.W.fnOf "_law_near_entry" "_law_near_entry" (defArgs sLawNearEntry) (defBody sLawNearEntry) (defScope sLawNearEntry) .none kV36 dc36 pm36 an36 cd36 ct36), sl36⟩) (c36 : PySem.W.codeIn K cd36 "_law_near_entry" = true) (k36 : PySem.W.keepIn K (.ref f36) = true)
    (a37 : PySem.W.nsIn K mainGlobals "_law_altered" = some (some (.ref f37)))
    (l37 : K.lookup f37 = some ⟨oc37, od37, .func (PySem.W.fnOf "_law_altered" "_law_altered" (defArgs sLawAltered) (defBody sLawAltered) (defScope sLawAltered) .none kV37 dc37 pm37 an37 cd37 ct37), sl37⟩) (c37 : PySem.W.codeIn K cd37 "_law_altered" = true) (k37 : PySem.W.keepIn K (.ref f37) = true)
    (a38 : PySem.W.nsIn K mainGlobals "_law_there" = some (some (.ref f38)))
    (l38 : K.lookup f38 = some ⟨oc38, od38, .func (PySem.W.fnOf "_law_there" "_law_there" (defArgs sLawThere) (defBody sLawThere) (defScope sLawThere) .none kV38 dc38 pm38 an38 cd38 ct38), sl38⟩) (c38 : PySem.W.codeIn K cd38 "_law_there" = true) (k38 : PySem.W.keepIn K (.ref f38) = true)
    (a39 : PySem.W.nsIn K mainGlobals "law" = some (some (.ref f39)))
    (l39 : K.lookup f39 = some ⟨oc39, od39, .func (PySem.W.fnOf "law" "law" (defArgs sLaw) (defBody sLaw) (defScope sLaw) .none kV39 dc39 pm39 an39 cd39 ct39), sl39⟩) (c39 : PySem.W.codeIn K cd39 "law" = true) (k39 : PySem.W.keepIn K (.ref f39) = true)
    (g_LONGEST_NAME : PySem.W.nsIn K mainGlobals "LONGEST_NAME" = some (some (.int 8 t_LONGEST_NAME)))
    (g_MOST_BALLOTS : PySem.W.nsIn K mainGlobals "MOST_BALLOTS" = some (some (.int 40 t_MOST_BALLOTS)))
    (g_MOST_SALT : PySem.W.nsIn K mainGlobals "MOST_SALT" = some (some (.int 9999 t_MOST_SALT)))
    (g_LONGEST_TEXT : PySem.W.nsIn K mainGlobals "LONGEST_TEXT" = some (some (.int 60 t_LONGEST_TEXT)))
    (g_MOST_FIGURE : PySem.W.nsIn K mainGlobals "MOST_FIGURE" = some (some (.int 999999999 t_MOST_FIGURE)))
    (g_LONGEST_FIGURES : PySem.W.nsIn K mainGlobals "LONGEST_FIGURES" = some (some (.int 9 t_LONGEST_FIGURES)))
    (g_COLON : PySem.W.nsIn K mainGlobals "COLON" = some (some (.str " :" t_COLON)))
    (g_ANSWERS : PySem.W.nsIn K mainGlobals "ANSWERS" = some (some (.ref aAN)))
    (l_ANSWERS : K.lookup aAN = some ⟨.type "tuple", odANSWERS, .seq #[.str "sheet" tANSWERS0, .str "ballots" tANSWERS1, .str "shown" tANSWERS2] nANSWERS, slANSWERS⟩)
    (g_LONG_PARTS : PySem.W.nsIn K mainGlobals "LONG_PARTS" = some (some (.ref aLP)))
    (l_LONG_PARTS : K.lookup aLP = some ⟨.type "tuple", odLONG_PARTS, .seq #[.str "sheet" tLONG_PARTS0, .str "ballots" tLONG_PARTS1, .str "shown" tLONG_PARTS2, .str "rows" tLONG_PARTS3, .str "seats" tLONG_PARTS4] nLONG_PARTS, slLONG_PARTS⟩)
    (g_FAULTS : PySem.W.nsIn K mainGlobals "FAULTS" = some (some (.ref aFA)))
    (l_FAULTS : K.lookup aFA = some ⟨.type "tuple", odFAULTS, .seq #[.str "silent" tFAULTS0, .str "shape" tFAULTS1] nFAULTS, slFAULTS⟩)
    (g_REASONS : PySem.W.nsIn K mainGlobals "REASONS" = some (some (.ref aRE)))
    (l_REASONS : K.lookup aRE = some ⟨.type "tuple", odREASONS, .seq #[.str "silent" tREASONS0, .str "shape" tREASONS1, .str "below" tREASONS2, .str "sum" tREASONS3, .str "rows" tREASONS4, .str "spoiled" tREASONS5, .str "seal" tREASONS6, .str "wrong" tREASONS7] nREASONS, slREASONS⟩)
    (g_ENDS : PySem.W.nsIn K mainGlobals "ENDS" = some (some (.ref aEN)))
    (l_ENDS : K.lookup aEN = some ⟨.type "tuple", odENDS, .seq #[.str "digits" tENDS0, .str "weighs" tENDS1, .str "whole" tENDS2] nENDS, slENDS⟩)
    (g_PATTERNS : PySem.W.nsIn K mainGlobals "PATTERNS" = some (some (.ref aPA)))
    (dPA : ∃ es n, K.lookup aPA = some ⟨.type "dict", none, .dict es n, #[]⟩ ∧ PySem.W.KeysLit w.params es.toList ∧ (aPA == sysModules) = false)
    (g_Psheet : PySem.W.nsIn K aPA "sheet" = some (some (.ref aPsheet)))
    (l_Psheet : K.lookup aPsheet = some ⟨.type "tuple", odPsheet, .seq #[.str "number" tPsheet0, .str "number" tPsheet1, .str "name" tPsheet2, .str "sheet" tPsheet3] nPsheet, slPsheet⟩)
    (g_Pwhich : PySem.W.nsIn K aPA "which" = some (some (.ref aPwhich)))
    (l_Pwhich : K.lookup aPwhich = some ⟨.type "tuple", odPwhich, .seq #[.str "number" tPwhich0, .str "number" tPwhich1, .str "name" tPwhich2, .str "number" tPwhich3, .str "number" tPwhich4, .str "ballots" tPwhich5] nPwhich, slPwhich⟩)
    (g_Pshow : PySem.W.nsIn K aPA "show" = some (some (.ref aPshow)))
    (l_Pshow : K.lookup aPshow = some ⟨.type "tuple", odPshow, .seq #[.str "number" tPshow0, .str "number" tPshow1, .str "name" tPshow2, .str "shown" tPshow3] nPshow, slPshow⟩)
    (g_Popened : PySem.W.nsIn K aPA "opened" = some (some (.ref aPopened)))
    (l_Popened : K.lookup aPopened = some ⟨.type "tuple", odPopened, .seq #[.str "number" tPopened0, .str "number" tPopened1] nPopened, slPopened⟩)
    (g_Pstruck : PySem.W.nsIn K aPA "struck" = some (some (.ref aPstruck)))
    (l_Pstruck : K.lookup aPstruck = some ⟨.type "tuple", odPstruck, .seq #[.str "name" tPstruck0, .str "reason" tPstruck1] nPstruck, slPstruck⟩)
    (g_Pclash : PySem.W.nsIn K aPA "clash" = some (some (.ref aPclash)))
    (l_Pclash : K.lookup aPclash = some ⟨.type "tuple", odPclash, .seq #[.str "number" tPclash0, .str "number" tPclash1] nPclash, slPclash⟩)
    (g_Ptaken : PySem.W.nsIn K aPA "taken" = some (some (.ref aPtaken)))
    (l_Ptaken : K.lookup aPtaken = some ⟨.type "tuple", odPtaken, .seq #[.str "number" tPtaken0, .str "number" tPtaken1, .str "rows" tPtaken2] nPtaken, slPtaken⟩)
    (g_Ptold : PySem.W.nsIn K aPA "told" = some (some (.ref aPtold)))
    (l_Ptold : K.lookup aPtold = some ⟨.type "tuple", odPtold, .seq #[.str "end" tPtold0, .str "seats" tPtold1] nPtold, slPtold⟩)
    (b_int : PySem.W.nsIn K mainGlobals "int" = some none)
    (b_list : PySem.W.nsIn K mainGlobals "list" = some none)
    (b_len : PySem.W.nsIn K mainGlobals "len" = some none)
    (b_isinstance : PySem.W.nsIn K mainGlobals "isinstance" = some none)
    (b_tuple : PySem.W.nsIn K mainGlobals "tuple" = some none)
    (b_bool : PySem.W.nsIn K mainGlobals "bool" = some none)
    (b_str : PySem.W.nsIn K mainGlobals "str" = some none)
    (b_all : PySem.W.nsIn K mainGlobals "all" = some none)
    (b_zip : PySem.W.nsIn K mainGlobals "zip" = some none)
    (b_range : PySem.W.nsIn K mainGlobals "range" = some none)
    (b_min : PySem.W.nsIn K mainGlobals "min" = some none)
    (b_max : PySem.W.nsIn K mainGlobals "max" = some none)
    (b_enumerate : PySem.W.nsIn K mainGlobals "enumerate" = some none)
    (b_reversed : PySem.W.nsIn K mainGlobals "reversed" = some none)
    (b_sorted : PySem.W.nsIn K mainGlobals "sorted" = some none) :
    ∃ fd : FuncData, (∀ (s : Shared) (v : Value), BindsTo s fd ⟨[v], []⟩ [("script", v)]) ∧ ∀ base : Heap, K.In base → base.Ns mainGlobals mg → FnOk l.prog w K mg base CX0 11 fa fd ["script"] (spLaw K) := by
  have e := hfa.symm.trans (PySem.W.mg_of X G a39)
  cases e
  have F0 := fun_mk (st := sIsWord) l0 c0 k0
  have B0 := F0.binds (ps := ["text"]) fun _ _ _ _ _ _ us hl => match us, hl with | [_], _ => rfl
  have F1 := fun_mk (st := sIsFigures) l1 c1 k1
  have B1 := F1.binds (ps := ["text"]) fun _ _ _ _ _ _ us hl => match us, hl with | [_], _ => rfl
  have F2 := fun_mk (st := sIsName) l2 c2 k2
  have B2 := F2.binds (ps := ["value"]) fun _ _ _ _ _ _ us hl => match us, hl with | [_], _ => rfl
  have F3 := fun_mk (st := sIsInteger) l3 c3 k3
  have B3 := F3.binds (ps := ["value"]) fun _ _ _ _ _ _ us hl => match us, hl with | [_], _ => rfl
  have F4 := fun_mk (st := sIsNumber) l4 c4 k4
  have B4 := F4.binds (ps := ["value", "least", "most"]) fun _ _ _ _ _ _ us hl => match us, hl with | [_, _, _], _ => rfl
  have F5 := fun_mk (st := sHasFigures) l5 c5 k5
  have B5 := F5.binds (ps := ["values"]) fun _ _ _ _ _ _ us hl => match us, hl with | [_], _ => rfl
  have F6 := fun_mk (st := sIsShown) l6 c6 k6
  have B6 := F6.binds (ps := ["value"]) fun _ _ _ _ _ _ us hl => match us, hl with | [_], _ => rfl
  have F7 := fun_mk (st := sHasPattern) l7 c7 k7
  have B7 := F7.binds (ps := ["value"]) fun _ _ _ _ _ _ us hl => match us, hl with | [_], _ => rfl
  have F8 := fun_mk (st := sIsPart) l8 c8 k8
  have B8 := F8.binds (ps := ["kind", "value"]) fun _ _ _ _ _ _ us hl => match us, hl with | [_, _], _ => rfl
  have F9 := fun_mk (st := sIsRowOf) l9 c9 k9
  have B9 := F9.binds (ps := ["kind", "value"]) fun _ _ _ _ _ _ us hl => match us, hl with | [_, _], _ => rfl
  have F10 := fun_mk (st := sAreSizes) l10 c10 k10
  have B10 := F10.binds (ps := ["values"]) fun _ _ _ _ _ _ us hl => match us, hl with | [_], _ => rfl
  have F11 := fun_mk (st := sEntryText) l11 c11 k11
  have B11 := F11.binds (ps := ["entry"]) fun _ _ _ _ _ _ us hl => match us, hl with | [_], _ => rfl
  have F12 := fun_mk (st := sPartText) l12 c12 k12
  have B12 := F12.binds (ps := ["kind", "part"]) fun _ _ _ _ _ _ us hl => match us, hl with | [_, _], _ => rfl
  have F13 := fun_mk (st := sWordsText) l13 c13 k13
  have B13 := F13.binds (ps := ["values"]) fun _ _ _ _ _ _ us hl => match us, hl with | [_], _ => rfl
  have F14 := fun_mk (st := sReadEntry) l14 c14 k14
  have B14 := F14.binds (ps := ["text"]) fun _ _ _ _ _ _ us hl => match us, hl with | [_], _ => rfl
  have F15 := fun_mk (st := sReadNumber) l15 c15 k15
  have B15 := F15.binds (ps := ["word"]) fun _ _ _ _ _ _ us hl => match us, hl with | [_], _ => rfl
  have F16 := fun_mk (st := sReadNumbers) l16 c16 k16
  have B16 := F16.binds (ps := ["text"]) fun _ _ _ _ _ _ us hl => match us, hl with | [_], _ => rfl
  have F17 := fun_mk (st := sReadLong) l17 c17 k17
  have B17 := F17.binds (ps := ["kind", "rest"]) fun _ _ _ _ _ _ us hl => match us, hl with | [_, _], _ => rfl
  have F18 := fun_mk (st := sIsEntry) l18 c18 k18
  have B18 := F18.binds (ps := ["value"]) fun _ _ _ _ _ _ us hl => match us, hl with | [_], _ => rfl
  have F19 := fun_mk (st := sCheckEntries) l19 c19 k19
  have B19 := F19.binds (ps := ["entries"]) fun _ _ _ _ _ _ us hl => match us, hl with | [_], _ => rfl
  have F20 := fun_mk (st := sMinutesText) l20 c20 k20
  have B20 := F20.binds (ps := ["entries"]) fun _ _ _ _ _ _ us hl => match us, hl with | [_], _ => rfl
  have F21 := fun_mk (st := sReadMinutes) l21 c21 k21
  have B21 := F21.binds (ps := ["text"]) fun _ _ _ _ _ _ us hl => match us, hl with | [_], _ => rfl
  have F22 := fun_mk (st := sLawBag) l22 c22 k22
  have B22 := F22.binds (ps := ["script"]) fun _ _ _ _ _ _ us hl => match us, hl with | [_], _ => rfl
  have F23 := fun_mk (st := sLawDraw) l23 c23 k23
  have B23 := F23.binds (ps := ["bag", "many"]) fun _ _ _ _ _ _ us hl => match us, hl with | [_, _], _ => rfl
  have F24 := fun_mk (st := sLawOf) l24 c24 k24
  have B24 := F24.binds (ps := ["bag", "things"]) fun _ _ _ _ _ _ us hl => match us, hl with | [_, _], _ => rfl
  have F25 := fun_mk (st := sLawLike) l25 c25 k25
  have B25 := F25.binds (ps := ["found", "due"]) fun _ _ _ _ _ _ us hl => match us, hl with | [_, _], _ => rfl
  have F26 := fun_mk (st := sLawNumbersText) l26 c26 k26
  have B26 := F26.binds (ps := ["row"]) fun _ _ _ _ _ _ us hl => match us, hl with | [_], _ => rfl
  have F27 := fun_mk (st := sLawEntryText) l27 c27 k27
  have B27 := F27.binds (ps := ["entry"]) fun _ _ _ _ _ _ us hl => match us, hl with | [_], _ => rfl
  have F28 := fun_mk (st := sLawLined) l28 c28 k28
  have B28 := F28.binds (ps := ["entries"]) fun _ _ _ _ _ _ us hl => match us, hl with | [_], _ => rfl
  have F29 := fun_mk (st := sLawSmall) l29 c29 k29
  have B29 := F29.binds (ps := ["bag"]) fun _ _ _ _ _ _ us hl => match us, hl with | [_], _ => rfl
  have F30 := fun_mk (st := sLawSigned) l30 c30 k30
  have B30 := F30.binds (ps := ["bag"]) fun _ _ _ _ _ _ us hl => match us, hl with | [_], _ => rfl
  have F31 := fun_mk (st := sLawAnyText) l31 c31 k31
  have B31 := F31.binds (ps := ["bag"]) fun _ _ _ _ _ _ us hl => match us, hl with | [_], _ => rfl
  have F32 := fun_mk (st := sLawAnyName) l32 c32 k32
  have B32 := F32.binds (ps := ["bag"]) fun _ _ _ _ _ _ us hl => match us, hl with | [_], _ => rfl
  have F33 := fun_mk (st := sLawAnyRows) l33 c33 k33
  have B33 := F33.binds (ps := ["bag", "signed"]) fun _ _ _ _ _ _ us hl => match us, hl with | [_, _], _ => rfl
  have F34 := fun_mk (st := sLawAnyEntry) l34 c34 k34
  have B34 := F34.binds (ps := ["bag"]) fun _ _ _ _ _ _ us hl => match us, hl with | [_], _ => rfl
  have F35 := fun_mk (st := sLawMoved) l35 c35 k35
  have B35 := F35.binds (ps := ["bag", "rows"]) fun _ _ _ _ _ _ us hl => match us, hl with | [_, _], _ => rfl
  have F36 := fun_mk (st := sLawNearEntry) l36 c36 k36
  have B36 := F36.binds (ps := ["bag", "world", "entry"]) fun _ _ _ _ _ _ us hl => match us, hl with | [_, _, _], _ => rfl
  have F37 := fun_mk (st := sLawAltered) l37 c37 k37
  have B37 := F37.binds (ps := ["bag", "world", "entries"]) fun _ _ _ _ _ _ us hl => match us, hl with | [_, _, _], _ => rfl
  have F38 := fun_mk (st := sLawThere) l38 c38 k38
  have B38 := F38.binds (ps := ["entries"]) fun _ _ _ _ _ _ us hl => match us, hl with | [_], _ => rfl
  have F39 := fun_mk (st := sLaw) l39 c39 k39
  have B39 := F39.binds (ps := ["script"]) fun _ _ _ _ _ _ us hl => match us, hl with | [_], _ => rfl
  have m_int := PySem.W.mg_none_of X G b_int
  have m_list := PySem.W.mg_none_of X G b_list
  have m_len := PySem.W.mg_none_of X G b_len
  have m_isinstance := PySem.W.mg_none_of X G b_isinstance
  have m_tuple := PySem.W.mg_none_of X G b_tuple
  have m_bool := PySem.W.mg_none_of X G b_bool
  have m_str := PySem.W.mg_none_of X G b_str
  have m_all := PySem.W.mg_none_of X G b_all
  have m_zip := PySem.W.mg_none_of X G b_zip
  have m_range := PySem.W.mg_none_of X G b_range
  have m_min := PySem.W.mg_none_of X G b_min
  have m_max := PySem.W.mg_none_of X G b_max
  have m_enumerate := PySem.W.mg_none_of X G b_enumerate
  have m_reversed := PySem.W.mg_none_of X G b_reversed
  have m_sorted := PySem.W.mg_none_of X G b_sorted
  refine ⟨PySem.W.fnOf "law" "law" (defArgs sLaw) (defBody sLaw) (defScope sLaw) .none kV39 dc39 pm39 an39 cd39 ct39, fun s v => .of_eq rfl, fun base _ _ => ?_⟩
  have haAN : ∀ H, SqT K H aAN ANV := fun H => .inr ⟨_, _, _, l_ANSWERS, rfl, rfl, (by show 3 ≤ sizeLine; decide), (.cons ⟨_, rfl⟩ (.cons ⟨_, rfl⟩ (.cons ⟨_, rfl⟩ .nil)))⟩
  have haLP : ∀ H, SqT K H aLP LPV := fun H => .inr ⟨_, _, _, l_LONG_PARTS, rfl, rfl, (by show 5 ≤ sizeLine; decide), (.cons ⟨_, rfl⟩ (.cons ⟨_, rfl⟩ (.cons ⟨_, rfl⟩ (.cons ⟨_, rfl⟩ (.cons ⟨_, rfl⟩ .nil)))))⟩
  have haFA : ∀ H, SqT K H aFA FAV := fun H => .inr ⟨_, _, _, l_FAULTS, rfl, rfl, (by show 2 ≤ sizeLine; decide), (.cons ⟨_, rfl⟩ (.cons ⟨_, rfl⟩ .nil))⟩
  have haRE : ∀ H, SqT K H aRE REV := fun H => .inr ⟨_, _, _, l_REASONS, rfl, rfl, (by show 8 ≤ sizeLine; decide), (.cons ⟨_, rfl⟩ (.cons ⟨_, rfl⟩ (.cons ⟨_, rfl⟩ (.cons ⟨_, rfl⟩ (.cons ⟨_, rfl⟩ (.cons ⟨_, rfl⟩ (.cons ⟨_, rfl⟩ (.cons ⟨_, rfl⟩ .nil))))))))⟩
  have haEN : ∀ H, SqT K H aEN ENV := fun H => .inr ⟨_, _, _, l_ENDS, rfl, rfl, (by show 3 ≤ sizeLine; decide), (.cons ⟨_, rfl⟩ (.cons ⟨_, rfl⟩ (.cons ⟨_, rfl⟩ .nil)))⟩
  obtain ⟨esP, nP, lP, kP, lowP⟩ := dPA
  have hPsheet : ∃ a, KDct K w aPA "sheet" (.ref a) ∧ ∀ H, SqT K H a [.str "number", .str "number", .str "name", .str "sheet"] := ⟨_, ⟨esP, nP, _, lP, kP, g_Psheet, rfl⟩, fun H => .inr ⟨_, _, _, l_Psheet, rfl, rfl, (by show 4 ≤ sizeLine; decide), (.cons ⟨_, rfl⟩ (.cons ⟨_, rfl⟩ (.cons ⟨_, rfl⟩ (.cons ⟨_, rfl⟩ .nil))))⟩⟩
  have hPwhich : ∃ a, KDct K w aPA "which" (.ref a) ∧ ∀ H, SqT K H a [.str "number", .str "number", .str "name", .str "number", .str "number", .str "ballots"] := ⟨_, ⟨esP, nP, _, lP, kP, g_Pwhich, rfl⟩, fun H => .inr ⟨_, _, _, l_Pwhich, rfl, rfl, (by show 6 ≤ sizeLine; decide), (.cons ⟨_, rfl⟩ (.cons ⟨_, rfl⟩ (.cons ⟨_, rfl⟩ (.cons ⟨_, rfl⟩ (.cons ⟨_, rfl⟩ (.cons ⟨_, rfl⟩ .nil))))))⟩⟩
  have hPshow : ∃ a, KDct K w aPA "show" (.ref a) ∧ ∀ H, SqT K H a [.str "number", .str "number", .str "name", .str "shown"] := ⟨_, ⟨esP, nP, _, lP, kP, g_Pshow, rfl⟩, fun H => .inr ⟨_, _, _, l_Pshow, rfl, rfl, (by show 4 ≤ sizeLine; decide), (.cons ⟨_, rfl⟩ (.cons ⟨_, rfl⟩ (.cons ⟨_, rfl⟩ (.cons ⟨_, rfl⟩ .nil))))⟩⟩
  have hPopened : ∃ a, KDct K w aPA "opened" (.ref a) ∧ ∀ H, SqT K H a [.str "number", .str "number"] := ⟨_, ⟨esP, nP, _, lP, kP, g_Popened, rfl⟩, fun H => .inr ⟨_, _, _, l_Popened, rfl, rfl, (by show 2 ≤ sizeLine; decide), (.cons ⟨_, rfl⟩ (.cons ⟨_, rfl⟩ .nil))⟩⟩
  have hPstruck : ∃ a, KDct K w aPA "struck" (.ref a) ∧ ∀ H, SqT K H a [.str "name", .str "reason"] := ⟨_, ⟨esP, nP, _, lP, kP, g_Pstruck, rfl⟩, fun H => .inr ⟨_, _, _, l_Pstruck, rfl, rfl, (by show 2 ≤ sizeLine; decide), (.cons ⟨_, rfl⟩ (.cons ⟨_, rfl⟩ .nil))⟩⟩
  have hPclash : ∃ a, KDct K w aPA "clash" (.ref a) ∧ ∀ H, SqT K H a [.str "number", .str "number"] := ⟨_, ⟨esP, nP, _, lP, kP, g_Pclash, rfl⟩, fun H => .inr ⟨_, _, _, l_Pclash, rfl, rfl, (by show 2 ≤ sizeLine; decide), (.cons ⟨_, rfl⟩ (.cons ⟨_, rfl⟩ .nil))⟩⟩
  have hPtaken : ∃ a, KDct K w aPA "taken" (.ref a) ∧ ∀ H, SqT K H a [.str "number", .str "number", .str "rows"] := ⟨_, ⟨esP, nP, _, lP, kP, g_Ptaken, rfl⟩, fun H => .inr ⟨_, _, _, l_Ptaken, rfl, rfl, (by show 3 ≤ sizeLine; decide), (.cons ⟨_, rfl⟩ (.cons ⟨_, rfl⟩ (.cons ⟨_, rfl⟩ .nil)))⟩⟩
  have hPtold : ∃ a, KDct K w aPA "told" (.ref a) ∧ ∀ H, SqT K H a [.str "end", .str "seats"] := ⟨_, ⟨esP, nP, _, lP, kP, g_Ptold, rfl⟩, fun H => .inr ⟨_, _, _, l_Ptold, rfl, rfl, (by show 2 ≤ sizeLine; decide), (.cons ⟨_, rfl⟩ (.cons ⟨_, rfl⟩ .nil))⟩⟩
  have hPA : Pats K w aPA := ⟨fun x => match x with | .sheet => hPsheet | .which => hPwhich | .«show» => hPshow | .opened => hPopened | .struck => hPstruck | .clash => hPclash | .taken => hPtaken | .told => hPtold, ⟨esP, nP, lP, kP, lowP⟩⟩
  have Iw : Cal l.prog w K mg base "is_word" 1 ["text"] spWord f0 _ := ⟨ok_word (k := 0) F0, PySem.W.mg_of X G a0, k0, B0⟩
  have In : Cal l.prog w K mg base "is_name" 2 ["value"] spNm f2 _ := ⟨ok_name (k := 0) F2 Iw m_isinstance m_str m_len (PySem.W.mg_of X G g_LONGEST_NAME), PySem.W.mg_of X G a2, k2, B2⟩
  have If : Cal l.prog w K mg base "is_figures" 1 ["text"] spFig f1 _ := ⟨ok_figures (k := 0) F1, PySem.W.mg_of X G a1, k1, B1⟩
  have II : Cal l.prog w K mg base "is_integer" 1 ["value"] (spIsInt K) f3 _ := ⟨ok_is_int (k := 0) F3 m_isinstance m_int m_bool, PySem.W.mg_of X G a3, k3, B3⟩
  have Nu : Cal l.prog w K mg base "is_number" 2 ["value", "least", "most"] (spIsNum K) f4 _ := ⟨ok_is_num (k := 0) F4 II, PySem.W.mg_of X G a4, k4, B4⟩
  have Hf : Cal l.prog w K mg base "has_figures" 3 ["values"] (spHF K) f5 _ := ⟨ok_has_figures (k := 1) F5 Nu m_all (PySem.W.mg_of X G g_MOST_FIGURE), PySem.W.mg_of X G a5, k5, B5⟩
  have As : Cal l.prog w K mg base "are_sizes" 3 ["values"] (spAS K) f10 _ := ⟨ok_are_sizes (k := 1) F10 Nu m_all (PySem.W.mg_of X G g_MOST_FIGURE), PySem.W.mg_of X G a10, k10, B10⟩
  have Sh : Cal l.prog w K mg base "is_shown" 3 ["value"] (spSh K) f6 _ := ⟨ok_is_shown (k := 1) F6 Nu m_isinstance m_list m_tuple m_str m_len (PySem.W.mg_of X G g_MOST_SALT) (PySem.W.mg_of X G g_LONGEST_TEXT), PySem.W.mg_of X G a6, k6, B6⟩
  have Ir : Cal l.prog w K mg base "is_row_of" 4 ["kind", "value"] (spIR K) f9 _ := ⟨ok_is_row (k := 2) F9 Hf As m_isinstance m_tuple, PySem.W.mg_of X G a9, k9, B9⟩
  have Ip : Cal l.prog w K mg base "is_part" 5 ["kind", "value"] (spIP K) f8 _ := ⟨ok_is_part F8 Nu In Sh Hf As Ir m_isinstance m_tuple m_len m_all (PySem.W.mg_of X G g_ANSWERS) haAN (PySem.W.mg_of X G g_FAULTS) haFA (PySem.W.mg_of X G g_REASONS) haRE (PySem.W.mg_of X G g_ENDS) haEN (PySem.W.mg_of X G g_MOST_FIGURE) (PySem.W.mg_of X G g_MOST_BALLOTS), PySem.W.mg_of X G a8, k8, B8⟩
  have Hp : Cal l.prog w K mg base "has_pattern" 6 ["value"] (spHP K) f7 _ := ⟨ok_pattern (k := 4) F7 Ip m_isinstance m_tuple m_str m_len m_all m_zip (PySem.W.mg_of X G g_PATTERNS) hPA, PySem.W.mg_of X G a7, k7, B7⟩
  have Ie : Cal l.prog w K mg base "is_entry" 7 ["value"] (spHP K) f18 _ := ⟨ok_is_entry (k := 5) F18 Hp, PySem.W.mg_of X G a18, k18, B18⟩
  have Wt : Cal l.prog w K mg base "words_text" 1 ["values"] (spWT K) f13 _ := ⟨ok_words (k := 0) F13 m_str, PySem.W.mg_of X G a13, k13, B13⟩
  have Pt : Cal l.prog w K mg base "part_text" 2 ["kind", "part"] (spPT K) f12 _ := ⟨ok_part_text (k := 0) F12 Wt m_isinstance m_str (PySem.W.mg_of X G g_LONG_PARTS) haLP, PySem.W.mg_of X G a12, k12, B12⟩
  have Et : Cal l.prog w K mg base "entry_text" 3 ["entry"] (spET K) f11 _ := ⟨ok_entry_text (k := 1) F11 Pt m_zip (PySem.W.mg_of X G g_LONG_PARTS) haLP (PySem.W.mg_of X G g_PATTERNS) hPA (PySem.W.mg_of X G g_COLON), PySem.W.mg_of X G a11, k11, B11⟩
  have Rn : Cal l.prog w K mg base "read_number" 2 ["word"] (spRN K) f15 _ := ⟨ok_rnum (k := 0) F15 If m_int m_len (PySem.W.mg_of X G g_LONGEST_FIGURES), PySem.W.mg_of X G a15, k15, B15⟩
  have Rs : Cal l.prog w K mg base "read_numbers" 3 ["text"] (spRNs K) f16 _ := ⟨ok_rnums (k := 1) F16 Rn m_tuple, PySem.W.mg_of X G a16, k16, B16⟩
  have Rl : Cal l.prog w K mg base "read_long" 4 ["kind", "rest"] (spRL K) f17 _ := ⟨ok_rlong F17 Rn Rs m_tuple (PySem.W.mg_of X G g_ANSWERS) haAN (PySem.W.mg_of X G g_FAULTS) haFA, PySem.W.mg_of X G a17, k17, B17⟩
  have Re : Cal l.prog w K mg base "read_entry" 7 ["text"] (spRE K) f14 _ := ⟨ok_rentry F14 Rn Rl Hp Et m_tuple m_zip (PySem.W.mg_of X G g_LONG_PARTS) haLP (PySem.W.mg_of X G g_PATTERNS) hPA (PySem.W.mg_of X G g_COLON), PySem.W.mg_of X G a14, k14, B14⟩
  have Ce : Cal l.prog w K mg base "check_entries" 8 ["entries"] (spCE K) f19 _ := ⟨ok_check F19 Ie m_isinstance m_list m_tuple m_enumerate, PySem.W.mg_of X G a19, k19, B19⟩
  have Mt : Cal l.prog w K mg base "minutes_text" 9 ["entries"] (spMT K) f20 _ := ⟨ok_mtext F20 Ce Et, PySem.W.mg_of X G a20, k20, B20⟩
  have Rm : Cal l.prog w K mg base "read_minutes" 8 ["text"] (spRM K) f21 _ := ⟨ok_rmin F21 Re m_isinstance m_str m_len m_enumerate, PySem.W.mg_of X G a21, k21, B21⟩
  have Ba : Cal l.prog w K mg base "_law_bag" 1 ["script"] (spBag K) f22 _ := ⟨ok_bag (k := 0) F22 m_int m_list, PySem.W.mg_of X G a22, k22, B22⟩
  have D : Cal l.prog w K mg base "_law_draw" 1 ["bag", "many"] (spDrawC K) f23 _ := ⟨ok_drawC (k := 0) F23 m_int m_len, PySem.W.mg_of X G a23, k23, B23⟩
  have O : Cal l.prog w K mg base "_law_of" 2 ["bag", "things"] (spOfC K) f24 _ := ⟨ok_ofC (k := 0) F24 D m_len, PySem.W.mg_of X G a24, k24, B24⟩
  have Li : Cal l.prog w K mg base "_law_like" 5 ["found", "due"] (spLike K 4) f25 _ := ⟨ok_like F25 (PySem.W.mg_of X G a25) B25 m_isinstance m_list m_tuple m_bool m_str m_len m_all m_zip 4, PySem.W.mg_of X G a25, k25, B25⟩
  have Ln : Cal l.prog w K mg base "_law_numbers_text" 1 ["row"] (spWT K) f26 _ := ⟨ok_lnums (k := 0) F26 m_str, PySem.W.mg_of X G a26, k26, B26⟩
  have Le : Cal l.prog w K mg base "_law_entry_text" 2 ["entry"] (spET K) f27 _ := ⟨ok_letext F27 Ln m_str m_len m_isinstance, PySem.W.mg_of X G a27, k27, B27⟩
  have Ll : Cal l.prog w K mg base "_law_lined" 3 ["entries"] (spLined K) f28 _ := ⟨ok_lined F28 Le, PySem.W.mg_of X G a28, k28, B28⟩
  have Sm : Cal l.prog w K mg base "_law_small" 3 ["bag"] (spBagR K (RInt 0 999999999)) f29 _ := ⟨ok_small F29 D O, PySem.W.mg_of X G a29, k29, B29⟩
  have Sg : Cal l.prog w K mg base "_law_signed" 4 ["bag"] (spBagR K (RInt (-999999999) 999999999)) f30 _ := ⟨ok_signed F30 Sm O, PySem.W.mg_of X G a30, k30, B30⟩
  have At : Cal l.prog w K mg base "_law_any_text" 3 ["bag"] (spBagR K RTxt) f31 _ := ⟨ok_text F31 D O m_range, PySem.W.mg_of X G a31, k31, B31⟩
  have An : Cal l.prog w K mg base "_law_any_name" 3 ["bag"] (spBagR K RNm) f32 _ := ⟨ok_nm F32 D O m_range, PySem.W.mg_of X G a32, k32, B32⟩
  have Ar : Cal l.prog w K mg base "_law_any_rows" 5 ["bag", "signed"] (spRows K) f33 _ := ⟨ok_rows F33 D O Sm Sg m_range m_tuple, PySem.W.mg_of X G a33, k33, B33⟩
  have Ae : Cal l.prog w K mg base "_law_any_entry" 6 ["bag"] (spBagR K (RE 3)) f34 _ := ⟨ok_any F34 D O Sm Sg An At Ar m_range m_tuple, PySem.W.mg_of X G a34, k34, B34⟩
  have Mo : Cal l.prog w K mg base "_law_moved" 2 ["bag", "rows"] (spMo K) f35 _ := ⟨ok_moved F35 D m_len m_list m_tuple m_min m_max, PySem.W.mg_of X G a35, k35, B35⟩
  have Ne : Cal l.prog w K mg base "_law_near_entry" 3 ["bag", "world", "entry"] (spNe K) f36 _ := ⟨ok_near F36 D O Mo m_len m_isinstance m_str m_int m_tuple m_sorted m_min m_max, PySem.W.mg_of X G a36, k36, B36⟩
  have Al : Cal l.prog w K mg base "_law_altered" 4 ["bag", "world", "entries"] (spAl K) f37 _ := ⟨ok_alt F37 D O Ne m_len m_list m_range m_reversed m_min, PySem.W.mg_of X G a37, k37, B37⟩
  have Th : Cal l.prog w K mg base "_law_there" 10 ["entries"] (spTh K) f38 _ := ⟨ok_there F38 Ll Li Mt Rm m_list m_tuple, PySem.W.mg_of X G a38, k38, B38⟩
  exact ok_law F39 Ba D Ae At Th Ie Al Mt m_range m_len m_all
end My
open PySem PySem.W PyProof.Rows
set_option maxRecDepth 100000 in
set_option maxHeartbeats 0 in
theorem PySem.Challenge.cw_soleheld_k57_whole_minutes_there_and_bac_holds : PySem.Challenge.rw_soleheld_k57_whole_minutes_there_and_bac.Holds := by
  w_on; o_law; k_head; (case hw => w_witness2)
  k_fill
  refine L2.walk_of (l := PySem.Challenge.rw_soleheld_k57_whole_minutes_there_and_bac) (n := 63) (k := 11) (x := "script") (CX := fun _ => L2.CX0) (sp := fun w => My.spLaw _) rfl (by decide) rfl ⟨rfl, by decide, by decide⟩ (fun w h Y => PySem.W.kIn_of Y) ?F (fun _ _ a ns hl _ hS => ⟨a, ns, rfl, hS, hl, fun _ => rfl⟩) (fun _ _ _ _ _ h => h)
  case F =>
    intro w mg fa h KX G hmg
    refine' My.all_mk KX G hmg ?a0 ?l0 ?c0 ?k0 ?a1 ?l1 ?c1 ?k1 ?a2 ?l2 ?c2 ?k2 ?a3 ?l3 ?c3 ?k3 ?a4 ?l4 ?c4 ?k4 ?a5 ?l5 ?c5 ?k5 ?a6 ?l6 ?c6 ?k6 ?a7 ?l7 ?c7 ?k7 ?a8 ?l8 ?c8 ?k8 ?a9 ?l9 ?c9 ?k9 ?a10 ?l10 ?c10 ?k10 ?a11 ?l11 ?c11 ?k11 ?a12 ?l12 ?c12 ?k12 ?a13 ?l13 ?c13 ?k13 ?a14 ?l14 ?c14 ?k14 ?a15 ?l15 ?c15 ?k15 ?a16 ?l16 ?c16 ?k16 ?a17 ?l17 ?c17 ?k17 ?a18 ?l18 ?c18 ?k18 ?a19 ?l19 ?c19 ?k19 ?a20 ?l20 ?c20 ?k20 ?a21 ?l21 ?c21 ?k21 ?a22 ?l22 ?c22 ?k22 ?a23 ?l23 ?c23 ?k23 ?a24 ?l24 ?c24 ?k24 ?a25 ?l25 ?c25 ?k25 ?a26 ?l26 ?c26 ?k26 ?a27 ?l27 ?c27 ?k27 ?a28 ?l28 ?c28 ?k28 ?a29 ?l29 ?c29 ?k29 ?a30 ?l30 ?c30 ?k30 ?a31 ?l31 ?c31 ?k31 ?a32 ?l32 ?c32 ?k32 ?a33 ?l33 ?c33 ?k33 ?a34 ?l34 ?c34 ?k34 ?a35 ?l35 ?c35 ?k35 ?a36 ?l36 ?c36 ?k36 ?a37 ?l37 ?c37 ?k37 ?a38 ?l38 ?c38 ?k38 ?a39 ?l39 ?c39 ?k39 ?g_LONGEST_NAME ?g_MOST_BALLOTS ?g_MOST_SALT ?g_LONGEST_TEXT ?g_MOST_FIGURE ?g_LONGEST_FIGURES ?g_COLON ?g_ANSWERS ?l_ANSWERS ?g_LONG_PARTS ?l_LONG_PARTS ?g_FAULTS ?l_FAULTS ?g_REASONS ?l_REASONS ?g_ENDS ?l_ENDS ?g_PATTERNS ?dPA ?g_Psheet ?l_Psheet ?g_Pwhich ?l_Pwhich ?g_Pshow ?l_Pshow ?g_Popened ?l_Popened ?g_Pstruck ?l_Pstruck ?g_Pclash ?l_Pclash ?g_Ptaken ?l_Ptaken ?g_Ptold ?l_Ptold ?b_int ?b_list ?b_len ?b_isinstance ?b_tuple ?b_bool ?b_str ?b_all ?b_zip ?b_range ?b_min ?b_max ?b_enumerate ?b_reversed ?b_sorted
    (case g_LONGEST_NAME => k_is)
    (case g_MOST_BALLOTS => k_is)
    (case g_MOST_SALT => k_is)
    (case g_LONGEST_TEXT => k_is)
    (case g_MOST_FIGURE => k_is)
    (case g_LONGEST_FIGURES => k_is)
    (case g_COLON => k_is)
    (case g_ANSWERS => k_is)
    (case g_LONG_PARTS => k_is)
    (case g_FAULTS => k_is)
    (case g_REASONS => k_is)
    (case g_ENDS => k_is)
    (case g_PATTERNS => k_is)
    (case dPA => refine ⟨_, _, (by k_is), ?_, (by decide)⟩; exact ⟨⟨_, _, rfl, rfl⟩, ⟨_, _, rfl, rfl⟩, ⟨_, _, rfl, rfl⟩, ⟨_, _, rfl, rfl⟩, ⟨_, _, rfl, rfl⟩, ⟨_, _, rfl, rfl⟩, ⟨_, _, rfl, rfl⟩, ⟨_, _, rfl, rfl⟩, trivial⟩)
    (case a0 => k_is)
    (case l0 => k_is)
    (case c0 => k_is)
    (case k0 => k_is)
    (case a1 => k_is)
    (case l1 => k_is)
    (case c1 => k_is)
    (case k1 => k_is)
    (case a2 => k_is)
    (case l2 => k_is)
    (case c2 => k_is)
    (case k2 => k_is)
    (case a3 => k_is)
    (case l3 => k_is)
    (case c3 => k_is)
    (case k3 => k_is)
    (case a4 => k_is)
    (case l4 => k_is)
    (case c4 => k_is)
    (case k4 => k_is)
    (case a5 => k_is)
    (case l5 => k_is)
    (case c5 => k_is)
    (case k5 => k_is)
    (case a6 => k_is)
    (case l6 => k_is)
    (case c6 => k_is)
    (case k6 => k_is)
    (case a7 => k_is)
    (case l7 => k_is)
    (case c7 => k_is)
    (case k7 => k_is)
    (case a8 => k_is)
    (case l8 => k_is)
    (case c8 => k_is)
    (case k8 => k_is)
    (case a9 => k_is)
    (case l9 => k_is)
    (case c9 => k_is)
    (case k9 => k_is)
    (case a10 => k_is)
    (case l10 => k_is)
    (case c10 => k_is)
    (case k10 => k_is)
    (case a11 => k_is)
    (case l11 => k_is)
    (case c11 => k_is)
    (case k11 => k_is)
    (case a12 => k_is)
    (case l12 => k_is)
    (case c12 => k_is)
    (case k12 => k_is)
    (case a13 => k_is)
    (case l13 => k_is)
    (case c13 => k_is)
    (case k13 => k_is)
    (case a14 => k_is)
    (case l14 => k_is)
    (case c14 => k_is)
    (case k14 => k_is)
    (case a15 => k_is)
    (case l15 => k_is)
    (case c15 => k_is)
    (case k15 => k_is)
    (case a16 => k_is)
    (case l16 => k_is)
    (case c16 => k_is)
    (case k16 => k_is)
    (case a17 => k_is)
    (case l17 => k_is)
    (case c17 => k_is)
    (case k17 => k_is)
    (case a18 => k_is)
    (case l18 => k_is)
    (case c18 => k_is)
    (case k18 => k_is)
    (case a19 => k_is)
    (case l19 => k_is)
    (case c19 => k_is)
    (case k19 => k_is)
    (case a20 => k_is)
    (case l20 => k_is)
    (case c20 => k_is)
    (case k20 => k_is)
    (case a21 => k_is)
    (case l21 => k_is)
    (case c21 => k_is)
    (case k21 => k_is)
    (case a22 => k_is)
    (case l22 => k_is)
    (case c22 => k_is)
    (case k22 => k_is)
    (case a23 => k_is)
    (case l23 => k_is)
    (case c23 => k_is)
    (case k23 => k_is)
    (case a24 => k_is)
    (case l24 => k_is)
    (case c24 => k_is)
    (case k24 => k_is)
    (case a25 => k_is)
    (case l25 => k_is)
    (case c25 => k_is)
    (case k25 => k_is)
    (case a26 => k_is)
    (case l26 => k_is)
    (case c26 => k_is)
    (case k26 => k_is)
    (case a27 => k_is)
    (case l27 => k_is)
    (case c27 => k_is)
    (case k27 => k_is)
    (case a28 => k_is)
    (case l28 => k_is)
    (case c28 => k_is)
    (case k28 => k_is)
    (case a29 => k_is)
    (case l29 => k_is)
    (case c29 => k_is)
    (case k29 => k_is)
    (case a30 => k_is)
    (case l30 => k_is)
    (case c30 => k_is)
    (case k30 => k_is)
    (case a31 => k_is)
    (case l31 => k_is)
    (case c31 => k_is)
    (case k31 => k_is)
    (case a32 => k_is)
    (case l32 => k_is)
    (case c32 => k_is)
    (case k32 => k_is)
    (case a33 => k_is)
    (case l33 => k_is)
    (case c33 => k_is)
    (case k33 => k_is)
    (case a34 => k_is)
    (case l34 => k_is)
    (case c34 => k_is)
    (case k34 => k_is)
    (case a35 => k_is)
    (case l35 => k_is)
    (case c35 => k_is)
    (case k35 => k_is)
    (case a36 => k_is)
    (case l36 => k_is)
    (case c36 => k_is)
    (case k36 => k_is)
    (case a37 => k_is)
    (case l37 => k_is)
    (case c37 => k_is)
    (case k37 => k_is)
    (case a38 => k_is)
    (case l38 => k_is)
    (case c38 => k_is)
    (case k38 => k_is)
    (case a39 => k_is)
    (case l39 => k_is)
    (case c39 => k_is)
    (case k39 => k_is)
    (case l_ANSWERS => k_is)
    (case l_LONG_PARTS => k_is)
    (case l_FAULTS => k_is)
    (case l_REASONS => k_is)
    (case l_ENDS => k_is)
    (case g_Psheet => k_is)
    (case l_Psheet => k_is)
    (case g_Pwhich => k_is)
    (case l_Pwhich => k_is)
    (case g_Pshow => k_is)
    (case l_Pshow => k_is)
    (case g_Popened => k_is)
    (case l_Popened => k_is)
    (case g_Pstruck => k_is)
    (case l_Pstruck => k_is)
    (case g_Pclash => k_is)
    (case l_Pclash => k_is)
    (case g_Ptaken => k_is)
    (case l_Ptaken => k_is)
    (case g_Ptold => k_is)
    (case l_Ptold => k_is)
    (case b_int => k_is)
    (case b_list => k_is)
    (case b_len => k_is)
    (case b_isinstance => k_is)
    (case b_tuple => k_is)
    (case b_bool => k_is)
    (case b_str => k_is)
    (case b_all => k_is)
    (case b_zip => k_is)
    (case b_range => k_is)
    (case b_min => k_is)
    (case b_max => k_is)
    (case b_enumerate => k_is)
    (case b_reversed => k_is)
    (case b_sorted => k_is)
#print axioms PySem.Challenge.cw_soleheld_k57_whole_minutes_there_and_bac_holds

