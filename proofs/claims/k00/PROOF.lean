import PyProof.Rows.All
import Wide.All
import OpenK.AllK
import Wide.FinOn
import HandS.ForMost
import HandS.FStr
import HandS.Wide
import HandS.Gcd
import HandS.IsInst
import HandS.Defaults
import HandS.Zip
import HandS.Walk
import HandS.Codes
import HandS.StrMore
import HandS.Style
import HandS.Evl
import PySem.Challenge.RW_soleheld_k00_errors_by_themselves
import HandS.ExcInit
import HandS.ExcField
import HandS.ExcIs
import HandS.ExcCtx
import HandS.ExcInitHot
import HandS.HotCalls
import HandS.TryMany
import HandS.MakeKw
import HandS.MakeKwOnly
import KE.KExcInit
import PyProof.ExcBaseAll.LookupError
import PyProof.ExcBaseAll.RuntimeError
import KE.KIsAll
import KE.KTryMore
set_option Elab.async false
set_option linter.all false
set_option maxRecDepth 100000
namespace My
open PySem PySem.Spec PyProof.Rows L2
/-! ### operators upon whole numbers of any size -/
section
variable {X : Cx}
theorem op_mulG : OpR X (binaryOp .Mult) (rI IntMulOk fun i j => .int (i * j)) := opI fun _ _ _ _ _ _ _ hc q => mul_int q hc
def CDivS (_ j : Int) : Prop := j ≠ 0 ∧ j.natAbs.log2 < 9000
theorem op_divS : OpR X (binaryOp .FloorDiv) (rI CDivS fun i j => .int (i.fdiv j)) := opI fun _ _ _ _ _ _ _ hc q => floordiv_int hc.1 q (.inl (PyProof.noPylong_of_log2 hc.2))
def CPowG (i j : Int) : Prop := 0 ≤ j ∧ (Builtin.Int.intBits i : Int) * j ≤ 2 ^ 27
theorem op_powG : OpR X (binaryOp .Pow) (rI CPowG fun i j => .int (i ^ j.toNat)) := opI fun _ _ _ _ _ _ _ hc q => pow_int hc.1 hc.2 q
end
/-- a def that stands at a module's name and keeps its promise -/
structure Cal (P : Program) (w : World) (K : PySem.W.Frag) (mg : Str → Option Value) (base : Heap) (x : Str) (k : Nat) (ps : List Str) (sp : Sp) (f : Addr) (fd : FuncData) : Prop where
  ok : FnOk P w K mg base CX0 k f fd ps sp
  g : mg x = some (.ref f)
  kp : PySem.W.keepIn K (.ref f) = true
  b : Binds K fd ps []
theorem same_upd {H : Hp} {p : Addr} {o : HO} (h : H p = none) : Same H (upd H p o) := fun b x e => by
  rw [upd_ne (ne_of_none e h)]
  exact e
/-! ### the bag -/
/-- a bag at b: its numbers at c, the rest bounded -/
structure BagIs (K : PySem.W.Frag) (H : Hp) (b c : Addr) (ns : List Int) (i : Nat) (g x n : Int) : Prop where
  ob : H b = some (.lst [.ref c, .int i, .int g, .int x, .int n])
  sq : SqL K H c (ns.map V.int)
  cb : c ≠ b
  hi : i ≤ ns.length
  x0 : 0 ≤ x
  x1 : x < 4294967296
def BagC (K : PySem.W.Frag) (H : Hp) (b c : Addr) (ns : List Int) : Prop := ∃ i g x n, BagIs K H b c ns i g x n
def BagAt (K : PySem.W.Frag) (H : Hp) (b : Addr) : Prop := ∃ c ns i g x n, BagIs K H b c ns i g x n
/-- what stands stays, but for what stands at b -/
def But (b : Addr) (H H' : Hp) : Prop := ∀ p o, p ≠ b → H p = some o → H' p = some o
theorem But.refl {b : Addr} {H : Hp} : But b H H := fun _ _ _ h => h
theorem But.trans {b : Addr} {H H1 H2 : Hp} (x : But b H H1) (y : But b H1 H2) : But b H H2 := fun p o n h => y p o n (x p o n h)
theorem But.upd {b : Addr} {H : Hp} {o : HO} : But b H (upd H b o) := fun p u n h => by rw [upd_ne n]; exact h
theorem But.of {b : Addr} {H H' : Hp} (s : Same H H') : But b H H' := fun p o _ h => s p o h
theorem But.seq {K : PySem.W.Frag} {b p : Addr} {H H' : Hp} {xs : List V} (h : But b H H') (n : p ≠ b) (s : SqL K H p xs) : SqL K H' p xs := by
  rcases s with (s | ⟨o, s⟩) | s
  · exact .inl (.inl (h _ _ n s))
  · exact .inl (.inr ⟨o, h _ _ n s⟩)
  · exact .inr s
theorem But.seqT {K : PySem.W.Frag} {b p : Addr} {H H' : Hp} {xs : List V} (h : But b H H') (n : p ≠ b) (s : SqT K H p xs) : SqT K H' p xs := by
  rcases s with (s | ⟨o, s⟩) | s
  · exact .inl (.inl (h _ _ n s))
  · exact .inl (.inr ⟨o, h _ _ n s⟩)
  · exact .inr s
theorem BagIs.same {K : PySem.W.Frag} {H H' : Hp} {b c : Addr} {ns : List Int} {i : Nat} {g x n : Int} (B : BagIs K H b c ns i g x n) (s : Same H H') : BagIs K H' b c ns i g x n :=
  ⟨s _ _ B.ob, s.seq B.sq, B.cb, B.hi, B.x0, B.x1⟩
theorem BagAt.same {K : PySem.W.Frag} {H H' : Hp} {b : Addr} (B : BagAt K H b) (s : Same H H') : BagAt K H' b :=
  let ⟨c, ns, i, g, x, n, B⟩ := B; ⟨c, ns, i, g, x, n, B.same s⟩
theorem BagIs.put {K : PySem.W.Frag} {H : Hp} {b c : Addr} {ns : List Int} {i : Nat} {g x n : Int} (B : BagIs K H b c ns i g x n) {i' : Nat} {g' x' n' : Int} (hi : i' ≤ ns.length) (x0 : 0 ≤ x') (x1 : x' < 4294967296) :
    BagIs K (upd H b (.lst [.ref c, .int i', .int g', .int x', .int n'])) b c ns i' g' x' n' :=
  ⟨upd_same, (But.upd (H := H)).seq B.cb B.sq, B.cb, hi, x0, x1⟩
/-! ### promises -/
def spBag (K : PySem.W.Frag) : Sp := fun vs H Q _ => ∃ (a : Addr) (ns : List Int), vs = [.ref a] ∧ SqL K H a (ns.map V.int) ∧ ∀ b H', Same H H' → BagAt K H' b → H b = none → Q (.ref b) H'
def spDraw (K : PySem.W.Frag) : Sp := fun vs H Q _ => ∃ (b : Addr) (m : Int), vs = [.ref b, .int m] ∧ BagAt K H b ∧ 0 < m ∧ m < 1000000000000000000000000000000000000000 ∧ ∀ r H', 0 ≤ r → r < m → BagAt K H' b → But b H H' → Q (.int r) H'
theorem BagC.at {K : PySem.W.Frag} {H : Hp} {b c : Addr} {ns : List Int} (h : BagC K H b c ns) : BagAt K H b := ⟨c, ns, h⟩
def spDrawC (K : PySem.W.Frag) : Sp := fun vs H Q _ => ∃ (b : Addr) (m : Int) (c : Addr) (ns : List Int), vs = [.ref b, .int m] ∧ BagC K H b c ns ∧ 0 < m ∧ m < 1000000000000000000000000000000000000000 ∧ ∀ r H', 0 ≤ r → r < m → BagC K H' b c ns → But b H H' → Q (.int r) H'
/-- the bag's numbers are not the list at L, or stand in the written part -/
def Off (K : PySem.W.Frag) (L c : Addr) (ns : List Int) : Prop := c ≠ L ∨ ∃ (o : Obj) (its : Array Value) (n : Nat), K.lookup c = some o ∧ o.cls = .type "list" ∧ o.dict = none ∧ o.data = .seq its n ∧ its.size ≤ sizeLine ∧ Vals (ns.map V.int) its.toList
theorem BagC.off {K : PySem.W.Frag} {H : Hp} {b c L : Addr} {ns : List Int} (h : BagC K H b c ns) (n : H L = none) : Off K L c ns := by
  obtain ⟨i, g, x, m, B⟩ := h
  rcases B.sq with (s | ⟨o, s⟩) | s
  · exact .inl (ne_of_none s n)
  · exact .inl (ne_of_none s n)
  · exact .inr s
theorem BagC.upd {K : PySem.W.Frag} {H : Hp} {b c L : Addr} {ns : List Int} {o : HO} (h : BagC K H b c ns) (f : Off K L c ns) (n : L ≠ b) : BagC K (upd H L o) b c ns := by
  obtain ⟨i, g, x, m, B⟩ := h
  refine ⟨i, g, x, m, by rw [upd_ne n.symm]; exact B.ob, ?_, B.cb, B.hi, B.x0, B.x1⟩
  rcases f with f | f
  · exact (But.upd (b := L)).seq f B.sq
  · exact .inr f
theorem BagC.same {K : PySem.W.Frag} {H H' : Hp} {b c : Addr} {ns : List Int} (h : BagC K H b c ns) (s : Same H H') : BagC K H' b c ns := by
  obtain ⟨i, g, x, m, B⟩ := h
  exact ⟨i, g, x, m, B.same s⟩
def topS (i : Nat) : Stmt := PySem.Challenge.pw_soleheld_k00_errors_by_themselves.main.body.getD i (.Pass ⟨0, 0, 0, 0⟩)
abbrev sLawBag : Stmt := topS 22
theorem scLawBag : FnScope ["script", "mixed", "piece"] ["script"] (defScope sLawBag) := ⟨rfl, rfl, rfl, by decide +kernel, rfl, by decide +kernel, by decide +kernel⟩
abbrev sLawDraw : Stmt := topS 23
theorem scLawDraw : FnScope ["bag", "size", "piece", "digit"] ["bag", "size"] (defScope sLawDraw) := ⟨rfl, rfl, rfl, by decide +kernel, rfl, by decide +kernel, by decide +kernel⟩
theorem mod_lo {a m : Int} (h : 0 < m) : 0 ≤ a % m := Int.emod_nonneg a (by omega)
theorem mod_hi {a m : Int} (h : 0 < m) : a % m < m := Int.emod_lt_of_pos a h
theorem mul_right {a : Int} {c : Int} (h : Builtin.Int.intBits c ≤ 64) : IntMulOk a c := IntMulOk.of_right h
section
variable {P : Program} {w : World} {K : PySem.W.Frag} {mg : Str → Option Value} {base : Heap}
theorem ok_bag {f : Addr} {fd : FuncData} {k : Nat} (F : Fun K "_law_bag" "_law_bag" sLawBag f fd) (b_int : mg "int" = none) (b_list : mg "list" = none) : FnOk P w K mg base CX0 (k + 1) f fd ["script"] (spBag K) := by
  refine F.ok scLawBag (fun vs H Q E h => ?_) (fun cdv A outer s H vs Q E hr h => ?_)
  · obtain ⟨a, ns, rfl, _⟩ := h
    rfl
  · obtain ⟨a, ns, rfl, hS, q⟩ := h
    refine ⟨_, (pss_cons (ps_set (i := 1) scLawBag.nd rfl (.inl rfl) pe_int)
      (pss_cons (ps_for PassesOwn.never rfl (pi_list (pe_slice sl_list (pv 0) po_none (po_some pe_int))) (pg_name (i := 2) scLawBag.nd rfl (.inl rfl))
        (pss_one (ps_set (i := 1) scLawBag.nd rfl (.inl rfl) (pe_op op_mod (pe_callTy call_int1 rfl b_int (by decide +kernel) (pa_cons (pe_op op_add (pe_op op_add (pe_op op_mulG (pv 1) pe_int) (pe_op op_mod (pe_callTy call_int1 rfl b_int (by decide +kernel) (pa_cons (pv 2) pa_nil)) pe_int)) pe_int) pa_nil)) pe_int))))
      (pss_one (ps_ret (pe_lst (pa_cons (pe_callTy call_list_of rfl b_list (by decide +kernel) (pa_cons (pe_slice sl_list (pv 0) po_none (po_some pe_int)) pa_nil)) (pa_cons pe_int (pa_cons pe_int (pa_cons (pv 1) (pa_cons pe_int pa_nil)))))))))), ?_⟩
    obtain ⟨ms, ec⟩ : ∃ ms : List Int, cutV (ns.map V.int) none (some 63) = ms.map V.int := ⟨(ns.drop _).take _, by
      unfold cutV
      rw [List.map_take, List.map_drop]⟩
    refine ⟨_, rfl, _, rfl, a, _, rfl, hS, fun c nc => ?_⟩
    rw [ec]
    have sc : Same H (upd H c (.lst (ms.map V.int))) := same_upd nc
    refine ⟨c, rfl, ⟨_, SqL.of upd_same⟩, for_list (K := K) (a := c) (xs := ms.map V.int) (fun i σ H2 => ∃ (m : Int) (v : Option V), σ = [some (.ref a), some (.int m), v] ∧ Same H H2 ∧ H2 c = some (.lst (ms.map V.int)) ∧ 0 ≤ m ∧ m < 4294967296)
      ⟨13964, none, rfl, sc, upd_same, by decide, by decide⟩ (fun i σ H2 _ ⟨_, _, _, _, e, _⟩ => SqL.of e) ?_ ?_⟩
    · rintro i y σ H2 hi ⟨m, v, rfl, s2, ce, m0, m1⟩
      obtain ⟨z, -, rfl⟩ : ∃ z, ms[i]? = some z ∧ y = .int z := by
        rw [List.getElem?_map] at hi
        cases e : ms[i]? with
        | none => rw [e] at hi; cases hi
        | some z => rw [e] at hi; exact ⟨z, rfl, (Option.some.inj hi).symm⟩
      refine ⟨_, rfl, _, _, rfl, rfl, mul_right (by decide +kernel), _, rfl, .inl ⟨_, rfl, _, _, rfl, rfl, (by show (0 : Int) < _; decide), _, _, rfl, rfl, _, _, rfl, rfl, .inl ⟨_, rfl, _, _, rfl, rfl, (by show (0 : Int) < _; decide), ?_⟩⟩⟩
      refine ⟨_, _, rfl, s2, ce, mod_lo (by decide), ?_⟩
      exact Int.lt_trans (mod_hi (by decide)) (by decide)
    · rintro σ H2 ⟨m, v, rfl, s2, ce, m0, m1⟩
      refine ⟨_, rfl, _, rfl, a, _, rfl, s2.seq hS, fun d nd => ?_⟩
      rw [ec]
      refine ⟨d, _, rfl, .inl (SqL.of upd_same), fun l nl => ⟨_, rfl, (by show 5 ≤ sizeLine; decide), fun b nb => ?_⟩⟩
      have s3 := (s2.trans (same_upd (o := .lst (ms.map V.int)) nd)).trans (same_upd (o := .lst (ms.map V.int)) nl)
      refine q b _ (s3.trans (same_upd nb)) ⟨l, ms, 0, 0, m, 0, upd_same, ?_, ?_, Nat.zero_le _, m0, m1⟩ (s3.free nb)
      · have e : l ≠ b := fun e => by rw [← e, upd_same] at nb; cases nb
        exact SqL.of (by rw [upd_ne e, upd_same])
      · exact fun e => by rw [← e, upd_same] at nb; cases nb
theorem ok_drawC {f : Addr} {fd : FuncData} {k : Nat} (F : Fun K "_law_draw" "_law_draw" sLawDraw f fd) (b_int : mg "int" = none) (b_len : mg "len" = none) : FnOk P w K mg base CX0 (k + 1) f fd ["bag", "size"] (spDrawC K) := by
  refine F.ok scLawDraw (fun vs H Q E h => ?_) (fun cdv A outer s H vs Q E hr h => ?_)
  · obtain ⟨b, m, c, ns, rfl, _⟩ := h
    rfl
  · obtain ⟨b, m, c, ns, rfl, ⟨i, g, x, n, B⟩, m0, m1, q⟩ := h
    refine ⟨_, (pss_cons (ps_asg (pe_op op_add (pe_ix ix_list (pv 0) pe_int (fun _ _ => rfl)) pe_int) (pg_sub (pv 0) pe_int set_list))
      (C8.pss_cut (ps_if (PW.pt (pw_and (pt_cmpR op_eq (pe_ix ix_list (pv 0) pe_int (fun _ _ => rfl)) pe_int (nomark _)) (pw_and1 (pt_cmpR op_lt (pe_ix ix_list (pv 0) pe_int (fun _ _ => rfl)) (pe_callB call_len rfl b_len (by decide +kernel) (pa_cons (pe_ix ix_list (pv 0) pe_int (fun _ _ => rfl)) pa_nil)) (nomark _))))) (pss_cons (ps_set (i := 2) scLawDraw.nd rfl (.inl rfl) (pe_callTy call_int1 rfl b_int (by decide +kernel) (pa_cons (pe_ix ix_list (pe_ix ix_list (pv 0) pe_int (fun _ _ => rfl)) (pe_ix ix_list (pv 0) pe_int (fun _ _ => rfl)) (fun _ _ => rfl)) pa_nil)))
        (pss_cons (ps_asg (pe_op op_add (pe_ix ix_list (pv 0) pe_int (fun _ _ => rfl)) pe_int) (pg_sub (pv 0) pe_int set_list))
        (pss_one (ps_if (pt_cmpR op_ge (pv 2) (pe_op op_powG pe_int pe_int) (nomark _)) (pss_one (ps_asg (pv 2) (pg_sub (pv 0) pe_int set_list))) (pss_one (ps_asg (pe_op op_mod (pe_callTy call_int1 rfl b_int (by decide +kernel) (pa_cons (pe_op op_add (pe_op op_add (pe_op op_mulG (pe_ix ix_list (pv 0) pe_int (fun _ _ => rfl)) pe_int) (pe_op op_mulG (pe_op op_mod (pe_callTy call_int1 rfl b_int (by decide +kernel) (pa_cons (pv 2) pa_nil)) pe_int) pe_int)) pe_int) pa_nil)) pe_int) (pg_sub (pv 0) pe_int set_list))))))) pss_nil)
      (pss_cons (ps_if (pt_cmpR op_gt (pe_ix ix_list (pv 0) pe_int (fun _ _ => rfl)) pe_int (nomark _)) (pss_cons (ps_set (i := 3) scLawDraw.nd rfl (.inl rfl) (pe_op op_mod (pe_callTy call_int1 rfl b_int (by decide +kernel) (pa_cons (pe_ix ix_list (pv 0) pe_int (fun _ _ => rfl)) pa_nil)) (pv 1)))
        (pss_cons (ps_asg (pe_op op_fdivW (pe_ix ix_list (pv 0) pe_int (fun _ _ => rfl)) (pv 1)) (pg_sub (pv 0) pe_int set_list))
        (pss_one (ps_ret (pv 3))))) pss_nil)
      (pss_cons (ps_asg (pe_op op_mod (pe_callTy call_int1 rfl b_int (by decide +kernel) (pa_cons (pe_op op_add (pe_op op_add (pe_op op_powG (pe_ix ix_list (pv 0) pe_int (fun _ _ => rfl)) pe_int) (pe_op op_mulG (pe_ix ix_list (pv 0) pe_int (fun _ _ => rfl)) pe_int)) pe_int) pa_nil)) pe_int) (pg_sub (pv 0) pe_int set_list))
      (pss_one (ps_ret (pe_op op_mod (pe_callTy call_int1 rfl b_int (by decide +kernel) (pa_cons (pe_op op_add (pe_op op_fdivW (pe_ix ix_list (pv 0) pe_int (fun _ _ => rfl)) pe_int) (pe_op op_mulG (pe_op op_mod (pe_callTy call_int1 rfl b_int (by decide +kernel) (pa_cons (pe_ix ix_list (pv 0) pe_int (fun _ _ => rfl)) pa_nil)) pe_int) pe_int)) pa_nil)) (pv 1)))))))), ?_⟩
    -- bag[4] = bag[4] + 1
    refine ⟨.ref b, rfl, b, _, 4, _, rfl, rfl, SqL.of B.ob, (atI_nat (j := 4) rfl), _, _, rfl, rfl, .ref b, rfl, b, _, 4, 4, rfl, rfl, B.ob, rfl, ?_⟩
    have B1 : BagIs K (upd H b (.lst [.ref c, .int i, .int g, .int x, .int (n + 1)])) b c ns i g x (n + 1) := B.put B.hi B.x0 B.x1
    have t1 : But b H (upd H b (.lst [.ref c, .int i, .int g, .int x, .int (n + 1)])) := But.upd
    refine ⟨fun σ' H' => ∃ (v2 v3 : Option V) (i' : Nat) (g' x' n' : Int), σ' = [some (.ref b), some (.int m), v2, v3] ∧ BagIs K H' b c ns i' g' x' n' ∧ But b H H', ?_, ?_⟩
    · -- the if
      refine ⟨.ref b, rfl, b, _, 2, _, rfl, rfl, SqL.of B1.ob, (atI_nat (j := 2) rfl), rfl, _, rfl, ?_⟩
      refine ite2 (fun _ => ?_) (fun _ => ?_)
      · refine ⟨.ref b, rfl, b, _, 1, _, rfl, rfl, SqL.of B1.ob, (atI_nat (j := 1) rfl), .ref b, rfl, b, _, 0, _, rfl, rfl, SqL.of B1.ob, (atI_nat (j := 0) rfl), _, _, rfl, .inl ⟨_, B1.sq, rfl⟩, _, _, rfl, rfl, _, rfl, ?_⟩
        refine ite2 (fun e => ?_) (fun _ => ?_)
        · have hlt : i < ns.length := by
            have e2 := of_decide_eq_true e
            rw [List.length_map] at e2
            omega
          have gi : (ns.map V.int)[i]? = some (.int ns[i]) := by
            rw [List.getElem?_map, List.getElem?_eq_getElem hlt]
            rfl
          refine ⟨.ref b, rfl, b, _, 0, _, rfl, rfl, SqL.of B1.ob, (atI_nat (j := 0) rfl), .ref b, rfl, b, _, 1, _, rfl, rfl, SqL.of B1.ob, (atI_nat (j := 1) rfl), c, _, i, _, rfl, rfl, B1.sq, atI_nat gi, .inl ⟨_, rfl, ?_⟩⟩
          refine ⟨.ref b, rfl, b, _, 1, _, rfl, rfl, SqL.of B1.ob, (atI_nat (j := 1) rfl), _, _, rfl, rfl, .ref b, rfl, b, _, 1, 1, rfl, rfl, B1.ob, rfl, ?_⟩
          have B2 : BagIs K (upd (upd H b (.lst [.ref c, .int i, .int g, .int x, .int (n + 1)])) b (.lst [.ref c, .int ((i : Int) + 1), .int g, .int x, .int (n + 1)])) b c ns (i + 1) g x (n + 1) := B1.put (i' := i + 1) hlt B.x0 B.x1
          have t2 : But b H (upd (upd H b (.lst [.ref c, .int i, .int g, .int x, .int (n + 1)])) b (.lst [.ref c, .int ((i : Int) + 1), .int g, .int x, .int (n + 1)])) := t1.trans But.upd
          refine ⟨_, rfl, _, _, rfl, rfl, ⟨by decide, by decide +kernel⟩, _, _, rfl, rfl, _, rfl, ?_⟩
          refine ite2 (fun _ => ?_) (fun _ => ?_)
          · refine ⟨_, rfl, .ref b, rfl, b, _, 2, 2, rfl, rfl, B2.ob, rfl, ?_⟩
            exact ⟨_, _, i + 1, ns[i], x, n + 1, rfl, B2.put B2.hi B.x0 B.x1, t2.trans But.upd⟩
          · refine ⟨.ref b, rfl, b, _, 3, _, rfl, rfl, SqL.of B2.ob, (atI_nat (j := 3) rfl), _, _, rfl, rfl, mul_right (by decide +kernel), _, rfl, .inl ⟨_, rfl, _, _, rfl, rfl, (by show (0 : Int) < _; decide), _, _, rfl, rfl, mul_right (by decide +kernel), _, _, rfl, rfl, _, _, rfl, rfl, .inl ⟨_, rfl, _, _, rfl, rfl, (by show (0 : Int) < _; decide), ?_⟩⟩⟩
            refine ⟨.ref b, rfl, b, _, 3, 3, rfl, rfl, B2.ob, rfl, ?_⟩
            exact ⟨_, _, i + 1, g, _, n + 1, rfl, B2.put B2.hi (mod_lo (by decide)) (Int.lt_trans (mod_hi (by decide)) (by decide)), t2.trans But.upd⟩
        · exact ⟨_, _, i, g, x, n + 1, rfl, B1, t1⟩
      · exact ⟨_, _, i, g, x, n + 1, rfl, B1, t1⟩
    · rintro σ' H' ⟨v2, v3, i', g', x', n', rfl, B', t'⟩
      refine ⟨.ref b, rfl, b, _, 2, _, rfl, rfl, SqL.of B'.ob, (atI_nat (j := 2) rfl), _, _, rfl, rfl, _, rfl, ?_⟩
      have d1 : CDivW g' m := wide_div m0 (b := 130) (by omega) (by decide) (by decide)
      refine ite2 (fun _ => ?_) (fun _ => ?_)
      · refine ⟨.ref b, rfl, b, _, 2, _, rfl, rfl, SqL.of B'.ob, (atI_nat (j := 2) rfl), .inl ⟨_, rfl, _, rfl, _, _, rfl, rfl, m0, ?_⟩⟩
        refine ⟨.ref b, rfl, b, _, 2, _, rfl, rfl, SqL.of B'.ob, (atI_nat (j := 2) rfl), _, rfl, _, _, rfl, rfl, d1, .ref b, rfl, b, _, 2, 2, rfl, rfl, B'.ob, rfl, ?_⟩
        exact ⟨_, rfl, q _ _ (mod_lo m0) (mod_hi m0) ⟨i', g' / m, x', n', B'.put B'.hi B'.x0 B'.x1⟩ (t'.trans But.upd)⟩
      · have hx : CPowG x' 3 := ⟨by decide, by
          have hb : Builtin.Int.intBits x' ≤ 64 := intBits_le_64 (by have := B'.x0; omega) (by have := B'.x1; omega)
          omega⟩
        refine ⟨.ref b, rfl, b, _, 3, _, rfl, rfl, SqL.of B'.ob, (atI_nat (j := 3) rfl), _, _, rfl, rfl, hx, .ref b, rfl, b, _, 4, _, rfl, rfl, SqL.of B'.ob, (atI_nat (j := 4) rfl), _, _, rfl, rfl, mul_right (by decide +kernel), _, _, rfl, rfl, _, _, rfl, rfl, .inl ⟨_, rfl, _, _, rfl, rfl, (by show (0 : Int) < _; decide), ?_⟩⟩
        refine ⟨.ref b, rfl, b, _, 3, 3, rfl, rfl, B'.ob, rfl, ?_⟩
        have B3 : BagIs K (upd H' b (.lst [.ref c, .int i', .int g', .int ((x' ^ (3 : Int).toNat + n' * 1299709 + 70001) % 2147483579), .int n'])) b c ns i' g' ((x' ^ (3 : Int).toNat + n' * 1299709 + 70001) % 2147483579) n' := B'.put B'.hi (mod_lo (by decide)) (Int.lt_trans (mod_hi (by decide)) (by decide))
        refine ⟨.ref b, rfl, b, _, 3, _, rfl, rfl, SqL.of B3.ob, (atI_nat (j := 3) rfl), _, _, rfl, rfl, wide_div (b := 10) (by decide) (by decide) (by decide) (by decide), .ref b, rfl, b, _, 3, _, rfl, rfl, SqL.of B3.ob, (atI_nat (j := 3) rfl), .inl ⟨_, rfl, _, _, rfl, rfl, (by show (0 : Int) < _; decide), _, _, rfl, rfl, mul_right (by decide +kernel), _, _, rfl, rfl, .inl ⟨_, rfl, _, rfl, _, _, rfl, rfl, m0, ?_⟩⟩⟩
        exact q _ _ (mod_lo m0) (mod_hi m0) ⟨i', g', _, n', B3⟩ (t'.trans But.upd)
theorem ok_draw {f : Addr} {fd : FuncData} {k : Nat} (F : Fun K "_law_draw" "_law_draw" sLawDraw f fd) (b_int : mg "int" = none) (b_len : mg "len" = none) : FnOk P w K mg base CX0 (k + 1) f fd ["bag", "size"] (spDraw K) :=
  (ok_drawC F b_int b_len).imp fun vs H Q E ⟨b, m, e, ⟨c, ns, B⟩, m0, m1, q⟩ => ⟨b, m, c, ns, e, B, m0, m1, fun r H' r0 r1 B' t => q r H' r0 r1 B'.at t⟩
end
end My

set_option Elab.async false
set_option linter.all false
set_option maxRecDepth 100000
namespace My
open PySem PySem.Spec PyProof.Rows L2
abbrev sLawOf : Stmt := topS 24
theorem scLawOf : FnScope ["bag", "things"] ["bag", "things"] (defScope sLawOf) := ⟨rfl, rfl, rfl, by decide +kernel, rfl, by decide +kernel, by decide +kernel⟩
abbrev sLawLike : Stmt := topS 25
theorem scLawLike : FnScope ["told", "due", "a", "b"] ["told", "due"] (defScope sLawLike) := ⟨rfl, rfl, rfl, by decide +kernel, rfl, by decide +kernel, by decide +kernel⟩
/-- things are a list of whole numbers -/
def spOfC (K : PySem.W.Frag) : Sp := fun vs H Q _ => ∃ (b a c : Addr) (ns : List Int) (xs : List V), vs = [.ref b, .ref a] ∧ BagC K H b c ns ∧ a ≠ b ∧ SqL K H a xs ∧ 0 < xs.length ∧ xs.length < 1000 ∧ ∀ v H', v ∈ xs → BagC K H' b c ns → But b H H' → Q v H'
def spOf (K : PySem.W.Frag) : Sp := fun vs H Q _ => ∃ (b a : Addr) (xs : List V), vs = [.ref b, .ref a] ∧ BagAt K H b ∧ a ≠ b ∧ SqL K H a xs ∧ 0 < xs.length ∧ xs.length < 1000 ∧ ∀ v H', v ∈ xs → BagAt K H' b → But b H H' → Q v H'
/-! ### data that are alike -/
def flat0 : V → Prop
  | .non => True
  | .bl _ => True
  | .int _ => True
  | .str _ => True
  | _ => False
def Lk (K : PySem.W.Frag) (H : Hp) : Nat → V → V → Prop
  | 0, v, w => v = w ∧ flat0 v
  | n + 1, v, w => (v = w ∧ flat0 v) ∨ ∃ a b xs ys, v = .ref a ∧ w = .ref b ∧ ((SqL K H a xs ∧ SqL K H b ys) ∨ (SqT K H a xs ∧ SqT K H b ys)) ∧ xs.length = ys.length ∧ xs.length < 1000 ∧ ∀ (i : Nat) x y, xs[i]? = some x → ys[i]? = some y → Lk K H n x y
theorem seqT_same {K : PySem.W.Frag} {H H' : Hp} {p : Addr} {xs : List V} (h : Same H H') (s : SqT K H p xs) : SqT K H' p xs := by
  rcases s with (s | ⟨o, s⟩) | s
  · exact .inl (.inl (h _ _ s))
  · exact .inl (.inr ⟨o, h _ _ s⟩)
  · exact .inr s
theorem Lk.same {K : PySem.W.Frag} {H H' : Hp} (s : Same H H') : ∀ {n : Nat} {v w : V}, Lk K H n v w → Lk K H' n v w
  | 0, _, _, h => h
  | n + 1, _, _, h => by
    rcases h with h | ⟨a, b, xs, ys, e1, e2, hs, hl, hb, hi⟩
    · exact .inl h
    · refine .inr ⟨a, b, xs, ys, e1, e2, ?_, hl, hb, fun i x y p q => (hi i x y p q).same s⟩
      rcases hs with ⟨p, q⟩ | ⟨p, q⟩
      · exact .inl ⟨s.seq p, s.seq q⟩
      · exact .inr ⟨seqT_same s p, seqT_same s q⟩
theorem Lk.flat {K : PySem.W.Frag} {H : Hp} {n : Nat} {v w : V} (e : v = w) (f : flat0 v) : Lk K H n v w := by
  cases n with
  | zero => exact ⟨e, f⟩
  | succ n => exact .inl ⟨e, f⟩
def spLike (K : PySem.W.Frag) (n : Nat) : Sp := fun vs H Q _ => ∃ v w, vs = [v, w] ∧ Lk K H n v w ∧ ∀ H', Same H H' → Q (.bl true) H'
theorem ty_list {K : PySem.W.Frag} {H : Hp} {a : Addr} {xs : List V} (h : SqL K H a xs) : TyX K H (.ref a) (.type "list") := by
  rcases h with (h | ⟨o, h⟩) | ⟨o, its, n, h, c, _⟩
  · exact .base (.lst h)
  · exact .base (.frz h)
  · exact .kList h c
theorem ty_tup {K : PySem.W.Frag} {H : Hp} {a : Addr} {xs : List V} (h : SqT K H a xs) : TyX K H (.ref a) (.type "tuple") := by
  rcases h with (h | ⟨o, h⟩) | ⟨o, its, n, h, c, _⟩
  · exact .base (.tup h)
  · exact .fTuple h
  · exact .kTuple h c
/-- the type of a flat value -/
def tyN : V → String
  | .non => "NoneType"
  | .bl _ => "bool"
  | .int _ => "int"
  | .str _ => "str"
  | _ => ""
theorem ty_flat {K : PySem.W.Frag} {H : Hp} {v : V} (h : flat0 v) : TyX K H v (.type (tyN v)) := by
  cases v with
  | non => exact .base .non
  | bl b => exact .base (.bl b)
  | int i => exact .base (.int i)
  | str x => exact .base (.str x)
  | _ => exact h.elim
theorem cls2 {a b : String} : Paired ClsV [.ty a, .ty b] [.type a, .type b] := .cons (.ty a) (.cons (.ty b) .nil)
section
variable {P : Program} {w : World} {K : PySem.W.Frag} {mg : Str → Option Value} {base : Heap}
theorem kit_ll : PySem.W.kitAny K (.type "list") [.type "list", .type "tuple"] = some true := by rfl
theorem kit_tl : PySem.W.kitAny K (.type "tuple") [.type "list", .type "tuple"] = some true := by rfl
theorem kit_flat {v : V} (h : flat0 v) : PySem.W.kitAny K (.type (tyN v)) [.type "list", .type "tuple"] = some false := by
  cases v <;> first | rfl | exact h.elim
theorem k1_ll : PySem.W.kitOne K (.type "list") (.type "list") = some true := by rfl
theorem k1_lt : PySem.W.kitOne K (.type "list") (.type "tuple") = some false := by rfl
theorem k1_tl : PySem.W.kitOne K (.type "tuple") (.type "list") = some false := by rfl
theorem k1_tt : PySem.W.kitOne K (.type "tuple") (.type "tuple") = some true := by rfl
theorem k1_flat {v : V} (h : flat0 v) (c : String) (hc : c = "bool" ∨ c = "str" ∨ c = "int") : ∃ b, PySem.W.kitOne K (.type (tyN v)) (.type c) = some b := by
  cases v <;> first | exact h.elim | (rcases hc with rfl | rfl | rfl <;> exact ⟨_, rfl⟩)
theorem pe_ty {X : Cx} (T : String) {x : Str} {pos : Pos} (hg : Gl X x) (hm : X.mg x = none) (hv : bootBuiltins x = some (.type T)) (hn : x ≠ "__name__" := by decide) (hd : (x == ("__debug__" : Str)) = false := by decide) : PE X (.Name x pos) (tC (.ty T)) := pe_bltn hg hm hv rfl hn hd
theorem walk_zipT {a b : Addr} {xs ys : List V} {n : Nat} (hn : n = min xs.length ys.length) : Walk (RZ.ItzT K a b) n (fun H => SqT K H a xs ∧ SqT K H b ys) (YPair (fun i => xs[i]?) (fun i => ys[i]?)) := by
  subst hn
  refine ⟨fun i _ hi q => ?_, fun _ q => ⟨xs, ys, q.1, q.2, by omega⟩, fun i H v H' _ q y => ?_⟩
  · have h1 : i < xs.length := by omega
    have h2 : i < ys.length := by omega
    exact ⟨xs, ys, xs[i], ys[i], q.1, q.2, by simp [h1], by simp [h2]⟩
  · obtain ⟨T, x, z, h1, h2, h3, h4, h5⟩ := y
    exact ⟨T, x, z, h1, h2, h3, h4 xs q.1, h5 ys q.2⟩
theorem ok_of {f fD : Addr} {fd fdD : FuncData} {k : Nat} (F : Fun K "_law_of" "_law_of" sLawOf f fd) (D : Cal P w K mg base "_law_draw" (k + 1) ["bag", "size"] (spDraw K) fD fdD) (b_len : mg "len" = none) : FnOk P w K mg base CX0 (k + 2) f fd ["bag", "things"] (spOf K) := by
  refine F.ok scLawOf (fun vs H Q E h => ?_) (fun cdv A outer s H vs Q E hr h => ?_)
  · obtain ⟨b, a, xs, rfl, _⟩ := h
    rfl
  · obtain ⟨b, a, xs, rfl, B, n, hs, h0, h1, q⟩ := h
    refine ⟨_, (pss_one (ps_ret (pe_ix ix_list (pv 1) (pe_call D.ok hr rfl D.g D.kp D.b .nil pass0 (pa_cons (pv 0) (pa_cons (pe_callB call_len rfl b_len (by decide +kernel) (pa_cons (pv 1) pa_nil)) pa_nil))) (fun _ _ => rfl)))), ?_⟩
    refine ⟨_, rfl, _, rfl, _, rfl, _, _, rfl, .inl ⟨_, hs, rfl⟩, b, _, rfl, B, by omega, by omega, fun r H' r0 r1 B' t => ?_⟩
    obtain ⟨j, rfl⟩ : ∃ j : Nat, r = (j : Int) := ⟨r.toNat, by omega⟩
    have hj : j < xs.length := by omega
    exact ⟨a, _, _, xs[j], rfl, rfl, t.seq n hs, atI_nat (List.getElem?_eq_getElem hj), q _ H' (List.getElem_mem hj) B' t⟩
theorem ok_ofC {f fD : Addr} {fd fdD : FuncData} {k : Nat} (F : Fun K "_law_of" "_law_of" sLawOf f fd) (D : Cal P w K mg base "_law_draw" (k + 1) ["bag", "size"] (spDrawC K) fD fdD) (b_len : mg "len" = none) : FnOk P w K mg base CX0 (k + 2) f fd ["bag", "things"] (spOfC K) := by
  refine F.ok scLawOf (fun vs H Q E h => ?_) (fun cdv A outer s H vs Q E hr h => ?_)
  · obtain ⟨b, a, c, ns, xs, rfl, _⟩ := h
    rfl
  · obtain ⟨b, a, c, ns, xs, rfl, B, n, hs, h0, h1, q⟩ := h
    refine ⟨_, (pss_one (ps_ret (pe_ix ix_list (pv 1) (pe_call D.ok hr rfl D.g D.kp D.b .nil pass0 (pa_cons (pv 0) (pa_cons (pe_callB call_len rfl b_len (by decide +kernel) (pa_cons (pv 1) pa_nil)) pa_nil))) (fun _ _ => rfl)))), ?_⟩
    refine ⟨_, rfl, _, rfl, _, rfl, _, _, rfl, .inl ⟨_, hs, rfl⟩, b, _, c, ns, rfl, B, by omega, by omega, fun r H' r0 r1 B' t => ?_⟩
    obtain ⟨j, rfl⟩ : ∃ j : Nat, r = (j : Int) := ⟨r.toNat, by omega⟩
    have hj : j < xs.length := by omega
    exact ⟨a, _, _, xs[j], rfl, rfl, t.seq n hs, atI_nat (List.getElem?_eq_getElem hj), q _ H' (List.getElem_mem hj) B' t⟩
theorem all_true : ∀ n : Nat, (List.replicate n true).all id = true := fun n => by
  induction n with
  | zero => rfl
  | succ n ih => rw [List.replicate_succ, List.all_cons, ih]; rfl
theorem FnOk.never {f : Addr} {fd : FuncData} {k : Nat} {ps : List Str} : FnOk P w K mg base CX0 k f fd ps (fun _ _ _ _ => False) := ⟨fun _ _ _ _ h => h.elim, fun _ _ _ _ _ _ _ _ _ _ _ _ _ h => h.elim⟩
def spLikeM (K : PySem.W.Frag) (M : Hp → V → V → Prop) : Sp := fun vs H Q _ => ∃ v w, vs = [v, w] ∧ ((v = w ∧ flat0 v) ∨ ∃ a b xs ys, v = .ref a ∧ w = .ref b ∧ ((SqL K H a xs ∧ SqL K H b ys) ∨ (SqT K H a xs ∧ SqT K H b ys)) ∧ xs.length = ys.length ∧ xs.length < 1000 ∧ ∀ (i : Nat) x y, xs[i]? = some x → ys[i]? = some y → M H x y) ∧ ∀ H', Same H H' → Q (.bl true) H'
theorem like_step {f : Addr} {fd : FuncData} {k : Nat} {R : Sp} {M : Hp → V → V → Prop} (F : Fun K "_law_like" "_law_like" sLawLike f fd) (g : mg "_law_like" = some (.ref f)) (b : Binds K fd ["told", "due"] [])
    (b_isinstance : mg "isinstance" = none) (b_list : mg "list" = none) (b_tuple : mg "tuple" = none) (b_bool : mg "bool" = none) (b_str : mg "str" = none) (b_int : mg "int" = none) (b_len : mg "len" = none) (b_all : mg "all" = none) (b_zip : mg "zip" = none)
    (G : FnOk P w K mg base CX0 k f fd ["told", "due"] R) (hM : ∀ v w H Q E, M H v w → (∀ H', Same H H' → Q (.bl true) H') → R [v, w] H Q E) (hS : ∀ H H' v w, Same H H' → M H v w → M H' v w) : FnOk P w K mg base CX0 (k + 1) f fd ["told", "due"] (spLikeM K M) := by
  refine F.ok scLawLike (fun vs H Q E h => ?_) (fun cdv A outer s H vs Q E hr h => ?_)
  · obtain ⟨v, w', rfl, _⟩ := h
    rfl
  · obtain ⟨v, w', rfl, L, q⟩ := h
    refine ⟨_, (pss_cons (ps_if (pt_val (pe_callB call_isiT rfl b_isinstance (by decide +kernel) (pa_cons (pv 1) (pa_cons (pe_tup (pa_cons (pe_ty "list" rfl b_list (by decide +kernel)) (pa_cons (pe_ty "tuple" rfl b_tuple (by decide +kernel)) pa_nil))) pa_nil)))) (pss_cons (ps_if (PW.pt (pw_or (pt_cmpR op_ne (pe_callB call_isi rfl b_isinstance (by decide +kernel) (pa_cons (pv 0) (pa_cons (pe_ty "list" rfl b_list (by decide +kernel)) pa_nil))) (pe_callB call_isi rfl b_isinstance (by decide +kernel) (pa_cons (pv 1) (pa_cons (pe_ty "list" rfl b_list (by decide +kernel)) pa_nil))) (nomark _)) (pw_or1 (pt_cmpR op_ne (pe_callB call_isi rfl b_isinstance (by decide +kernel) (pa_cons (pv 0) (pa_cons (pe_ty "tuple" rfl b_tuple (by decide +kernel)) pa_nil))) (pe_callB call_isi rfl b_isinstance (by decide +kernel) (pa_cons (pv 1) (pa_cons (pe_ty "tuple" rfl b_tuple (by decide +kernel)) pa_nil))) (nomark _))))) (pss_one (ps_ret pe_bl)) pss_nil)
      (pss_one (ps_ret (pe_and (pe_cmpR op_eq (pe_callB call_len rfl b_len (by decide +kernel) (pa_cons (pv 0) pa_nil)) (pe_callB call_len rfl b_len (by decide +kernel) (pa_cons (pv 1) pa_nil)) (nomark _)) (pe_one (pe_callB (cr_all rfl) rfl b_all (by decide +kernel) (pa_cons (pe_lc (own := [("a", 2), ("b", 3)]) (g := gTup K 2 (gCons (gName 2) (gCons (gName 3) gNil))) (tt := tYes) rfl scLawLike.nd (RZ.pi_zipA rfl b_zip (pa_cons (pv 0) (pa_cons (pv 1) pa_nil))) (blkOk_by (own := [("a", 2), ("b", 3)]) (N := ["told", "due", "a", "b"]) (sc := defScope sLawLike) (by decide +kernel)) (fun _ _ _ _ _ => (pg_tup rfl (pgs_cons (pg_name (i := 2) scLawLike.nd rfl (.inl rfl) (.inr rfl)) (pgs_cons (pg_name (i := 3) scLawLike.nd rfl (.inl rfl) (.inr rfl)) pgs_nil)))) (fun _ _ _ _ _ => pts_nil) (fun _ _ _ _ _ => (pe_call G hr rfl g F.kp b .nil pass0 (pa_cons (pv 2) (pa_cons (pv 3) pa_nil))))) pa_nil))))))) pss_nil)
    (pss_cons (ps_if (PW.pt (pw_or (pt_cmpR op_isN (pv 1) pe_non (nomark _)) (pw_or1 (pt_cmpR op_isN (pv 0) pe_non (nomark _))))) (pss_one (ps_ret (pe_and (pe_cmpR op_isN (pv 1) pe_non (nomark _)) (pe_one (pe_cmpR op_isN (pv 0) pe_non (nomark _)))))) pss_nil)
    (pss_cons (ps_if (PW.pt (pw_or (pt_val (pe_callB call_isiT rfl b_isinstance (by decide +kernel) (pa_cons (pv 0) (pa_cons (pe_tup (pa_cons (pe_ty "list" rfl b_list (by decide +kernel)) (pa_cons (pe_ty "tuple" rfl b_tuple (by decide +kernel)) pa_nil))) pa_nil)))) (pw_or1 (pt_cmpR op_ne (pe_callB call_isi rfl b_isinstance (by decide +kernel) (pa_cons (pv 0) (pa_cons (pe_ty "bool" rfl b_bool (by decide +kernel)) pa_nil))) (pe_callB call_isi rfl b_isinstance (by decide +kernel) (pa_cons (pv 1) (pa_cons (pe_ty "bool" rfl b_bool (by decide +kernel)) pa_nil))) (nomark _))))) (pss_one (ps_ret pe_bl)) pss_nil)
    (pss_cons (ps_if (PW.pt (pw_or (pt_cmpR op_ne (pe_callB call_isi rfl b_isinstance (by decide +kernel) (pa_cons (pv 0) (pa_cons (pe_ty "str" rfl b_str (by decide +kernel)) pa_nil))) (pe_callB call_isi rfl b_isinstance (by decide +kernel) (pa_cons (pv 1) (pa_cons (pe_ty "str" rfl b_str (by decide +kernel)) pa_nil))) (nomark _)) (pw_or1 (pt_cmpR op_ne (pe_callB call_isi rfl b_isinstance (by decide +kernel) (pa_cons (pv 0) (pa_cons (pe_ty "int" rfl b_int (by decide +kernel)) pa_nil))) (pe_callB call_isi rfl b_isinstance (by decide +kernel) (pa_cons (pv 1) (pa_cons (pe_ty "int" rfl b_int (by decide +kernel)) pa_nil))) (nomark _))))) (pss_one (ps_ret pe_bl)) pss_nil)
    (pss_one (ps_ret (pe_cmpR op_eq (pv 0) (pv 1) (nomark _)))))))), ?_⟩
    rcases L with ⟨rfl, fl⟩ | ⟨a, c, xs, ys, rfl, rfl, hs, hl, hb, hi⟩
    · have hf : flat0 v := fl
      refine ⟨_, rfl, (by show 2 ≤ sizeLine; decide), fun p np => ⟨_, p, _, _, _, _, rfl, upd_same, cls2, ty_flat hf, kit_flat hf, _, rfl, iteF ?_⟩⟩
      have s1 : Same H (upd H p (.tup [.ty "list", .ty "tuple"])) := same_upd np
      refine ⟨v, rfl, rfl, _, rfl, ite2 (fun e => iteT ?_) (fun e => ⟨v, rfl, rfl, _, rfl, ite2 (fun e' => absurd e' e) (fun _ => ?_)⟩)⟩
      · refine ⟨v, rfl, rfl, _, rfl, ?_⟩
        rw [e]
        refine iteT ⟨v, rfl, rfl, ?_⟩
        rw [e]
        exact q _ s1
      · refine ⟨_, rfl, (by show 2 ≤ sizeLine; decide), fun p2 np2 => ⟨_, p2, _, _, _, _, rfl, upd_same, cls2, ty_flat hf, kit_flat hf, _, rfl, iteF ?_⟩⟩
        have s2 : Same H (upd (upd H p (.tup [.ty "list", .ty "tuple"])) p2 (.tup [.ty "list", .ty "tuple"])) := s1.trans (same_upd np2)
        obtain ⟨k1, e1⟩ := k1_flat (K := K) hf "bool" (.inl rfl)
        obtain ⟨k2, e2⟩ := k1_flat (K := K) hf "str" (.inr (.inl rfl))
        obtain ⟨k3, e3⟩ := k1_flat (K := K) hf "int" (.inr (.inr rfl))
        refine ⟨_, rfl, _, _, _, _, _, rfl, .ty _, ty_flat hf, e1, _, rfl, _, _, _, _, _, rfl, .ty _, ty_flat hf, e1, rfl, _, rfl, ?_⟩
        rw [decide_eq_true rfl]
        refine iteF ⟨_, rfl, _, _, _, _, _, rfl, .ty _, ty_flat hf, e2, _, rfl, _, _, _, _, _, rfl, .ty _, ty_flat hf, e2, rfl, _, rfl, ?_⟩
        rw [decide_eq_true rfl]
        refine iteF ⟨_, rfl, _, _, _, _, _, rfl, .ty _, ty_flat hf, e3, _, rfl, _, _, _, _, _, rfl, .ty _, ty_flat hf, e3, rfl, _, rfl, ?_⟩
        rw [decide_eq_true rfl]
        refine iteF ⟨_, rfl, _, rfl, ?_, ?_⟩
        · cases v <;> first | rfl | exact hf.elim
        · rw [decide_eq_true rfl]
          exact q _ s2
    · -- lists or tuples
      have hr1 : ∀ (i : Nat) x y, xs[i]? = some x → ys[i]? = some y → M H x y := hi
      obtain ⟨T, kt, k1, k2, tya, tyc, hlen, hlen'⟩ : ∃ T, PySem.W.kitAny K (.type T) [.type "list", .type "tuple"] = some true ∧ (∃ k1, PySem.W.kitOne K (.type T) (.type "list") = some k1) ∧ (∃ k2, PySem.W.kitOne K (.type T) (.type "tuple") = some k2) ∧ (∀ H', Same H H' → TyX K H' (.ref a) (.type T)) ∧ (∀ H', Same H H' → TyX K H' (.ref c) (.type T)) ∧ (∀ H', Same H H' → LenV K (.ref a) H' xs.length) ∧ (∀ H', Same H H' → LenV K (.ref c) H' ys.length) := by
        rcases hs with ⟨p, q⟩ | ⟨p, q⟩
        · exact ⟨"list", kit_ll, ⟨_, k1_ll⟩, ⟨_, k1_lt⟩, fun _ s => ty_list (s.seq p), fun _ s => ty_list (s.seq q), fun _ s => .inl ⟨_, s.seq p, rfl⟩, fun _ s => .inl ⟨_, s.seq q, rfl⟩⟩
        · exact ⟨"tuple", kit_tl, ⟨_, k1_tl⟩, ⟨_, k1_tt⟩, fun _ s => ty_tup (seqT_same s p), fun _ s => ty_tup (seqT_same s q), fun _ s => .inr ⟨_, seqT_same s p, rfl⟩, fun _ s => .inr ⟨_, seqT_same s q, rfl⟩⟩
      obtain ⟨k1, e1⟩ := k1
      obtain ⟨k2, e2⟩ := k2
      refine ⟨_, rfl, (by show 2 ≤ sizeLine; decide), fun p0 np => ⟨_, p0, _, _, _, _, rfl, upd_same, cls2, tyc _ (same_upd np), kt, _, rfl, iteT ?_⟩⟩
      have s1 : Same H (upd H p0 (.tup [.ty "list", .ty "tuple"])) := same_upd np
      refine ⟨_, rfl, _, _, _, _, _, rfl, .ty _, tya _ s1, e1, _, rfl, _, _, _, _, _, rfl, .ty _, tyc _ s1, e1, rfl, _, rfl, ?_⟩
      rw [decide_eq_true rfl]
      refine iteF ⟨_, rfl, _, _, _, _, _, rfl, .ty _, tya _ s1, e2, _, rfl, _, _, _, _, _, rfl, .ty _, tyc _ s1, e2, rfl, _, rfl, ?_⟩
      rw [decide_eq_true rfl]
      refine iteF ⟨_, rfl, _, _, rfl, hlen _ s1, _, rfl, _, _, rfl, hlen' _ s1, rfl, _, rfl, ?_⟩
      rw [hl, decide_eq_true rfl]
      refine iteT ⟨_, rfl, _, rfl, a, c, xs, ys, rfl, ?_⟩
      rcases hs with ⟨p, q'⟩ | ⟨p, q'⟩
      ·
        refine .inl ⟨Same.seq s1 p, Same.seq s1 q', fun D nD => lc_it (walk_zip (K := K) (a := a) (b := c) (by omega : xs.length = min xs.length ys.length)) (fun i H2 => Same (upd H p0 (.tup [.ty "list", .ty "tuple"])) H2 ∧ H2 D = some (.lst ((List.replicate i true).map V.bl))) ⟨same_upd nD, upd_same⟩ (fun i H2 _ h => ⟨Same.seq (s1.trans h.1) p, Same.seq (s1.trans h.1) q'⟩) ?_ ?_⟩
        · rintro i z H2 H3 hlt ⟨s2, hD⟩ ⟨T, x, y, rfl, nT, rfl, hx, hy⟩
          have nTD : D ≠ T := ne_of_none hD nT
          refine ⟨T, [x, y], rfl, SqT.of upd_same, rfl, x, [y], rfl, y, [], rfl, rfl, rfl, ?_⟩
          unfold tYes
          refine iteT ?_
          refine ⟨x, rfl, y, rfl, hM x y _ _ _ (hS _ _ _ _ ((s1.trans s2).trans (same_upd nT)) (hr1 i x y hx hy)) fun H4 s4 => ?_⟩
          have hD4 : H4 D = some (.lst ((List.replicate i true).map V.bl)) := s4 _ _ (by rw [upd_ne nTD]; exact hD)
          refine ⟨_, hD4, ?_, ?_, ?_⟩
          · rw [List.length_map, List.length_replicate]
            exact small1000 (by omega)
          · intro p' o' h'
            have nq : p' ≠ D := ne_of_none h' nD
            rw [upd_ne nq]
            exact s4 _ _ (same_upd nT _ _ (s2 _ _ h'))
          · rw [upd_same, List.replicate_succ', List.map_append]
            rfl
        · rintro H2 ⟨s2, hD⟩
          refine ⟨D, _, rfl, SqL.of hD, ?_⟩
          rw [all_true]
          exact q _ (s1.trans s2)
      ·
        refine .inr ⟨seqT_same s1 p, seqT_same s1 q', fun D nD => lc_it (walk_zipT (K := K) (a := a) (b := c) (by omega : xs.length = min xs.length ys.length)) (fun i H2 => Same (upd H p0 (.tup [.ty "list", .ty "tuple"])) H2 ∧ H2 D = some (.lst ((List.replicate i true).map V.bl))) ⟨same_upd nD, upd_same⟩ (fun i H2 _ h => ⟨seqT_same (s1.trans h.1) p, seqT_same (s1.trans h.1) q'⟩) ?_ ?_⟩
        · rintro i z H2 H3 hlt ⟨s2, hD⟩ ⟨T, x, y, rfl, nT, rfl, hx, hy⟩
          have nTD : D ≠ T := ne_of_none hD nT
          refine ⟨T, [x, y], rfl, SqT.of upd_same, rfl, x, [y], rfl, y, [], rfl, rfl, rfl, ?_⟩
          unfold tYes
          refine iteT ?_
          refine ⟨x, rfl, y, rfl, hM x y _ _ _ (hS _ _ _ _ ((s1.trans s2).trans (same_upd nT)) (hr1 i x y hx hy)) fun H4 s4 => ?_⟩
          have hD4 : H4 D = some (.lst ((List.replicate i true).map V.bl)) := s4 _ _ (by rw [upd_ne nTD]; exact hD)
          refine ⟨_, hD4, ?_, ?_, ?_⟩
          · rw [List.length_map, List.length_replicate]
            exact small1000 (by omega)
          · intro p' o' h'
            have nq : p' ≠ D := ne_of_none h' nD
            rw [upd_ne nq]
            exact s4 _ _ (same_upd nT _ _ (s2 _ _ h'))
          · rw [upd_same, List.replicate_succ', List.map_append]
            rfl
        · rintro H2 ⟨s2, hD⟩
          refine ⟨D, _, rfl, SqL.of hD, ?_⟩
          rw [all_true]
          exact q _ (s1.trans s2)

theorem ok_like {f : Addr} {fd : FuncData} (F : Fun K "_law_like" "_law_like" sLawLike f fd) (g : mg "_law_like" = some (.ref f)) (b : Binds K fd ["told", "due"] [])
    (b_isinstance : mg "isinstance" = none) (b_list : mg "list" = none) (b_tuple : mg "tuple" = none) (b_bool : mg "bool" = none) (b_str : mg "str" = none) (b_int : mg "int" = none) (b_len : mg "len" = none) (b_all : mg "all" = none) (b_zip : mg "zip" = none) :
    ∀ n : Nat, FnOk P w K mg base CX0 (n + 1) f fd ["told", "due"] (spLike K n) := by
  intro n
  induction n with
  | zero =>
    exact (like_step (M := fun _ _ _ => False) (R := fun _ _ _ _ => False) F g b b_isinstance b_list b_tuple b_bool b_str b_int b_len b_all b_zip FnOk.never (fun _ _ _ _ _ h _ => h) (fun _ _ _ _ _ h => h)).imp
      fun vs H Q E ⟨v, w', e, L, q⟩ => ⟨v, w', e, .inl L, q⟩
  | succ n ih =>
    exact (like_step (M := fun H v w => Lk K H n v w) F g b b_isinstance b_list b_tuple b_bool b_str b_int b_len b_all b_zip ih (fun v w H Q E h q => ⟨v, w, rfl, h, q⟩) (fun _ _ _ _ s h => h.same s)).imp
      fun vs H Q E ⟨v, w', e, L, q⟩ => ⟨v, w', e, L, q⟩
end
end My

set_option Elab.async false
set_option linter.all false
set_option maxRecDepth 100000
set_option maxHeartbeats 4000000
/-! errors of own classes over any base, as values -/
namespace My
open PySem PySem.Spec PyProof.Rows L2
open PySem.HandSPX (excO)
/-- what is asked of the built-in base -/
structure Base (B newId initId : String) (tail : List Value) : Prop where
  F : ExcBaseFacts B newId initId tail
  st : ∀ self : Value, refuseLoop self "__setattr__" tail = pure ()
  ob : tail.contains (.type "object") = true
  ne : tail.isEmpty = false
theorem bValue : Base "ValueError" "ValueError.__new__" "ValueError.__init__" [.type "ValueError", .type "Exception", .type "BaseException", .type "object"] := ⟨PySem.F.excBase_ValueError, PySem.F.store_ValueError.passes, by decide +kernel, rfl⟩
theorem bLookup : Base "LookupError" "LookupError.__new__" "LookupError.__init__" [.type "LookupError", .type "Exception", .type "BaseException", .type "object"] := ⟨PySem.F.excBase_LookupError, PySem.F.store_LookupError.passes, by decide +kernel, rfl⟩
theorem bRuntime : Base "RuntimeError" "RuntimeError.__new__" "RuntimeError.__init__" [.type "RuntimeError", .type "Exception", .type "BaseException", .type "object"] := ⟨PySem.F.excBase_RuntimeError, PySem.F.store_RuntimeError.passes, by decide +kernel, rfl⟩
/-- own classes, then the base's -/
def Refs (tail : List Value) (l : List Value) : Prop := ∃ cs : List Addr, l = cs.map Value.ref ++ tail
section
variable {B newId initId : String} {tail : List Value}
theorem Refs.cons {C : Addr} {l : List Value} (h : Refs tail l) : Refs tail (.ref C :: l) := by
  obtain ⟨cs, rfl⟩ := h
  exact ⟨C :: cs, rfl⟩
theorem refs_pass (b : Base B newId initId tail) (self : Value) {l : List Value} (h : Refs tail l) : refuseLoop self "__setattr__" l = pure () := by
  obtain ⟨cs, rfl⟩ := h
  induction cs with
  | nil => exact b.st self
  | cons c cs ih =>
    show refuseLoop self "__setattr__" (.ref c :: (cs.map Value.ref ++ tail)) = pure ()
    rw [refuseLoop_ref]
    exact ih
theorem refs_contains (X : String) {l : List Value} (h : Refs tail l) : l.contains (.type X) = tail.contains (.type X) := by
  obtain ⟨cs, rfl⟩ := h
  induction cs with
  | nil => rfl
  | cons c cs ih =>
    show (Value.ref c :: (cs.map Value.ref ++ tail)).contains (.type X) = _
    rw [List.contains_cons, ih]
    rfl
theorem refs_ne (b : Base B newId initId tail) {l : List Value} (h : Refs tail l) : l.isEmpty = false := by
  obtain ⟨cs, rfl⟩ := h
  cases cs with
  | nil => exact b.ne
  | cons _ _ => rfl
end
end My

set_option Elab.async false
set_option linter.all false
set_option maxRecDepth 100000
set_option maxHeartbeats 4000000
/-! a field of an error, stored -/
namespace My
open PySem PySem.Spec PyProof.Rows PySem.W PySem.Calls
open Builtin Builtin.ObjectAttr
section
variable {P : Program} {w : World} {A : Around} {E : Value → Shared → Prop} {R : Result → Shared → Prop} {hp : Heap} {gs : Array GenState} {dr : Drawn} {tk0 : Nat} {os : OsState}
variable {B newId initId : String} {tail : List Value}
theorem xset_new {K : W.Frag} {fld : Str} {tk : Tok} {v : Value} {x C : Addr} {fv : Array Value} {cd : ClassData} (b : Base B newId initId tail)
    (X : K.In hp) (at_ : hp.get? x = some { cls := .ref C, data := .fields fv }) (hcd : W.clsIn K C = some cd) (hm : Refs tail cd.mro) (hh : cd.hasDict = true) (free : W.findIn K (.ref C) fld = some none)
    (go : ∀ h' tk' dx, (∀ b o, b ≠ x → hp.get? b = some o → h'.get? b = some o) → hp.objs.size ≤ dx → dx ≠ x → h'.get? x = some { cls := .ref C, dict := some dx, data := .fields fv } →
      h'.Ns1 dx (fun y => if y = fld then some v else none) → R (.ok (.ret .none)) ⟨h', gs, dr, tk', os⟩) :
    codeAny (model P w) A (.call (.builtin "object.__setattr__") ⟨[.ref x, .str fld tk, v], []⟩) R ⟨hp, gs, dr, tk0, os⟩ := by
  have inst : W.InstAt hp x { cls := .ref C, data := .fields fv } C none := ⟨at_, rfl, rfl, trivial⟩
  have st := F.store_object
  have full := refs_ne b hm
  have obj : cd.mro.contains (.type "object") = true := (refs_contains "object" hm).trans b.ob
  have apart : x ≠ hp.objs.size := Nat.ne_of_lt (Heap.lt_size at_)
  have isO : W.Looks (model P w) hp (isInstance (.ref x) (.type "object")) true := inst.type.andThen (W.looks_mroIn X (by unfold W.mroIn; rw [hcd, Option.bind_some, if_neg (by rw [full]; decide), obj]))
  refine codeAny_call_builtin st.slot.plain st.entry (@W.check_slot (model P w) _ _ ⟨hp, gs, dr, tk0, os⟩ "object.__setattr__" "object" "__setattr__" (.ref x) [.str fld tk, v] [] _ st.kind st.split isO (st.args (.ref x) (.str fld tk) v) ?_)
  have mroL : W.Looks (model P w) hp (mroOf (.ref C)) cd.mro := (W.looks_clsIn X hcd).andThen .now
  have takeL : W.Looks (model P w) hp (storeTaker? none) none := .now
  have clsL : W.Looks (model P w) hp (classData C) cd := W.looks_clsIn X hcd
  rw [W.osa_eq, refuse_eq]
  refine wpAny_bind (wpAny_bind (inst.type.at (wpAny_bind (mroL.at ?_))))
  rw [refs_pass b _ hm]
  refine wpAny_pure (wpAny_bind (inst.type.at (wpAny_bind ((W.looks_findIn X free).at (wpAny_bind (takeL.at ?_))))))
  show wpAny _ _ (storeInOwnDict (.ref x) (.ref C) (.str fld tk) fld v false) _ _ _
  obtain ⟨nm, bs, mro, ns, qn, hd, sn, sb, ab, col, del⟩ := cd
  dsimp only at hh
  subst hh
  unfold storeInOwnDict ownDictForStores
  repeat (first | with_reducible refine PySem.HandSPX.store_in_new ?_ ?_ | with_reducible refine wpAny_loadPart_at at_ ?_ | with_reducible refine clsL.at ?_ | wp_step)
  · exact ⟨_, #[], _, (Heap.get?_update_ne _ _ _ _ apart.symm).trans (Heap.get?_push_at rfl rfl), rfl, fun e he => absurd he (by simp), fun _ => rfl⟩
  · intro h' tk' ns' same
    have at2 : (hp.push { cls := .type "dict", data := .dict #[] }).get? x = some { cls := .ref C, data := .fields fv } := Heap.get?_push_of_some _ at_
    refine go h' tk' hp.objs.size (fun b o hb ho => ?_) (Nat.le_refl _) apart.symm ?_ ns'
    · exact (same.2 b (Nat.ne_of_lt (Heap.lt_size ho))).trans ((Heap.get?_update_ne _ _ _ _ hb).trans (Heap.get?_push_of_some _ ho))
    · exact (same.2 x apart).trans (Heap.get?_update_self _ at2 rfl)
theorem xset_old {K : W.Frag} {fld : Str} {tk : Tok} {v : Value} {x C dx : Addr} {fv : Array Value} {cd : ClassData} {m0 : Str → Option Value} {nl : List Str} (b : Base B newId initId tail)
    (X : K.In hp) (at_ : hp.get? x = some { cls := .ref C, dict := some dx, data := .fields fv }) (hns : hp.Ns1 dx m0) (hw : Within m0 nl) (hz : nl.length ≤ 1000) (hcd : W.clsIn K C = some cd) (hm : Refs tail cd.mro) (hh : cd.hasDict = true)
    (free : W.findIn K (.ref C) fld = some none)
    (go : ∀ h' tk', (∀ b o, b ≠ dx → hp.get? b = some o → h'.get? b = some o) → h'.Ns1 dx (fun y => if y = fld then some v else m0 y) → R (.ok (.ret .none)) ⟨h', gs, dr, tk', os⟩) :
    codeAny (model P w) A (.call (.builtin "object.__setattr__") ⟨[.ref x, .str fld tk, v], []⟩) R ⟨hp, gs, dr, tk0, os⟩ := by
  obtain ⟨oD, esD, epD, hoD, hdD, _⟩ := hns.count hw
  have inst : W.InstAt hp x { cls := .ref C, dict := some dx, data := .fields fv } C (some oD) := ⟨at_, rfl, rfl, hoD⟩
  have st := F.store_object
  have full := refs_ne b hm
  have obj : cd.mro.contains (.type "object") = true := (refs_contains "object" hm).trans b.ob
  have isO : W.Looks (model P w) hp (isInstance (.ref x) (.type "object")) true := inst.type.andThen (W.looks_mroIn X (by unfold W.mroIn; rw [hcd, Option.bind_some, if_neg (by rw [full]; decide), obj]))
  refine codeAny_call_builtin st.slot.plain st.entry (@W.check_slot (model P w) _ _ ⟨hp, gs, dr, tk0, os⟩ "object.__setattr__" "object" "__setattr__" (.ref x) [.str fld tk, v] [] _ st.kind st.split isO (st.args (.ref x) (.str fld tk) v) ?_)
  have mroL : W.Looks (model P w) hp (mroOf (.ref C)) cd.mro := (W.looks_clsIn X hcd).andThen .now
  have takeL : W.Looks (model P w) hp (storeTaker? none) none := .now
  have clsL : W.Looks (model P w) hp (classData C) cd := W.looks_clsIn X hcd
  rw [W.osa_eq, refuse_eq]
  refine wpAny_bind (wpAny_bind (inst.type.at (wpAny_bind (mroL.at ?_))))
  rw [refs_pass b _ hm]
  refine wpAny_pure (wpAny_bind (inst.type.at (wpAny_bind ((W.looks_findIn X free).at (wpAny_bind (takeL.at ?_))))))
  show wpAny _ _ (storeInOwnDict (.ref x) (.ref C) (.str fld tk) fld v false) _ _ _
  obtain ⟨nm, bs, mro, ns, qn, hd, sn, sb, ab, col, del⟩ := cd
  dsimp only at hh
  subst hh
  unfold storeInOwnDict ownDictForStores
  repeat (first | with_reducible refine PySem.OEX.store_in_old hns hw hz ?_ | with_reducible refine wpAny_loadPart_at at_ ?_ | with_reducible refine clsL.at ?_ | wp_step)
  intro h' tk' ns' same
  exact go h' tk' (fun b o hb ho => (same.2 b hb).trans ho) ns'
end
end My

set_option Elab.async false
set_option linter.all false
set_option maxRecDepth 100000
set_option maxHeartbeats 4000000
/-! C(e, .., k = v, ..) of an own class of errors with an own __init__ -/
namespace PySem
namespace MyX
open Builtin Builtin.ObjectAttr PyProof.Rows PySem.Calls
open PySem.HandSPX (excO)
section
variable {P : Program} {w : World} {M : Model} {A : Around} {E : Value → Shared → Prop} {R : Result → Shared → Prop} {hp : Heap} {gs : Array GenState} {dr : Drawn} {tk : Nat} {os : OsState}
variable {nm qn : Str} {C N : Addr} {bs bm tail : List Value} {hasD : Bool} {sn : List Str} {sub : List Value} {ab : Bool} {col : Option Bool} {dd : Option Addr} {k0 k1 k2 k3 k5 : Option Value} {B newId initId : String}
theorem xnew_check (F : ExcBaseFacts B newId initId tail) (hT : ∀ X : String, bm.contains (.type X) = tail.contains (.type X)) {us : List Value} {kw : List (Str × Value)} {Q : Unit → Shared → Prop}
    (cls : hp.get? C = some (excClassObj nm qn C N bs bm hasD sn sub ab col dd k0 k1 k2 k3 k5 newId)) (go : Q () ⟨hp, gs, dr, tk, os⟩) : wpAny M A (checkBuiltinCall newId ⟨.ref C :: us, kw⟩) Q E ⟨hp, gs, dr, tk, os⟩ := by
  have isB : (Value.ref C :: bm).contains (.type B) = true := by rw [List.contains_cons, hT, F.hasB, Bool.or_true]
  have star := F.noStar
  simp only [checkBuiltinCall, F.newKind, F.newSplit, F.newRow]
  repeat (first | refine wpAny_loadPart_at cls ?_ | (refine wpAny_isSubtype_exc cls ?_; rw [isB]) | refine wpAny_staticBase_exc cls ?_ | refine wpAny_madeBy_exc cls ?_ | simp only [bne_self_eq_false, Bool.false_eq_true, if_false] | wp_step)
  exact go
theorem xnew_run (F : ExcBaseFacts B newId initId tail) (hT : ∀ X : String, bm.contains (.type X) = tail.contains (.type X)) {us : List Value} {kw : List (Str × Value)}
    (cls : hp.get? C = some (excClassObj nm qn C N bs bm hasD sn sub ab col dd k0 k1 k2 k3 k5 newId))
    (go : R (.ok (.ret (.ref (hp.objs.size + 1)))) ⟨(hp.push { cls := .type "tuple", data := .seq us.toArray }).push { cls := .ref C, data := .fields #[.ref hp.objs.size, .none, .none, .none, .bool false, .none] }, gs, dr, tk, os⟩) (lim : us.length ≤ sizeLine) :
    codeAny (model P w) A (.builtin newId ⟨.ref C :: us, kw⟩) R ⟨hp, gs, dr, tk, os⟩ := by
  have ends := F.ends
  have isB : (Value.ref C :: bm).contains (.type B) = true := by rw [List.contains_cons, hT, F.hasB, Bool.or_true]
  have noA : (Value.ref C :: bm).contains (.type "AttributeError") = false := by rw [List.contains_cons, hT, F.noAttr]; rfl
  have noN : (Value.ref C :: bm).contains (.type "NameError") = false := by rw [List.contains_cons, hT, F.noName]; rfl
  refine codeAny_builtinAt F.entry ?_
  unfold Builtin.«BaseException.__new__»
  refine wpAt_bind ?_
  show wpAt _ _ _ (stack >>= _) _ _ _
  refine wpAt_bind (wpAt_stack fun p below => wpAt_of_wpAny ?_)
  wp_walk
  refine wpAt_of_wpAny ?_
  rw [F.owner]
  repeat (first | with_reducible refine wpAny_madeHere_exc F.canon cls ?_ | with_reducible refine wpAny_loadPart_at cls ?_ | (with_reducible refine wpAny_isSubtype_exc cls ?_; first | rw [isB] | rw [noA] | rw [noN]) | wp_step)
  show R _ _
  rw [Heap.size_push]
  exact go
theorem xcall_tree (F : ExcBaseFacts B newId initId tail) (hT : ∀ X : String, bm.contains (.type X) = tail.contains (.type X)) {us : List Value} {kw : List (Str × Value)} {fI : Addr} {Q : Fin → Shared → Prop}
    (cls : hp.get? C = some (excClassObj nm qn C N bs bm hasD sn sub ab col dd k0 k1 k2 k3 k5 newId))
    (ini : W.Looks (model P w) hp (typeLookup (.ref C) "__init__") (some (.ref fI))) (bnd : ∀ self, W.Looks (model P w) hp (bindSpecial (.ref fI) self) (.ref fI, [self])) (lim : us.length ≤ sizeLine)
    (go : codeAny (model P w) A (.call (.ref fI) ⟨.ref (hp.objs.size + 1) :: us, kw⟩)
      (fun r s' => match r with | .ok (.ret v) => v = .none ∧ Q (.done (.ret (.ref (hp.objs.size + 1)))) s' | .ok _ => False | .error e => E e s')
      ⟨(hp.push (W.kdv_tup us)).push (excO C hp.objs.size), gs, dr, tk, os⟩) :
    wpAny (model P w) A (Builtin.«type.__call__» ⟨.ref C :: us, kw⟩) Q E ⟨hp, gs, dr, tk, os⟩ := by
  repeat (first | with_reducible refine wpAny_loadPart_at cls ?_ | with_reducible refine wpAny_madeBy_exc cls ?_ | wp_step)
  refine codeAny_call_builtin_code (Code.quiet_builtin _ F.quiet) (xnew_check F hT cls ?_)
  refine xnew_run F hT cls ?_ lim
  show wpAny _ _ _ _ _ _
  have up : ∀ b o, hp.get? b = some o → ((hp.push (W.kdv_tup us)).push (excO C hp.objs.size)).get? b = some o := fun b o e => Heap.get?_push_of_some _ (Heap.get?_push_of_some _ e)
  have cls1 := up _ _ cls
  have obj : ((hp.push (W.kdv_tup us)).push (excO C hp.objs.size)).get? (hp.objs.size + 1) = some (excO C hp.objs.size) := by heap_get
  have isC : (Value.ref C :: bm).contains (.ref C) = true := by simp
  have ini1 := ini.keeps up
  have bnd1 := (bnd (.ref (hp.objs.size + 1))).keeps up
  unfold isInstance
  repeat (first | with_reducible refine wpAny_loadPart_at obj ?_ | (with_reducible refine wpAny_isSubtype_exc cls1 ?_; rw [isC]) | wp_step)
  show wpAny _ _ (typeLookup (.ref C) _) _ _ _
  refine ini1.at ?_
  refine wpAny_holding (wpAny_bind (bnd1.at ?_))
  refine wpAny_bind (wpAny_call (codeAny_mono go fun r s' z => ?_))
  rcases r with e | (v | _ | _ | _) <;> first | exact z | exact z.elim | skip
  obtain ⟨rfl, z⟩ := z
  first
    | exact wpAny_pure (wpAny_pure z)
    | (wp_walk; exact z)
theorem xcheck_type {us : List Value} {kw : List (Str × Value)} {Q : Unit → Shared → Prop} (cls : hp.get? C = some (excClassObj nm qn C N bs bm hasD sn sub ab col dd k0 k1 k2 k3 k5 newId))
    (go : Q () ⟨hp, gs, dr, tk, os⟩) : wpAny M A (checkBuiltinCall "type.__call__" ⟨.ref C :: us, kw⟩) Q E ⟨hp, gs, dr, tk, os⟩ := by
  have f3 := tc_sub
  have isT : (⟨hp, gs, dr, tk, os⟩ : Shared).TypeIs (.ref C) "type" := ⟨_, cls, rfl⟩
  simp only [checkBuiltinCall, tc_kind, tc_split]
  repeat (any_goals (first | assumption | with_reducible refine wpAny_loadPart_at cls ?_ | with_reducible refine wpAny_onRaise ?_ | with_reducible refine wpAny_map ?_ | wp_step))
theorem xcall (F : ExcBaseFacts B newId initId tail) (hT : ∀ X : String, bm.contains (.type X) = tail.contains (.type X)) {us : List Value} {kw : List (Str × Value)} {fI : Addr}
    (cls : hp.get? C = some (excClassObj nm qn C N bs bm hasD sn sub ab col dd k0 k1 k2 k3 k5 newId))
    (ini : W.Looks (model P w) hp (typeLookup (.ref C) "__init__") (some (.ref fI))) (bnd : ∀ self, W.Looks (model P w) hp (bindSpecial (.ref fI) self) (.ref fI, [self])) (lim : us.length ≤ sizeLine)
    (go : codeAny (model P w) (A.under (.builtin "type.__call__" ⟨.ref C :: us, kw⟩)) (.call (.ref fI) ⟨.ref (hp.objs.size + 1) :: us, kw⟩) (W.InitBack (hp.objs.size + 1) R)
      ⟨(hp.push (W.kdv_tup us)).push (excO C hp.objs.size), gs, dr, tk, os⟩) :
    codeAny (model P w) A (.call (.ref C) ⟨us, kw⟩) R ⟨hp, gs, dr, tk, os⟩ := by
  have f1 := tc_lookup
  have f2 := tc_bind (.ref C)
  have isT : (⟨hp, gs, dr, tk, os⟩ : Shared).TypeIs (.ref C) "type" := ⟨_, cls, rfl⟩
  refine codeAny_of_tree ?_
  show wpAny _ _ (callAny (.ref C) _) _ _ _
  repeat (any_goals (first | assumption | with_reducible refine wpAny_loadPart_at cls ?_ | wp_step))
  refine ⟨rfl, ?_⟩
  refine codeAny_call_builtin_at (Code.quiet_builtin _ (by decide +kernel)) entry_typeCall (xcheck_type cls (xcall_tree F hT cls ini bnd lim ?_))
  refine codeAny_mono go fun r s' z => ?_
  rcases r with e | (v | _ | _ | _) <;> exact z
end
end MyX
end PySem

set_option Elab.async false
set_option linter.all false
set_option maxRecDepth 100000
set_option maxHeartbeats 4000000
/-! errors as values: made, their fields stored and read, isinstance -/
namespace My
open PySem PySem.Spec PyProof.Rows L2
open PySem.HandSPX (excO)
/-- what the written part says of the class -/
structure ErrK (K : PySem.W.Frag) (C : Addr) : Prop where
  cls : ∃ (B newId initId : String) (tail : List Value) (nm q : Str) (N : Addr) (bs bm : List Value) (sn : List Str) (sub : List Value) (ab : Bool) (col : Option Bool) (dd : Option Addr) (k0 k1 k2 k3 k5 : Option Value),
    Base B newId initId tail ∧ K.lookup C = some (excClassObj nm q C N bs bm true sn sub ab col dd k0 k1 k2 k3 k5 newId) ∧ Refs tail bm
  sa : PySem.W.findIn K (.ref C) "__setattr__" = some (some (.builtin "object.__setattr__"))
  tyC : PySem.W.typeIn K (.ref C) = some (.type "type")
  kC : PySem.W.keepIn K (.ref C) = true
  x : XfC K C
  e : ExcC K C
section
variable {X : Cx} {pins : List (Addr × Obj)} {σ : L2.St} {H : Hp} {s : Shared} {a C dx : Addr} {f : Str} {y : V} {u : Value} {fs : List (Str × V)} {Q : Unit → Shared → Prop} {E : Value → Shared → Prop} {A : Around}
theorem xst_new (T : ErrK X.K C) (I : Inv X pins σ H s) (e : H a = some (exo a C none)) (hno : PySem.W.findIn X.K (.ref C) f = some none) (ry : RelV y u)
    (go : ∀ dx s', H dx = none → dx ≠ a → Inv X pins σ (upd (upd H dx (exd dx [(f, y)])) a (exo a C (some dx))) s' → Q () s') : wpAny (model X.prog X.w) A (setAttr (.ref a) f u) Q E s := by
  obtain ⟨B, newId, initId, tail, nm, q, N, bs, bm, sn, sub, ab, col, dd, k0, k1, k2, k3, k5, b, lk, rf⟩ := T.cls
  have cd : PySem.W.clsIn X.K C = some { name := nm, bases := bs, mro := .ref C :: bm, ns := N, qualname := q, hasDict := true, slotNames := sn, subclasses := sub, abstract := ab, collection := col, hasDel := false } := by unfold PySem.W.clsIn; rw [lk] <;> rfl
  obtain ⟨t1, ho⟩ := exo_at I.hok e
  obtain ⟨hp, g, dr, tk, os⟩ := s
  refine PySem.W.set_plain I.kIn (ox := { cls := .ref C, dict := none, data := .fields #[.ref t1, .none, .none, .none, .bool false, .none] }) (od := none) ⟨ho, rfl, rfl, trivial⟩ T.sa ?_
  refine xset_new b I.kIn ho cd (show Refs tail (.ref C :: bm) from rf.cons) rfl hno (fun h' tk' dx k dn dne hx hn => ?_)
  have nod : H dx = none := I.hok.fresh dn
  have ned : ∀ {b : Addr} {o : Obj}, hp.get? b = some o → b ≠ dx := fun {b o} q => Nat.ne_of_lt (Nat.lt_of_lt_of_le (Heap.lt_size q) dn)
  have nea : ∀ {b : Addr}, H b = none → b ≠ a := fun {b} n z => by
    rw [z, e] at n
    cases n
  have U : Un X.fs [] H (upd (upd H dx (exd dx [(f, y)])) a (exo a C (some dx))) hp h' := {
    keep := fun b o q n _ _ => k b o (nea n) q
    slot := fun b o q n _ _ => ⟨o.slots, k b o (nea n) q⟩
    free := fun b o q n _ => by rw [upd_ne (nea n), upd_ne (ned q)]; exact n
    there := fun b o q _ => by
      by_cases hb : b = a
      · exact ⟨_, by rw [hb]; exact hx⟩
      · exact ⟨o, k b o hb q⟩
    tups := fun b xs q => by rw [upd_ne (at_ne e q exo_tup), upd_ne (ne_of_none q nod)]; exact q
    frzs := fun b o v q => by rw [upd_ne (at_ne e q exo_frz), upd_ne (ne_of_none q nod)]; exact q
    tbls := fun b ps q => ⟨#[], by rw [upd_ne (at_ne e q exo_tbl), upd_ne (ne_of_none q nod), q]; simp⟩ }
  refine go dx _ nod dne (I.un (t' := tk') U fun b o q => ?_)
  by_cases hb : b = a
  · subst hb
    rw [upd_same] at q
    cases q
    exact exo_ok hx
  · rw [upd_ne hb] at q
    by_cases hd : b = dx
    · subst hd
      rw [upd_same] at q
      cases q
      exact exd_ok hn (relO_put (fs := []) ry fun g => True.intro)
    · rw [upd_ne hd] at q
      have nb : ∀ {c : Addr}, c = b ∨ H c = some (.own b) → c ≠ a := fun {c} hc => by
        rcases hc with hc | hc
        · rw [hc]
          exact hb
        · exact at_ne e hc exo_own
      exact (I.hok b o q).stay (fun c v hc z => k c v (nb hc) z)
        (fun c hc => by rw [upd_ne (at_ne e hc exo_own), upd_ne (ne_of_none hc nod)]; exact hc) (fun c xs hc => by rw [upd_ne (at_ne e hc exo_tup), upd_ne (ne_of_none hc nod)]; exact hc)
theorem xst_old (T : ErrK X.K C) (I : Inv X pins σ H s) (e : H a = some (exo a C (some dx))) (ed : H dx = some (exd dx fs)) (hl : fs.length ≤ 900) (hno : PySem.W.findIn X.K (.ref C) f = some none) (ry : RelV y u)
    (go : ∀ s', Inv X pins σ (upd H dx (exd dx ((f, y) :: fs))) s' → Q () s') : wpAny (model X.prog X.w) A (setAttr (.ref a) f u) Q E s := by
  obtain ⟨B, newId, initId, tail, nm, q, N, bs, bm, sn, sub, ab, col, dd, k0, k1, k2, k3, k5, b, lk, rf⟩ := T.cls
  have cd : PySem.W.clsIn X.K C = some { name := nm, bases := bs, mro := .ref C :: bm, ns := N, qualname := q, hasDict := true, slotNames := sn, subclasses := sub, abstract := ab, collection := col, hasDel := false } := by unfold PySem.W.clsIn; rw [lk] <;> rfl
  obtain ⟨t1, ho⟩ := exo_at I.hok e
  obtain ⟨mA, hns, rel⟩ := exd_at I.hok ed
  have hw := within_of rel
  obtain ⟨hp, g, dr, tk, os⟩ := s
  obtain ⟨oD, _, _, hoD, _, _⟩ := hns.count hw
  refine PySem.W.set_plain I.kIn (ox := { cls := .ref C, dict := some dx, data := .fields #[.ref t1, .none, .none, .none, .bool false, .none] }) (od := some oD) ⟨ho, rfl, rfl, hoD⟩ T.sa ?_
  refine xset_old b I.kIn ho hns hw (by rw [List.length_map]; omega) cd (show Refs tail (.ref C :: bm) from rf.cons) rfl hno (fun h' tk' k hn => ?_)
  have there : ∃ o, h'.get? dx = some o := by
    obtain ⟨o, _, _, e', _⟩ := hn
    exact ⟨o, e'⟩
  exact go _ (I.write (t' := tk') (x := dx) (e := dx) (o := exd dx ((f, y) :: fs)) (by rw [ed]; exact True.intro) (.inl rfl) k there (exd_ok hn (relO_put ry rel)))
end
/-- self.f = e of an error -/
def tStX (K : PySem.W.Frag) (f : Str) (to te : TE) : TS := fun D σ H => te σ H fun y H1 => to σ H1 fun x H2 => ∃ a C : Addr, x = .ref a ∧ ErrK K C ∧ PySem.W.findIn K (.ref C) f = some none ∧
  ((H2 a = some (exo a C none) ∧ ∀ dx, H2 dx = none → dx ≠ a → D.nx σ (upd (upd H2 dx (exd dx [(f, y)])) a (exo a C (some dx)))) ∨
    ∃ (dx : Addr) (fs : List (Str × V)), H2 a = some (exo a C (some dx)) ∧ H2 dx = some (exd dx fs) ∧ fs.length ≤ 900 ∧ D.nx σ (upd H2 dx (exd dx ((f, y) :: fs))))
/-- an error that is made -/
def tMkX (C : Addr) (sp : Sp) (ta : TA) : TE := fun σ H Q => ta σ H fun vs H1 => vs.length ≤ 1000 ∧ ∀ a, H1 a = none → sp (.ref a :: vs) (upd H1 a (exo a C none)) (fun v H2 => v = .non ∧ Q (.ref a) H2) (fun _ _ _ => False)
/-- the same by keywords: in which order they are bound -/
def tMkXK (C : Addr) (m : Nat) (sp : Sp) (gV : List V → List V → List V) (tk : TA) : TE := fun σ H Q => tk σ H fun zs H1 => zs.length = m ∧ ∀ a, H1 a = none → sp (gV [.ref a] zs) (upd H1 a (exo a C none)) (fun v H2 => v = .non ∧ Q (.ref a) H2) (fun _ _ _ => False)
section
variable {X : Cx} {o e : Expr} {es : List Expr} {to te : TE} {ta tk : TA} {f x : Str} {p p' pos : Pos} {CX : CXT} {k : Nat} {C fI : Addr} {fd : FuncData} {ps ks : List Str} {sp : Sp} {kws : List Keyword} {g : List Value → List Value → List Value} {gV : List V → List V → List V}
theorem ps_fldX (ho : PE X o to) (he : PE X e te) (hs : swapsWith e (some (.Attribute o f p')) pos.line X.env = pure false := by rfl) : PS X (.Assign [.Attribute o f p'] e pos) (tStX X.K f to te) := by
  refine ⟨fun pins s σ H D I h => ?_⟩
  refine plainObj_wpAny_Assign_Attribute (thn (he.run pins s σ H _ I h) fun v s1 ⟨y, H1, I1, r1, q1⟩ => thn (ho.run pins s1 σ H1 _ I1 q1) fun u s2 ⟨x, H2, I2, r2, a, C, ex, T, hno, q⟩ => ?_) hs
  subst ex
  obtain rfl : u = Value.ref a := r2
  rcases q with ⟨ea, q⟩ | ⟨dx, fs, ea, ed, hl, q⟩
  · exact xst_new T I2 ea hno r1 fun dx s' n ne J => ⟨σ, _, J, q dx n ne⟩
  · exact xst_old T I2 ea ed hl hno r1 fun s' J => ⟨σ, _, J, q⟩
/-- the making, by values -/
theorem run_mkX {pins : List (Addr × Obj)} {σ : L2.St} {H1 : Hp} {s : Shared} {Q : VK} {us ws : List Value} {vs zs : List V} (T : ErrK X.K C) (iC : PySem.W.findIn X.K (.ref C) "__init__" = some (some (.ref fI))) (tI : PySem.W.typeIn X.K (.ref fI) = some (.type "function"))
    (F1 : FnOk X.prog X.w X.K X.mg X.base CX k fI fd ps sp) (hr : Room (k + 1) X.A) (hb : KBn X.K fd ps (vs.length + 1) ks g gV) (hx : Passes CX X (fun _ _ _ => False)) (I1 : Inv X pins σ H1 s) (r1 : Vals vs us) (rz : Vals zs ws) (lim : vs.length ≤ 1000) (lz : zs.length = ks.length)
    (go : ∀ a, H1 a = none → sp (gV (.ref a :: vs) zs) (upd H1 a (exo a C none)) (fun v H2 => v = .non ∧ Q (.ref a) H2) (fun _ _ _ => False)) : wpAny (model X.prog X.w) X.A (call (.ref C) us (ks.zip ws)) (EP X pins σ Q) X.xe s := by
  obtain ⟨B, newId, initId, tail, nm, q, N, bs, bm, sn, sub, ab, col, dd, k0, k1, k2, k3, k5, b, lk, rf⟩ := T.cls
  obtain ⟨hp, gs, dr, tk, os⟩ := s
  have up1 : hp.objs.size ≤ hp.objs.size + 1 := Nat.le_succ _
  have new : H1 (hp.objs.size + 1) = none := I1.hok.fresh up1
  have hq := go (hp.objs.size + 1) new
  have keep : ∀ b o, hp.get? b = some o → ((hp.push (PySem.W.kdv_tup us)).push (excO C hp.objs.size)).get? b = some o := fun b o e => Heap.get?_push_of_some _ (Heap.get?_push_of_some _ e)
  have here : ((hp.push (PySem.W.kdv_tup us)).push (excO C hp.objs.size)).get? (hp.objs.size + 1) = some (excO C hp.objs.size) := by heap_get
  have I2 : Inv X pins σ (upd H1 (hp.objs.size + 1) (exo (hp.objs.size + 1) C none)) ⟨(hp.push (PySem.W.kdv_tup us)).push (excO C hp.objs.size), gs, dr, tk, os⟩ := I1.laid (t' := tk) keep up1 (exo_ok here)
  have r2 : Vals (V.ref (hp.objs.size + 1) :: vs) (Value.ref (hp.objs.size + 1) :: us) := .cons rfl r1
  have n1 : (Value.ref (hp.objs.size + 1) :: us).length = vs.length + 1 := by rw [List.length_cons, ← Paired.length r1]
  have n2 : ws.length = ks.length := (Paired.length rz).symm.trans lz
  refine wpAny_call (PySem.MyX.xcall b.F (fun Y => refs_contains Y rf) (I1.kIn _ _ lk) (PySem.W.looks_findIn I1.kIn iC) (fun self => PySem.W.bind_fn I1.kIn self tI) (by rw [← Paired.length r1, sizeLine_eq]; omega)
    (codeAny_mono (F1.run _ X.stack _ _ ⟨Value.ref (hp.objs.size + 1) :: us, ks.zip ws⟩ (g (Value.ref (hp.objs.size + 1) :: us) ws) _ _ (fun _ _ _ => False) (hr.make C us (ks.zip ws)) (I2.env0.make C us (ks.zip ws)) (hb.to _ (Value.ref (hp.objs.size + 1) :: us) ws I2.kIn n1 n2) (hb.rel r2 rz) hq) fun r s' hq' => ?_))
  cases r with
  | error er => exact hx pins σ _ _ er s' I2 hq'
  | ok fl =>
    cases fl with
    | ret u =>
      obtain ⟨v, H', I3, rv, ev, q3⟩ := I2.after hq'
      subst ev
      exact ⟨rv, ⟨V.ref (hp.objs.size + 1), H', I3, rfl, q3⟩⟩
    | next => exact False.elim hq'
    | brk => exact False.elim hq'
    | cont => exact False.elim hq'
/-- by place alone: no keywords -/
theorem kbn_pos {K : PySem.W.Frag} {n : Nat} (hb : Binds K fd ps []) (hl : ps.length = n) : KBn K fd ps n [] (fun us _ => us) (fun vs _ => vs) := by
  refine ⟨fun s us ws X l1 l2 => ?_, fun r _ => r⟩
  obtain rfl : ws = [] := List.eq_nil_of_length_eq_zero l2
  have z := hb s us X (by rw [List.append_nil, l1, hl])
  rw [List.append_nil] at z
  exact z
/-- C(e, ..) -/
theorem pe_mkX (T : ErrK X.K C) (iC : PySem.W.findIn X.K (.ref C) "__init__" = some (some (.ref fI))) (tI : PySem.W.typeIn X.K (.ref fI) = some (.type "function"))
    (F1 : FnOk X.prog X.w X.K X.mg X.base CX k fI fd ps sp) (hr : Room (k + 1) X.A) (hb : Binds X.K fd ps []) (hx : Passes CX X (fun _ _ _ => False)) (hg : Gl X x) (hm : X.mg x = some (.ref C)) (ha : PA X (e :: es) ta)
    (hdb : (x == ("__debug__" : Str)) = false := by decide) (he : starEach (e :: es) X.env = (false, eval e X.env) :: starEach es X.env := by rfl) (hpl : (backTo pos (starEach es X.env)).any (·.1) = false := by rfl) :
    PE X (.Call (.Name x p) (e :: es) [] pos) (tMkX C sp ta) := by
  refine ⟨fun pins s σ H Q I h => ?_⟩
  refine wpAny_Call_Name_kw (ld_glob I hg hm ?_ hdb)
  refine PySem.W.callWith_K (h₀ := X.base) I.ok.mod.kin T.kC (thn (ha.run pos pins s σ H _ I h) fun us s1 ⟨vs, H1, I1, r1, lim, q1⟩ => ⟨I1.kIn, ?_⟩) he hpl
  have len : ps.length = vs.length + 1 := by
    have z := F1.len _ _ _ _ (q1 (s1.heap.objs.size) (I1.hok.fresh (Nat.le_refl _)))
    rw [← z]
    rfl
  exact run_mkX (ks := []) (ws := []) (zs := []) T iC tI F1 hr (kbn_pos hb len) hx I1 r1 .nil lim rfl q1
/-- C() -/
theorem pe_mkX0 (T : ErrK X.K C) (iC : PySem.W.findIn X.K (.ref C) "__init__" = some (some (.ref fI))) (tI : PySem.W.typeIn X.K (.ref fI) = some (.type "function"))
    (F1 : FnOk X.prog X.w X.K X.mg X.base CX k fI fd ps sp) (hr : Room (k + 1) X.A) (hb : Binds X.K fd ps []) (hl : ps.length = 1) (hx : Passes CX X (fun _ _ _ => False)) (hg : Gl X x) (hm : X.mg x = some (.ref C))
    (hdb : (x == ("__debug__" : Str)) = false := by decide) (hpl : ((backTo pos (starEach [] X.env)).any (·.1) || (backToKw pos (keywordEach [] X.env)).any (·.1.isNone)) = false := by rfl) :
    PE X (.Call (.Name x p) [] [] pos) (tMkX C sp tNil) := by
  refine ⟨fun pins s σ H Q I h => ?_⟩
  obtain ⟨_, q1⟩ := h
  refine wpAny_Call_Name_kw (ld_glob I hg hm ?_ hdb)
  refine PySem.W.callWith_KW0 (h₀ := X.base) I.ok.mod.kin T.kC (by rfl) ?_ hpl
  refine wpAny_evalAll_nil ⟨I.kIn, ?_⟩
  exact run_mkX (us := []) (vs := []) (ks := []) (ws := []) (zs := []) T iC tI F1 hr (kbn_pos hb hl) hx (I.tok _) .nil .nil (Nat.zero_le _) rfl q1
/-- C(k = v, ..) -/
theorem pe_mkXK (T : ErrK X.K C) (iC : PySem.W.findIn X.K (.ref C) "__init__" = some (some (.ref fI))) (tI : PySem.W.typeIn X.K (.ref fI) = some (.type "function"))
    (F1 : FnOk X.prog X.w X.K X.mg X.base CX k fI fd ps sp) (hr : Room (k + 1) X.A) (hb : KBn X.K fd ps 1 ks g gV) (hx : Passes CX X (fun _ _ _ => False)) (hg : Gl X x) (hm : X.mg x = some (.ref C)) (hkw : PK X kws tk)
    (hall : (backToKw pos (keywordEach kws X.env)).all (·.1.isSome) = true := by rfl) (hks : (backToKw pos (keywordEach kws X.env)).filterMap (·.1) = ks := by rfl) (hdb : (x == ("__debug__" : Str)) = false := by decide)
    (hpl : ((backTo pos (starEach [] X.env)).any (·.1) || (backToKw pos (keywordEach kws X.env)).any (·.1.isNone)) = false := by rfl) :
    PE X (.Call (.Name x p) [] kws pos) (tMkXK C ks.length sp gV tk) := by
  refine ⟨fun pins s σ H Q I h => ?_⟩
  refine wpAny_Call_Name_kw (ld_glob I hg hm ?_ hdb)
  refine PySem.W.callWith_KW0 (h₀ := X.base) I.ok.mod.kin T.kC hall ?_ hpl
  refine thn (hkw.run pos pins s σ H _ I h) fun ws s2 ⟨zs, H2, I2, rz, lz, q2⟩ => ⟨I2.kIn, ?_⟩
  rw [hks]
  exact run_mkX (us := []) (vs := []) T iC tI F1 hr hb hx I2 .nil rz (Nat.zero_le _) lz q2
end
end My

set_option Elab.async false
set_option linter.all false
set_option maxRecDepth 100000
set_option maxHeartbeats 4000000
namespace My
open PySem PySem.Spec PyProof.Rows L2
/-! ### isinstance of an error that has its own dict -/
section
open PySem.W PySem.Calls
variable {prog : Program} {w : World} {A : Around} {E : Value → Shared → Prop} {s : Shared} {K : Frag} {x D : Addr} {ox : Obj} {od : Obj}
theorem exc_class (T : L2.ExcC K D) {Q : Option Value → Shared → Prop} (X : K.In s.heap) (J : InstAt s.heap x ox D (some od)) (h : Q (some (.ref D)) { s with toks := s.toks + 1 }) :
    wpAny (model prog w) A (getAttr? (.ref x) "__class__") Q E s := by
  have found : findObj K D (some od) "__class__" = some (.bind (.builtin "getset_descriptor.__get__") (.builtin "object.__class__")) :=
    findObj_data (by obtain ⟨c, e, _⟩ := any_some T.hd; rw [e]; rfl) T.ha T.hn T.ht
  obtain ⟨hp, g, dr, tk, os⟩ := s
  have a0 := J.type (M := model prog w)
  have a1 := looks_findIn (M := model prog w) X T.hg
  have a2 := looks_findIn (M := model prog w) X T.hk
  have a3 := looks_find (M := model prog w) X J found
  have a4 : Looks (model prog w) hp (isInstance (.ref x) (.type "BaseException")) true := a0.andThen (looks_subIn X T.hs)
  have n0 : (false && onTheHeap (Value.builtin "BaseException.__getattribute__")) = false := rfl
  have n2 : (Value.builtin "BaseException.__getattribute__" == Value.builtin "object.__getattribute__") = false := by decide +kernel
  have n1 : (onTheHeap (Value.ref D) && Value.builtin "BaseException.__getattribute__" == Value.builtin "object.__getattribute__") = false := by rw [n2]; rfl
  unfold getAttr? getAttrBy? getAttrBy
  refine wpAny_bind (wpAny_mkText (wpAny_bind (wpAny_attempt (wpAny_holding (wpAny_bind (a0.at (wpAny_bind (a1.at ?_))))))))
  show wpAny _ _ (if (onTheHeap (Value.ref D) && Value.builtin "BaseException.__getattribute__" == Value.builtin "object.__getattribute__") = true then _ else _) _ _ _
  rw [n1, if_neg Bool.false_ne_true]
  unfold getAttrByItsOwn hookBefore
  refine wpAny_bind ?_
  rw [if_pos (show onTheHeap (Value.ref D) = true from rfl)]
  refine a2.at (wpAny_bind (wpAny_attempt (wpAny_holding ?_)))
  unfold callGetattribute
  rw [n0, if_neg Bool.false_ne_true]
  unfold boundAndCalled
  rw [PySem.F.excAttr_ValueError.ga.bind (.ref x)]
  refine wpAny_bind (wpAny_pure ?_)
  show wpAny _ _ (call (.builtin "BaseException.__getattribute__") [.ref x, .str "__class__" tk]) _ _ _
  refine wpAny_call (codeAny_call_builtin PySem.F.excAttr_ValueError.ga.plain PySem.F.entry_bexc_ga ?_)
  refine @check_slot (model prog w) _ _ ⟨hp, g, dr, tk + 1, os⟩ "BaseException.__getattribute__" "BaseException" "__getattribute__" (.ref x) [.str "__class__" tk] [] _ (by decide +kernel) (by decide +kernel) a4 (PySem.F.args_bexc_ga (.ref x) (.str "__class__" tk)) ?_
  unfold Builtin.«object.__getattribute__»
  refine wpAny_bind (wpAny_of_eq (a := ((Value.ref x : Value), [Value.str "__class__" tk])) (by first | rfl | (simp only [slotArgs]; rfl)) ?_)
  refine wpAny_bind (wpAny_pure (wpAny_bind (a0.at (wpAny_bind (a3.at ?_)))))
  show wpAny _ _ (holding [Value.builtin "object.__class__"] (call (.builtin "getset_descriptor.__get__") [.builtin "object.__class__", .ref x, .ref D]) >>= ret) _ _ _
  refine wpAny_bind (wpAny_holding (wpAny_call (class_get (s := ⟨hp, g, dr, tk + 1, os⟩) (ox := ox) (od := some od) X J T.hm ?_)))
  refine wpAny_pure ?_
  show wpAny _ _ (handedOut (.ref D)) _ _ _
  rw [handedOut_of (v := .ref D) rfl]
  first
    | exact wpAny_pure (wpAny_pure h)
    | exact wpAny_pure h
    | exact wpAny_pure (wpAny_bind (wpAny_pure (wpAny_pure h)))
theorem exc_kit (T : L2.ExcC K D) : KitX K (.ref x) (.ref D) (fun h => InstAt h x ox D (some od)) where
  ty := fun _ _ _ J => J.type
  it := fun _ _ X _ => by
    obtain ⟨cd, hc, _⟩ := any_some T.hd
    unfold clsIn at hc
    split at hc
    · rename_i c' d' cd' sl' ho
      intro A' Q' E' s' k q
      unfold isType loadHead
      exact wpAny_bind (wpAny_loadPart (k _ _ (X _ _ ho)) (wpAny_pure q))
    · cases hc
  ne := fun h tp dd its n sl X htp => by
    obtain ⟨cd, hc, _⟩ := any_some T.hd
    refine Bool.eq_false_iff.mpr fun q => ?_
    obtain rfl : D = tp := Value.ref.inj (beq_iff_eq.mp q)
    unfold clsIn at hc
    split at hc
    · rename_i c' d' cd' sl' ho
      have z := (X _ _ ho).symm.trans htp
      cases z
    · cases hc
  ca := fun X J k => exc_class T X J k
end
end My

set_option Elab.async false
set_option linter.all false
set_option maxRecDepth 100000
set_option maxHeartbeats 4000000
/-! errors as values: read, asked -/
namespace My
open PySem PySem.Spec PyProof.Rows L2
/-- an error at hand: tracked, or held by a pin -/
inductive EV (pn : List (Addr × Obj)) (H : Hp) (a C : Addr) (fs : List (Str × V)) : Prop where
  | cold {d : Addr} (e : H a = some (exo a C (some d))) (f : H d = some (exd d fs)) : EV pn H a C fs
  | pin {d : Addr} {oe : Obj} (m : (a, oe) ∈ pn) (z : Zc (.ref C) (some d) oe) (v : ∃ vs, oe.data = .fields vs) (f : H d = some (.xd fs)) : EV pn H a C fs
section
variable {X : Cx} {pins : List (Addr × Obj)} {σ : L2.St} {H : Hp} {s : Shared} {a C : Addr} {fs : List (Str × V)}
theorem EV.inst (h : EV X.pn H a C fs) (I : Inv X pins σ H s) : ∃ (oe od : Obj) (mA : Str → Option Value), PySem.W.InstAt s.heap a oe C (some od) ∧ (∀ name, PySem.W.lookIn name od = some (mA name)) ∧ ∀ f, RelO (fs.lookup f) (mA f) := by
  cases h with
  | cold e f =>
    obtain ⟨t1, ho⟩ := exo_at I.hok e
    obtain ⟨mA, hns, rel⟩ := exd_at I.hok f
    obtain ⟨od, hd, hl⟩ := lookIn_ns hns
    exact ⟨_, od, mA, ⟨ho, rfl, rfl, hd⟩, hl, rel⟩
  | pin m z v f =>
    obtain ⟨ha, _⟩ := I.pin _ (List.mem_append_left _ m)
    obtain ⟨vs, hv⟩ := v
    have hx : ObjOk X.prog X.w H s.heap _ (.xd fs) := I.hok _ _ f
    obtain ⟨mA, hns, rel⟩ := hx
    obtain ⟨od, hd, hl⟩ := lookIn_ns hns
    exact ⟨_, od, mA, ⟨ha, z.1, by unfold PySem.W.notCls; rw [hv] <;> rfl, by rw [z.2]; exact hd⟩, hl, rel⟩
end
/-- e.f -/
def tXv (X : Cx) (f : Str) (te : TE) : TE := fun σ H Q => te σ H fun x H1 => ∃ (a C : Addr) (fs : List (Str × V)) (v : V), x = .ref a ∧ EV X.pn H1 a C fs ∧ ErrK X.K C ∧ PySem.W.findIn X.K (.ref C) f = some none ∧ fs.lookup f = some v ∧ Q v H1
theorem pe_exf {X : Cx} {e : Expr} {te : TE} {pos : Pos} {n : Str} (he : PE X e te) (hb : attributeBase e n X.env (eval e X.env) = eval e X.env := by rfl) : PE X (.Attribute e n pos) (tXv X n te) := by
  refine ⟨fun pins s σ H Q I h => ?_⟩
  refine attr_of hb (thn (he.run pins s σ H _ I h) fun u s1 hh => ?_)
  obtain ⟨x, H1, I1, rx, a, C, fs, v, ex, ev, T, hno, l, q⟩ := hh
  subst ex
  obtain rfl : u = Value.ref a := rx
  obtain ⟨oe, od, mA, J, hl, rel⟩ := ev.inst I1
  obtain ⟨u, hu, ru⟩ := RelO.some_of (v := v) (o := mA n) (by rw [← l]; exact rel n)
  exact HandSPX.exc_get I1.kIn J T.x.ga T.x.gg T.x.exC (PySem.W.findObj_own T.x.hdC hno rfl (by rw [hl, hu])) (handed_of ru) ⟨v, H1, I1.tok _, ru, q⟩
/-- isinstance(e, C) -/
def rIsX (X : Cx) : List V → Hp → VK → Prop := fun xs H Q => ∃ (a C : Addr) (fs : List (Str × V)) (c : V) (cv : Value) (b : Bool), xs = [.ref a, c] ∧ EV X.pn H a C fs ∧ ErrK X.K C ∧ ClsV c cv ∧ PySem.W.kitOne X.K (.ref C) cv = some b ∧ Q (.bl b) H
theorem call_isX {X : Cx} : CallR X (.builtin "isinstance") (rIsX X) := by
  intro pins s σ H xs us Q I r h
  obtain ⟨a, C, fs, c, cv, b, rfl, ev, T, kc, e, q⟩ := h
  obtain ⟨u1, u2, rfl, r1, r2⟩ := vals2 r
  have e2 := kc.eq r2
  subst e2
  cases (show u1 = Value.ref a from r1)
  obtain ⟨oe, od, mA, J, _, _⟩ := ev.inst I
  exact PySem.W.kia_one (exc_kit T.e) I.kIn J e (fun z => nomatch z) fun tk => ⟨.bl b, H, I.tok tk, rfl, q⟩
/-- isinstance(e, (C, D, ..)) -/
def rIsXT (X : Cx) : List V → Hp → VK → Prop := fun xs H Q => ∃ (a C tp : Addr) (fs : List (Str × V)) (cs : List V) (ws : List Value) (b : Bool), xs = [.ref a, .ref tp] ∧ EV X.pn H a C fs ∧ ErrK X.K C ∧ H tp = some (.tup cs) ∧ Paired ClsV cs ws ∧ PySem.W.kitAny X.K (.ref C) ws = some b ∧ Q (.bl b) H
theorem call_isXT {X : Cx} : CallR X (.builtin "isinstance") (rIsXT X) := by
  intro pins s σ H xs us Q I r h
  obtain ⟨a, C, tp, fs, cs, ws, b, rfl, ev, T, hT, kc, e, q⟩ := h
  obtain ⟨u1, u2, rfl, r1, r2⟩ := vals2 r
  cases (show u1 = Value.ref a from r1)
  cases (show u2 = Value.ref tp from r2)
  obtain ⟨oe, od, mA, J, _, _⟩ := ev.inst I
  obtain ⟨_, its, rv, o, h1, h2, n, h3⟩ := (show ObjOk X.prog X.w H s.heap tp (.tup cs) from I.hok tp _ hT)
  have e3 := ClsV.all kc rv
  subst e3
  obtain ⟨oc, od', dt, sl⟩ := o
  simp only at h2 h3
  subst h2 h3
  exact PySem.W.kia_tup (exc_kit T.e) I.kIn J h1 e (fun z => nomatch z) fun tk => ⟨.bl b, H, I.tok tk, rfl, q⟩
end My

set_option Elab.async false
set_option linter.all false
set_option maxRecDepth 100000
set_option maxHeartbeats 4000000
/-! a try with several `except C as e` -/
namespace L2N
open PySem PySem.Spec PyProof.Rows L2
/-- what the clauses wish, each with the error in slot i -/
def wManyA (K : PySem.W.Frag) (i : Nat) (Wout : WX) (D : Ends) : List (Value × (Addr → Value → Option Addr → TS)) → WX
  | [] => Wout
  | (c, ts) :: r => fun cls d σ H => ∃ b, PySem.W.exmOne K cls c = some b ∧
    (b = true → ∀ a, H a = none → ts a cls d { nx := fun σ' H' => D.nx (σ'.set i none) H', rt := D.rt, bk := fun σ' H' => D.bk (σ'.set i none) H', ct := fun σ' H' => D.ct (σ'.set i none) H' } (σ.set i (some (.ref a))) H) ∧
    (b = false → wManyA K i Wout D r cls d σ H)
inductive HdsA (X : Cx) (n : Str) : List ExceptHandler → List (Value × (Addr → Value → Option Addr → TS)) → Prop
  | nil : HdsA X n [] []
  | cons {x : Str} {c : Value} {ts : Addr → Value → Option Addr → TS} {st0 : Stmt} {rest : List Stmt} {np hp : Pos} {hs : List ExceptHandler} {l : List (Value × (Addr → Value → Option Addr → TS))} (nm : Names X x c)
      (su : ∀ (a : Addr) (oe : Obj) (cls : Value) (d : Option Addr) (pn : List (Addr × Obj)), Zn cls d oe → (∃ vs, oe.data = .fields vs) → PSs (X.suite a ((a, oe) :: pn)) (st0 :: rest) (ts a cls d)) (r : HdsA X n hs l) :
      HdsA X n (.ExceptHandler (some (.Name x np)) (some n) (st0 :: rest) hp :: hs) ((c, ts) :: l)
section
variable {X : Cx} {n : Str} {i : Nat} {body : List Stmt} {h1 : ExceptHandler} {hs : List ExceptHandler} {l : List (Value × (Addr → Value → Option Addr → TS))} {pos : Pos} {tb : WX → TS} {Wout : WX}
theorem ps_try_manyA (stk : X.stack = X.env :: X.outer) (frm : X.env.frame = some X.env.locals) (nd : X.N.Nodup) (hi : X.N[i]? = some n) (loc : X.env.kindOf n = some .local) (tk : Takes X Wout)
    (bd : ∀ (W : WX) (pn : List (Addr × Obj)) (xe : Value → Shared → Prop), Takes (X.tr pn xe) W → PassesOwn (model X.prog X.w) X.A X.env xe → PSs (X.tr pn xe) body (tb W))
    (hh : HdsA X n (h1 :: hs) l) : PS X (.Try body (h1 :: hs) [] [] pos) (fun D σ H => tb (wManyA X.K i Wout D l) D σ H) := by
  refine ⟨fun pins s σ H D I h => ?_⟩
  have ok := I.ok
  have fr : X.A.frames = some (X.env :: X.outer) := by rw [ok.frames, stk]
  have lc : Loc X.env.scope n := .inl loc
  refine wpAny_Try_except ?_
  refine wpAny_mono ((bd (wManyA X.K i Wout D l) (X.pn ++ pins) (fun e s₁ => wpAny (model X.prog X.w) X.A (noteFrame e X.env) (fun _ s₂ => wpAny (model X.prog X.w) X.A (setFlight e none) (fun _ s₃ =>
    wpAny (model X.prog X.w) X.A (handleBy e X.env (h1 :: hs)) (SP X pins D) X.xe s₃) X.xe s₂) X.xe s₁) (fun u s' xx => ?_) PassesOwn.looking).run [] s σ H D (I.toTry _) h) (fun f s1 out => ?_) (fun e s1 he => he)
  · obtain ⟨a, B, sI, pins', σ', H', cls, d, rfl, J', nb, up, sky, na, os, ag, w⟩ := xx
    have J : Inv X pins σ' H' sI := J'.ofTry ok
    have sky1 : Sky B (X.env :: X.outer) a (Zn cls d) X.env.locals s'.heap := by rw [← stk]; exact sky
    show wpAny (model X.prog X.w) X.A (noteFrame (.ref a) X.env) _ _ _
    refine Sky.land Zn.steady fr frm sky1 fun h3 fl3 up3 => ?_
    have J3 : Inv X pins σ' H' { s' with heap := h3 } := J.landed nb fl3.1 (up.trans up3) os ag
    obtain ⟨oe3, vs3, he3, hz3, hd3⟩ := fl3.there
    have out_ : ∀ {h : Heap} {o : Obj} {vs : Array Value}, h.FunFrames B (X.env :: X.outer) → h.get? a = some o → o.data = .fields vs → a ∉ frs (X.env :: X.outer) := fun {h o vs} ff e dd hm => by
      obtain ⟨_, o', e', hnf⟩ := ff.mem hm
      rw [e] at e'; cases e'
      exact hnf _ dd
    have nfr := out_ fl3.2.2.1 he3 hd3
    have nL : a ≠ X.env.locals := fun z => nfr (List.mem_filterMap.mpr ⟨X.env, List.mem_cons_self, by rw [frm, z]⟩)
    have nF : a ∉ X.fs := fun hm => by
      obtain ⟨e, he, q⟩ := List.mem_filterMap.mp hm
      exact nfr (List.mem_filterMap.mpr ⟨e, List.mem_cons_of_mem _ he, q⟩)
    have S3 := J3.suite he3 hd3 na nL nF
    have each : ∀ {hs' : List ExceptHandler} {l' : List (Value × (Addr → Value → Option Addr → TS))}, HdsA X n hs' l' → wManyA X.K i Wout D l' cls d σ' H' →
        wpAny (model X.prog X.w) X.A (handleBy (.ref a) X.env hs') (SP X pins D) X.xe { s' with heap := h3 } := by
      intro hs' l' hk
      induction hk with
      | nil =>
        intro w
        refine wpAny_handleBy_nil ?_
        obtain ⟨k1, k2, k3, oe, vs, T, oT, ts', he, hz, hd, h1, hr⟩ := id fl3
        unfold PySem.passOn
        refine wpAny_bind (wpAny_field he hd h1 ?_)
        rw [if_neg (show ¬ ((Value.ref T == Value.none) = true) from by simp)]
        have fin : wpAny (model X.prog X.w) X.A (setFlight (.ref a) X.env.frame) (fun _ s4 => wpAny (model X.prog X.w) X.A (throw (.ref a) : Sem Flow) (SP X pins D) X.xe s4) X.xe { s' with heap := h3 } := by
          rw [frm]
          refine HandSPX.setFlight_upZ fl3 fun h4 hh4 up4 => wpAny_throw (tk _ _ ?_)
          exact ⟨a, B, sI, pins, σ', H', cls, d, rfl, J, nb, (up.trans up3).trans up4, .inr (.inr (by rw [stk]; exact hh4)), na, os, ag, w⟩
        first
          | exact wpAny_bind (wpAny_pure (wpAny_bind fin))
          | exact wpAny_bind fin
      | @cons x c ts st0 rest np hp' hs2 l2 nm su r ih =>
        intro w
        obtain ⟨b, hb1, hyes, hno⟩ := w
        refine wpAny_handleBy_cons (codeAny_handlers_test ?_) (by intro q; cases q)
        have LT : PySem.W.Looks (model X.prog X.w) h3 (typeOf (.ref a)) cls := fun A Q E s k q => wpAny_typeOf_ref (k _ _ he3) (by rw [hz3.1]; exact q)
        have LM := PySem.W.exm_one (M := model X.prog X.w) (J3.kIn) LT hb1
        have test : ∀ {Q : Value → Shared → Prop} {E : Value → Shared → Prop}, Q c { s' with heap := h3 } → wpAny (model X.prog X.w) (X.A.mark (some (.ref a))) (eval (.Name x np) X.env) Q E { s' with heap := h3 } := fun {Q E} q => by
          obtain ⟨hg, hdbg, hm | ⟨hm, hv, hnn⟩⟩ := nm
          · exact ld_glob (X := X.suite a ((a, oe3) :: (X.pn ++ pins))) S3 hg hm q hdbg
          · exact ld_blt (X := X.suite a ((a, oe3) :: (X.pn ++ pins))) S3 hg hm hv q hnn hdbg
        refine test (LM.here ?_)
        cases b with
        | true =>
          refine codeAny_handlers_suite_as ?_
          refine HandSPX.lands_againZ fl3 fun h4 fl4 up4 => ?_
          have J4 : Inv X pins σ' H' { s' with heap := h4 } := J.landed nb fl4.1 ((up.trans up3).trans up4) os ag
          obtain ⟨oe4, vs4, he4, hz4, hd4⟩ := fl4.there
          have S4 := J4.suite he4 hd4 na nL nF
          refine store_ok (X := X.suite a ((a, oe4) :: (X.pn ++ pins))) (v := .ref a) S4 nd hi lc rfl (fun s5 S5 => ?_) (.inr loc)
          refine wpAny_mono ((su a oe4 cls d (X.pn ++ pins) hz4 ⟨_, hd4⟩).run [] s5 _ H' _ S5 (hyes rfl a na)) (fun f s6 out => ?_) (fun _ _ z => False.elim z)
          have gone : ∀ {σ6 : St} {H6 : Hp} {Q : Shared → Prop}, Inv (X.suite a ((a, oe4) :: (X.pn ++ pins))) [] σ6 H6 s6 → (∀ s7, Inv X pins (σ6.set i none) H6 s7 → Q s7) →
              wpAny (model X.prog X.w) X.A (do bindName X.env n .none; unbindBehindTheSuite X.env n hp') (fun _ s7 => Q s7) X.xe s6 := fun {σ6 H6 Q} S6 hq => gone_ok (S6.unsuite ok) nd hi loc hq
          cases f with
          | next =>
            obtain ⟨σ6, H6, S6, q6⟩ := out
            exact gone S6 fun s7 J7 => ⟨_, _, J7, q6⟩
          | brk =>
            obtain ⟨σ6, H6, S6, q6⟩ := out
            exact gone S6 fun s7 J7 => ⟨_, _, J7, q6⟩
          | cont =>
            obtain ⟨σ6, H6, S6, q6⟩ := out
            exact gone S6 fun s7 J7 => ⟨_, _, J7, q6⟩
          | ret u =>
            obtain ⟨v6, σ6, H6, S6, r6, q6⟩ := out
            exact gone S6 fun s7 J7 => ⟨_, _, _, J7, r6, q6⟩
        | false =>
          show wpAny _ X.A (handleBy (.ref a) X.env hs2) _ _ _
          exact ih (hno rfl)
    exact each hh w
  · cases f with
    | next =>
      obtain ⟨σ', H', J', q⟩ := out
      exact wpAny_execs_nil ⟨σ', H', J'.ofTry ok, q⟩
    | brk =>
      obtain ⟨σ', H', J', q⟩ := out
      exact ⟨σ', H', J'.ofTry ok, q⟩
    | cont =>
      obtain ⟨σ', H', J', q⟩ := out
      exact ⟨σ', H', J'.ofTry ok, q⟩
    | ret u =>
      obtain ⟨v, σ', H', J', r, q⟩ := out
      exact ⟨v, σ', H', J'.ofTry ok, r, q⟩
end
end L2N

set_option Elab.async false
set_option linter.all false
set_option maxRecDepth 100000
set_option maxHeartbeats 4000000
/-! raise C(..); a def called in a suite with the caught error -/
namespace My
open PySem PySem.Spec PyProof.Rows L2
open PySem.HandSPX (excO)
section
variable {X : Cx} {CX : CXT} {x : Str} {e : Expr} {es : List Expr} {ta : TA} {p pos : Pos} {C fI : Addr} {k : Nat} {fd : FuncData} {ps : List Str} {sp : Sp}
theorem run_raX {pins : List (Addr × Obj)} {σ : L2.St} {H1 : Hp} {s : Shared} {Q : XK} {us : List Value} {vs : List V} (T : ErrK X.K C) (iC : PySem.W.findIn X.K (.ref C) "__init__" = some (some (.ref fI))) (tI : PySem.W.typeIn X.K (.ref fI) = some (.type "function"))
    (F1 : FnOk X.prog X.w X.K X.mg X.base CX k fI fd ps sp) (hr : Room (k + 1) X.A) (hb : Binds X.K fd ps []) (hx : Passes CX X (fun _ _ _ => False)) (I1 : Inv X pins σ H1 s) (r1 : Vals vs us) (lim : vs.length ≤ 1000)
    (go : ∀ a, H1 a = none → sp (.ref a :: vs) (upd H1 a (exo a C none)) (fun v H2 => v = .non ∧ ∃ (d : Addr) (fs : List (Str × V)), H2 a = some (exo a C (some d)) ∧ H2 d = some (exd d fs) ∧ H1 d = none ∧ Q (.ref C) (some d) (upd (del H2 a) d (.xd fs))) (fun _ _ _ => False)) :
    wpAny (model X.prog X.w) X.A (call (.ref C) us []) (L2N.MkP X pins σ Q) X.xe s := by
  obtain ⟨B, newId, initId, tail, nm, q, N, bs, bm, sn, sub, ab, col, dd, k0, k1, k2, k3, k5, b, lk, rf⟩ := T.cls
  obtain ⟨hp, gs, dr, tk, os⟩ := s
  have up1 : hp.objs.size ≤ hp.objs.size + 1 := Nat.le_succ _
  have new : H1 (hp.objs.size + 1) = none := I1.hok.fresh up1
  have hq := go (hp.objs.size + 1) new
  have keep : ∀ b o, hp.get? b = some o → ((hp.push (PySem.W.kdv_tup us)).push (excO C hp.objs.size)).get? b = some o := fun b o e => Heap.get?_push_of_some _ (Heap.get?_push_of_some _ e)
  have here : ((hp.push (PySem.W.kdv_tup us)).push (excO C hp.objs.size)).get? (hp.objs.size + 1) = some (excO C hp.objs.size) := by heap_get
  have I2 : Inv X pins σ (upd H1 (hp.objs.size + 1) (exo (hp.objs.size + 1) C none)) ⟨(hp.push (PySem.W.kdv_tup us)).push (excO C hp.objs.size), gs, dr, tk, os⟩ := I1.laid (t' := tk) keep up1 (exo_ok here)
  have r2 : Vals (V.ref (hp.objs.size + 1) :: vs) (Value.ref (hp.objs.size + 1) :: us) := .cons rfl r1
  have len : (Value.ref (hp.objs.size + 1) :: us ++ []).length = ps.length := by
    have e := r2.length
    rw [F1.len _ _ _ _ hq] at e
    rw [List.append_nil]
    exact e.symm
  have b2 := hb _ (Value.ref (hp.objs.size + 1) :: us) I2.kIn len
  rw [List.append_nil] at b2
  refine wpAny_call (PySem.MyX.xcall b.F (fun Y => refs_contains Y rf) (I1.kIn _ _ lk) (PySem.W.looks_findIn I1.kIn iC) (fun self => PySem.W.bind_fn I1.kIn self tI) (by rw [← Paired.length r1, sizeLine_eq]; omega)
    (codeAny_mono (F1.run _ X.stack _ _ ⟨Value.ref (hp.objs.size + 1) :: us, []⟩ (Value.ref (hp.objs.size + 1) :: us) _ _ (fun _ _ _ => False) (hr.make C us []) (I2.env0.make C us []) b2 r2 hq) fun r s' hq' => ?_))
  cases r with
  | error er => exact hx pins σ _ _ er s' I2 hq'
  | ok fl =>
    cases fl with
    | ret u =>
      obtain ⟨v, H2, os2, bare2, un2, hok2, rv, ev, d, fs, ea, ed, hd1, q2⟩ := hq'
      subst ev
      obtain ⟨h2, g2, d2, t2, os'⟩ := s'
      obtain ⟨t0, G, J, kG, ge, hoe, na⟩ := mk_end0 (d2 := d2) (t2 := t2) I1 up1 keep un2 hok2 os2 bare2 ea ed hd1
      exact ⟨rv, hp.objs.size + 1, _, _, ⟨G, g2, d2, t2, os'⟩, _, .ref C, some d, rfl, J, kG, ge, hoe, ⟨rfl, rfl, fun vs hv => by cases hv; rfl⟩, rfl, rfl, na, rfl, bare2, raises_own T.x.exC T.tyC, q2⟩
    | next => exact False.elim hq'
    | brk => exact False.elim hq'
    | cont => exact False.elim hq'
/-- raise C(e, ..) -/
theorem pmk_X (T : ErrK X.K C) (iC : PySem.W.findIn X.K (.ref C) "__init__" = some (some (.ref fI))) (tI : PySem.W.typeIn X.K (.ref fI) = some (.type "function"))
    (F1 : FnOk X.prog X.w X.K X.mg X.base CX k fI fd ps sp) (hr : Room (k + 1) X.A) (hb : Binds X.K fd ps []) (hx : Passes CX X (fun _ _ _ => False)) (hg : Gl X x) (hm : X.mg x = some (.ref C)) (ha : PA X (e :: es) ta)
    (hdb : (x == ("__debug__" : Str)) = false := by decide) (he : starEach (e :: es) X.env = (false, eval e X.env) :: starEach es X.env := by rfl) (hpl : (backTo pos (starEach es X.env)).any (·.1) = false := by rfl) :
    L2N.PMk X (.Call (.Name x p) (e :: es) [] pos) (tMkO C sp [] ta) := by
  intro pins s σ H Q I h
  refine wpAny_Call_Name_kw (ld_glob I hg hm ?_ hdb)
  refine PySem.W.callWith_K (h₀ := X.base) I.ok.mod.kin T.kC (thn (ha.run pos pins s σ H _ I h) fun us s1 ⟨vs, H1, I1, r1, lim, q1⟩ => ⟨I1.kIn, ?_⟩) he hpl
  refine run_raX T iC tI F1 hr hb hx I1 r1 lim fun a na => ?_
  have z := q1 a na
  rw [List.append_nil] at z
  exact z
/-- raise C() -/
theorem pmk_X0 (T : ErrK X.K C) (iC : PySem.W.findIn X.K (.ref C) "__init__" = some (some (.ref fI))) (tI : PySem.W.typeIn X.K (.ref fI) = some (.type "function"))
    (F1 : FnOk X.prog X.w X.K X.mg X.base CX k fI fd ps sp) (hr : Room (k + 1) X.A) (hb : Binds X.K fd ps []) (hx : Passes CX X (fun _ _ _ => False)) (hg : Gl X x) (hm : X.mg x = some (.ref C))
    (hdb : (x == ("__debug__" : Str)) = false := by decide) (hpl : ((backTo pos (starEach [] X.env)).any (·.1) || (backToKw pos (keywordEach [] X.env)).any (·.1.isNone)) = false := by rfl) :
    L2N.PMk X (.Call (.Name x p) [] [] pos) (tMkO C sp [] tNil) := by
  intro pins s σ H Q I h
  obtain ⟨_, q1⟩ := h
  refine wpAny_Call_Name_kw (ld_glob I hg hm ?_ hdb)
  refine PySem.W.callWith_KW0 (h₀ := X.base) I.ok.mod.kin T.kC (by rfl) ?_ hpl
  refine wpAny_evalAll_nil ⟨I.kIn, ?_⟩
  exact run_raX (us := []) (vs := []) T iC tI F1 hr hb hx (I.tok _) .nil (Nat.zero_le _) fun a na => q1 a na
end
/-! ### a def that is called with the caught error -/
/-- what a def promises of one pinned error -/
structure FnP (P : Program) (w : World) (K : PySem.W.Frag) (mg : Str → Option Value) (base : Heap) (CX : CXT) (k : Nat) (f : Addr) (fd : FuncData) (ps : List Str) (spp : Addr × Obj → Sp) : Prop where
  len : ∀ p vs H Q E, spp p vs H Q E → vs.length = ps.length
  run : ∀ (A : Around) (outer : List Env) (s : Shared) (H : Hp) (args : Args) (us : List Value) (vs : List V) (Q : VK) (E : XK) (p : Addr × Obj), L2H.RoomH k A → L2H.Hot1 A p → L2H.PinOk outer H s p → Env0 P w K mg base A outer s H → BindsTo s fd args (ps.zip us) → Vals vs us → spp p vs H Q E →
    codeAny (model P w) A (.call (.ref f) args) (CR CX outer P w H s Q E) s
theorem okP {P : Program} {w : World} {K : PySem.W.Frag} {mg : Str → Option Value} {base : Heap} {CX : CXT} {x qual : Str} {st : Stmt} {f : Addr} {fd : FuncData} {N ps : List Str} {k : Nat} {spp : Addr × Obj → Sp} (F : Fun K x qual st f fd) (S : FnScope N ps (defScope st)) (len : ∀ p vs H Q E, spp p vs H Q E → vs.length = ps.length)
    (hbody : ∀ (cdv : Value) (A : Around) (outer : List Env) (s : Shared) (H : Hp) (vs : List V) (Q : VK) (E : XK) (p : Addr × Obj), L2H.Hot1 A p → L2H.RoomH k (A.deeper (envOfC qual (defScope st) s.heap.objs.size f cdv)) → spp p vs H Q E →
      ∃ t, PSs (L2H.cxH CX P w K mg base N qual (defScope st) f cdv A outer s H E p) (defBody st) t ∧ t { nx := fun _ H' => Q .non H', rt := Q } (L2.start N vs) H) : FnP P w K mg base CX (k + 1) f fd ps spp := by
  obtain ⟨oc, od, kV, doc, pm, an, cdv, ct, osl, rfl, lk, hcd⟩ := F.ex
  refine ⟨len, fun A outer s H args us vs Q E p hr hot hpin e0 hb r hsp => ?_⟩
  have hl := len _ _ _ _ _ hsp
  have KX : K.In s.heap := e0.mod.kin.keeps fun b o e => (e0.bs b o e).1
  have lim : s.heap.NoLimit := e0.mod.nolimit.keeps fun b o e => (e0.bs b o e).1
  have kinds : ∀ y ∈ ps.zip us, (defScope st).names.lookup y.1 = some .local ∨ ((defScope st).names.lookup y.1 = some .cell ∧ ((cellsFrom (s.heap.objs.size + 1) (defScope st).names []).lookup y.1).isSome = true) := fun ⟨n, v⟩ hy => by
    rcases S.par n (List.of_mem_zip hy).1 with q | q
    · exact .inl q
    · exact .inr ⟨q, PySem.W.cellsFrom_some _ _ _ (.inl q)⟩
  refine codeAny_call_function hr.depth (KX _ _ lk) rfl S.co S.gen rfl (PySem.W.codeRec_of KX hcd) (hb _ _ _ _ ?_)
  refine wpAny_newFunctionEnv_cells S.kind kinds fun env he s1 x => ?_
  subst he
  refine ⟨lim.keeps x.toInCall.keep, codeAny_func ?_⟩
  obtain ⟨t, ht, hq⟩ := hbody cdv A outer s H vs Q E p hot (hr.deeper _) hsp
  have I : Inv (L2H.cxH CX P w K mg base N qual (defScope st) f cdv A outer s H E p) [] (L2.start N vs) H s1 := L2H.inv_startH S hpin e0 hl r x
  refine wpAny_mono (ht.run [] s1 (L2.start N vs) H _ I hq) (fun fl s' hs => ?_) fun e s' hs => hs
  have fin : ∀ {σ' : L2.St} {H' : Hp} {v : V} {u : Value}, Inv (L2H.cxH CX P w K mg base N qual (defScope st) f cdv A outer s H E p) [] σ' H' s' → RelV v u → Q v H' → CE outer P w H s Q u s' :=
    fun {σ' H' v u} J rv q => ⟨v, H', J.os, J.bare, J.base, J.hok, rv, q⟩
  cases fl with
  | ret u =>
    obtain ⟨v, σ', H', J, rv, q⟩ := hs
    exact fin J rv q
  | next =>
    obtain ⟨σ', H', J, q⟩ := hs
    exact fin (v := V.non) (u := Value.none) J rfl q
  | brk =>
    obtain ⟨_, _, _, q⟩ := hs
    exact False.elim q
  | cont =>
    obtain ⟨_, _, _, q⟩ := hs
    exact False.elim q
section
variable {X : Cx} {CX : CXT} {k : Nat} {f : Addr} {fd : FuncData} {ps : List Str} {spp : Addr × Obj → Sp} {E : L2.St → XK} {x : Str} {q pos : Pos} {e : Expr} {es : List Expr} {t : TA} {p : Addr × Obj}
theorem pe_callP (F : FnP X.prog X.w X.K X.mg X.base CX k f fd ps spp) (hr : L2H.RoomH k X.A) (hot : L2H.Hot1 X.A p) (hp : p ∈ X.pn) (hg : Gl X x) (hm : X.mg x = some (.ref f)) (hk : PySem.W.keepIn X.K (.ref f) = true) (hb : Binds X.K fd ps []) (hx : ∀ σ, PassesAt CX X σ (E σ))
    (ha : PA X (e :: es) t) (hdb : (x == ("__debug__" : Str)) = false := by decide) (he : starEach (e :: es) X.env = (false, eval e X.env) :: starEach es X.env := by rfl) (hpl : (backTo pos (starEach es X.env)).any (·.1) = false := by rfl) :
    PE X (.Call (.Name x q) (e :: es) [] pos) (tCallS (spp p) E t) := by
  refine ⟨fun pins s σ H Q I h => ?_⟩
  refine wpAny_Call_Name_kw (ld_glob I hg hm ?_ hdb)
  refine PySem.W.callWith_K (h₀ := X.base) I.ok.mod.kin hk (thn (ha.run pos pins s σ H _ I h) fun us s1 ⟨vs, H1, I1, r, z⟩ => ⟨I1.kIn, ?_⟩) he hpl
  have hl : us.length = ps.length := by rw [← r.length]; exact F.len _ _ _ _ _ z
  have b := hb s1 us I1.kIn (by rw [List.append_nil]; exact hl)
  rw [List.append_nil] at b
  have P1 := I1.pin p (List.mem_append_left _ hp)
  have pin : L2H.PinOk X.stack H1 s1 p := ⟨P1.1, P1.2.1, fun hm => (List.mem_cons.mp (I1.stkSub p.1 hm)).elim P1.2.2.1 P1.2.2.2.1, P1.2.2.2.2⟩
  refine wpAny_call (codeAny_mono (F.run X.A X.stack s1 H1 ⟨us, []⟩ us vs Q (E σ) p hr hot pin I1.env0 b r z) fun r s' hq => ?_)
  cases r with
  | error e => exact hx σ pins H1 s1 e s' I1 hq
  | ok fl =>
    cases fl with
    | ret u => exact I1.after hq
    | next => exact False.elim hq
    | brk => exact False.elim hq
    | cont => exact False.elim hq
end
end My

set_option Elab.async false
set_option linter.all false
set_option maxRecDepth 100000
namespace My
open PySem PySem.Spec PyProof.Rows L2
/-! things that are kept -/
abbrev sKept : Stmt := topS 1
theorem scKept : FnScope ["value", "item"] ["value"] (defScope sKept) := ⟨rfl, rfl, rfl, by decide +kernel, rfl, by decide +kernel, by decide +kernel⟩
/-- an object that data are made of -/
def dat : HO → Prop
  | .lst _ => True
  | .tup _ => True
  | .frz _ _ => True
  | _ => False
/-- data stay, but what stands in S -/
def Dat (S : List Addr) (H H' : Hp) : Prop := ∀ p o, p ∉ S → H p = some o → dat o → H' p = some o
theorem Dat.of {S : List Addr} {H H' : Hp} (s : Same H H') : Dat S H H' := fun p o _ h _ => s p o h
theorem Dat.but {S : List Addr} {b : Addr} {H H' : Hp} (m : b ∈ S) (s : But b H H') : Dat S H H' := fun p o n h _ => s p o (fun e => n (e ▸ m)) h
theorem Dat.put {S : List Addr} {b : Addr} {H : Hp} {o : HO} (m : b ∈ S) : Dat S H (upd H b o) := fun p u n h _ => by rw [upd_ne (show p ≠ b from fun e => n (by rw [e]; exact m))]; exact h
theorem Dat.trans {S : List Addr} {H H1 H2 : Hp} (x : Dat S H H1) (y : Dat S H1 H2) : Dat S H H2 := fun p o n h d => y p o n (x p o n h d) d
/-- a list that is none of S -/
def LA (K : PySem.W.Frag) (H : Hp) (S : List Addr) (a : Addr) (xs : List V) : Prop := SqL K H a xs ∧ (a ∉ S ∨ SqL K (fun _ => none) a xs)
def TA' (K : PySem.W.Frag) (H : Hp) (S : List Addr) (a : Addr) (xs : List V) : Prop := SqT K H a xs ∧ (a ∉ S ∨ SqT K (fun _ => none) a xs)
theorem none_seq {K : PySem.W.Frag} {H : Hp} {a : Addr} {xs : List V} (h : SqL K (fun _ => none) a xs) : SqL K H a xs := by
  rcases h with (h | ⟨o, h⟩) | h
  · cases h
  · cases h
  · exact .inr h
theorem none_seqT {K : PySem.W.Frag} {H : Hp} {a : Addr} {xs : List V} (h : SqT K (fun _ => none) a xs) : SqT K H a xs := by
  rcases h with (h | ⟨o, h⟩) | h
  · cases h
  · cases h
  · exact .inr h
theorem LA.dat {K : PySem.W.Frag} {S : List Addr} {a : Addr} {H H' : Hp} {xs : List V} (t : Dat S H H') (h : LA K H S a xs) : LA K H' S a xs := by
  obtain ⟨s, n⟩ := h
  refine ⟨?_, n⟩
  rcases n with n | n
  · rcases s with (s | ⟨o, s⟩) | s
    · exact .inl (.inl (t _ _ n s trivial))
    · exact .inl (.inr ⟨o, t _ _ n s trivial⟩)
    · exact .inr s
  · exact none_seq n
theorem TA'.dat {K : PySem.W.Frag} {S : List Addr} {a : Addr} {H H' : Hp} {xs : List V} (t : Dat S H H') (h : TA' K H S a xs) : TA' K H' S a xs := by
  obtain ⟨s, n⟩ := h
  refine ⟨?_, n⟩
  rcases n with n | n
  · rcases s with (s | ⟨o, s⟩) | s
    · exact .inl (.inl (t _ _ n s trivial))
    · exact .inl (.inr ⟨o, t _ _ n s trivial⟩)
    · exact .inr s
  · exact none_seqT n
theorem LA.more {K : PySem.W.Frag} {S : List Addr} {a D : Addr} {H : Hp} {xs : List V} (nD : H D = none) (h : LA K H S a xs) : LA K H (D :: S) a xs := by
  obtain ⟨s, n⟩ := h
  refine ⟨s, ?_⟩
  rcases n with n | n
  · have ne : ∀ {o : HO}, H a = some o → a ∉ D :: S := fun {o} e m => by
      rcases List.mem_cons.mp m with z | z
      · rw [z, nD] at e
        cases e
      · exact n z
    rcases s with (s | ⟨o, s⟩) | s
    · exact .inl (ne s)
    · exact .inl (ne s)
    · exact .inr (.inr s)
  · exact .inr n
theorem TA'.more {K : PySem.W.Frag} {S : List Addr} {a D : Addr} {H : Hp} {xs : List V} (nD : H D = none) (h : TA' K H S a xs) : TA' K H (D :: S) a xs := by
  obtain ⟨s, n⟩ := h
  refine ⟨s, ?_⟩
  rcases n with n | n
  · have ne : ∀ {o : HO}, H a = some o → a ∉ D :: S := fun {o} e m => by
      rcases List.mem_cons.mp m with z | z
      · rw [z, nD] at e
        cases e
      · exact n z
    rcases s with (s | ⟨o, s⟩) | s
    · exact .inl (ne s)
    · exact .inl (ne s)
    · exact .inr (.inr s)
  · exact .inr n
theorem LA.less {K : PySem.W.Frag} {S : List Addr} {a D : Addr} {H : Hp} {xs : List V} (h : LA K H (D :: S) a xs) : LA K H S a xs := ⟨h.1, h.2.imp (fun n m => n (List.mem_cons_of_mem _ m)) id⟩
theorem TA'.less {K : PySem.W.Frag} {S : List Addr} {a D : Addr} {H : Hp} {xs : List V} (h : TA' K H (D :: S) a xs) : TA' K H S a xs := ⟨h.1, h.2.imp (fun n m => n (List.mem_cons_of_mem _ m)) id⟩
/-- all of S stand -/
def Std (H : Hp) (S : List Addr) : Prop := ∀ p ∈ S, ∃ o, H p = some o
theorem Std.new {H : Hp} {S : List Addr} {p : Addr} (h : Std H S) (n : H p = none) : p ∉ S := fun m => by
  obtain ⟨o, e⟩ := h p m
  rw [n] at e
  cases e
theorem Std.same {H H' : Hp} {S : List Addr} (h : Std H S) (s : Same H H') : Std H' S := fun p m => by
  obtain ⟨o, e⟩ := h p m
  exact ⟨o, s _ _ e⟩
/-- a thing: flat, or a list or tuple of things; no list of S is part of it -/
def Thg (K : PySem.W.Frag) (H : Hp) (S : List Addr) : Nat → V → Prop
  | 0, v => flat0 v
  | n + 1, v => flat0 v ∨ ∃ a xs, v = .ref a ∧ (LA K H S a xs ∨ TA' K H S a xs) ∧ xs.length < 1000 ∧ ∀ x ∈ xs, Thg K H S n x
/-- v is like w, and no list of S is part of them -/
def LkB (K : PySem.W.Frag) (H : Hp) (S : List Addr) : Nat → V → V → Prop
  | 0, v, w => v = w ∧ flat0 v
  | n + 1, v, w => (v = w ∧ flat0 v) ∨ ∃ a a' xs ys, v = .ref a ∧ w = .ref a' ∧ ((LA K H S a xs ∧ LA K H S a' ys) ∨ (TA' K H S a xs ∧ TA' K H S a' ys)) ∧ xs.length = ys.length ∧ xs.length < 1000 ∧ ∀ (i : Nat) x y, xs[i]? = some x → ys[i]? = some y → LkB K H S n x y
theorem Thg.dat {K : PySem.W.Frag} {H H' : Hp} {S : List Addr} (t : Dat S H H') : ∀ {n : Nat} {v : V}, Thg K H S n v → Thg K H' S n v
  | 0, _, h => h
  | n + 1, _, h => by
    rcases h with h | ⟨a, xs, e, hs, hl, hi⟩
    · exact .inl h
    · exact .inr ⟨a, xs, e, hs.imp (LA.dat t) (TA'.dat t), hl, fun x m => (hi x m).dat t⟩
theorem LkB.dat {K : PySem.W.Frag} {H H' : Hp} {S : List Addr} (t : Dat S H H') : ∀ {n : Nat} {v w : V}, LkB K H S n v w → LkB K H' S n v w
  | 0, _, _, h => h
  | n + 1, _, _, h => by
    rcases h with h | ⟨a, a', xs, ys, e1, e2, hs, hl, hb, hi⟩
    · exact .inl h
    · exact .inr ⟨a, a', xs, ys, e1, e2, hs.imp (fun z => ⟨z.1.dat t, z.2.dat t⟩) (fun z => ⟨z.1.dat t, z.2.dat t⟩), hl, hb, fun i x y p q => (hi i x y p q).dat t⟩
theorem Thg.more {K : PySem.W.Frag} {H : Hp} {S : List Addr} {D : Addr} (n0 : H D = none) : ∀ {n : Nat} {v : V}, Thg K H S n v → Thg K H (D :: S) n v
  | 0, _, h => h
  | n + 1, _, h => by
    rcases h with h | ⟨a, xs, e, hs, hl, hi⟩
    · exact .inl h
    · exact .inr ⟨a, xs, e, hs.imp (LA.more n0) (TA'.more n0), hl, fun x m => (hi x m).more n0⟩
theorem LkB.less {K : PySem.W.Frag} {H : Hp} {S : List Addr} {D : Addr} : ∀ {n : Nat} {v w : V}, LkB K H (D :: S) n v w → LkB K H S n v w
  | 0, _, _, h => h
  | n + 1, _, _, h => by
    rcases h with h | ⟨a, a', xs, ys, e1, e2, hs, hl, hb, hi⟩
    · exact .inl h
    · exact .inr ⟨a, a', xs, ys, e1, e2, hs.imp (fun z => ⟨z.1.less, z.2.less⟩) (fun z => ⟨z.1.less, z.2.less⟩), hl, hb, fun i x y p q => (hi i x y p q).less⟩
theorem LkB.lk {K : PySem.W.Frag} {H : Hp} {S : List Addr} : ∀ {n : Nat} {v w : V}, LkB K H S n v w → Lk K H n v w
  | 0, _, _, h => h
  | n + 1, _, _, h => by
    rcases h with h | ⟨a, a', xs, ys, e1, e2, hs, hl, hb, hi⟩
    · exact .inl h
    · exact .inr ⟨a, a', xs, ys, e1, e2, hs.imp (fun z => ⟨z.1.1, z.2.1⟩) (fun z => ⟨z.1.1, z.2.1⟩), hl, hb, fun i x y p q => (hi i x y p q).lk⟩
theorem Thg.flat {K : PySem.W.Frag} {H : Hp} {S : List Addr} {n : Nat} {v : V} (h : flat0 v) : Thg K H S n v := by
  cases n with
  | zero => exact h
  | succ n => exact .inl h
theorem LkB.flat {K : PySem.W.Frag} {H : Hp} {S : List Addr} {n : Nat} {v : V} (h : flat0 v) : LkB K H S n v v := by
  cases n with
  | zero => exact ⟨rfl, h⟩
  | succ n => exact .inl ⟨rfl, h⟩
/-- v' is a copy of v -/
def spKept (K : PySem.W.Frag) (n : Nat) : Sp := fun vs H Q _ => ∃ (S : List Addr) (v : V), vs = [v] ∧ Std H S ∧ Thg K H S n v ∧ ∀ v' H', Same H H' → LkB K H' S n v' v → Q v' H'
theorem k1_fl {K : PySem.W.Frag} {v : V} (h : flat0 v) : PySem.W.kitOne K (.type (tyN v)) (.type "list") = some false := by
  cases v <;> first | rfl | exact h.elim
theorem k1_ft {K : PySem.W.Frag} {v : V} (h : flat0 v) : PySem.W.kitOne K (.type (tyN v)) (.type "tuple") = some false := by
  cases v <;> first | rfl | exact h.elim
theorem small1000 {n : Nat} (h : n ≤ 1000) : n < sizeLine := by
  rw [sizeLine_eq]
  omega
theorem same_updF {H H' : Hp} {p : Addr} {o : HO} (n : H p = none) (s : Same H H') : Same H (upd H' p o) := fun b x e => by
  rw [upd_ne (ne_of_none e n)]
  exact s b x e
/-- one turn of the copying -/
theorem kept_W {K : PySem.W.Frag} {S : List Addr} {D : Addr} {n i : Nat} {xs ys : List V} {x y : V} {H G G' : Hp} (nD : H D = none) (hs : Same H G) (hD : G D = some (.lst ys)) (hl : ys.length = i) (li : i < 1000) (t : Same G G') (h : ∀ (j : Nat) u w, ys[j]? = some u → xs[j]? = some w → LkB K G (D :: S) n u w) (hx : xs[i]? = some x) (k : LkB K G' (D :: S) n y x) :
    ∃ acc, G' D = some (.lst acc) ∧ acc.length < sizeLine ∧ (Same H (upd G' D (.lst (acc ++ [y]))) ∧ ∃ zs, (upd G' D (.lst (acc ++ [y]))) D = some (.lst zs) ∧ zs.length = i + 1 ∧ ∀ (j : Nat) u w, zs[j]? = some u → xs[j]? = some w → LkB K (upd G' D (.lst (acc ++ [y]))) (D :: S) n u w) := by
  refine ⟨ys, t _ _ hD, ?_, same_updF nD (hs.trans t), ys ++ [y], upd_same, by rw [List.length_append, hl]; rfl, ?_⟩
  · rw [hl]
    exact small1000 (by omega)
  · intro j u w e1 e2
    have pt : Dat (D :: S) G' (upd G' D (.lst (ys ++ [y]))) := Dat.put List.mem_cons_self
    rcases Nat.lt_or_ge j ys.length with h1 | h1
    · rw [List.getElem?_append_left h1] at e1
      exact (h j u w e1 e2).dat ((Dat.of t).trans pt)
    · rw [List.getElem?_append_right h1] at e1
      have e0 : j - ys.length = 0 := by
        cases z : j - ys.length with
        | zero => rfl
        | succ m => rw [z] at e1; simp at e1
      rw [e0] at e1
      cases e1
      have : j = i := by omega
      subst this
      rw [hx] at e2
      cases e2
      exact k.dat pt
section
variable {P : Program} {w : World} {K : PySem.W.Frag} {mg : Str → Option Value} {base : Heap}
theorem kept_step {f : Addr} {fd : FuncData} {k n : Nat} (F : Fun K "kept" "kept" sKept f fd) (g : mg "kept" = some (.ref f)) (b : Binds K fd ["value"] []) (b_isinstance : mg "isinstance" = none) (b_list : mg "list" = none) (b_tuple : mg "tuple" = none)
    (Kp : FnOk P w K mg base CX0 k f fd ["value"] (spKept K n)) : FnOk P w K mg base CX0 (k + 1) f fd ["value"] (spKept K (n + 1)) := by
  refine F.ok scKept (fun vs H Q E h => ?_) (fun cdv A outer s H vs Q E hr h => ?_)
  · obtain ⟨S, v, rfl, _⟩ := h
    rfl
  · obtain ⟨S, v, rfl, hS, L, q⟩ := h
    refine ⟨_, (pss_cons (ps_if (pt_val (pe_callB call_isi rfl b_isinstance (by decide +kernel) (pa_cons (pv 0) (pa_cons (pe_ty "list" rfl b_list (by decide +kernel)) pa_nil)))) (pss_one (ps_ret (pe_lc (own := [("item", 1)]) (g := gName 1) (tt := tYes) rfl scKept.nd (pi_list (pv 0)) (blkOk_by (own := [("item", 1)]) (N := ["value", "item"]) (sc := defScope sKept) (by decide +kernel)) (fun _ _ _ _ _ => (pg_name (i := 1) scKept.nd rfl (.inl rfl) (.inr rfl))) (fun _ _ _ _ _ => pts_nil) (fun _ _ _ _ _ => (pe_call Kp (hr.mono (by omega)) rfl g F.kp b .nil pass0 (pa_cons (pv 1) pa_nil)))))) pss_nil)
      (pss_cons (ps_if (pt_val (pe_callB call_isi rfl b_isinstance (by decide +kernel) (pa_cons (pv 0) (pa_cons (pe_ty "tuple" rfl b_tuple (by decide +kernel)) pa_nil)))) (pss_one (ps_ret (pe_callTy call_tuple_of rfl b_tuple (by decide +kernel) (pa_cons (pe_lc (own := [("item", 1)]) (g := gName 1) (tt := tYes) rfl scKept.nd (pi_tup (pv 0)) (blkOk_by (own := [("item", 1)]) (N := ["value", "item"]) (sc := defScope sKept) (by decide +kernel)) (fun _ _ _ _ _ => (pg_name (i := 1) scKept.nd rfl (.inl rfl) (.inr rfl))) (fun _ _ _ _ _ => pts_nil) (fun _ _ _ _ _ => (pe_call Kp (hr.mono (by omega)) rfl g F.kp b .nil pass0 (pa_cons (pv 1) pa_nil)))) pa_nil)))) pss_nil)
      (pss_one (ps_ret (pv 0))))), ?_⟩
    rcases L with fl | ⟨a, xs, rfl, hs, hl, hi⟩
    · exact ⟨_, rfl, _, _, _, _, _, rfl, .ty _, ty_flat fl, k1_fl fl, _, rfl, iteF ⟨_, rfl, _, _, _, _, _, rfl, .ty _, ty_flat fl, k1_ft fl, _, rfl, iteF ⟨_, rfl, q _ _ (Same.refl _) (LkB.flat fl)⟩⟩⟩
    · rcases hs with hA | hA
      · refine ⟨_, rfl, _, _, _, _, _, rfl, .ty _, ty_list hA.1, k1_ll, _, rfl, iteT ?_⟩
        refine ⟨_, rfl, a, rfl, ⟨_, hA.1⟩, fun D nD => ?_⟩
        refine lc_list (xs := xs) (fun i G => Same H G ∧ ∃ ys, G D = some (.lst ys) ∧ ys.length = i ∧ ∀ (j : Nat) u w, ys[j]? = some u → xs[j]? = some w → LkB K G (D :: S) n u w) ⟨same_upd nD, [], upd_same, rfl, fun j u w e => by simp at e⟩ (fun i G _ h => h.1.seq hA.1) ?_ ?_
        · rintro i x G hx ⟨s1, ys, hD, ly, hy⟩
          have lt : i < xs.length := (List.getElem?_eq_some_iff.mp hx).1
          refine ⟨rfl, ?_⟩
          unfold tYes
          refine iteT ?_
          have nS : Std G (D :: S) := fun p m => by
            rcases List.mem_cons.mp m with rfl | m
            · exact ⟨_, hD⟩
            · exact (hS.same s1) p m
          refine ⟨_, rfl, D :: S, x, rfl, nS, ((hi x (List.mem_of_getElem? hx)).more nD).dat (Dat.of s1), fun y G' t k => kept_W nD s1 hD ly (by omega) t hy hx k⟩
        · rintro G ⟨s1, ys, hD, ly, hy⟩
          exact q _ _ s1 (.inr ⟨D, a, ys, xs, rfl, rfl, .inl ⟨⟨SqL.of hD, .inl (hS.new nD)⟩, hA.dat (Dat.of s1)⟩, ly, by omega, fun i x y e1 e2 => (hy i x y e1 e2).less⟩)
      · refine ⟨_, rfl, _, _, _, _, _, rfl, .ty _, ty_tup hA.1, k1_tl, _, rfl, iteF ⟨_, rfl, _, _, _, _, _, rfl, .ty _, ty_tup hA.1, k1_tt, _, rfl, iteT ?_⟩⟩
        refine ⟨_, rfl, a, rfl, ⟨_, hA.1⟩, fun D nD => ?_⟩
        refine lc_tup (xs := xs) (fun i G => Same H G ∧ ∃ ys, G D = some (.lst ys) ∧ ys.length = i ∧ ∀ (j : Nat) u w, ys[j]? = some u → xs[j]? = some w → LkB K G (D :: S) n u w) ⟨same_upd nD, [], upd_same, rfl, fun j u w e => by simp at e⟩ (fun i G _ h => seqT_same h.1 hA.1) ?_ ?_
        · rintro i x G hx ⟨s1, ys, hD, ly, hy⟩
          have lt : i < xs.length := (List.getElem?_eq_some_iff.mp hx).1
          refine ⟨rfl, ?_⟩
          unfold tYes
          refine iteT ?_
          have nS : Std G (D :: S) := fun p m => by
            rcases List.mem_cons.mp m with rfl | m
            · exact ⟨_, hD⟩
            · exact (hS.same s1) p m
          refine ⟨_, rfl, D :: S, x, rfl, nS, ((hi x (List.mem_of_getElem? hx)).more nD).dat (Dat.of s1), fun y G' t k => kept_W nD s1 hD ly (by omega) t hy hx k⟩
        · rintro G ⟨s1, ys, hD, ly, hy⟩
          refine ⟨D, _, rfl, .inl ⟨SqL.of hD, fun l nl => q _ _ (s1.trans (same_upd nl)) ?_⟩⟩
          have t2 : Dat S G (upd G l (.tup ys)) := Dat.of (same_upd nl)
          refine .inr ⟨l, a, ys, xs, rfl, rfl, .inr ⟨⟨SqT.of upd_same, .inl ((hS.same s1).new nl)⟩, (hA.dat (Dat.of s1)).dat t2⟩, ly, by omega, fun i x y e1 e2 => (hy i x y e1 e2).less.dat t2⟩
theorem ok_kept {f : Addr} {fd : FuncData} (F : Fun K "kept" "kept" sKept f fd) (g : mg "kept" = some (.ref f)) (b : Binds K fd ["value"] []) (b_isinstance : mg "isinstance" = none) (b_list : mg "list" = none) (b_tuple : mg "tuple" = none) :
    ∀ n : Nat, FnOk P w K mg base CX0 (n + 1) f fd ["value"] (spKept K n) := by
  intro n
  induction n with
  | zero =>
    refine F.ok scKept (fun vs H Q E h => ?_) (fun cdv A outer s H vs Q E hr h => ?_)
    · obtain ⟨S, v, rfl, _⟩ := h
      rfl
    · obtain ⟨S, v, rfl, hS, fl, q⟩ := h
      refine ⟨_, (pss_cons (ps_if (pt_val (pe_callB call_isi rfl b_isinstance (by decide +kernel) (pa_cons (pv 0) (pa_cons (pe_ty "list" rfl b_list (by decide +kernel)) pa_nil)))) (pss_one ps_never) pss_nil)
        (pss_cons (ps_if (pt_val (pe_callB call_isi rfl b_isinstance (by decide +kernel) (pa_cons (pv 0) (pa_cons (pe_ty "tuple" rfl b_tuple (by decide +kernel)) pa_nil)))) (pss_one ps_never) pss_nil)
        (pss_one (ps_ret (pv 0))))), ?_⟩
      exact ⟨_, rfl, _, _, _, _, _, rfl, .ty _, ty_flat fl, k1_fl fl, _, rfl, iteF ⟨_, rfl, _, _, _, _, _, rfl, .ty _, ty_flat fl, k1_ft fl, _, rfl, iteF ⟨_, rfl, q _ _ (Same.refl _) ⟨rfl, fl⟩⟩⟩⟩
  | succ n ih => exact kept_step F g b b_isinstance b_list b_tuple ih
end
end My

set_option Elab.async false
set_option linter.all false
set_option maxRecDepth 100000
namespace My
open PySem PySem.Spec PyProof.Rows L2
/-! the errors' own __init__ -/
def spIni (K : PySem.W.Frag) (C : Addr) (code : Str) (fl : List Str) : Sp := fun vs H Q _ => ∃ (S : List Addr) (a : Addr) (ws : List V), vs = .ref a :: ws ∧ ws.length = fl.length ∧ H a = some (exo a C none) ∧ Std H S ∧ (∀ w ∈ ws, Thg K H S 4 w) ∧
  ∀ H' d ws', H d = none → (∀ p o, p ≠ a → H p = some o → H' p = some o) → H' a = some (exo a C (some d)) → H' d = some (exd d (("code", .str code) :: (fl.zip ws').reverse)) → ws'.length = fl.length →
    (∀ (j : Nat) u w, ws'[j]? = some u → ws[j]? = some w → LkB K H' S 4 u w) → Q .non H'
theorem Dat.err {S : List Addr} {a d C : Addr} {o : Option Addr} {H : Hp} {u u' : HO} (ha : H a = some (exo a C o)) (hd : H d = none) : Dat S H (upd (upd H d u) a u') := fun p x _ h k => by
  have n1 : p ≠ a := fun e => by
    rw [e, ha] at h
    cases h
    exact k
  rw [upd_ne n1, upd_ne (ne_of_none h hd)]
  exact h
theorem Dat.erd {S : List Addr} {d : Addr} {fs : List (Str × V)} {H : Hp} {u : HO} (hd : H d = some (exd d fs)) : Dat S H (upd H d u) := fun p x _ h k => by
  have n1 : p ≠ d := fun e => by
    rw [e, hd] at h
    cases h
    exact k
  rw [upd_ne n1]
  exact h
theorem one_at {α : Type} {x y : α} {i : Nat} (h : [x][i]? = some y) : i = 0 ∧ y = x := by
  cases i with
  | zero => cases h; exact ⟨rfl, rfl⟩
  | succ n => simp at h
abbrev sInvalidNameInit : Stmt := inClass (topS 4) 0
theorem scInvalidNameInit : FnScope ["self", "value"] ["self", "value"] (defScope sInvalidNameInit) := ⟨rfl, rfl, rfl, by decide +kernel, rfl, by decide +kernel, by decide +kernel⟩
abbrev sInvalidNumberInit : Stmt := inClass (topS 5) 0
theorem scInvalidNumberInit : FnScope ["self", "value"] ["self", "value"] (defScope sInvalidNumberInit) := ⟨rfl, rfl, rfl, by decide +kernel, rfl, by decide +kernel, by decide +kernel⟩
abbrev sInvalidNamesInit : Stmt := inClass (topS 6) 0
theorem scInvalidNamesInit : FnScope ["self", "at"] ["self", "at"] (defScope sInvalidNamesInit) := ⟨rfl, rfl, rfl, by decide +kernel, rfl, by decide +kernel, by decide +kernel⟩
abbrev sInvalidLotInit : Stmt := inClass (topS 7) 0
theorem scInvalidLotInit : FnScope ["self"] ["self"] (defScope sInvalidLotInit) := ⟨rfl, rfl, rfl, by decide +kernel, rfl, by decide +kernel, by decide +kernel⟩
abbrev sInvalidRollInit : Stmt := inClass (topS 8) 0
theorem scInvalidRollInit : FnScope ["self", "at"] ["self", "at"] (defScope sInvalidRollInit) := ⟨rfl, rfl, rfl, by decide +kernel, rfl, by decide +kernel, by decide +kernel⟩
abbrev sInvalidEntryInit : Stmt := inClass (topS 9) 0
theorem scInvalidEntryInit : FnScope ["self", "at"] ["self", "at"] (defScope sInvalidEntryInit) := ⟨rfl, rfl, rfl, by decide +kernel, rfl, by decide +kernel, by decide +kernel⟩
abbrev sInvalidTextInit : Stmt := inClass (topS 10) 0
theorem scInvalidTextInit : FnScope ["self", "line", "why"] ["self", "line", "why"] (defScope sInvalidTextInit) := ⟨rfl, rfl, rfl, by decide +kernel, rfl, by decide +kernel, by decide +kernel⟩
abbrev sBadRuleInit : Stmt := inClass (topS 11) 0
theorem scBadRuleInit : FnScope ["self", "line", "what"] ["self", "line", "what"] (defScope sBadRuleInit) := ⟨rfl, rfl, rfl, by decide +kernel, rfl, by decide +kernel, by decide +kernel⟩
abbrev sSpoiledInit : Stmt := inClass (topS 12) 0
theorem scSpoiledInit : FnScope ["self", "ballot", "why"] ["self", "ballot", "why"] (defScope sSpoiledInit) := ⟨rfl, rfl, rfl, by decide +kernel, rfl, by decide +kernel, by decide +kernel⟩
abbrev sBadSizesInit : Stmt := inClass (topS 13) 0
theorem scBadSizesInit : FnScope ["self", "number"] ["self", "number"] (defScope sBadSizesInit) := ⟨rfl, rfl, rfl, by decide +kernel, rfl, by decide +kernel, by decide +kernel⟩
abbrev sBadStaffInit : Stmt := inClass (topS 14) 0
theorem scBadStaffInit : FnScope ["self", "bundle"] ["self", "bundle"] (defScope sBadStaffInit) := ⟨rfl, rfl, rfl, by decide +kernel, rfl, by decide +kernel, by decide +kernel⟩
abbrev sTooManyInit : Stmt := inClass (topS 15) 0
theorem scTooManyInit : FnScope ["self", "what", "most"] ["self", "what", "most"] (defScope sTooManyInit) := ⟨rfl, rfl, rfl, by decide +kernel, rfl, by decide +kernel, by decide +kernel⟩
abbrev sNoNameInit : Stmt := inClass (topS 17) 0
theorem scNoNameInit : FnScope ["self", "word"] ["self", "word"] (defScope sNoNameInit) := ⟨rfl, rfl, rfl, by decide +kernel, rfl, by decide +kernel, by decide +kernel⟩
abbrev sEndedInit : Stmt := inClass (topS 19) 0
theorem scEndedInit : FnScope ["self"] ["self"] (defScope sEndedInit) := ⟨rfl, rfl, rfl, by decide +kernel, rfl, by decide +kernel, by decide +kernel⟩
abbrev sClosedInit : Stmt := inClass (topS 20) 0
theorem scClosedInit : FnScope ["self", "place"] ["self", "place"] (defScope sClosedInit) := ⟨rfl, rfl, rfl, by decide +kernel, rfl, by decide +kernel, by decide +kernel⟩
theorem two_at {α : Type} {x y z : α} {i : Nat} (h : [x, y][i]? = some z) : (i = 0 ∧ z = x) ∨ (i = 1 ∧ z = y) := by
  match i, h with
  | 0, h => exact .inl ⟨rfl, (Option.some.inj h).symm⟩
  | 1, h => exact .inr ⟨rfl, (Option.some.inj h).symm⟩
  | n + 2, h => simp at h
section
variable {P : Program} {w : World} {K : PySem.W.Frag} {mg : Str → Option Value} {base : Heap}
theorem ok_ini0 {C f : Addr} {fd : FuncData} {fK : Addr} {fdK : FuncData} (F : Fun K "__init__" "InvalidName.__init__" sInvalidNameInit f fd) (T : ErrK K C) (nC : PySem.W.findIn K (.ref C) "code" = some none) (n0 : PySem.W.findIn K (.ref C) "value" = some none) (Kp : Cal P w K mg base "kept" 5 ["value"] (spKept K 4) fK fdK) : FnOk P w K mg base CX0 6 f fd ["self", "value"] (spIni K C "InvalidName" ["value"]) := by
  refine F.ok scInvalidNameInit (fun vs H Q E h => ?_) (fun cdv A outer s H vs Q E hr h => ?_)
  · obtain ⟨S, a, ws, rfl, l, _⟩ := h
    show ws.length + 1 = _
    rw [l]
    rfl
  · obtain ⟨S, a, ws, rfl, l, ha, hS, hw, q⟩ := h
    obtain ⟨w1, rfl⟩ : ∃ w1, ws = [w1] := by
      match ws, l with
      | [w1], _ => exact ⟨_, rfl⟩
    refine ⟨_, (pss_cons (ps_fldX (pv 0) (pe_call Kp.ok (hr.mono (by omega)) rfl Kp.g Kp.kp Kp.b .nil pass0 (pa_cons (pv 1) pa_nil)))
      (pss_one (ps_fldX (pv 0) pe_str))), ?_⟩
    refine ⟨_, rfl, S, w1, rfl, hS, hw _ (by simp), fun v1 H1 s1 k1 => ⟨_, rfl, a, C, rfl, T, n0, .inl ⟨s1 _ _ ha, fun d nd ne => ?_⟩⟩⟩
    have t2 : Dat S H1 (upd (upd H1 d (exd d [("value", v1)])) a (exo a C (some d))) := Dat.err (s1 _ _ ha) nd
    have ea : (upd (upd H1 d (exd d [("value", v1)])) a (exo a C (some d))) a = some (exo a C (some d)) := upd_same
    have ed : (upd (upd H1 d (exd d [("value", v1)])) a (exo a C (some d))) d = some (exd d [("value", v1)]) := by rw [upd_ne ne, upd_same]
    have keep : ∀ p o, p ≠ a → H1 p = some o → (upd (upd H1 d (exd d [("value", v1)])) a (exo a C (some d))) p = some o := fun p o n h => by
      rw [upd_ne n, upd_ne (ne_of_none h nd)]
      exact h
    generalize (upd (upd H1 d (exd d [("value", v1)])) a (exo a C (some d))) = H2 at t2 ea ed keep ⊢
    have nd0 : H d = none := by
      cases e : H d with
      | none => rfl
      | some o => rw [s1 _ _ e] at nd; cases nd
    refine ⟨_, rfl, a, C, rfl, T, nC, .inr ⟨d, _, ea, ed, (by show 1 ≤ 900; decide), ?_⟩⟩
    refine q _ d [v1] nd0 (fun p o n h => ?_) (by rw [upd_ne (Ne.symm ne)]; exact ea) upd_same rfl (fun j u w e1 e2 => ?_)
    · rw [upd_ne (ne_of_none h nd0)]
      exact keep p o n (s1 _ _ h)
    · obtain ⟨rfl, rfl⟩ := one_at e1
      cases e2
      exact (k1.dat t2).dat (Dat.erd ed)
theorem ok_ini1 {C f : Addr} {fd : FuncData} {fK : Addr} {fdK : FuncData} (F : Fun K "__init__" "InvalidNumber.__init__" sInvalidNumberInit f fd) (T : ErrK K C) (nC : PySem.W.findIn K (.ref C) "code" = some none) (n0 : PySem.W.findIn K (.ref C) "value" = some none) (Kp : Cal P w K mg base "kept" 5 ["value"] (spKept K 4) fK fdK) : FnOk P w K mg base CX0 6 f fd ["self", "value"] (spIni K C "InvalidNumber" ["value"]) := by
  refine F.ok scInvalidNumberInit (fun vs H Q E h => ?_) (fun cdv A outer s H vs Q E hr h => ?_)
  · obtain ⟨S, a, ws, rfl, l, _⟩ := h
    show ws.length + 1 = _
    rw [l]
    rfl
  · obtain ⟨S, a, ws, rfl, l, ha, hS, hw, q⟩ := h
    obtain ⟨w1, rfl⟩ : ∃ w1, ws = [w1] := by
      match ws, l with
      | [w1], _ => exact ⟨_, rfl⟩
    refine ⟨_, (pss_cons (ps_fldX (pv 0) (pe_call Kp.ok (hr.mono (by omega)) rfl Kp.g Kp.kp Kp.b .nil pass0 (pa_cons (pv 1) pa_nil)))
      (pss_one (ps_fldX (pv 0) pe_str))), ?_⟩
    refine ⟨_, rfl, S, w1, rfl, hS, hw _ (by simp), fun v1 H1 s1 k1 => ⟨_, rfl, a, C, rfl, T, n0, .inl ⟨s1 _ _ ha, fun d nd ne => ?_⟩⟩⟩
    have t2 : Dat S H1 (upd (upd H1 d (exd d [("value", v1)])) a (exo a C (some d))) := Dat.err (s1 _ _ ha) nd
    have ea : (upd (upd H1 d (exd d [("value", v1)])) a (exo a C (some d))) a = some (exo a C (some d)) := upd_same
    have ed : (upd (upd H1 d (exd d [("value", v1)])) a (exo a C (some d))) d = some (exd d [("value", v1)]) := by rw [upd_ne ne, upd_same]
    have keep : ∀ p o, p ≠ a → H1 p = some o → (upd (upd H1 d (exd d [("value", v1)])) a (exo a C (some d))) p = some o := fun p o n h => by
      rw [upd_ne n, upd_ne (ne_of_none h nd)]
      exact h
    generalize (upd (upd H1 d (exd d [("value", v1)])) a (exo a C (some d))) = H2 at t2 ea ed keep ⊢
    have nd0 : H d = none := by
      cases e : H d with
      | none => rfl
      | some o => rw [s1 _ _ e] at nd; cases nd
    refine ⟨_, rfl, a, C, rfl, T, nC, .inr ⟨d, _, ea, ed, (by show 1 ≤ 900; decide), ?_⟩⟩
    refine q _ d [v1] nd0 (fun p o n h => ?_) (by rw [upd_ne (Ne.symm ne)]; exact ea) upd_same rfl (fun j u w e1 e2 => ?_)
    · rw [upd_ne (ne_of_none h nd0)]
      exact keep p o n (s1 _ _ h)
    · obtain ⟨rfl, rfl⟩ := one_at e1
      cases e2
      exact (k1.dat t2).dat (Dat.erd ed)
theorem ok_ini2 {C f : Addr} {fd : FuncData} {fK : Addr} {fdK : FuncData} (F : Fun K "__init__" "InvalidNames.__init__" sInvalidNamesInit f fd) (T : ErrK K C) (nC : PySem.W.findIn K (.ref C) "code" = some none) (n0 : PySem.W.findIn K (.ref C) "at" = some none) (Kp : Cal P w K mg base "kept" 5 ["value"] (spKept K 4) fK fdK) : FnOk P w K mg base CX0 6 f fd ["self", "at"] (spIni K C "InvalidNames" ["at"]) := by
  refine F.ok scInvalidNamesInit (fun vs H Q E h => ?_) (fun cdv A outer s H vs Q E hr h => ?_)
  · obtain ⟨S, a, ws, rfl, l, _⟩ := h
    show ws.length + 1 = _
    rw [l]
    rfl
  · obtain ⟨S, a, ws, rfl, l, ha, hS, hw, q⟩ := h
    obtain ⟨w1, rfl⟩ : ∃ w1, ws = [w1] := by
      match ws, l with
      | [w1], _ => exact ⟨_, rfl⟩
    refine ⟨_, (pss_cons (ps_fldX (pv 0) (pe_call Kp.ok (hr.mono (by omega)) rfl Kp.g Kp.kp Kp.b .nil pass0 (pa_cons (pv 1) pa_nil)))
      (pss_one (ps_fldX (pv 0) pe_str))), ?_⟩
    refine ⟨_, rfl, S, w1, rfl, hS, hw _ (by simp), fun v1 H1 s1 k1 => ⟨_, rfl, a, C, rfl, T, n0, .inl ⟨s1 _ _ ha, fun d nd ne => ?_⟩⟩⟩
    have t2 : Dat S H1 (upd (upd H1 d (exd d [("at", v1)])) a (exo a C (some d))) := Dat.err (s1 _ _ ha) nd
    have ea : (upd (upd H1 d (exd d [("at", v1)])) a (exo a C (some d))) a = some (exo a C (some d)) := upd_same
    have ed : (upd (upd H1 d (exd d [("at", v1)])) a (exo a C (some d))) d = some (exd d [("at", v1)]) := by rw [upd_ne ne, upd_same]
    have keep : ∀ p o, p ≠ a → H1 p = some o → (upd (upd H1 d (exd d [("at", v1)])) a (exo a C (some d))) p = some o := fun p o n h => by
      rw [upd_ne n, upd_ne (ne_of_none h nd)]
      exact h
    generalize (upd (upd H1 d (exd d [("at", v1)])) a (exo a C (some d))) = H2 at t2 ea ed keep ⊢
    have nd0 : H d = none := by
      cases e : H d with
      | none => rfl
      | some o => rw [s1 _ _ e] at nd; cases nd
    refine ⟨_, rfl, a, C, rfl, T, nC, .inr ⟨d, _, ea, ed, (by show 1 ≤ 900; decide), ?_⟩⟩
    refine q _ d [v1] nd0 (fun p o n h => ?_) (by rw [upd_ne (Ne.symm ne)]; exact ea) upd_same rfl (fun j u w e1 e2 => ?_)
    · rw [upd_ne (ne_of_none h nd0)]
      exact keep p o n (s1 _ _ h)
    · obtain ⟨rfl, rfl⟩ := one_at e1
      cases e2
      exact (k1.dat t2).dat (Dat.erd ed)
theorem ok_ini3 {C f : Addr} {fd : FuncData} {k : Nat} (F : Fun K "__init__" "InvalidLot.__init__" sInvalidLotInit f fd) (T : ErrK K C) (nC : PySem.W.findIn K (.ref C) "code" = some none)  : FnOk P w K mg base CX0 (k + 1) f fd ["self"] (spIni K C "InvalidLot" []) := by
  refine F.ok scInvalidLotInit (fun vs H Q E h => ?_) (fun cdv A outer s H vs Q E hr h => ?_)
  · obtain ⟨S, a, ws, rfl, l, _⟩ := h
    show ws.length + 1 = _
    rw [l]
    rfl
  · obtain ⟨S, a, ws, rfl, l, ha, hS, hw, q⟩ := h
    obtain rfl := List.eq_nil_of_length_eq_zero l
    refine ⟨_, (pss_one (ps_fldX (pv 0) pe_str)), ?_⟩
    refine ⟨_, rfl, a, C, rfl, T, nC, .inl ⟨ha, fun d nd ne => ?_⟩⟩
    refine q _ d [] nd (fun p o n h => ?_) upd_same (by rw [upd_ne ne, upd_same]; rfl) rfl (fun j u w e => by simp at e)
    rw [upd_ne n, upd_ne (ne_of_none h nd)]
    exact h
theorem ok_ini4 {C f : Addr} {fd : FuncData} {fK : Addr} {fdK : FuncData} (F : Fun K "__init__" "InvalidRoll.__init__" sInvalidRollInit f fd) (T : ErrK K C) (nC : PySem.W.findIn K (.ref C) "code" = some none) (n0 : PySem.W.findIn K (.ref C) "at" = some none) (Kp : Cal P w K mg base "kept" 5 ["value"] (spKept K 4) fK fdK) : FnOk P w K mg base CX0 6 f fd ["self", "at"] (spIni K C "InvalidRoll" ["at"]) := by
  refine F.ok scInvalidRollInit (fun vs H Q E h => ?_) (fun cdv A outer s H vs Q E hr h => ?_)
  · obtain ⟨S, a, ws, rfl, l, _⟩ := h
    show ws.length + 1 = _
    rw [l]
    rfl
  · obtain ⟨S, a, ws, rfl, l, ha, hS, hw, q⟩ := h
    obtain ⟨w1, rfl⟩ : ∃ w1, ws = [w1] := by
      match ws, l with
      | [w1], _ => exact ⟨_, rfl⟩
    refine ⟨_, (pss_cons (ps_fldX (pv 0) (pe_call Kp.ok (hr.mono (by omega)) rfl Kp.g Kp.kp Kp.b .nil pass0 (pa_cons (pv 1) pa_nil)))
      (pss_one (ps_fldX (pv 0) pe_str))), ?_⟩
    refine ⟨_, rfl, S, w1, rfl, hS, hw _ (by simp), fun v1 H1 s1 k1 => ⟨_, rfl, a, C, rfl, T, n0, .inl ⟨s1 _ _ ha, fun d nd ne => ?_⟩⟩⟩
    have t2 : Dat S H1 (upd (upd H1 d (exd d [("at", v1)])) a (exo a C (some d))) := Dat.err (s1 _ _ ha) nd
    have ea : (upd (upd H1 d (exd d [("at", v1)])) a (exo a C (some d))) a = some (exo a C (some d)) := upd_same
    have ed : (upd (upd H1 d (exd d [("at", v1)])) a (exo a C (some d))) d = some (exd d [("at", v1)]) := by rw [upd_ne ne, upd_same]
    have keep : ∀ p o, p ≠ a → H1 p = some o → (upd (upd H1 d (exd d [("at", v1)])) a (exo a C (some d))) p = some o := fun p o n h => by
      rw [upd_ne n, upd_ne (ne_of_none h nd)]
      exact h
    generalize (upd (upd H1 d (exd d [("at", v1)])) a (exo a C (some d))) = H2 at t2 ea ed keep ⊢
    have nd0 : H d = none := by
      cases e : H d with
      | none => rfl
      | some o => rw [s1 _ _ e] at nd; cases nd
    refine ⟨_, rfl, a, C, rfl, T, nC, .inr ⟨d, _, ea, ed, (by show 1 ≤ 900; decide), ?_⟩⟩
    refine q _ d [v1] nd0 (fun p o n h => ?_) (by rw [upd_ne (Ne.symm ne)]; exact ea) upd_same rfl (fun j u w e1 e2 => ?_)
    · rw [upd_ne (ne_of_none h nd0)]
      exact keep p o n (s1 _ _ h)
    · obtain ⟨rfl, rfl⟩ := one_at e1
      cases e2
      exact (k1.dat t2).dat (Dat.erd ed)
theorem ok_ini5 {C f : Addr} {fd : FuncData} {fK : Addr} {fdK : FuncData} (F : Fun K "__init__" "InvalidEntry.__init__" sInvalidEntryInit f fd) (T : ErrK K C) (nC : PySem.W.findIn K (.ref C) "code" = some none) (n0 : PySem.W.findIn K (.ref C) "at" = some none) (Kp : Cal P w K mg base "kept" 5 ["value"] (spKept K 4) fK fdK) : FnOk P w K mg base CX0 6 f fd ["self", "at"] (spIni K C "InvalidEntry" ["at"]) := by
  refine F.ok scInvalidEntryInit (fun vs H Q E h => ?_) (fun cdv A outer s H vs Q E hr h => ?_)
  · obtain ⟨S, a, ws, rfl, l, _⟩ := h
    show ws.length + 1 = _
    rw [l]
    rfl
  · obtain ⟨S, a, ws, rfl, l, ha, hS, hw, q⟩ := h
    obtain ⟨w1, rfl⟩ : ∃ w1, ws = [w1] := by
      match ws, l with
      | [w1], _ => exact ⟨_, rfl⟩
    refine ⟨_, (pss_cons (ps_fldX (pv 0) (pe_call Kp.ok (hr.mono (by omega)) rfl Kp.g Kp.kp Kp.b .nil pass0 (pa_cons (pv 1) pa_nil)))
      (pss_one (ps_fldX (pv 0) pe_str))), ?_⟩
    refine ⟨_, rfl, S, w1, rfl, hS, hw _ (by simp), fun v1 H1 s1 k1 => ⟨_, rfl, a, C, rfl, T, n0, .inl ⟨s1 _ _ ha, fun d nd ne => ?_⟩⟩⟩
    have t2 : Dat S H1 (upd (upd H1 d (exd d [("at", v1)])) a (exo a C (some d))) := Dat.err (s1 _ _ ha) nd
    have ea : (upd (upd H1 d (exd d [("at", v1)])) a (exo a C (some d))) a = some (exo a C (some d)) := upd_same
    have ed : (upd (upd H1 d (exd d [("at", v1)])) a (exo a C (some d))) d = some (exd d [("at", v1)]) := by rw [upd_ne ne, upd_same]
    have keep : ∀ p o, p ≠ a → H1 p = some o → (upd (upd H1 d (exd d [("at", v1)])) a (exo a C (some d))) p = some o := fun p o n h => by
      rw [upd_ne n, upd_ne (ne_of_none h nd)]
      exact h
    generalize (upd (upd H1 d (exd d [("at", v1)])) a (exo a C (some d))) = H2 at t2 ea ed keep ⊢
    have nd0 : H d = none := by
      cases e : H d with
      | none => rfl
      | some o => rw [s1 _ _ e] at nd; cases nd
    refine ⟨_, rfl, a, C, rfl, T, nC, .inr ⟨d, _, ea, ed, (by show 1 ≤ 900; decide), ?_⟩⟩
    refine q _ d [v1] nd0 (fun p o n h => ?_) (by rw [upd_ne (Ne.symm ne)]; exact ea) upd_same rfl (fun j u w e1 e2 => ?_)
    · rw [upd_ne (ne_of_none h nd0)]
      exact keep p o n (s1 _ _ h)
    · obtain ⟨rfl, rfl⟩ := one_at e1
      cases e2
      exact (k1.dat t2).dat (Dat.erd ed)
theorem ok_ini6 {C f : Addr} {fd : FuncData} {fK : Addr} {fdK : FuncData} (F : Fun K "__init__" "InvalidText.__init__" sInvalidTextInit f fd) (T : ErrK K C) (nC : PySem.W.findIn K (.ref C) "code" = some none) (n0 : PySem.W.findIn K (.ref C) "line" = some none) (n1 : PySem.W.findIn K (.ref C) "why" = some none) (Kp : Cal P w K mg base "kept" 5 ["value"] (spKept K 4) fK fdK) : FnOk P w K mg base CX0 6 f fd ["self", "line", "why"] (spIni K C "InvalidText" ["line", "why"]) := by
  refine F.ok scInvalidTextInit (fun vs H Q E h => ?_) (fun cdv A outer s H vs Q E hr h => ?_)
  · obtain ⟨S, a, ws, rfl, l, _⟩ := h
    show ws.length + 1 = _
    rw [l]
    rfl
  · obtain ⟨S, a, ws, rfl, l, ha, hS, hw, q⟩ := h
    obtain ⟨w1, w2, rfl⟩ : ∃ w1 w2, ws = [w1, w2] := by
      match ws, l with
      | [w1, w2], _ => exact ⟨_, _, rfl⟩
    refine ⟨_, (pss_cons (ps_fldX (pv 0) (pe_call Kp.ok (hr.mono (by omega)) rfl Kp.g Kp.kp Kp.b .nil pass0 (pa_cons (pv 1) pa_nil)))
      (pss_cons (ps_fldX (pv 0) (pe_call Kp.ok (hr.mono (by omega)) rfl Kp.g Kp.kp Kp.b .nil pass0 (pa_cons (pv 2) pa_nil)))
      (pss_one (ps_fldX (pv 0) pe_str)))), ?_⟩
    refine ⟨_, rfl, S, w1, rfl, hS, hw _ (by simp), fun v1 H1 s1 k1 => ⟨_, rfl, a, C, rfl, T, n0, .inl ⟨s1 _ _ ha, fun d nd ne => ?_⟩⟩⟩
    have t2 : Dat S H1 (upd (upd H1 d (exd d [("line", v1)])) a (exo a C (some d))) := Dat.err (s1 _ _ ha) nd
    have ea : (upd (upd H1 d (exd d [("line", v1)])) a (exo a C (some d))) a = some (exo a C (some d)) := upd_same
    have ed : (upd (upd H1 d (exd d [("line", v1)])) a (exo a C (some d))) d = some (exd d [("line", v1)]) := by rw [upd_ne ne, upd_same]
    have keep : ∀ p o, p ≠ a → H1 p = some o → (upd (upd H1 d (exd d [("line", v1)])) a (exo a C (some d))) p = some o := fun p o n h => by
      rw [upd_ne n, upd_ne (ne_of_none h nd)]
      exact h
    generalize (upd (upd H1 d (exd d [("line", v1)])) a (exo a C (some d))) = H2 at t2 ea ed keep ⊢
    have nd0 : H d = none := by
      cases e : H d with
      | none => rfl
      | some o => rw [s1 _ _ e] at nd; cases nd
    have S2 : Std H2 S := fun p m => by
      obtain ⟨o, e⟩ := hS p m
      by_cases z : p = a
      · exact ⟨_, z ▸ ea⟩
      · exact ⟨o, keep p o z (s1 _ _ e)⟩
    refine ⟨_, rfl, S, w2, rfl, S2, ((hw w2 (by simp)).dat (Dat.of s1)).dat t2, fun v2 H3 s3 k2 => ⟨_, rfl, a, C, rfl, T, n1, .inr ⟨d, _, s3 _ _ ea, s3 _ _ ed, (by show 1 ≤ 900; decide), ?_⟩⟩⟩
    have t4 : Dat S H3 (upd H3 d (exd d [("why", v2), ("line", v1)])) := Dat.erd (s3 _ _ ed)
    have ed4 : (upd H3 d (exd d [("why", v2), ("line", v1)])) d = some (exd d [("why", v2), ("line", v1)]) := upd_same
    have ea4 : (upd H3 d (exd d [("why", v2), ("line", v1)])) a = some (exo a C (some d)) := by rw [upd_ne (Ne.symm ne)]; exact s3 _ _ ea
    refine ⟨_, rfl, a, C, rfl, T, nC, .inr ⟨d, _, ea4, ed4, (by show 2 ≤ 900; decide), ?_⟩⟩
    refine q _ d [v1, v2] nd0 (fun p o n h => ?_) (by rw [upd_ne (Ne.symm ne)]; exact ea4) upd_same rfl (fun j u w e1 e2 => ?_)
    · rw [upd_ne (ne_of_none h nd0), upd_ne (ne_of_none h nd0)]
      exact s3 _ _ (keep p o n (s1 _ _ h))
    · have t5 := Dat.erd (S := S) (u := exd d [("code", .str "InvalidText"), ("why", v2), ("line", v1)]) ed4
      rcases two_at e1 with ⟨rfl, rfl⟩ | ⟨rfl, rfl⟩
      · cases e2
        exact (((k1.dat t2).dat (Dat.of s3)).dat t4).dat t5
      · cases e2
        exact (k2.dat t4).dat t5
theorem ok_ini7 {C f : Addr} {fd : FuncData} {fK : Addr} {fdK : FuncData} (F : Fun K "__init__" "BadRule.__init__" sBadRuleInit f fd) (T : ErrK K C) (nC : PySem.W.findIn K (.ref C) "code" = some none) (n0 : PySem.W.findIn K (.ref C) "line" = some none) (n1 : PySem.W.findIn K (.ref C) "what" = some none) (Kp : Cal P w K mg base "kept" 5 ["value"] (spKept K 4) fK fdK) : FnOk P w K mg base CX0 6 f fd ["self", "line", "what"] (spIni K C "BadRule" ["line", "what"]) := by
  refine F.ok scBadRuleInit (fun vs H Q E h => ?_) (fun cdv A outer s H vs Q E hr h => ?_)
  · obtain ⟨S, a, ws, rfl, l, _⟩ := h
    show ws.length + 1 = _
    rw [l]
    rfl
  · obtain ⟨S, a, ws, rfl, l, ha, hS, hw, q⟩ := h
    obtain ⟨w1, w2, rfl⟩ : ∃ w1 w2, ws = [w1, w2] := by
      match ws, l with
      | [w1, w2], _ => exact ⟨_, _, rfl⟩
    refine ⟨_, (pss_cons (ps_fldX (pv 0) (pe_call Kp.ok (hr.mono (by omega)) rfl Kp.g Kp.kp Kp.b .nil pass0 (pa_cons (pv 1) pa_nil)))
      (pss_cons (ps_fldX (pv 0) (pe_call Kp.ok (hr.mono (by omega)) rfl Kp.g Kp.kp Kp.b .nil pass0 (pa_cons (pv 2) pa_nil)))
      (pss_one (ps_fldX (pv 0) pe_str)))), ?_⟩
    refine ⟨_, rfl, S, w1, rfl, hS, hw _ (by simp), fun v1 H1 s1 k1 => ⟨_, rfl, a, C, rfl, T, n0, .inl ⟨s1 _ _ ha, fun d nd ne => ?_⟩⟩⟩
    have t2 : Dat S H1 (upd (upd H1 d (exd d [("line", v1)])) a (exo a C (some d))) := Dat.err (s1 _ _ ha) nd
    have ea : (upd (upd H1 d (exd d [("line", v1)])) a (exo a C (some d))) a = some (exo a C (some d)) := upd_same
    have ed : (upd (upd H1 d (exd d [("line", v1)])) a (exo a C (some d))) d = some (exd d [("line", v1)]) := by rw [upd_ne ne, upd_same]
    have keep : ∀ p o, p ≠ a → H1 p = some o → (upd (upd H1 d (exd d [("line", v1)])) a (exo a C (some d))) p = some o := fun p o n h => by
      rw [upd_ne n, upd_ne (ne_of_none h nd)]
      exact h
    generalize (upd (upd H1 d (exd d [("line", v1)])) a (exo a C (some d))) = H2 at t2 ea ed keep ⊢
    have nd0 : H d = none := by
      cases e : H d with
      | none => rfl
      | some o => rw [s1 _ _ e] at nd; cases nd
    have S2 : Std H2 S := fun p m => by
      obtain ⟨o, e⟩ := hS p m
      by_cases z : p = a
      · exact ⟨_, z ▸ ea⟩
      · exact ⟨o, keep p o z (s1 _ _ e)⟩
    refine ⟨_, rfl, S, w2, rfl, S2, ((hw w2 (by simp)).dat (Dat.of s1)).dat t2, fun v2 H3 s3 k2 => ⟨_, rfl, a, C, rfl, T, n1, .inr ⟨d, _, s3 _ _ ea, s3 _ _ ed, (by show 1 ≤ 900; decide), ?_⟩⟩⟩
    have t4 : Dat S H3 (upd H3 d (exd d [("what", v2), ("line", v1)])) := Dat.erd (s3 _ _ ed)
    have ed4 : (upd H3 d (exd d [("what", v2), ("line", v1)])) d = some (exd d [("what", v2), ("line", v1)]) := upd_same
    have ea4 : (upd H3 d (exd d [("what", v2), ("line", v1)])) a = some (exo a C (some d)) := by rw [upd_ne (Ne.symm ne)]; exact s3 _ _ ea
    refine ⟨_, rfl, a, C, rfl, T, nC, .inr ⟨d, _, ea4, ed4, (by show 2 ≤ 900; decide), ?_⟩⟩
    refine q _ d [v1, v2] nd0 (fun p o n h => ?_) (by rw [upd_ne (Ne.symm ne)]; exact ea4) upd_same rfl (fun j u w e1 e2 => ?_)
    · rw [upd_ne (ne_of_none h nd0), upd_ne (ne_of_none h nd0)]
      exact s3 _ _ (keep p o n (s1 _ _ h))
    · have t5 := Dat.erd (S := S) (u := exd d [("code", .str "BadRule"), ("what", v2), ("line", v1)]) ed4
      rcases two_at e1 with ⟨rfl, rfl⟩ | ⟨rfl, rfl⟩
      · cases e2
        exact (((k1.dat t2).dat (Dat.of s3)).dat t4).dat t5
      · cases e2
        exact (k2.dat t4).dat t5
theorem ok_ini8 {C f : Addr} {fd : FuncData} {fK : Addr} {fdK : FuncData} (F : Fun K "__init__" "Spoiled.__init__" sSpoiledInit f fd) (T : ErrK K C) (nC : PySem.W.findIn K (.ref C) "code" = some none) (n0 : PySem.W.findIn K (.ref C) "ballot" = some none) (n1 : PySem.W.findIn K (.ref C) "why" = some none) (Kp : Cal P w K mg base "kept" 5 ["value"] (spKept K 4) fK fdK) : FnOk P w K mg base CX0 6 f fd ["self", "ballot", "why"] (spIni K C "Spoiled" ["ballot", "why"]) := by
  refine F.ok scSpoiledInit (fun vs H Q E h => ?_) (fun cdv A outer s H vs Q E hr h => ?_)
  · obtain ⟨S, a, ws, rfl, l, _⟩ := h
    show ws.length + 1 = _
    rw [l]
    rfl
  · obtain ⟨S, a, ws, rfl, l, ha, hS, hw, q⟩ := h
    obtain ⟨w1, w2, rfl⟩ : ∃ w1 w2, ws = [w1, w2] := by
      match ws, l with
      | [w1, w2], _ => exact ⟨_, _, rfl⟩
    refine ⟨_, (pss_cons (ps_fldX (pv 0) (pe_call Kp.ok (hr.mono (by omega)) rfl Kp.g Kp.kp Kp.b .nil pass0 (pa_cons (pv 1) pa_nil)))
      (pss_cons (ps_fldX (pv 0) (pe_call Kp.ok (hr.mono (by omega)) rfl Kp.g Kp.kp Kp.b .nil pass0 (pa_cons (pv 2) pa_nil)))
      (pss_one (ps_fldX (pv 0) pe_str)))), ?_⟩
    refine ⟨_, rfl, S, w1, rfl, hS, hw _ (by simp), fun v1 H1 s1 k1 => ⟨_, rfl, a, C, rfl, T, n0, .inl ⟨s1 _ _ ha, fun d nd ne => ?_⟩⟩⟩
    have t2 : Dat S H1 (upd (upd H1 d (exd d [("ballot", v1)])) a (exo a C (some d))) := Dat.err (s1 _ _ ha) nd
    have ea : (upd (upd H1 d (exd d [("ballot", v1)])) a (exo a C (some d))) a = some (exo a C (some d)) := upd_same
    have ed : (upd (upd H1 d (exd d [("ballot", v1)])) a (exo a C (some d))) d = some (exd d [("ballot", v1)]) := by rw [upd_ne ne, upd_same]
    have keep : ∀ p o, p ≠ a → H1 p = some o → (upd (upd H1 d (exd d [("ballot", v1)])) a (exo a C (some d))) p = some o := fun p o n h => by
      rw [upd_ne n, upd_ne (ne_of_none h nd)]
      exact h
    generalize (upd (upd H1 d (exd d [("ballot", v1)])) a (exo a C (some d))) = H2 at t2 ea ed keep ⊢
    have nd0 : H d = none := by
      cases e : H d with
      | none => rfl
      | some o => rw [s1 _ _ e] at nd; cases nd
    have S2 : Std H2 S := fun p m => by
      obtain ⟨o, e⟩ := hS p m
      by_cases z : p = a
      · exact ⟨_, z ▸ ea⟩
      · exact ⟨o, keep p o z (s1 _ _ e)⟩
    refine ⟨_, rfl, S, w2, rfl, S2, ((hw w2 (by simp)).dat (Dat.of s1)).dat t2, fun v2 H3 s3 k2 => ⟨_, rfl, a, C, rfl, T, n1, .inr ⟨d, _, s3 _ _ ea, s3 _ _ ed, (by show 1 ≤ 900; decide), ?_⟩⟩⟩
    have t4 : Dat S H3 (upd H3 d (exd d [("why", v2), ("ballot", v1)])) := Dat.erd (s3 _ _ ed)
    have ed4 : (upd H3 d (exd d [("why", v2), ("ballot", v1)])) d = some (exd d [("why", v2), ("ballot", v1)]) := upd_same
    have ea4 : (upd H3 d (exd d [("why", v2), ("ballot", v1)])) a = some (exo a C (some d)) := by rw [upd_ne (Ne.symm ne)]; exact s3 _ _ ea
    refine ⟨_, rfl, a, C, rfl, T, nC, .inr ⟨d, _, ea4, ed4, (by show 2 ≤ 900; decide), ?_⟩⟩
    refine q _ d [v1, v2] nd0 (fun p o n h => ?_) (by rw [upd_ne (Ne.symm ne)]; exact ea4) upd_same rfl (fun j u w e1 e2 => ?_)
    · rw [upd_ne (ne_of_none h nd0), upd_ne (ne_of_none h nd0)]
      exact s3 _ _ (keep p o n (s1 _ _ h))
    · have t5 := Dat.erd (S := S) (u := exd d [("code", .str "Spoiled"), ("why", v2), ("ballot", v1)]) ed4
      rcases two_at e1 with ⟨rfl, rfl⟩ | ⟨rfl, rfl⟩
      · cases e2
        exact (((k1.dat t2).dat (Dat.of s3)).dat t4).dat t5
      · cases e2
        exact (k2.dat t4).dat t5
theorem ok_ini9 {C f : Addr} {fd : FuncData} {fK : Addr} {fdK : FuncData} (F : Fun K "__init__" "BadSizes.__init__" sBadSizesInit f fd) (T : ErrK K C) (nC : PySem.W.findIn K (.ref C) "code" = some none) (n0 : PySem.W.findIn K (.ref C) "number" = some none) (Kp : Cal P w K mg base "kept" 5 ["value"] (spKept K 4) fK fdK) : FnOk P w K mg base CX0 6 f fd ["self", "number"] (spIni K C "BadSizes" ["number"]) := by
  refine F.ok scBadSizesInit (fun vs H Q E h => ?_) (fun cdv A outer s H vs Q E hr h => ?_)
  · obtain ⟨S, a, ws, rfl, l, _⟩ := h
    show ws.length + 1 = _
    rw [l]
    rfl
  · obtain ⟨S, a, ws, rfl, l, ha, hS, hw, q⟩ := h
    obtain ⟨w1, rfl⟩ : ∃ w1, ws = [w1] := by
      match ws, l with
      | [w1], _ => exact ⟨_, rfl⟩
    refine ⟨_, (pss_cons (ps_fldX (pv 0) (pe_call Kp.ok (hr.mono (by omega)) rfl Kp.g Kp.kp Kp.b .nil pass0 (pa_cons (pv 1) pa_nil)))
      (pss_one (ps_fldX (pv 0) pe_str))), ?_⟩
    refine ⟨_, rfl, S, w1, rfl, hS, hw _ (by simp), fun v1 H1 s1 k1 => ⟨_, rfl, a, C, rfl, T, n0, .inl ⟨s1 _ _ ha, fun d nd ne => ?_⟩⟩⟩
    have t2 : Dat S H1 (upd (upd H1 d (exd d [("number", v1)])) a (exo a C (some d))) := Dat.err (s1 _ _ ha) nd
    have ea : (upd (upd H1 d (exd d [("number", v1)])) a (exo a C (some d))) a = some (exo a C (some d)) := upd_same
    have ed : (upd (upd H1 d (exd d [("number", v1)])) a (exo a C (some d))) d = some (exd d [("number", v1)]) := by rw [upd_ne ne, upd_same]
    have keep : ∀ p o, p ≠ a → H1 p = some o → (upd (upd H1 d (exd d [("number", v1)])) a (exo a C (some d))) p = some o := fun p o n h => by
      rw [upd_ne n, upd_ne (ne_of_none h nd)]
      exact h
    generalize (upd (upd H1 d (exd d [("number", v1)])) a (exo a C (some d))) = H2 at t2 ea ed keep ⊢
    have nd0 : H d = none := by
      cases e : H d with
      | none => rfl
      | some o => rw [s1 _ _ e] at nd; cases nd
    refine ⟨_, rfl, a, C, rfl, T, nC, .inr ⟨d, _, ea, ed, (by show 1 ≤ 900; decide), ?_⟩⟩
    refine q _ d [v1] nd0 (fun p o n h => ?_) (by rw [upd_ne (Ne.symm ne)]; exact ea) upd_same rfl (fun j u w e1 e2 => ?_)
    · rw [upd_ne (ne_of_none h nd0)]
      exact keep p o n (s1 _ _ h)
    · obtain ⟨rfl, rfl⟩ := one_at e1
      cases e2
      exact (k1.dat t2).dat (Dat.erd ed)
theorem ok_ini10 {C f : Addr} {fd : FuncData} {fK : Addr} {fdK : FuncData} (F : Fun K "__init__" "BadStaff.__init__" sBadStaffInit f fd) (T : ErrK K C) (nC : PySem.W.findIn K (.ref C) "code" = some none) (n0 : PySem.W.findIn K (.ref C) "bundle" = some none) (Kp : Cal P w K mg base "kept" 5 ["value"] (spKept K 4) fK fdK) : FnOk P w K mg base CX0 6 f fd ["self", "bundle"] (spIni K C "BadStaff" ["bundle"]) := by
  refine F.ok scBadStaffInit (fun vs H Q E h => ?_) (fun cdv A outer s H vs Q E hr h => ?_)
  · obtain ⟨S, a, ws, rfl, l, _⟩ := h
    show ws.length + 1 = _
    rw [l]
    rfl
  · obtain ⟨S, a, ws, rfl, l, ha, hS, hw, q⟩ := h
    obtain ⟨w1, rfl⟩ : ∃ w1, ws = [w1] := by
      match ws, l with
      | [w1], _ => exact ⟨_, rfl⟩
    refine ⟨_, (pss_cons (ps_fldX (pv 0) (pe_call Kp.ok (hr.mono (by omega)) rfl Kp.g Kp.kp Kp.b .nil pass0 (pa_cons (pv 1) pa_nil)))
      (pss_one (ps_fldX (pv 0) pe_str))), ?_⟩
    refine ⟨_, rfl, S, w1, rfl, hS, hw _ (by simp), fun v1 H1 s1 k1 => ⟨_, rfl, a, C, rfl, T, n0, .inl ⟨s1 _ _ ha, fun d nd ne => ?_⟩⟩⟩
    have t2 : Dat S H1 (upd (upd H1 d (exd d [("bundle", v1)])) a (exo a C (some d))) := Dat.err (s1 _ _ ha) nd
    have ea : (upd (upd H1 d (exd d [("bundle", v1)])) a (exo a C (some d))) a = some (exo a C (some d)) := upd_same
    have ed : (upd (upd H1 d (exd d [("bundle", v1)])) a (exo a C (some d))) d = some (exd d [("bundle", v1)]) := by rw [upd_ne ne, upd_same]
    have keep : ∀ p o, p ≠ a → H1 p = some o → (upd (upd H1 d (exd d [("bundle", v1)])) a (exo a C (some d))) p = some o := fun p o n h => by
      rw [upd_ne n, upd_ne (ne_of_none h nd)]
      exact h
    generalize (upd (upd H1 d (exd d [("bundle", v1)])) a (exo a C (some d))) = H2 at t2 ea ed keep ⊢
    have nd0 : H d = none := by
      cases e : H d with
      | none => rfl
      | some o => rw [s1 _ _ e] at nd; cases nd
    refine ⟨_, rfl, a, C, rfl, T, nC, .inr ⟨d, _, ea, ed, (by show 1 ≤ 900; decide), ?_⟩⟩
    refine q _ d [v1] nd0 (fun p o n h => ?_) (by rw [upd_ne (Ne.symm ne)]; exact ea) upd_same rfl (fun j u w e1 e2 => ?_)
    · rw [upd_ne (ne_of_none h nd0)]
      exact keep p o n (s1 _ _ h)
    · obtain ⟨rfl, rfl⟩ := one_at e1
      cases e2
      exact (k1.dat t2).dat (Dat.erd ed)
theorem ok_ini11 {C f : Addr} {fd : FuncData} {fK : Addr} {fdK : FuncData} (F : Fun K "__init__" "TooMany.__init__" sTooManyInit f fd) (T : ErrK K C) (nC : PySem.W.findIn K (.ref C) "code" = some none) (n0 : PySem.W.findIn K (.ref C) "what" = some none) (n1 : PySem.W.findIn K (.ref C) "most" = some none) (Kp : Cal P w K mg base "kept" 5 ["value"] (spKept K 4) fK fdK) : FnOk P w K mg base CX0 6 f fd ["self", "what", "most"] (spIni K C "TooMany" ["what", "most"]) := by
  refine F.ok scTooManyInit (fun vs H Q E h => ?_) (fun cdv A outer s H vs Q E hr h => ?_)
  · obtain ⟨S, a, ws, rfl, l, _⟩ := h
    show ws.length + 1 = _
    rw [l]
    rfl
  · obtain ⟨S, a, ws, rfl, l, ha, hS, hw, q⟩ := h
    obtain ⟨w1, w2, rfl⟩ : ∃ w1 w2, ws = [w1, w2] := by
      match ws, l with
      | [w1, w2], _ => exact ⟨_, _, rfl⟩
    refine ⟨_, (pss_cons (ps_fldX (pv 0) (pe_call Kp.ok (hr.mono (by omega)) rfl Kp.g Kp.kp Kp.b .nil pass0 (pa_cons (pv 1) pa_nil)))
      (pss_cons (ps_fldX (pv 0) (pe_call Kp.ok (hr.mono (by omega)) rfl Kp.g Kp.kp Kp.b .nil pass0 (pa_cons (pv 2) pa_nil)))
      (pss_one (ps_fldX (pv 0) pe_str)))), ?_⟩
    refine ⟨_, rfl, S, w1, rfl, hS, hw _ (by simp), fun v1 H1 s1 k1 => ⟨_, rfl, a, C, rfl, T, n0, .inl ⟨s1 _ _ ha, fun d nd ne => ?_⟩⟩⟩
    have t2 : Dat S H1 (upd (upd H1 d (exd d [("what", v1)])) a (exo a C (some d))) := Dat.err (s1 _ _ ha) nd
    have ea : (upd (upd H1 d (exd d [("what", v1)])) a (exo a C (some d))) a = some (exo a C (some d)) := upd_same
    have ed : (upd (upd H1 d (exd d [("what", v1)])) a (exo a C (some d))) d = some (exd d [("what", v1)]) := by rw [upd_ne ne, upd_same]
    have keep : ∀ p o, p ≠ a → H1 p = some o → (upd (upd H1 d (exd d [("what", v1)])) a (exo a C (some d))) p = some o := fun p o n h => by
      rw [upd_ne n, upd_ne (ne_of_none h nd)]
      exact h
    generalize (upd (upd H1 d (exd d [("what", v1)])) a (exo a C (some d))) = H2 at t2 ea ed keep ⊢
    have nd0 : H d = none := by
      cases e : H d with
      | none => rfl
      | some o => rw [s1 _ _ e] at nd; cases nd
    have S2 : Std H2 S := fun p m => by
      obtain ⟨o, e⟩ := hS p m
      by_cases z : p = a
      · exact ⟨_, z ▸ ea⟩
      · exact ⟨o, keep p o z (s1 _ _ e)⟩
    refine ⟨_, rfl, S, w2, rfl, S2, ((hw w2 (by simp)).dat (Dat.of s1)).dat t2, fun v2 H3 s3 k2 => ⟨_, rfl, a, C, rfl, T, n1, .inr ⟨d, _, s3 _ _ ea, s3 _ _ ed, (by show 1 ≤ 900; decide), ?_⟩⟩⟩
    have t4 : Dat S H3 (upd H3 d (exd d [("most", v2), ("what", v1)])) := Dat.erd (s3 _ _ ed)
    have ed4 : (upd H3 d (exd d [("most", v2), ("what", v1)])) d = some (exd d [("most", v2), ("what", v1)]) := upd_same
    have ea4 : (upd H3 d (exd d [("most", v2), ("what", v1)])) a = some (exo a C (some d)) := by rw [upd_ne (Ne.symm ne)]; exact s3 _ _ ea
    refine ⟨_, rfl, a, C, rfl, T, nC, .inr ⟨d, _, ea4, ed4, (by show 2 ≤ 900; decide), ?_⟩⟩
    refine q _ d [v1, v2] nd0 (fun p o n h => ?_) (by rw [upd_ne (Ne.symm ne)]; exact ea4) upd_same rfl (fun j u w e1 e2 => ?_)
    · rw [upd_ne (ne_of_none h nd0), upd_ne (ne_of_none h nd0)]
      exact s3 _ _ (keep p o n (s1 _ _ h))
    · have t5 := Dat.erd (S := S) (u := exd d [("code", .str "TooMany"), ("most", v2), ("what", v1)]) ed4
      rcases two_at e1 with ⟨rfl, rfl⟩ | ⟨rfl, rfl⟩
      · cases e2
        exact (((k1.dat t2).dat (Dat.of s3)).dat t4).dat t5
      · cases e2
        exact (k2.dat t4).dat t5
theorem ok_ini12 {C f : Addr} {fd : FuncData} {fK : Addr} {fdK : FuncData} (F : Fun K "__init__" "NoName.__init__" sNoNameInit f fd) (T : ErrK K C) (nC : PySem.W.findIn K (.ref C) "code" = some none) (n0 : PySem.W.findIn K (.ref C) "word" = some none) (Kp : Cal P w K mg base "kept" 5 ["value"] (spKept K 4) fK fdK) : FnOk P w K mg base CX0 6 f fd ["self", "word"] (spIni K C "NoName" ["word"]) := by
  refine F.ok scNoNameInit (fun vs H Q E h => ?_) (fun cdv A outer s H vs Q E hr h => ?_)
  · obtain ⟨S, a, ws, rfl, l, _⟩ := h
    show ws.length + 1 = _
    rw [l]
    rfl
  · obtain ⟨S, a, ws, rfl, l, ha, hS, hw, q⟩ := h
    obtain ⟨w1, rfl⟩ : ∃ w1, ws = [w1] := by
      match ws, l with
      | [w1], _ => exact ⟨_, rfl⟩
    refine ⟨_, (pss_cons (ps_fldX (pv 0) (pe_call Kp.ok (hr.mono (by omega)) rfl Kp.g Kp.kp Kp.b .nil pass0 (pa_cons (pv 1) pa_nil)))
      (pss_one (ps_fldX (pv 0) pe_str))), ?_⟩
    refine ⟨_, rfl, S, w1, rfl, hS, hw _ (by simp), fun v1 H1 s1 k1 => ⟨_, rfl, a, C, rfl, T, n0, .inl ⟨s1 _ _ ha, fun d nd ne => ?_⟩⟩⟩
    have t2 : Dat S H1 (upd (upd H1 d (exd d [("word", v1)])) a (exo a C (some d))) := Dat.err (s1 _ _ ha) nd
    have ea : (upd (upd H1 d (exd d [("word", v1)])) a (exo a C (some d))) a = some (exo a C (some d)) := upd_same
    have ed : (upd (upd H1 d (exd d [("word", v1)])) a (exo a C (some d))) d = some (exd d [("word", v1)]) := by rw [upd_ne ne, upd_same]
    have keep : ∀ p o, p ≠ a → H1 p = some o → (upd (upd H1 d (exd d [("word", v1)])) a (exo a C (some d))) p = some o := fun p o n h => by
      rw [upd_ne n, upd_ne (ne_of_none h nd)]
      exact h
    generalize (upd (upd H1 d (exd d [("word", v1)])) a (exo a C (some d))) = H2 at t2 ea ed keep ⊢
    have nd0 : H d = none := by
      cases e : H d with
      | none => rfl
      | some o => rw [s1 _ _ e] at nd; cases nd
    refine ⟨_, rfl, a, C, rfl, T, nC, .inr ⟨d, _, ea, ed, (by show 1 ≤ 900; decide), ?_⟩⟩
    refine q _ d [v1] nd0 (fun p o n h => ?_) (by rw [upd_ne (Ne.symm ne)]; exact ea) upd_same rfl (fun j u w e1 e2 => ?_)
    · rw [upd_ne (ne_of_none h nd0)]
      exact keep p o n (s1 _ _ h)
    · obtain ⟨rfl, rfl⟩ := one_at e1
      cases e2
      exact (k1.dat t2).dat (Dat.erd ed)
theorem ok_ini13 {C f : Addr} {fd : FuncData} {k : Nat} (F : Fun K "__init__" "Ended.__init__" sEndedInit f fd) (T : ErrK K C) (nC : PySem.W.findIn K (.ref C) "code" = some none)  : FnOk P w K mg base CX0 (k + 1) f fd ["self"] (spIni K C "Ended" []) := by
  refine F.ok scEndedInit (fun vs H Q E h => ?_) (fun cdv A outer s H vs Q E hr h => ?_)
  · obtain ⟨S, a, ws, rfl, l, _⟩ := h
    show ws.length + 1 = _
    rw [l]
    rfl
  · obtain ⟨S, a, ws, rfl, l, ha, hS, hw, q⟩ := h
    obtain rfl := List.eq_nil_of_length_eq_zero l
    refine ⟨_, (pss_one (ps_fldX (pv 0) pe_str)), ?_⟩
    refine ⟨_, rfl, a, C, rfl, T, nC, .inl ⟨ha, fun d nd ne => ?_⟩⟩
    refine q _ d [] nd (fun p o n h => ?_) upd_same (by rw [upd_ne ne, upd_same]; rfl) rfl (fun j u w e => by simp at e)
    rw [upd_ne n, upd_ne (ne_of_none h nd)]
    exact h
theorem ok_ini14 {C f : Addr} {fd : FuncData} {fK : Addr} {fdK : FuncData} (F : Fun K "__init__" "Closed.__init__" sClosedInit f fd) (T : ErrK K C) (nC : PySem.W.findIn K (.ref C) "code" = some none) (n0 : PySem.W.findIn K (.ref C) "place" = some none) (Kp : Cal P w K mg base "kept" 5 ["value"] (spKept K 4) fK fdK) : FnOk P w K mg base CX0 6 f fd ["self", "place"] (spIni K C "Closed" ["place"]) := by
  refine F.ok scClosedInit (fun vs H Q E h => ?_) (fun cdv A outer s H vs Q E hr h => ?_)
  · obtain ⟨S, a, ws, rfl, l, _⟩ := h
    show ws.length + 1 = _
    rw [l]
    rfl
  · obtain ⟨S, a, ws, rfl, l, ha, hS, hw, q⟩ := h
    obtain ⟨w1, rfl⟩ : ∃ w1, ws = [w1] := by
      match ws, l with
      | [w1], _ => exact ⟨_, rfl⟩
    refine ⟨_, (pss_cons (ps_fldX (pv 0) (pe_call Kp.ok (hr.mono (by omega)) rfl Kp.g Kp.kp Kp.b .nil pass0 (pa_cons (pv 1) pa_nil)))
      (pss_one (ps_fldX (pv 0) pe_str))), ?_⟩
    refine ⟨_, rfl, S, w1, rfl, hS, hw _ (by simp), fun v1 H1 s1 k1 => ⟨_, rfl, a, C, rfl, T, n0, .inl ⟨s1 _ _ ha, fun d nd ne => ?_⟩⟩⟩
    have t2 : Dat S H1 (upd (upd H1 d (exd d [("place", v1)])) a (exo a C (some d))) := Dat.err (s1 _ _ ha) nd
    have ea : (upd (upd H1 d (exd d [("place", v1)])) a (exo a C (some d))) a = some (exo a C (some d)) := upd_same
    have ed : (upd (upd H1 d (exd d [("place", v1)])) a (exo a C (some d))) d = some (exd d [("place", v1)]) := by rw [upd_ne ne, upd_same]
    have keep : ∀ p o, p ≠ a → H1 p = some o → (upd (upd H1 d (exd d [("place", v1)])) a (exo a C (some d))) p = some o := fun p o n h => by
      rw [upd_ne n, upd_ne (ne_of_none h nd)]
      exact h
    generalize (upd (upd H1 d (exd d [("place", v1)])) a (exo a C (some d))) = H2 at t2 ea ed keep ⊢
    have nd0 : H d = none := by
      cases e : H d with
      | none => rfl
      | some o => rw [s1 _ _ e] at nd; cases nd
    refine ⟨_, rfl, a, C, rfl, T, nC, .inr ⟨d, _, ea, ed, (by show 1 ≤ 900; decide), ?_⟩⟩
    refine q _ d [v1] nd0 (fun p o n h => ?_) (by rw [upd_ne (Ne.symm ne)]; exact ea) upd_same rfl (fun j u w e1 e2 => ?_)
    · rw [upd_ne (ne_of_none h nd0)]
      exact keep p o n (s1 _ _ h)
    · obtain ⟨rfl, rfl⟩ := one_at e1
      cases e2
      exact (k1.dat t2).dat (Dat.erd ed)
end
end My

set_option Elab.async false
set_option linter.all false
set_option maxRecDepth 100000
namespace My
open PySem PySem.Spec PyProof.Rows L2
/-! the fifteen classes and what is known of them -/
def cn : Nat → Str
  | 0 => "InvalidName" | 1 => "InvalidNumber" | 2 => "InvalidNames" | 3 => "InvalidLot" | 4 => "InvalidRoll" | 5 => "InvalidEntry" | 6 => "InvalidText" | 7 => "BadRule" | 8 => "Spoiled" | 9 => "BadSizes" | 10 => "BadStaff" | 11 => "TooMany" | 12 => "NoName" | 13 => "Ended" | _ => "Closed"
def fl : Nat → List Str
  | 0 => ["value"] | 1 => ["value"] | 2 => ["at"] | 3 => [] | 4 => ["at"] | 5 => ["at"] | 6 => ["line", "why"] | 7 => ["line", "what"] | 8 => ["ballot", "why"] | 9 => ["number"] | 10 => ["bundle"] | 11 => ["what", "most"] | 12 => ["word"] | 13 => [] | _ => ["place"]
def tl (i : Nat) : List Value := if i < 12 then [.type "ValueError", .type "Exception", .type "BaseException", .type "object"] else if i = 12 then [.type "LookupError", .type "Exception", .type "BaseException", .type "object"] else [.type "RuntimeError", .type "Exception", .type "BaseException", .type "object"]
structure Errs (K : PySem.W.Frag) (mg : Str → Option Value) (C : Nat → Addr) (E M L : Addr) : Prop where
  g : ∀ i, i < 15 → mg (cn i) = some (.ref (C i))
  k : ∀ i, i < 15 → ErrK K (C i)
  par : ∀ i, i < 15 → ∃ cd, PySem.W.clsIn K (C i) = some cd ∧ cd.mro = .ref (C i) :: .ref (if i < 12 then E else if i = 12 then M else L) :: tl i
  nc : ∀ i, i < 15 → PySem.W.findIn K (.ref (C i)) "code" = some none
  nf : ∀ i, i < 15 → ∀ x ∈ fl i, PySem.W.findIn K (.ref (C i)) x = some none
  inj : ∀ i j, i < 15 → j < 15 → C i = C j → i = j
  sE : ∀ i, i < 15 → C i ≠ E
  sM : ∀ i, i < 15 → C i ≠ M
  sL : ∀ i, i < 15 → C i ≠ L
  EM : E ≠ M
  EL : E ≠ L
  ML : M ≠ L
  gE : mg "CountError" = some (.ref E)
  gM : mg "Missing" = some (.ref M)
  gL : mg "TooLate" = some (.ref L)
  hE : PySem.W.hasDictIn K E = true ∧ PySem.W.typeIn K (.ref E) = some (.type "type") ∧ PySem.W.subIn K (.ref E) (.type "BaseException") = some true
  hM : PySem.W.hasDictIn K M = true ∧ PySem.W.typeIn K (.ref M) = some (.type "type") ∧ PySem.W.subIn K (.ref M) (.type "BaseException") = some true
  hL : PySem.W.hasDictIn K L = true ∧ PySem.W.typeIn K (.ref L) = some (.type "type") ∧ PySem.W.subIn K (.ref L) (.type "BaseException") = some true
section
variable {K : PySem.W.Frag} {mg : Str → Option Value} {C : Nat → Addr} {E M L : Addr}
theorem isc_of {K : PySem.W.Frag} {C : Addr} (h : PySem.W.hasDictIn K C = true) : (PySem.W.clsIn K C).isSome = true := by
  obtain ⟨cd, hc, _⟩ := PySem.W.any_some h
  rw [hc]
  rfl
theorem kit_cl {K : PySem.W.Frag} {C : Addr} {v : Value} {b : Bool} (h : PySem.W.hasDictIn K C = true) (t : PySem.W.typeIn K (.ref C) = some (.type "type")) (s : PySem.W.subIn K v (.ref C) = some b) : PySem.W.kitCls K v (.ref C) = some b := by
  unfold PySem.W.kitCls
  dsimp only
  rw [isc_of h, t]
  exact s
theorem kit_go {K : PySem.W.Frag} {C D : Addr} {b : Bool} (n : D = C → b = true) (h : PySem.W.hasDictIn K C = true) (t : PySem.W.typeIn K (.ref C) = some (.type "type")) (s : PySem.W.subIn K (.ref D) (.ref C) = some b) : PySem.W.kitOne K (.ref D) (.ref C) = some b := by
  unfold PySem.W.kitOne
  split
  · rename_i e
    rw [n (Value.ref.inj (beq_iff_eq.mp e))]
  · exact kit_cl h t s
theorem tl_ref (i : Nat) (D : Addr) : (tl i).contains (.ref D) = false := by
  unfold tl
  split
  · rfl
  · split <;> rfl
theorem Errs.sub (T : Errs K mg C E M L) {i : Nat} (h : i < 15) (D : Addr) : PySem.W.subIn K (.ref (C i)) (.ref D) = some (decide (D = C i) || decide (D = if i < 12 then E else if i = 12 then M else L)) := by
  obtain ⟨cd, hc, hm⟩ := T.par i h
  show PySem.W.mroIn K (C i) (.ref D) = _
  unfold PySem.W.mroIn
  rw [hc, Option.bind_some, hm, if_neg (by simp)]
  rw [List.contains_cons, List.contains_cons, tl_ref, Bool.or_false]
  congr 1
  have e : ∀ a b : Addr, (Value.ref a == Value.ref b) = decide (a = b) := fun a b => by
    by_cases z : a = b
    · rw [z, decide_eq_true rfl]
      exact beq_self_eq_true _
    · rw [decide_eq_false z]
      exact beq_eq_false_iff_ne.mpr fun y => z (Value.ref.inj y)
  rw [e, e]
theorem Errs.subT (T : Errs K mg C E M L) {i : Nat} (h : i < 15) (t : String) : PySem.W.subIn K (.ref (C i)) (.type t) = some ((tl i).contains (.type t)) := by
  obtain ⟨cd, hc, hm⟩ := T.par i h
  show PySem.W.mroIn K (C i) (.type t) = _
  unfold PySem.W.mroIn
  rw [hc, Option.bind_some, hm, if_neg (by simp)]
  rfl
/-- isinstance(e, one of the fifteen) -/
theorem Errs.own (T : Errs K mg C E M L) {i j : Nat} (h : i < 15) (h' : j < 15) : PySem.W.kitOne K (.ref (C i)) (.ref (C j)) = some (decide (i = j)) := by
  have z := T.sub h (C j)
  have e1 : decide (C j = C i) = decide (i = j) := by
    by_cases y : i = j
    · rw [y, decide_eq_true rfl, decide_eq_true rfl]
    · rw [decide_eq_false y, decide_eq_false fun w => y (T.inj _ _ h' h w).symm]
  have e2 : decide (C j = if i < 12 then E else if i = 12 then M else L) = false := by
    rw [decide_eq_false_iff_not]
    split
    · exact T.sE j h'
    · split
      · exact T.sM j h'
      · exact T.sL j h'
  rw [e1, e2, Bool.or_false] at z
  exact kit_go (fun e => by rw [T.inj _ _ h h' e, decide_eq_true rfl]) (T.k j h').x.hdC (T.k j h').tyC z
theorem Errs.isE (T : Errs K mg C E M L) {i : Nat} (h : i < 15) : PySem.W.subIn K (.ref (C i)) (.ref E) = some (decide (i < 12)) := by
  rw [T.sub h E, decide_eq_false (Ne.symm (T.sE i h)), Bool.false_or]
  congr 1
  by_cases y : i < 12
  · rw [if_pos y, decide_eq_true rfl, decide_eq_true y]
  · rw [if_neg y, decide_eq_false y, decide_eq_false_iff_not]
    split
    · exact T.EM
    · exact T.EL
theorem Errs.isM (T : Errs K mg C E M L) {i : Nat} (h : i < 15) : PySem.W.subIn K (.ref (C i)) (.ref M) = some (decide (i = 12)) := by
  rw [T.sub h M, decide_eq_false (Ne.symm (T.sM i h)), Bool.false_or]
  congr 1
  by_cases y : i < 12
  · rw [if_pos y, decide_eq_false (Ne.symm T.EM), decide_eq_false (by omega)]
  · rw [if_neg y]
    by_cases y2 : i = 12
    · rw [if_pos y2, decide_eq_true rfl, decide_eq_true y2]
    · rw [if_neg y2, decide_eq_false T.ML, decide_eq_false y2]
theorem Errs.isL (T : Errs K mg C E M L) {i : Nat} (h : i < 15) : PySem.W.subIn K (.ref (C i)) (.ref L) = some (decide (12 < i)) := by
  rw [T.sub h L, decide_eq_false (Ne.symm (T.sL i h)), Bool.false_or]
  congr 1
  by_cases y : i < 12
  · rw [if_pos y, decide_eq_false (Ne.symm T.EL), decide_eq_false (by omega)]
  · rw [if_neg y]
    by_cases y2 : i = 12
    · rw [if_pos y2, decide_eq_false (Ne.symm T.ML), decide_eq_false (by omega)]
    · rw [if_neg y2, decide_eq_true rfl, decide_eq_true (by omega)]
theorem Errs.kE (T : Errs K mg C E M L) {i : Nat} (h : i < 15) : PySem.W.kitOne K (.ref (C i)) (.ref E) = some (decide (i < 12)) := kit_go (fun e => (T.sE i h e).elim) T.hE.1 T.hE.2.1 (T.isE h)
theorem Errs.kM (T : Errs K mg C E M L) {i : Nat} (h : i < 15) : PySem.W.kitOne K (.ref (C i)) (.ref M) = some (decide (i = 12)) := kit_go (fun e => (T.sM i h e).elim) T.hM.1 T.hM.2.1 (T.isM h)
theorem Errs.kL (T : Errs K mg C E M L) {i : Nat} (h : i < 15) : PySem.W.kitOne K (.ref (C i)) (.ref L) = some (decide (12 < i)) := kit_go (fun e => (T.sL i h e).elim) T.hL.1 T.hL.2.1 (T.isL h)
theorem Errs.xE (T : Errs K mg C E M L) {i : Nat} (h : i < 15) : PySem.W.exmOne K (.ref (C i)) (.ref E) = some (decide (i < 12)) := PySem.W.exm_ref T.hE.2.2 T.hE.1 T.hE.2.1 (T.isE h)
theorem Errs.xM (T : Errs K mg C E M L) {i : Nat} (h : i < 15) : PySem.W.exmOne K (.ref (C i)) (.ref M) = some (decide (i = 12)) := PySem.W.exm_ref T.hM.2.2 T.hM.1 T.hM.2.1 (T.isM h)
theorem Errs.xL (T : Errs K mg C E M L) {i : Nat} (h : i < 15) : PySem.W.exmOne K (.ref (C i)) (.ref L) = some (decide (12 < i)) := PySem.W.exm_ref T.hL.2.2 T.hL.1 T.hL.2.1 (T.isL h)
theorem kitT_go {D : Addr} {t : String} {b : Bool} (m : PySem.W.kitMeta t = true) (s : PySem.W.subIn K (.ref D) (.type t) = some b) : PySem.W.kitOne K (.ref D) (.type t) = some b := by
  unfold PySem.W.kitOne
  rw [if_neg (by intro z; cases z)]
  show (if PySem.W.kitMeta t = true then _ else _) = _
  rw [if_pos m]
  exact s
theorem Errs.tV (T : Errs K mg C E M L) {i : Nat} (h : i < 15) : PySem.W.kitOne K (.ref (C i)) (.type "ValueError") = some (decide (i < 12)) := kitT_go (by decide +kernel) (by
  rw [T.subT h]
  congr 1
  unfold tl
  by_cases y : i < 12
  · rw [if_pos y, decide_eq_true y]; rfl
  · rw [if_neg y, decide_eq_false y]; split <;> rfl)
theorem Errs.tL (T : Errs K mg C E M L) {i : Nat} (h : i < 15) : PySem.W.kitOne K (.ref (C i)) (.type "LookupError") = some (decide (i = 12)) := kitT_go (by decide +kernel) (by
  rw [T.subT h]
  congr 1
  unfold tl
  by_cases y : i < 12
  · rw [if_pos y, decide_eq_false (by omega)]; rfl
  · rw [if_neg y]
    by_cases y2 : i = 12
    · rw [if_pos y2, decide_eq_true y2]; rfl
    · rw [if_neg y2, decide_eq_false y2]; rfl)
theorem Errs.tR (T : Errs K mg C E M L) {i : Nat} (h : i < 15) : PySem.W.kitOne K (.ref (C i)) (.type "RuntimeError") = some (decide (12 < i)) := kitT_go (by decide +kernel) (by
  rw [T.subT h]
  congr 1
  unfold tl
  by_cases y : i < 12
  · rw [if_pos y, decide_eq_false (by omega)]; rfl
  · rw [if_neg y]
    by_cases y2 : i = 12
    · rw [if_pos y2, decide_eq_false (by omega)]; rfl
    · rw [if_neg y2, decide_eq_true (by omega)]; rfl)
/-- isinstance(e, (C, D, ..)) of the fifteen -/
theorem Errs.any (T : Errs K mg C E M L) {i : Nat} (h : i < 15) : ∀ js : List Nat, (∀ j ∈ js, j < 15) → PySem.W.kitAny K (.ref (C i)) (js.map fun j => Value.ref (C j)) = some (decide (i ∈ js))
  | [], _ => rfl
  | j :: js, hj => by
    refine kitAny_cons (T.own h (hj j List.mem_cons_self)) (fun b => ?_) (fun b => ?_)
    · rw [T.any h js fun x m => hj x (List.mem_cons_of_mem _ m)]
      congr 1
      have n : i ≠ j := of_decide_eq_false b
      simp [n]
    · rw [of_decide_eq_true b]
      simp
end
/-- an error of the i-th class at r, whose fields are like xs -/
def Made (K : PySem.W.Frag) (H : Hp) (S : List Addr) (C : Nat → Addr) (i : Nat) (xs : List V) (r : V) : Prop := ∃ (a d : Addr) (ws : List V), r = .ref a ∧ H a = some (exo a (C i) (some d)) ∧ H d = some (exd d (("code", .str (cn i)) :: ((fl i).zip ws).reverse)) ∧ ws.length = (fl i).length ∧
  ∀ (j : Nat) u w, ws[j]? = some u → xs[j]? = some w → LkB K H S 4 u w
/-- errors stay too -/
def Dax (S : List Addr) (H H' : Hp) : Prop := Dat S H H' ∧ ∀ p o φ, H p = some o → o = .ext φ → H' p = some o
theorem Dax.of {S : List Addr} {H H' : Hp} (s : Same H H') : Dax S H H' := ⟨Dat.of s, fun p o _ h _ => s p o h⟩
theorem Dax.trans {S : List Addr} {H H1 H2 : Hp} (x : Dax S H H1) (y : Dax S H1 H2) : Dax S H H2 := ⟨x.1.trans y.1, fun p o φ h e => y.2 p o φ (x.2 p o φ h e) e⟩
theorem Dax.but {S : List Addr} {b : Addr} {H H' : Hp} {ys : List V} (m : b ∈ S) (hb : H b = some (.lst ys)) (s : But b H H') : Dax S H H' := ⟨Dat.but m s, fun p o φ h e => s p o (fun z => by
  rw [z, hb] at h
  cases h
  cases e) h⟩
theorem Made.dax {K : PySem.W.Frag} {H H' : Hp} {S : List Addr} {C : Nat → Addr} {i : Nat} {xs : List V} {r : V} (t : Dax S H H') (h : Made K H S C i xs r) : Made K H' S C i xs r := by
  obtain ⟨a, d, ws, e, ea, ed, l, k⟩ := h
  exact ⟨a, d, ws, e, t.2 _ _ _ ea rfl, t.2 _ _ _ ed rfl, l, fun j u w e1 e2 => (k j u w e1 e2).dat t.1⟩
end My

set_option Elab.async false
set_option linter.all false
set_option maxRecDepth 100000
namespace My
open PySem PySem.Spec PyProof.Rows L2
/-! the errors' values, asked -/
abbrev sLawValues : Stmt := topS 29
theorem scLawValues : FnScope ["e"] ["e"] (defScope sLawValues) := ⟨rfl, rfl, rfl, by decide +kernel, rfl, by decide +kernel, by decide +kernel⟩
abbrev sLawKinds : Stmt := topS 30
theorem scLawKinds : FnScope ["e", "some"] ["e"] (defScope sLawKinds) := ⟨rfl, rfl, rfl, by decide +kernel, rfl, by decide +kernel, by decide +kernel⟩
abbrev sLawBases : Stmt := topS 31
theorem scLawBases : FnScope ["e", "some"] ["e"] (defScope sLawBases) := ⟨rfl, rfl, rfl, by decide +kernel, rfl, by decide +kernel, by decide +kernel⟩
theorem EV.same {pn : List (Addr × Obj)} {H H' : Hp} {a C : Addr} {fs : List (Str × V)} (h : EV pn H a C fs) (s : Same H H') : EV pn H' a C fs := by
  cases h with
  | cold e f => exact .cold (s _ _ e) (s _ _ f)
  | pin m z v f => exact .pin m z v (s _ _ f)
/-- the fields of an error as the law lists them -/
def spValues (K : PySem.W.Frag) (C : Nat → Addr) : Sp := fun vs H Q _ => ∃ (S : List Addr) (i : Nat) (xs : List V) (r : V), vs = [r] ∧ i < 15 ∧ Made K H S C i xs r ∧
  ∀ l ws H', Same H H' → H l = none → H' l = some (.lst ws) → ws.length = (fl i).length → (∀ (j : Nat) u w, ws[j]? = some u → xs[j]? = some w → LkB K H' S 4 u w) → Q (.ref l) H'
def spValuesP (K : PySem.W.Frag) (C : Nat → Addr) : Addr × Obj → Sp := fun p vs H Q _ => ∃ (S : List Addr) (i : Nat) (xs ws : List V) (d : Addr), vs = [.ref p.1] ∧ i < 15 ∧ Zc (.ref (C i)) (some d) p.2 ∧ (∃ us, p.2.data = .fields us) ∧ H d = some (.xd (("code", .str (cn i)) :: ((fl i).zip ws).reverse)) ∧ ws.length = (fl i).length ∧ (∀ (j : Nat) u w, ws[j]? = some u → xs[j]? = some w → LkB K H S 4 u w) ∧
  ∀ l H', Same H H' → H l = none → H' l = some (.lst ws) → Q (.ref l) H'
theorem len1 {ws : List V} (h : ws.length = 1) : ∃ v, ws = [v] := by
  match ws, h with
  | [v], _ => exact ⟨v, rfl⟩
theorem len2 {ws : List V} (h : ws.length = 2) : ∃ v u, ws = [v, u] := by
  match ws, h with
  | [v, u], _ => exact ⟨v, u, rfl⟩
section
variable {P : Program} {w : World} {K : PySem.W.Frag} {mg : Str → Option Value} {base : Heap} {C : Nat → Addr} {aE aM aL : Addr}
theorem ok_values {f : Addr} {fd : FuncData} {k : Nat} (F : Fun K "_law_values" "_law_values" sLawValues f fd) (T : Errs K mg C aE aM aL) (b_isinstance : mg "isinstance" = none) : FnOk P w K mg base CX0 (k + 1) f fd ["e"] (spValues K C) := by
  refine F.ok scLawValues (fun vs H Q E h => ?_) (fun cdv A outer s H vs Q E hr h => ?_)
  · obtain ⟨S, i, xs, r, rfl, _⟩ := h
    rfl
  · obtain ⟨S, i, xs, r, rfl, hi, ⟨a, d, ws, rfl, ea, ed, lw, kl⟩, q⟩ := h
    refine ⟨_, (pss_cons (ps_if (pt_val (pe_callB call_isXT rfl b_isinstance (by decide +kernel) (pa_cons (pv 0) (pa_cons (pe_tup (pa_cons (pe_glob (v := .ref (C 0)) rfl (T.g 0 (by decide)) rfl) (pa_cons (pe_glob (v := .ref (C 1)) rfl (T.g 1 (by decide)) rfl) pa_nil))) pa_nil)))) (pss_one (ps_ret (pe_lst (pa_cons (pe_exf (pv 0)) pa_nil)))) pss_nil)
      (pss_cons (ps_if (pt_val (pe_callB call_isXT rfl b_isinstance (by decide +kernel) (pa_cons (pv 0) (pa_cons (pe_tup (pa_cons (pe_glob (v := .ref (C 2)) rfl (T.g 2 (by decide)) rfl) (pa_cons (pe_glob (v := .ref (C 4)) rfl (T.g 4 (by decide)) rfl) (pa_cons (pe_glob (v := .ref (C 5)) rfl (T.g 5 (by decide)) rfl) pa_nil)))) pa_nil)))) (pss_one (ps_ret (pe_lst (pa_cons (pe_exf (pv 0)) pa_nil)))) pss_nil)
      (pss_cons (ps_if (pt_val (pe_callB call_isX rfl b_isinstance (by decide +kernel) (pa_cons (pv 0) (pa_cons (pe_glob (v := .ref (C 6)) rfl (T.g 6 (by decide)) rfl) pa_nil)))) (pss_one (ps_ret (pe_lst (pa_cons (pe_exf (pv 0)) (pa_cons (pe_exf (pv 0)) pa_nil))))) pss_nil)
      (pss_cons (ps_if (pt_val (pe_callB call_isX rfl b_isinstance (by decide +kernel) (pa_cons (pv 0) (pa_cons (pe_glob (v := .ref (C 7)) rfl (T.g 7 (by decide)) rfl) pa_nil)))) (pss_one (ps_ret (pe_lst (pa_cons (pe_exf (pv 0)) (pa_cons (pe_exf (pv 0)) pa_nil))))) pss_nil)
      (pss_cons (ps_if (pt_val (pe_callB call_isX rfl b_isinstance (by decide +kernel) (pa_cons (pv 0) (pa_cons (pe_glob (v := .ref (C 8)) rfl (T.g 8 (by decide)) rfl) pa_nil)))) (pss_one (ps_ret (pe_lst (pa_cons (pe_exf (pv 0)) (pa_cons (pe_exf (pv 0)) pa_nil))))) pss_nil)
      (pss_cons (ps_if (pt_val (pe_callB call_isX rfl b_isinstance (by decide +kernel) (pa_cons (pv 0) (pa_cons (pe_glob (v := .ref (C 9)) rfl (T.g 9 (by decide)) rfl) pa_nil)))) (pss_one (ps_ret (pe_lst (pa_cons (pe_exf (pv 0)) pa_nil)))) pss_nil)
      (pss_cons (ps_if (pt_val (pe_callB call_isX rfl b_isinstance (by decide +kernel) (pa_cons (pv 0) (pa_cons (pe_glob (v := .ref (C 10)) rfl (T.g 10 (by decide)) rfl) pa_nil)))) (pss_one (ps_ret (pe_lst (pa_cons (pe_exf (pv 0)) pa_nil)))) pss_nil)
      (pss_cons (ps_if (pt_val (pe_callB call_isX rfl b_isinstance (by decide +kernel) (pa_cons (pv 0) (pa_cons (pe_glob (v := .ref (C 11)) rfl (T.g 11 (by decide)) rfl) pa_nil)))) (pss_one (ps_ret (pe_lst (pa_cons (pe_exf (pv 0)) (pa_cons (pe_exf (pv 0)) pa_nil))))) pss_nil)
      (pss_cons (ps_if (pt_val (pe_callB call_isX rfl b_isinstance (by decide +kernel) (pa_cons (pv 0) (pa_cons (pe_glob (v := .ref (C 12)) rfl (T.g 12 (by decide)) rfl) pa_nil)))) (pss_one (ps_ret (pe_lst (pa_cons (pe_exf (pv 0)) pa_nil)))) pss_nil)
      (pss_one (ps_ret (pe_ifExp (pt_val (pe_callB call_isX rfl b_isinstance (by decide +kernel) (pa_cons (pv 0) (pa_cons (pe_glob (v := .ref (C 14)) rfl (T.g 14 (by decide)) rfl) pa_nil)))) (pe_lst (pa_cons (pe_exf (pv 0)) pa_nil)) (pe_lst pa_nil))))))))))))), ?_⟩
    have ev : EV [] H a (C i) (("code", .str (cn i)) :: ((fl i).zip ws).reverse) := .cold ea ed
    have fin : ∀ {G : Hp} (l : Addr), G l = none → Same H G → Q (.ref l) (upd G l (.lst ws)) := fun {G} l nl t => q l ws _ (t.trans (same_upd nl)) (t.free nl) upd_same lw fun j u w e1 e2 => (kl j u w e1 e2).dat (Dat.of (t.trans (same_upd nl)))
    refine ⟨_, rfl, (by show 2 ≤ sizeLine; decide), fun tp0 ntp0 => ⟨a, C i, tp0, _, _, _, _, rfl, ev.same ((Same.refl _).trans (same_upd ntp0)), T.k i hi, upd_same, .cons (.own _) (.cons (.own _) .nil), T.any hi [0, 1] (by decide), _, rfl, ite2 (fun c => ?_) (fun c => ?_)⟩⟩
    · have z : i = 0 ∨ i = 1 := by simpa using of_decide_eq_true c
      rcases z with rfl | rfl
      · obtain ⟨v, rfl⟩ := len1 lw
        exact ⟨_, rfl, a, C 0, _, _, rfl, ev.same (((Same.refl _).trans (same_upd ntp0))), T.k 0 (by decide), T.nf 0 (by decide) "value" List.mem_cons_self, rfl, (by show 1 ≤ sizeLine; decide), fun l nl => fin l nl (((Same.refl _).trans (same_upd ntp0)))⟩
      · obtain ⟨v, rfl⟩ := len1 lw
        exact ⟨_, rfl, a, C 1, _, _, rfl, ev.same (((Same.refl _).trans (same_upd ntp0))), T.k 1 (by decide), T.nf 1 (by decide) "value" List.mem_cons_self, rfl, (by show 1 ≤ sizeLine; decide), fun l nl => fin l nl (((Same.refl _).trans (same_upd ntp0)))⟩
    have c0 : ¬ (i = 0 ∨ i = 1) := fun z => c (decide_eq_true (by simpa using z))
    refine ⟨_, rfl, (by show 3 ≤ sizeLine; decide), fun tp1 ntp1 => ⟨a, C i, tp1, _, _, _, _, rfl, ev.same ((((Same.refl _).trans (same_upd ntp0))).trans (same_upd ntp1)), T.k i hi, upd_same, .cons (.own _) (.cons (.own _) (.cons (.own _) .nil)), T.any hi [2, 4, 5] (by decide), _, rfl, ite2 (fun c => ?_) (fun c => ?_)⟩⟩
    · have z : i = 2 ∨ i = 4 ∨ i = 5 := by simpa using of_decide_eq_true c
      rcases z with rfl | rfl | rfl
      · obtain ⟨v, rfl⟩ := len1 lw
        exact ⟨_, rfl, a, C 2, _, _, rfl, ev.same (((((Same.refl _).trans (same_upd ntp0))).trans (same_upd ntp1))), T.k 2 (by decide), T.nf 2 (by decide) "at" List.mem_cons_self, rfl, (by show 1 ≤ sizeLine; decide), fun l nl => fin l nl (((((Same.refl _).trans (same_upd ntp0))).trans (same_upd ntp1)))⟩
      · obtain ⟨v, rfl⟩ := len1 lw
        exact ⟨_, rfl, a, C 4, _, _, rfl, ev.same (((((Same.refl _).trans (same_upd ntp0))).trans (same_upd ntp1))), T.k 4 (by decide), T.nf 4 (by decide) "at" List.mem_cons_self, rfl, (by show 1 ≤ sizeLine; decide), fun l nl => fin l nl (((((Same.refl _).trans (same_upd ntp0))).trans (same_upd ntp1)))⟩
      · obtain ⟨v, rfl⟩ := len1 lw
        exact ⟨_, rfl, a, C 5, _, _, rfl, ev.same (((((Same.refl _).trans (same_upd ntp0))).trans (same_upd ntp1))), T.k 5 (by decide), T.nf 5 (by decide) "at" List.mem_cons_self, rfl, (by show 1 ≤ sizeLine; decide), fun l nl => fin l nl (((((Same.refl _).trans (same_upd ntp0))).trans (same_upd ntp1)))⟩
    have c1 : ¬ (i = 2 ∨ i = 4 ∨ i = 5) := fun z => c (decide_eq_true (by simpa using z))
    refine ⟨_, rfl, a, C i, _, _, _, _, rfl, ev.same (((((Same.refl _).trans (same_upd ntp0))).trans (same_upd ntp1))), T.k i hi, .own _, T.own hi (j := 6) (by decide), _, rfl, ite2 (fun c => ?_) (fun c => ?_)⟩
    · obtain rfl := of_decide_eq_true c
      obtain ⟨v, u, rfl⟩ := len2 lw
      exact ⟨_, rfl, a, C 6, _, _, rfl, ev.same (((((Same.refl _).trans (same_upd ntp0))).trans (same_upd ntp1))), T.k 6 (by decide), T.nf 6 (by decide) "line" List.mem_cons_self, rfl, _, rfl, a, C 6, _, _, rfl, ev.same (((((Same.refl _).trans (same_upd ntp0))).trans (same_upd ntp1))), T.k 6 (by decide), T.nf 6 (by decide) "why" (List.mem_cons_of_mem _ List.mem_cons_self), rfl, (by show 2 ≤ sizeLine; decide), fun l nl => fin l nl (((((Same.refl _).trans (same_upd ntp0))).trans (same_upd ntp1)))⟩
    have c2 : ¬ i = 6 := fun z => c (decide_eq_true z)
    refine ⟨_, rfl, a, C i, _, _, _, _, rfl, ev.same (((((Same.refl _).trans (same_upd ntp0))).trans (same_upd ntp1))), T.k i hi, .own _, T.own hi (j := 7) (by decide), _, rfl, ite2 (fun c => ?_) (fun c => ?_)⟩
    · obtain rfl := of_decide_eq_true c
      obtain ⟨v, u, rfl⟩ := len2 lw
      exact ⟨_, rfl, a, C 7, _, _, rfl, ev.same (((((Same.refl _).trans (same_upd ntp0))).trans (same_upd ntp1))), T.k 7 (by decide), T.nf 7 (by decide) "line" List.mem_cons_self, rfl, _, rfl, a, C 7, _, _, rfl, ev.same (((((Same.refl _).trans (same_upd ntp0))).trans (same_upd ntp1))), T.k 7 (by decide), T.nf 7 (by decide) "what" (List.mem_cons_of_mem _ List.mem_cons_self), rfl, (by show 2 ≤ sizeLine; decide), fun l nl => fin l nl (((((Same.refl _).trans (same_upd ntp0))).trans (same_upd ntp1)))⟩
    have c3 : ¬ i = 7 := fun z => c (decide_eq_true z)
    refine ⟨_, rfl, a, C i, _, _, _, _, rfl, ev.same (((((Same.refl _).trans (same_upd ntp0))).trans (same_upd ntp1))), T.k i hi, .own _, T.own hi (j := 8) (by decide), _, rfl, ite2 (fun c => ?_) (fun c => ?_)⟩
    · obtain rfl := of_decide_eq_true c
      obtain ⟨v, u, rfl⟩ := len2 lw
      exact ⟨_, rfl, a, C 8, _, _, rfl, ev.same (((((Same.refl _).trans (same_upd ntp0))).trans (same_upd ntp1))), T.k 8 (by decide), T.nf 8 (by decide) "ballot" List.mem_cons_self, rfl, _, rfl, a, C 8, _, _, rfl, ev.same (((((Same.refl _).trans (same_upd ntp0))).trans (same_upd ntp1))), T.k 8 (by decide), T.nf 8 (by decide) "why" (List.mem_cons_of_mem _ List.mem_cons_self), rfl, (by show 2 ≤ sizeLine; decide), fun l nl => fin l nl (((((Same.refl _).trans (same_upd ntp0))).trans (same_upd ntp1)))⟩
    have c4 : ¬ i = 8 := fun z => c (decide_eq_true z)
    refine ⟨_, rfl, a, C i, _, _, _, _, rfl, ev.same (((((Same.refl _).trans (same_upd ntp0))).trans (same_upd ntp1))), T.k i hi, .own _, T.own hi (j := 9) (by decide), _, rfl, ite2 (fun c => ?_) (fun c => ?_)⟩
    · obtain rfl := of_decide_eq_true c
      obtain ⟨v, rfl⟩ := len1 lw
      exact ⟨_, rfl, a, C 9, _, _, rfl, ev.same (((((Same.refl _).trans (same_upd ntp0))).trans (same_upd ntp1))), T.k 9 (by decide), T.nf 9 (by decide) "number" List.mem_cons_self, rfl, (by show 1 ≤ sizeLine; decide), fun l nl => fin l nl (((((Same.refl _).trans (same_upd ntp0))).trans (same_upd ntp1)))⟩
    have c5 : ¬ i = 9 := fun z => c (decide_eq_true z)
    refine ⟨_, rfl, a, C i, _, _, _, _, rfl, ev.same (((((Same.refl _).trans (same_upd ntp0))).trans (same_upd ntp1))), T.k i hi, .own _, T.own hi (j := 10) (by decide), _, rfl, ite2 (fun c => ?_) (fun c => ?_)⟩
    · obtain rfl := of_decide_eq_true c
      obtain ⟨v, rfl⟩ := len1 lw
      exact ⟨_, rfl, a, C 10, _, _, rfl, ev.same (((((Same.refl _).trans (same_upd ntp0))).trans (same_upd ntp1))), T.k 10 (by decide), T.nf 10 (by decide) "bundle" List.mem_cons_self, rfl, (by show 1 ≤ sizeLine; decide), fun l nl => fin l nl (((((Same.refl _).trans (same_upd ntp0))).trans (same_upd ntp1)))⟩
    have c6 : ¬ i = 10 := fun z => c (decide_eq_true z)
    refine ⟨_, rfl, a, C i, _, _, _, _, rfl, ev.same (((((Same.refl _).trans (same_upd ntp0))).trans (same_upd ntp1))), T.k i hi, .own _, T.own hi (j := 11) (by decide), _, rfl, ite2 (fun c => ?_) (fun c => ?_)⟩
    · obtain rfl := of_decide_eq_true c
      obtain ⟨v, u, rfl⟩ := len2 lw
      exact ⟨_, rfl, a, C 11, _, _, rfl, ev.same (((((Same.refl _).trans (same_upd ntp0))).trans (same_upd ntp1))), T.k 11 (by decide), T.nf 11 (by decide) "what" List.mem_cons_self, rfl, _, rfl, a, C 11, _, _, rfl, ev.same (((((Same.refl _).trans (same_upd ntp0))).trans (same_upd ntp1))), T.k 11 (by decide), T.nf 11 (by decide) "most" (List.mem_cons_of_mem _ List.mem_cons_self), rfl, (by show 2 ≤ sizeLine; decide), fun l nl => fin l nl (((((Same.refl _).trans (same_upd ntp0))).trans (same_upd ntp1)))⟩
    have c7 : ¬ i = 11 := fun z => c (decide_eq_true z)
    refine ⟨_, rfl, a, C i, _, _, _, _, rfl, ev.same (((((Same.refl _).trans (same_upd ntp0))).trans (same_upd ntp1))), T.k i hi, .own _, T.own hi (j := 12) (by decide), _, rfl, ite2 (fun c => ?_) (fun c => ?_)⟩
    · obtain rfl := of_decide_eq_true c
      obtain ⟨v, rfl⟩ := len1 lw
      exact ⟨_, rfl, a, C 12, _, _, rfl, ev.same (((((Same.refl _).trans (same_upd ntp0))).trans (same_upd ntp1))), T.k 12 (by decide), T.nf 12 (by decide) "word" List.mem_cons_self, rfl, (by show 1 ≤ sizeLine; decide), fun l nl => fin l nl (((((Same.refl _).trans (same_upd ntp0))).trans (same_upd ntp1)))⟩
    have c8 : ¬ i = 12 := fun z => c (decide_eq_true z)
    refine ⟨_, rfl, a, C i, _, _, _, _, rfl, ev.same (((((Same.refl _).trans (same_upd ntp0))).trans (same_upd ntp1))), T.k i hi, .own _, T.own hi (j := 14) (by decide), _, rfl, ite2 (fun c => ?_) (fun c => ?_)⟩
    · obtain rfl := of_decide_eq_true c
      obtain ⟨v, rfl⟩ := len1 lw
      exact ⟨_, rfl, a, C 14, _, _, rfl, ev.same (((((Same.refl _).trans (same_upd ntp0))).trans (same_upd ntp1))), T.k 14 (by decide), T.nf 14 (by decide) "place" List.mem_cons_self, rfl, (by show 1 ≤ sizeLine; decide), fun l nl => fin l nl (((((Same.refl _).trans (same_upd ntp0))).trans (same_upd ntp1)))⟩
    have c9 : ¬ i = 14 := fun z => c (decide_eq_true z)
    have z : i = 3 ∨ i = 13 := by omega
    rcases z with rfl | rfl
    · obtain rfl := List.eq_nil_of_length_eq_zero lw
      exact ⟨(by show 0 ≤ sizeLine; decide), fun l nl => fin l nl (((((Same.refl _).trans (same_upd ntp0))).trans (same_upd ntp1)))⟩
    · obtain rfl := List.eq_nil_of_length_eq_zero lw
      exact ⟨(by show 0 ≤ sizeLine; decide), fun l nl => fin l nl (((((Same.refl _).trans (same_upd ntp0))).trans (same_upd ntp1)))⟩
theorem ok_valuesP {f : Addr} {fd : FuncData} {k : Nat} (F : Fun K "_law_values" "_law_values" sLawValues f fd) (T : Errs K mg C aE aM aL) (b_isinstance : mg "isinstance" = none) : FnP P w K mg base CX0 (k + 1) f fd ["e"] (spValuesP K C) := by
  refine okP F scLawValues (fun p vs H Q E h => ?_) (fun cdv A outer s H vs Q E p hot hr h => ?_)
  · obtain ⟨S, i, xs, ws, d, rfl, _⟩ := h
    rfl
  · obtain ⟨S, i, xs, ws, d, rfl, hi, hz, hf, ed, lw, kl, q⟩ := h
    obtain ⟨a, oe⟩ := p
    refine ⟨_, (pss_cons (ps_if (pt_val (pe_callB call_isXT rfl b_isinstance (by decide +kernel) (pa_cons (pv 0) (pa_cons (pe_tup (pa_cons (pe_glob (v := .ref (C 0)) rfl (T.g 0 (by decide)) rfl) (pa_cons (pe_glob (v := .ref (C 1)) rfl (T.g 1 (by decide)) rfl) pa_nil))) pa_nil)))) (pss_one (ps_ret (pe_lst (pa_cons (pe_exf (pv 0)) pa_nil)))) pss_nil)
      (pss_cons (ps_if (pt_val (pe_callB call_isXT rfl b_isinstance (by decide +kernel) (pa_cons (pv 0) (pa_cons (pe_tup (pa_cons (pe_glob (v := .ref (C 2)) rfl (T.g 2 (by decide)) rfl) (pa_cons (pe_glob (v := .ref (C 4)) rfl (T.g 4 (by decide)) rfl) (pa_cons (pe_glob (v := .ref (C 5)) rfl (T.g 5 (by decide)) rfl) pa_nil)))) pa_nil)))) (pss_one (ps_ret (pe_lst (pa_cons (pe_exf (pv 0)) pa_nil)))) pss_nil)
      (pss_cons (ps_if (pt_val (pe_callB call_isX rfl b_isinstance (by decide +kernel) (pa_cons (pv 0) (pa_cons (pe_glob (v := .ref (C 6)) rfl (T.g 6 (by decide)) rfl) pa_nil)))) (pss_one (ps_ret (pe_lst (pa_cons (pe_exf (pv 0)) (pa_cons (pe_exf (pv 0)) pa_nil))))) pss_nil)
      (pss_cons (ps_if (pt_val (pe_callB call_isX rfl b_isinstance (by decide +kernel) (pa_cons (pv 0) (pa_cons (pe_glob (v := .ref (C 7)) rfl (T.g 7 (by decide)) rfl) pa_nil)))) (pss_one (ps_ret (pe_lst (pa_cons (pe_exf (pv 0)) (pa_cons (pe_exf (pv 0)) pa_nil))))) pss_nil)
      (pss_cons (ps_if (pt_val (pe_callB call_isX rfl b_isinstance (by decide +kernel) (pa_cons (pv 0) (pa_cons (pe_glob (v := .ref (C 8)) rfl (T.g 8 (by decide)) rfl) pa_nil)))) (pss_one (ps_ret (pe_lst (pa_cons (pe_exf (pv 0)) (pa_cons (pe_exf (pv 0)) pa_nil))))) pss_nil)
      (pss_cons (ps_if (pt_val (pe_callB call_isX rfl b_isinstance (by decide +kernel) (pa_cons (pv 0) (pa_cons (pe_glob (v := .ref (C 9)) rfl (T.g 9 (by decide)) rfl) pa_nil)))) (pss_one (ps_ret (pe_lst (pa_cons (pe_exf (pv 0)) pa_nil)))) pss_nil)
      (pss_cons (ps_if (pt_val (pe_callB call_isX rfl b_isinstance (by decide +kernel) (pa_cons (pv 0) (pa_cons (pe_glob (v := .ref (C 10)) rfl (T.g 10 (by decide)) rfl) pa_nil)))) (pss_one (ps_ret (pe_lst (pa_cons (pe_exf (pv 0)) pa_nil)))) pss_nil)
      (pss_cons (ps_if (pt_val (pe_callB call_isX rfl b_isinstance (by decide +kernel) (pa_cons (pv 0) (pa_cons (pe_glob (v := .ref (C 11)) rfl (T.g 11 (by decide)) rfl) pa_nil)))) (pss_one (ps_ret (pe_lst (pa_cons (pe_exf (pv 0)) (pa_cons (pe_exf (pv 0)) pa_nil))))) pss_nil)
      (pss_cons (ps_if (pt_val (pe_callB call_isX rfl b_isinstance (by decide +kernel) (pa_cons (pv 0) (pa_cons (pe_glob (v := .ref (C 12)) rfl (T.g 12 (by decide)) rfl) pa_nil)))) (pss_one (ps_ret (pe_lst (pa_cons (pe_exf (pv 0)) pa_nil)))) pss_nil)
      (pss_one (ps_ret (pe_ifExp (pt_val (pe_callB call_isX rfl b_isinstance (by decide +kernel) (pa_cons (pv 0) (pa_cons (pe_glob (v := .ref (C 14)) rfl (T.g 14 (by decide)) rfl) pa_nil)))) (pe_lst (pa_cons (pe_exf (pv 0)) pa_nil)) (pe_lst pa_nil))))))))))))), ?_⟩
    have ev : EV [(a, oe)] H a (C i) (("code", .str (cn i)) :: ((fl i).zip ws).reverse) := .pin (List.mem_singleton.mpr rfl) hz hf ed
    have fin : ∀ {G : Hp} (l : Addr), G l = none → Same H G → Q (.ref l) (upd G l (.lst ws)) := fun {G} l nl t => q l _ (t.trans (same_upd nl)) (t.free nl) upd_same
    refine ⟨_, rfl, (by show 2 ≤ sizeLine; decide), fun tp0 ntp0 => ⟨a, C i, tp0, _, _, _, _, rfl, ev.same ((Same.refl _).trans (same_upd ntp0)), T.k i hi, upd_same, .cons (.own _) (.cons (.own _) .nil), T.any hi [0, 1] (by decide), _, rfl, ite2 (fun c => ?_) (fun c => ?_)⟩⟩
    · have z : i = 0 ∨ i = 1 := by simpa using of_decide_eq_true c
      rcases z with rfl | rfl
      · obtain ⟨v, rfl⟩ := len1 lw
        exact ⟨_, rfl, a, C 0, _, _, rfl, ev.same (((Same.refl _).trans (same_upd ntp0))), T.k 0 (by decide), T.nf 0 (by decide) "value" List.mem_cons_self, rfl, (by show 1 ≤ sizeLine; decide), fun l nl => fin l nl (((Same.refl _).trans (same_upd ntp0)))⟩
      · obtain ⟨v, rfl⟩ := len1 lw
        exact ⟨_, rfl, a, C 1, _, _, rfl, ev.same (((Same.refl _).trans (same_upd ntp0))), T.k 1 (by decide), T.nf 1 (by decide) "value" List.mem_cons_self, rfl, (by show 1 ≤ sizeLine; decide), fun l nl => fin l nl (((Same.refl _).trans (same_upd ntp0)))⟩
    have c0 : ¬ (i = 0 ∨ i = 1) := fun z => c (decide_eq_true (by simpa using z))
    refine ⟨_, rfl, (by show 3 ≤ sizeLine; decide), fun tp1 ntp1 => ⟨a, C i, tp1, _, _, _, _, rfl, ev.same ((((Same.refl _).trans (same_upd ntp0))).trans (same_upd ntp1)), T.k i hi, upd_same, .cons (.own _) (.cons (.own _) (.cons (.own _) .nil)), T.any hi [2, 4, 5] (by decide), _, rfl, ite2 (fun c => ?_) (fun c => ?_)⟩⟩
    · have z : i = 2 ∨ i = 4 ∨ i = 5 := by simpa using of_decide_eq_true c
      rcases z with rfl | rfl | rfl
      · obtain ⟨v, rfl⟩ := len1 lw
        exact ⟨_, rfl, a, C 2, _, _, rfl, ev.same (((((Same.refl _).trans (same_upd ntp0))).trans (same_upd ntp1))), T.k 2 (by decide), T.nf 2 (by decide) "at" List.mem_cons_self, rfl, (by show 1 ≤ sizeLine; decide), fun l nl => fin l nl (((((Same.refl _).trans (same_upd ntp0))).trans (same_upd ntp1)))⟩
      · obtain ⟨v, rfl⟩ := len1 lw
        exact ⟨_, rfl, a, C 4, _, _, rfl, ev.same (((((Same.refl _).trans (same_upd ntp0))).trans (same_upd ntp1))), T.k 4 (by decide), T.nf 4 (by decide) "at" List.mem_cons_self, rfl, (by show 1 ≤ sizeLine; decide), fun l nl => fin l nl (((((Same.refl _).trans (same_upd ntp0))).trans (same_upd ntp1)))⟩
      · obtain ⟨v, rfl⟩ := len1 lw
        exact ⟨_, rfl, a, C 5, _, _, rfl, ev.same (((((Same.refl _).trans (same_upd ntp0))).trans (same_upd ntp1))), T.k 5 (by decide), T.nf 5 (by decide) "at" List.mem_cons_self, rfl, (by show 1 ≤ sizeLine; decide), fun l nl => fin l nl (((((Same.refl _).trans (same_upd ntp0))).trans (same_upd ntp1)))⟩
    have c1 : ¬ (i = 2 ∨ i = 4 ∨ i = 5) := fun z => c (decide_eq_true (by simpa using z))
    refine ⟨_, rfl, a, C i, _, _, _, _, rfl, ev.same (((((Same.refl _).trans (same_upd ntp0))).trans (same_upd ntp1))), T.k i hi, .own _, T.own hi (j := 6) (by decide), _, rfl, ite2 (fun c => ?_) (fun c => ?_)⟩
    · obtain rfl := of_decide_eq_true c
      obtain ⟨v, u, rfl⟩ := len2 lw
      exact ⟨_, rfl, a, C 6, _, _, rfl, ev.same (((((Same.refl _).trans (same_upd ntp0))).trans (same_upd ntp1))), T.k 6 (by decide), T.nf 6 (by decide) "line" List.mem_cons_self, rfl, _, rfl, a, C 6, _, _, rfl, ev.same (((((Same.refl _).trans (same_upd ntp0))).trans (same_upd ntp1))), T.k 6 (by decide), T.nf 6 (by decide) "why" (List.mem_cons_of_mem _ List.mem_cons_self), rfl, (by show 2 ≤ sizeLine; decide), fun l nl => fin l nl (((((Same.refl _).trans (same_upd ntp0))).trans (same_upd ntp1)))⟩
    have c2 : ¬ i = 6 := fun z => c (decide_eq_true z)
    refine ⟨_, rfl, a, C i, _, _, _, _, rfl, ev.same (((((Same.refl _).trans (same_upd ntp0))).trans (same_upd ntp1))), T.k i hi, .own _, T.own hi (j := 7) (by decide), _, rfl, ite2 (fun c => ?_) (fun c => ?_)⟩
    · obtain rfl := of_decide_eq_true c
      obtain ⟨v, u, rfl⟩ := len2 lw
      exact ⟨_, rfl, a, C 7, _, _, rfl, ev.same (((((Same.refl _).trans (same_upd ntp0))).trans (same_upd ntp1))), T.k 7 (by decide), T.nf 7 (by decide) "line" List.mem_cons_self, rfl, _, rfl, a, C 7, _, _, rfl, ev.same (((((Same.refl _).trans (same_upd ntp0))).trans (same_upd ntp1))), T.k 7 (by decide), T.nf 7 (by decide) "what" (List.mem_cons_of_mem _ List.mem_cons_self), rfl, (by show 2 ≤ sizeLine; decide), fun l nl => fin l nl (((((Same.refl _).trans (same_upd ntp0))).trans (same_upd ntp1)))⟩
    have c3 : ¬ i = 7 := fun z => c (decide_eq_true z)
    refine ⟨_, rfl, a, C i, _, _, _, _, rfl, ev.same (((((Same.refl _).trans (same_upd ntp0))).trans (same_upd ntp1))), T.k i hi, .own _, T.own hi (j := 8) (by decide), _, rfl, ite2 (fun c => ?_) (fun c => ?_)⟩
    · obtain rfl := of_decide_eq_true c
      obtain ⟨v, u, rfl⟩ := len2 lw
      exact ⟨_, rfl, a, C 8, _, _, rfl, ev.same (((((Same.refl _).trans (same_upd ntp0))).trans (same_upd ntp1))), T.k 8 (by decide), T.nf 8 (by decide) "ballot" List.mem_cons_self, rfl, _, rfl, a, C 8, _, _, rfl, ev.same (((((Same.refl _).trans (same_upd ntp0))).trans (same_upd ntp1))), T.k 8 (by decide), T.nf 8 (by decide) "why" (List.mem_cons_of_mem _ List.mem_cons_self), rfl, (by show 2 ≤ sizeLine; decide), fun l nl => fin l nl (((((Same.refl _).trans (same_upd ntp0))).trans (same_upd ntp1)))⟩
    have c4 : ¬ i = 8 := fun z => c (decide_eq_true z)
    refine ⟨_, rfl, a, C i, _, _, _, _, rfl, ev.same (((((Same.refl _).trans (same_upd ntp0))).trans (same_upd ntp1))), T.k i hi, .own _, T.own hi (j := 9) (by decide), _, rfl, ite2 (fun c => ?_) (fun c => ?_)⟩
    · obtain rfl := of_decide_eq_true c
      obtain ⟨v, rfl⟩ := len1 lw
      exact ⟨_, rfl, a, C 9, _, _, rfl, ev.same (((((Same.refl _).trans (same_upd ntp0))).trans (same_upd ntp1))), T.k 9 (by decide), T.nf 9 (by decide) "number" List.mem_cons_self, rfl, (by show 1 ≤ sizeLine; decide), fun l nl => fin l nl (((((Same.refl _).trans (same_upd ntp0))).trans (same_upd ntp1)))⟩
    have c5 : ¬ i = 9 := fun z => c (decide_eq_true z)
    refine ⟨_, rfl, a, C i, _, _, _, _, rfl, ev.same (((((Same.refl _).trans (same_upd ntp0))).trans (same_upd ntp1))), T.k i hi, .own _, T.own hi (j := 10) (by decide), _, rfl, ite2 (fun c => ?_) (fun c => ?_)⟩
    · obtain rfl := of_decide_eq_true c
      obtain ⟨v, rfl⟩ := len1 lw
      exact ⟨_, rfl, a, C 10, _, _, rfl, ev.same (((((Same.refl _).trans (same_upd ntp0))).trans (same_upd ntp1))), T.k 10 (by decide), T.nf 10 (by decide) "bundle" List.mem_cons_self, rfl, (by show 1 ≤ sizeLine; decide), fun l nl => fin l nl (((((Same.refl _).trans (same_upd ntp0))).trans (same_upd ntp1)))⟩
    have c6 : ¬ i = 10 := fun z => c (decide_eq_true z)
    refine ⟨_, rfl, a, C i, _, _, _, _, rfl, ev.same (((((Same.refl _).trans (same_upd ntp0))).trans (same_upd ntp1))), T.k i hi, .own _, T.own hi (j := 11) (by decide), _, rfl, ite2 (fun c => ?_) (fun c => ?_)⟩
    · obtain rfl := of_decide_eq_true c
      obtain ⟨v, u, rfl⟩ := len2 lw
      exact ⟨_, rfl, a, C 11, _, _, rfl, ev.same (((((Same.refl _).trans (same_upd ntp0))).trans (same_upd ntp1))), T.k 11 (by decide), T.nf 11 (by decide) "what" List.mem_cons_self, rfl, _, rfl, a, C 11, _, _, rfl, ev.same (((((Same.refl _).trans (same_upd ntp0))).trans (same_upd ntp1))), T.k 11 (by decide), T.nf 11 (by decide) "most" (List.mem_cons_of_mem _ List.mem_cons_self), rfl, (by show 2 ≤ sizeLine; decide), fun l nl => fin l nl (((((Same.refl _).trans (same_upd ntp0))).trans (same_upd ntp1)))⟩
    have c7 : ¬ i = 11 := fun z => c (decide_eq_true z)
    refine ⟨_, rfl, a, C i, _, _, _, _, rfl, ev.same (((((Same.refl _).trans (same_upd ntp0))).trans (same_upd ntp1))), T.k i hi, .own _, T.own hi (j := 12) (by decide), _, rfl, ite2 (fun c => ?_) (fun c => ?_)⟩
    · obtain rfl := of_decide_eq_true c
      obtain ⟨v, rfl⟩ := len1 lw
      exact ⟨_, rfl, a, C 12, _, _, rfl, ev.same (((((Same.refl _).trans (same_upd ntp0))).trans (same_upd ntp1))), T.k 12 (by decide), T.nf 12 (by decide) "word" List.mem_cons_self, rfl, (by show 1 ≤ sizeLine; decide), fun l nl => fin l nl (((((Same.refl _).trans (same_upd ntp0))).trans (same_upd ntp1)))⟩
    have c8 : ¬ i = 12 := fun z => c (decide_eq_true z)
    refine ⟨_, rfl, a, C i, _, _, _, _, rfl, ev.same (((((Same.refl _).trans (same_upd ntp0))).trans (same_upd ntp1))), T.k i hi, .own _, T.own hi (j := 14) (by decide), _, rfl, ite2 (fun c => ?_) (fun c => ?_)⟩
    · obtain rfl := of_decide_eq_true c
      obtain ⟨v, rfl⟩ := len1 lw
      exact ⟨_, rfl, a, C 14, _, _, rfl, ev.same (((((Same.refl _).trans (same_upd ntp0))).trans (same_upd ntp1))), T.k 14 (by decide), T.nf 14 (by decide) "place" List.mem_cons_self, rfl, (by show 1 ≤ sizeLine; decide), fun l nl => fin l nl (((((Same.refl _).trans (same_upd ntp0))).trans (same_upd ntp1)))⟩
    have c9 : ¬ i = 14 := fun z => c (decide_eq_true z)
    have z : i = 3 ∨ i = 13 := by omega
    rcases z with rfl | rfl
    · obtain rfl := List.eq_nil_of_length_eq_zero lw
      exact ⟨(by show 0 ≤ sizeLine; decide), fun l nl => fin l nl (((((Same.refl _).trans (same_upd ntp0))).trans (same_upd ntp1)))⟩
    · obtain rfl := List.eq_nil_of_length_eq_zero lw
      exact ⟨(by show 0 ≤ sizeLine; decide), fun l nl => fin l nl (((((Same.refl _).trans (same_upd ntp0))).trans (same_upd ntp1)))⟩
/-- which of the fifteen it is -/
def spKinds (K : PySem.W.Frag) (C : Nat → Addr) : Sp := fun vs H Q _ => ∃ (S : List Addr) (i : Nat) (xs : List V) (r : V), vs = [r] ∧ i < 15 ∧ Made K H S C i xs r ∧ ∀ l H', Same H H' → H' l = some (.lst ((List.range 15).map fun j => V.bl (decide (i = j)))) → Q (.ref l) H'
theorem ok_kinds {f : Addr} {fd : FuncData} {k : Nat} (F : Fun K "_law_kinds" "_law_kinds" sLawKinds f fd) (T : Errs K mg C aE aM aL) (b_isinstance : mg "isinstance" = none) : FnOk P w K mg base CX0 (k + 1) f fd ["e"] (spKinds K C) := by
  refine F.ok scLawKinds (fun vs H Q E h => ?_) (fun cdv A outer s H vs Q E hr h => ?_)
  · obtain ⟨S, i, xs, r, rfl, _⟩ := h
    rfl
  · obtain ⟨S, i, xs, r, rfl, hi, ⟨a, d, ws, rfl, ea, ed, lw, kl⟩, q⟩ := h
    refine ⟨_, (pss_cons (ps_set (i := 1) scLawKinds.nd rfl (.inl rfl) (pe_lst (pa_cons (pe_callB call_isX rfl b_isinstance (by decide +kernel) (pa_cons (pv 0) (pa_cons (pe_glob (v := .ref (C 0)) rfl (T.g 0 (by decide)) rfl) pa_nil))) (pa_cons (pe_callB call_isX rfl b_isinstance (by decide +kernel) (pa_cons (pv 0) (pa_cons (pe_glob (v := .ref (C 1)) rfl (T.g 1 (by decide)) rfl) pa_nil))) (pa_cons (pe_callB call_isX rfl b_isinstance (by decide +kernel) (pa_cons (pv 0) (pa_cons (pe_glob (v := .ref (C 2)) rfl (T.g 2 (by decide)) rfl) pa_nil))) pa_nil)))))
      (pss_cons (ps_set (i := 1) scLawKinds.nd rfl (.inl rfl) (pe_op op_cat (pv 1) (pe_lst (pa_cons (pe_callB call_isX rfl b_isinstance (by decide +kernel) (pa_cons (pv 0) (pa_cons (pe_glob (v := .ref (C 3)) rfl (T.g 3 (by decide)) rfl) pa_nil))) (pa_cons (pe_callB call_isX rfl b_isinstance (by decide +kernel) (pa_cons (pv 0) (pa_cons (pe_glob (v := .ref (C 4)) rfl (T.g 4 (by decide)) rfl) pa_nil))) (pa_cons (pe_callB call_isX rfl b_isinstance (by decide +kernel) (pa_cons (pv 0) (pa_cons (pe_glob (v := .ref (C 5)) rfl (T.g 5 (by decide)) rfl) pa_nil))) pa_nil))))))
      (pss_cons (ps_set (i := 1) scLawKinds.nd rfl (.inl rfl) (pe_op op_cat (pv 1) (pe_lst (pa_cons (pe_callB call_isX rfl b_isinstance (by decide +kernel) (pa_cons (pv 0) (pa_cons (pe_glob (v := .ref (C 6)) rfl (T.g 6 (by decide)) rfl) pa_nil))) (pa_cons (pe_callB call_isX rfl b_isinstance (by decide +kernel) (pa_cons (pv 0) (pa_cons (pe_glob (v := .ref (C 7)) rfl (T.g 7 (by decide)) rfl) pa_nil))) (pa_cons (pe_callB call_isX rfl b_isinstance (by decide +kernel) (pa_cons (pv 0) (pa_cons (pe_glob (v := .ref (C 8)) rfl (T.g 8 (by decide)) rfl) pa_nil))) (pa_cons (pe_callB call_isX rfl b_isinstance (by decide +kernel) (pa_cons (pv 0) (pa_cons (pe_glob (v := .ref (C 9)) rfl (T.g 9 (by decide)) rfl) pa_nil))) pa_nil)))))))
      (pss_cons (ps_set (i := 1) scLawKinds.nd rfl (.inl rfl) (pe_op op_cat (pv 1) (pe_lst (pa_cons (pe_callB call_isX rfl b_isinstance (by decide +kernel) (pa_cons (pv 0) (pa_cons (pe_glob (v := .ref (C 10)) rfl (T.g 10 (by decide)) rfl) pa_nil))) (pa_cons (pe_callB call_isX rfl b_isinstance (by decide +kernel) (pa_cons (pv 0) (pa_cons (pe_glob (v := .ref (C 11)) rfl (T.g 11 (by decide)) rfl) pa_nil))) (pa_cons (pe_callB call_isX rfl b_isinstance (by decide +kernel) (pa_cons (pv 0) (pa_cons (pe_glob (v := .ref (C 12)) rfl (T.g 12 (by decide)) rfl) pa_nil))) (pa_cons (pe_callB call_isX rfl b_isinstance (by decide +kernel) (pa_cons (pv 0) (pa_cons (pe_glob (v := .ref (C 13)) rfl (T.g 13 (by decide)) rfl) pa_nil))) pa_nil)))))))
      (pss_one (ps_ret (pe_op op_cat (pv 1) (pe_lst (pa_cons (pe_callB call_isX rfl b_isinstance (by decide +kernel) (pa_cons (pv 0) (pa_cons (pe_glob (v := .ref (C 14)) rfl (T.g 14 (by decide)) rfl) pa_nil))) pa_nil))))))))), ?_⟩
    have ev : EV [] H a (C i) (("code", .str (cn i)) :: ((fl i).zip ws).reverse) := .cold ea ed
    refine ⟨_, rfl, a, C i, _, _, _, _, rfl, ev.same (Same.refl _), T.k i hi, .own _, T.own hi (j := 0) (by decide), _, rfl, a, C i, _, _, _, _, rfl, ev.same (Same.refl _), T.k i hi, .own _, T.own hi (j := 1) (by decide), _, rfl, a, C i, _, _, _, _, rfl, ev.same (Same.refl _), T.k i hi, .own _, T.own hi (j := 2) (by decide), (by show 3 ≤ sizeLine; decide), fun l0 n0 => ?_⟩
    refine ⟨_, rfl, _, rfl, a, C i, _, _, _, _, rfl, ev.same (same_upd n0), T.k i hi, .own _, T.own hi (j := 3) (by decide), _, rfl, a, C i, _, _, _, _, rfl, ev.same (same_upd n0), T.k i hi, .own _, T.own hi (j := 4) (by decide), _, rfl, a, C i, _, _, _, _, rfl, ev.same (same_upd n0), T.k i hi, .own _, T.own hi (j := 5) (by decide), (by show 3 ≤ sizeLine; decide), fun m1 nm1 => ⟨l0, m1, _, _, rfl, rfl, same_upd nm1 _ _ upd_same, upd_same, (by show 3 + 3 ≤ sizeLine; decide), fun l1 n1 => ?_⟩⟩
    refine ⟨_, rfl, _, rfl, a, C i, _, _, _, _, rfl, ev.same (((same_upd n0).trans (same_upd nm1)).trans (same_upd n1)), T.k i hi, .own _, T.own hi (j := 6) (by decide), _, rfl, a, C i, _, _, _, _, rfl, ev.same (((same_upd n0).trans (same_upd nm1)).trans (same_upd n1)), T.k i hi, .own _, T.own hi (j := 7) (by decide), _, rfl, a, C i, _, _, _, _, rfl, ev.same (((same_upd n0).trans (same_upd nm1)).trans (same_upd n1)), T.k i hi, .own _, T.own hi (j := 8) (by decide), _, rfl, a, C i, _, _, _, _, rfl, ev.same (((same_upd n0).trans (same_upd nm1)).trans (same_upd n1)), T.k i hi, .own _, T.own hi (j := 9) (by decide), (by show 4 ≤ sizeLine; decide), fun m2 nm2 => ⟨l1, m2, _, _, rfl, rfl, same_upd nm2 _ _ upd_same, upd_same, (by show 6 + 4 ≤ sizeLine; decide), fun l2 n2 => ?_⟩⟩
    refine ⟨_, rfl, _, rfl, a, C i, _, _, _, _, rfl, ev.same (((((same_upd n0).trans (same_upd nm1)).trans (same_upd n1)).trans (same_upd nm2)).trans (same_upd n2)), T.k i hi, .own _, T.own hi (j := 10) (by decide), _, rfl, a, C i, _, _, _, _, rfl, ev.same (((((same_upd n0).trans (same_upd nm1)).trans (same_upd n1)).trans (same_upd nm2)).trans (same_upd n2)), T.k i hi, .own _, T.own hi (j := 11) (by decide), _, rfl, a, C i, _, _, _, _, rfl, ev.same (((((same_upd n0).trans (same_upd nm1)).trans (same_upd n1)).trans (same_upd nm2)).trans (same_upd n2)), T.k i hi, .own _, T.own hi (j := 12) (by decide), _, rfl, a, C i, _, _, _, _, rfl, ev.same (((((same_upd n0).trans (same_upd nm1)).trans (same_upd n1)).trans (same_upd nm2)).trans (same_upd n2)), T.k i hi, .own _, T.own hi (j := 13) (by decide), (by show 4 ≤ sizeLine; decide), fun m3 nm3 => ⟨l2, m3, _, _, rfl, rfl, same_upd nm3 _ _ upd_same, upd_same, (by show 10 + 4 ≤ sizeLine; decide), fun l3 n3 => ?_⟩⟩
    refine ⟨_, rfl, _, rfl, a, C i, _, _, _, _, rfl, ev.same (((((((same_upd n0).trans (same_upd nm1)).trans (same_upd n1)).trans (same_upd nm2)).trans (same_upd n2)).trans (same_upd nm3)).trans (same_upd n3)), T.k i hi, .own _, T.own hi (j := 14) (by decide), (by show 1 ≤ sizeLine; decide), fun m4 nm4 => ⟨l3, m4, _, _, rfl, rfl, same_upd nm4 _ _ upd_same, upd_same, (by show 14 + 1 ≤ sizeLine; decide), fun l4 n4 => ?_⟩⟩
    exact q l4 _ (((((((((same_upd n0).trans (same_upd nm1)).trans (same_upd n1)).trans (same_upd nm2)).trans (same_upd n2)).trans (same_upd nm3)).trans (same_upd n3)).trans (same_upd nm4)).trans (same_upd n4)) (by rw [upd_same]; rfl)
/-- of which base it is -/
def spBases (K : PySem.W.Frag) (C : Nat → Addr) : Sp := fun vs H Q _ => ∃ (S : List Addr) (i : Nat) (xs : List V) (r : V), vs = [r] ∧ i < 15 ∧ Made K H S C i xs r ∧
  ∀ l H', Same H H' → H' l = some (.lst [.bl (decide (i < 12)), .bl (decide (i < 12)), .bl (decide (i = 12)), .bl (decide (i = 12)), .bl (decide (12 < i)), .bl (decide (12 < i))]) → Q (.ref l) H'
theorem ok_bases {f : Addr} {fd : FuncData} {k : Nat} (F : Fun K "_law_bases" "_law_bases" sLawBases f fd) (T : Errs K mg C aE aM aL) (b_isinstance : mg "isinstance" = none) (b_ValueError : mg "ValueError" = none) (b_LookupError : mg "LookupError" = none) (b_RuntimeError : mg "RuntimeError" = none) : FnOk P w K mg base CX0 (k + 1) f fd ["e"] (spBases K C) := by
  refine F.ok scLawBases (fun vs H Q E h => ?_) (fun cdv A outer s H vs Q E hr h => ?_)
  · obtain ⟨S, i, xs, r, rfl, _⟩ := h
    rfl
  · obtain ⟨S, i, xs, r, rfl, hi, ⟨a, d, ws, rfl, ea, ed, lw, kl⟩, q⟩ := h
    refine ⟨_, (pss_cons (ps_set (i := 1) scLawBases.nd rfl (.inl rfl) (pe_lst (pa_cons (pe_callB call_isX rfl b_isinstance (by decide +kernel) (pa_cons (pv 0) (pa_cons (pe_glob (v := .ref aE) rfl T.gE rfl) pa_nil))) (pa_cons (pe_callB call_isX rfl b_isinstance (by decide +kernel) (pa_cons (pv 0) (pa_cons (pe_ty "ValueError" rfl b_ValueError (by decide +kernel)) pa_nil))) (pa_cons (pe_callB call_isX rfl b_isinstance (by decide +kernel) (pa_cons (pv 0) (pa_cons (pe_glob (v := .ref aM) rfl T.gM rfl) pa_nil))) pa_nil)))))
      (pss_one (ps_ret (pe_op op_cat (pv 1) (pe_lst (pa_cons (pe_callB call_isX rfl b_isinstance (by decide +kernel) (pa_cons (pv 0) (pa_cons (pe_ty "LookupError" rfl b_LookupError (by decide +kernel)) pa_nil))) (pa_cons (pe_callB call_isX rfl b_isinstance (by decide +kernel) (pa_cons (pv 0) (pa_cons (pe_glob (v := .ref aL) rfl T.gL rfl) pa_nil))) (pa_cons (pe_callB call_isX rfl b_isinstance (by decide +kernel) (pa_cons (pv 0) (pa_cons (pe_ty "RuntimeError" rfl b_RuntimeError (by decide +kernel)) pa_nil))) pa_nil)))))))), ?_⟩
    have ev : EV [] H a (C i) (("code", .str (cn i)) :: ((fl i).zip ws).reverse) := .cold ea ed
    refine ⟨_, rfl, a, C i, _, _, _, _, rfl, ev, T.k i hi, .own _, T.kE hi, _, rfl, a, C i, _, _, _, _, rfl, ev, T.k i hi, .ty _, T.tV hi, _, rfl, a, C i, _, _, _, _, rfl, ev, T.k i hi, .own _, T.kM hi, (by show 3 ≤ sizeLine; decide), fun l0 n0 => ?_⟩
    have e1 := ev.same (same_upd (o := .lst [.bl (decide (i < 12)), .bl (decide (i < 12)), .bl (decide (i = 12))]) n0)
    refine ⟨_, rfl, _, rfl, a, C i, _, _, _, _, rfl, e1, T.k i hi, .ty _, T.tL hi, _, rfl, a, C i, _, _, _, _, rfl, e1, T.k i hi, .own _, T.kL hi, _, rfl, a, C i, _, _, _, _, rfl, e1, T.k i hi, .ty _, T.tR hi, (by show 3 ≤ sizeLine; decide), fun m1 nm1 => ⟨l0, m1, _, _, rfl, rfl, same_upd nm1 _ _ upd_same, upd_same, (by show 3 + 3 ≤ sizeLine; decide), fun l1 n1 => ?_⟩⟩
    exact q l1 _ (((same_upd n0).trans (same_upd nm1)).trans (same_upd n1)) upd_same
end
end My

set_option Elab.async false
set_option linter.all false
set_option maxRecDepth 100000
namespace My
open PySem PySem.Spec PyProof.Rows L2
/-! the errors, made -/
abbrev sLawCodes : Stmt := topS 26
theorem scLawCodes : FnScope ["some"] [] (defScope sLawCodes) := ⟨rfl, rfl, rfl, by decide +kernel, rfl, by decide +kernel, by decide +kernel⟩
abbrev sLawByPlace : Stmt := topS 27
theorem scLawByPlace : FnScope ["a", "b", "some"] ["a", "b"] (defScope sLawByPlace) := ⟨rfl, rfl, rfl, by decide +kernel, rfl, by decide +kernel, by decide +kernel⟩
abbrev sLawByName : Stmt := topS 28
theorem scLawByName : FnScope ["a", "b", "some"] ["a", "b"] (defScope sLawByName) := ⟨rfl, rfl, rfl, by decide +kernel, rfl, by decide +kernel, by decide +kernel⟩
/-- what is known of the i-th class's __init__ -/
structure IniOk (P : Program) (w : World) (K : PySem.W.Frag) (mg : Str → Option Value) (base : Heap) (C : Nat → Addr) (i : Nat) (f : Addr) (fd : FuncData) : Prop where
  ini : PySem.W.findIn K (.ref (C i)) "__init__" = some (some (.ref f))
  ty : PySem.W.typeIn K (.ref f) = some (.type "function")
  ok : FnOk P w K mg base CX0 6 f fd ("self" :: fl i) (spIni K (C i) (cn i) (fl i))
  b : Binds K fd ("self" :: fl i) []
  kb : (fl i).length = 1 → KBn K fd ("self" :: fl i) 1 (fl i) (fun us ws => us ++ ws) (fun vs zs => vs ++ zs)
  kr : (fl i).length = 2 → KBn K fd ("self" :: fl i) 1 (fl i).reverse (fun us ws => us ++ ws.reverse) (fun vs zs => vs ++ zs.reverse)
/-- errors of the classes from the first on -/
def MadeL (K : PySem.W.Frag) (H : Hp) (S : List Addr) (C : Nat → Addr) (xs rs : List V) : Prop := ∀ (j : Nat) r, rs[j]? = some r → Made K H S C j xs r
theorem MadeL.dax {K : PySem.W.Frag} {H H' : Hp} {S : List Addr} {C : Nat → Addr} {xs rs : List V} (t : Dax S H H') (h : MadeL K H S C xs rs) : MadeL K H' S C xs rs := fun j r e => (h j r e).dax t
theorem MadeL.snoc {K : PySem.W.Frag} {H H' : Hp} {S : List Addr} {C : Nat → Addr} {xs rs : List V} {r : V} (h : MadeL K H S C xs rs) (s : Same H H') {i : Nat} (hi : i = rs.length) (m : Made K H' S C i xs r) : MadeL K H' S C xs (rs ++ [r]) := fun j u e => by
  rcases Nat.lt_or_ge j rs.length with h1 | h1
  · rw [List.getElem?_append_left h1] at e
    exact (h j u e).dax (Dax.of s)
  · rw [List.getElem?_append_right h1] at e
    have e0 : j - rs.length = 0 := by
      cases z : j - rs.length with
      | zero => rfl
      | succ n => rw [z] at e; simp at e
    rw [e0] at e
    cases e
    have : j = i := by omega
    rw [this]
    exact m
theorem mk_W {K : PySem.W.Frag} {S : List Addr} {C : Nat → Addr} {i : Nat} {vs xs : List V} {H1 : Hp} {R : Addr → Hp → Prop} (hS : Std H1 S) (hl : vs.length = (fl i).length) (hv : ∀ w ∈ vs, Thg K H1 S 4 w) (hx : ∀ (j : Nat) w, xs[j]? = some w → j < vs.length → vs[j]? = some w)
    (q : ∀ r H', Same H1 H' → Made K H' S C i xs (.ref r) → R r H') : ∀ a, H1 a = none → spIni K (C i) (cn i) (fl i) (.ref a :: vs) (upd H1 a (exo a (C i) none)) (fun v H2 => v = .non ∧ R a H2) (fun _ _ _ => False) := by
  intro a na
  refine ⟨S, a, vs, rfl, hl, upd_same, hS.same (same_upd na), fun w m => (hv w m).dat (Dat.of (same_upd na)), fun H' d ws nd keep ea ed lw kl => ⟨rfl, q a H' (fun p o h => ?_) ⟨a, d, ws, rfl, ea, ed, lw, fun j u w e1 e2 => ?_⟩⟩⟩
  · exact keep p o (ne_of_none h na) (by rw [upd_ne (ne_of_none h na)]; exact h)
  · have lt : j < ws.length := (List.getElem?_eq_some_iff.mp e1).1
    exact kl j u w e1 (hx j w e2 (by omega))
theorem th1 {K : PySem.W.Frag} {H : Hp} {S : List Addr} {v : V} (h : Thg K H S 4 v) : ∀ w ∈ [v], Thg K H S 4 w := fun w m => by
  rw [List.mem_singleton.mp m]
  exact h
theorem th2 {K : PySem.W.Frag} {H : Hp} {S : List Addr} {v u : V} (h : Thg K H S 4 v) (h' : Thg K H S 4 u) : ∀ w ∈ [v, u], Thg K H S 4 w := fun w m => by
  simp only [List.mem_cons, List.not_mem_nil, or_false] at m
  rcases m with rfl | rfl
  · exact h
  · exact h'
theorem hx0 {v u : V} : ∀ (j : Nat) w, [v, u][j]? = some w → j < ([] : List V).length → ([] : List V)[j]? = some w := fun j w _ h => absurd h (Nat.not_lt_zero _)
theorem hx1 {v u : V} : ∀ (j : Nat) w, [v, u][j]? = some w → j < [v].length → [v][j]? = some w := fun j w e h => by
  have : j = 0 := by have : j < 1 := h; omega
  subst this
  exact e
theorem hx2 {v u : V} : ∀ (j : Nat) w, [v, u][j]? = some w → j < [v, u].length → [v, u][j]? = some w := fun j w e _ => e
def spMakeAll (K : PySem.W.Frag) (C : Nat → Addr) : Sp := fun vs H Q _ => ∃ (S : List Addr) (v u : V), vs = [v, u] ∧ Std H S ∧ Thg K H S 4 v ∧ Thg K H S 4 u ∧ ∀ l rs H', Same H H' → H l = none → H' l = some (.lst rs) → rs.length = 15 → MadeL K H' S C [v, u] rs → Q (.ref l) H'
def spCodes : Sp := fun vs H Q _ => vs = [] ∧ ∀ l H', Same H H' → H l = none → H' l = some (.lst ((List.range 15).map fun j => V.str (cn j))) → Q (.ref l) H'
section
variable {P : Program} {w : World} {K : PySem.W.Frag} {mg : Str → Option Value} {base : Heap} {C : Nat → Addr} {aE aM aL : Addr}
theorem ok_codes {f : Addr} {fd : FuncData} {k : Nat} (F : Fun K "_law_codes" "_law_codes" sLawCodes f fd) : FnOk P w K mg base CX0 (k + 1) f fd [] spCodes := by
  refine F.ok scLawCodes (fun vs H Q E h => ?_) (fun cdv A outer s H vs Q E hr h => ?_)
  · obtain ⟨rfl, _⟩ := h
    rfl
  · obtain ⟨rfl, q⟩ := h
    refine ⟨_, (pss_cons (ps_set (i := 0) scLawCodes.nd rfl (.inl rfl) (pe_lst (pa_cons pe_str (pa_cons pe_str (pa_cons pe_str (pa_cons pe_str (pa_cons pe_str (pa_cons pe_str (pa_cons pe_str pa_nil)))))))))
      (pss_cons (ps_set (i := 0) scLawCodes.nd rfl (.inl rfl) (pe_op op_cat (pv 0) (pe_lst (pa_cons pe_str (pa_cons pe_str (pa_cons pe_str (pa_cons pe_str (pa_cons pe_str (pa_cons pe_str (pa_cons pe_str (pa_cons pe_str pa_nil)))))))))))
      (pss_one (ps_ret (pv 0))))), ?_⟩
    refine ⟨(by show 7 ≤ sizeLine; decide), fun l0 n0 => ⟨_, rfl, (by show 8 ≤ sizeLine; decide), fun m1 nm1 => ⟨l0, m1, _, _, rfl, rfl, same_upd nm1 _ _ upd_same, upd_same, (by show 7 + 8 ≤ sizeLine; decide), fun l1 n1 => ?_⟩⟩⟩
    exact ⟨_, rfl, q l1 _ (((same_upd n0).trans (same_upd nm1)).trans (same_upd n1)) (((same_upd n0).trans (same_upd nm1)).free n1) upd_same⟩
theorem ok_by_place {f : Addr} {fd : FuncData} {fI : Nat → Addr} {fdI : Nat → FuncData} (F : Fun K "_law_by_place" "_law_by_place" sLawByPlace f fd) (T : Errs K mg C aE aM aL) (I : ∀ i, i < 15 → IniOk P w K mg base C i (fI i) (fdI i)) : FnOk P w K mg base CX0 8 f fd ["a", "b"] (spMakeAll K C) := by
  refine F.ok scLawByPlace (fun vs H Q E h => ?_) (fun cdv A outer s H vs Q E hr h => ?_)
  · obtain ⟨S, v, u, rfl, _⟩ := h
    rfl
  · obtain ⟨S, v, u, rfl, hS, tv, tu, q⟩ := h
    refine ⟨_, (pss_cons (ps_set (i := 2) scLawByPlace.nd rfl (.inl rfl) (pe_lst (pa_cons (pe_mkX (T.k 0 (by decide)) (I 0 (by decide)).ini (I 0 (by decide)).ty (I 0 (by decide)).ok (hr.mono (by omega)) (I 0 (by decide)).b pass0 rfl (T.g 0 (by decide)) (pa_cons (pv 0) pa_nil)) (pa_cons (pe_mkX (T.k 1 (by decide)) (I 1 (by decide)).ini (I 1 (by decide)).ty (I 1 (by decide)).ok (hr.mono (by omega)) (I 1 (by decide)).b pass0 rfl (T.g 1 (by decide)) (pa_cons (pv 0) pa_nil)) (pa_cons (pe_mkX (T.k 2 (by decide)) (I 2 (by decide)).ini (I 2 (by decide)).ty (I 2 (by decide)).ok (hr.mono (by omega)) (I 2 (by decide)).b pass0 rfl (T.g 2 (by decide)) (pa_cons (pv 0) pa_nil)) (pa_cons (pe_mkX0 (T.k 3 (by decide)) (I 3 (by decide)).ini (I 3 (by decide)).ty (I 3 (by decide)).ok (hr.mono (by omega)) (I 3 (by decide)).b rfl pass0 rfl (T.g 3 (by decide))) (pa_cons (pe_mkX (T.k 4 (by decide)) (I 4 (by decide)).ini (I 4 (by decide)).ty (I 4 (by decide)).ok (hr.mono (by omega)) (I 4 (by decide)).b pass0 rfl (T.g 4 (by decide)) (pa_cons (pv 0) pa_nil)) (pa_cons (pe_mkX (T.k 5 (by decide)) (I 5 (by decide)).ini (I 5 (by decide)).ty (I 5 (by decide)).ok (hr.mono (by omega)) (I 5 (by decide)).b pass0 rfl (T.g 5 (by decide)) (pa_cons (pv 0) pa_nil)) pa_nil))))))))
      (pss_cons (ps_set (i := 2) scLawByPlace.nd rfl (.inl rfl) (pe_op op_cat (pv 2) (pe_lst (pa_cons (pe_mkX (T.k 6 (by decide)) (I 6 (by decide)).ini (I 6 (by decide)).ty (I 6 (by decide)).ok (hr.mono (by omega)) (I 6 (by decide)).b pass0 rfl (T.g 6 (by decide)) (pa_cons (pv 0) (pa_cons (pv 1) pa_nil))) (pa_cons (pe_mkX (T.k 7 (by decide)) (I 7 (by decide)).ini (I 7 (by decide)).ty (I 7 (by decide)).ok (hr.mono (by omega)) (I 7 (by decide)).b pass0 rfl (T.g 7 (by decide)) (pa_cons (pv 0) (pa_cons (pv 1) pa_nil))) (pa_cons (pe_mkX (T.k 8 (by decide)) (I 8 (by decide)).ini (I 8 (by decide)).ty (I 8 (by decide)).ok (hr.mono (by omega)) (I 8 (by decide)).b pass0 rfl (T.g 8 (by decide)) (pa_cons (pv 0) (pa_cons (pv 1) pa_nil))) (pa_cons (pe_mkX (T.k 9 (by decide)) (I 9 (by decide)).ini (I 9 (by decide)).ty (I 9 (by decide)).ok (hr.mono (by omega)) (I 9 (by decide)).b pass0 rfl (T.g 9 (by decide)) (pa_cons (pv 0) pa_nil)) (pa_cons (pe_mkX (T.k 10 (by decide)) (I 10 (by decide)).ini (I 10 (by decide)).ty (I 10 (by decide)).ok (hr.mono (by omega)) (I 10 (by decide)).b pass0 rfl (T.g 10 (by decide)) (pa_cons (pv 0) pa_nil)) (pa_cons (pe_mkX (T.k 11 (by decide)) (I 11 (by decide)).ini (I 11 (by decide)).ty (I 11 (by decide)).ok (hr.mono (by omega)) (I 11 (by decide)).b pass0 rfl (T.g 11 (by decide)) (pa_cons (pv 0) (pa_cons (pv 1) pa_nil))) pa_nil)))))))))
      (pss_one (ps_ret (pe_op op_cat (pv 2) (pe_lst (pa_cons (pe_mkX (T.k 12 (by decide)) (I 12 (by decide)).ini (I 12 (by decide)).ty (I 12 (by decide)).ok (hr.mono (by omega)) (I 12 (by decide)).b pass0 rfl (T.g 12 (by decide)) (pa_cons (pv 0) pa_nil)) (pa_cons (pe_mkX0 (T.k 13 (by decide)) (I 13 (by decide)).ini (I 13 (by decide)).ty (I 13 (by decide)).ok (hr.mono (by omega)) (I 13 (by decide)).b rfl pass0 rfl (T.g 13 (by decide))) (pa_cons (pe_mkX (T.k 14 (by decide)) (I 14 (by decide)).ini (I 14 (by decide)).ty (I 14 (by decide)).ok (hr.mono (by omega)) (I 14 (by decide)).b pass0 rfl (T.g 14 (by decide)) (pa_cons (pv 0) pa_nil)) pa_nil))))))))), ?_⟩
    have t : Same H H := Same.refl H
    have M : MadeL K H S C [v, u] [] := fun j r e => by simp at e
    refine ⟨_, rfl, (by show 1 ≤ 1000; decide), mk_W (C := C) (i := 0) (vs := [v]) (xs := [v, u]) (hS.same t) rfl (th1 (tv.dat (Dat.of t))) hx1 fun r0 G0 s0 m0 => ?_⟩
    replace M : MadeL K G0 S C [v, u] [.ref r0] := M.snoc s0 rfl m0
    replace t := t.trans s0
    refine ⟨_, rfl, (by show 1 ≤ 1000; decide), mk_W (C := C) (i := 1) (vs := [v]) (xs := [v, u]) (hS.same t) rfl (th1 (tv.dat (Dat.of t))) hx1 fun r1 G1 s1 m1 => ?_⟩
    replace M : MadeL K G1 S C [v, u] [.ref r0, .ref r1] := M.snoc s1 rfl m1
    replace t := t.trans s1
    refine ⟨_, rfl, (by show 1 ≤ 1000; decide), mk_W (C := C) (i := 2) (vs := [v]) (xs := [v, u]) (hS.same t) rfl (th1 (tv.dat (Dat.of t))) hx1 fun r2 G2 s2 m2 => ?_⟩
    replace M : MadeL K G2 S C [v, u] [.ref r0, .ref r1, .ref r2] := M.snoc s2 rfl m2
    replace t := t.trans s2
    refine ⟨(by show 0 ≤ 1000; decide), mk_W (C := C) (i := 3) (vs := []) (xs := [v, u]) (hS.same t) rfl (fun w m => by cases m) hx0 fun r3 G3 s3 m3 => ?_⟩
    replace M : MadeL K G3 S C [v, u] [.ref r0, .ref r1, .ref r2, .ref r3] := M.snoc s3 rfl m3
    replace t := t.trans s3
    refine ⟨_, rfl, (by show 1 ≤ 1000; decide), mk_W (C := C) (i := 4) (vs := [v]) (xs := [v, u]) (hS.same t) rfl (th1 (tv.dat (Dat.of t))) hx1 fun r4 G4 s4 m4 => ?_⟩
    replace M : MadeL K G4 S C [v, u] [.ref r0, .ref r1, .ref r2, .ref r3, .ref r4] := M.snoc s4 rfl m4
    replace t := t.trans s4
    refine ⟨_, rfl, (by show 1 ≤ 1000; decide), mk_W (C := C) (i := 5) (vs := [v]) (xs := [v, u]) (hS.same t) rfl (th1 (tv.dat (Dat.of t))) hx1 fun r5 G5 s5 m5 => ?_⟩
    replace M : MadeL K G5 S C [v, u] [.ref r0, .ref r1, .ref r2, .ref r3, .ref r4, .ref r5] := M.snoc s5 rfl m5
    replace t := t.trans s5
    refine ⟨(by show 6 ≤ sizeLine; decide), fun l0 n0 => ?_⟩
    have e0 : (upd G5 l0 (.lst [.ref r0, .ref r1, .ref r2, .ref r3, .ref r4, .ref r5])) l0 = some (.lst [.ref r0, .ref r1, .ref r2, .ref r3, .ref r4, .ref r5]) := upd_same
    replace M := M.dax (Dax.of (same_upd (o := .lst [.ref r0, .ref r1, .ref r2, .ref r3, .ref r4, .ref r5]) n0))
    replace t := t.trans (same_upd (o := .lst [.ref r0, .ref r1, .ref r2, .ref r3, .ref r4, .ref r5]) n0)
    generalize (upd G5 l0 (.lst [.ref r0, .ref r1, .ref r2, .ref r3, .ref r4, .ref r5])) = G at M t e0 ⊢
    refine ⟨_, rfl, _, rfl, _, rfl, (by show 2 ≤ 1000; decide), mk_W (C := C) (i := 6) (vs := [v, u]) (xs := [v, u]) (hS.same t) rfl (th2 (tv.dat (Dat.of t)) (tu.dat (Dat.of t))) hx2 fun r6 G6 s6 m6 => ?_⟩
    replace M : MadeL K G6 S C [v, u] [.ref r0, .ref r1, .ref r2, .ref r3, .ref r4, .ref r5, .ref r6] := M.snoc s6 rfl m6
    replace t := t.trans s6
    refine ⟨_, rfl, _, rfl, (by show 2 ≤ 1000; decide), mk_W (C := C) (i := 7) (vs := [v, u]) (xs := [v, u]) (hS.same t) rfl (th2 (tv.dat (Dat.of t)) (tu.dat (Dat.of t))) hx2 fun r7 G7 s7 m7 => ?_⟩
    replace M : MadeL K G7 S C [v, u] [.ref r0, .ref r1, .ref r2, .ref r3, .ref r4, .ref r5, .ref r6, .ref r7] := M.snoc s7 rfl m7
    replace t := t.trans s7
    refine ⟨_, rfl, _, rfl, (by show 2 ≤ 1000; decide), mk_W (C := C) (i := 8) (vs := [v, u]) (xs := [v, u]) (hS.same t) rfl (th2 (tv.dat (Dat.of t)) (tu.dat (Dat.of t))) hx2 fun r8 G8 s8 m8 => ?_⟩
    replace M : MadeL K G8 S C [v, u] [.ref r0, .ref r1, .ref r2, .ref r3, .ref r4, .ref r5, .ref r6, .ref r7, .ref r8] := M.snoc s8 rfl m8
    replace t := t.trans s8
    refine ⟨_, rfl, (by show 1 ≤ 1000; decide), mk_W (C := C) (i := 9) (vs := [v]) (xs := [v, u]) (hS.same t) rfl (th1 (tv.dat (Dat.of t))) hx1 fun r9 G9 s9 m9 => ?_⟩
    replace M : MadeL K G9 S C [v, u] [.ref r0, .ref r1, .ref r2, .ref r3, .ref r4, .ref r5, .ref r6, .ref r7, .ref r8, .ref r9] := M.snoc s9 rfl m9
    replace t := t.trans s9
    refine ⟨_, rfl, (by show 1 ≤ 1000; decide), mk_W (C := C) (i := 10) (vs := [v]) (xs := [v, u]) (hS.same t) rfl (th1 (tv.dat (Dat.of t))) hx1 fun r10 G10 s10 m10 => ?_⟩
    replace M : MadeL K G10 S C [v, u] [.ref r0, .ref r1, .ref r2, .ref r3, .ref r4, .ref r5, .ref r6, .ref r7, .ref r8, .ref r9, .ref r10] := M.snoc s10 rfl m10
    replace t := t.trans s10
    refine ⟨_, rfl, _, rfl, (by show 2 ≤ 1000; decide), mk_W (C := C) (i := 11) (vs := [v, u]) (xs := [v, u]) (hS.same t) rfl (th2 (tv.dat (Dat.of t)) (tu.dat (Dat.of t))) hx2 fun r11 G11 s11 m11 => ?_⟩
    replace M : MadeL K G11 S C [v, u] [.ref r0, .ref r1, .ref r2, .ref r3, .ref r4, .ref r5, .ref r6, .ref r7, .ref r8, .ref r9, .ref r10, .ref r11] := M.snoc s11 rfl m11
    replace t := t.trans s11
    refine ⟨(by show 6 ≤ sizeLine; decide), fun m1_ nm1 => ⟨l0, m1_, _, _, rfl, rfl, same_upd nm1 _ _ ((((((s6.trans s7).trans s8).trans s9).trans s10).trans s11) _ _ e0), upd_same, (by show 6 + 6 ≤ sizeLine; decide), fun l1 n1 => ?_⟩⟩
    have sx := (same_upd (o := .lst [.ref r6, .ref r7, .ref r8, .ref r9, .ref r10, .ref r11]) nm1).trans (same_upd (o := .lst ([.ref r0, .ref r1, .ref r2, .ref r3, .ref r4, .ref r5] ++ [.ref r6, .ref r7, .ref r8, .ref r9, .ref r10, .ref r11])) n1)
    have e1 : (upd (upd G11 m1_ (.lst [.ref r6, .ref r7, .ref r8, .ref r9, .ref r10, .ref r11])) l1 (.lst ([.ref r0, .ref r1, .ref r2, .ref r3, .ref r4, .ref r5] ++ [.ref r6, .ref r7, .ref r8, .ref r9, .ref r10, .ref r11]))) l1 = some (.lst [.ref r0, .ref r1, .ref r2, .ref r3, .ref r4, .ref r5, .ref r6, .ref r7, .ref r8, .ref r9, .ref r10, .ref r11]) := upd_same
    replace M := M.dax (Dax.of sx)
    replace t := t.trans sx
    generalize (upd (upd G11 m1_ (.lst [.ref r6, .ref r7, .ref r8, .ref r9, .ref r10, .ref r11])) l1 (.lst ([.ref r0, .ref r1, .ref r2, .ref r3, .ref r4, .ref r5] ++ [.ref r6, .ref r7, .ref r8, .ref r9, .ref r10, .ref r11]))) = G at M t e1 ⊢
    refine ⟨_, rfl, _, rfl, (by show 1 ≤ 1000; decide), mk_W (C := C) (i := 12) (vs := [v]) (xs := [v, u]) (hS.same t) rfl (th1 (tv.dat (Dat.of t))) hx1 fun r12 G12 s12 m12 => ?_⟩
    replace M : MadeL K G12 S C [v, u] [.ref r0, .ref r1, .ref r2, .ref r3, .ref r4, .ref r5, .ref r6, .ref r7, .ref r8, .ref r9, .ref r10, .ref r11, .ref r12] := M.snoc s12 rfl m12
    replace t := t.trans s12
    refine ⟨(by show 0 ≤ 1000; decide), mk_W (C := C) (i := 13) (vs := []) (xs := [v, u]) (hS.same t) rfl (fun w m => by cases m) hx0 fun r13 G13 s13 m13 => ?_⟩
    replace M : MadeL K G13 S C [v, u] [.ref r0, .ref r1, .ref r2, .ref r3, .ref r4, .ref r5, .ref r6, .ref r7, .ref r8, .ref r9, .ref r10, .ref r11, .ref r12, .ref r13] := M.snoc s13 rfl m13
    replace t := t.trans s13
    refine ⟨_, rfl, (by show 1 ≤ 1000; decide), mk_W (C := C) (i := 14) (vs := [v]) (xs := [v, u]) (hS.same t) rfl (th1 (tv.dat (Dat.of t))) hx1 fun r14 G14 s14 m14 => ?_⟩
    replace M : MadeL K G14 S C [v, u] [.ref r0, .ref r1, .ref r2, .ref r3, .ref r4, .ref r5, .ref r6, .ref r7, .ref r8, .ref r9, .ref r10, .ref r11, .ref r12, .ref r13, .ref r14] := M.snoc s14 rfl m14
    replace t := t.trans s14
    refine ⟨(by show 3 ≤ sizeLine; decide), fun m2_ nm2 => ⟨l1, m2_, _, _, rfl, rfl, same_upd nm2 _ _ (((s12.trans s13).trans s14) _ _ e1), upd_same, (by show 12 + 3 ≤ sizeLine; decide), fun l2 n2 => ?_⟩⟩
    have sx := (same_upd (o := .lst [.ref r12, .ref r13, .ref r14]) nm2).trans (same_upd (o := .lst ([.ref r0, .ref r1, .ref r2, .ref r3, .ref r4, .ref r5, .ref r6, .ref r7, .ref r8, .ref r9, .ref r10, .ref r11] ++ [.ref r12, .ref r13, .ref r14])) n2)
    exact q l2 _ _ (t.trans sx) ((t.trans (same_upd (o := .lst [.ref r12, .ref r13, .ref r14]) nm2)).free n2) upd_same rfl (M.dax (Dax.of sx))
theorem ok_by_name {f : Addr} {fd : FuncData} {fI : Nat → Addr} {fdI : Nat → FuncData} (F : Fun K "_law_by_name" "_law_by_name" sLawByName f fd) (T : Errs K mg C aE aM aL) (I : ∀ i, i < 15 → IniOk P w K mg base C i (fI i) (fdI i)) : FnOk P w K mg base CX0 8 f fd ["a", "b"] (spMakeAll K C) := by
  refine F.ok scLawByName (fun vs H Q E h => ?_) (fun cdv A outer s H vs Q E hr h => ?_)
  · obtain ⟨S, v, u, rfl, _⟩ := h
    rfl
  · obtain ⟨S, v, u, rfl, hS, tv, tu, q⟩ := h
    refine ⟨_, (pss_cons (ps_set (i := 2) scLawByName.nd rfl (.inl rfl) (pe_lst (pa_cons (pe_mkXK (T.k 0 (by decide)) (I 0 (by decide)).ini (I 0 (by decide)).ty (I 0 (by decide)).ok (hr.mono (by omega)) ((I 0 (by decide)).kb rfl) pass0 rfl (T.g 0 (by decide)) (pk_cons (pv 0) pk_nil)) (pa_cons (pe_mkXK (T.k 1 (by decide)) (I 1 (by decide)).ini (I 1 (by decide)).ty (I 1 (by decide)).ok (hr.mono (by omega)) ((I 1 (by decide)).kb rfl) pass0 rfl (T.g 1 (by decide)) (pk_cons (pv 0) pk_nil)) (pa_cons (pe_mkXK (T.k 2 (by decide)) (I 2 (by decide)).ini (I 2 (by decide)).ty (I 2 (by decide)).ok (hr.mono (by omega)) ((I 2 (by decide)).kb rfl) pass0 rfl (T.g 2 (by decide)) (pk_cons (pv 0) pk_nil)) (pa_cons (pe_mkX0 (T.k 3 (by decide)) (I 3 (by decide)).ini (I 3 (by decide)).ty (I 3 (by decide)).ok (hr.mono (by omega)) (I 3 (by decide)).b rfl pass0 rfl (T.g 3 (by decide))) (pa_cons (pe_mkXK (T.k 4 (by decide)) (I 4 (by decide)).ini (I 4 (by decide)).ty (I 4 (by decide)).ok (hr.mono (by omega)) ((I 4 (by decide)).kb rfl) pass0 rfl (T.g 4 (by decide)) (pk_cons (pv 0) pk_nil)) pa_nil)))))))
      (pss_cons (ps_set (i := 2) scLawByName.nd rfl (.inl rfl) (pe_op op_cat (pv 2) (pe_lst (pa_cons (pe_mkXK (T.k 5 (by decide)) (I 5 (by decide)).ini (I 5 (by decide)).ty (I 5 (by decide)).ok (hr.mono (by omega)) ((I 5 (by decide)).kb rfl) pass0 rfl (T.g 5 (by decide)) (pk_cons (pv 0) pk_nil)) (pa_cons (pe_mkXK (T.k 6 (by decide)) (I 6 (by decide)).ini (I 6 (by decide)).ty (I 6 (by decide)).ok (hr.mono (by omega)) ((I 6 (by decide)).kr rfl) pass0 rfl (T.g 6 (by decide)) (pk_cons (pv 1) (pk_cons (pv 0) pk_nil))) (pa_cons (pe_mkXK (T.k 7 (by decide)) (I 7 (by decide)).ini (I 7 (by decide)).ty (I 7 (by decide)).ok (hr.mono (by omega)) ((I 7 (by decide)).kr rfl) pass0 rfl (T.g 7 (by decide)) (pk_cons (pv 1) (pk_cons (pv 0) pk_nil))) (pa_cons (pe_mkXK (T.k 8 (by decide)) (I 8 (by decide)).ini (I 8 (by decide)).ty (I 8 (by decide)).ok (hr.mono (by omega)) ((I 8 (by decide)).kr rfl) pass0 rfl (T.g 8 (by decide)) (pk_cons (pv 1) (pk_cons (pv 0) pk_nil))) pa_nil)))))))
      (pss_cons (ps_set (i := 2) scLawByName.nd rfl (.inl rfl) (pe_op op_cat (pv 2) (pe_lst (pa_cons (pe_mkXK (T.k 9 (by decide)) (I 9 (by decide)).ini (I 9 (by decide)).ty (I 9 (by decide)).ok (hr.mono (by omega)) ((I 9 (by decide)).kb rfl) pass0 rfl (T.g 9 (by decide)) (pk_cons (pv 0) pk_nil)) (pa_cons (pe_mkXK (T.k 10 (by decide)) (I 10 (by decide)).ini (I 10 (by decide)).ty (I 10 (by decide)).ok (hr.mono (by omega)) ((I 10 (by decide)).kb rfl) pass0 rfl (T.g 10 (by decide)) (pk_cons (pv 0) pk_nil)) (pa_cons (pe_mkXK (T.k 11 (by decide)) (I 11 (by decide)).ini (I 11 (by decide)).ty (I 11 (by decide)).ok (hr.mono (by omega)) ((I 11 (by decide)).kr rfl) pass0 rfl (T.g 11 (by decide)) (pk_cons (pv 1) (pk_cons (pv 0) pk_nil))) (pa_cons (pe_mkXK (T.k 12 (by decide)) (I 12 (by decide)).ini (I 12 (by decide)).ty (I 12 (by decide)).ok (hr.mono (by omega)) ((I 12 (by decide)).kb rfl) pass0 rfl (T.g 12 (by decide)) (pk_cons (pv 0) pk_nil)) (pa_cons (pe_mkX0 (T.k 13 (by decide)) (I 13 (by decide)).ini (I 13 (by decide)).ty (I 13 (by decide)).ok (hr.mono (by omega)) (I 13 (by decide)).b rfl pass0 rfl (T.g 13 (by decide))) pa_nil))))))))
      (pss_one (ps_ret (pe_op op_cat (pv 2) (pe_lst (pa_cons (pe_mkXK (T.k 14 (by decide)) (I 14 (by decide)).ini (I 14 (by decide)).ty (I 14 (by decide)).ok (hr.mono (by omega)) ((I 14 (by decide)).kb rfl) pass0 rfl (T.g 14 (by decide)) (pk_cons (pv 0) pk_nil)) pa_nil)))))))), ?_⟩
    have t : Same H H := Same.refl H
    have M : MadeL K H S C [v, u] [] := fun j r e => by simp at e
    refine ⟨_, rfl, rfl, mk_W (C := C) (i := 0) (vs := [v]) (xs := [v, u]) (hS.same t) rfl (th1 (tv.dat (Dat.of t))) hx1 fun r0 G0 s0 m0 => ?_⟩
    replace M : MadeL K G0 S C [v, u] [.ref r0] := M.snoc s0 rfl m0
    replace t := t.trans s0
    refine ⟨_, rfl, rfl, mk_W (C := C) (i := 1) (vs := [v]) (xs := [v, u]) (hS.same t) rfl (th1 (tv.dat (Dat.of t))) hx1 fun r1 G1 s1 m1 => ?_⟩
    replace M : MadeL K G1 S C [v, u] [.ref r0, .ref r1] := M.snoc s1 rfl m1
    replace t := t.trans s1
    refine ⟨_, rfl, rfl, mk_W (C := C) (i := 2) (vs := [v]) (xs := [v, u]) (hS.same t) rfl (th1 (tv.dat (Dat.of t))) hx1 fun r2 G2 s2 m2 => ?_⟩
    replace M : MadeL K G2 S C [v, u] [.ref r0, .ref r1, .ref r2] := M.snoc s2 rfl m2
    replace t := t.trans s2
    refine ⟨(by show 0 ≤ 1000; decide), mk_W (C := C) (i := 3) (vs := []) (xs := [v, u]) (hS.same t) rfl (fun w m => by cases m) hx0 fun r3 G3 s3 m3 => ?_⟩
    replace M : MadeL K G3 S C [v, u] [.ref r0, .ref r1, .ref r2, .ref r3] := M.snoc s3 rfl m3
    replace t := t.trans s3
    refine ⟨_, rfl, rfl, mk_W (C := C) (i := 4) (vs := [v]) (xs := [v, u]) (hS.same t) rfl (th1 (tv.dat (Dat.of t))) hx1 fun r4 G4 s4 m4 => ?_⟩
    replace M : MadeL K G4 S C [v, u] [.ref r0, .ref r1, .ref r2, .ref r3, .ref r4] := M.snoc s4 rfl m4
    replace t := t.trans s4
    refine ⟨(by show 5 ≤ sizeLine; decide), fun l0 n0 => ?_⟩
    have e0 : (upd G4 l0 (.lst [.ref r0, .ref r1, .ref r2, .ref r3, .ref r4])) l0 = some (.lst [.ref r0, .ref r1, .ref r2, .ref r3, .ref r4]) := upd_same
    replace M := M.dax (Dax.of (same_upd (o := .lst [.ref r0, .ref r1, .ref r2, .ref r3, .ref r4]) n0))
    replace t := t.trans (same_upd (o := .lst [.ref r0, .ref r1, .ref r2, .ref r3, .ref r4]) n0)
    generalize (upd G4 l0 (.lst [.ref r0, .ref r1, .ref r2, .ref r3, .ref r4])) = G at M t e0 ⊢
    refine ⟨_, rfl, _, rfl, rfl, mk_W (C := C) (i := 5) (vs := [v]) (xs := [v, u]) (hS.same t) rfl (th1 (tv.dat (Dat.of t))) hx1 fun r5 G5 s5 m5 => ?_⟩
    replace M : MadeL K G5 S C [v, u] [.ref r0, .ref r1, .ref r2, .ref r3, .ref r4, .ref r5] := M.snoc s5 rfl m5
    replace t := t.trans s5
    refine ⟨_, rfl, _, rfl, rfl, mk_W (C := C) (i := 6) (vs := [v, u]) (xs := [v, u]) (hS.same t) rfl (th2 (tv.dat (Dat.of t)) (tu.dat (Dat.of t))) hx2 fun r6 G6 s6 m6 => ?_⟩
    replace M : MadeL K G6 S C [v, u] [.ref r0, .ref r1, .ref r2, .ref r3, .ref r4, .ref r5, .ref r6] := M.snoc s6 rfl m6
    replace t := t.trans s6
    refine ⟨_, rfl, _, rfl, rfl, mk_W (C := C) (i := 7) (vs := [v, u]) (xs := [v, u]) (hS.same t) rfl (th2 (tv.dat (Dat.of t)) (tu.dat (Dat.of t))) hx2 fun r7 G7 s7 m7 => ?_⟩
    replace M : MadeL K G7 S C [v, u] [.ref r0, .ref r1, .ref r2, .ref r3, .ref r4, .ref r5, .ref r6, .ref r7] := M.snoc s7 rfl m7
    replace t := t.trans s7
    refine ⟨_, rfl, _, rfl, rfl, mk_W (C := C) (i := 8) (vs := [v, u]) (xs := [v, u]) (hS.same t) rfl (th2 (tv.dat (Dat.of t)) (tu.dat (Dat.of t))) hx2 fun r8 G8 s8 m8 => ?_⟩
    replace M : MadeL K G8 S C [v, u] [.ref r0, .ref r1, .ref r2, .ref r3, .ref r4, .ref r5, .ref r6, .ref r7, .ref r8] := M.snoc s8 rfl m8
    replace t := t.trans s8
    refine ⟨(by show 4 ≤ sizeLine; decide), fun m1_ nm1 => ⟨l0, m1_, _, _, rfl, rfl, same_upd nm1 _ _ ((((s5.trans s6).trans s7).trans s8) _ _ e0), upd_same, (by show 5 + 4 ≤ sizeLine; decide), fun l1 n1 => ?_⟩⟩
    have sx := (same_upd (o := .lst [.ref r5, .ref r6, .ref r7, .ref r8]) nm1).trans (same_upd (o := .lst ([.ref r0, .ref r1, .ref r2, .ref r3, .ref r4] ++ [.ref r5, .ref r6, .ref r7, .ref r8])) n1)
    have e1 : (upd (upd G8 m1_ (.lst [.ref r5, .ref r6, .ref r7, .ref r8])) l1 (.lst ([.ref r0, .ref r1, .ref r2, .ref r3, .ref r4] ++ [.ref r5, .ref r6, .ref r7, .ref r8]))) l1 = some (.lst [.ref r0, .ref r1, .ref r2, .ref r3, .ref r4, .ref r5, .ref r6, .ref r7, .ref r8]) := upd_same
    replace M := M.dax (Dax.of sx)
    replace t := t.trans sx
    generalize (upd (upd G8 m1_ (.lst [.ref r5, .ref r6, .ref r7, .ref r8])) l1 (.lst ([.ref r0, .ref r1, .ref r2, .ref r3, .ref r4] ++ [.ref r5, .ref r6, .ref r7, .ref r8]))) = G at M t e1 ⊢
    refine ⟨_, rfl, _, rfl, rfl, mk_W (C := C) (i := 9) (vs := [v]) (xs := [v, u]) (hS.same t) rfl (th1 (tv.dat (Dat.of t))) hx1 fun r9 G9 s9 m9 => ?_⟩
    replace M : MadeL K G9 S C [v, u] [.ref r0, .ref r1, .ref r2, .ref r3, .ref r4, .ref r5, .ref r6, .ref r7, .ref r8, .ref r9] := M.snoc s9 rfl m9
    replace t := t.trans s9
    refine ⟨_, rfl, rfl, mk_W (C := C) (i := 10) (vs := [v]) (xs := [v, u]) (hS.same t) rfl (th1 (tv.dat (Dat.of t))) hx1 fun r10 G10 s10 m10 => ?_⟩
    replace M : MadeL K G10 S C [v, u] [.ref r0, .ref r1, .ref r2, .ref r3, .ref r4, .ref r5, .ref r6, .ref r7, .ref r8, .ref r9, .ref r10] := M.snoc s10 rfl m10
    replace t := t.trans s10
    refine ⟨_, rfl, _, rfl, rfl, mk_W (C := C) (i := 11) (vs := [v, u]) (xs := [v, u]) (hS.same t) rfl (th2 (tv.dat (Dat.of t)) (tu.dat (Dat.of t))) hx2 fun r11 G11 s11 m11 => ?_⟩
    replace M : MadeL K G11 S C [v, u] [.ref r0, .ref r1, .ref r2, .ref r3, .ref r4, .ref r5, .ref r6, .ref r7, .ref r8, .ref r9, .ref r10, .ref r11] := M.snoc s11 rfl m11
    replace t := t.trans s11
    refine ⟨_, rfl, rfl, mk_W (C := C) (i := 12) (vs := [v]) (xs := [v, u]) (hS.same t) rfl (th1 (tv.dat (Dat.of t))) hx1 fun r12 G12 s12 m12 => ?_⟩
    replace M : MadeL K G12 S C [v, u] [.ref r0, .ref r1, .ref r2, .ref r3, .ref r4, .ref r5, .ref r6, .ref r7, .ref r8, .ref r9, .ref r10, .ref r11, .ref r12] := M.snoc s12 rfl m12
    replace t := t.trans s12
    refine ⟨(by show 0 ≤ 1000; decide), mk_W (C := C) (i := 13) (vs := []) (xs := [v, u]) (hS.same t) rfl (fun w m => by cases m) hx0 fun r13 G13 s13 m13 => ?_⟩
    replace M : MadeL K G13 S C [v, u] [.ref r0, .ref r1, .ref r2, .ref r3, .ref r4, .ref r5, .ref r6, .ref r7, .ref r8, .ref r9, .ref r10, .ref r11, .ref r12, .ref r13] := M.snoc s13 rfl m13
    replace t := t.trans s13
    refine ⟨(by show 5 ≤ sizeLine; decide), fun m2_ nm2 => ⟨l1, m2_, _, _, rfl, rfl, same_upd nm2 _ _ (((((s9.trans s10).trans s11).trans s12).trans s13) _ _ e1), upd_same, (by show 9 + 5 ≤ sizeLine; decide), fun l2 n2 => ?_⟩⟩
    have sx := (same_upd (o := .lst [.ref r9, .ref r10, .ref r11, .ref r12, .ref r13]) nm2).trans (same_upd (o := .lst ([.ref r0, .ref r1, .ref r2, .ref r3, .ref r4, .ref r5, .ref r6, .ref r7, .ref r8] ++ [.ref r9, .ref r10, .ref r11, .ref r12, .ref r13])) n2)
    have e2 : (upd (upd G13 m2_ (.lst [.ref r9, .ref r10, .ref r11, .ref r12, .ref r13])) l2 (.lst ([.ref r0, .ref r1, .ref r2, .ref r3, .ref r4, .ref r5, .ref r6, .ref r7, .ref r8] ++ [.ref r9, .ref r10, .ref r11, .ref r12, .ref r13]))) l2 = some (.lst [.ref r0, .ref r1, .ref r2, .ref r3, .ref r4, .ref r5, .ref r6, .ref r7, .ref r8, .ref r9, .ref r10, .ref r11, .ref r12, .ref r13]) := upd_same
    replace M := M.dax (Dax.of sx)
    replace t := t.trans sx
    generalize (upd (upd G13 m2_ (.lst [.ref r9, .ref r10, .ref r11, .ref r12, .ref r13])) l2 (.lst ([.ref r0, .ref r1, .ref r2, .ref r3, .ref r4, .ref r5, .ref r6, .ref r7, .ref r8] ++ [.ref r9, .ref r10, .ref r11, .ref r12, .ref r13]))) = G at M t e2 ⊢
    refine ⟨_, rfl, _, rfl, rfl, mk_W (C := C) (i := 14) (vs := [v]) (xs := [v, u]) (hS.same t) rfl (th1 (tv.dat (Dat.of t))) hx1 fun r14 G14 s14 m14 => ?_⟩
    replace M : MadeL K G14 S C [v, u] [.ref r0, .ref r1, .ref r2, .ref r3, .ref r4, .ref r5, .ref r6, .ref r7, .ref r8, .ref r9, .ref r10, .ref r11, .ref r12, .ref r13, .ref r14] := M.snoc s14 rfl m14
    replace t := t.trans s14
    refine ⟨(by show 1 ≤ sizeLine; decide), fun m3_ nm3 => ⟨l2, m3_, _, _, rfl, rfl, same_upd nm3 _ _ (s14 _ _ e2), upd_same, (by show 14 + 1 ≤ sizeLine; decide), fun l3 n3 => ?_⟩⟩
    have sx := (same_upd (o := .lst [.ref r14]) nm3).trans (same_upd (o := .lst ([.ref r0, .ref r1, .ref r2, .ref r3, .ref r4, .ref r5, .ref r6, .ref r7, .ref r8, .ref r9, .ref r10, .ref r11, .ref r12, .ref r13] ++ [.ref r14])) n3)
    exact q l3 _ _ (t.trans sx) ((t.trans (same_upd (o := .lst [.ref r14]) nm3)).free n3) upd_same rfl (M.dax (Dax.of sx))
end
end My

set_option Elab.async false
set_option linter.all false
set_option maxRecDepth 100000
namespace My
open PySem PySem.Spec PyProof.Rows L2
/-! things; the fields that are due -/
abbrev sLawThing : Stmt := topS 33
theorem scLawThing : FnScope ["bag", "some"] ["bag"] (defScope sLawThing) := ⟨rfl, rfl, rfl, by decide +kernel, rfl, by decide +kernel, by decide +kernel⟩
abbrev sLawDue : Stmt := topS 34
theorem scLawDue : FnScope ["k", "a", "b"] ["k", "a", "b"] (defScope sLawDue) := ⟨rfl, rfl, rfl, by decide +kernel, rfl, by decide +kernel, by decide +kernel⟩
theorem Thg.up {K : PySem.W.Frag} {H : Hp} {S : List Addr} : ∀ {n : Nat} {v : V}, Thg K H S n v → Thg K H S (n + 1) v
  | 0, _, h => .inl h
  | n + 1, _, h => by
    rcases h with h | ⟨a, xs, e, hs, hl, hi⟩
    · exact .inl h
    · exact .inr ⟨a, xs, e, hs, hl, fun x m => (hi x m).up⟩
theorem thg_lst {K : PySem.W.Frag} {H : Hp} {S : List Addr} {p : Addr} {xs : List V} {n : Nat} (hS : Std H S) (np : H p = none) (hl : xs.length < 1000) (h : ∀ x ∈ xs, Thg K H S n x) : Thg K (upd H p (.lst xs)) S (n + 1) (.ref p) :=
  .inr ⟨p, xs, rfl, .inl ⟨SqL.of upd_same, .inl (hS.new np)⟩, hl, fun x m => (h x m).dat (Dat.of (same_upd np))⟩
theorem thg_tup {K : PySem.W.Frag} {H : Hp} {S : List Addr} {p : Addr} {xs : List V} {n : Nat} (hS : Std H S) (np : H p = none) (hl : xs.length < 1000) (h : ∀ x ∈ xs, Thg K H S n x) : Thg K (upd H p (.tup xs)) S (n + 1) (.ref p) :=
  .inr ⟨p, xs, rfl, .inr ⟨SqT.of upd_same, .inl (hS.new np)⟩, hl, fun x m => (h x m).dat (Dat.of (same_upd np))⟩
theorem BagAt.get {K : PySem.W.Frag} {H : Hp} {b : Addr} (B : BagAt K H b) : ∃ xs, H b = some (.lst xs) := by
  obtain ⟨c, ns, i, g, x, n, B⟩ := B
  exact ⟨_, B.ob⟩
theorem BagAt.std {K : PySem.W.Frag} {H : Hp} {b : Addr} (B : BagAt K H b) : Std H [b] := fun p m => by
  rw [List.mem_singleton.mp m]
  obtain ⟨xs, e⟩ := B.get
  exact ⟨_, e⟩
theorem BagAt.ne {K : PySem.W.Frag} {H : Hp} {b l : Addr} (B : BagAt K H b) (n : H l = none) : l ≠ b := fun e => by
  obtain ⟨xs, h⟩ := B.get
  rw [e, h] at n
  cases n
theorem Std.but {K : PySem.W.Frag} {H H' : Hp} {S : List Addr} {b : Addr} (h : Std H S) (t : But b H H') (B : BagAt K H' b) : Std H' S := fun p m => by
  by_cases e : p = b
  · rw [e]
    obtain ⟨xs, z⟩ := B.get
    exact ⟨_, z⟩
  · obtain ⟨o, z⟩ := h p m
    exact ⟨o, t p o e z⟩
def spThing (K : PySem.W.Frag) : Sp := fun vs H Q _ => ∃ (S : List Addr) (b c : Addr) (ns : List Int), vs = [.ref b] ∧ b ∈ S ∧ Std H S ∧ BagC K H b c ns ∧ ∀ v H', Thg K H' S 4 v → BagC K H' b c ns → But b H H' → Q v H'
def spDue : Sp := fun vs H Q _ => ∃ (i : Nat) (v u : V), vs = [.int i, v, u] ∧ i < 15 ∧ ∀ l H', Same H H' → H l = none → H' l = some (.lst ([v, u].take (fl i).length)) → Q (.ref l) H'
section
variable {P : Program} {w : World} {K : PySem.W.Frag} {mg : Str → Option Value} {base : Heap}
theorem ok_thing {f fD fO : Addr} {fd fdD fdO : FuncData} (F : Fun K "_law_thing" "_law_thing" sLawThing f fd) (D : Cal P w K mg base "_law_draw" 1 ["bag", "size"] (spDrawC K) fD fdD) (O : Cal P w K mg base "_law_of" 2 ["bag", "things"] (spOfC K) fO fdO) : FnOk P w K mg base CX0 3 f fd ["bag"] (spThing K) := by
  refine F.ok scLawThing (fun vs H Q E h => ?_) (fun cdv A outer s H vs Q E hr h => ?_)
  · obtain ⟨S, b, cc, ns, rfl, _⟩ := h
    rfl
  · obtain ⟨S, b, cc, ns, rfl, mb, hS, B, q⟩ := h
    refine ⟨_, (pss_cons (ps_set (i := 1) scLawThing.nd rfl (.inl rfl) (pe_lst (pa_cons pe_non (pa_cons pe_bl (pa_cons pe_bl (pa_cons pe_int (pa_cons (pe_op op_sub pe_int pe_int) (pa_cons pe_int (pa_cons pe_str (pa_cons pe_str (pa_cons pe_str (pa_cons pe_str (pa_cons pe_str (pa_cons (pe_tup (pa_cons pe_str (pa_cons pe_str (pa_cons pe_int pa_nil)))) (pa_cons (pe_lst (pa_cons pe_int (pa_cons (pe_lst (pa_cons pe_str (pa_cons (pe_tup (pa_cons pe_non pa_nil)) pa_nil))) pa_nil))) (pa_cons (pe_tup pa_nil) (pa_cons (pe_lst pa_nil) pa_nil)))))))))))))))))
      (pss_one (ps_ret (pe_call O.ok (hr.mono (by omega)) rfl O.g O.kp O.b .nil pass0 (pa_cons (pv 0) (pa_cons (pe_op op_cat (pv 1) (pe_lst (pa_cons (pe_call D.ok (hr.mono (by omega)) rfl D.g D.kp D.b .nil pass0 (pa_cons (pv 0) (pa_cons (pe_op op_powG pe_int pe_int) pa_nil))) (pa_cons (pe_op op_powG pe_int pe_int) (pa_cons (pe_tup (pa_cons pe_int (pa_cons (pe_lst (pa_cons pe_bl (pa_cons (pe_tup (pa_cons pe_str pa_nil)) pa_nil))) pa_nil))) pa_nil))))) pa_nil)))))), ?_⟩
    refine ⟨_, _, rfl, rfl, (by show 3 ≤ sizeLine; decide), fun p1 np1 => ?_⟩
    have s1 := same_upd (o := .tup [.str "o", .str "", .int 0]) np1
    have k1 := thg_tup (K := K) (n := 3) hS np1 (xs := [.str "o", .str "", .int 0]) (by show 3 < 1000; decide) (fun x m => by
      simp only [List.mem_cons, List.not_mem_nil, or_false] at m
      rcases m with rfl | rfl | rfl
      · exact Thg.flat trivial
      · exact Thg.flat trivial
      · exact Thg.flat trivial)
    have t := But.of (b := b) s1
    have B1 := B.same s1
    replace hS := hS.same s1
    generalize (upd H p1 (.tup [.str "o", .str "", .int 0])) = G1 at s1 k1 t B1 hS ⊢
    refine ⟨(by show 1 ≤ sizeLine; decide), fun p2 np2 => ?_⟩
    have s2 := same_upd (o := .tup [.non]) np2
    have k2 := thg_tup (K := K) (n := 1) hS np2 (xs := [.non]) (by show 1 < 1000; decide) (fun x m => by
      simp only [List.mem_cons, List.not_mem_nil, or_false] at m
      rcases m with rfl
      · exact Thg.flat trivial)
    replace k1 := k1.dat (Dat.of s2)
    replace t := t.trans (But.of (b := b) s2)
    have B2 := B1.same s2
    replace hS := hS.same s2
    generalize (upd G1 p2 (.tup [.non])) = G2 at s2 k2 t B2 k1 hS ⊢
    refine ⟨(by show 2 ≤ sizeLine; decide), fun p3 np3 => ?_⟩
    have s3 := same_upd (o := .lst [.str "x", .ref p2]) np3
    have k3 := thg_lst (K := K) (n := 2) hS np3 (xs := [.str "x", .ref p2]) (by show 2 < 1000; decide) (fun x m => by
      simp only [List.mem_cons, List.not_mem_nil, or_false] at m
      rcases m with rfl | rfl
      · exact Thg.flat trivial
      · exact k2)
    replace k1 := k1.dat (Dat.of s3)
    replace k2 := k2.dat (Dat.of s3)
    replace t := t.trans (But.of (b := b) s3)
    have B3 := B2.same s3
    replace hS := hS.same s3
    generalize (upd G2 p3 (.lst [.str "x", .ref p2])) = G3 at s3 k3 t B3 k1 k2 hS ⊢
    refine ⟨(by show 2 ≤ sizeLine; decide), fun p4 np4 => ?_⟩
    have s4 := same_upd (o := .lst [.int 1, .ref p3]) np4
    have k4 := thg_lst (K := K) (n := 3) hS np4 (xs := [.int 1, .ref p3]) (by show 2 < 1000; decide) (fun x m => by
      simp only [List.mem_cons, List.not_mem_nil, or_false] at m
      rcases m with rfl | rfl
      · exact Thg.flat trivial
      · exact k3)
    replace k1 := k1.dat (Dat.of s4)
    replace k2 := k2.dat (Dat.of s4)
    replace k3 := k3.dat (Dat.of s4)
    replace t := t.trans (But.of (b := b) s4)
    have B4 := B3.same s4
    replace hS := hS.same s4
    generalize (upd G3 p4 (.lst [.int 1, .ref p3])) = G4 at s4 k4 t B4 k1 k2 k3 hS ⊢
    refine ⟨(by show 0 ≤ sizeLine; decide), fun p5 np5 => ?_⟩
    have s5 := same_upd (o := .tup []) np5
    have k5 := thg_tup (K := K) (n := 3) hS np5 (xs := []) (by show 0 < 1000; decide) (fun x m => by cases m)
    replace k1 := k1.dat (Dat.of s5)
    replace k2 := k2.dat (Dat.of s5)
    replace k3 := k3.dat (Dat.of s5)
    replace k4 := k4.dat (Dat.of s5)
    replace t := t.trans (But.of (b := b) s5)
    have B5 := B4.same s5
    replace hS := hS.same s5
    generalize (upd G4 p5 (.tup [])) = G5 at s5 k5 t B5 k1 k2 k3 k4 hS ⊢
    refine ⟨(by show 0 ≤ sizeLine; decide), fun p6 np6 => ?_⟩
    have s6 := same_upd (o := .lst []) np6
    have k6 := thg_lst (K := K) (n := 3) hS np6 (xs := []) (by show 0 < 1000; decide) (fun x m => by cases m)
    replace k1 := k1.dat (Dat.of s6)
    replace k2 := k2.dat (Dat.of s6)
    replace k3 := k3.dat (Dat.of s6)
    replace k4 := k4.dat (Dat.of s6)
    replace k5 := k5.dat (Dat.of s6)
    replace t := t.trans (But.of (b := b) s6)
    have B6 := B5.same s6
    replace hS := hS.same s6
    generalize (upd G5 p6 (.lst [])) = G6 at s6 k6 t B6 k1 k2 k3 k4 k5 hS ⊢
    refine ⟨(by show 15 ≤ sizeLine; decide), fun L nL => ?_⟩
    have eL : (upd G6 L (.lst [.non, .bl true, .bl false, .int 0, .int (0 - 1), .int 1, .str "", .str "a", .str "a b", .str "\n", .str "-", .ref p1, .ref p4, .ref p5, .ref p6])) L = some (.lst [.non, .bl true, .bl false, .int 0, .int (0 - 1), .int 1, .str "", .str "a", .str "a b", .str "\n", .str "-", .ref p1, .ref p4, .ref p5, .ref p6]) := upd_same
    have s7 := same_upd (o := .lst [.non, .bl true, .bl false, .int 0, .int (0 - 1), .int 1, .str "", .str "a", .str "a b", .str "\n", .str "-", .ref p1, .ref p4, .ref p5, .ref p6]) nL
    replace k1 := k1.dat (Dat.of s7)
    replace k4 := k4.dat (Dat.of s7)
    replace k5 := k5.dat (Dat.of s7)
    replace k6 := k6.dat (Dat.of s7)
    replace t := t.trans (But.of (b := b) s7)
    have nb := B6.at.ne nL
    have B7 := B6.same s7
    replace hS := hS.same s7
    generalize (upd G6 L (.lst [.non, .bl true, .bl false, .int 0, .int (0 - 1), .int 1, .str "", .str "a", .str "a b", .str "\n", .str "-", .ref p1, .ref p4, .ref p5, .ref p6])) = G7 at eL k1 k4 k5 k6 t B7 hS ⊢
    refine ⟨_, rfl, _, rfl, _, rfl, _, _, rfl, rfl, ⟨by decide, by decide +kernel⟩, b, _, cc, ns, rfl, B7, by decide +kernel, by decide +kernel, fun r G8 r0 r1 B8 t8 => ?_⟩
    have d8 : Dat S G7 G8 := Dat.but mb t8
    replace k1 := k1.dat d8
    replace k4 := k4.dat d8
    replace k5 := k5.dat d8
    replace k6 := k6.dat d8
    replace eL := t8 _ _ nb eL
    replace t := t.trans t8
    replace hS : Std G8 S := hS.but t8 B8.at
    refine ⟨_, _, rfl, rfl, ⟨by decide, by decide +kernel⟩, ?_⟩
    refine ⟨(by show 1 ≤ sizeLine; decide), fun p9 np9 => ?_⟩
    have s9 := same_upd (o := .tup [.str "z"]) np9
    have k9 := thg_tup (K := K) (n := 1) hS np9 (xs := [.str "z"]) (by show 1 < 1000; decide) (fun x m => by
      simp only [List.mem_cons, List.not_mem_nil, or_false] at m
      rcases m with rfl
      · exact Thg.flat trivial)
    replace k1 := k1.dat (Dat.of s9)
    replace k4 := k4.dat (Dat.of s9)
    replace k5 := k5.dat (Dat.of s9)
    replace k6 := k6.dat (Dat.of s9)
    replace t := t.trans (But.of (b := b) s9)
    have B9 := B8.same s9
    replace eL := s9 _ _ eL
    replace hS := hS.same s9
    generalize (upd G8 p9 (.tup [.str "z"])) = G9 at s9 k9 t B9 k1 k4 k5 k6 eL hS ⊢
    refine ⟨(by show 2 ≤ sizeLine; decide), fun p10 np10 => ?_⟩
    have s10 := same_upd (o := .lst [.bl true, .ref p9]) np10
    have k10 := thg_lst (K := K) (n := 2) hS np10 (xs := [.bl true, .ref p9]) (by show 2 < 1000; decide) (fun x m => by
      simp only [List.mem_cons, List.not_mem_nil, or_false] at m
      rcases m with rfl | rfl
      · exact Thg.flat trivial
      · exact k9)
    replace k1 := k1.dat (Dat.of s10)
    replace k4 := k4.dat (Dat.of s10)
    replace k5 := k5.dat (Dat.of s10)
    replace k6 := k6.dat (Dat.of s10)
    replace k9 := k9.dat (Dat.of s10)
    replace t := t.trans (But.of (b := b) s10)
    have B10 := B9.same s10
    replace eL := s10 _ _ eL
    replace hS := hS.same s10
    generalize (upd G9 p10 (.lst [.bl true, .ref p9])) = G10 at s10 k10 t B10 k1 k4 k5 k6 k9 eL hS ⊢
    refine ⟨(by show 2 ≤ sizeLine; decide), fun p11 np11 => ?_⟩
    have s11 := same_upd (o := .tup [.int 1, .ref p10]) np11
    have k11 := thg_tup (K := K) (n := 3) hS np11 (xs := [.int 1, .ref p10]) (by show 2 < 1000; decide) (fun x m => by
      simp only [List.mem_cons, List.not_mem_nil, or_false] at m
      rcases m with rfl | rfl
      · exact Thg.flat trivial
      · exact k10)
    replace k1 := k1.dat (Dat.of s11)
    replace k4 := k4.dat (Dat.of s11)
    replace k5 := k5.dat (Dat.of s11)
    replace k6 := k6.dat (Dat.of s11)
    replace k9 := k9.dat (Dat.of s11)
    replace k10 := k10.dat (Dat.of s11)
    replace t := t.trans (But.of (b := b) s11)
    have B11 := B10.same s11
    replace eL := s11 _ _ eL
    replace hS := hS.same s11
    generalize (upd G10 p11 (.tup [.int 1, .ref p10])) = G11 at s11 k11 t B11 k1 k4 k5 k6 k9 k10 eL hS ⊢
    refine ⟨(by show 3 ≤ sizeLine; decide), fun m nm => ⟨L, m, _, _, rfl, rfl, same_upd nm _ _ eL, upd_same, (by show 15 + 3 ≤ sizeLine; decide), fun c nc => ?_⟩⟩
    have sx := (same_upd (o := .lst [.int r, .int (10 ^ Int.toNat 40), .ref p11]) nm).trans (same_upd (o := .lst ([.non, .bl true, .bl false, .int 0, .int (0 - 1), .int 1, .str "", .str "a", .str "a b", .str "\n", .str "-", .ref p1, .ref p4, .ref p5, .ref p6] ++ [.int r, .int (10 ^ Int.toNat 40), .ref p11])) nc)
    have Bx := B11.same sx
    refine ⟨b, c, cc, ns, _, rfl, Bx, (B11.same (same_upd nm)).at.ne nc, SqL.of upd_same, (by show 0 < 18; decide), (by show 18 < 1000; decide), fun v H' hv B' t' => q v H' ?_ B' ((t.trans (But.of sx)).trans t')⟩
    have dx : Dat S G11 H' := (Dat.of sx).trans (Dat.but mb t')
    simp only [List.cons_append, List.nil_append, List.mem_cons, List.not_mem_nil, or_false] at hv
    rcases hv with rfl | rfl | rfl | rfl | rfl | rfl | rfl | rfl | rfl | rfl | rfl | rfl | rfl | rfl | rfl | rfl | rfl | rfl
    · exact Thg.flat trivial
    · exact Thg.flat trivial
    · exact Thg.flat trivial
    · exact Thg.flat trivial
    · exact Thg.flat trivial
    · exact Thg.flat trivial
    · exact Thg.flat trivial
    · exact Thg.flat trivial
    · exact Thg.flat trivial
    · exact Thg.flat trivial
    · exact Thg.flat trivial
    · exact k1.dat dx
    · exact k4.dat dx
    · exact k5.dat dx
    · exact k6.dat dx
    · exact Thg.flat trivial
    · exact Thg.flat trivial
    · exact k11.dat dx
theorem ok_due {f : Addr} {fd : FuncData} {k : Nat} (F : Fun K "_law_due" "_law_due" sLawDue f fd) : FnOk P w K mg base CX0 (k + 1) f fd ["k", "a", "b"] spDue := by
  refine F.ok scLawDue (fun vs H Q E h => ?_) (fun cdv A outer s H vs Q E hr h => ?_)
  · obtain ⟨i, v, u, rfl, _⟩ := h
    rfl
  · obtain ⟨i, v, u, rfl, hi, q⟩ := h
    refine ⟨_, (pss_cons (ps_if (pt_cmpR op_in_seq (pv 0) (pe_tup (pa_cons pe_int (pa_cons pe_int pa_nil))) rfl) (pss_one (ps_ret (pe_lst pa_nil))) pss_nil)
      (pss_one (ps_ret (pe_ifExp (pt_cmpR op_in_seq (pv 0) (pe_tup (pa_cons pe_int (pa_cons pe_int (pa_cons pe_int (pa_cons pe_int pa_nil))))) rfl) (pe_lst (pa_cons (pv 1) (pa_cons (pv 2) pa_nil))) (pe_lst (pa_cons (pv 1) pa_nil)))))), ?_⟩
    have e1 : ∀ i : Nat, i < 15 → inV (.int (i : Int)) [.int 3, .int 13] = decide ((fl i).length = 0) := by decide +kernel
    have e2 : ∀ i : Nat, i < 15 → inV (.int (i : Int)) [.int 6, .int 7, .int 8, .int 11] = decide ((fl i).length = 2) := by decide +kernel
    have e3 : ∀ i : Nat, i < 15 → (fl i).length ≤ 2 := by decide +kernel
    refine ⟨_, rfl, (by show 2 ≤ sizeLine; decide), fun p np => ⟨p, _, rfl, .inr (SqT.of upd_same), rfl, rfl, ?_⟩⟩
    rw [if_neg (by decide), e1 i hi]
    refine ⟨_, rfl, ite2 (fun c => ?_) (fun c => ?_)⟩
    · refine ⟨(by show 0 ≤ sizeLine; decide), fun l nl => q l _ ((same_upd np).trans (same_upd nl)) ((same_upd np).free nl) ?_⟩
      rw [upd_same, of_decide_eq_true c]
      rfl
    · refine ⟨_, rfl, (by show 4 ≤ sizeLine; decide), fun p2 np2 => ⟨p2, _, rfl, .inr (SqT.of upd_same), rfl, rfl, ?_⟩⟩
      rw [if_neg (by decide), e2 i hi]
      have s2 := (same_upd (o := .tup [.int 3, .int 13]) np).trans (same_upd (o := .tup [.int 6, .int 7, .int 8, .int 11]) np2)
      have c0 : (fl i).length ≠ 0 := fun z => c (decide_eq_true z)
      refine ⟨_, rfl, ite2 (fun c2 => ?_) (fun c2 => ?_)⟩
      · refine ⟨_, rfl, _, rfl, (by show 2 ≤ sizeLine; decide), fun l nl => q l _ (s2.trans (same_upd nl)) (s2.free nl) ?_⟩
        rw [upd_same, of_decide_eq_true c2]
        rfl
      · have c1 : (fl i).length = 1 := by
          have := e3 i hi
          have : (fl i).length ≠ 2 := fun z => c2 (decide_eq_true z)
          omega
        refine ⟨_, rfl, (by show 1 ≤ sizeLine; decide), fun l nl => q l _ (s2.trans (same_upd nl)) (s2.free nl) ?_⟩
        rw [upd_same, c1]
        rfl
end
end My

set_option Elab.async false
set_option linter.all false
set_option maxRecDepth 100000
namespace My
open PySem PySem.Spec PyProof.Rows L2
/-! errors that are raised and caught -/
abbrev sLawCaught : Stmt := topS 32
theorem scLawCaught : FnScope ["k", "a", "b", "e"] ["k", "a", "b"] (defScope sLawCaught) := ⟨rfl, rfl, rfl, by decide +kernel, rfl, by decide +kernel, by decide +kernel⟩
theorem takesN0 {X : Cx} : L2N.Takes X (fun _ _ _ _ => False) := fun _ _ x => by
  obtain ⟨_, _, _, _, _, _, _, _, _, _, _, _, _, _, _, _, h⟩ := x
  exact h.elim
theorem passAt0 {X : Cx} : ∀ σ, PassesAt CX0 X σ ((fun _ => E0) σ) := fun _ _ _ _ _ _ _ h => h.elim
theorem PE.imp {X : Cx} {e : Expr} {t t' : TE} (h : PE X e t) (i : ∀ σ H Q, t' σ H Q → t σ H Q) : PE X e t' := ⟨fun pins s σ H Q I q => h.run pins s σ H Q I (i σ H Q q)⟩
/-- e.f of the caught error -/
def tXc (K : PySem.W.Frag) (a : Addr) (cls : Value) (d : Option Addr) (f : Str) (te : TE) : TE := fun σ H Q => te σ H fun x H1 => ∃ (C dd : Addr) (fs : List (Str × V)) (v : V), x = .ref a ∧ cls = .ref C ∧ d = some dd ∧ H1 dd = some (.xd fs) ∧ ErrK K C ∧ PySem.W.findIn K (.ref C) f = some none ∧ fs.lookup f = some v ∧ Q v H1
/-- the fields of the caught error -/
def spValuesC (K : PySem.W.Frag) (C : Nat → Addr) (a : Addr) (cls : Value) (d : Option Addr) : Sp := fun vs H Q _ => ∃ (S : List Addr) (i : Nat) (xs ws : List V) (dd : Addr), vs = [.ref a] ∧ i < 15 ∧ cls = .ref (C i) ∧ d = some dd ∧ H dd = some (.xd (("code", .str (cn i)) :: ((fl i).zip ws).reverse)) ∧ ws.length = (fl i).length ∧ (∀ (j : Nat) u w, ws[j]? = some u → xs[j]? = some w → LkB K H S 4 u w) ∧
  ∀ l H', Same H H' → H l = none → H' l = some (.lst ws) → Q (.ref l) H'
def ci : Nat → Nat
  | 0 => 11 | 1 => 12 | 2 => 14 | 3 => 7 | _ => 13
def kw : Nat → Str
  | 0 => "count" | 1 => "missing" | 2 => "late" | 3 => "count" | _ => "late"
def spCaught (K : PySem.W.Frag) : Sp := fun vs H Q _ => ∃ (S : List Addr) (k : Nat) (v u : V), vs = [.int k, v, u] ∧ k < 5 ∧ Std H S ∧ Thg K H S 4 v ∧ Thg K H S 4 u ∧
  ∀ l ws H', Same H H' → H l = none → H' l = some (.lst (.str (kw k) :: .str (cn (ci k)) :: ws)) → ws.length = (fl (ci k)).length → (∀ (j : Nat) x y, ws[j]? = some x → [v, u][j]? = some y → LkB K H' S 4 x y) → Q (.ref l) H'
section
variable {P : Program} {w : World} {K : PySem.W.Frag} {mg : Str → Option Value} {base : Heap} {C : Nat → Addr} {aE aM aL : Addr}
theorem pe_code {X : Cx} {a : Addr} {oe : Obj} {cls : Value} {d : Option Addr} {pn : List (Addr × Obj)} {e : Expr} {te : TE} {pos : Pos} {n : Str} (hz : Zc cls d oe) (hf : ∃ vs, oe.data = .fields vs) (he : PE (X.suite a ((a, oe) :: pn)) e te) (hb : attributeBase e n X.env (eval e X.env) = eval e X.env := by rfl) :
    PE (X.suite a ((a, oe) :: pn)) (.Attribute e n pos) (tXc X.K a cls d n te) := by
  refine ⟨fun pins s σ H Q I h => ?_⟩
  refine attr_of hb (thn (he.run pins s σ H _ I h) fun u s1 hh => ?_)
  obtain ⟨x, H1, I1, rx, C, dd, fs, v, ex, ec, ed, hd, T, hno, l, q⟩ := hh
  subst ex ec ed
  obtain rfl : u = Value.ref a := rx
  have ev : EV (X.suite a ((a, oe) :: pn)).pn H1 a C fs := .pin List.mem_cons_self hz hf hd
  obtain ⟨ox, od, mA, J, hl, rel⟩ := ev.inst I1
  obtain ⟨u, hu, ru⟩ := RelO.some_of (v := v) (o := mA n) (by rw [← l]; exact rel n)
  exact HandSPX.exc_get I1.kIn J T.x.ga T.x.gg T.x.exC (PySem.W.findObj_own T.x.hdC hno rfl (by rw [hl, hu])) (handed_of ru) ⟨v, H1, I1.tok _, ru, q⟩
theorem hot1S {X : Cx} {a : Addr} {oe : Obj} {cls : Value} {d : Option Addr} {pn : List (Addr × Obj)} (hz : L2N.Zn cls d oe) (hf : ∃ vs, oe.data = .fields vs) : L2H.Hot1 (X.suite a ((a, oe) :: pn)).A (a, oe) := by
  obtain ⟨vs, hv⟩ := hf
  exact ⟨rfl, vs, hv, hz.2.2 vs hv⟩
theorem none_of {H : Hp} {a d : Addr} {o : HO} (na : H a = none) (h : upd H a o d = none) : H d = none := by
  by_cases e : d = a
  · rw [e]
    exact na
  · rwa [upd_ne e] at h
theorem vals_imp {a : Addr} {oe : Obj} {cls : Value} {d : Option Addr} {σ : L2.St} {H : Hp} {Q : VK} (hz : Zc cls d oe) (hf : ∃ vs, oe.data = .fields vs) (h : tCallS (spValuesC K C a cls d) (fun _ => E0) (tCons (tVar 3) tNil) σ H Q) : tCallS (spValuesP K C (a, oe)) (fun _ => E0) (tCons (tVar 3) tNil) σ H Q := by
  obtain ⟨v, hv, S, i, xs, ws, dd, e, hi, ec, ed, hd, lw, kl, q⟩ := h
  subst ec ed
  exact ⟨v, hv, S, i, xs, ws, dd, e, hi, hz, hf, hd, lw, kl, q⟩
/-- behind the raising: the error is let go, its dict stands -/
theorem let_go {H H' : Hp} {S : List Addr} {a d C : Addr} {fs : List (Str × V)} (na : H a = none) (nd : H d = none) (keep : ∀ p o, p ≠ a → upd H a (exo a C none) p = some o → H' p = some o) (ea : H' a = some (exo a C (some d))) (ed : H' d = some (exd d fs)) : Same H (upd (del H' a) d (.xd fs)) ∧ Dat S H' (upd (del H' a) d (.xd fs)) := by
  refine ⟨fun p o h => ?_, fun p o _ h k => ?_⟩
  · have n1 := ne_of_none h na
    rw [upd_ne (ne_of_none h nd), del_ne n1]
    exact keep p o n1 (by rw [upd_ne n1]; exact h)
  · have n1 : p ≠ a := fun e => by
      rw [e, ea] at h
      cases h
      exact k
    have n2 : p ≠ d := fun e => by
      rw [e, ed] at h
      cases h
      exact k
    rw [upd_ne n2, del_ne n1]
    exact h
theorem ok_caught {f fV : Addr} {fd fdV : FuncData} {fI : Nat → Addr} {fdI : Nat → FuncData} (F : Fun K "_law_caught" "_law_caught" sLawCaught f fd) (T : Errs K mg C aE aM aL) (I : ∀ i, i < 15 → IniOk P w K mg base C i (fI i) (fdI i)) (V : FnP P w K mg base CX0 1 fV fdV ["e"] (spValuesP K C)) (gV : mg "_law_values" = some (.ref fV)) (kV : PySem.W.keepIn K (.ref fV) = true) (bV : Binds K fdV ["e"] []) : FnOk P w K mg base CX0 8 f fd ["k", "a", "b"] (spCaught K) := by
  refine F.ok scLawCaught (fun vs H Q E h => ?_) (fun cdv A outer s H vs Q E hr h => ?_)
  · obtain ⟨S, k, v, u, rfl, _⟩ := h
    rfl
  · obtain ⟨S, k, v, u, rfl, hk, hS, tv, tu, q⟩ := h
    refine ⟨_, (pss_one (L2N.ps_try_manyA (i := 3) rfl rfl scLawCaught.nd rfl rfl takesN0 (fun W pn xe tk _ => (pss_cons (ps_if (pt_cmpR op_eq (pv 0) pe_int (nomark _)) (pss_one (L2N.ps_raise rfl tk (pmk_X (T.k 11 (by decide)) (I 11 (by decide)).ini (I 11 (by decide)).ty (I 11 (by decide)).ok (hr.mono (by omega)) (I 11 (by decide)).b pass0 rfl (T.g 11 (by decide)) (pa_cons (pv 1) (pa_cons (pv 2) pa_nil))))) pss_nil) (pss_cons (ps_if (pt_cmpR op_eq (pv 0) pe_int (nomark _)) (pss_one (L2N.ps_raise rfl tk (pmk_X (T.k 12 (by decide)) (I 12 (by decide)).ini (I 12 (by decide)).ty (I 12 (by decide)).ok (hr.mono (by omega)) (I 12 (by decide)).b pass0 rfl (T.g 12 (by decide)) (pa_cons (pv 1) pa_nil)))) pss_nil) (pss_cons (ps_if (pt_cmpR op_eq (pv 0) pe_int (nomark _)) (pss_one (L2N.ps_raise rfl tk (pmk_X (T.k 14 (by decide)) (I 14 (by decide)).ini (I 14 (by decide)).ty (I 14 (by decide)).ok (hr.mono (by omega)) (I 14 (by decide)).b pass0 rfl (T.g 14 (by decide)) (pa_cons (pv 1) pa_nil)))) pss_nil) (pss_cons (ps_if (pt_cmpR op_eq (pv 0) pe_int (nomark _)) (pss_one (L2N.ps_raise rfl tk (pmk_X (T.k 7 (by decide)) (I 7 (by decide)).ini (I 7 (by decide)).ty (I 7 (by decide)).ok (hr.mono (by omega)) (I 7 (by decide)).b pass0 rfl (T.g 7 (by decide)) (pa_cons (pv 1) (pa_cons (pv 2) pa_nil))))) pss_nil) (pss_one (L2N.ps_raise rfl tk (pmk_X0 (T.k 13 (by decide)) (I 13 (by decide)).ini (I 13 (by decide)).ty (I 13 (by decide)).ok (hr.mono (by omega)) (I 13 (by decide)).b pass0 rfl (T.g 13 (by decide)))))))))) (.cons ⟨rfl, by decide, .inl T.gE⟩ (fun a oe cls d pn hz hf => (pss_one (ps_ret (pe_op op_cat (pe_lst (pa_cons pe_str (pa_cons (pe_code hz.zc hf (pv 3)) pa_nil))) (PE.imp (t' := tCallS (spValuesC K C a cls d) (fun _ => E0) (tCons (tVar 3) tNil)) (pe_callP (E := fun _ => E0) V (L2H.roomH_mark (hr.mono (by omega)) _) (hot1S hz hf) List.mem_cons_self rfl gV kV bV passAt0 (pa_cons (pv 3) pa_nil)) (fun σ H Q h => vals_imp hz.zc hf h)))))) (.cons ⟨rfl, by decide, .inl T.gM⟩ (fun a oe cls d pn hz hf => (pss_one (ps_ret (pe_op op_cat (pe_lst (pa_cons pe_str (pa_cons (pe_code hz.zc hf (pv 3)) pa_nil))) (PE.imp (t' := tCallS (spValuesC K C a cls d) (fun _ => E0) (tCons (tVar 3) tNil)) (pe_callP (E := fun _ => E0) V (L2H.roomH_mark (hr.mono (by omega)) _) (hot1S hz hf) List.mem_cons_self rfl gV kV bV passAt0 (pa_cons (pv 3) pa_nil)) (fun σ H Q h => vals_imp hz.zc hf h)))))) (.cons ⟨rfl, by decide, .inl T.gL⟩ (fun a oe cls d pn hz hf => (pss_one (ps_ret (pe_op op_cat (pe_lst (pa_cons pe_str (pa_cons (pe_code hz.zc hf (pv 3)) pa_nil))) (PE.imp (t' := tCallS (spValuesC K C a cls d) (fun _ => E0) (tCons (tVar 3) tNil)) (pe_callP (E := fun _ => E0) V (L2H.roomH_mark (hr.mono (by omega)) _) (hot1S hz hf) List.mem_cons_self rfl gV kV bV passAt0 (pa_cons (pv 3) pa_nil)) (fun σ H Q h => vals_imp hz.zc hf h)))))) .nil))))), ?_⟩
    have kk : k = 0 ∨ k = 1 ∨ k = 2 ∨ k = 3 ∨ k = 4 := by omega
    rcases kk with rfl | rfl | rfl | rfl | rfl
    · refine ⟨_, rfl, rfl, _, rfl, iteT ⟨_, rfl, _, rfl, (by show 2 ≤ 1000; decide), fun a na => ⟨S, a, [v, u], rfl, rfl, upd_same, hS.same (same_upd na), (th2 (tv.dat (Dat.of (same_upd na))) (tu.dat (Dat.of (same_upd na)))), fun H1 d ws nd keep ea ed lw kl => ⟨rfl, d, _, ea, ed, none_of na nd, ?_⟩⟩⟩⟩
      obtain ⟨s3, d3⟩ := let_go (S := S) na (none_of na nd) keep ea ed
      have e3 : (upd (del H1 a) d (.xd (("code", .str (cn 11)) :: ((fl 11).zip ws).reverse))) d = some (.xd (("code", .str (cn 11)) :: ((fl 11).zip ws).reverse)) := upd_same
      have k3 : ∀ (j : Nat) x y, ws[j]? = some x → [v, u][j]? = some y → LkB K (upd (del H1 a) d (.xd (("code", .str (cn 11)) :: ((fl 11).zip ws).reverse))) S 4 x y := fun j x y h1 h2 => (kl j x y h1 (h2)).dat d3
      generalize (upd (del H1 a) d (.xd (("code", .str (cn 11)) :: ((fl 11).zip ws).reverse))) = H3 at s3 e3 k3 ⊢
      refine ⟨_, T.xE (i := 11) (by decide), fun _ x nx => ?_, fun c => absurd c (by decide)⟩
      refine ⟨_, rfl, C 11, d, _, _, rfl, rfl, rfl, e3, T.k 11 (by decide), T.nc 11 (by decide), rfl, (by show 2 ≤ sizeLine; decide), fun l0 n0 => ?_⟩
      have t0 := same_upd (o := .lst [.str (kw 0), .str (cn 11)]) n0
      refine ⟨_, rfl, S, 11, [v, u], ws, d, rfl, by decide, rfl, rfl, t0 _ _ e3, lw, fun j x y h1 h2 => (k3 j x y h1 h2).dat (Dat.of t0), fun l1 H4 t4 n1 e1 => ?_⟩
      refine ⟨l0, l1, _, _, rfl, rfl, t4 _ _ upd_same, e1, (by rw [lw]; decide), fun l2 n2 => ?_⟩
      have tt := ((s3.trans t0).trans t4).trans (same_upd (o := .lst ([.str (kw 0), .str (cn 11)] ++ ws)) n2)
      exact q l2 ws _ tt (((s3.trans t0).trans t4).free n2) upd_same lw fun j x y h1 h2 => (k3 j x y h1 h2).dat (Dat.of ((t0.trans t4).trans (same_upd n2)))
    · refine ⟨_, rfl, rfl, _, rfl, iteF ⟨_, rfl, rfl, _, rfl, iteT ⟨_, rfl, (by show 1 ≤ 1000; decide), fun a na => ⟨S, a, [v], rfl, rfl, upd_same, hS.same (same_upd na), (th1 (tv.dat (Dat.of (same_upd na)))), fun H1 d ws nd keep ea ed lw kl => ⟨rfl, d, _, ea, ed, none_of na nd, ?_⟩⟩⟩⟩⟩
      obtain ⟨s3, d3⟩ := let_go (S := S) na (none_of na nd) keep ea ed
      have e3 : (upd (del H1 a) d (.xd (("code", .str (cn 12)) :: ((fl 12).zip ws).reverse))) d = some (.xd (("code", .str (cn 12)) :: ((fl 12).zip ws).reverse)) := upd_same
      have k3 : ∀ (j : Nat) x y, ws[j]? = some x → [v, u][j]? = some y → LkB K (upd (del H1 a) d (.xd (("code", .str (cn 12)) :: ((fl 12).zip ws).reverse))) S 4 x y := fun j x y h1 h2 => (kl j x y h1 (hx1 j y h2 (by have : j < ws.length := (List.getElem?_eq_some_iff.mp h1).1; rw [lw] at this; exact this))).dat d3
      generalize (upd (del H1 a) d (.xd (("code", .str (cn 12)) :: ((fl 12).zip ws).reverse))) = H3 at s3 e3 k3 ⊢
      refine ⟨_, T.xE (i := 12) (by decide), fun c => absurd (of_decide_eq_true c) (by decide), fun _ => ⟨_, T.xM (i := 12) (by decide), fun _ x nx => ?_, fun c => absurd c (by decide)⟩⟩
      refine ⟨_, rfl, C 12, d, _, _, rfl, rfl, rfl, e3, T.k 12 (by decide), T.nc 12 (by decide), rfl, (by show 2 ≤ sizeLine; decide), fun l0 n0 => ?_⟩
      have t0 := same_upd (o := .lst [.str (kw 1), .str (cn 12)]) n0
      refine ⟨_, rfl, S, 12, [v, u], ws, d, rfl, by decide, rfl, rfl, t0 _ _ e3, lw, fun j x y h1 h2 => (k3 j x y h1 h2).dat (Dat.of t0), fun l1 H4 t4 n1 e1 => ?_⟩
      refine ⟨l0, l1, _, _, rfl, rfl, t4 _ _ upd_same, e1, (by rw [lw]; decide), fun l2 n2 => ?_⟩
      have tt := ((s3.trans t0).trans t4).trans (same_upd (o := .lst ([.str (kw 1), .str (cn 12)] ++ ws)) n2)
      exact q l2 ws _ tt (((s3.trans t0).trans t4).free n2) upd_same lw fun j x y h1 h2 => (k3 j x y h1 h2).dat (Dat.of ((t0.trans t4).trans (same_upd n2)))
    · refine ⟨_, rfl, rfl, _, rfl, iteF ⟨_, rfl, rfl, _, rfl, iteF ⟨_, rfl, rfl, _, rfl, iteT ⟨_, rfl, (by show 1 ≤ 1000; decide), fun a na => ⟨S, a, [v], rfl, rfl, upd_same, hS.same (same_upd na), (th1 (tv.dat (Dat.of (same_upd na)))), fun H1 d ws nd keep ea ed lw kl => ⟨rfl, d, _, ea, ed, none_of na nd, ?_⟩⟩⟩⟩⟩⟩
      obtain ⟨s3, d3⟩ := let_go (S := S) na (none_of na nd) keep ea ed
      have e3 : (upd (del H1 a) d (.xd (("code", .str (cn 14)) :: ((fl 14).zip ws).reverse))) d = some (.xd (("code", .str (cn 14)) :: ((fl 14).zip ws).reverse)) := upd_same
      have k3 : ∀ (j : Nat) x y, ws[j]? = some x → [v, u][j]? = some y → LkB K (upd (del H1 a) d (.xd (("code", .str (cn 14)) :: ((fl 14).zip ws).reverse))) S 4 x y := fun j x y h1 h2 => (kl j x y h1 (hx1 j y h2 (by have : j < ws.length := (List.getElem?_eq_some_iff.mp h1).1; rw [lw] at this; exact this))).dat d3
      generalize (upd (del H1 a) d (.xd (("code", .str (cn 14)) :: ((fl 14).zip ws).reverse))) = H3 at s3 e3 k3 ⊢
      refine ⟨_, T.xE (i := 14) (by decide), fun c => absurd (of_decide_eq_true c) (by decide), fun _ => ⟨_, T.xM (i := 14) (by decide), fun c => absurd (of_decide_eq_true c) (by decide), fun _ => ⟨_, T.xL (i := 14) (by decide), fun _ x nx => ?_, fun c => absurd c (by decide)⟩⟩⟩
      refine ⟨_, rfl, C 14, d, _, _, rfl, rfl, rfl, e3, T.k 14 (by decide), T.nc 14 (by decide), rfl, (by show 2 ≤ sizeLine; decide), fun l0 n0 => ?_⟩
      have t0 := same_upd (o := .lst [.str (kw 2), .str (cn 14)]) n0
      refine ⟨_, rfl, S, 14, [v, u], ws, d, rfl, by decide, rfl, rfl, t0 _ _ e3, lw, fun j x y h1 h2 => (k3 j x y h1 h2).dat (Dat.of t0), fun l1 H4 t4 n1 e1 => ?_⟩
      refine ⟨l0, l1, _, _, rfl, rfl, t4 _ _ upd_same, e1, (by rw [lw]; decide), fun l2 n2 => ?_⟩
      have tt := ((s3.trans t0).trans t4).trans (same_upd (o := .lst ([.str (kw 2), .str (cn 14)] ++ ws)) n2)
      exact q l2 ws _ tt (((s3.trans t0).trans t4).free n2) upd_same lw fun j x y h1 h2 => (k3 j x y h1 h2).dat (Dat.of ((t0.trans t4).trans (same_upd n2)))
    · refine ⟨_, rfl, rfl, _, rfl, iteF ⟨_, rfl, rfl, _, rfl, iteF ⟨_, rfl, rfl, _, rfl, iteF ⟨_, rfl, rfl, _, rfl, iteT ⟨_, rfl, _, rfl, (by show 2 ≤ 1000; decide), fun a na => ⟨S, a, [v, u], rfl, rfl, upd_same, hS.same (same_upd na), (th2 (tv.dat (Dat.of (same_upd na))) (tu.dat (Dat.of (same_upd na)))), fun H1 d ws nd keep ea ed lw kl => ⟨rfl, d, _, ea, ed, none_of na nd, ?_⟩⟩⟩⟩⟩⟩⟩
      obtain ⟨s3, d3⟩ := let_go (S := S) na (none_of na nd) keep ea ed
      have e3 : (upd (del H1 a) d (.xd (("code", .str (cn 7)) :: ((fl 7).zip ws).reverse))) d = some (.xd (("code", .str (cn 7)) :: ((fl 7).zip ws).reverse)) := upd_same
      have k3 : ∀ (j : Nat) x y, ws[j]? = some x → [v, u][j]? = some y → LkB K (upd (del H1 a) d (.xd (("code", .str (cn 7)) :: ((fl 7).zip ws).reverse))) S 4 x y := fun j x y h1 h2 => (kl j x y h1 (h2)).dat d3
      generalize (upd (del H1 a) d (.xd (("code", .str (cn 7)) :: ((fl 7).zip ws).reverse))) = H3 at s3 e3 k3 ⊢
      refine ⟨_, T.xE (i := 7) (by decide), fun _ x nx => ?_, fun c => absurd c (by decide)⟩
      refine ⟨_, rfl, C 7, d, _, _, rfl, rfl, rfl, e3, T.k 7 (by decide), T.nc 7 (by decide), rfl, (by show 2 ≤ sizeLine; decide), fun l0 n0 => ?_⟩
      have t0 := same_upd (o := .lst [.str (kw 3), .str (cn 7)]) n0
      refine ⟨_, rfl, S, 7, [v, u], ws, d, rfl, by decide, rfl, rfl, t0 _ _ e3, lw, fun j x y h1 h2 => (k3 j x y h1 h2).dat (Dat.of t0), fun l1 H4 t4 n1 e1 => ?_⟩
      refine ⟨l0, l1, _, _, rfl, rfl, t4 _ _ upd_same, e1, (by rw [lw]; decide), fun l2 n2 => ?_⟩
      have tt := ((s3.trans t0).trans t4).trans (same_upd (o := .lst ([.str (kw 3), .str (cn 7)] ++ ws)) n2)
      exact q l2 ws _ tt (((s3.trans t0).trans t4).free n2) upd_same lw fun j x y h1 h2 => (k3 j x y h1 h2).dat (Dat.of ((t0.trans t4).trans (same_upd n2)))
    · refine ⟨_, rfl, rfl, _, rfl, iteF ⟨_, rfl, rfl, _, rfl, iteF ⟨_, rfl, rfl, _, rfl, iteF ⟨_, rfl, rfl, _, rfl, iteF ⟨(by show 0 ≤ 1000; decide), fun a na => ⟨S, a, [], rfl, rfl, upd_same, hS.same (same_upd na), (fun w m => by cases m), fun H1 d ws nd keep ea ed lw kl => ⟨rfl, d, _, ea, ed, none_of na nd, ?_⟩⟩⟩⟩⟩⟩⟩
      obtain ⟨s3, d3⟩ := let_go (S := S) na (none_of na nd) keep ea ed
      have e3 : (upd (del H1 a) d (.xd (("code", .str (cn 13)) :: ((fl 13).zip ws).reverse))) d = some (.xd (("code", .str (cn 13)) :: ((fl 13).zip ws).reverse)) := upd_same
      have k3 : ∀ (j : Nat) x y, ws[j]? = some x → [v, u][j]? = some y → LkB K (upd (del H1 a) d (.xd (("code", .str (cn 13)) :: ((fl 13).zip ws).reverse))) S 4 x y := fun j x y h1 h2 => (kl j x y h1 (by have : j < ws.length := (List.getElem?_eq_some_iff.mp h1).1; rw [lw] at this; exact absurd this (Nat.not_lt_zero _))).dat d3
      generalize (upd (del H1 a) d (.xd (("code", .str (cn 13)) :: ((fl 13).zip ws).reverse))) = H3 at s3 e3 k3 ⊢
      refine ⟨_, T.xE (i := 13) (by decide), fun c => absurd (of_decide_eq_true c) (by decide), fun _ => ⟨_, T.xM (i := 13) (by decide), fun c => absurd (of_decide_eq_true c) (by decide), fun _ => ⟨_, T.xL (i := 13) (by decide), fun _ x nx => ?_, fun c => absurd c (by decide)⟩⟩⟩
      refine ⟨_, rfl, C 13, d, _, _, rfl, rfl, rfl, e3, T.k 13 (by decide), T.nc 13 (by decide), rfl, (by show 2 ≤ sizeLine; decide), fun l0 n0 => ?_⟩
      have t0 := same_upd (o := .lst [.str (kw 4), .str (cn 13)]) n0
      refine ⟨_, rfl, S, 13, [v, u], ws, d, rfl, by decide, rfl, rfl, t0 _ _ e3, lw, fun j x y h1 h2 => (k3 j x y h1 h2).dat (Dat.of t0), fun l1 H4 t4 n1 e1 => ?_⟩
      refine ⟨l0, l1, _, _, rfl, rfl, t4 _ _ upd_same, e1, (by rw [lw]; decide), fun l2 n2 => ?_⟩
      have tt := ((s3.trans t0).trans t4).trans (same_upd (o := .lst ([.str (kw 4), .str (cn 13)] ++ ws)) n2)
      exact q l2 ws _ tt (((s3.trans t0).trans t4).free n2) upd_same lw fun j x y h1 h2 => (k3 j x y h1 h2).dat (Dat.of ((t0.trans t4).trans (same_upd n2)))
end
end My

set_option Elab.async false
set_option linter.all false
set_option maxRecDepth 100000
namespace My
open PySem PySem.Spec PyProof.Rows L2
/-! the law -/
abbrev sLaw : Stmt := topS 35
theorem scLaw : FnScope ["script", "bag", "codes", "things", "k", "made", "lap", "spot", "first", "j", "early", "late", "a", "b", "due"] ["script"] (defScope sLaw) := ⟨rfl, rfl, rfl, by decide +kernel, rfl, by decide +kernel, by decide +kernel⟩
def spLaw (K : PySem.W.Frag) : Sp := fun vs H Q _ => ∃ (a : Addr) (ns : List Int), vs = [.ref a] ∧ SqL K H a (ns.map V.int) ∧ ns.length ≤ 63 ∧ ∀ H', Q (.bl true) H'
/-- what the law holds -/
structure Wd (K : PySem.W.Frag) (H : Hp) (S : List Addr) (C : Nat → Addr) (b c : Addr) (ns : List Int) (lc D lm : Addr) (x0 x1 x2 x3 : V) (rs1 rs2 : List V) : Prop where
  B : BagC K H b c ns
  mb : b ∈ S
  st : Std H S
  nc : lc ≠ b
  nD : D ≠ b
  nm : lm ≠ b
  ec : H lc = some (.lst ((List.range 15).map fun j => V.str (cn j)))
  eD : H D = some (.lst [x0, x1, x2, x3])
  em : H lm = some (.lst (rs1 ++ rs2))
  l1 : rs1.length = 15
  l2 : rs2.length = 15
  m1 : MadeL K H S C [x0, x1] rs1
  m2 : MadeL K H S C [x2, x3] rs2
  t0 : Thg K H S 4 x0
  t1 : Thg K H S 4 x1
  t2 : Thg K H S 4 x2
  t3 : Thg K H S 4 x3
theorem Wd.but {K : PySem.W.Frag} {H H' : Hp} {S : List Addr} {C : Nat → Addr} {b c : Addr} {ns : List Int} {lc D lm : Addr} {x0 x1 x2 x3 : V} {rs1 rs2 : List V} (W : Wd K H S C b c ns lc D lm x0 x1 x2 x3 rs1 rs2) (t : But b H H') (B : BagC K H' b c ns) : Wd K H' S C b c ns lc D lm x0 x1 x2 x3 rs1 rs2 := by
  obtain ⟨ys, hb⟩ := W.B.at.get
  exact ⟨B, W.mb, W.st.but t B.at, W.nc, W.nD, W.nm, t _ _ W.nc W.ec, t _ _ W.nD W.eD, t _ _ W.nm W.em, W.l1, W.l2, W.m1.dax (Dax.but W.mb hb t), W.m2.dax (Dax.but W.mb hb t), W.t0.dat (Dat.but W.mb t), W.t1.dat (Dat.but W.mb t), W.t2.dat (Dat.but W.mb t), W.t3.dat (Dat.but W.mb t)⟩
theorem Wd.same {K : PySem.W.Frag} {H H' : Hp} {S : List Addr} {C : Nat → Addr} {b c : Addr} {ns : List Int} {lc D lm : Addr} {x0 x1 x2 x3 : V} {rs1 rs2 : List V} (W : Wd K H S C b c ns lc D lm x0 x1 x2 x3 rs1 rs2) (t : Same H H') : Wd K H' S C b c ns lc D lm x0 x1 x2 x3 rs1 rs2 := W.but (But.of t) (W.B.same t)
/-- the k-th of the made -/
theorem Wd.at {K : PySem.W.Frag} {H : Hp} {S : List Addr} {C : Nat → Addr} {b c : Addr} {ns : List Int} {lc D lm : Addr} {x0 x1 x2 x3 : V} {rs1 rs2 : List V} (W : Wd K H S C b c ns lc D lm x0 x1 x2 x3 rs1 rs2) {k : Nat} (h : k < 30) :
    ∃ (f : Nat) (r y0 y1 : V), (if k < 15 then (0 : Int) else 2) = f ∧ (rs1 ++ rs2)[k]? = some r ∧ [x0, x1, x2, x3][f]? = some y0 ∧ [x0, x1, x2, x3][f + 1]? = some y1 ∧ Made K H S C (k % 15) [y0, y1] r ∧ Thg K H S 4 y0 ∧ Thg K H S 4 y1 := by
  by_cases c : k < 15
  · refine ⟨0, rs1[k]'(by rw [W.l1]; exact c), x0, x1, by rw [if_pos c]; rfl, ?_, rfl, rfl, ?_, W.t0, W.t1⟩
    · rw [List.getElem?_append_left (by rw [W.l1]; exact c)]
      exact List.getElem?_eq_getElem _
    · rw [Nat.mod_eq_of_lt c]
      exact W.m1 k _ (List.getElem?_eq_getElem _)
  · have e : k % 15 = k - 15 := by omega
    refine ⟨2, rs2[k - 15]'(by rw [W.l2]; omega), x2, x3, by rw [if_neg c]; rfl, ?_, rfl, rfl, ?_, W.t2, W.t3⟩
    · rw [List.getElem?_append_right (by rw [W.l1]; omega), W.l1]
      exact List.getElem?_eq_getElem _
    · rw [e]
      exact W.m2 (k - 15) _ (List.getElem?_eq_getElem _)
section
variable {P : Program} {w : World} {K : PySem.W.Frag} {mg : Str → Option Value} {base : Heap} {C : Nat → Addr} {aE aM aL : Addr}
theorem ok_law {f fB fT fL fC fP fN fV fK fS fA fU : Addr} {fd fdB fdT fdL fdC fdP fdN fdV fdK fdS fdA fdU : FuncData} (F : Fun K "law" "law" sLaw f fd) (Tt : Errs K mg C aE aM aL) (Ba : Cal P w K mg base "_law_bag" 1 ["script"] (spBag K) fB fdB) (Th : Cal P w K mg base "_law_thing" 3 ["bag"] (spThing K) fT fdT)
    (Li : Cal P w K mg base "_law_like" 6 ["told", "due"] (spLike K 5) fL fdL) (Cd : Cal P w K mg base "_law_codes" 1 [] spCodes fC fdC) (Bp : Cal P w K mg base "_law_by_place" 8 ["a", "b"] (spMakeAll K C) fP fdP) (Bn : Cal P w K mg base "_law_by_name" 8 ["a", "b"] (spMakeAll K C) fN fdN)
    (Va : Cal P w K mg base "_law_values" 1 ["e"] (spValues K C) fV fdV) (Ki : Cal P w K mg base "_law_kinds" 1 ["e"] (spKinds K C) fK fdK) (Bs : Cal P w K mg base "_law_bases" 1 ["e"] (spBases K C) fS fdS) (Ca : Cal P w K mg base "_law_caught" 8 ["k", "a", "b"] (spCaught K) fA fdA) (Du : Cal P w K mg base "_law_due" 1 ["k", "a", "b"] spDue fU fdU)
    (b_range : mg "range" = none) (b_int : mg "int" = none) : FnOk P w K mg base CX0 9 f fd ["script"] (spLaw K) := by
  refine F.ok scLaw (fun vs H Q E h => ?_) (fun cdv A outer s H vs Q E hr h => ?_)
  · obtain ⟨a, ns, rfl, _⟩ := h
    rfl
  · obtain ⟨sc, ns, rfl, hS, hl, q⟩ := h
    refine ⟨_, (pss_cons (ps_set (i := 1) scLaw.nd rfl (.inr rfl) (pe_call Ba.ok (hr.mono (by omega)) rfl Ba.g Ba.kp Ba.b .nil pass0 (pa_cons (pv 0) pa_nil)))
      (pss_cons (ps_set (i := 2) scLaw.nd rfl (.inl rfl) (pe_call0 Cd.ok (hr.mono (by omega)) rfl Cd.g Cd.kp Cd.b .nil pass0))
      (pss_cons (ps_setLc (i := 3) (own := [("k", 4)]) (g := gName 4) (tt := tYes) rfl scLaw.nd rfl rfl (sw_true rfl rfl rfl (by decide +kernel)) (pi_range1 rfl b_range (pa_cons pe_int pa_nil)) (blkOk_by (own := [("k", 4)]) (N := ["script", "bag", "codes", "things", "k", "made", "lap", "spot", "first", "j", "early", "late", "a", "b", "due"]) (sc := defScope sLaw) (by decide +kernel)) (fun _ _ _ _ _ => (pg_name (i := 4) scLaw.nd rfl (.inl rfl) (.inr rfl))) (fun _ _ _ _ _ => pts_nil) (fun _ _ _ _ _ => (pe_call Th.ok (hr.mono (by omega)) rfl Th.g Th.kp Th.b .nil pass0 (pa_cons (pv 1) pa_nil))))
      (pss_cons (ps_set (i := 5) scLaw.nd rfl (.inl rfl) (pe_op op_cat (pe_call Bp.ok (hr.mono (by omega)) rfl Bp.g Bp.kp Bp.b .nil pass0 (pa_cons (pe_ix ix_list (pv 3) pe_int (fun _ _ => rfl)) (pa_cons (pe_ix ix_list (pv 3) pe_int (fun _ _ => rfl)) pa_nil))) (pe_call Bn.ok (hr.mono (by omega)) rfl Bn.g Bn.kp Bn.b .nil pass0 (pa_cons (pe_ix ix_list (pv 3) pe_int (fun _ _ => rfl)) (pa_cons (pe_ix ix_list (pv 3) pe_int (fun _ _ => rfl)) pa_nil)))))
      (pss_cons (ps_for PassesOwn.never rfl (pi_range1 rfl b_range (pa_cons pe_int pa_nil)) (pg_name (i := 6) scLaw.nd rfl (.inl rfl))
        (pss_cons (ps_for PassesOwn.never rfl (pi_range1 rfl b_range (pa_cons pe_int pa_nil)) (pg_name (i := 4) scLaw.nd rfl (.inl rfl))
          (C8.pss_cut (ps_asg (pe_tup (pa_cons (pe_op op_mod (pe_callTy call_int1 rfl b_int (by decide +kernel) (pa_cons (pv 4) pa_nil)) pe_int) (pa_cons (pe_ifExp (pt_cmpR op_lt (pv 4) pe_int (nomark _)) pe_int pe_int) pa_nil))) (pg_tup rfl (pgs_cons (pg_name (i := 7) scLaw.nd rfl (.inr rfl)) (pgs_cons (pg_name (i := 8) scLaw.nd rfl (.inl rfl)) pgs_nil))))
          (pss_cons (ps_if (pt_cmpR op_ne (pe_exf (pe_ix ix_list (pv 5) (pv 4) (fun _ _ => rfl))) (pe_ix ix_list (pv 2) (pv 7) (fun _ _ => rfl)) (nomark _)) (pss_one (ps_ret pe_bl)) pss_nil)
          (pss_cons (ps_if (pt_not (pt_val (pe_call Li.ok (hr.mono (by omega)) rfl Li.g Li.kp Li.b .nil pass0 (pa_cons (pe_call Va.ok (hr.mono (by omega)) rfl Va.g Va.kp Va.b .nil pass0 (pa_cons (pe_ix ix_list (pv 5) (pv 4) (fun _ _ => rfl)) pa_nil)) (pa_cons (pe_call Du.ok (hr.mono (by omega)) rfl Du.g Du.kp Du.b .nil pass0 (pa_cons (pv 7) (pa_cons (pe_ix ix_list (pv 3) (pv 8) (fun _ _ => rfl)) (pa_cons (pe_ix ix_list (pv 3) (pe_op op_add (pv 8) pe_int) (fun _ _ => rfl)) pa_nil)))) pa_nil))))) (pss_one (ps_ret pe_bl)) pss_nil)
          (pss_cons (ps_if (pt_not (pt_val (pe_call Li.ok (hr.mono (by omega)) rfl Li.g Li.kp Li.b .nil pass0 (pa_cons (pe_call Ki.ok (hr.mono (by omega)) rfl Ki.g Ki.kp Ki.b .nil pass0 (pa_cons (pe_ix ix_list (pv 5) (pv 4) (fun _ _ => rfl)) pa_nil)) (pa_cons (pe_lc (own := [("j", 9)]) (g := gName 9) (tt := tYes) rfl scLaw.nd (pi_range1 rfl b_range (pa_cons pe_int pa_nil)) (blkOk_by (own := [("j", 9)]) (N := ["script", "bag", "codes", "things", "k", "made", "lap", "spot", "first", "j", "early", "late", "a", "b", "due"]) (sc := defScope sLaw) (by decide +kernel)) (fun _ _ _ _ _ => (pg_name (i := 9) scLaw.nd rfl (.inl rfl) (.inr rfl))) (fun _ _ _ _ _ => pts_nil) (fun _ _ _ _ _ => (pe_cmpR op_eq (pv 9) (pv 7) (nomark _)))) pa_nil))))) (pss_one (ps_ret pe_bl)) pss_nil)
          (pss_cons (ps_par (i := 10) (j := 11) rfl scLaw.nd rfl rfl (by decide) rfl rfl (pa_cons (pe_cmpR op_lt (pv 7) pe_int (nomark _)) (pa_cons (pe_cmpR op_gt (pv 7) pe_int (nomark _)) pa_nil)) rfl)
          (pss_one (ps_if (pt_not (pt_val (pe_call Li.ok (hr.mono (by omega)) rfl Li.g Li.kp Li.b .nil pass0 (pa_cons (pe_call Bs.ok (hr.mono (by omega)) rfl Bs.g Bs.kp Bs.b .nil pass0 (pa_cons (pe_ix ix_list (pv 5) (pv 4) (fun _ _ => rfl)) pa_nil)) (pa_cons (pe_lst (pa_cons (pv 10) (pa_cons (pv 10) (pa_cons (pe_cmpR op_eq (pv 7) pe_int (nomark _)) (pa_cons (pe_cmpR op_eq (pv 7) pe_int (nomark _)) (pa_cons (pv 11) (pa_cons (pv 11) pa_nil))))))) pa_nil))))) (pss_one (ps_ret pe_bl)) pss_nil))))))))
        (pss_cons (ps_par (i := 12) (j := 13) rfl scLaw.nd rfl rfl (by decide) rfl rfl (pa_cons (pe_call Th.ok (hr.mono (by omega)) rfl Th.g Th.kp Th.b .nil pass0 (pa_cons (pv 1) pa_nil)) (pa_cons (pe_call Th.ok (hr.mono (by omega)) rfl Th.g Th.kp Th.b .nil pass0 (pa_cons (pv 1) pa_nil)) pa_nil)) rfl)
        (pss_cons (ps_set (i := 14) scLaw.nd rfl (.inl rfl) (pe_lst (pa_cons (pe_lst (pa_cons pe_str (pa_cons pe_str (pa_cons (pv 12) (pa_cons (pv 13) pa_nil))))) (pa_cons (pe_lst (pa_cons pe_str (pa_cons pe_str (pa_cons (pv 12) pa_nil)))) (pa_cons (pe_lst (pa_cons pe_str (pa_cons pe_str (pa_cons (pv 12) pa_nil)))) (pa_cons (pe_lst (pa_cons pe_str (pa_cons pe_str (pa_cons (pv 12) (pa_cons (pv 13) pa_nil))))) pa_nil))))))
        (pss_one (ps_for PassesOwn.never rfl (pi_range1 rfl b_range (pa_cons pe_int pa_nil)) (pg_name (i := 4) scLaw.nd rfl (.inl rfl))
          (pss_one (ps_if (pt_not (pt_val (pe_call Li.ok (hr.mono (by omega)) rfl Li.g Li.kp Li.b .nil pass0 (pa_cons (pe_call Ca.ok (hr.mono (by omega)) rfl Ca.g Ca.kp Ca.b .nil pass0 (pa_cons (pv 4) (pa_cons (pv 12) (pa_cons (pv 13) pa_nil)))) (pa_cons (pe_ix ix_list (pe_op op_cat (pv 14) (pe_lst (pa_cons (pe_lst (pa_cons pe_str (pa_cons pe_str pa_nil))) pa_nil))) (pv 4) (fun _ _ => rfl)) pa_nil))))) (pss_one (ps_ret pe_bl)) pss_nil))))))))
      (pss_one (ps_ret pe_bl))))))), ?_⟩
    refine ⟨_, rfl, sc, ns, rfl, hS, fun b H1 s1 ⟨c, ns, B1⟩ _ => ?_⟩
    have B1 : BagC K H1 b c ns := B1
    refine ⟨rfl, fun lc H2 t2 nlc ec => ?_⟩
    have B2 := B1.same t2
    have nc : lc ≠ b := B1.at.ne nlc
    refine ⟨4, rfl, by decide, by decide, fun D nD => ?_⟩
    have nDb : D ≠ b := B2.at.ne nD
    have nDc : D ≠ lc := fun e => by rw [e, ec] at nD; cases nD
    have off := B2.off nD
    refine lc_range (n := 4) (fun i G => BagC K G b c ns ∧ G lc = some (.lst ((List.range 15).map fun j => V.str (cn j))) ∧ ∃ ys, G D = some (.lst ys) ∧ ys.length = i ∧ ∀ y ∈ ys, Thg K G [D, b] 4 y) ⟨B2.same (same_upd nD), (by rw [upd_ne (Ne.symm nDc)]; exact ec), [], upd_same, rfl, fun y m => by cases m⟩ ?_ ?_
    · rintro i G hi ⟨BG, eG, ys, hD, ly, hy⟩
      refine ⟨rfl, ?_⟩
      unfold tYes
      refine iteT ?_
      have st : Std G [D, b] := fun p m => by
        simp only [List.mem_cons, List.not_mem_nil, or_false] at m
        rcases m with rfl | rfl
        · exact ⟨_, hD⟩
        · exact BG.at.std _ List.mem_cons_self
      refine ⟨_, rfl, [D, b], b, c, ns, rfl, by simp, st, BG, fun v G' hv B' t' => ⟨ys, t' _ _ nDb hD, (by rw [ly]; exact small1000 (by omega)), B'.upd off nDb, ?_, ys ++ [v], upd_same, by rw [List.length_append, ly]; rfl, fun y m => ?_⟩⟩
      · rw [upd_ne (Ne.symm nDc)]
        exact t' _ _ nc eG
      · have p1 : Dat [D, b] G' (upd G' D (.lst (ys ++ [v]))) := Dat.put List.mem_cons_self
        rcases List.mem_append.mp m with m | m
        · exact ((hy y m).dat (Dat.but (by simp) t')).dat p1
        · rw [List.mem_singleton.mp m]
          exact hv.dat p1
    · rintro G3 ⟨B3, e3, ys, hD, ly, hy⟩
      obtain ⟨x0, x1, x2, x3, rfl⟩ : ∃ x0 x1 x2 x3, ys = [x0, x1, x2, x3] := by
        match ys, ly with
        | [x0, x1, x2, x3], _ => exact ⟨_, _, _, _, rfl⟩
      have k0 := hy x0 (by simp)
      have k1 := hy x1 (by simp)
      have k2 := hy x2 (by simp)
      have k3 := hy x3 (by simp)
      have st : Std G3 [D, b] := fun p m => by
        simp only [List.mem_cons, List.not_mem_nil, or_false] at m
        rcases m with rfl | rfl
        · exact ⟨_, hD⟩
        · exact B3.at.std _ List.mem_cons_self
      clear hy ly
      refine ⟨_, rfl, D, _, 0, _, rfl, rfl, SqL.of hD, atI_nat (j := 0) rfl, _, rfl, D, _, 1, _, rfl, rfl, SqL.of hD, atI_nat (j := 1) rfl, [D, b], x0, x1, rfl, st, k0, k1, fun l1 rs1 G4 t4 n1 e1 len1 m1 => ?_⟩
      refine ⟨_, rfl, D, _, 2, _, rfl, rfl, SqL.of (t4 _ _ hD), atI_nat (j := 2) rfl, _, rfl, D, _, 3, _, rfl, rfl, SqL.of (t4 _ _ hD), atI_nat (j := 3) rfl, [D, b], x2, x3, rfl, st.same t4, k2.dat (Dat.of t4), k3.dat (Dat.of t4), fun l2 rs2 G5 t5 n2 e2 len2 m2 => ?_⟩
      refine ⟨l1, l2, _, _, rfl, rfl, t5 _ _ e1, e2, (by rw [len1, len2]; decide), fun lm nlm => ?_⟩
      have t6 := same_upd (o := .lst (rs1 ++ rs2)) nlm
      have t36 := (t4.trans t5).trans t6
      have W0 : Wd K (upd G5 lm (.lst (rs1 ++ rs2))) [D, b] C b c ns lc D lm x0 x1 x2 x3 rs1 rs2 := ⟨B3.same t36, by simp, st.same t36, nc, nDb, (B3.same (t4.trans t5)).at.ne nlm, t36 _ _ e3, t36 _ _ hD, upd_same, len1, len2, m1.dax (Dax.of (t5.trans t6)), m2.dax (Dax.of t6), k0.dat (Dat.of t36), k1.dat (Dat.of t36), k2.dat (Dat.of t36), k3.dat (Dat.of t36)⟩
      generalize (upd G5 lm (.lst (rs1 ++ rs2))) = G6 at W0 ⊢
      clear t4 t5 t6 t36 m1 m2 e1 e2 hD e3 st k0 k1 k2 k3 B3
      refine ⟨2, rfl, by decide, by decide, for_range (n := 2) (fun i σ G => ∃ a4 a6 a7 a8 a9 a10 a11 a12 a13 a14, σ = [some (.ref sc), some (.ref b), some (.ref lc), some (.ref D), a4, some (.ref lm), a6, a7, a8, a9, a10, a11, a12, a13, a14] ∧ Wd K G [D, b] C b c ns lc D lm x0 x1 x2 x3 rs1 rs2) ⟨_, _, _, _, _, _, _, _, _, _, rfl, W0⟩ ?_ (fun σ G ⟨_, _, _, _, _, _, _, _, _, _, _, _⟩ => q _)⟩
      rintro lap σ G hlap ⟨a4, a6, a7, a8, a9, a10, a11, a12, a13, a14, rfl, W1⟩
      refine ⟨30, rfl, by decide, by decide, for_range (n := 30) (fun i σ G => ∃ a4 a6 a7 a8 a9 a10 a11 a12 a13 a14, σ = [some (.ref sc), some (.ref b), some (.ref lc), some (.ref D), a4, some (.ref lm), a6, a7, a8, a9, a10, a11, a12, a13, a14] ∧ Wd K G [D, b] C b c ns lc D lm x0 x1 x2 x3 rs1 rs2) ⟨_, _, _, _, _, _, _, _, _, _, rfl, W1⟩ ?_ ?_⟩
      · rintro k σ G hk ⟨a4, a6, a7, a8, a9, a10, a11, a12, a13, a14, rfl, W⟩
        obtain ⟨f, r, y0, y1, ef, er, g0, g1, mk, th0, th1'⟩ := W.at hk
        have hi : k % 15 < 15 := by omega
        have e15 : (0 + (k : Int)) % 15 = ((k % 15 : Nat) : Int) := by omega
        refine ⟨fun σ' G' => ∃ a9, σ' = [some (.ref sc), some (.ref b), some (.ref lc), some (.ref D), some (.int (k : Int)), some (.ref lm), a6, some (.int ((k % 15 : Nat) : Int)), some (.int (f : Int)), a9, a10, a11, a12, a13, a14] ∧ Same G G', ?_, ?_⟩
        · refine ⟨_, rfl, .inl ⟨_, rfl, _, _, rfl, rfl, (by show (0 : Int) < _; decide), _, rfl, _, _, rfl, rfl, _, rfl, ite2 (fun c => ?_) (fun c => ?_)⟩⟩
          · have c' : k < 15 := by have := of_decide_eq_true c; omega
            rw [if_pos c'] at ef
            refine ⟨(by show 2 ≤ sizeLine; decide), fun p np => ⟨p, _, rfl, SqT.of upd_same, rfl, _, _, rfl, _, _, rfl, rfl, a9, ?_, same_upd np⟩⟩
            rw [← e15, ← ef, Int.zero_add]
            rfl
          · have c' : ¬ k < 15 := fun z => c (decide_eq_true (by omega))
            rw [if_neg c'] at ef
            refine ⟨(by show 2 ≤ sizeLine; decide), fun p np => ⟨p, _, rfl, SqT.of upd_same, rfl, _, _, rfl, _, _, rfl, rfl, a9, ?_, same_upd np⟩⟩
            rw [← e15, ← ef, Int.zero_add]
            rfl
        · rintro σ1 G1 ⟨a9', rfl, u1⟩
          have W1 := W.same u1
          have mk1 := mk.dax (Dax.of u1)
          obtain ⟨a, d, ws, rfl, ea, ed, lw, kl⟩ := id mk1
          have ev : EV [] G1 a (C (k % 15)) (("code", .str (cn (k % 15))) :: ((fl (k % 15)).zip ws).reverse) := .cold ea ed
          have ck : ((List.range 15).map fun j => V.str (cn j))[k % 15]? = some (.str (cn (k % 15))) := by
            rw [List.getElem?_map, List.getElem?_range hi]
            rfl
          refine ⟨_, rfl, _, rfl, lm, _, _, _, rfl, rfl, SqL.of W1.em, atI_nat (j := k) er, a, C (k % 15), _, _, rfl, ev, Tt.k _ hi, Tt.nc _ hi, rfl, _, rfl, _, rfl, lc, _, _, _, rfl, rfl, SqL.of W1.ec, atI_nat (j := k % 15) ck, rfl, _, rfl, ?_⟩
          rw [show (!decide (V.str (cn (k % 15)) = V.str (cn (k % 15)))) = false by rw [decide_eq_true rfl]; rfl]
          refine iteF ?_
          refine ⟨_, rfl, _, rfl, lm, _, _, _, rfl, rfl, SqL.of W1.em, atI_nat (j := k) er, [D, b], k % 15, [y0, y1], _, rfl, hi, mk1, fun l1 ws1 G2 t2 n2 e2 lw2 kl2 => ?_⟩
          have W2 := W1.same t2
          refine ⟨_, rfl, _, rfl, _, rfl, D, _, _, _, rfl, rfl, SqL.of W2.eD, atI_nat (j := f) g0, _, rfl, _, rfl, _, _, rfl, rfl, D, _, _, _, rfl, rfl, SqL.of W2.eD, atI_nat (j := f + 1) g1, k % 15, y0, y1, rfl, hi, fun l2 G3 t3 n3 e3 => ?_⟩
          have l2' : (fl (k % 15)).length ≤ 2 := (by decide +kernel : ∀ i : Nat, i < 15 → (fl i).length ≤ 2) _ hi
          refine ⟨.ref l1, .ref l2, rfl, .inr ⟨l1, l2, ws1, _, rfl, rfl, .inl ⟨SqL.of (t3 _ _ e2), SqL.of e3⟩, ?_, by omega, fun j x y h1 h2 => ?_⟩, fun G4 t4 => ⟨_, rfl, iteF ?_⟩⟩
          · rw [lw2, List.length_take]
            show _ = min _ 2
            omega
          · rw [List.getElem?_take] at h2
            split at h2
            · exact ((kl2 j x y h1 h2).dat (Dat.of t3)).lk
            · cases h2
          · have W4 := W2.same (t3.trans t4)
            have mk4 := mk1.dax (Dax.of ((t2.trans t3).trans t4))
            refine ⟨_, rfl, _, rfl, lm, _, _, _, rfl, rfl, SqL.of W4.em, atI_nat (j := k) er, [D, b], k % 15, [y0, y1], _, rfl, hi, mk4, fun l3 G5 t5 e5 => ?_⟩
            refine ⟨15, rfl, by decide, by decide, fun D2 nD2 => ?_⟩
            have ne3 : D2 ≠ l3 := fun e => by rw [e, e5] at nD2; cases nD2
            refine lc_range (n := 15) (fun j G => Same G5 G ∧ G D2 = some (.lst ((List.range j).map fun m => V.bl (decide (k % 15 = m))))) ⟨same_upd nD2, upd_same⟩ ?_ ?_
            · rintro j G6 hj ⟨s6, h6⟩
              refine ⟨rfl, ?_⟩
              unfold tYes
              refine iteT ⟨_, rfl, _, rfl, rfl, _, h6, ?_, same_updF nD2 s6, ?_⟩
              · rw [List.length_map, List.length_range]
                exact small1000 (by omega)
              · rw [upd_same, List.range_succ, List.map_append]
                have : decide (V.int (0 + (j : Int)) = V.int ((k % 15 : Nat) : Int)) = decide (k % 15 = j) := by
                  rw [decide_eq_decide, V.int.injEq]
                  omega
                rw [this]
                rfl
            · rintro G6 ⟨s6, h6⟩
              refine ⟨.ref l3, .ref D2, rfl, .inr ⟨l3, D2, _, _, rfl, rfl, .inl ⟨SqL.of (s6 _ _ e5), SqL.of h6⟩, rfl, by rw [List.length_map, List.length_range]; decide, fun j x y h1 h2 => ?_⟩, fun G7 t7 => ⟨_, rfl, iteF ?_⟩⟩
              · have e : x = y := by rw [h1] at h2; exact Option.some.inj h2
                subst e
                rw [List.getElem?_map] at h1
                cases z : (List.range 15)[j]? with
                | none => rw [z] at h1; cases h1
                | some m => rw [z] at h1; cases h1; exact Lk.flat rfl trivial
              · have u7 := (t5.trans s6).trans t7
                have W7 := W4.same u7
                have mk7 := mk4.dax (Dax.of u7)
                refine ⟨_, rfl, _, _, rfl, rfl, _, rfl, _, _, rfl, rfl, _, _, rfl, ?_⟩
                refine ⟨_, rfl, _, rfl, lm, _, _, _, rfl, rfl, SqL.of W7.em, atI_nat (j := k) er, [D, b], k % 15, [y0, y1], _, rfl, hi, mk7, fun l8 G8 t8 e8 => ?_⟩
                refine ⟨_, rfl, _, rfl, _, rfl, rfl, _, rfl, rfl, _, rfl, _, rfl, (by show 6 ≤ sizeLine; decide), fun l9 n9 => ?_⟩
                have q1 : decide (((k % 15 : Nat) : Int) < 12) = decide (k % 15 < 12) := by rw [decide_eq_decide]; omega
                have q2 : decide (V.int ((k % 15 : Nat) : Int) = V.int 12) = decide (k % 15 = 12) := by rw [decide_eq_decide, V.int.injEq]; omega
                have q3 : decide ((12 : Int) < ((k % 15 : Nat) : Int)) = decide (12 < k % 15) := by rw [decide_eq_decide]; omega
                refine ⟨.ref l8, .ref l9, rfl, .inr ⟨l8, l9, _, _, rfl, rfl, .inl ⟨SqL.of (same_upd n9 _ _ e8), SqL.of upd_same⟩, rfl, (by show 6 < 1000; decide), fun j x y h1 h2 => ?_⟩, fun G10 t10 => ⟨_, rfl, iteF ⟨_, _, _, _, _, _, _, _, _, _, rfl, ((W7.same t8).same (same_upd n9)).same t10⟩⟩⟩
                dsimp only at h2
                rw [q1, q2, q3] at h2
                have e : x = y := by rw [h1] at h2; exact Option.some.inj h2
                subst e
                have m := List.mem_of_getElem? h1
                simp only [List.mem_cons, List.not_mem_nil, or_false] at m
                rcases m with rfl | rfl | rfl | rfl | rfl | rfl <;> exact Lk.flat rfl trivial
      · rintro σ G7 ⟨a4, a6, a7, a8, a9, a10, a11, a12, a13, a14, rfl, W⟩
        refine ⟨_, rfl, [D, b], b, c, ns, rfl, W.mb, W.st, W.B, fun v G8 hv B8 t8 => ?_⟩
        have W8 := W.but t8 B8
        refine ⟨_, rfl, [D, b], b, c, ns, rfl, W8.mb, W8.st, W8.B, fun u G9 hu B9 t9 => ⟨_, _, rfl, ?_⟩⟩
        have W9 := W8.but t9 B9
        have hv9 := hv.dat (Dat.but W8.mb t9)
        clear hv
        refine ⟨_, rfl, _, rfl, (by show 4 ≤ sizeLine; decide), fun p0 np0 => ⟨_, rfl, (by show 3 ≤ sizeLine; decide), fun p1 np1 => ⟨_, rfl, (by show 3 ≤ sizeLine; decide), fun p2 np2 => ⟨_, rfl, _, rfl, (by show 4 ≤ sizeLine; decide), fun p3 np3 => ⟨(by show 4 ≤ sizeLine; decide), fun ld nld => ?_⟩⟩⟩⟩⟩
        have f0 := same_upd (o := .lst [.str "count", .str "TooMany", v, u]) np0
        have f1 := same_upd (o := .lst [.str "missing", .str "NoName", v]) np1
        have f2 := same_upd (o := .lst [.str "late", .str "Closed", v]) np2
        have f3 := same_upd (o := .lst [.str "count", .str "BadRule", v, u]) np3
        have f4 := same_upd (o := .lst [.ref p0, .ref p1, .ref p2, .ref p3]) nld
        have g34 := f3.trans f4
        have g24 := f2.trans g34
        have g14 := f1.trans g24
        have g04 := f0.trans g14
        have d0 := g14 _ _ (upd_same (H := G9) (a := p0) (o := .lst [.str "count", .str "TooMany", v, u]))
        have d1 := g24 _ _ (upd_same (a := p1) (o := .lst [.str "missing", .str "NoName", v]))
        have d2 := g34 _ _ (upd_same (a := p2) (o := .lst [.str "late", .str "Closed", v]))
        have d3 := f4 _ _ (upd_same (a := p3) (o := .lst [.str "count", .str "BadRule", v, u]))
        have d4 : (upd (upd (upd (upd (upd G9 p0 (.lst [.str "count", .str "TooMany", v, u])) p1 (.lst [.str "missing", .str "NoName", v])) p2 (.lst [.str "late", .str "Closed", v])) p3 (.lst [.str "count", .str "BadRule", v, u])) ld (.lst [.ref p0, .ref p1, .ref p2, .ref p3])) ld = some (.lst [.ref p0, .ref p1, .ref p2, .ref p3]) := upd_same
        have W10 := W9.same g04
        have tv := hv9.dat (Dat.of g04)
        have tu := hu.dat (Dat.of g04)
        generalize (upd (upd (upd (upd (upd G9 p0 (.lst [.str "count", .str "TooMany", v, u])) p1 (.lst [.str "missing", .str "NoName", v])) p2 (.lst [.str "late", .str "Closed", v])) p3 (.lst [.str "count", .str "BadRule", v, u])) ld (.lst [.ref p0, .ref p1, .ref p2, .ref p3])) = G10 at d0 d1 d2 d3 d4 W10 tv tu ⊢
        clear f0 f1 f2 f3 f4 g34 g24 g14 g04 hv9 hu W9 W8 W
        refine ⟨5, rfl, by decide, by decide, for_range (n := 5) (fun i σ G => ∃ x4, σ = [some (.ref sc), some (.ref b), some (.ref lc), some (.ref D), x4, some (.ref lm), a6, a7, a8, a9, a10, a11, some v, some u, some (.ref ld)] ∧ Same G10 G) ⟨_, rfl, Same.refl _⟩ ?_ (fun σ G ⟨_, e, s⟩ => ⟨_, _, _, _, _, _, _, _, _, _, e, W10.same s⟩)⟩
        rintro k σ G11 hk ⟨x4, rfl, s11⟩
        have W11 := W10.same s11
        refine ⟨_, rfl, _, rfl, _, rfl, [D, b], k, v, u, by rw [Int.zero_add]; rfl, hk, W11.st, tv.dat (Dat.of s11), tu.dat (Dat.of s11), fun l ws G12 t12 n12 e12 lw kl => ?_⟩
        refine ⟨_, rfl, (by show 2 ≤ sizeLine; decide), fun p4 np4 => ⟨(by show 1 ≤ sizeLine; decide), fun m nm => ⟨ld, m, _, _, rfl, rfl, same_upd nm _ _ (same_upd np4 _ _ (t12 _ _ (s11 _ _ d4))), upd_same, (by show 4 + 1 ≤ sizeLine; decide), fun cc ncc => ?_⟩⟩⟩
        have h4 := same_upd (o := .lst [.str "late", .str "Ended"]) np4
        have h5 := same_upd (o := .lst [.ref p4]) nm
        have h6 := same_upd (o := .lst ([.ref p0, .ref p1, .ref p2, .ref p3] ++ [.ref p4])) ncc
        have u6 := (s11.trans t12).trans ((h4.trans h5).trans h6)
        have o4 := (h5.trans h6) _ _ (upd_same (H := G12) (a := p4) (o := .lst [.str "late", .str "Ended"]))
        obtain ⟨pk, ek, hpk⟩ : ∃ pk, ([.ref p0, .ref p1, .ref p2, .ref p3] ++ [.ref p4] : List V)[k]? = some (.ref pk) ∧ (upd (upd (upd G12 p4 (.lst [.str "late", .str "Ended"])) m (.lst [.ref p4])) cc (.lst ([.ref p0, .ref p1, .ref p2, .ref p3] ++ [.ref p4]))) pk = some (.lst (.str (kw k) :: .str (cn (ci k)) :: [v, u].take (fl (ci k)).length)) := by
          have kk : k = 0 ∨ k = 1 ∨ k = 2 ∨ k = 3 ∨ k = 4 := by omega
          rcases kk with rfl | rfl | rfl | rfl | rfl
          · exact ⟨p0, rfl, u6 _ _ d0⟩
          · exact ⟨p1, rfl, u6 _ _ d1⟩
          · exact ⟨p2, rfl, u6 _ _ d2⟩
          · exact ⟨p3, rfl, u6 _ _ d3⟩
          · exact ⟨p4, rfl, o4⟩
        have l2' : (fl (ci k)).length ≤ 2 := (by decide +kernel : ∀ k : Nat, k < 5 → (fl (ci k)).length ≤ 2) _ hk
        have v6 := (h4.trans h5).trans h6
        refine ⟨_, rfl, cc, _, _, _, rfl, rfl, SqL.of upd_same, (by rw [Int.zero_add]; exact atI_nat (j := k) ek), .ref l, .ref pk, rfl, .inr ⟨l, pk, _, _, rfl, rfl, .inl ⟨SqL.of (v6 _ _ e12), SqL.of hpk⟩, ?_, ?_, fun j x y h1 h2 => ?_⟩, fun G13 t13 => ⟨_, rfl, iteF ⟨_, rfl, u6.trans t13⟩⟩⟩
        · rw [List.length_cons, List.length_cons, List.length_cons, List.length_cons, lw, List.length_take]
          show _ = min _ 2 + 1 + 1
          omega
        · rw [List.length_cons, List.length_cons, lw]
          omega
        · match j with
          | 0 => cases h1; cases h2; exact Lk.flat rfl trivial
          | 1 => cases h1; cases h2; exact Lk.flat rfl trivial
          | j + 2 =>
            have h1' : ws[j]? = some x := h1
            have h2' : ([v, u].take (fl (ci k)).length)[j]? = some y := h2
            rw [List.getElem?_take] at h2'
            split at h2'
            · exact ((kl j x y h1' h2').dat (Dat.of v6)).lk
            · cases h2'
end
end My

set_option Elab.async false
set_option linter.all false
set_option maxRecDepth 100000
namespace My
open PySem PySem.Spec PyProof.Rows L2
/-! the classes' facts put together -/
def cOf (l : List Addr) : Nat → Addr := fun i => l.getD i 0
theorem by15 {p : Nat → Prop} (h0 : p 0) (h1 : p 1) (h2 : p 2) (h3 : p 3) (h4 : p 4) (h5 : p 5) (h6 : p 6) (h7 : p 7) (h8 : p 8) (h9 : p 9) (h10 : p 10) (h11 : p 11) (h12 : p 12) (h13 : p 13) (h14 : p 14) : ∀ i, i < 15 → p i := fun i h => by
  match i, h with
  | 0, _ => exact h0
  | 1, _ => exact h1
  | 2, _ => exact h2
  | 3, _ => exact h3
  | 4, _ => exact h4
  | 5, _ => exact h5
  | 6, _ => exact h6
  | 7, _ => exact h7
  | 8, _ => exact h8
  | 9, _ => exact h9
  | 10, _ => exact h10
  | 11, _ => exact h11
  | 12, _ => exact h12
  | 13, _ => exact h13
  | 14, _ => exact h14
theorem vals_rev {xs : List V} {us : List Value} (r : Vals xs us) : Vals xs.reverse us.reverse := by
  induction r with
  | nil => exact .nil
  | cons h t ih =>
    rw [List.reverse_cons, List.reverse_cons]
    exact ih.append (.cons h .nil)
theorem ini_all {P : Program} {w : World} {K : PySem.W.Frag} {mg : Str → Option Value} {base : Heap} {C : Nat → Addr} (h : ∀ i, i < 15 → ∃ f fd, IniOk P w K mg base C i f fd) (d : FuncData) : ∃ (fI : Nat → Addr) (fdI : Nat → FuncData), ∀ i, i < 15 → IniOk P w K mg base C i (fI i) (fdI i) := by
  classical
  refine ⟨fun i => if z : i < 15 then (h i z).choose else 0, fun i => if z : i < 15 then (h i z).choose_spec.choose else d, fun i z => ?_⟩
  simp only [dif_pos z]
  exact (h i z).choose_spec.choose_spec
/-- one class's facts -/
structure One (K : PySem.W.Frag) (C Par : Addr) (newId : String) (tail : List Value) : Prop where
  ox : ∃ (nm q : Str) (N : Addr) (bs : List Value) (sn : List Str) (sub : List Value) (ab : Bool) (col : Option Bool) (dd : Option Addr) (k0 k1 k2 k3 k5 : Option Value), K.lookup C = some (excClassObj nm q C N bs (.ref Par :: tail) true sn sub ab col dd k0 k1 k2 k3 k5 newId)
  sa : PySem.W.findIn K (.ref C) "__setattr__" = some (some (.builtin "object.__setattr__"))
  ty : PySem.W.typeIn K (.ref C) = some (.type "type")
  kp : PySem.W.keepIn K (.ref C) = true
  ga : PySem.W.findIn K (.ref C) "__getattribute__" = some (some (.builtin "BaseException.__getattribute__"))
  gg : PySem.W.findIn K (.ref C) "__getattr__" = some none
  ex : PySem.W.subIn K (.ref C) (.type "BaseException") = some true
  hd : PySem.W.hasDictIn K C = true
  ha : PySem.W.findIn K (.ref C) "__class__" = some (some (.builtin "object.__class__"))
  hm : PySem.W.mroIn K C (.type "object") = some true
  nc : PySem.W.findIn K (.ref C) "code" = some none
theorem One.err {K : PySem.W.Frag} {C Par : Addr} {B newId initId : String} {tail : List Value} (h : One K C Par newId tail) (b : Base B newId initId tail) (hn : PySem.W.specialIn K (.builtin "object.__class__") "__get__" = some (some (.builtin "getset_descriptor.__get__"))) (ht : PySem.W.takesIn K (.builtin "object.__class__") = some true) : ErrK K C := by
  obtain ⟨nm, q, N, bs, sn, sub, ab, col, dd, k0, k1, k2, k3, k5, lk⟩ := h.ox
  exact ⟨⟨B, newId, initId, tail, nm, q, N, bs, _, sn, sub, ab, col, dd, k0, k1, k2, k3, k5, b, lk, ⟨[Par], rfl⟩⟩, h.sa, h.ty, h.kp, ⟨h.ga, h.gg, h.ex, h.hd⟩, ⟨h.ga, h.gg, h.ex, h.hd, h.ha, hn, ht, h.hm⟩⟩
theorem One.par {K : PySem.W.Frag} {C Par : Addr} {newId : String} {tail : List Value} (h : One K C Par newId tail) : ∃ cd, PySem.W.clsIn K C = some cd ∧ cd.mro = .ref C :: .ref Par :: tail := by
  obtain ⟨nm, q, N, bs, sn, sub, ab, col, dd, k0, k1, k2, k3, k5, lk⟩ := h.ox
  refine ⟨_, by unfold PySem.W.clsIn; rw [lk] <;> rfl, rfl⟩
theorem nd_inj {l : List Addr} (h : l.Nodup) {i j : Nat} (hi : i < l.length) (hj : j < l.length) (e : l.getD i 0 = l.getD j 0) : i = j := by
  rw [List.getD_eq_getElem?_getD, List.getD_eq_getElem?_getD, List.getElem?_eq_getElem hi, List.getElem?_eq_getElem hj] at e
  exact (List.getElem_inj h).mp e
section
variable {P : Program} {w : World} {K : PySem.W.Frag} {mg : Str → Option Value} {base : Heap} {C : Nat → Addr}
theorem ini0 {f : Addr} {fd : FuncData} {fK : Addr} {fdK : FuncData} (F : Fun K "__init__" "InvalidName.__init__" sInvalidNameInit f fd) (B : Binds K fd ("self" :: fl 0) []) (a : PySem.W.findIn K (.ref (C 0)) "__init__" = some (some (.ref f))) (t : PySem.W.typeIn K (.ref f) = some (.type "function")) (T : ErrK K (C 0)) (nC : PySem.W.findIn K (.ref (C 0)) "code" = some none) (n0 : PySem.W.findIn K (.ref (C 0)) "value" = some none) (Kp : Cal P w K mg base "kept" 5 ["value"] (spKept K 4) fK fdK) : IniOk P w K mg base C 0 f fd := by
  refine ⟨a, t, ok_ini0 F T nC n0 Kp, B, fun _ => ?_, fun h => absurd h (by decide)⟩
  obtain ⟨oc, od, kV, doc, pm, an, cdv, ct, osl, rfl, lk, hcd⟩ := F.ex
  refine ⟨fun s us ws X l1 l2 => ?_, fun r1 r2 => r1.append r2⟩
  match us, l1, ws, l2 with
  | [u0], _, [w0], _ => exact .of_eq rfl
theorem ini1 {f : Addr} {fd : FuncData} {fK : Addr} {fdK : FuncData} (F : Fun K "__init__" "InvalidNumber.__init__" sInvalidNumberInit f fd) (B : Binds K fd ("self" :: fl 1) []) (a : PySem.W.findIn K (.ref (C 1)) "__init__" = some (some (.ref f))) (t : PySem.W.typeIn K (.ref f) = some (.type "function")) (T : ErrK K (C 1)) (nC : PySem.W.findIn K (.ref (C 1)) "code" = some none) (n0 : PySem.W.findIn K (.ref (C 1)) "value" = some none) (Kp : Cal P w K mg base "kept" 5 ["value"] (spKept K 4) fK fdK) : IniOk P w K mg base C 1 f fd := by
  refine ⟨a, t, ok_ini1 F T nC n0 Kp, B, fun _ => ?_, fun h => absurd h (by decide)⟩
  obtain ⟨oc, od, kV, doc, pm, an, cdv, ct, osl, rfl, lk, hcd⟩ := F.ex
  refine ⟨fun s us ws X l1 l2 => ?_, fun r1 r2 => r1.append r2⟩
  match us, l1, ws, l2 with
  | [u0], _, [w0], _ => exact .of_eq rfl
theorem ini2 {f : Addr} {fd : FuncData} {fK : Addr} {fdK : FuncData} (F : Fun K "__init__" "InvalidNames.__init__" sInvalidNamesInit f fd) (B : Binds K fd ("self" :: fl 2) []) (a : PySem.W.findIn K (.ref (C 2)) "__init__" = some (some (.ref f))) (t : PySem.W.typeIn K (.ref f) = some (.type "function")) (T : ErrK K (C 2)) (nC : PySem.W.findIn K (.ref (C 2)) "code" = some none) (n0 : PySem.W.findIn K (.ref (C 2)) "at" = some none) (Kp : Cal P w K mg base "kept" 5 ["value"] (spKept K 4) fK fdK) : IniOk P w K mg base C 2 f fd := by
  refine ⟨a, t, ok_ini2 F T nC n0 Kp, B, fun _ => ?_, fun h => absurd h (by decide)⟩
  obtain ⟨oc, od, kV, doc, pm, an, cdv, ct, osl, rfl, lk, hcd⟩ := F.ex
  refine ⟨fun s us ws X l1 l2 => ?_, fun r1 r2 => r1.append r2⟩
  match us, l1, ws, l2 with
  | [u0], _, [w0], _ => exact .of_eq rfl
theorem ini3 {f : Addr} {fd : FuncData} (F : Fun K "__init__" "InvalidLot.__init__" sInvalidLotInit f fd) (B : Binds K fd ("self" :: fl 3) []) (a : PySem.W.findIn K (.ref (C 3)) "__init__" = some (some (.ref f))) (t : PySem.W.typeIn K (.ref f) = some (.type "function")) (T : ErrK K (C 3)) (nC : PySem.W.findIn K (.ref (C 3)) "code" = some none) : IniOk P w K mg base C 3 f fd := by
  exact ⟨a, t, ok_ini3 (k := 5) F T nC , B, fun h => absurd h (by decide), fun h => absurd h (by decide)⟩
theorem ini4 {f : Addr} {fd : FuncData} {fK : Addr} {fdK : FuncData} (F : Fun K "__init__" "InvalidRoll.__init__" sInvalidRollInit f fd) (B : Binds K fd ("self" :: fl 4) []) (a : PySem.W.findIn K (.ref (C 4)) "__init__" = some (some (.ref f))) (t : PySem.W.typeIn K (.ref f) = some (.type "function")) (T : ErrK K (C 4)) (nC : PySem.W.findIn K (.ref (C 4)) "code" = some none) (n0 : PySem.W.findIn K (.ref (C 4)) "at" = some none) (Kp : Cal P w K mg base "kept" 5 ["value"] (spKept K 4) fK fdK) : IniOk P w K mg base C 4 f fd := by
  refine ⟨a, t, ok_ini4 F T nC n0 Kp, B, fun _ => ?_, fun h => absurd h (by decide)⟩
  obtain ⟨oc, od, kV, doc, pm, an, cdv, ct, osl, rfl, lk, hcd⟩ := F.ex
  refine ⟨fun s us ws X l1 l2 => ?_, fun r1 r2 => r1.append r2⟩
  match us, l1, ws, l2 with
  | [u0], _, [w0], _ => exact .of_eq rfl
theorem ini5 {f : Addr} {fd : FuncData} {fK : Addr} {fdK : FuncData} (F : Fun K "__init__" "InvalidEntry.__init__" sInvalidEntryInit f fd) (B : Binds K fd ("self" :: fl 5) []) (a : PySem.W.findIn K (.ref (C 5)) "__init__" = some (some (.ref f))) (t : PySem.W.typeIn K (.ref f) = some (.type "function")) (T : ErrK K (C 5)) (nC : PySem.W.findIn K (.ref (C 5)) "code" = some none) (n0 : PySem.W.findIn K (.ref (C 5)) "at" = some none) (Kp : Cal P w K mg base "kept" 5 ["value"] (spKept K 4) fK fdK) : IniOk P w K mg base C 5 f fd := by
  refine ⟨a, t, ok_ini5 F T nC n0 Kp, B, fun _ => ?_, fun h => absurd h (by decide)⟩
  obtain ⟨oc, od, kV, doc, pm, an, cdv, ct, osl, rfl, lk, hcd⟩ := F.ex
  refine ⟨fun s us ws X l1 l2 => ?_, fun r1 r2 => r1.append r2⟩
  match us, l1, ws, l2 with
  | [u0], _, [w0], _ => exact .of_eq rfl
theorem ini6 {f : Addr} {fd : FuncData} {fK : Addr} {fdK : FuncData} (F : Fun K "__init__" "InvalidText.__init__" sInvalidTextInit f fd) (B : Binds K fd ("self" :: fl 6) []) (a : PySem.W.findIn K (.ref (C 6)) "__init__" = some (some (.ref f))) (t : PySem.W.typeIn K (.ref f) = some (.type "function")) (T : ErrK K (C 6)) (nC : PySem.W.findIn K (.ref (C 6)) "code" = some none) (n0 : PySem.W.findIn K (.ref (C 6)) "line" = some none) (n1 : PySem.W.findIn K (.ref (C 6)) "why" = some none) (Kp : Cal P w K mg base "kept" 5 ["value"] (spKept K 4) fK fdK) : IniOk P w K mg base C 6 f fd := by
  refine ⟨a, t, ok_ini6 F T nC n0 n1 Kp, B, fun h => absurd h (by decide), fun _ => ?_⟩
  obtain ⟨oc, od, kV, doc, pm, an, cdv, ct, osl, rfl, lk, hcd⟩ := F.ex
  refine ⟨fun s us ws X l1 l2 => ?_, fun r1 r2 => r1.append (vals_rev r2)⟩
  match us, l1, ws, l2 with
  | [u0], _, [w0, w1], _ => exact .of_eq rfl
theorem ini7 {f : Addr} {fd : FuncData} {fK : Addr} {fdK : FuncData} (F : Fun K "__init__" "BadRule.__init__" sBadRuleInit f fd) (B : Binds K fd ("self" :: fl 7) []) (a : PySem.W.findIn K (.ref (C 7)) "__init__" = some (some (.ref f))) (t : PySem.W.typeIn K (.ref f) = some (.type "function")) (T : ErrK K (C 7)) (nC : PySem.W.findIn K (.ref (C 7)) "code" = some none) (n0 : PySem.W.findIn K (.ref (C 7)) "line" = some none) (n1 : PySem.W.findIn K (.ref (C 7)) "what" = some none) (Kp : Cal P w K mg base "kept" 5 ["value"] (spKept K 4) fK fdK) : IniOk P w K mg base C 7 f fd := by
  refine ⟨a, t, ok_ini7 F T nC n0 n1 Kp, B, fun h => absurd h (by decide), fun _ => ?_⟩
  obtain ⟨oc, od, kV, doc, pm, an, cdv, ct, osl, rfl, lk, hcd⟩ := F.ex
  refine ⟨fun s us ws X l1 l2 => ?_, fun r1 r2 => r1.append (vals_rev r2)⟩
  match us, l1, ws, l2 with
  | [u0], _, [w0, w1], _ => exact .of_eq rfl
theorem ini8 {f : Addr} {fd : FuncData} {fK : Addr} {fdK : FuncData} (F : Fun K "__init__" "Spoiled.__init__" sSpoiledInit f fd) (B : Binds K fd ("self" :: fl 8) []) (a : PySem.W.findIn K (.ref (C 8)) "__init__" = some (some (.ref f))) (t : PySem.W.typeIn K (.ref f) = some (.type "function")) (T : ErrK K (C 8)) (nC : PySem.W.findIn K (.ref (C 8)) "code" = some none) (n0 : PySem.W.findIn K (.ref (C 8)) "ballot" = some none) (n1 : PySem.W.findIn K (.ref (C 8)) "why" = some none) (Kp : Cal P w K mg base "kept" 5 ["value"] (spKept K 4) fK fdK) : IniOk P w K mg base C 8 f fd := by
  refine ⟨a, t, ok_ini8 F T nC n0 n1 Kp, B, fun h => absurd h (by decide), fun _ => ?_⟩
  obtain ⟨oc, od, kV, doc, pm, an, cdv, ct, osl, rfl, lk, hcd⟩ := F.ex
  refine ⟨fun s us ws X l1 l2 => ?_, fun r1 r2 => r1.append (vals_rev r2)⟩
  match us, l1, ws, l2 with
  | [u0], _, [w0, w1], _ => exact .of_eq rfl
theorem ini9 {f : Addr} {fd : FuncData} {fK : Addr} {fdK : FuncData} (F : Fun K "__init__" "BadSizes.__init__" sBadSizesInit f fd) (B : Binds K fd ("self" :: fl 9) []) (a : PySem.W.findIn K (.ref (C 9)) "__init__" = some (some (.ref f))) (t : PySem.W.typeIn K (.ref f) = some (.type "function")) (T : ErrK K (C 9)) (nC : PySem.W.findIn K (.ref (C 9)) "code" = some none) (n0 : PySem.W.findIn K (.ref (C 9)) "number" = some none) (Kp : Cal P w K mg base "kept" 5 ["value"] (spKept K 4) fK fdK) : IniOk P w K mg base C 9 f fd := by
  refine ⟨a, t, ok_ini9 F T nC n0 Kp, B, fun _ => ?_, fun h => absurd h (by decide)⟩
  obtain ⟨oc, od, kV, doc, pm, an, cdv, ct, osl, rfl, lk, hcd⟩ := F.ex
  refine ⟨fun s us ws X l1 l2 => ?_, fun r1 r2 => r1.append r2⟩
  match us, l1, ws, l2 with
  | [u0], _, [w0], _ => exact .of_eq rfl
theorem ini10 {f : Addr} {fd : FuncData} {fK : Addr} {fdK : FuncData} (F : Fun K "__init__" "BadStaff.__init__" sBadStaffInit f fd) (B : Binds K fd ("self" :: fl 10) []) (a : PySem.W.findIn K (.ref (C 10)) "__init__" = some (some (.ref f))) (t : PySem.W.typeIn K (.ref f) = some (.type "function")) (T : ErrK K (C 10)) (nC : PySem.W.findIn K (.ref (C 10)) "code" = some none) (n0 : PySem.W.findIn K (.ref (C 10)) "bundle" = some none) (Kp : Cal P w K mg base "kept" 5 ["value"] (spKept K 4) fK fdK) : IniOk P w K mg base C 10 f fd := by
  refine ⟨a, t, ok_ini10 F T nC n0 Kp, B, fun _ => ?_, fun h => absurd h (by decide)⟩
  obtain ⟨oc, od, kV, doc, pm, an, cdv, ct, osl, rfl, lk, hcd⟩ := F.ex
  refine ⟨fun s us ws X l1 l2 => ?_, fun r1 r2 => r1.append r2⟩
  match us, l1, ws, l2 with
  | [u0], _, [w0], _ => exact .of_eq rfl
theorem ini11 {f : Addr} {fd : FuncData} {fK : Addr} {fdK : FuncData} (F : Fun K "__init__" "TooMany.__init__" sTooManyInit f fd) (B : Binds K fd ("self" :: fl 11) []) (a : PySem.W.findIn K (.ref (C 11)) "__init__" = some (some (.ref f))) (t : PySem.W.typeIn K (.ref f) = some (.type "function")) (T : ErrK K (C 11)) (nC : PySem.W.findIn K (.ref (C 11)) "code" = some none) (n0 : PySem.W.findIn K (.ref (C 11)) "what" = some none) (n1 : PySem.W.findIn K (.ref (C 11)) "most" = some none) (Kp : Cal P w K mg base "kept" 5 ["value"] (spKept K 4) fK fdK) : IniOk P w K mg base C 11 f fd := by
  refine ⟨a, t, ok_ini11 F T nC n0 n1 Kp, B, fun h => absurd h (by decide), fun _ => ?_⟩
  obtain ⟨oc, od, kV, doc, pm, an, cdv, ct, osl, rfl, lk, hcd⟩ := F.ex
  refine ⟨fun s us ws X l1 l2 => ?_, fun r1 r2 => r1.append (vals_rev r2)⟩
  match us, l1, ws, l2 with
  | [u0], _, [w0, w1], _ => exact .of_eq rfl
theorem ini12 {f : Addr} {fd : FuncData} {fK : Addr} {fdK : FuncData} (F : Fun K "__init__" "NoName.__init__" sNoNameInit f fd) (B : Binds K fd ("self" :: fl 12) []) (a : PySem.W.findIn K (.ref (C 12)) "__init__" = some (some (.ref f))) (t : PySem.W.typeIn K (.ref f) = some (.type "function")) (T : ErrK K (C 12)) (nC : PySem.W.findIn K (.ref (C 12)) "code" = some none) (n0 : PySem.W.findIn K (.ref (C 12)) "word" = some none) (Kp : Cal P w K mg base "kept" 5 ["value"] (spKept K 4) fK fdK) : IniOk P w K mg base C 12 f fd := by
  refine ⟨a, t, ok_ini12 F T nC n0 Kp, B, fun _ => ?_, fun h => absurd h (by decide)⟩
  obtain ⟨oc, od, kV, doc, pm, an, cdv, ct, osl, rfl, lk, hcd⟩ := F.ex
  refine ⟨fun s us ws X l1 l2 => ?_, fun r1 r2 => r1.append r2⟩
  match us, l1, ws, l2 with
  | [u0], _, [w0], _ => exact .of_eq rfl
theorem ini13 {f : Addr} {fd : FuncData} (F : Fun K "__init__" "Ended.__init__" sEndedInit f fd) (B : Binds K fd ("self" :: fl 13) []) (a : PySem.W.findIn K (.ref (C 13)) "__init__" = some (some (.ref f))) (t : PySem.W.typeIn K (.ref f) = some (.type "function")) (T : ErrK K (C 13)) (nC : PySem.W.findIn K (.ref (C 13)) "code" = some none) : IniOk P w K mg base C 13 f fd := by
  exact ⟨a, t, ok_ini13 (k := 5) F T nC , B, fun h => absurd h (by decide), fun h => absurd h (by decide)⟩
theorem ini14 {f : Addr} {fd : FuncData} {fK : Addr} {fdK : FuncData} (F : Fun K "__init__" "Closed.__init__" sClosedInit f fd) (B : Binds K fd ("self" :: fl 14) []) (a : PySem.W.findIn K (.ref (C 14)) "__init__" = some (some (.ref f))) (t : PySem.W.typeIn K (.ref f) = some (.type "function")) (T : ErrK K (C 14)) (nC : PySem.W.findIn K (.ref (C 14)) "code" = some none) (n0 : PySem.W.findIn K (.ref (C 14)) "place" = some none) (Kp : Cal P w K mg base "kept" 5 ["value"] (spKept K 4) fK fdK) : IniOk P w K mg base C 14 f fd := by
  refine ⟨a, t, ok_ini14 F T nC n0 Kp, B, fun _ => ?_, fun h => absurd h (by decide)⟩
  obtain ⟨oc, od, kV, doc, pm, an, cdv, ct, osl, rfl, lk, hcd⟩ := F.ex
  refine ⟨fun s us ws X l1 l2 => ?_, fun r1 r2 => r1.append r2⟩
  match us, l1, ws, l2 with
  | [u0], _, [w0], _ => exact .of_eq rfl
end
end My

set_option Elab.async false
set_option linter.all false
set_option maxRecDepth 100000
namespace My
open PySem PySem.Spec PyProof.Rows L2
set_option maxHeartbeats 4000000 in
theorem all_mk {l : PySem.W.OpenLaw} {w : World} {K : PySem.W.Frag} {h : Heap} {mg : Str → Option Value} {fa : Addr} (X : K.In h) (G : h.Ns mainGlobals mg) (hfa : mg "law" = some (.ref fa))
    {CInvalidName CInvalidNumber CInvalidNames CInvalidLot CInvalidRoll CInvalidEntry CInvalidText CBadRule CSpoiled CBadSizes CBadStaff CTooMany CNoName CEnded CClosed aE aM aL : Addr}
    {f0 : Addr} {od0 an0 : Option Addr} {sl0 : Array (Option Value)} {oc0 kV0 dc0 pm0 cd0 ct0 : Value}
    {f1 : Addr} {od1 an1 : Option Addr} {sl1 : Array (Option Value)} {oc1 kV1 dc1 pm1 cd1 ct1 : Value}
    {f2 : Addr} {od2 an2 : Option Addr} {sl2 : Array (Option Value)} {oc2 kV2 dc2 pm2 cd2 ct2 : Value}
    {f3 : Addr} {od3 an3 : Option Addr} {sl3 : Array (Option Value)} {oc3 kV3 dc3 pm3 cd3 ct3 : Value}
    {f4 : Addr} {od4 an4 : Option Addr} {sl4 : Array (Option Value)} {oc4 kV4 dc4 pm4 cd4 ct4 : Value}
    {f5 : Addr} {od5 an5 : Option Addr} {sl5 : Array (Option Value)} {oc5 kV5 dc5 pm5 cd5 ct5 : Value}
    {f6 : Addr} {od6 an6 : Option Addr} {sl6 : Array (Option Value)} {oc6 kV6 dc6 pm6 cd6 ct6 : Value}
    {f7 : Addr} {od7 an7 : Option Addr} {sl7 : Array (Option Value)} {oc7 kV7 dc7 pm7 cd7 ct7 : Value}
    {f8 : Addr} {od8 an8 : Option Addr} {sl8 : Array (Option Value)} {oc8 kV8 dc8 pm8 cd8 ct8 : Value}
    {f9 : Addr} {od9 an9 : Option Addr} {sl9 : Array (Option Value)} {oc9 kV9 dc9 pm9 cd9 ct9 : Value}
    {f10 : Addr} {od10 an10 : Option Addr} {sl10 : Array (Option Value)} {oc10 kV10 dc10 pm10 cd10 ct10 : Value}
    {f11 : Addr} {od11 an11 : Option Addr} {sl11 : Array (Option Value)} {oc11 kV11 dc11 pm11 cd11 ct11 : Value}
    {f12 : Addr} {od12 an12 : Option Addr} {sl12 : Array (Option Value)} {oc12 kV12 dc12 pm12 cd12 ct12 : Value}
    {f13 : Addr} {od13 an13 : Option Addr} {sl13 : Array (Option Value)} {oc13 kV13 dc13 pm13 cd13 ct13 : Value}
    {f14 : Addr} {od14 an14 : Option Addr} {sl14 : Array (Option Value)} {oc14 kV14 dc14 pm14 cd14 ct14 : Value}
    {f15 : Addr} {od15 an15 : Option Addr} {sl15 : Array (Option Value)} {oc15 kV15 dc15 pm15 cd15 ct15 : Value}
    {f16 : Addr} {od16 an16 : Option Addr} {sl16 : Array (Option Value)} {oc16 kV16 dc16 pm16 cd16 ct16 : Value}
    {f17 : Addr} {od17 an17 : Option Addr} {sl17 : Array (Option Value)} {oc17 kV17 dc17 pm17 cd17 ct17 : Value}
    {f18 : Addr} {od18 an18 : Option Addr} {sl18 : Array (Option Value)} {oc18 kV18 dc18 pm18 cd18 ct18 : Value}
    {f19 : Addr} {od19 an19 : Option Addr} {sl19 : Array (Option Value)} {oc19 kV19 dc19 pm19 cd19 ct19 : Value}
    {f20 : Addr} {od20 an20 : Option Addr} {sl20 : Array (Option Value)} {oc20 kV20 dc20 pm20 cd20 ct20 : Value}
    {f21 : Addr} {od21 an21 : Option Addr} {sl21 : Array (Option Value)} {oc21 kV21 dc21 pm21 cd21 ct21 : Value}
    {f22 : Addr} {od22 an22 : Option Addr} {sl22 : Array (Option Value)} {oc22 kV22 dc22 pm22 cd22 ct22 : Value}
    {f23 : Addr} {od23 an23 : Option Addr} {sl23 : Array (Option Value)} {oc23 kV23 dc23 pm23 cd23 ct23 : Value}
    {f24 : Addr} {od24 an24 : Option Addr} {sl24 : Array (Option Value)} {oc24 kV24 dc24 pm24 cd24 ct24 : Value}
    {f25 : Addr} {od25 an25 : Option Addr} {sl25 : Array (Option Value)} {oc25 kV25 dc25 pm25 cd25 ct25 : Value}
    {f26 : Addr} {od26 an26 : Option Addr} {sl26 : Array (Option Value)} {oc26 kV26 dc26 pm26 cd26 ct26 : Value}
    {f27 : Addr} {od27 an27 : Option Addr} {sl27 : Array (Option Value)} {oc27 kV27 dc27 pm27 cd27 ct27 : Value}
    {f28 : Addr} {od28 an28 : Option Addr} {sl28 : Array (Option Value)} {oc28 kV28 dc28 pm28 cd28 ct28 : Value}
    {f29 : Addr} {od29 an29 : Option Addr} {sl29 : Array (Option Value)} {oc29 kV29 dc29 pm29 cd29 ct29 : Value}
    (a0 : PySem.W.nsIn K mainGlobals "kept" = some (some (.ref f0)))
    (l0 : K.lookup f0 = some ⟨oc0, od0, .func (PySem.W.fnOf "kept" "kept" (defArgs sKept) (defBody sKept) (defScope sKept) .none kV0 dc0 pm0 an0 cd0 ct0), sl0⟩) (c0 : PySem.W.codeIn K cd0 "kept" = true) (k0 : PySem.W.keepIn K (.ref f0) = true)
    (a1 : PySem.W.findIn K (.ref CInvalidName) "__init__" = some (some (.ref f1))) (i1 : PySem.W.isFn K (.ref f1) = true)
    (l1 : K.lookup f1 = some ⟨oc1, od1, .func (PySem.W.fnOf "__init__" "InvalidName.__init__" (defArgs sInvalidNameInit) (defBody sInvalidNameInit) (defScope sInvalidNameInit) .none kV1 dc1 pm1 an1 cd1 ct1), sl1⟩) (c1 : PySem.W.codeIn K cd1 "InvalidName.__init__" = true) (k1 : PySem.W.keepIn K (.ref f1) = true)
    (a2 : PySem.W.findIn K (.ref CInvalidNumber) "__init__" = some (some (.ref f2))) (i2 : PySem.W.isFn K (.ref f2) = true)
    (l2 : K.lookup f2 = some ⟨oc2, od2, .func (PySem.W.fnOf "__init__" "InvalidNumber.__init__" (defArgs sInvalidNumberInit) (defBody sInvalidNumberInit) (defScope sInvalidNumberInit) .none kV2 dc2 pm2 an2 cd2 ct2), sl2⟩) (c2 : PySem.W.codeIn K cd2 "InvalidNumber.__init__" = true) (k2 : PySem.W.keepIn K (.ref f2) = true)
    (a3 : PySem.W.findIn K (.ref CInvalidNames) "__init__" = some (some (.ref f3))) (i3 : PySem.W.isFn K (.ref f3) = true)
    (l3 : K.lookup f3 = some ⟨oc3, od3, .func (PySem.W.fnOf "__init__" "InvalidNames.__init__" (defArgs sInvalidNamesInit) (defBody sInvalidNamesInit) (defScope sInvalidNamesInit) .none kV3 dc3 pm3 an3 cd3 ct3), sl3⟩) (c3 : PySem.W.codeIn K cd3 "InvalidNames.__init__" = true) (k3 : PySem.W.keepIn K (.ref f3) = true)
    (a4 : PySem.W.findIn K (.ref CInvalidLot) "__init__" = some (some (.ref f4))) (i4 : PySem.W.isFn K (.ref f4) = true)
    (l4 : K.lookup f4 = some ⟨oc4, od4, .func (PySem.W.fnOf "__init__" "InvalidLot.__init__" (defArgs sInvalidLotInit) (defBody sInvalidLotInit) (defScope sInvalidLotInit) .none kV4 dc4 pm4 an4 cd4 ct4), sl4⟩) (c4 : PySem.W.codeIn K cd4 "InvalidLot.__init__" = true) (k4 : PySem.W.keepIn K (.ref f4) = true)
    (a5 : PySem.W.findIn K (.ref CInvalidRoll) "__init__" = some (some (.ref f5))) (i5 : PySem.W.isFn K (.ref f5) = true)
    (l5 : K.lookup f5 = some ⟨oc5, od5, .func (PySem.W.fnOf "__init__" "InvalidRoll.__init__" (defArgs sInvalidRollInit) (defBody sInvalidRollInit) (defScope sInvalidRollInit) .none kV5 dc5 pm5 an5 cd5 ct5), sl5⟩) (c5 : PySem.W.codeIn K cd5 "InvalidRoll.__init__" = true) (k5 : PySem.W.keepIn K (.ref f5) = true)
    (a6 : PySem.W.findIn K (.ref CInvalidEntry) "__init__" = some (some (.ref f6))) (i6 : PySem.W.isFn K (.ref f6) = true)
    (l6 : K.lookup f6 = some ⟨oc6, od6, .func (PySem.W.fnOf "__init__" "InvalidEntry.__init__" (defArgs sInvalidEntryInit) (defBody sInvalidEntryInit) (defScope sInvalidEntryInit) .none kV6 dc6 pm6 an6 cd6 ct6), sl6⟩) (c6 : PySem.W.codeIn K cd6 "InvalidEntry.__init__" = true) (k6 : PySem.W.keepIn K (.ref f6) = true)
    (a7 : PySem.W.findIn K (.ref CInvalidText) "__init__" = some (some (.ref f7))) (i7 : PySem.W.isFn K (.ref f7) = true)
    (l7 : K.lookup f7 = some ⟨oc7, od7, .func (PySem.W.fnOf "__init__" "InvalidText.__init__" (defArgs sInvalidTextInit) (defBody sInvalidTextInit) (defScope sInvalidTextInit) .none kV7 dc7 pm7 an7 cd7 ct7), sl7⟩) (c7 : PySem.W.codeIn K cd7 "InvalidText.__init__" = true) (k7 : PySem.W.keepIn K (.ref f7) = true)
    (a8 : PySem.W.findIn K (.ref CBadRule) "__init__" = some (some (.ref f8))) (i8 : PySem.W.isFn K (.ref f8) = true)
    (l8 : K.lookup f8 = some ⟨oc8, od8, .func (PySem.W.fnOf "__init__" "BadRule.__init__" (defArgs sBadRuleInit) (defBody sBadRuleInit) (defScope sBadRuleInit) .none kV8 dc8 pm8 an8 cd8 ct8), sl8⟩) (c8 : PySem.W.codeIn K cd8 "BadRule.__init__" = true) (k8 : PySem.W.keepIn K (.ref f8) = true)
    (a9 : PySem.W.findIn K (.ref CSpoiled) "__init__" = some (some (.ref f9))) (i9 : PySem.W.isFn K (.ref f9) = true)
    (l9 : K.lookup f9 = some ⟨oc9, od9, .func (PySem.W.fnOf "__init__" "Spoiled.__init__" (defArgs sSpoiledInit) (defBody sSpoiledInit) (defScope sSpoiledInit) .none kV9 dc9 pm9 an9 cd9 ct9), sl9⟩) (c9 : PySem.W.codeIn K cd9 "Spoiled.__init__" = true) (k9 : PySem.W.keepIn K (.ref f9) = true)
    (a10 : PySem.W.findIn K (.ref CBadSizes) "__init__" = some (some (.ref f10))) (i10 : PySem.W.isFn K (.ref f10) = true)
    (l10 : K.lookup f10 = some ⟨oc10, od10, .func (PySem.W.fnOf "__init__" "BadSizes.__init__" (defArgs sBadSizesInit) (defBody sBadSizesInit) (defScope sBadSizesInit) .none kV10 dc10 pm10 an10 cd10 ct10), sl10⟩) (c10 : PySem.W.codeIn K cd10 "BadSizes.__init__" = true) (k10 : PySem.W.keepIn K (.ref f10) = true)
    (a11 : PySem.W.findIn K (.ref CBadStaff) "__init__" = some (some (.ref f11))) (i11 : PySem.W.isFn K (.ref f11) = true)
    (l11 : K.lookup f11 = some ⟨oc11, od11, .func (PySem.W.fnOf "__init__" "BadStaff.__init__" (defArgs sBadStaffInit) (defBody sBadStaffInit) (defScope sBadStaffInit) .none kV11 dc11 pm11 an11 cd11 ct11), sl11⟩) (c11 : PySem.W.codeIn K cd11 "BadStaff.__init__" = true) (k11 : PySem.W.keepIn K (.ref f11) = true)
    (a12 : PySem.W.findIn K (.ref CTooMany) "__init__" = some (some (.ref f12))) (i12 : PySem.W.isFn K (.ref f12) = true)
    (l12 : K.lookup f12 = some ⟨oc12, od12, .func (PySem.W.fnOf "__init__" "TooMany.__init__" (defArgs sTooManyInit) (defBody sTooManyInit) (defScope sTooManyInit) .none kV12 dc12 pm12 an12 cd12 ct12), sl12⟩) (c12 : PySem.W.codeIn K cd12 "TooMany.__init__" = true) (k12 : PySem.W.keepIn K (.ref f12) = true)
    (a13 : PySem.W.findIn K (.ref CNoName) "__init__" = some (some (.ref f13))) (i13 : PySem.W.isFn K (.ref f13) = true)
    (l13 : K.lookup f13 = some ⟨oc13, od13, .func (PySem.W.fnOf "__init__" "NoName.__init__" (defArgs sNoNameInit) (defBody sNoNameInit) (defScope sNoNameInit) .none kV13 dc13 pm13 an13 cd13 ct13), sl13⟩) (c13 : PySem.W.codeIn K cd13 "NoName.__init__" = true) (k13 : PySem.W.keepIn K (.ref f13) = true)
    (a14 : PySem.W.findIn K (.ref CEnded) "__init__" = some (some (.ref f14))) (i14 : PySem.W.isFn K (.ref f14) = true)
    (l14 : K.lookup f14 = some ⟨oc14, od14, .func (PySem.W.fnOf "__init__" "Ended.__init__" (defArgs sEndedInit) (defBody sEndedInit) (defScope sEndedInit) .none kV14 dc14 pm14 an14 cd14 ct14), sl14⟩) (c14 : PySem.W.codeIn K cd14 "Ended.__init__" = true) (k14 : PySem.W.keepIn K (.ref f14) = true)
    (a15 : PySem.W.findIn K (.ref CClosed) "__init__" = some (some (.ref f15))) (i15 : PySem.W.isFn K (.ref f15) = true)
    (l15 : K.lookup f15 = some ⟨oc15, od15, .func (PySem.W.fnOf "__init__" "Closed.__init__" (defArgs sClosedInit) (defBody sClosedInit) (defScope sClosedInit) .none kV15 dc15 pm15 an15 cd15 ct15), sl15⟩) (c15 : PySem.W.codeIn K cd15 "Closed.__init__" = true) (k15 : PySem.W.keepIn K (.ref f15) = true)
    (a16 : PySem.W.nsIn K mainGlobals "_law_bag" = some (some (.ref f16)))
    (l16 : K.lookup f16 = some ⟨oc16, od16, .func (PySem.W.fnOf "_law_bag" "_law_bag" (defArgs sLawBag) (defBody sLawBag) (defScope sLawBag) .none kV16 dc16 pm16 an16 cd16 ct16), sl16⟩) (c16 : PySem.W.codeIn K cd16 "_law_bag" = true) (k16 : PySem.W.keepIn K (.ref f16) = true)
    (a17 : PySem.W.nsIn K mainGlobals "_law_draw" = some (some (.ref f17)))
    (l17 : K.lookup f17 = some ⟨oc17, od17, .func (PySem.W.fnOf "_law_draw" "_law_draw" (defArgs sLawDraw) (defBody sLawDraw) (defScope sLawDraw) .none kV17 dc17 pm17 an17 cd17 ct17), sl17⟩) (c17 : PySem.W.codeIn K cd17 "_law_draw" = true) (k17 : PySem.W.keepIn K (.ref f17) = true)
    (a18 : PySem.W.nsIn K mainGlobals "_law_of" = some (some (.ref f18)))
    (l18 : K.lookup f18 = some ⟨oc18, od18, .func (PySem.W.fnOf "_law_of" "_law_of" (defArgs sLawOf) (defBody sLawOf) (defScope sLawOf) .none kV18 dc18 pm18 an18 cd18 ct18), sl18⟩) (c18 : PySem.W.codeIn K cd18 "_law_of" = true) (k18 : PySem.W.keepIn K (.ref f18) = true)
    (a19 : PySem.W.nsIn K mainGlobals "_law_like" = some (some (.ref f19)))
    (l19 : K.lookup f19 = some ⟨oc19, od19, .func (PySem.W.fnOf "_law_like" "_law_like" (defArgs sLawLike) (defBody sLawLike) (defScope sLawLike) .none kV19 dc19 pm19 an19 cd19 ct19), sl19⟩) (c19 : PySem.W.codeIn K cd19 "_law_like" = true) (k19 : PySem.W.keepIn K (.ref f19) = true)
    (a20 : PySem.W.nsIn K mainGlobals "_law_codes" = some (some (.ref f20)))
    (l20 : K.lookup f20 = some ⟨oc20, od20, .func (PySem.W.fnOf "_law_codes" "_law_codes" (defArgs sLawCodes) (defBody sLawCodes) (defScope sLawCodes) .none kV20 dc20 pm20 an20 cd20 ct20), sl20⟩) (c20 : PySem.W.codeIn K cd20 "_law_codes" = true) (k20 : PySem.W.keepIn K (.ref f20) = true)
    (a21 : PySem.W.nsIn K mainGlobals "_law_by_place" = some (some (.ref f21)))
    (l21 : K.lookup f21 = some ⟨oc21, od21, .func (PySem.W.fnOf "_law_by_place" "_law_by_place" (defArgs sLawByPlace) (defBody sLawByPlace) (defScope sLawByPlace) .none kV21 dc21 pm21 an21 cd21 ct21), sl21⟩) (c21 : PySem.W.codeIn K cd21 "_law_by_place" = true) (k21 : PySem.W.keepIn K (.ref f21) = true)
    (a22 : PySem.W.nsIn K mainGlobals "_law_by_name" = some (some (.ref f22)))
    (l22 : K.lookup f22 = some ⟨oc22, od22, .func (PySem.W.fnOf "_law_by_name" "_law_by_name" (defArgs sLawByName) (defBody sLawByName) (defScope sLawByName) .none kV22 dc22 pm22 an22 cd22 ct22), sl22⟩) (c22 : PySem.W.codeIn K cd22 "_law_by_name" = true) (k22 : PySem.W.keepIn K (.ref f22) = true)
    (a23 : PySem.W.nsIn K mainGlobals "_law_values" = some (some (.ref f23)))
    (l23 : K.lookup f23 = some ⟨oc23, od23, .func (PySem.W.fnOf "_law_values" "_law_values" (defArgs sLawValues) (defBody sLawValues) (defScope sLawValues) .none kV23 dc23 pm23 an23 cd23 ct23), sl23⟩) (c23 : PySem.W.codeIn K cd23 "_law_values" = true) (k23 : PySem.W.keepIn K (.ref f23) = true)
    (a24 : PySem.W.nsIn K mainGlobals "_law_kinds" = some (some (.ref f24)))
    (l24 : K.lookup f24 = some ⟨oc24, od24, .func (PySem.W.fnOf "_law_kinds" "_law_kinds" (defArgs sLawKinds) (defBody sLawKinds) (defScope sLawKinds) .none kV24 dc24 pm24 an24 cd24 ct24), sl24⟩) (c24 : PySem.W.codeIn K cd24 "_law_kinds" = true) (k24 : PySem.W.keepIn K (.ref f24) = true)
    (a25 : PySem.W.nsIn K mainGlobals "_law_bases" = some (some (.ref f25)))
    (l25 : K.lookup f25 = some ⟨oc25, od25, .func (PySem.W.fnOf "_law_bases" "_law_bases" (defArgs sLawBases) (defBody sLawBases) (defScope sLawBases) .none kV25 dc25 pm25 an25 cd25 ct25), sl25⟩) (c25 : PySem.W.codeIn K cd25 "_law_bases" = true) (k25 : PySem.W.keepIn K (.ref f25) = true)
    (a26 : PySem.W.nsIn K mainGlobals "_law_caught" = some (some (.ref f26)))
    (l26 : K.lookup f26 = some ⟨oc26, od26, .func (PySem.W.fnOf "_law_caught" "_law_caught" (defArgs sLawCaught) (defBody sLawCaught) (defScope sLawCaught) .none kV26 dc26 pm26 an26 cd26 ct26), sl26⟩) (c26 : PySem.W.codeIn K cd26 "_law_caught" = true) (k26 : PySem.W.keepIn K (.ref f26) = true)
    (a27 : PySem.W.nsIn K mainGlobals "_law_thing" = some (some (.ref f27)))
    (l27 : K.lookup f27 = some ⟨oc27, od27, .func (PySem.W.fnOf "_law_thing" "_law_thing" (defArgs sLawThing) (defBody sLawThing) (defScope sLawThing) .none kV27 dc27 pm27 an27 cd27 ct27), sl27⟩) (c27 : PySem.W.codeIn K cd27 "_law_thing" = true) (k27 : PySem.W.keepIn K (.ref f27) = true)
    (a28 : PySem.W.nsIn K mainGlobals "_law_due" = some (some (.ref f28)))
    (l28 : K.lookup f28 = some ⟨oc28, od28, .func (PySem.W.fnOf "_law_due" "_law_due" (defArgs sLawDue) (defBody sLawDue) (defScope sLawDue) .none kV28 dc28 pm28 an28 cd28 ct28), sl28⟩) (c28 : PySem.W.codeIn K cd28 "_law_due" = true) (k28 : PySem.W.keepIn K (.ref f28) = true)
    (a29 : PySem.W.nsIn K mainGlobals "law" = some (some (.ref f29)))
    (l29 : K.lookup f29 = some ⟨oc29, od29, .func (PySem.W.fnOf "law" "law" (defArgs sLaw) (defBody sLaw) (defScope sLaw) .none kV29 dc29 pm29 an29 cd29 ct29), sl29⟩) (c29 : PySem.W.codeIn K cd29 "law" = true) (k29 : PySem.W.keepIn K (.ref f29) = true)
    (naE : PySem.W.nsIn K mainGlobals "CountError" = some (some (.ref aE)))
    (hdaE : PySem.W.hasDictIn K aE = true) (tyaE : PySem.W.typeIn K (.ref aE) = some (.type "type")) (exaE : PySem.W.subIn K (.ref aE) (.type "BaseException") = some true)
    (naM : PySem.W.nsIn K mainGlobals "Missing" = some (some (.ref aM)))
    (hdaM : PySem.W.hasDictIn K aM = true) (tyaM : PySem.W.typeIn K (.ref aM) = some (.type "type")) (exaM : PySem.W.subIn K (.ref aM) (.type "BaseException") = some true)
    (naL : PySem.W.nsIn K mainGlobals "TooLate" = some (some (.ref aL)))
    (hdaL : PySem.W.hasDictIn K aL = true) (tyaL : PySem.W.typeIn K (.ref aL) = some (.type "type")) (exaL : PySem.W.subIn K (.ref aL) (.type "BaseException") = some true)
    (gInvalidName : PySem.W.nsIn K mainGlobals "InvalidName" = some (some (.ref CInvalidName)))
    (oxInvalidName : ∃ (nm q : Str) (N : Addr) (bs : List Value) (sn : List Str) (sub : List Value) (ab : Bool) (col : Option Bool) (dd : Option Addr) (k0 k1 k2 k3 k5 : Option Value), K.lookup CInvalidName = some (excClassObj nm q CInvalidName N bs (.ref aE :: tl 0) true sn sub ab col dd k0 k1 k2 k3 k5 "ValueError.__new__"))
    (saInvalidName : PySem.W.findIn K (.ref CInvalidName) "__setattr__" = some (some (.builtin "object.__setattr__"))) (tyInvalidName : PySem.W.typeIn K (.ref CInvalidName) = some (.type "type")) (kcInvalidName : PySem.W.keepIn K (.ref CInvalidName) = true) (gaInvalidName : PySem.W.findIn K (.ref CInvalidName) "__getattribute__" = some (some (.builtin "BaseException.__getattribute__"))) (ggInvalidName : PySem.W.findIn K (.ref CInvalidName) "__getattr__" = some none) (exInvalidName : PySem.W.subIn K (.ref CInvalidName) (.type "BaseException") = some true) (hdInvalidName : PySem.W.hasDictIn K CInvalidName = true) (haInvalidName : PySem.W.findIn K (.ref CInvalidName) "__class__" = some (some (.builtin "object.__class__"))) (hmInvalidName : PySem.W.mroIn K CInvalidName (.type "object") = some true) (ncInvalidName : PySem.W.findIn K (.ref CInvalidName) "code" = some none)
    (nfInvalidNamevalue : PySem.W.findIn K (.ref CInvalidName) "value" = some none)
    (tfInvalidName : PySem.W.typeIn K (.ref f1) = some (.type "function"))
    (gInvalidNumber : PySem.W.nsIn K mainGlobals "InvalidNumber" = some (some (.ref CInvalidNumber)))
    (oxInvalidNumber : ∃ (nm q : Str) (N : Addr) (bs : List Value) (sn : List Str) (sub : List Value) (ab : Bool) (col : Option Bool) (dd : Option Addr) (k0 k1 k2 k3 k5 : Option Value), K.lookup CInvalidNumber = some (excClassObj nm q CInvalidNumber N bs (.ref aE :: tl 1) true sn sub ab col dd k0 k1 k2 k3 k5 "ValueError.__new__"))
    (saInvalidNumber : PySem.W.findIn K (.ref CInvalidNumber) "__setattr__" = some (some (.builtin "object.__setattr__"))) (tyInvalidNumber : PySem.W.typeIn K (.ref CInvalidNumber) = some (.type "type")) (kcInvalidNumber : PySem.W.keepIn K (.ref CInvalidNumber) = true) (gaInvalidNumber : PySem.W.findIn K (.ref CInvalidNumber) "__getattribute__" = some (some (.builtin "BaseException.__getattribute__"))) (ggInvalidNumber : PySem.W.findIn K (.ref CInvalidNumber) "__getattr__" = some none) (exInvalidNumber : PySem.W.subIn K (.ref CInvalidNumber) (.type "BaseException") = some true) (hdInvalidNumber : PySem.W.hasDictIn K CInvalidNumber = true) (haInvalidNumber : PySem.W.findIn K (.ref CInvalidNumber) "__class__" = some (some (.builtin "object.__class__"))) (hmInvalidNumber : PySem.W.mroIn K CInvalidNumber (.type "object") = some true) (ncInvalidNumber : PySem.W.findIn K (.ref CInvalidNumber) "code" = some none)
    (nfInvalidNumbervalue : PySem.W.findIn K (.ref CInvalidNumber) "value" = some none)
    (tfInvalidNumber : PySem.W.typeIn K (.ref f2) = some (.type "function"))
    (gInvalidNames : PySem.W.nsIn K mainGlobals "InvalidNames" = some (some (.ref CInvalidNames)))
    (oxInvalidNames : ∃ (nm q : Str) (N : Addr) (bs : List Value) (sn : List Str) (sub : List Value) (ab : Bool) (col : Option Bool) (dd : Option Addr) (k0 k1 k2 k3 k5 : Option Value), K.lookup CInvalidNames = some (excClassObj nm q CInvalidNames N bs (.ref aE :: tl 2) true sn sub ab col dd k0 k1 k2 k3 k5 "ValueError.__new__"))
    (saInvalidNames : PySem.W.findIn K (.ref CInvalidNames) "__setattr__" = some (some (.builtin "object.__setattr__"))) (tyInvalidNames : PySem.W.typeIn K (.ref CInvalidNames) = some (.type "type")) (kcInvalidNames : PySem.W.keepIn K (.ref CInvalidNames) = true) (gaInvalidNames : PySem.W.findIn K (.ref CInvalidNames) "__getattribute__" = some (some (.builtin "BaseException.__getattribute__"))) (ggInvalidNames : PySem.W.findIn K (.ref CInvalidNames) "__getattr__" = some none) (exInvalidNames : PySem.W.subIn K (.ref CInvalidNames) (.type "BaseException") = some true) (hdInvalidNames : PySem.W.hasDictIn K CInvalidNames = true) (haInvalidNames : PySem.W.findIn K (.ref CInvalidNames) "__class__" = some (some (.builtin "object.__class__"))) (hmInvalidNames : PySem.W.mroIn K CInvalidNames (.type "object") = some true) (ncInvalidNames : PySem.W.findIn K (.ref CInvalidNames) "code" = some none)
    (nfInvalidNamesat : PySem.W.findIn K (.ref CInvalidNames) "at" = some none)
    (tfInvalidNames : PySem.W.typeIn K (.ref f3) = some (.type "function"))
    (gInvalidLot : PySem.W.nsIn K mainGlobals "InvalidLot" = some (some (.ref CInvalidLot)))
    (oxInvalidLot : ∃ (nm q : Str) (N : Addr) (bs : List Value) (sn : List Str) (sub : List Value) (ab : Bool) (col : Option Bool) (dd : Option Addr) (k0 k1 k2 k3 k5 : Option Value), K.lookup CInvalidLot = some (excClassObj nm q CInvalidLot N bs (.ref aE :: tl 3) true sn sub ab col dd k0 k1 k2 k3 k5 "ValueError.__new__"))
    (saInvalidLot : PySem.W.findIn K (.ref CInvalidLot) "__setattr__" = some (some (.builtin "object.__setattr__"))) (tyInvalidLot : PySem.W.typeIn K (.ref CInvalidLot) = some (.type "type")) (kcInvalidLot : PySem.W.keepIn K (.ref CInvalidLot) = true) (gaInvalidLot : PySem.W.findIn K (.ref CInvalidLot) "__getattribute__" = some (some (.builtin "BaseException.__getattribute__"))) (ggInvalidLot : PySem.W.findIn K (.ref CInvalidLot) "__getattr__" = some none) (exInvalidLot : PySem.W.subIn K (.ref CInvalidLot) (.type "BaseException") = some true) (hdInvalidLot : PySem.W.hasDictIn K CInvalidLot = true) (haInvalidLot : PySem.W.findIn K (.ref CInvalidLot) "__class__" = some (some (.builtin "object.__class__"))) (hmInvalidLot : PySem.W.mroIn K CInvalidLot (.type "object") = some true) (ncInvalidLot : PySem.W.findIn K (.ref CInvalidLot) "code" = some none)
    (tfInvalidLot : PySem.W.typeIn K (.ref f4) = some (.type "function"))
    (gInvalidRoll : PySem.W.nsIn K mainGlobals "InvalidRoll" = some (some (.ref CInvalidRoll)))
    (oxInvalidRoll : ∃ (nm q : Str) (N : Addr) (bs : List Value) (sn : List Str) (sub : List Value) (ab : Bool) (col : Option Bool) (dd : Option Addr) (k0 k1 k2 k3 k5 : Option Value), K.lookup CInvalidRoll = some (excClassObj nm q CInvalidRoll N bs (.ref aE :: tl 4) true sn sub ab col dd k0 k1 k2 k3 k5 "ValueError.__new__"))
    (saInvalidRoll : PySem.W.findIn K (.ref CInvalidRoll) "__setattr__" = some (some (.builtin "object.__setattr__"))) (tyInvalidRoll : PySem.W.typeIn K (.ref CInvalidRoll) = some (.type "type")) (kcInvalidRoll : PySem.W.keepIn K (.ref CInvalidRoll) = true) (gaInvalidRoll : PySem.W.findIn K (.ref CInvalidRoll) "__getattribute__" = some (some (.builtin "BaseException.__getattribute__"))) (ggInvalidRoll : PySem.W.findIn K (.ref CInvalidRoll) "__getattr__" = some none) (exInvalidRoll : PySem.W.subIn K (.ref CInvalidRoll) (.type "BaseException") = some true) (hdInvalidRoll : PySem.W.hasDictIn K CInvalidRoll = true) (haInvalidRoll : PySem.W.findIn K (.ref CInvalidRoll) "__class__" = some (some (.builtin "object.__class__"))) (hmInvalidRoll : PySem.W.mroIn K CInvalidRoll (.type "object") = some true) (ncInvalidRoll : PySem.W.findIn K (.ref CInvalidRoll) "code" = some none)
    (nfInvalidRollat : PySem.W.findIn K (.ref CInvalidRoll) "at" = some none)
    (tfInvalidRoll : PySem.W.typeIn K (.ref f5) = some (.type "function"))
    (gInvalidEntry : PySem.W.nsIn K mainGlobals "InvalidEntry" = some (some (.ref CInvalidEntry)))
    (oxInvalidEntry : ∃ (nm q : Str) (N : Addr) (bs : List Value) (sn : List Str) (sub : List Value) (ab : Bool) (col : Option Bool) (dd : Option Addr) (k0 k1 k2 k3 k5 : Option Value), K.lookup CInvalidEntry = some (excClassObj nm q CInvalidEntry N bs (.ref aE :: tl 5) true sn sub ab col dd k0 k1 k2 k3 k5 "ValueError.__new__"))
    (saInvalidEntry : PySem.W.findIn K (.ref CInvalidEntry) "__setattr__" = some (some (.builtin "object.__setattr__"))) (tyInvalidEntry : PySem.W.typeIn K (.ref CInvalidEntry) = some (.type "type")) (kcInvalidEntry : PySem.W.keepIn K (.ref CInvalidEntry) = true) (gaInvalidEntry : PySem.W.findIn K (.ref CInvalidEntry) "__getattribute__" = some (some (.builtin "BaseException.__getattribute__"))) (ggInvalidEntry : PySem.W.findIn K (.ref CInvalidEntry) "__getattr__" = some none) (exInvalidEntry : PySem.W.subIn K (.ref CInvalidEntry) (.type "BaseException") = some true) (hdInvalidEntry : PySem.W.hasDictIn K CInvalidEntry = true) (haInvalidEntry : PySem.W.findIn K (.ref CInvalidEntry) "__class__" = some (some (.builtin "object.__class__"))) (hmInvalidEntry : PySem.W.mroIn K CInvalidEntry (.type "object") = some true) (ncInvalidEntry : PySem.W.findIn K (.ref CInvalidEntry) "code" = some none)
    (nfInvalidEntryat : PySem.W.findIn K (.ref CInvalidEntry) "at" = some none)
    (tfInvalidEntry : PySem.W.typeIn K (.ref f6) = some (.type "function"))
    (gInvalidText : PySem.W.nsIn K mainGlobals "InvalidText" = some (some (.ref CInvalidText)))
    (oxInvalidText : ∃ (nm q : Str) (N : Addr) (bs : List Value) (sn : List Str) (sub : List Value) (ab : Bool) (col : Option Bool) (dd : Option Addr) (k0 k1 k2 k3 k5 : Option Value), K.lookup CInvalidText = some (excClassObj nm q CInvalidText N bs (.ref aE :: tl 6) true sn sub ab col dd k0 k1 k2 k3 k5 "ValueError.__new__"))
    (saInvalidText : PySem.W.findIn K (.ref CInvalidText) "__setattr__" = some (some (.builtin "object.__setattr__"))) (tyInvalidText : PySem.W.typeIn K (.ref CInvalidText) = some (.type "type")) (kcInvalidText : PySem.W.keepIn K (.ref CInvalidText) = true) (gaInvalidText : PySem.W.findIn K (.ref CInvalidText) "__getattribute__" = some (some (.builtin "BaseException.__getattribute__"))) (ggInvalidText : PySem.W.findIn K (.ref CInvalidText) "__getattr__" = some none) (exInvalidText : PySem.W.subIn K (.ref CInvalidText) (.type "BaseException") = some true) (hdInvalidText : PySem.W.hasDictIn K CInvalidText = true) (haInvalidText : PySem.W.findIn K (.ref CInvalidText) "__class__" = some (some (.builtin "object.__class__"))) (hmInvalidText : PySem.W.mroIn K CInvalidText (.type "object") = some true) (ncInvalidText : PySem.W.findIn K (.ref CInvalidText) "code" = some none)
    (nfInvalidTextline : PySem.W.findIn K (.ref CInvalidText) "line" = some none)
    (nfInvalidTextwhy : PySem.W.findIn K (.ref CInvalidText) "why" = some none)
    (tfInvalidText : PySem.W.typeIn K (.ref f7) = some (.type "function"))
    (gBadRule : PySem.W.nsIn K mainGlobals "BadRule" = some (some (.ref CBadRule)))
    (oxBadRule : ∃ (nm q : Str) (N : Addr) (bs : List Value) (sn : List Str) (sub : List Value) (ab : Bool) (col : Option Bool) (dd : Option Addr) (k0 k1 k2 k3 k5 : Option Value), K.lookup CBadRule = some (excClassObj nm q CBadRule N bs (.ref aE :: tl 7) true sn sub ab col dd k0 k1 k2 k3 k5 "ValueError.__new__"))
    (saBadRule : PySem.W.findIn K (.ref CBadRule) "__setattr__" = some (some (.builtin "object.__setattr__"))) (tyBadRule : PySem.W.typeIn K (.ref CBadRule) = some (.type "type")) (kcBadRule : PySem.W.keepIn K (.ref CBadRule) = true) (gaBadRule : PySem.W.findIn K (.ref CBadRule) "__getattribute__" = some (some (.builtin "BaseException.__getattribute__"))) (ggBadRule : PySem.W.findIn K (.ref CBadRule) "__getattr__" = some none) (exBadRule : PySem.W.subIn K (.ref CBadRule) (.type "BaseException") = some true) (hdBadRule : PySem.W.hasDictIn K CBadRule = true) (haBadRule : PySem.W.findIn K (.ref CBadRule) "__class__" = some (some (.builtin "object.__class__"))) (hmBadRule : PySem.W.mroIn K CBadRule (.type "object") = some true) (ncBadRule : PySem.W.findIn K (.ref CBadRule) "code" = some none)
    (nfBadRuleline : PySem.W.findIn K (.ref CBadRule) "line" = some none)
    (nfBadRulewhat : PySem.W.findIn K (.ref CBadRule) "what" = some none)
    (tfBadRule : PySem.W.typeIn K (.ref f8) = some (.type "function"))
    (gSpoiled : PySem.W.nsIn K mainGlobals "Spoiled" = some (some (.ref CSpoiled)))
    (oxSpoiled : ∃ (nm q : Str) (N : Addr) (bs : List Value) (sn : List Str) (sub : List Value) (ab : Bool) (col : Option Bool) (dd : Option Addr) (k0 k1 k2 k3 k5 : Option Value), K.lookup CSpoiled = some (excClassObj nm q CSpoiled N bs (.ref aE :: tl 8) true sn sub ab col dd k0 k1 k2 k3 k5 "ValueError.__new__"))
    (saSpoiled : PySem.W.findIn K (.ref CSpoiled) "__setattr__" = some (some (.builtin "object.__setattr__"))) (tySpoiled : PySem.W.typeIn K (.ref CSpoiled) = some (.type "type")) (kcSpoiled : PySem.W.keepIn K (.ref CSpoiled) = true) (gaSpoiled : PySem.W.findIn K (.ref CSpoiled) "__getattribute__" = some (some (.builtin "BaseException.__getattribute__"))) (ggSpoiled : PySem.W.findIn K (.ref CSpoiled) "__getattr__" = some none) (exSpoiled : PySem.W.subIn K (.ref CSpoiled) (.type "BaseException") = some true) (hdSpoiled : PySem.W.hasDictIn K CSpoiled = true) (haSpoiled : PySem.W.findIn K (.ref CSpoiled) "__class__" = some (some (.builtin "object.__class__"))) (hmSpoiled : PySem.W.mroIn K CSpoiled (.type "object") = some true) (ncSpoiled : PySem.W.findIn K (.ref CSpoiled) "code" = some none)
    (nfSpoiledballot : PySem.W.findIn K (.ref CSpoiled) "ballot" = some none)
    (nfSpoiledwhy : PySem.W.findIn K (.ref CSpoiled) "why" = some none)
    (tfSpoiled : PySem.W.typeIn K (.ref f9) = some (.type "function"))
    (gBadSizes : PySem.W.nsIn K mainGlobals "BadSizes" = some (some (.ref CBadSizes)))
    (oxBadSizes : ∃ (nm q : Str) (N : Addr) (bs : List Value) (sn : List Str) (sub : List Value) (ab : Bool) (col : Option Bool) (dd : Option Addr) (k0 k1 k2 k3 k5 : Option Value), K.lookup CBadSizes = some (excClassObj nm q CBadSizes N bs (.ref aE :: tl 9) true sn sub ab col dd k0 k1 k2 k3 k5 "ValueError.__new__"))
    (saBadSizes : PySem.W.findIn K (.ref CBadSizes) "__setattr__" = some (some (.builtin "object.__setattr__"))) (tyBadSizes : PySem.W.typeIn K (.ref CBadSizes) = some (.type "type")) (kcBadSizes : PySem.W.keepIn K (.ref CBadSizes) = true) (gaBadSizes : PySem.W.findIn K (.ref CBadSizes) "__getattribute__" = some (some (.builtin "BaseException.__getattribute__"))) (ggBadSizes : PySem.W.findIn K (.ref CBadSizes) "__getattr__" = some none) (exBadSizes : PySem.W.subIn K (.ref CBadSizes) (.type "BaseException") = some true) (hdBadSizes : PySem.W.hasDictIn K CBadSizes = true) (haBadSizes : PySem.W.findIn K (.ref CBadSizes) "__class__" = some (some (.builtin "object.__class__"))) (hmBadSizes : PySem.W.mroIn K CBadSizes (.type "object") = some true) (ncBadSizes : PySem.W.findIn K (.ref CBadSizes) "code" = some none)
    (nfBadSizesnumber : PySem.W.findIn K (.ref CBadSizes) "number" = some none)
    (tfBadSizes : PySem.W.typeIn K (.ref f10) = some (.type "function"))
    (gBadStaff : PySem.W.nsIn K mainGlobals "BadStaff" = some (some (.ref CBadStaff)))
    (oxBadStaff : ∃ (nm q : Str) (N : Addr) (bs : List Value) (sn : List Str) (sub : List Value) (ab : Bool) (col : Option Bool) (dd : Option Addr) (k0 k1 k2 k3 k5 : Option Value), K.lookup CBadStaff = some (excClassObj nm q CBadStaff N bs (.ref aE :: tl 10) true sn sub ab col dd k0 k1 k2 k3 k5 "ValueError.__new__"))
    (saBadStaff : PySem.W.findIn K (.ref CBadStaff) "__setattr__" = some (some (.builtin "object.__setattr__"))) (tyBadStaff : PySem.W.typeIn K (.ref CBadStaff) = some (.type "type")) (kcBadStaff : PySem.W.keepIn K (.ref CBadStaff) = true) (gaBadStaff : PySem.W.findIn K (.ref CBadStaff) "__getattribute__" = some (some (.builtin "BaseException.__getattribute__"))) (ggBadStaff : PySem.W.findIn K (.ref CBadStaff) "__getattr__" = some none) (exBadStaff : PySem.W.subIn K (.ref CBadStaff) (.type "BaseException") = some true) (hdBadStaff : PySem.W.hasDictIn K CBadStaff = true) (haBadStaff : PySem.W.findIn K (.ref CBadStaff) "__class__" = some (some (.builtin "object.__class__"))) (hmBadStaff : PySem.W.mroIn K CBadStaff (.type "object") = some true) (ncBadStaff : PySem.W.findIn K (.ref CBadStaff) "code" = some none)
    (nfBadStaffbundle : PySem.W.findIn K (.ref CBadStaff) "bundle" = some none)
    (tfBadStaff : PySem.W.typeIn K (.ref f11) = some (.type "function"))
    (gTooMany : PySem.W.nsIn K mainGlobals "TooMany" = some (some (.ref CTooMany)))
    (oxTooMany : ∃ (nm q : Str) (N : Addr) (bs : List Value) (sn : List Str) (sub : List Value) (ab : Bool) (col : Option Bool) (dd : Option Addr) (k0 k1 k2 k3 k5 : Option Value), K.lookup CTooMany = some (excClassObj nm q CTooMany N bs (.ref aE :: tl 11) true sn sub ab col dd k0 k1 k2 k3 k5 "ValueError.__new__"))
    (saTooMany : PySem.W.findIn K (.ref CTooMany) "__setattr__" = some (some (.builtin "object.__setattr__"))) (tyTooMany : PySem.W.typeIn K (.ref CTooMany) = some (.type "type")) (kcTooMany : PySem.W.keepIn K (.ref CTooMany) = true) (gaTooMany : PySem.W.findIn K (.ref CTooMany) "__getattribute__" = some (some (.builtin "BaseException.__getattribute__"))) (ggTooMany : PySem.W.findIn K (.ref CTooMany) "__getattr__" = some none) (exTooMany : PySem.W.subIn K (.ref CTooMany) (.type "BaseException") = some true) (hdTooMany : PySem.W.hasDictIn K CTooMany = true) (haTooMany : PySem.W.findIn K (.ref CTooMany) "__class__" = some (some (.builtin "object.__class__"))) (hmTooMany : PySem.W.mroIn K CTooMany (.type "object") = some true) (ncTooMany : PySem.W.findIn K (.ref CTooMany) "code" = some none)
    (nfTooManywhat : PySem.W.findIn K (.ref CTooMany) "what" = some none)
    (nfTooManymost : PySem.W.findIn K (.ref CTooMany) "most" = some none)
    (tfTooMany : PySem.W.typeIn K (.ref f12) = some (.type "function"))
    (gNoName : PySem.W.nsIn K mainGlobals "NoName" = some (some (.ref CNoName)))
    (oxNoName : ∃ (nm q : Str) (N : Addr) (bs : List Value) (sn : List Str) (sub : List Value) (ab : Bool) (col : Option Bool) (dd : Option Addr) (k0 k1 k2 k3 k5 : Option Value), K.lookup CNoName = some (excClassObj nm q CNoName N bs (.ref aM :: tl 12) true sn sub ab col dd k0 k1 k2 k3 k5 "LookupError.__new__"))
    (saNoName : PySem.W.findIn K (.ref CNoName) "__setattr__" = some (some (.builtin "object.__setattr__"))) (tyNoName : PySem.W.typeIn K (.ref CNoName) = some (.type "type")) (kcNoName : PySem.W.keepIn K (.ref CNoName) = true) (gaNoName : PySem.W.findIn K (.ref CNoName) "__getattribute__" = some (some (.builtin "BaseException.__getattribute__"))) (ggNoName : PySem.W.findIn K (.ref CNoName) "__getattr__" = some none) (exNoName : PySem.W.subIn K (.ref CNoName) (.type "BaseException") = some true) (hdNoName : PySem.W.hasDictIn K CNoName = true) (haNoName : PySem.W.findIn K (.ref CNoName) "__class__" = some (some (.builtin "object.__class__"))) (hmNoName : PySem.W.mroIn K CNoName (.type "object") = some true) (ncNoName : PySem.W.findIn K (.ref CNoName) "code" = some none)
    (nfNoNameword : PySem.W.findIn K (.ref CNoName) "word" = some none)
    (tfNoName : PySem.W.typeIn K (.ref f13) = some (.type "function"))
    (gEnded : PySem.W.nsIn K mainGlobals "Ended" = some (some (.ref CEnded)))
    (oxEnded : ∃ (nm q : Str) (N : Addr) (bs : List Value) (sn : List Str) (sub : List Value) (ab : Bool) (col : Option Bool) (dd : Option Addr) (k0 k1 k2 k3 k5 : Option Value), K.lookup CEnded = some (excClassObj nm q CEnded N bs (.ref aL :: tl 13) true sn sub ab col dd k0 k1 k2 k3 k5 "RuntimeError.__new__"))
    (saEnded : PySem.W.findIn K (.ref CEnded) "__setattr__" = some (some (.builtin "object.__setattr__"))) (tyEnded : PySem.W.typeIn K (.ref CEnded) = some (.type "type")) (kcEnded : PySem.W.keepIn K (.ref CEnded) = true) (gaEnded : PySem.W.findIn K (.ref CEnded) "__getattribute__" = some (some (.builtin "BaseException.__getattribute__"))) (ggEnded : PySem.W.findIn K (.ref CEnded) "__getattr__" = some none) (exEnded : PySem.W.subIn K (.ref CEnded) (.type "BaseException") = some true) (hdEnded : PySem.W.hasDictIn K CEnded = true) (haEnded : PySem.W.findIn K (.ref CEnded) "__class__" = some (some (.builtin "object.__class__"))) (hmEnded : PySem.W.mroIn K CEnded (.type "object") = some true) (ncEnded : PySem.W.findIn K (.ref CEnded) "code" = some none)
    (tfEnded : PySem.W.typeIn K (.ref f14) = some (.type "function"))
    (gClosed : PySem.W.nsIn K mainGlobals "Closed" = some (some (.ref CClosed)))
    (oxClosed : ∃ (nm q : Str) (N : Addr) (bs : List Value) (sn : List Str) (sub : List Value) (ab : Bool) (col : Option Bool) (dd : Option Addr) (k0 k1 k2 k3 k5 : Option Value), K.lookup CClosed = some (excClassObj nm q CClosed N bs (.ref aL :: tl 14) true sn sub ab col dd k0 k1 k2 k3 k5 "RuntimeError.__new__"))
    (saClosed : PySem.W.findIn K (.ref CClosed) "__setattr__" = some (some (.builtin "object.__setattr__"))) (tyClosed : PySem.W.typeIn K (.ref CClosed) = some (.type "type")) (kcClosed : PySem.W.keepIn K (.ref CClosed) = true) (gaClosed : PySem.W.findIn K (.ref CClosed) "__getattribute__" = some (some (.builtin "BaseException.__getattribute__"))) (ggClosed : PySem.W.findIn K (.ref CClosed) "__getattr__" = some none) (exClosed : PySem.W.subIn K (.ref CClosed) (.type "BaseException") = some true) (hdClosed : PySem.W.hasDictIn K CClosed = true) (haClosed : PySem.W.findIn K (.ref CClosed) "__class__" = some (some (.builtin "object.__class__"))) (hmClosed : PySem.W.mroIn K CClosed (.type "object") = some true) (ncClosed : PySem.W.findIn K (.ref CClosed) "code" = some none)
    (nfClosedplace : PySem.W.findIn K (.ref CClosed) "place" = some none)
    (tfClosed : PySem.W.typeIn K (.ref f15) = some (.type "function"))
    (hn : PySem.W.specialIn K (.builtin "object.__class__") "__get__" = some (some (.builtin "getset_descriptor.__get__"))) (htk : PySem.W.takesIn K (.builtin "object.__class__") = some true)
    (nd : ([CInvalidName, CInvalidNumber, CInvalidNames, CInvalidLot, CInvalidRoll, CInvalidEntry, CInvalidText, CBadRule, CSpoiled, CBadSizes, CBadStaff, CTooMany, CNoName, CEnded, CClosed, aE, aM, aL] : List Addr).Nodup)
    (b_int : PySem.W.nsIn K mainGlobals "int" = some none)
    (b_list : PySem.W.nsIn K mainGlobals "list" = some none)
    (b_len : PySem.W.nsIn K mainGlobals "len" = some none)
    (b_isinstance : PySem.W.nsIn K mainGlobals "isinstance" = some none)
    (b_tuple : PySem.W.nsIn K mainGlobals "tuple" = some none)
    (b_bool : PySem.W.nsIn K mainGlobals "bool" = some none)
    (b_str : PySem.W.nsIn K mainGlobals "str" = some none)
    (b_all : PySem.W.nsIn K mainGlobals "all" = some none)
    (b_zip : PySem.W.nsIn K mainGlobals "zip" = some none)
    (b_range : PySem.W.nsIn K mainGlobals "range" = some none)
    (b_ValueError : PySem.W.nsIn K mainGlobals "ValueError" = some none)
    (b_LookupError : PySem.W.nsIn K mainGlobals "LookupError" = some none)
    (b_RuntimeError : PySem.W.nsIn K mainGlobals "RuntimeError" = some none) :
    ∃ fd : FuncData, (∀ (s : Shared) (v : Value), BindsTo s fd ⟨[v], []⟩ [("script", v)]) ∧ ∀ base : Heap, K.In base → base.Ns mainGlobals mg → FnOk l.prog w K mg base CX0 9 fa fd ["script"] (spLaw K) := by
  have e := hfa.symm.trans (PySem.W.mg_of X G a29)
  cases e
  have F0 := fun_mk (st := sKept) l0 c0 k0
  have B0 := F0.binds (ps := ["value"]) fun _ _ _ _ _ _ us hl => match us, hl with | [_], _ => rfl
  have F1 := fun_mk (st := sInvalidNameInit) l1 c1 k1
  have B1 := F1.binds (ps := ["self", "value"]) fun _ _ _ _ _ _ us hl => match us, hl with | [_, _], _ => rfl
  have F2 := fun_mk (st := sInvalidNumberInit) l2 c2 k2
  have B2 := F2.binds (ps := ["self", "value"]) fun _ _ _ _ _ _ us hl => match us, hl with | [_, _], _ => rfl
  have F3 := fun_mk (st := sInvalidNamesInit) l3 c3 k3
  have B3 := F3.binds (ps := ["self", "at"]) fun _ _ _ _ _ _ us hl => match us, hl with | [_, _], _ => rfl
  have F4 := fun_mk (st := sInvalidLotInit) l4 c4 k4
  have B4 := F4.binds (ps := ["self"]) fun _ _ _ _ _ _ us hl => match us, hl with | [_], _ => rfl
  have F5 := fun_mk (st := sInvalidRollInit) l5 c5 k5
  have B5 := F5.binds (ps := ["self", "at"]) fun _ _ _ _ _ _ us hl => match us, hl with | [_, _], _ => rfl
  have F6 := fun_mk (st := sInvalidEntryInit) l6 c6 k6
  have B6 := F6.binds (ps := ["self", "at"]) fun _ _ _ _ _ _ us hl => match us, hl with | [_, _], _ => rfl
  have F7 := fun_mk (st := sInvalidTextInit) l7 c7 k7
  have B7 := F7.binds (ps := ["self", "line", "why"]) fun _ _ _ _ _ _ us hl => match us, hl with | [_, _, _], _ => rfl
  have F8 := fun_mk (st := sBadRuleInit) l8 c8 k8
  have B8 := F8.binds (ps := ["self", "line", "what"]) fun _ _ _ _ _ _ us hl => match us, hl with | [_, _, _], _ => rfl
  have F9 := fun_mk (st := sSpoiledInit) l9 c9 k9
  have B9 := F9.binds (ps := ["self", "ballot", "why"]) fun _ _ _ _ _ _ us hl => match us, hl with | [_, _, _], _ => rfl
  have F10 := fun_mk (st := sBadSizesInit) l10 c10 k10
  have B10 := F10.binds (ps := ["self", "number"]) fun _ _ _ _ _ _ us hl => match us, hl with | [_, _], _ => rfl
  have F11 := fun_mk (st := sBadStaffInit) l11 c11 k11
  have B11 := F11.binds (ps := ["self", "bundle"]) fun _ _ _ _ _ _ us hl => match us, hl with | [_, _], _ => rfl
  have F12 := fun_mk (st := sTooManyInit) l12 c12 k12
  have B12 := F12.binds (ps := ["self", "what", "most"]) fun _ _ _ _ _ _ us hl => match us, hl with | [_, _, _], _ => rfl
  have F13 := fun_mk (st := sNoNameInit) l13 c13 k13
  have B13 := F13.binds (ps := ["self", "word"]) fun _ _ _ _ _ _ us hl => match us, hl with | [_, _], _ => rfl
  have F14 := fun_mk (st := sEndedInit) l14 c14 k14
  have B14 := F14.binds (ps := ["self"]) fun _ _ _ _ _ _ us hl => match us, hl with | [_], _ => rfl
  have F15 := fun_mk (st := sClosedInit) l15 c15 k15
  have B15 := F15.binds (ps := ["self", "place"]) fun _ _ _ _ _ _ us hl => match us, hl with | [_, _], _ => rfl
  have F16 := fun_mk (st := sLawBag) l16 c16 k16
  have B16 := F16.binds (ps := ["script"]) fun _ _ _ _ _ _ us hl => match us, hl with | [_], _ => rfl
  have F17 := fun_mk (st := sLawDraw) l17 c17 k17
  have B17 := F17.binds (ps := ["bag", "size"]) fun _ _ _ _ _ _ us hl => match us, hl with | [_, _], _ => rfl
  have F18 := fun_mk (st := sLawOf) l18 c18 k18
  have B18 := F18.binds (ps := ["bag", "things"]) fun _ _ _ _ _ _ us hl => match us, hl with | [_, _], _ => rfl
  have F19 := fun_mk (st := sLawLike) l19 c19 k19
  have B19 := F19.binds (ps := ["told", "due"]) fun _ _ _ _ _ _ us hl => match us, hl with | [_, _], _ => rfl
  have F20 := fun_mk (st := sLawCodes) l20 c20 k20
  have B20 := F20.binds (ps := []) fun _ _ _ _ _ _ us hl => match us, hl with | [], _ => rfl
  have F21 := fun_mk (st := sLawByPlace) l21 c21 k21
  have B21 := F21.binds (ps := ["a", "b"]) fun _ _ _ _ _ _ us hl => match us, hl with | [_, _], _ => rfl
  have F22 := fun_mk (st := sLawByName) l22 c22 k22
  have B22 := F22.binds (ps := ["a", "b"]) fun _ _ _ _ _ _ us hl => match us, hl with | [_, _], _ => rfl
  have F23 := fun_mk (st := sLawValues) l23 c23 k23
  have B23 := F23.binds (ps := ["e"]) fun _ _ _ _ _ _ us hl => match us, hl with | [_], _ => rfl
  have F24 := fun_mk (st := sLawKinds) l24 c24 k24
  have B24 := F24.binds (ps := ["e"]) fun _ _ _ _ _ _ us hl => match us, hl with | [_], _ => rfl
  have F25 := fun_mk (st := sLawBases) l25 c25 k25
  have B25 := F25.binds (ps := ["e"]) fun _ _ _ _ _ _ us hl => match us, hl with | [_], _ => rfl
  have F26 := fun_mk (st := sLawCaught) l26 c26 k26
  have B26 := F26.binds (ps := ["k", "a", "b"]) fun _ _ _ _ _ _ us hl => match us, hl with | [_, _, _], _ => rfl
  have F27 := fun_mk (st := sLawThing) l27 c27 k27
  have B27 := F27.binds (ps := ["bag"]) fun _ _ _ _ _ _ us hl => match us, hl with | [_], _ => rfl
  have F28 := fun_mk (st := sLawDue) l28 c28 k28
  have B28 := F28.binds (ps := ["k", "a", "b"]) fun _ _ _ _ _ _ us hl => match us, hl with | [_, _, _], _ => rfl
  have F29 := fun_mk (st := sLaw) l29 c29 k29
  have B29 := F29.binds (ps := ["script"]) fun _ _ _ _ _ _ us hl => match us, hl with | [_], _ => rfl
  have m_int := PySem.W.mg_none_of X G b_int
  have m_list := PySem.W.mg_none_of X G b_list
  have m_len := PySem.W.mg_none_of X G b_len
  have m_isinstance := PySem.W.mg_none_of X G b_isinstance
  have m_tuple := PySem.W.mg_none_of X G b_tuple
  have m_bool := PySem.W.mg_none_of X G b_bool
  have m_str := PySem.W.mg_none_of X G b_str
  have m_all := PySem.W.mg_none_of X G b_all
  have m_zip := PySem.W.mg_none_of X G b_zip
  have m_range := PySem.W.mg_none_of X G b_range
  have m_ValueError := PySem.W.mg_none_of X G b_ValueError
  have m_LookupError := PySem.W.mg_none_of X G b_LookupError
  have m_RuntimeError := PySem.W.mg_none_of X G b_RuntimeError
  refine ⟨PySem.W.fnOf "law" "law" (defArgs sLaw) (defBody sLaw) (defScope sLaw) .none kV29 dc29 pm29 an29 cd29 ct29, fun s v => .of_eq rfl, fun base _ _ => ?_⟩
  have len18 : ([CInvalidName, CInvalidNumber, CInvalidNames, CInvalidLot, CInvalidRoll, CInvalidEntry, CInvalidText, CBadRule, CSpoiled, CBadSizes, CBadStaff, CTooMany, CNoName, CEnded, CClosed, aE, aM, aL] : List Addr).length = 18 := rfl
  have O0 : One K CInvalidName aE "ValueError.__new__" (tl 0) := ⟨oxInvalidName, saInvalidName, tyInvalidName, kcInvalidName, gaInvalidName, ggInvalidName, exInvalidName, hdInvalidName, haInvalidName, hmInvalidName, ncInvalidName⟩
  have E0 : ErrK K CInvalidName := O0.err bValue hn htk
  have O1 : One K CInvalidNumber aE "ValueError.__new__" (tl 1) := ⟨oxInvalidNumber, saInvalidNumber, tyInvalidNumber, kcInvalidNumber, gaInvalidNumber, ggInvalidNumber, exInvalidNumber, hdInvalidNumber, haInvalidNumber, hmInvalidNumber, ncInvalidNumber⟩
  have E1 : ErrK K CInvalidNumber := O1.err bValue hn htk
  have O2 : One K CInvalidNames aE "ValueError.__new__" (tl 2) := ⟨oxInvalidNames, saInvalidNames, tyInvalidNames, kcInvalidNames, gaInvalidNames, ggInvalidNames, exInvalidNames, hdInvalidNames, haInvalidNames, hmInvalidNames, ncInvalidNames⟩
  have E2 : ErrK K CInvalidNames := O2.err bValue hn htk
  have O3 : One K CInvalidLot aE "ValueError.__new__" (tl 3) := ⟨oxInvalidLot, saInvalidLot, tyInvalidLot, kcInvalidLot, gaInvalidLot, ggInvalidLot, exInvalidLot, hdInvalidLot, haInvalidLot, hmInvalidLot, ncInvalidLot⟩
  have E3 : ErrK K CInvalidLot := O3.err bValue hn htk
  have O4 : One K CInvalidRoll aE "ValueError.__new__" (tl 4) := ⟨oxInvalidRoll, saInvalidRoll, tyInvalidRoll, kcInvalidRoll, gaInvalidRoll, ggInvalidRoll, exInvalidRoll, hdInvalidRoll, haInvalidRoll, hmInvalidRoll, ncInvalidRoll⟩
  have E4 : ErrK K CInvalidRoll := O4.err bValue hn htk
  have O5 : One K CInvalidEntry aE "ValueError.__new__" (tl 5) := ⟨oxInvalidEntry, saInvalidEntry, tyInvalidEntry, kcInvalidEntry, gaInvalidEntry, ggInvalidEntry, exInvalidEntry, hdInvalidEntry, haInvalidEntry, hmInvalidEntry, ncInvalidEntry⟩
  have E5 : ErrK K CInvalidEntry := O5.err bValue hn htk
  have O6 : One K CInvalidText aE "ValueError.__new__" (tl 6) := ⟨oxInvalidText, saInvalidText, tyInvalidText, kcInvalidText, gaInvalidText, ggInvalidText, exInvalidText, hdInvalidText, haInvalidText, hmInvalidText, ncInvalidText⟩
  have E6 : ErrK K CInvalidText := O6.err bValue hn htk
  have O7 : One K CBadRule aE "ValueError.__new__" (tl 7) := ⟨oxBadRule, saBadRule, tyBadRule, kcBadRule, gaBadRule, ggBadRule, exBadRule, hdBadRule, haBadRule, hmBadRule, ncBadRule⟩
  have E7 : ErrK K CBadRule := O7.err bValue hn htk
  have O8 : One K CSpoiled aE "ValueError.__new__" (tl 8) := ⟨oxSpoiled, saSpoiled, tySpoiled, kcSpoiled, gaSpoiled, ggSpoiled, exSpoiled, hdSpoiled, haSpoiled, hmSpoiled, ncSpoiled⟩
  have E8 : ErrK K CSpoiled := O8.err bValue hn htk
  have O9 : One K CBadSizes aE "ValueError.__new__" (tl 9) := ⟨oxBadSizes, saBadSizes, tyBadSizes, kcBadSizes, gaBadSizes, ggBadSizes, exBadSizes, hdBadSizes, haBadSizes, hmBadSizes, ncBadSizes⟩
  have E9 : ErrK K CBadSizes := O9.err bValue hn htk
  have O10 : One K CBadStaff aE "ValueError.__new__" (tl 10) := ⟨oxBadStaff, saBadStaff, tyBadStaff, kcBadStaff, gaBadStaff, ggBadStaff, exBadStaff, hdBadStaff, haBadStaff, hmBadStaff, ncBadStaff⟩
  have E10 : ErrK K CBadStaff := O10.err bValue hn htk
  have O11 : One K CTooMany aE "ValueError.__new__" (tl 11) := ⟨oxTooMany, saTooMany, tyTooMany, kcTooMany, gaTooMany, ggTooMany, exTooMany, hdTooMany, haTooMany, hmTooMany, ncTooMany⟩
  have E11 : ErrK K CTooMany := O11.err bValue hn htk
  have O12 : One K CNoName aM "LookupError.__new__" (tl 12) := ⟨oxNoName, saNoName, tyNoName, kcNoName, gaNoName, ggNoName, exNoName, hdNoName, haNoName, hmNoName, ncNoName⟩
  have E12 : ErrK K CNoName := O12.err bLookup hn htk
  have O13 : One K CEnded aL "RuntimeError.__new__" (tl 13) := ⟨oxEnded, saEnded, tyEnded, kcEnded, gaEnded, ggEnded, exEnded, hdEnded, haEnded, hmEnded, ncEnded⟩
  have E13 : ErrK K CEnded := O13.err bRuntime hn htk
  have O14 : One K CClosed aL "RuntimeError.__new__" (tl 14) := ⟨oxClosed, saClosed, tyClosed, kcClosed, gaClosed, ggClosed, exClosed, hdClosed, haClosed, hmClosed, ncClosed⟩
  have E14 : ErrK K CClosed := O14.err bRuntime hn htk
  have T : Errs K mg (cOf [CInvalidName, CInvalidNumber, CInvalidNames, CInvalidLot, CInvalidRoll, CInvalidEntry, CInvalidText, CBadRule, CSpoiled, CBadSizes, CBadStaff, CTooMany, CNoName, CEnded, CClosed, aE, aM, aL]) aE aM aL := {
    g := (by15 (PySem.W.mg_of X G gInvalidName) (PySem.W.mg_of X G gInvalidNumber) (PySem.W.mg_of X G gInvalidNames) (PySem.W.mg_of X G gInvalidLot) (PySem.W.mg_of X G gInvalidRoll) (PySem.W.mg_of X G gInvalidEntry) (PySem.W.mg_of X G gInvalidText) (PySem.W.mg_of X G gBadRule) (PySem.W.mg_of X G gSpoiled) (PySem.W.mg_of X G gBadSizes) (PySem.W.mg_of X G gBadStaff) (PySem.W.mg_of X G gTooMany) (PySem.W.mg_of X G gNoName) (PySem.W.mg_of X G gEnded) (PySem.W.mg_of X G gClosed))
    k := (by15 E0 E1 E2 E3 E4 E5 E6 E7 E8 E9 E10 E11 E12 E13 E14)
    par := (by15 O0.par O1.par O2.par O3.par O4.par O5.par O6.par O7.par O8.par O9.par O10.par O11.par O12.par O13.par O14.par)
    nc := (by15 ncInvalidName ncInvalidNumber ncInvalidNames ncInvalidLot ncInvalidRoll ncInvalidEntry ncInvalidText ncBadRule ncSpoiled ncBadSizes ncBadStaff ncTooMany ncNoName ncEnded ncClosed)
    nf := (by15 (fun x m => by rw [List.mem_singleton.mp m]; exact nfInvalidNamevalue) (fun x m => by rw [List.mem_singleton.mp m]; exact nfInvalidNumbervalue) (fun x m => by rw [List.mem_singleton.mp m]; exact nfInvalidNamesat) (fun x m => by cases m) (fun x m => by rw [List.mem_singleton.mp m]; exact nfInvalidRollat) (fun x m => by rw [List.mem_singleton.mp m]; exact nfInvalidEntryat) (fun x m => (List.mem_cons.mp m).elim (fun e => by rw [e]; exact nfInvalidTextline) (fun m => by rw [List.mem_singleton.mp m]; exact nfInvalidTextwhy)) (fun x m => (List.mem_cons.mp m).elim (fun e => by rw [e]; exact nfBadRuleline) (fun m => by rw [List.mem_singleton.mp m]; exact nfBadRulewhat)) (fun x m => (List.mem_cons.mp m).elim (fun e => by rw [e]; exact nfSpoiledballot) (fun m => by rw [List.mem_singleton.mp m]; exact nfSpoiledwhy)) (fun x m => by rw [List.mem_singleton.mp m]; exact nfBadSizesnumber) (fun x m => by rw [List.mem_singleton.mp m]; exact nfBadStaffbundle) (fun x m => (List.mem_cons.mp m).elim (fun e => by rw [e]; exact nfTooManywhat) (fun m => by rw [List.mem_singleton.mp m]; exact nfTooManymost)) (fun x m => by rw [List.mem_singleton.mp m]; exact nfNoNameword) (fun x m => by cases m) (fun x m => by rw [List.mem_singleton.mp m]; exact nfClosedplace))
    inj := fun i j h h' e => nd_inj nd (by rw [len18]; omega) (by rw [len18]; omega) e
    sE := fun i h e => absurd (nd_inj nd (i := i) (j := 15) (by rw [len18]; omega) (by rw [len18]; omega) e) (by omega)
    sM := fun i h e => absurd (nd_inj nd (i := i) (j := 16) (by rw [len18]; omega) (by rw [len18]; omega) e) (by omega)
    sL := fun i h e => absurd (nd_inj nd (i := i) (j := 17) (by rw [len18]; omega) (by rw [len18]; omega) e) (by omega)
    EM := fun e => absurd (nd_inj nd (i := 15) (j := 16) (by rw [len18]; omega) (by rw [len18]; omega) e) (by omega)
    EL := fun e => absurd (nd_inj nd (i := 15) (j := 17) (by rw [len18]; omega) (by rw [len18]; omega) e) (by omega)
    ML := fun e => absurd (nd_inj nd (i := 16) (j := 17) (by rw [len18]; omega) (by rw [len18]; omega) e) (by omega)
    gE := (PySem.W.mg_of X G naE)
    gM := (PySem.W.mg_of X G naM)
    gL := (PySem.W.mg_of X G naL)
    hE := ⟨hdaE, tyaE, exaE⟩
    hM := ⟨hdaM, tyaM, exaM⟩
    hL := ⟨hdaL, tyaL, exaL⟩ }
  have Kp : Cal l.prog w K mg base "kept" 5 ["value"] (spKept K 4) f0 _ := ⟨ok_kept F0 (PySem.W.mg_of X G a0) B0 m_isinstance m_list m_tuple 4, PySem.W.mg_of X G a0, k0, B0⟩
  obtain ⟨fI, fdI, I⟩ : ∃ (fI : Nat → Addr) (fdI : Nat → FuncData), ∀ i, i < 15 → IniOk l.prog w K mg base (cOf [CInvalidName, CInvalidNumber, CInvalidNames, CInvalidLot, CInvalidRoll, CInvalidEntry, CInvalidText, CBadRule, CSpoiled, CBadSizes, CBadStaff, CTooMany, CNoName, CEnded, CClosed, aE, aM, aL]) i (fI i) (fdI i) := ini_all (by15 ⟨_, _, ini0 (C := cOf [CInvalidName, CInvalidNumber, CInvalidNames, CInvalidLot, CInvalidRoll, CInvalidEntry, CInvalidText, CBadRule, CSpoiled, CBadSizes, CBadStaff, CTooMany, CNoName, CEnded, CClosed, aE, aM, aL]) F1 B1 a1 tfInvalidName E0 ncInvalidName nfInvalidNamevalue Kp⟩ ⟨_, _, ini1 (C := cOf [CInvalidName, CInvalidNumber, CInvalidNames, CInvalidLot, CInvalidRoll, CInvalidEntry, CInvalidText, CBadRule, CSpoiled, CBadSizes, CBadStaff, CTooMany, CNoName, CEnded, CClosed, aE, aM, aL]) F2 B2 a2 tfInvalidNumber E1 ncInvalidNumber nfInvalidNumbervalue Kp⟩ ⟨_, _, ini2 (C := cOf [CInvalidName, CInvalidNumber, CInvalidNames, CInvalidLot, CInvalidRoll, CInvalidEntry, CInvalidText, CBadRule, CSpoiled, CBadSizes, CBadStaff, CTooMany, CNoName, CEnded, CClosed, aE, aM, aL]) F3 B3 a3 tfInvalidNames E2 ncInvalidNames nfInvalidNamesat Kp⟩ ⟨_, _, ini3 (C := cOf [CInvalidName, CInvalidNumber, CInvalidNames, CInvalidLot, CInvalidRoll, CInvalidEntry, CInvalidText, CBadRule, CSpoiled, CBadSizes, CBadStaff, CTooMany, CNoName, CEnded, CClosed, aE, aM, aL]) F4 B4 a4 tfInvalidLot E3 ncInvalidLot⟩ ⟨_, _, ini4 (C := cOf [CInvalidName, CInvalidNumber, CInvalidNames, CInvalidLot, CInvalidRoll, CInvalidEntry, CInvalidText, CBadRule, CSpoiled, CBadSizes, CBadStaff, CTooMany, CNoName, CEnded, CClosed, aE, aM, aL]) F5 B5 a5 tfInvalidRoll E4 ncInvalidRoll nfInvalidRollat Kp⟩ ⟨_, _, ini5 (C := cOf [CInvalidName, CInvalidNumber, CInvalidNames, CInvalidLot, CInvalidRoll, CInvalidEntry, CInvalidText, CBadRule, CSpoiled, CBadSizes, CBadStaff, CTooMany, CNoName, CEnded, CClosed, aE, aM, aL]) F6 B6 a6 tfInvalidEntry E5 ncInvalidEntry nfInvalidEntryat Kp⟩ ⟨_, _, ini6 (C := cOf [CInvalidName, CInvalidNumber, CInvalidNames, CInvalidLot, CInvalidRoll, CInvalidEntry, CInvalidText, CBadRule, CSpoiled, CBadSizes, CBadStaff, CTooMany, CNoName, CEnded, CClosed, aE, aM, aL]) F7 B7 a7 tfInvalidText E6 ncInvalidText nfInvalidTextline nfInvalidTextwhy Kp⟩ ⟨_, _, ini7 (C := cOf [CInvalidName, CInvalidNumber, CInvalidNames, CInvalidLot, CInvalidRoll, CInvalidEntry, CInvalidText, CBadRule, CSpoiled, CBadSizes, CBadStaff, CTooMany, CNoName, CEnded, CClosed, aE, aM, aL]) F8 B8 a8 tfBadRule E7 ncBadRule nfBadRuleline nfBadRulewhat Kp⟩ ⟨_, _, ini8 (C := cOf [CInvalidName, CInvalidNumber, CInvalidNames, CInvalidLot, CInvalidRoll, CInvalidEntry, CInvalidText, CBadRule, CSpoiled, CBadSizes, CBadStaff, CTooMany, CNoName, CEnded, CClosed, aE, aM, aL]) F9 B9 a9 tfSpoiled E8 ncSpoiled nfSpoiledballot nfSpoiledwhy Kp⟩ ⟨_, _, ini9 (C := cOf [CInvalidName, CInvalidNumber, CInvalidNames, CInvalidLot, CInvalidRoll, CInvalidEntry, CInvalidText, CBadRule, CSpoiled, CBadSizes, CBadStaff, CTooMany, CNoName, CEnded, CClosed, aE, aM, aL]) F10 B10 a10 tfBadSizes E9 ncBadSizes nfBadSizesnumber Kp⟩ ⟨_, _, ini10 (C := cOf [CInvalidName, CInvalidNumber, CInvalidNames, CInvalidLot, CInvalidRoll, CInvalidEntry, CInvalidText, CBadRule, CSpoiled, CBadSizes, CBadStaff, CTooMany, CNoName, CEnded, CClosed, aE, aM, aL]) F11 B11 a11 tfBadStaff E10 ncBadStaff nfBadStaffbundle Kp⟩ ⟨_, _, ini11 (C := cOf [CInvalidName, CInvalidNumber, CInvalidNames, CInvalidLot, CInvalidRoll, CInvalidEntry, CInvalidText, CBadRule, CSpoiled, CBadSizes, CBadStaff, CTooMany, CNoName, CEnded, CClosed, aE, aM, aL]) F12 B12 a12 tfTooMany E11 ncTooMany nfTooManywhat nfTooManymost Kp⟩ ⟨_, _, ini12 (C := cOf [CInvalidName, CInvalidNumber, CInvalidNames, CInvalidLot, CInvalidRoll, CInvalidEntry, CInvalidText, CBadRule, CSpoiled, CBadSizes, CBadStaff, CTooMany, CNoName, CEnded, CClosed, aE, aM, aL]) F13 B13 a13 tfNoName E12 ncNoName nfNoNameword Kp⟩ ⟨_, _, ini13 (C := cOf [CInvalidName, CInvalidNumber, CInvalidNames, CInvalidLot, CInvalidRoll, CInvalidEntry, CInvalidText, CBadRule, CSpoiled, CBadSizes, CBadStaff, CTooMany, CNoName, CEnded, CClosed, aE, aM, aL]) F14 B14 a14 tfEnded E13 ncEnded⟩ ⟨_, _, ini14 (C := cOf [CInvalidName, CInvalidNumber, CInvalidNames, CInvalidLot, CInvalidRoll, CInvalidEntry, CInvalidText, CBadRule, CSpoiled, CBadSizes, CBadStaff, CTooMany, CNoName, CEnded, CClosed, aE, aM, aL]) F15 B15 a15 tfClosed E14 ncClosed nfClosedplace Kp⟩) (PySem.W.fnOf "law" "law" (defArgs sLaw) (defBody sLaw) (defScope sLaw) .none .none .none .none none .none .none)
  have Ba : Cal l.prog w K mg base "_law_bag" 1 ["script"] (spBag K) f16 _ := ⟨ok_bag (k := 0) F16 m_int m_list, PySem.W.mg_of X G a16, k16, B16⟩
  have D : Cal l.prog w K mg base "_law_draw" 1 ["bag", "size"] (spDrawC K) f17 _ := ⟨ok_drawC (k := 0) F17 m_int m_len, PySem.W.mg_of X G a17, k17, B17⟩
  have O : Cal l.prog w K mg base "_law_of" 2 ["bag", "things"] (spOfC K) f18 _ := ⟨ok_ofC (k := 0) F18 D m_len, PySem.W.mg_of X G a18, k18, B18⟩
  have Li : Cal l.prog w K mg base "_law_like" 6 ["told", "due"] (spLike K 5) f19 _ := ⟨ok_like F19 (PySem.W.mg_of X G a19) B19 m_isinstance m_list m_tuple m_bool m_str m_int m_len m_all m_zip 5, PySem.W.mg_of X G a19, k19, B19⟩
  have Cd : Cal l.prog w K mg base "_law_codes" 1 [] spCodes f20 _ := ⟨ok_codes (k := 0) F20, PySem.W.mg_of X G a20, k20, B20⟩
  have Bp : Cal l.prog w K mg base "_law_by_place" 8 ["a", "b"] (spMakeAll K (cOf [CInvalidName, CInvalidNumber, CInvalidNames, CInvalidLot, CInvalidRoll, CInvalidEntry, CInvalidText, CBadRule, CSpoiled, CBadSizes, CBadStaff, CTooMany, CNoName, CEnded, CClosed, aE, aM, aL])) f21 _ := ⟨ok_by_place F21 T I, PySem.W.mg_of X G a21, k21, B21⟩
  have Bn : Cal l.prog w K mg base "_law_by_name" 8 ["a", "b"] (spMakeAll K (cOf [CInvalidName, CInvalidNumber, CInvalidNames, CInvalidLot, CInvalidRoll, CInvalidEntry, CInvalidText, CBadRule, CSpoiled, CBadSizes, CBadStaff, CTooMany, CNoName, CEnded, CClosed, aE, aM, aL])) f22 _ := ⟨ok_by_name F22 T I, PySem.W.mg_of X G a22, k22, B22⟩
  have Va : Cal l.prog w K mg base "_law_values" 1 ["e"] (spValues K (cOf [CInvalidName, CInvalidNumber, CInvalidNames, CInvalidLot, CInvalidRoll, CInvalidEntry, CInvalidText, CBadRule, CSpoiled, CBadSizes, CBadStaff, CTooMany, CNoName, CEnded, CClosed, aE, aM, aL])) f23 _ := ⟨ok_values (k := 0) F23 T m_isinstance, PySem.W.mg_of X G a23, k23, B23⟩
  have VP : FnP l.prog w K mg base CX0 1 f23 _ ["e"] (spValuesP K (cOf [CInvalidName, CInvalidNumber, CInvalidNames, CInvalidLot, CInvalidRoll, CInvalidEntry, CInvalidText, CBadRule, CSpoiled, CBadSizes, CBadStaff, CTooMany, CNoName, CEnded, CClosed, aE, aM, aL])) := ok_valuesP (k := 0) F23 T m_isinstance
  have Ki : Cal l.prog w K mg base "_law_kinds" 1 ["e"] (spKinds K (cOf [CInvalidName, CInvalidNumber, CInvalidNames, CInvalidLot, CInvalidRoll, CInvalidEntry, CInvalidText, CBadRule, CSpoiled, CBadSizes, CBadStaff, CTooMany, CNoName, CEnded, CClosed, aE, aM, aL])) f24 _ := ⟨ok_kinds (k := 0) F24 T m_isinstance, PySem.W.mg_of X G a24, k24, B24⟩
  have Bs : Cal l.prog w K mg base "_law_bases" 1 ["e"] (spBases K (cOf [CInvalidName, CInvalidNumber, CInvalidNames, CInvalidLot, CInvalidRoll, CInvalidEntry, CInvalidText, CBadRule, CSpoiled, CBadSizes, CBadStaff, CTooMany, CNoName, CEnded, CClosed, aE, aM, aL])) f25 _ := ⟨ok_bases (k := 0) F25 T m_isinstance m_ValueError m_LookupError m_RuntimeError, PySem.W.mg_of X G a25, k25, B25⟩
  have Ca : Cal l.prog w K mg base "_law_caught" 8 ["k", "a", "b"] (spCaught K) f26 _ := ⟨ok_caught F26 T I VP (PySem.W.mg_of X G a23) k23 B23, PySem.W.mg_of X G a26, k26, B26⟩
  have Th : Cal l.prog w K mg base "_law_thing" 3 ["bag"] (spThing K) f27 _ := ⟨ok_thing F27 D O, PySem.W.mg_of X G a27, k27, B27⟩
  have Du : Cal l.prog w K mg base "_law_due" 1 ["k", "a", "b"] spDue f28 _ := ⟨ok_due (k := 0) F28, PySem.W.mg_of X G a28, k28, B28⟩
  exact ok_law F29 T Ba Th Li Cd Bp Bn Va Ki Bs Ca Du m_range m_int
end My
open PySem PySem.W PyProof.Rows
set_option maxRecDepth 100000 in
set_option maxHeartbeats 0 in
theorem PySem.Challenge.cw_soleheld_k00_errors_by_themselves_holds : PySem.Challenge.rw_soleheld_k00_errors_by_themselves.Holds := by
  w_on; o_law; k_head; (case hw => w_witness2)
  k_fill
  refine L2.walk_of (l := PySem.Challenge.rw_soleheld_k00_errors_by_themselves) (n := 63) (k := 9) (x := "script") (CX := fun _ => L2.CX0) (sp := fun w => My.spLaw _) rfl (by decide) rfl ⟨rfl, by decide, by decide⟩ (fun w h Y => PySem.W.kIn_of Y) ?F (fun _ _ a ns hl _ hS => ⟨a, ns, rfl, hS, hl, fun _ => rfl⟩) (fun _ _ _ _ _ h => h)
  case F =>
    intro w mg fa h KX G hmg
    refine' My.all_mk KX G hmg ?a0 ?l0 ?c0 ?k0 ?a1 ?i1 ?l1 ?c1 ?k1 ?a2 ?i2 ?l2 ?c2 ?k2 ?a3 ?i3 ?l3 ?c3 ?k3 ?a4 ?i4 ?l4 ?c4 ?k4 ?a5 ?i5 ?l5 ?c5 ?k5 ?a6 ?i6 ?l6 ?c6 ?k6 ?a7 ?i7 ?l7 ?c7 ?k7 ?a8 ?i8 ?l8 ?c8 ?k8 ?a9 ?i9 ?l9 ?c9 ?k9 ?a10 ?i10 ?l10 ?c10 ?k10 ?a11 ?i11 ?l11 ?c11 ?k11 ?a12 ?i12 ?l12 ?c12 ?k12 ?a13 ?i13 ?l13 ?c13 ?k13 ?a14 ?i14 ?l14 ?c14 ?k14 ?a15 ?i15 ?l15 ?c15 ?k15 ?a16 ?l16 ?c16 ?k16 ?a17 ?l17 ?c17 ?k17 ?a18 ?l18 ?c18 ?k18 ?a19 ?l19 ?c19 ?k19 ?a20 ?l20 ?c20 ?k20 ?a21 ?l21 ?c21 ?k21 ?a22 ?l22 ?c22 ?k22 ?a23 ?l23 ?c23 ?k23 ?a24 ?l24 ?c24 ?k24 ?a25 ?l25 ?c25 ?k25 ?a26 ?l26 ?c26 ?k26 ?a27 ?l27 ?c27 ?k27 ?a28 ?l28 ?c28 ?k28 ?a29 ?l29 ?c29 ?k29 ?naE ?hdaE ?tyaE ?exaE ?naM ?hdaM ?tyaM ?exaM ?naL ?hdaL ?tyaL ?exaL ?gInvalidName ?oxInvalidName ?saInvalidName ?tyInvalidName ?kcInvalidName ?gaInvalidName ?ggInvalidName ?exInvalidName ?hdInvalidName ?haInvalidName ?hmInvalidName ?ncInvalidName ?nfInvalidNamevalue ?tfInvalidName ?gInvalidNumber ?oxInvalidNumber ?saInvalidNumber ?tyInvalidNumber ?kcInvalidNumber ?gaInvalidNumber ?ggInvalidNumber ?exInvalidNumber ?hdInvalidNumber ?haInvalidNumber ?hmInvalidNumber ?ncInvalidNumber ?nfInvalidNumbervalue ?tfInvalidNumber ?gInvalidNames ?oxInvalidNames ?saInvalidNames ?tyInvalidNames ?kcInvalidNames ?gaInvalidNames ?ggInvalidNames ?exInvalidNames ?hdInvalidNames ?haInvalidNames ?hmInvalidNames ?ncInvalidNames ?nfInvalidNamesat ?tfInvalidNames ?gInvalidLot ?oxInvalidLot ?saInvalidLot ?tyInvalidLot ?kcInvalidLot ?gaInvalidLot ?ggInvalidLot ?exInvalidLot ?hdInvalidLot ?haInvalidLot ?hmInvalidLot ?ncInvalidLot ?tfInvalidLot ?gInvalidRoll ?oxInvalidRoll ?saInvalidRoll ?tyInvalidRoll ?kcInvalidRoll ?gaInvalidRoll ?ggInvalidRoll ?exInvalidRoll ?hdInvalidRoll ?haInvalidRoll ?hmInvalidRoll ?ncInvalidRoll ?nfInvalidRollat ?tfInvalidRoll ?gInvalidEntry ?oxInvalidEntry ?saInvalidEntry ?tyInvalidEntry ?kcInvalidEntry ?gaInvalidEntry ?ggInvalidEntry ?exInvalidEntry ?hdInvalidEntry ?haInvalidEntry ?hmInvalidEntry ?ncInvalidEntry ?nfInvalidEntryat ?tfInvalidEntry ?gInvalidText ?oxInvalidText ?saInvalidText ?tyInvalidText ?kcInvalidText ?gaInvalidText ?ggInvalidText ?exInvalidText ?hdInvalidText ?haInvalidText ?hmInvalidText ?ncInvalidText ?nfInvalidTextline ?nfInvalidTextwhy ?tfInvalidText ?gBadRule ?oxBadRule ?saBadRule ?tyBadRule ?kcBadRule ?gaBadRule ?ggBadRule ?exBadRule ?hdBadRule ?haBadRule ?hmBadRule ?ncBadRule ?nfBadRuleline ?nfBadRulewhat ?tfBadRule ?gSpoiled ?oxSpoiled ?saSpoiled ?tySpoiled ?kcSpoiled ?gaSpoiled ?ggSpoiled ?exSpoiled ?hdSpoiled ?haSpoiled ?hmSpoiled ?ncSpoiled ?nfSpoiledballot ?nfSpoiledwhy ?tfSpoiled ?gBadSizes ?oxBadSizes ?saBadSizes ?tyBadSizes ?kcBadSizes ?gaBadSizes ?ggBadSizes ?exBadSizes ?hdBadSizes ?haBadSizes ?hmBadSizes ?ncBadSizes ?nfBadSizesnumber ?tfBadSizes ?gBadStaff ?oxBadStaff ?saBadStaff ?tyBadStaff ?kcBadStaff ?gaBadStaff ?ggBadStaff ?exBadStaff ?hdBadStaff ?haBadStaff ?hmBadStaff ?ncBadStaff ?nfBadStaffbundle ?tfBadStaff ?gTooMany ?oxTooMany ?saTooMany ?tyTooMany ?kcTooMany ?gaTooMany ?ggTooMany ?exTooMany ?hdTooMany ?haTooMany ?hmTooMany ?ncTooMany ?nfTooManywhat ?nfTooManymost ?tfTooMany ?gNoName ?oxNoName ?saNoName ?tyNoName ?kcNoName ?gaNoName ?ggNoName ?exNoName ?hdNoName ?haNoName ?hmNoName ?ncNoName ?nfNoNameword ?tfNoName ?gEnded ?oxEnded ?saEnded ?tyEnded ?kcEnded ?gaEnded ?ggEnded ?exEnded ?hdEnded ?haEnded ?hmEnded ?ncEnded ?tfEnded ?gClosed ?oxClosed ?saClosed ?tyClosed ?kcClosed ?gaClosed ?ggClosed ?exClosed ?hdClosed ?haClosed ?hmClosed ?ncClosed ?nfClosedplace ?tfClosed ?hn ?htk ?nd ?b_int ?b_list ?b_len ?b_isinstance ?b_tuple ?b_bool ?b_str ?b_all ?b_zip ?b_range ?b_ValueError ?b_LookupError ?b_RuntimeError
    (case naE => k_is)
    (case naM => k_is)
    (case naL => k_is)
    (case gInvalidName => k_is)
    (case gInvalidNumber => k_is)
    (case gInvalidNames => k_is)
    (case gInvalidLot => k_is)
    (case gInvalidRoll => k_is)
    (case gInvalidEntry => k_is)
    (case gInvalidText => k_is)
    (case gBadRule => k_is)
    (case gSpoiled => k_is)
    (case gBadSizes => k_is)
    (case gBadStaff => k_is)
    (case gTooMany => k_is)
    (case gNoName => k_is)
    (case gEnded => k_is)
    (case gClosed => k_is)
    (case a0 => k_is)
    (case l0 => k_is)
    (case c0 => k_is)
    (case k0 => k_is)
    (case a1 => k_is)
    (case i1 => k_is)
    (case l1 => k_is)
    (case c1 => k_is)
    (case k1 => k_is)
    (case a2 => k_is)
    (case i2 => k_is)
    (case l2 => k_is)
    (case c2 => k_is)
    (case k2 => k_is)
    (case a3 => k_is)
    (case i3 => k_is)
    (case l3 => k_is)
    (case c3 => k_is)
    (case k3 => k_is)
    (case a4 => k_is)
    (case i4 => k_is)
    (case l4 => k_is)
    (case c4 => k_is)
    (case k4 => k_is)
    (case a5 => k_is)
    (case i5 => k_is)
    (case l5 => k_is)
    (case c5 => k_is)
    (case k5 => k_is)
    (case a6 => k_is)
    (case i6 => k_is)
    (case l6 => k_is)
    (case c6 => k_is)
    (case k6 => k_is)
    (case a7 => k_is)
    (case i7 => k_is)
    (case l7 => k_is)
    (case c7 => k_is)
    (case k7 => k_is)
    (case a8 => k_is)
    (case i8 => k_is)
    (case l8 => k_is)
    (case c8 => k_is)
    (case k8 => k_is)
    (case a9 => k_is)
    (case i9 => k_is)
    (case l9 => k_is)
    (case c9 => k_is)
    (case k9 => k_is)
    (case a10 => k_is)
    (case i10 => k_is)
    (case l10 => k_is)
    (case c10 => k_is)
    (case k10 => k_is)
    (case a11 => k_is)
    (case i11 => k_is)
    (case l11 => k_is)
    (case c11 => k_is)
    (case k11 => k_is)
    (case a12 => k_is)
    (case i12 => k_is)
    (case l12 => k_is)
    (case c12 => k_is)
    (case k12 => k_is)
    (case a13 => k_is)
    (case i13 => k_is)
    (case l13 => k_is)
    (case c13 => k_is)
    (case k13 => k_is)
    (case a14 => k_is)
    (case i14 => k_is)
    (case l14 => k_is)
    (case c14 => k_is)
    (case k14 => k_is)
    (case a15 => k_is)
    (case i15 => k_is)
    (case l15 => k_is)
    (case c15 => k_is)
    (case k15 => k_is)
    (case a16 => k_is)
    (case l16 => k_is)
    (case c16 => k_is)
    (case k16 => k_is)
    (case a17 => k_is)
    (case l17 => k_is)
    (case c17 => k_is)
    (case k17 => k_is)
    (case a18 => k_is)
    (case l18 => k_is)
    (case c18 => k_is)
    (case k18 => k_is)
    (case a19 => k_is)
    (case l19 => k_is)
    (case c19 => k_is)
    (case k19 => k_is)
    (case a20 => k_is)
    (case l20 => k_is)
    (case c20 => k_is)
    (case k20 => k_is)
    (case a21 => k_is)
    (case l21 => k_is)
    (case c21 => k_is)
    (case k21 => k_is)
    (case a22 => k_is)
    (case l22 => k_is)
    (case c22 => k_is)
    (case k22 => k_is)
    (case a23 => k_is)
    (case l23 => k_is)
    (case c23 => k_is)
    (case k23 => k_is)
    (case a24 => k_is)
    (case l24 => k_is)
    (case c24 => k_is)
    (case k24 => k_is)
    (case a25 => k_is)
    (case l25 => k_is)
    (case c25 => k_is)
    (case k25 => k_is)
    (case a26 => k_is)
    (case l26 => k_is)
    (case c26 => k_is)
    (case k26 => k_is)
    (case a27 => k_is)
    (case l27 => k_is)
    (case c27 => k_is)
    (case k27 => k_is)
    (case a28 => k_is)
    (case l28 => k_is)
    (case c28 => k_is)
    (case k28 => k_is)
    (case a29 => k_is)
    (case l29 => k_is)
    (case c29 => k_is)
    (case k29 => k_is)
    (case hdaE => k_is)
    (case tyaE => k_is)
    (case exaE => k_is)
    (case hdaM => k_is)
    (case tyaM => k_is)
    (case exaM => k_is)
    (case hdaL => k_is)
    (case tyaL => k_is)
    (case exaL => k_is)
    (case oxInvalidName => exact ⟨_, _, _, _, _, _, _, _, _, _, _, _, _, _, (by k_is)⟩)
    (case saInvalidName => k_is)
    (case tyInvalidName => k_is)
    (case kcInvalidName => k_is)
    (case gaInvalidName => k_is)
    (case ggInvalidName => k_is)
    (case exInvalidName => k_is)
    (case hdInvalidName => k_is)
    (case haInvalidName => k_is)
    (case hmInvalidName => k_is)
    (case ncInvalidName => k_is)
    (case nfInvalidNamevalue => k_is)
    (case tfInvalidName => k_is)
    (case oxInvalidNumber => exact ⟨_, _, _, _, _, _, _, _, _, _, _, _, _, _, (by k_is)⟩)
    (case saInvalidNumber => k_is)
    (case tyInvalidNumber => k_is)
    (case kcInvalidNumber => k_is)
    (case gaInvalidNumber => k_is)
    (case ggInvalidNumber => k_is)
    (case exInvalidNumber => k_is)
    (case hdInvalidNumber => k_is)
    (case haInvalidNumber => k_is)
    (case hmInvalidNumber => k_is)
    (case ncInvalidNumber => k_is)
    (case nfInvalidNumbervalue => k_is)
    (case tfInvalidNumber => k_is)
    (case oxInvalidNames => exact ⟨_, _, _, _, _, _, _, _, _, _, _, _, _, _, (by k_is)⟩)
    (case saInvalidNames => k_is)
    (case tyInvalidNames => k_is)
    (case kcInvalidNames => k_is)
    (case gaInvalidNames => k_is)
    (case ggInvalidNames => k_is)
    (case exInvalidNames => k_is)
    (case hdInvalidNames => k_is)
    (case haInvalidNames => k_is)
    (case hmInvalidNames => k_is)
    (case ncInvalidNames => k_is)
    (case nfInvalidNamesat => k_is)
    (case tfInvalidNames => k_is)
    (case oxInvalidLot => exact ⟨_, _, _, _, _, _, _, _, _, _, _, _, _, _, (by k_is)⟩)
    (case saInvalidLot => k_is)
    (case tyInvalidLot => k_is)
    (case kcInvalidLot => k_is)
    (case gaInvalidLot => k_is)
    (case ggInvalidLot => k_is)
    (case exInvalidLot => k_is)
    (case hdInvalidLot => k_is)
    (case haInvalidLot => k_is)
    (case hmInvalidLot => k_is)
    (case ncInvalidLot => k_is)
    (case tfInvalidLot => k_is)
    (case oxInvalidRoll => exact ⟨_, _, _, _, _, _, _, _, _, _, _, _, _, _, (by k_is)⟩)
    (case saInvalidRoll => k_is)
    (case tyInvalidRoll => k_is)
    (case kcInvalidRoll => k_is)
    (case gaInvalidRoll => k_is)
    (case ggInvalidRoll => k_is)
    (case exInvalidRoll => k_is)
    (case hdInvalidRoll => k_is)
    (case haInvalidRoll => k_is)
    (case hmInvalidRoll => k_is)
    (case ncInvalidRoll => k_is)
    (case nfInvalidRollat => k_is)
    (case tfInvalidRoll => k_is)
    (case oxInvalidEntry => exact ⟨_, _, _, _, _, _, _, _, _, _, _, _, _, _, (by k_is)⟩)
    (case saInvalidEntry => k_is)
    (case tyInvalidEntry => k_is)
    (case kcInvalidEntry => k_is)
    (case gaInvalidEntry => k_is)
    (case ggInvalidEntry => k_is)
    (case exInvalidEntry => k_is)
    (case hdInvalidEntry => k_is)
    (case haInvalidEntry => k_is)
    (case hmInvalidEntry => k_is)
    (case ncInvalidEntry => k_is)
    (case nfInvalidEntryat => k_is)
    (case tfInvalidEntry => k_is)
    (case oxInvalidText => exact ⟨_, _, _, _, _, _, _, _, _, _, _, _, _, _, (by k_is)⟩)
    (case saInvalidText => k_is)
    (case tyInvalidText => k_is)
    (case kcInvalidText => k_is)
    (case gaInvalidText => k_is)
    (case ggInvalidText => k_is)
    (case exInvalidText => k_is)
    (case hdInvalidText => k_is)
    (case haInvalidText => k_is)
    (case hmInvalidText => k_is)
    (case ncInvalidText => k_is)
    (case nfInvalidTextline => k_is)
    (case nfInvalidTextwhy => k_is)
    (case tfInvalidText => k_is)
    (case oxBadRule => exact ⟨_, _, _, _, _, _, _, _, _, _, _, _, _, _, (by k_is)⟩)
    (case saBadRule => k_is)
    (case tyBadRule => k_is)
    (case kcBadRule => k_is)
    (case gaBadRule => k_is)
    (case ggBadRule => k_is)
    (case exBadRule => k_is)
    (case hdBadRule => k_is)
    (case haBadRule => k_is)
    (case hmBadRule => k_is)
    (case ncBadRule => k_is)
    (case nfBadRuleline => k_is)
    (case nfBadRulewhat => k_is)
    (case tfBadRule => k_is)
    (case oxSpoiled => exact ⟨_, _, _, _, _, _, _, _, _, _, _, _, _, _, (by k_is)⟩)
    (case saSpoiled => k_is)
    (case tySpoiled => k_is)
    (case kcSpoiled => k_is)
    (case gaSpoiled => k_is)
    (case ggSpoiled => k_is)
    (case exSpoiled => k_is)
    (case hdSpoiled => k_is)
    (case haSpoiled => k_is)
    (case hmSpoiled => k_is)
    (case ncSpoiled => k_is)
    (case nfSpoiledballot => k_is)
    (case nfSpoiledwhy => k_is)
    (case tfSpoiled => k_is)
    (case oxBadSizes => exact ⟨_, _, _, _, _, _, _, _, _, _, _, _, _, _, (by k_is)⟩)
    (case saBadSizes => k_is)
    (case tyBadSizes => k_is)
    (case kcBadSizes => k_is)
    (case gaBadSizes => k_is)
    (case ggBadSizes => k_is)
    (case exBadSizes => k_is)
    (case hdBadSizes => k_is)
    (case haBadSizes => k_is)
    (case hmBadSizes => k_is)
    (case ncBadSizes => k_is)
    (case nfBadSizesnumber => k_is)
    (case tfBadSizes => k_is)
    (case oxBadStaff => exact ⟨_, _, _, _, _, _, _, _, _, _, _, _, _, _, (by k_is)⟩)
    (case saBadStaff => k_is)
    (case tyBadStaff => k_is)
    (case kcBadStaff => k_is)
    (case gaBadStaff => k_is)
    (case ggBadStaff => k_is)
    (case exBadStaff => k_is)
    (case hdBadStaff => k_is)
    (case haBadStaff => k_is)
    (case hmBadStaff => k_is)
    (case ncBadStaff => k_is)
    (case nfBadStaffbundle => k_is)
    (case tfBadStaff => k_is)
    (case oxTooMany => exact ⟨_, _, _, _, _, _, _, _, _, _, _, _, _, _, (by k_is)⟩)
    (case saTooMany => k_is)
    (case tyTooMany => k_is)
    (case kcTooMany => k_is)
    (case gaTooMany => k_is)
    (case ggTooMany => k_is)
    (case exTooMany => k_is)
    (case hdTooMany => k_is)
    (case haTooMany => k_is)
    (case hmTooMany => k_is)
    (case ncTooMany => k_is)
    (case nfTooManywhat => k_is)
    (case nfTooManymost => k_is)
    (case tfTooMany => k_is)
    (case oxNoName => exact ⟨_, _, _, _, _, _, _, _, _, _, _, _, _, _, (by k_is)⟩)
    (case saNoName => k_is)
    (case tyNoName => k_is)
    (case kcNoName => k_is)
    (case gaNoName => k_is)
    (case ggNoName => k_is)
    (case exNoName => k_is)
    (case hdNoName => k_is)
    (case haNoName => k_is)
    (case hmNoName => k_is)
    (case ncNoName => k_is)
    (case nfNoNameword => k_is)
    (case tfNoName => k_is)
    (case oxEnded => exact ⟨_, _, _, _, _, _, _, _, _, _, _, _, _, _, (by k_is)⟩)
    (case saEnded => k_is)
    (case tyEnded => k_is)
    (case kcEnded => k_is)
    (case gaEnded => k_is)
    (case ggEnded => k_is)
    (case exEnded => k_is)
    (case hdEnded => k_is)
    (case haEnded => k_is)
    (case hmEnded => k_is)
    (case ncEnded => k_is)
    (case tfEnded => k_is)
    (case oxClosed => exact ⟨_, _, _, _, _, _, _, _, _, _, _, _, _, _, (by k_is)⟩)
    (case saClosed => k_is)
    (case tyClosed => k_is)
    (case kcClosed => k_is)
    (case gaClosed => k_is)
    (case ggClosed => k_is)
    (case exClosed => k_is)
    (case hdClosed => k_is)
    (case haClosed => k_is)
    (case hmClosed => k_is)
    (case ncClosed => k_is)
    (case nfClosedplace => k_is)
    (case tfClosed => k_is)
    (case hn => k_is)
    (case htk => k_is)
    (case nd => decide +kernel)
    (case b_int => k_is)
    (case b_list => k_is)
    (case b_len => k_is)
    (case b_isinstance => k_is)
    (case b_tuple => k_is)
    (case b_bool => k_is)
    (case b_str => k_is)
    (case b_all => k_is)
    (case b_zip => k_is)
    (case b_range => k_is)
    (case b_ValueError => k_is)
    (case b_LookupError => k_is)
    (case b_RuntimeError => k_is)
#print axioms PySem.Challenge.cw_soleheld_k00_errors_by_themselves_holds

