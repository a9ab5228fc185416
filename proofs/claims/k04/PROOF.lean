import PyProof.Rows.All
import Wide.All
import OpenK.AllK
import Wide.FinOn
import HandS.ForMost
import HandS.FStr
import HandS.Wide
import HandS.Gcd
import HandS.IsInst
import HandS.Defaults
import HandS.Zip
import HandS.Walk
import HandS.Codes
import HandS.StrMore
import HandS.Style
import HandS.Evl
import PySem.Challenge.RW_soleheld_k04_markings_listed
import HandS.ExcInit
import HandS.ExcField
import HandS.ExcIs
import HandS.ExcCtx
import HandS.ExcInitHot
import HandS.HotCalls
import HandS.TryMany
import HandS.MakeKw
import HandS.MakeKwOnly
import KE.KExcInit
import PyProof.ExcBaseAll.LookupError
import PyProof.ExcBaseAll.RuntimeError
import KE.KIsAll
import KE.KTryMore
import HandS.SortRule
import HandS.NamedTupSort
import HandS.SortInts
import HandS.TupAny
import HandS.Strs
import HandS.List
import HandS.ReCall
import KE.KCallOwn
import PyProof.EqKinds
import HandS.TupMul
set_option Elab.async false
set_option linter.all false
set_option maxRecDepth 100000
namespace My
open PySem PySem.Spec PyProof.Rows L2
/-! ### operators upon whole numbers of any size -/
section
variable {X : Cx}
theorem op_mulG : OpR X (binaryOp .Mult) (rI IntMulOk fun i j => .int (i * j)) := opI fun _ _ _ _ _ _ _ hc q => mul_int q hc
def CDivS (_ j : Int) : Prop := j ≠ 0 ∧ j.natAbs.log2 < 9000
theorem op_divS : OpR X (binaryOp .FloorDiv) (rI CDivS fun i j => .int (i.fdiv j)) := opI fun _ _ _ _ _ _ _ hc q => floordiv_int hc.1 q (.inl (PyProof.noPylong_of_log2 hc.2))
def CPowG (i j : Int) : Prop := 0 ≤ j ∧ (Builtin.Int.intBits i : Int) * j ≤ 2 ^ 27
theorem op_powG : OpR X (binaryOp .Pow) (rI CPowG fun i j => .int (i ^ j.toNat)) := opI fun _ _ _ _ _ _ _ hc q => pow_int hc.1 hc.2 q
end
/-- a def that stands at a module's name and keeps its promise -/
structure Cal (P : Program) (w : World) (K : PySem.W.Frag) (mg : Str → Option Value) (base : Heap) (x : Str) (k : Nat) (ps : List Str) (sp : Sp) (f : Addr) (fd : FuncData) : Prop where
  ok : FnOk P w K mg base CX0 k f fd ps sp
  g : mg x = some (.ref f)
  kp : PySem.W.keepIn K (.ref f) = true
  b : Binds K fd ps []
theorem same_upd {H : Hp} {p : Addr} {o : HO} (h : H p = none) : Same H (upd H p o) := fun b x e => by
  rw [upd_ne (ne_of_none e h)]
  exact e
/-! ### the bag -/
/-- a bag at b: its numbers at c, the rest bounded -/
structure BagIs (K : PySem.W.Frag) (H : Hp) (b c : Addr) (ns : List Int) (i : Nat) (g x n : Int) : Prop where
  ob : H b = some (.lst [.ref c, .int i, .int g, .int x, .int n])
  sq : SqL K H c (ns.map V.int)
  cb : c ≠ b
  hi : i ≤ ns.length
  x0 : 0 ≤ x
  x1 : x < 4294967296
def BagC (K : PySem.W.Frag) (H : Hp) (b c : Addr) (ns : List Int) : Prop := ∃ i g x n, BagIs K H b c ns i g x n
def BagAt (K : PySem.W.Frag) (H : Hp) (b : Addr) : Prop := ∃ c ns i g x n, BagIs K H b c ns i g x n
/-- what stands stays, but for what stands at b -/
def But (b : Addr) (H H' : Hp) : Prop := ∀ p o, p ≠ b → H p = some o → H' p = some o
theorem But.refl {b : Addr} {H : Hp} : But b H H := fun _ _ _ h => h
theorem But.trans {b : Addr} {H H1 H2 : Hp} (x : But b H H1) (y : But b H1 H2) : But b H H2 := fun p o n h => y p o n (x p o n h)
theorem But.upd {b : Addr} {H : Hp} {o : HO} : But b H (upd H b o) := fun p u n h => by rw [upd_ne n]; exact h
theorem But.of {b : Addr} {H H' : Hp} (s : Same H H') : But b H H' := fun p o _ h => s p o h
theorem But.seq {K : PySem.W.Frag} {b p : Addr} {H H' : Hp} {xs : List V} (h : But b H H') (n : p ≠ b) (s : SqL K H p xs) : SqL K H' p xs := by
  rcases s with (s | ⟨o, s⟩) | s
  · exact .inl (.inl (h _ _ n s))
  · exact .inl (.inr ⟨o, h _ _ n s⟩)
  · exact .inr s
theorem But.seqT {K : PySem.W.Frag} {b p : Addr} {H H' : Hp} {xs : List V} (h : But b H H') (n : p ≠ b) (s : SqT K H p xs) : SqT K H' p xs := by
  rcases s with (s | ⟨o, s⟩) | s
  · exact .inl (.inl (h _ _ n s))
  · exact .inl (.inr ⟨o, h _ _ n s⟩)
  · exact .inr s
theorem BagIs.same {K : PySem.W.Frag} {H H' : Hp} {b c : Addr} {ns : List Int} {i : Nat} {g x n : Int} (B : BagIs K H b c ns i g x n) (s : Same H H') : BagIs K H' b c ns i g x n :=
  ⟨s _ _ B.ob, s.seq B.sq, B.cb, B.hi, B.x0, B.x1⟩
theorem BagAt.same {K : PySem.W.Frag} {H H' : Hp} {b : Addr} (B : BagAt K H b) (s : Same H H') : BagAt K H' b :=
  let ⟨c, ns, i, g, x, n, B⟩ := B; ⟨c, ns, i, g, x, n, B.same s⟩
theorem BagIs.put {K : PySem.W.Frag} {H : Hp} {b c : Addr} {ns : List Int} {i : Nat} {g x n : Int} (B : BagIs K H b c ns i g x n) {i' : Nat} {g' x' n' : Int} (hi : i' ≤ ns.length) (x0 : 0 ≤ x') (x1 : x' < 4294967296) :
    BagIs K (upd H b (.lst [.ref c, .int i', .int g', .int x', .int n'])) b c ns i' g' x' n' :=
  ⟨upd_same, (But.upd (H := H)).seq B.cb B.sq, B.cb, hi, x0, x1⟩
/-! ### promises -/
def spBag (K : PySem.W.Frag) : Sp := fun vs H Q _ => ∃ (a : Addr) (ns : List Int), vs = [.ref a] ∧ SqL K H a (ns.map V.int) ∧ ∀ b H', Same H H' → BagAt K H' b → H b = none → Q (.ref b) H'
def spDraw (K : PySem.W.Frag) : Sp := fun vs H Q _ => ∃ (b : Addr) (m : Int), vs = [.ref b, .int m] ∧ BagAt K H b ∧ 0 < m ∧ m < 1000000000000000000000000000000000000000 ∧ ∀ r H', 0 ≤ r → r < m → BagAt K H' b → But b H H' → Q (.int r) H'
theorem BagC.at {K : PySem.W.Frag} {H : Hp} {b c : Addr} {ns : List Int} (h : BagC K H b c ns) : BagAt K H b := ⟨c, ns, h⟩
def spDrawC (K : PySem.W.Frag) : Sp := fun vs H Q _ => ∃ (b : Addr) (m : Int) (c : Addr) (ns : List Int), vs = [.ref b, .int m] ∧ BagC K H b c ns ∧ 0 < m ∧ m < 1000000000000000000000000000000000000000 ∧ ∀ r H', 0 ≤ r → r < m → BagC K H' b c ns → But b H H' → Q (.int r) H'
/-- the bag's numbers are not the list at L, or stand in the written part -/
def Off (K : PySem.W.Frag) (L c : Addr) (ns : List Int) : Prop := c ≠ L ∨ ∃ (o : Obj) (its : Array Value) (n : Nat), K.lookup c = some o ∧ o.cls = .type "list" ∧ o.dict = none ∧ o.data = .seq its n ∧ its.size ≤ sizeLine ∧ Vals (ns.map V.int) its.toList
theorem BagC.off {K : PySem.W.Frag} {H : Hp} {b c L : Addr} {ns : List Int} (h : BagC K H b c ns) (n : H L = none) : Off K L c ns := by
  obtain ⟨i, g, x, m, B⟩ := h
  rcases B.sq with (s | ⟨o, s⟩) | s
  · exact .inl (ne_of_none s n)
  · exact .inl (ne_of_none s n)
  · exact .inr s
theorem BagC.upd {K : PySem.W.Frag} {H : Hp} {b c L : Addr} {ns : List Int} {o : HO} (h : BagC K H b c ns) (f : Off K L c ns) (n : L ≠ b) : BagC K (upd H L o) b c ns := by
  obtain ⟨i, g, x, m, B⟩ := h
  refine ⟨i, g, x, m, by rw [upd_ne n.symm]; exact B.ob, ?_, B.cb, B.hi, B.x0, B.x1⟩
  rcases f with f | f
  · exact (But.upd (b := L)).seq f B.sq
  · exact .inr f
theorem BagC.same {K : PySem.W.Frag} {H H' : Hp} {b c : Addr} {ns : List Int} (h : BagC K H b c ns) (s : Same H H') : BagC K H' b c ns := by
  obtain ⟨i, g, x, m, B⟩ := h
  exact ⟨i, g, x, m, B.same s⟩
def topS (i : Nat) : Stmt := PySem.Challenge.pw_soleheld_k04_markings_listed.main.body.getD i (.Pass ⟨0, 0, 0, 0⟩)
abbrev sLawBag : Stmt := topS 30
theorem scLawBag : FnScope ["script", "mixed", "piece"] ["script"] (defScope sLawBag) := ⟨rfl, rfl, rfl, by decide +kernel, rfl, by decide +kernel, by decide +kernel⟩
abbrev sLawDraw : Stmt := topS 31
theorem scLawDraw : FnScope ["bag", "size", "piece", "digit"] ["bag", "size"] (defScope sLawDraw) := ⟨rfl, rfl, rfl, by decide +kernel, rfl, by decide +kernel, by decide +kernel⟩
theorem mod_lo {a m : Int} (h : 0 < m) : 0 ≤ a % m := Int.emod_nonneg a (by omega)
theorem mod_hi {a m : Int} (h : 0 < m) : a % m < m := Int.emod_lt_of_pos a h
theorem mul_right {a : Int} {c : Int} (h : Builtin.Int.intBits c ≤ 64) : IntMulOk a c := IntMulOk.of_right h
section
variable {P : Program} {w : World} {K : PySem.W.Frag} {mg : Str → Option Value} {base : Heap}
theorem ok_bag {f : Addr} {fd : FuncData} {k : Nat} (F : Fun K "_law_bag" "_law_bag" sLawBag f fd) (b_int : mg "int" = none) (b_list : mg "list" = none) : FnOk P w K mg base CX0 (k + 1) f fd ["script"] (spBag K) := by
  refine F.ok scLawBag (fun vs H Q E h => ?_) (fun cdv A outer s H vs Q E hr h => ?_)
  · obtain ⟨a, ns, rfl, _⟩ := h
    rfl
  · obtain ⟨a, ns, rfl, hS, q⟩ := h
    refine ⟨_, (pss_cons (ps_set (i := 1) scLawBag.nd rfl (.inl rfl) pe_int)
      (pss_cons (ps_for PassesOwn.never rfl (pi_list (pe_slice sl_list (pv 0) po_none (po_some pe_int))) (pg_name (i := 2) scLawBag.nd rfl (.inl rfl))
        (pss_one (ps_set (i := 1) scLawBag.nd rfl (.inl rfl) (pe_op op_mod (pe_callTy call_int1 rfl b_int (by decide +kernel) (pa_cons (pe_op op_add (pe_op op_add (pe_op op_mulG (pv 1) pe_int) (pe_op op_mod (pe_callTy call_int1 rfl b_int (by decide +kernel) (pa_cons (pv 2) pa_nil)) pe_int)) pe_int) pa_nil)) pe_int))))
      (pss_one (ps_ret (pe_lst (pa_cons (pe_callTy call_list_of rfl b_list (by decide +kernel) (pa_cons (pe_slice sl_list (pv 0) po_none (po_some pe_int)) pa_nil)) (pa_cons pe_int (pa_cons pe_int (pa_cons (pv 1) (pa_cons pe_int pa_nil)))))))))), ?_⟩
    obtain ⟨ms, ec⟩ : ∃ ms : List Int, cutV (ns.map V.int) none (some 63) = ms.map V.int := ⟨(ns.drop _).take _, by
      unfold cutV
      rw [List.map_take, List.map_drop]⟩
    refine ⟨_, rfl, _, rfl, a, _, rfl, hS, fun c nc => ?_⟩
    rw [ec]
    have sc : Same H (upd H c (.lst (ms.map V.int))) := same_upd nc
    refine ⟨c, rfl, ⟨_, SqL.of upd_same⟩, for_list (K := K) (a := c) (xs := ms.map V.int) (fun i σ H2 => ∃ (m : Int) (v : Option V), σ = [some (.ref a), some (.int m), v] ∧ Same H H2 ∧ H2 c = some (.lst (ms.map V.int)) ∧ 0 ≤ m ∧ m < 4294967296)
      ⟨13964, none, rfl, sc, upd_same, by decide, by decide⟩ (fun i σ H2 _ ⟨_, _, _, _, e, _⟩ => SqL.of e) ?_ ?_⟩
    · rintro i y σ H2 hi ⟨m, v, rfl, s2, ce, m0, m1⟩
      obtain ⟨z, -, rfl⟩ : ∃ z, ms[i]? = some z ∧ y = .int z := by
        rw [List.getElem?_map] at hi
        cases e : ms[i]? with
        | none => rw [e] at hi; cases hi
        | some z => rw [e] at hi; exact ⟨z, rfl, (Option.some.inj hi).symm⟩
      refine ⟨_, rfl, _, _, rfl, rfl, mul_right (by decide +kernel), _, rfl, .inl ⟨_, rfl, _, _, rfl, rfl, (by show (0 : Int) < _; decide), _, _, rfl, rfl, _, _, rfl, rfl, .inl ⟨_, rfl, _, _, rfl, rfl, (by show (0 : Int) < _; decide), ?_⟩⟩⟩
      refine ⟨_, _, rfl, s2, ce, mod_lo (by decide), ?_⟩
      exact Int.lt_trans (mod_hi (by decide)) (by decide)
    · rintro σ H2 ⟨m, v, rfl, s2, ce, m0, m1⟩
      refine ⟨_, rfl, _, rfl, a, _, rfl, s2.seq hS, fun d nd => ?_⟩
      rw [ec]
      refine ⟨d, _, rfl, .inl (SqL.of upd_same), fun l nl => ⟨_, rfl, (by show 5 ≤ sizeLine; decide), fun b nb => ?_⟩⟩
      have s3 := (s2.trans (same_upd (o := .lst (ms.map V.int)) nd)).trans (same_upd (o := .lst (ms.map V.int)) nl)
      refine q b _ (s3.trans (same_upd nb)) ⟨l, ms, 0, 0, m, 0, upd_same, ?_, ?_, Nat.zero_le _, m0, m1⟩ (s3.free nb)
      · have e : l ≠ b := fun e => by rw [← e, upd_same] at nb; cases nb
        exact SqL.of (by rw [upd_ne e, upd_same])
      · exact fun e => by rw [← e, upd_same] at nb; cases nb
theorem ok_drawC {f : Addr} {fd : FuncData} {k : Nat} (F : Fun K "_law_draw" "_law_draw" sLawDraw f fd) (b_int : mg "int" = none) (b_len : mg "len" = none) : FnOk P w K mg base CX0 (k + 1) f fd ["bag", "size"] (spDrawC K) := by
  refine F.ok scLawDraw (fun vs H Q E h => ?_) (fun cdv A outer s H vs Q E hr h => ?_)
  · obtain ⟨b, m, c, ns, rfl, _⟩ := h
    rfl
  · obtain ⟨b, m, c, ns, rfl, ⟨i, g, x, n, B⟩, m0, m1, q⟩ := h
    refine ⟨_, (pss_cons (ps_asg (pe_op op_add (pe_ix ix_list (pv 0) pe_int (fun _ _ => rfl)) pe_int) (pg_sub (pv 0) pe_int set_list))
      (C8.pss_cut (ps_if (PW.pt (pw_and (pt_cmpR op_eq (pe_ix ix_list (pv 0) pe_int (fun _ _ => rfl)) pe_int (nomark _)) (pw_and1 (pt_cmpR op_lt (pe_ix ix_list (pv 0) pe_int (fun _ _ => rfl)) (pe_callB call_len rfl b_len (by decide +kernel) (pa_cons (pe_ix ix_list (pv 0) pe_int (fun _ _ => rfl)) pa_nil)) (nomark _))))) (pss_cons (ps_set (i := 2) scLawDraw.nd rfl (.inl rfl) (pe_callTy call_int1 rfl b_int (by decide +kernel) (pa_cons (pe_ix ix_list (pe_ix ix_list (pv 0) pe_int (fun _ _ => rfl)) (pe_ix ix_list (pv 0) pe_int (fun _ _ => rfl)) (fun _ _ => rfl)) pa_nil)))
        (pss_cons (ps_asg (pe_op op_add (pe_ix ix_list (pv 0) pe_int (fun _ _ => rfl)) pe_int) (pg_sub (pv 0) pe_int set_list))
        (pss_one (ps_if (pt_cmpR op_ge (pv 2) (pe_op op_powG pe_int pe_int) (nomark _)) (pss_one (ps_asg (pv 2) (pg_sub (pv 0) pe_int set_list))) (pss_one (ps_asg (pe_op op_mod (pe_callTy call_int1 rfl b_int (by decide +kernel) (pa_cons (pe_op op_add (pe_op op_add (pe_op op_mulG (pe_ix ix_list (pv 0) pe_int (fun _ _ => rfl)) pe_int) (pe_op op_mulG (pe_op op_mod (pe_callTy call_int1 rfl b_int (by decide +kernel) (pa_cons (pv 2) pa_nil)) pe_int) pe_int)) pe_int) pa_nil)) pe_int) (pg_sub (pv 0) pe_int set_list))))))) pss_nil)
      (pss_cons (ps_if (pt_cmpR op_gt (pe_ix ix_list (pv 0) pe_int (fun _ _ => rfl)) pe_int (nomark _)) (pss_cons (ps_set (i := 3) scLawDraw.nd rfl (.inl rfl) (pe_op op_mod (pe_callTy call_int1 rfl b_int (by decide +kernel) (pa_cons (pe_ix ix_list (pv 0) pe_int (fun _ _ => rfl)) pa_nil)) (pv 1)))
        (pss_cons (ps_asg (pe_op op_fdivW (pe_ix ix_list (pv 0) pe_int (fun _ _ => rfl)) (pv 1)) (pg_sub (pv 0) pe_int set_list))
        (pss_one (ps_ret (pv 3))))) pss_nil)
      (pss_cons (ps_asg (pe_op op_mod (pe_callTy call_int1 rfl b_int (by decide +kernel) (pa_cons (pe_op op_add (pe_op op_add (pe_op op_powG (pe_ix ix_list (pv 0) pe_int (fun _ _ => rfl)) pe_int) (pe_op op_mulG (pe_ix ix_list (pv 0) pe_int (fun _ _ => rfl)) pe_int)) pe_int) pa_nil)) pe_int) (pg_sub (pv 0) pe_int set_list))
      (pss_one (ps_ret (pe_op op_mod (pe_callTy call_int1 rfl b_int (by decide +kernel) (pa_cons (pe_op op_add (pe_op op_fdivW (pe_ix ix_list (pv 0) pe_int (fun _ _ => rfl)) pe_int) (pe_op op_mulG (pe_op op_mod (pe_callTy call_int1 rfl b_int (by decide +kernel) (pa_cons (pe_ix ix_list (pv 0) pe_int (fun _ _ => rfl)) pa_nil)) pe_int) pe_int)) pa_nil)) (pv 1)))))))), ?_⟩
    -- bag[4] = bag[4] + 1
    refine ⟨.ref b, rfl, b, _, 4, _, rfl, rfl, SqL.of B.ob, (atI_nat (j := 4) rfl), _, _, rfl, rfl, .ref b, rfl, b, _, 4, 4, rfl, rfl, B.ob, rfl, ?_⟩
    have B1 : BagIs K (upd H b (.lst [.ref c, .int i, .int g, .int x, .int (n + 1)])) b c ns i g x (n + 1) := B.put B.hi B.x0 B.x1
    have t1 : But b H (upd H b (.lst [.ref c, .int i, .int g, .int x, .int (n + 1)])) := But.upd
    refine ⟨fun σ' H' => ∃ (v2 v3 : Option V) (i' : Nat) (g' x' n' : Int), σ' = [some (.ref b), some (.int m), v2, v3] ∧ BagIs K H' b c ns i' g' x' n' ∧ But b H H', ?_, ?_⟩
    · -- the if
      refine ⟨.ref b, rfl, b, _, 2, _, rfl, rfl, SqL.of B1.ob, (atI_nat (j := 2) rfl), rfl, _, rfl, ?_⟩
      refine ite2 (fun _ => ?_) (fun _ => ?_)
      · refine ⟨.ref b, rfl, b, _, 1, _, rfl, rfl, SqL.of B1.ob, (atI_nat (j := 1) rfl), .ref b, rfl, b, _, 0, _, rfl, rfl, SqL.of B1.ob, (atI_nat (j := 0) rfl), _, _, rfl, .inl ⟨_, B1.sq, rfl⟩, _, _, rfl, rfl, _, rfl, ?_⟩
        refine ite2 (fun e => ?_) (fun _ => ?_)
        · have hlt : i < ns.length := by
            have e2 := of_decide_eq_true e
            rw [List.length_map] at e2
            omega
          have gi : (ns.map V.int)[i]? = some (.int ns[i]) := by
            rw [List.getElem?_map, List.getElem?_eq_getElem hlt]
            rfl
          refine ⟨.ref b, rfl, b, _, 0, _, rfl, rfl, SqL.of B1.ob, (atI_nat (j := 0) rfl), .ref b, rfl, b, _, 1, _, rfl, rfl, SqL.of B1.ob, (atI_nat (j := 1) rfl), c, _, i, _, rfl, rfl, B1.sq, atI_nat gi, .inl ⟨_, rfl, ?_⟩⟩
          refine ⟨.ref b, rfl, b, _, 1, _, rfl, rfl, SqL.of B1.ob, (atI_nat (j := 1) rfl), _, _, rfl, rfl, .ref b, rfl, b, _, 1, 1, rfl, rfl, B1.ob, rfl, ?_⟩
          have B2 : BagIs K (upd (upd H b (.lst [.ref c, .int i, .int g, .int x, .int (n + 1)])) b (.lst [.ref c, .int ((i : Int) + 1), .int g, .int x, .int (n + 1)])) b c ns (i + 1) g x (n + 1) := B1.put (i' := i + 1) hlt B.x0 B.x1
          have t2 : But b H (upd (upd H b (.lst [.ref c, .int i, .int g, .int x, .int (n + 1)])) b (.lst [.ref c, .int ((i : Int) + 1), .int g, .int x, .int (n + 1)])) := t1.trans But.upd
          refine ⟨_, rfl, _, _, rfl, rfl, ⟨by decide, by decide +kernel⟩, _, _, rfl, rfl, _, rfl, ?_⟩
          refine ite2 (fun _ => ?_) (fun _ => ?_)
          · refine ⟨_, rfl, .ref b, rfl, b, _, 2, 2, rfl, rfl, B2.ob, rfl, ?_⟩
            exact ⟨_, _, i + 1, ns[i], x, n + 1, rfl, B2.put B2.hi B.x0 B.x1, t2.trans But.upd⟩
          · refine ⟨.ref b, rfl, b, _, 3, _, rfl, rfl, SqL.of B2.ob, (atI_nat (j := 3) rfl), _, _, rfl, rfl, mul_right (by decide +kernel), _, rfl, .inl ⟨_, rfl, _, _, rfl, rfl, (by show (0 : Int) < _; decide), _, _, rfl, rfl, mul_right (by decide +kernel), _, _, rfl, rfl, _, _, rfl, rfl, .inl ⟨_, rfl, _, _, rfl, rfl, (by show (0 : Int) < _; decide), ?_⟩⟩⟩
            refine ⟨.ref b, rfl, b, _, 3, 3, rfl, rfl, B2.ob, rfl, ?_⟩
            exact ⟨_, _, i + 1, g, _, n + 1, rfl, B2.put B2.hi (mod_lo (by decide)) (Int.lt_trans (mod_hi (by decide)) (by decide)), t2.trans But.upd⟩
        · exact ⟨_, _, i, g, x, n + 1, rfl, B1, t1⟩
      · exact ⟨_, _, i, g, x, n + 1, rfl, B1, t1⟩
    · rintro σ' H' ⟨v2, v3, i', g', x', n', rfl, B', t'⟩
      refine ⟨.ref b, rfl, b, _, 2, _, rfl, rfl, SqL.of B'.ob, (atI_nat (j := 2) rfl), _, _, rfl, rfl, _, rfl, ?_⟩
      have d1 : CDivW g' m := wide_div m0 (b := 130) (by omega) (by decide) (by decide)
      refine ite2 (fun _ => ?_) (fun _ => ?_)
      · refine ⟨.ref b, rfl, b, _, 2, _, rfl, rfl, SqL.of B'.ob, (atI_nat (j := 2) rfl), .inl ⟨_, rfl, _, rfl, _, _, rfl, rfl, m0, ?_⟩⟩
        refine ⟨.ref b, rfl, b, _, 2, _, rfl, rfl, SqL.of B'.ob, (atI_nat (j := 2) rfl), _, rfl, _, _, rfl, rfl, d1, .ref b, rfl, b, _, 2, 2, rfl, rfl, B'.ob, rfl, ?_⟩
        exact ⟨_, rfl, q _ _ (mod_lo m0) (mod_hi m0) ⟨i', g' / m, x', n', B'.put B'.hi B'.x0 B'.x1⟩ (t'.trans But.upd)⟩
      · have hx : CPowG x' 3 := ⟨by decide, by
          have hb : Builtin.Int.intBits x' ≤ 64 := intBits_le_64 (by have := B'.x0; omega) (by have := B'.x1; omega)
          omega⟩
        refine ⟨.ref b, rfl, b, _, 3, _, rfl, rfl, SqL.of B'.ob, (atI_nat (j := 3) rfl), _, _, rfl, rfl, hx, .ref b, rfl, b, _, 4, _, rfl, rfl, SqL.of B'.ob, (atI_nat (j := 4) rfl), _, _, rfl, rfl, mul_right (by decide +kernel), _, _, rfl, rfl, _, _, rfl, rfl, .inl ⟨_, rfl, _, _, rfl, rfl, (by show (0 : Int) < _; decide), ?_⟩⟩
        refine ⟨.ref b, rfl, b, _, 3, 3, rfl, rfl, B'.ob, rfl, ?_⟩
        have B3 : BagIs K (upd H' b (.lst [.ref c, .int i', .int g', .int ((x' ^ (3 : Int).toNat + n' * 1299709 + 70001) % 2147483579), .int n'])) b c ns i' g' ((x' ^ (3 : Int).toNat + n' * 1299709 + 70001) % 2147483579) n' := B'.put B'.hi (mod_lo (by decide)) (Int.lt_trans (mod_hi (by decide)) (by decide))
        refine ⟨.ref b, rfl, b, _, 3, _, rfl, rfl, SqL.of B3.ob, (atI_nat (j := 3) rfl), _, _, rfl, rfl, wide_div (b := 10) (by decide) (by decide) (by decide) (by decide), .ref b, rfl, b, _, 3, _, rfl, rfl, SqL.of B3.ob, (atI_nat (j := 3) rfl), .inl ⟨_, rfl, _, _, rfl, rfl, (by show (0 : Int) < _; decide), _, _, rfl, rfl, mul_right (by decide +kernel), _, _, rfl, rfl, .inl ⟨_, rfl, _, rfl, _, _, rfl, rfl, m0, ?_⟩⟩⟩
        exact q _ _ (mod_lo m0) (mod_hi m0) ⟨i', g', _, n', B3⟩ (t'.trans But.upd)
theorem ok_draw {f : Addr} {fd : FuncData} {k : Nat} (F : Fun K "_law_draw" "_law_draw" sLawDraw f fd) (b_int : mg "int" = none) (b_len : mg "len" = none) : FnOk P w K mg base CX0 (k + 1) f fd ["bag", "size"] (spDraw K) :=
  (ok_drawC F b_int b_len).imp fun vs H Q E ⟨b, m, e, ⟨c, ns, B⟩, m0, m1, q⟩ => ⟨b, m, c, ns, e, B, m0, m1, fun r H' r0 r1 B' t => q r H' r0 r1 B'.at t⟩
end
end My

set_option Elab.async false
set_option linter.all false
set_option maxRecDepth 100000
namespace My
open PySem PySem.Spec PyProof.Rows L2
abbrev sLawOf : Stmt := topS 32
theorem scLawOf : FnScope ["bag", "things"] ["bag", "things"] (defScope sLawOf) := ⟨rfl, rfl, rfl, by decide +kernel, rfl, by decide +kernel, by decide +kernel⟩
abbrev sLawLike : Stmt := topS 33
theorem scLawLike : FnScope ["told", "due", "a", "b"] ["told", "due"] (defScope sLawLike) := ⟨rfl, rfl, rfl, by decide +kernel, rfl, by decide +kernel, by decide +kernel⟩
/-- things are a list of whole numbers -/
def spOfC (K : PySem.W.Frag) : Sp := fun vs H Q _ => ∃ (b a c : Addr) (ns : List Int) (xs : List V), vs = [.ref b, .ref a] ∧ BagC K H b c ns ∧ a ≠ b ∧ SqL K H a xs ∧ 0 < xs.length ∧ xs.length < 1000 ∧ ∀ v H', v ∈ xs → BagC K H' b c ns → But b H H' → Q v H'
def spOf (K : PySem.W.Frag) : Sp := fun vs H Q _ => ∃ (b a : Addr) (xs : List V), vs = [.ref b, .ref a] ∧ BagAt K H b ∧ a ≠ b ∧ SqL K H a xs ∧ 0 < xs.length ∧ xs.length < 1000 ∧ ∀ v H', v ∈ xs → BagAt K H' b → But b H H' → Q v H'
/-! ### data that are alike -/
def flat0 : V → Prop
  | .non => True
  | .bl _ => True
  | .int _ => True
  | .str _ => True
  | _ => False
def Lk (K : PySem.W.Frag) (H : Hp) : Nat → V → V → Prop
  | 0, v, w => v = w ∧ flat0 v
  | n + 1, v, w => (v = w ∧ flat0 v) ∨ ∃ a b xs ys, v = .ref a ∧ w = .ref b ∧ ((SqL K H a xs ∧ SqL K H b ys) ∨ (SqT K H a xs ∧ SqT K H b ys)) ∧ xs.length = ys.length ∧ xs.length < 2000 ∧ ∀ (i : Nat) x y, xs[i]? = some x → ys[i]? = some y → Lk K H n x y
theorem seqT_same {K : PySem.W.Frag} {H H' : Hp} {p : Addr} {xs : List V} (h : Same H H') (s : SqT K H p xs) : SqT K H' p xs := by
  rcases s with (s | ⟨o, s⟩) | s
  · exact .inl (.inl (h _ _ s))
  · exact .inl (.inr ⟨o, h _ _ s⟩)
  · exact .inr s
theorem Lk.same {K : PySem.W.Frag} {H H' : Hp} (s : Same H H') : ∀ {n : Nat} {v w : V}, Lk K H n v w → Lk K H' n v w
  | 0, _, _, h => h
  | n + 1, _, _, h => by
    rcases h with h | ⟨a, b, xs, ys, e1, e2, hs, hl, hb, hi⟩
    · exact .inl h
    · refine .inr ⟨a, b, xs, ys, e1, e2, ?_, hl, hb, fun i x y p q => (hi i x y p q).same s⟩
      rcases hs with ⟨p, q⟩ | ⟨p, q⟩
      · exact .inl ⟨s.seq p, s.seq q⟩
      · exact .inr ⟨seqT_same s p, seqT_same s q⟩
theorem Lk.flat {K : PySem.W.Frag} {H : Hp} {n : Nat} {v w : V} (e : v = w) (f : flat0 v) : Lk K H n v w := by
  cases n with
  | zero => exact ⟨e, f⟩
  | succ n => exact .inl ⟨e, f⟩
def spLike (K : PySem.W.Frag) (n : Nat) : Sp := fun vs H Q _ => ∃ v w, vs = [v, w] ∧ Lk K H n v w ∧ ∀ H', Same H H' → Q (.bl true) H'
theorem ty_list {K : PySem.W.Frag} {H : Hp} {a : Addr} {xs : List V} (h : SqL K H a xs) : TyX K H (.ref a) (.type "list") := by
  rcases h with (h | ⟨o, h⟩) | ⟨o, its, n, h, c, _⟩
  · exact .base (.lst h)
  · exact .base (.frz h)
  · exact .kList h c
theorem ty_tup {K : PySem.W.Frag} {H : Hp} {a : Addr} {xs : List V} (h : SqT K H a xs) : TyX K H (.ref a) (.type "tuple") := by
  rcases h with (h | ⟨o, h⟩) | ⟨o, its, n, h, c, _⟩
  · exact .base (.tup h)
  · exact .fTuple h
  · exact .kTuple h c
/-- the type of a flat value -/
def tyN : V → String
  | .non => "NoneType"
  | .bl _ => "bool"
  | .int _ => "int"
  | .str _ => "str"
  | _ => ""
theorem ty_flat {K : PySem.W.Frag} {H : Hp} {v : V} (h : flat0 v) : TyX K H v (.type (tyN v)) := by
  cases v with
  | non => exact .base .non
  | bl b => exact .base (.bl b)
  | int i => exact .base (.int i)
  | str x => exact .base (.str x)
  | _ => exact h.elim
theorem cls2 {a b : String} : Paired ClsV [.ty a, .ty b] [.type a, .type b] := .cons (.ty a) (.cons (.ty b) .nil)
section
variable {P : Program} {w : World} {K : PySem.W.Frag} {mg : Str → Option Value} {base : Heap}
theorem kit_ll : PySem.W.kitAny K (.type "list") [.type "list", .type "tuple"] = some true := by rfl
theorem kit_tl : PySem.W.kitAny K (.type "tuple") [.type "list", .type "tuple"] = some true := by rfl
theorem kit_flat {v : V} (h : flat0 v) : PySem.W.kitAny K (.type (tyN v)) [.type "list", .type "tuple"] = some false := by
  cases v <;> first | rfl | exact h.elim
theorem k1_ll : PySem.W.kitOne K (.type "list") (.type "list") = some true := by rfl
theorem k1_lt : PySem.W.kitOne K (.type "list") (.type "tuple") = some false := by rfl
theorem k1_tl : PySem.W.kitOne K (.type "tuple") (.type "list") = some false := by rfl
theorem k1_tt : PySem.W.kitOne K (.type "tuple") (.type "tuple") = some true := by rfl
theorem k1_flat {v : V} (h : flat0 v) (c : String) (hc : c = "bool" ∨ c = "str" ∨ c = "int") : ∃ b, PySem.W.kitOne K (.type (tyN v)) (.type c) = some b := by
  cases v <;> first | exact h.elim | (rcases hc with rfl | rfl | rfl <;> exact ⟨_, rfl⟩)
theorem pe_ty {X : Cx} (T : String) {x : Str} {pos : Pos} (hg : Gl X x) (hm : X.mg x = none) (hv : bootBuiltins x = some (.type T)) (hn : x ≠ "__name__" := by decide) (hd : (x == ("__debug__" : Str)) = false := by decide) : PE X (.Name x pos) (tC (.ty T)) := pe_bltn hg hm hv rfl hn hd
theorem walk_zipT {a b : Addr} {xs ys : List V} {n : Nat} (hn : n = min xs.length ys.length) : Walk (RZ.ItzT K a b) n (fun H => SqT K H a xs ∧ SqT K H b ys) (YPair (fun i => xs[i]?) (fun i => ys[i]?)) := by
  subst hn
  refine ⟨fun i _ hi q => ?_, fun _ q => ⟨xs, ys, q.1, q.2, by omega⟩, fun i H v H' _ q y => ?_⟩
  · have h1 : i < xs.length := by omega
    have h2 : i < ys.length := by omega
    exact ⟨xs, ys, xs[i], ys[i], q.1, q.2, by simp [h1], by simp [h2]⟩
  · obtain ⟨T, x, z, h1, h2, h3, h4, h5⟩ := y
    exact ⟨T, x, z, h1, h2, h3, h4 xs q.1, h5 ys q.2⟩
theorem ok_of {f fD : Addr} {fd fdD : FuncData} {k : Nat} (F : Fun K "_law_of" "_law_of" sLawOf f fd) (D : Cal P w K mg base "_law_draw" (k + 1) ["bag", "size"] (spDraw K) fD fdD) (b_len : mg "len" = none) : FnOk P w K mg base CX0 (k + 2) f fd ["bag", "things"] (spOf K) := by
  refine F.ok scLawOf (fun vs H Q E h => ?_) (fun cdv A outer s H vs Q E hr h => ?_)
  · obtain ⟨b, a, xs, rfl, _⟩ := h
    rfl
  · obtain ⟨b, a, xs, rfl, B, n, hs, h0, h1, q⟩ := h
    refine ⟨_, (pss_one (ps_ret (pe_ix ix_list (pv 1) (pe_call D.ok hr rfl D.g D.kp D.b .nil pass0 (pa_cons (pv 0) (pa_cons (pe_callB call_len rfl b_len (by decide +kernel) (pa_cons (pv 1) pa_nil)) pa_nil))) (fun _ _ => rfl)))), ?_⟩
    refine ⟨_, rfl, _, rfl, _, rfl, _, _, rfl, .inl ⟨_, hs, rfl⟩, b, _, rfl, B, by omega, by omega, fun r H' r0 r1 B' t => ?_⟩
    obtain ⟨j, rfl⟩ : ∃ j : Nat, r = (j : Int) := ⟨r.toNat, by omega⟩
    have hj : j < xs.length := by omega
    exact ⟨a, _, _, xs[j], rfl, rfl, t.seq n hs, atI_nat (List.getElem?_eq_getElem hj), q _ H' (List.getElem_mem hj) B' t⟩
theorem ok_ofC {f fD : Addr} {fd fdD : FuncData} {k : Nat} (F : Fun K "_law_of" "_law_of" sLawOf f fd) (D : Cal P w K mg base "_law_draw" (k + 1) ["bag", "size"] (spDrawC K) fD fdD) (b_len : mg "len" = none) : FnOk P w K mg base CX0 (k + 2) f fd ["bag", "things"] (spOfC K) := by
  refine F.ok scLawOf (fun vs H Q E h => ?_) (fun cdv A outer s H vs Q E hr h => ?_)
  · obtain ⟨b, a, c, ns, xs, rfl, _⟩ := h
    rfl
  · obtain ⟨b, a, c, ns, xs, rfl, B, n, hs, h0, h1, q⟩ := h
    refine ⟨_, (pss_one (ps_ret (pe_ix ix_list (pv 1) (pe_call D.ok hr rfl D.g D.kp D.b .nil pass0 (pa_cons (pv 0) (pa_cons (pe_callB call_len rfl b_len (by decide +kernel) (pa_cons (pv 1) pa_nil)) pa_nil))) (fun _ _ => rfl)))), ?_⟩
    refine ⟨_, rfl, _, rfl, _, rfl, _, _, rfl, .inl ⟨_, hs, rfl⟩, b, _, c, ns, rfl, B, by omega, by omega, fun r H' r0 r1 B' t => ?_⟩
    obtain ⟨j, rfl⟩ : ∃ j : Nat, r = (j : Int) := ⟨r.toNat, by omega⟩
    have hj : j < xs.length := by omega
    exact ⟨a, _, _, xs[j], rfl, rfl, t.seq n hs, atI_nat (List.getElem?_eq_getElem hj), q _ H' (List.getElem_mem hj) B' t⟩
theorem all_true : ∀ n : Nat, (List.replicate n true).all id = true := fun n => by
  induction n with
  | zero => rfl
  | succ n ih => rw [List.replicate_succ, List.all_cons, ih]; rfl
theorem FnOk.never {f : Addr} {fd : FuncData} {k : Nat} {ps : List Str} : FnOk P w K mg base CX0 k f fd ps (fun _ _ _ _ => False) := ⟨fun _ _ _ _ h => h.elim, fun _ _ _ _ _ _ _ _ _ _ _ _ _ h => h.elim⟩
def spLikeM (K : PySem.W.Frag) (M : Hp → V → V → Prop) : Sp := fun vs H Q _ => ∃ v w, vs = [v, w] ∧ ((v = w ∧ flat0 v) ∨ ∃ a b xs ys, v = .ref a ∧ w = .ref b ∧ ((SqL K H a xs ∧ SqL K H b ys) ∨ (SqT K H a xs ∧ SqT K H b ys)) ∧ xs.length = ys.length ∧ xs.length < 2000 ∧ ∀ (i : Nat) x y, xs[i]? = some x → ys[i]? = some y → M H x y) ∧ ∀ H', Same H H' → Q (.bl true) H'
theorem like_step {f : Addr} {fd : FuncData} {k : Nat} {R : Sp} {M : Hp → V → V → Prop} (F : Fun K "_law_like" "_law_like" sLawLike f fd) (g : mg "_law_like" = some (.ref f)) (b : Binds K fd ["told", "due"] [])
    (b_isinstance : mg "isinstance" = none) (b_list : mg "list" = none) (b_tuple : mg "tuple" = none) (b_bool : mg "bool" = none) (b_str : mg "str" = none) (b_int : mg "int" = none) (b_len : mg "len" = none) (b_all : mg "all" = none) (b_zip : mg "zip" = none)
    (G : FnOk P w K mg base CX0 k f fd ["told", "due"] R) (hM : ∀ v w H Q E, M H v w → (∀ H', Same H H' → Q (.bl true) H') → R [v, w] H Q E) (hS : ∀ H H' v w, Same H H' → M H v w → M H' v w) : FnOk P w K mg base CX0 (k + 1) f fd ["told", "due"] (spLikeM K M) := by
  refine F.ok scLawLike (fun vs H Q E h => ?_) (fun cdv A outer s H vs Q E hr h => ?_)
  · obtain ⟨v, w', rfl, _⟩ := h
    rfl
  · obtain ⟨v, w', rfl, L, q⟩ := h
    refine ⟨_, (pss_cons (ps_if (pt_val (pe_callB call_isiT rfl b_isinstance (by decide +kernel) (pa_cons (pv 1) (pa_cons (pe_tup (pa_cons (pe_ty "list" rfl b_list (by decide +kernel)) (pa_cons (pe_ty "tuple" rfl b_tuple (by decide +kernel)) pa_nil))) pa_nil)))) (pss_cons (ps_if (PW.pt (pw_or (pt_cmpR op_ne (pe_callB call_isi rfl b_isinstance (by decide +kernel) (pa_cons (pv 0) (pa_cons (pe_ty "list" rfl b_list (by decide +kernel)) pa_nil))) (pe_callB call_isi rfl b_isinstance (by decide +kernel) (pa_cons (pv 1) (pa_cons (pe_ty "list" rfl b_list (by decide +kernel)) pa_nil))) (nomark _)) (pw_or1 (pt_cmpR op_ne (pe_callB call_isi rfl b_isinstance (by decide +kernel) (pa_cons (pv 0) (pa_cons (pe_ty "tuple" rfl b_tuple (by decide +kernel)) pa_nil))) (pe_callB call_isi rfl b_isinstance (by decide +kernel) (pa_cons (pv 1) (pa_cons (pe_ty "tuple" rfl b_tuple (by decide +kernel)) pa_nil))) (nomark _))))) (pss_one (ps_ret pe_bl)) pss_nil)
      (pss_one (ps_ret (pe_and (pe_cmpR op_eq (pe_callB call_len rfl b_len (by decide +kernel) (pa_cons (pv 0) pa_nil)) (pe_callB call_len rfl b_len (by decide +kernel) (pa_cons (pv 1) pa_nil)) (nomark _)) (pe_one (pe_callB (cr_all rfl) rfl b_all (by decide +kernel) (pa_cons (pe_lc (own := [("a", 2), ("b", 3)]) (g := gTup K 2 (gCons (gName 2) (gCons (gName 3) gNil))) (tt := tYes) rfl scLawLike.nd (RZ.pi_zipA rfl b_zip (pa_cons (pv 0) (pa_cons (pv 1) pa_nil))) (blkOk_by (own := [("a", 2), ("b", 3)]) (N := ["told", "due", "a", "b"]) (sc := defScope sLawLike) (by decide +kernel)) (fun _ _ _ _ _ => (pg_tup rfl (pgs_cons (pg_name (i := 2) scLawLike.nd rfl (.inl rfl) (.inr rfl)) (pgs_cons (pg_name (i := 3) scLawLike.nd rfl (.inl rfl) (.inr rfl)) pgs_nil)))) (fun _ _ _ _ _ => pts_nil) (fun _ _ _ _ _ => (pe_call G hr rfl g F.kp b .nil pass0 (pa_cons (pv 2) (pa_cons (pv 3) pa_nil))))) pa_nil))))))) pss_nil)
    (pss_cons (ps_if (PW.pt (pw_or (pt_cmpR op_isN (pv 1) pe_non (nomark _)) (pw_or1 (pt_cmpR op_isN (pv 0) pe_non (nomark _))))) (pss_one (ps_ret (pe_and (pe_cmpR op_isN (pv 1) pe_non (nomark _)) (pe_one (pe_cmpR op_isN (pv 0) pe_non (nomark _)))))) pss_nil)
    (pss_cons (ps_if (PW.pt (pw_or (pt_val (pe_callB call_isiT rfl b_isinstance (by decide +kernel) (pa_cons (pv 0) (pa_cons (pe_tup (pa_cons (pe_ty "list" rfl b_list (by decide +kernel)) (pa_cons (pe_ty "tuple" rfl b_tuple (by decide +kernel)) pa_nil))) pa_nil)))) (pw_or1 (pt_cmpR op_ne (pe_callB call_isi rfl b_isinstance (by decide +kernel) (pa_cons (pv 0) (pa_cons (pe_ty "bool" rfl b_bool (by decide +kernel)) pa_nil))) (pe_callB call_isi rfl b_isinstance (by decide +kernel) (pa_cons (pv 1) (pa_cons (pe_ty "bool" rfl b_bool (by decide +kernel)) pa_nil))) (nomark _))))) (pss_one (ps_ret pe_bl)) pss_nil)
    (pss_cons (ps_if (PW.pt (pw_or (pt_cmpR op_ne (pe_callB call_isi rfl b_isinstance (by decide +kernel) (pa_cons (pv 0) (pa_cons (pe_ty "str" rfl b_str (by decide +kernel)) pa_nil))) (pe_callB call_isi rfl b_isinstance (by decide +kernel) (pa_cons (pv 1) (pa_cons (pe_ty "str" rfl b_str (by decide +kernel)) pa_nil))) (nomark _)) (pw_or1 (pt_cmpR op_ne (pe_callB call_isi rfl b_isinstance (by decide +kernel) (pa_cons (pv 0) (pa_cons (pe_ty "int" rfl b_int (by decide +kernel)) pa_nil))) (pe_callB call_isi rfl b_isinstance (by decide +kernel) (pa_cons (pv 1) (pa_cons (pe_ty "int" rfl b_int (by decide +kernel)) pa_nil))) (nomark _))))) (pss_one (ps_ret pe_bl)) pss_nil)
    (pss_one (ps_ret (pe_cmpR op_eq (pv 0) (pv 1) (nomark _)))))))), ?_⟩
    rcases L with ⟨rfl, fl⟩ | ⟨a, c, xs, ys, rfl, rfl, hs, hl, hb, hi⟩
    · have hf : flat0 v := fl
      refine ⟨_, rfl, (by show 2 ≤ sizeLine; decide), fun p np => ⟨_, p, _, _, _, _, rfl, upd_same, cls2, ty_flat hf, kit_flat hf, _, rfl, iteF ?_⟩⟩
      have s1 : Same H (upd H p (.tup [.ty "list", .ty "tuple"])) := same_upd np
      refine ⟨v, rfl, rfl, _, rfl, ite2 (fun e => iteT ?_) (fun e => ⟨v, rfl, rfl, _, rfl, ite2 (fun e' => absurd e' e) (fun _ => ?_)⟩)⟩
      · refine ⟨v, rfl, rfl, _, rfl, ?_⟩
        rw [e]
        refine iteT ⟨v, rfl, rfl, ?_⟩
        rw [e]
        exact q _ s1
      · refine ⟨_, rfl, (by show 2 ≤ sizeLine; decide), fun p2 np2 => ⟨_, p2, _, _, _, _, rfl, upd_same, cls2, ty_flat hf, kit_flat hf, _, rfl, iteF ?_⟩⟩
        have s2 : Same H (upd (upd H p (.tup [.ty "list", .ty "tuple"])) p2 (.tup [.ty "list", .ty "tuple"])) := s1.trans (same_upd np2)
        obtain ⟨k1, e1⟩ := k1_flat (K := K) hf "bool" (.inl rfl)
        obtain ⟨k2, e2⟩ := k1_flat (K := K) hf "str" (.inr (.inl rfl))
        obtain ⟨k3, e3⟩ := k1_flat (K := K) hf "int" (.inr (.inr rfl))
        refine ⟨_, rfl, _, _, _, _, _, rfl, .ty _, ty_flat hf, e1, _, rfl, _, _, _, _, _, rfl, .ty _, ty_flat hf, e1, rfl, _, rfl, ?_⟩
        rw [decide_eq_true rfl]
        refine iteF ⟨_, rfl, _, _, _, _, _, rfl, .ty _, ty_flat hf, e2, _, rfl, _, _, _, _, _, rfl, .ty _, ty_flat hf, e2, rfl, _, rfl, ?_⟩
        rw [decide_eq_true rfl]
        refine iteF ⟨_, rfl, _, _, _, _, _, rfl, .ty _, ty_flat hf, e3, _, rfl, _, _, _, _, _, rfl, .ty _, ty_flat hf, e3, rfl, _, rfl, ?_⟩
        rw [decide_eq_true rfl]
        refine iteF ⟨_, rfl, _, rfl, ?_, ?_⟩
        · cases v <;> first | rfl | exact hf.elim
        · rw [decide_eq_true rfl]
          exact q _ s2
    · -- lists or tuples
      have hr1 : ∀ (i : Nat) x y, xs[i]? = some x → ys[i]? = some y → M H x y := hi
      obtain ⟨T, kt, k1, k2, tya, tyc, hlen, hlen'⟩ : ∃ T, PySem.W.kitAny K (.type T) [.type "list", .type "tuple"] = some true ∧ (∃ k1, PySem.W.kitOne K (.type T) (.type "list") = some k1) ∧ (∃ k2, PySem.W.kitOne K (.type T) (.type "tuple") = some k2) ∧ (∀ H', Same H H' → TyX K H' (.ref a) (.type T)) ∧ (∀ H', Same H H' → TyX K H' (.ref c) (.type T)) ∧ (∀ H', Same H H' → LenV K (.ref a) H' xs.length) ∧ (∀ H', Same H H' → LenV K (.ref c) H' ys.length) := by
        rcases hs with ⟨p, q⟩ | ⟨p, q⟩
        · exact ⟨"list", kit_ll, ⟨_, k1_ll⟩, ⟨_, k1_lt⟩, fun _ s => ty_list (s.seq p), fun _ s => ty_list (s.seq q), fun _ s => .inl ⟨_, s.seq p, rfl⟩, fun _ s => .inl ⟨_, s.seq q, rfl⟩⟩
        · exact ⟨"tuple", kit_tl, ⟨_, k1_tl⟩, ⟨_, k1_tt⟩, fun _ s => ty_tup (seqT_same s p), fun _ s => ty_tup (seqT_same s q), fun _ s => .inr ⟨_, seqT_same s p, rfl⟩, fun _ s => .inr ⟨_, seqT_same s q, rfl⟩⟩
      obtain ⟨k1, e1⟩ := k1
      obtain ⟨k2, e2⟩ := k2
      refine ⟨_, rfl, (by show 2 ≤ sizeLine; decide), fun p0 np => ⟨_, p0, _, _, _, _, rfl, upd_same, cls2, tyc _ (same_upd np), kt, _, rfl, iteT ?_⟩⟩
      have s1 : Same H (upd H p0 (.tup [.ty "list", .ty "tuple"])) := same_upd np
      refine ⟨_, rfl, _, _, _, _, _, rfl, .ty _, tya _ s1, e1, _, rfl, _, _, _, _, _, rfl, .ty _, tyc _ s1, e1, rfl, _, rfl, ?_⟩
      rw [decide_eq_true rfl]
      refine iteF ⟨_, rfl, _, _, _, _, _, rfl, .ty _, tya _ s1, e2, _, rfl, _, _, _, _, _, rfl, .ty _, tyc _ s1, e2, rfl, _, rfl, ?_⟩
      rw [decide_eq_true rfl]
      refine iteF ⟨_, rfl, _, _, rfl, hlen _ s1, _, rfl, _, _, rfl, hlen' _ s1, rfl, _, rfl, ?_⟩
      rw [hl, decide_eq_true rfl]
      refine iteT ⟨_, rfl, _, rfl, a, c, xs, ys, rfl, ?_⟩
      rcases hs with ⟨p, q'⟩ | ⟨p, q'⟩
      ·
        refine .inl ⟨Same.seq s1 p, Same.seq s1 q', fun D nD => lc_it (walk_zip (K := K) (a := a) (b := c) (by omega : xs.length = min xs.length ys.length)) (fun i H2 => Same (upd H p0 (.tup [.ty "list", .ty "tuple"])) H2 ∧ H2 D = some (.lst ((List.replicate i true).map V.bl))) ⟨same_upd nD, upd_same⟩ (fun i H2 _ h => ⟨Same.seq (s1.trans h.1) p, Same.seq (s1.trans h.1) q'⟩) ?_ ?_⟩
        · rintro i z H2 H3 hlt ⟨s2, hD⟩ ⟨T, x, y, rfl, nT, rfl, hx, hy⟩
          have nTD : D ≠ T := ne_of_none hD nT
          refine ⟨T, [x, y], rfl, SqT.of upd_same, rfl, x, [y], rfl, y, [], rfl, rfl, rfl, ?_⟩
          unfold tYes
          refine iteT ?_
          refine ⟨x, rfl, y, rfl, hM x y _ _ _ (hS _ _ _ _ ((s1.trans s2).trans (same_upd nT)) (hr1 i x y hx hy)) fun H4 s4 => ?_⟩
          have hD4 : H4 D = some (.lst ((List.replicate i true).map V.bl)) := s4 _ _ (by rw [upd_ne nTD]; exact hD)
          refine ⟨_, hD4, ?_, ?_, ?_⟩
          · rw [List.length_map, List.length_replicate]
            rw [sizeLine_eq]; omega
          · intro p' o' h'
            have nq : p' ≠ D := ne_of_none h' nD
            rw [upd_ne nq]
            exact s4 _ _ (same_upd nT _ _ (s2 _ _ h'))
          · rw [upd_same, List.replicate_succ', List.map_append]
            rfl
        · rintro H2 ⟨s2, hD⟩
          refine ⟨D, _, rfl, SqL.of hD, ?_⟩
          rw [all_true]
          exact q _ (s1.trans s2)
      ·
        refine .inr ⟨seqT_same s1 p, seqT_same s1 q', fun D nD => lc_it (walk_zipT (K := K) (a := a) (b := c) (by omega : xs.length = min xs.length ys.length)) (fun i H2 => Same (upd H p0 (.tup [.ty "list", .ty "tuple"])) H2 ∧ H2 D = some (.lst ((List.replicate i true).map V.bl))) ⟨same_upd nD, upd_same⟩ (fun i H2 _ h => ⟨seqT_same (s1.trans h.1) p, seqT_same (s1.trans h.1) q'⟩) ?_ ?_⟩
        · rintro i z H2 H3 hlt ⟨s2, hD⟩ ⟨T, x, y, rfl, nT, rfl, hx, hy⟩
          have nTD : D ≠ T := ne_of_none hD nT
          refine ⟨T, [x, y], rfl, SqT.of upd_same, rfl, x, [y], rfl, y, [], rfl, rfl, rfl, ?_⟩
          unfold tYes
          refine iteT ?_
          refine ⟨x, rfl, y, rfl, hM x y _ _ _ (hS _ _ _ _ ((s1.trans s2).trans (same_upd nT)) (hr1 i x y hx hy)) fun H4 s4 => ?_⟩
          have hD4 : H4 D = some (.lst ((List.replicate i true).map V.bl)) := s4 _ _ (by rw [upd_ne nTD]; exact hD)
          refine ⟨_, hD4, ?_, ?_, ?_⟩
          · rw [List.length_map, List.length_replicate]
            rw [sizeLine_eq]; omega
          · intro p' o' h'
            have nq : p' ≠ D := ne_of_none h' nD
            rw [upd_ne nq]
            exact s4 _ _ (same_upd nT _ _ (s2 _ _ h'))
          · rw [upd_same, List.replicate_succ', List.map_append]
            rfl
        · rintro H2 ⟨s2, hD⟩
          refine ⟨D, _, rfl, SqL.of hD, ?_⟩
          rw [all_true]
          exact q _ (s1.trans s2)

theorem ok_like {f : Addr} {fd : FuncData} (F : Fun K "_law_like" "_law_like" sLawLike f fd) (g : mg "_law_like" = some (.ref f)) (b : Binds K fd ["told", "due"] [])
    (b_isinstance : mg "isinstance" = none) (b_list : mg "list" = none) (b_tuple : mg "tuple" = none) (b_bool : mg "bool" = none) (b_str : mg "str" = none) (b_int : mg "int" = none) (b_len : mg "len" = none) (b_all : mg "all" = none) (b_zip : mg "zip" = none) :
    ∀ n : Nat, FnOk P w K mg base CX0 (n + 1) f fd ["told", "due"] (spLike K n) := by
  intro n
  induction n with
  | zero =>
    exact (like_step (M := fun _ _ _ => False) (R := fun _ _ _ _ => False) F g b b_isinstance b_list b_tuple b_bool b_str b_int b_len b_all b_zip FnOk.never (fun _ _ _ _ _ h _ => h) (fun _ _ _ _ _ h => h)).imp
      fun vs H Q E ⟨v, w', e, L, q⟩ => ⟨v, w', e, .inl L, q⟩
  | succ n ih =>
    exact (like_step (M := fun H v w => Lk K H n v w) F g b b_isinstance b_list b_tuple b_bool b_str b_int b_len b_all b_zip ih (fun v w H Q E h q => ⟨v, w, rfl, h, q⟩) (fun _ _ _ _ s h => h.same s)).imp
      fun vs H Q E ⟨v, w', e, L, q⟩ => ⟨v, w', e, L, q⟩
end
end My

set_option Elab.async false
set_option linter.all false
set_option maxRecDepth 100000
set_option maxHeartbeats 4000000
/-! errors of own classes over any base, as values -/
namespace My
open PySem PySem.Spec PyProof.Rows L2
open PySem.HandSPX (excO)
/-- what is asked of the built-in base -/
structure Base (B newId initId : String) (tail : List Value) : Prop where
  F : ExcBaseFacts B newId initId tail
  st : ∀ self : Value, refuseLoop self "__setattr__" tail = pure ()
  ob : tail.contains (.type "object") = true
  ne : tail.isEmpty = false
theorem bValue : Base "ValueError" "ValueError.__new__" "ValueError.__init__" [.type "ValueError", .type "Exception", .type "BaseException", .type "object"] := ⟨PySem.F.excBase_ValueError, PySem.F.store_ValueError.passes, by decide +kernel, rfl⟩
theorem bLookup : Base "LookupError" "LookupError.__new__" "LookupError.__init__" [.type "LookupError", .type "Exception", .type "BaseException", .type "object"] := ⟨PySem.F.excBase_LookupError, PySem.F.store_LookupError.passes, by decide +kernel, rfl⟩
theorem bRuntime : Base "RuntimeError" "RuntimeError.__new__" "RuntimeError.__init__" [.type "RuntimeError", .type "Exception", .type "BaseException", .type "object"] := ⟨PySem.F.excBase_RuntimeError, PySem.F.store_RuntimeError.passes, by decide +kernel, rfl⟩
/-- own classes, then the base's -/
def Refs (tail : List Value) (l : List Value) : Prop := ∃ cs : List Addr, l = cs.map Value.ref ++ tail
section
variable {B newId initId : String} {tail : List Value}
theorem Refs.cons {C : Addr} {l : List Value} (h : Refs tail l) : Refs tail (.ref C :: l) := by
  obtain ⟨cs, rfl⟩ := h
  exact ⟨C :: cs, rfl⟩
theorem refs_pass (b : Base B newId initId tail) (self : Value) {l : List Value} (h : Refs tail l) : refuseLoop self "__setattr__" l = pure () := by
  obtain ⟨cs, rfl⟩ := h
  induction cs with
  | nil => exact b.st self
  | cons c cs ih =>
    show refuseLoop self "__setattr__" (.ref c :: (cs.map Value.ref ++ tail)) = pure ()
    rw [refuseLoop_ref]
    exact ih
theorem refs_contains (X : String) {l : List Value} (h : Refs tail l) : l.contains (.type X) = tail.contains (.type X) := by
  obtain ⟨cs, rfl⟩ := h
  induction cs with
  | nil => rfl
  | cons c cs ih =>
    show (Value.ref c :: (cs.map Value.ref ++ tail)).contains (.type X) = _
    rw [List.contains_cons, ih]
    rfl
theorem refs_ne (b : Base B newId initId tail) {l : List Value} (h : Refs tail l) : l.isEmpty = false := by
  obtain ⟨cs, rfl⟩ := h
  cases cs with
  | nil => exact b.ne
  | cons _ _ => rfl
end
end My

set_option Elab.async false
set_option linter.all false
set_option maxRecDepth 100000
set_option maxHeartbeats 4000000
/-! a field of an error, stored -/
namespace My
open PySem PySem.Spec PyProof.Rows PySem.W PySem.Calls
open Builtin Builtin.ObjectAttr
section
variable {P : Program} {w : World} {A : Around} {E : Value → Shared → Prop} {R : Result → Shared → Prop} {hp : Heap} {gs : Array GenState} {dr : Drawn} {tk0 : Nat} {os : OsState}
variable {B newId initId : String} {tail : List Value}
theorem xset_new {K : W.Frag} {fld : Str} {tk : Tok} {v : Value} {x C : Addr} {fv : Array Value} {cd : ClassData} (b : Base B newId initId tail)
    (X : K.In hp) (at_ : hp.get? x = some { cls := .ref C, data := .fields fv }) (hcd : W.clsIn K C = some cd) (hm : Refs tail cd.mro) (hh : cd.hasDict = true) (free : W.findIn K (.ref C) fld = some none)
    (go : ∀ h' tk' dx, (∀ b o, b ≠ x → hp.get? b = some o → h'.get? b = some o) → hp.objs.size ≤ dx → dx ≠ x → h'.get? x = some { cls := .ref C, dict := some dx, data := .fields fv } →
      h'.Ns1 dx (fun y => if y = fld then some v else none) → R (.ok (.ret .none)) ⟨h', gs, dr, tk', os⟩) :
    codeAny (model P w) A (.call (.builtin "object.__setattr__") ⟨[.ref x, .str fld tk, v], []⟩) R ⟨hp, gs, dr, tk0, os⟩ := by
  have inst : W.InstAt hp x { cls := .ref C, data := .fields fv } C none := ⟨at_, rfl, rfl, trivial⟩
  have st := F.store_object
  have full := refs_ne b hm
  have obj : cd.mro.contains (.type "object") = true := (refs_contains "object" hm).trans b.ob
  have apart : x ≠ hp.objs.size := Nat.ne_of_lt (Heap.lt_size at_)
  have isO : W.Looks (model P w) hp (isInstance (.ref x) (.type "object")) true := inst.type.andThen (W.looks_mroIn X (by unfold W.mroIn; rw [hcd, Option.bind_some, if_neg (by rw [full]; decide), obj]))
  refine codeAny_call_builtin st.slot.plain st.entry (@W.check_slot (model P w) _ _ ⟨hp, gs, dr, tk0, os⟩ "object.__setattr__" "object" "__setattr__" (.ref x) [.str fld tk, v] [] _ st.kind st.split isO (st.args (.ref x) (.str fld tk) v) ?_)
  have mroL : W.Looks (model P w) hp (mroOf (.ref C)) cd.mro := (W.looks_clsIn X hcd).andThen .now
  have takeL : W.Looks (model P w) hp (storeTaker? none) none := .now
  have clsL : W.Looks (model P w) hp (classData C) cd := W.looks_clsIn X hcd
  rw [W.osa_eq, refuse_eq]
  refine wpAny_bind (wpAny_bind (inst.type.at (wpAny_bind (mroL.at ?_))))
  rw [refs_pass b _ hm]
  refine wpAny_pure (wpAny_bind (inst.type.at (wpAny_bind ((W.looks_findIn X free).at (wpAny_bind (takeL.at ?_))))))
  show wpAny _ _ (storeInOwnDict (.ref x) (.ref C) (.str fld tk) fld v false) _ _ _
  obtain ⟨nm, bs, mro, ns, qn, hd, sn, sb, ab, col, del⟩ := cd
  dsimp only at hh
  subst hh
  unfold storeInOwnDict ownDictForStores
  repeat (first | with_reducible refine PySem.HandSPX.store_in_new ?_ ?_ | with_reducible refine wpAny_loadPart_at at_ ?_ | with_reducible refine clsL.at ?_ | wp_step)
  · exact ⟨_, #[], _, (Heap.get?_update_ne _ _ _ _ apart.symm).trans (Heap.get?_push_at rfl rfl), rfl, fun e he => absurd he (by simp), fun _ => rfl⟩
  · intro h' tk' ns' same
    have at2 : (hp.push { cls := .type "dict", data := .dict #[] }).get? x = some { cls := .ref C, data := .fields fv } := Heap.get?_push_of_some _ at_
    refine go h' tk' hp.objs.size (fun b o hb ho => ?_) (Nat.le_refl _) apart.symm ?_ ns'
    · exact (same.2 b (Nat.ne_of_lt (Heap.lt_size ho))).trans ((Heap.get?_update_ne _ _ _ _ hb).trans (Heap.get?_push_of_some _ ho))
    · exact (same.2 x apart).trans (Heap.get?_update_self _ at2 rfl)
theorem xset_old {K : W.Frag} {fld : Str} {tk : Tok} {v : Value} {x C dx : Addr} {fv : Array Value} {cd : ClassData} {m0 : Str → Option Value} {nl : List Str} (b : Base B newId initId tail)
    (X : K.In hp) (at_ : hp.get? x = some { cls := .ref C, dict := some dx, data := .fields fv }) (hns : hp.Ns1 dx m0) (hw : Within m0 nl) (hz : nl.length ≤ 1000) (hcd : W.clsIn K C = some cd) (hm : Refs tail cd.mro) (hh : cd.hasDict = true)
    (free : W.findIn K (.ref C) fld = some none)
    (go : ∀ h' tk', (∀ b o, b ≠ dx → hp.get? b = some o → h'.get? b = some o) → h'.Ns1 dx (fun y => if y = fld then some v else m0 y) → R (.ok (.ret .none)) ⟨h', gs, dr, tk', os⟩) :
    codeAny (model P w) A (.call (.builtin "object.__setattr__") ⟨[.ref x, .str fld tk, v], []⟩) R ⟨hp, gs, dr, tk0, os⟩ := by
  obtain ⟨oD, esD, epD, hoD, hdD, _⟩ := hns.count hw
  have inst : W.InstAt hp x { cls := .ref C, dict := some dx, data := .fields fv } C (some oD) := ⟨at_, rfl, rfl, hoD⟩
  have st := F.store_object
  have full := refs_ne b hm
  have obj : cd.mro.contains (.type "object") = true := (refs_contains "object" hm).trans b.ob
  have isO : W.Looks (model P w) hp (isInstance (.ref x) (.type "object")) true := inst.type.andThen (W.looks_mroIn X (by unfold W.mroIn; rw [hcd, Option.bind_some, if_neg (by rw [full]; decide), obj]))
  refine codeAny_call_builtin st.slot.plain st.entry (@W.check_slot (model P w) _ _ ⟨hp, gs, dr, tk0, os⟩ "object.__setattr__" "object" "__setattr__" (.ref x) [.str fld tk, v] [] _ st.kind st.split isO (st.args (.ref x) (.str fld tk) v) ?_)
  have mroL : W.Looks (model P w) hp (mroOf (.ref C)) cd.mro := (W.looks_clsIn X hcd).andThen .now
  have takeL : W.Looks (model P w) hp (storeTaker? none) none := .now
  have clsL : W.Looks (model P w) hp (classData C) cd := W.looks_clsIn X hcd
  rw [W.osa_eq, refuse_eq]
  refine wpAny_bind (wpAny_bind (inst.type.at (wpAny_bind (mroL.at ?_))))
  rw [refs_pass b _ hm]
  refine wpAny_pure (wpAny_bind (inst.type.at (wpAny_bind ((W.looks_findIn X free).at (wpAny_bind (takeL.at ?_))))))
  show wpAny _ _ (storeInOwnDict (.ref x) (.ref C) (.str fld tk) fld v false) _ _ _
  obtain ⟨nm, bs, mro, ns, qn, hd, sn, sb, ab, col, del⟩ := cd
  dsimp only at hh
  subst hh
  unfold storeInOwnDict ownDictForStores
  repeat (first | with_reducible refine PySem.OEX.store_in_old hns hw hz ?_ | with_reducible refine wpAny_loadPart_at at_ ?_ | with_reducible refine clsL.at ?_ | wp_step)
  intro h' tk' ns' same
  exact go h' tk' (fun b o hb ho => (same.2 b hb).trans ho) ns'
end
end My

set_option Elab.async false
set_option linter.all false
set_option maxRecDepth 100000
set_option maxHeartbeats 4000000
/-! C(e, .., k = v, ..) of an own class of errors with an own __init__ -/
namespace PySem
namespace MyX
open Builtin Builtin.ObjectAttr PyProof.Rows PySem.Calls
open PySem.HandSPX (excO)
section
variable {P : Program} {w : World} {M : Model} {A : Around} {E : Value → Shared → Prop} {R : Result → Shared → Prop} {hp : Heap} {gs : Array GenState} {dr : Drawn} {tk : Nat} {os : OsState}
variable {nm qn : Str} {C N : Addr} {bs bm tail : List Value} {hasD : Bool} {sn : List Str} {sub : List Value} {ab : Bool} {col : Option Bool} {dd : Option Addr} {k0 k1 k2 k3 k5 : Option Value} {B newId initId : String}
theorem xnew_check (F : ExcBaseFacts B newId initId tail) (hT : ∀ X : String, bm.contains (.type X) = tail.contains (.type X)) {us : List Value} {kw : List (Str × Value)} {Q : Unit → Shared → Prop}
    (cls : hp.get? C = some (excClassObj nm qn C N bs bm hasD sn sub ab col dd k0 k1 k2 k3 k5 newId)) (go : Q () ⟨hp, gs, dr, tk, os⟩) : wpAny M A (checkBuiltinCall newId ⟨.ref C :: us, kw⟩) Q E ⟨hp, gs, dr, tk, os⟩ := by
  have isB : (Value.ref C :: bm).contains (.type B) = true := by rw [List.contains_cons, hT, F.hasB, Bool.or_true]
  have star := F.noStar
  simp only [checkBuiltinCall, F.newKind, F.newSplit, F.newRow]
  repeat (first | refine wpAny_loadPart_at cls ?_ | (refine wpAny_isSubtype_exc cls ?_; rw [isB]) | refine wpAny_staticBase_exc cls ?_ | refine wpAny_madeBy_exc cls ?_ | simp only [bne_self_eq_false, Bool.false_eq_true, if_false] | wp_step)
  exact go
theorem xnew_run (F : ExcBaseFacts B newId initId tail) (hT : ∀ X : String, bm.contains (.type X) = tail.contains (.type X)) {us : List Value} {kw : List (Str × Value)}
    (cls : hp.get? C = some (excClassObj nm qn C N bs bm hasD sn sub ab col dd k0 k1 k2 k3 k5 newId))
    (go : R (.ok (.ret (.ref (hp.objs.size + 1)))) ⟨(hp.push { cls := .type "tuple", data := .seq us.toArray }).push { cls := .ref C, data := .fields #[.ref hp.objs.size, .none, .none, .none, .bool false, .none] }, gs, dr, tk, os⟩) (lim : us.length ≤ sizeLine) :
    codeAny (model P w) A (.builtin newId ⟨.ref C :: us, kw⟩) R ⟨hp, gs, dr, tk, os⟩ := by
  have ends := F.ends
  have isB : (Value.ref C :: bm).contains (.type B) = true := by rw [List.contains_cons, hT, F.hasB, Bool.or_true]
  have noA : (Value.ref C :: bm).contains (.type "AttributeError") = false := by rw [List.contains_cons, hT, F.noAttr]; rfl
  have noN : (Value.ref C :: bm).contains (.type "NameError") = false := by rw [List.contains_cons, hT, F.noName]; rfl
  refine codeAny_builtinAt F.entry ?_
  unfold Builtin.«BaseException.__new__»
  refine wpAt_bind ?_
  show wpAt _ _ _ (stack >>= _) _ _ _
  refine wpAt_bind (wpAt_stack fun p below => wpAt_of_wpAny ?_)
  wp_walk
  refine wpAt_of_wpAny ?_
  rw [F.owner]
  repeat (first | with_reducible refine wpAny_madeHere_exc F.canon cls ?_ | with_reducible refine wpAny_loadPart_at cls ?_ | (with_reducible refine wpAny_isSubtype_exc cls ?_; first | rw [isB] | rw [noA] | rw [noN]) | wp_step)
  show R _ _
  rw [Heap.size_push]
  exact go
theorem xcall_tree (F : ExcBaseFacts B newId initId tail) (hT : ∀ X : String, bm.contains (.type X) = tail.contains (.type X)) {us : List Value} {kw : List (Str × Value)} {fI : Addr} {Q : Fin → Shared → Prop}
    (cls : hp.get? C = some (excClassObj nm qn C N bs bm hasD sn sub ab col dd k0 k1 k2 k3 k5 newId))
    (ini : W.Looks (model P w) hp (typeLookup (.ref C) "__init__") (some (.ref fI))) (bnd : ∀ self, W.Looks (model P w) hp (bindSpecial (.ref fI) self) (.ref fI, [self])) (lim : us.length ≤ sizeLine)
    (go : codeAny (model P w) A (.call (.ref fI) ⟨.ref (hp.objs.size + 1) :: us, kw⟩)
      (fun r s' => match r with | .ok (.ret v) => v = .none ∧ Q (.done (.ret (.ref (hp.objs.size + 1)))) s' | .ok _ => False | .error e => E e s')
      ⟨(hp.push (W.kdv_tup us)).push (excO C hp.objs.size), gs, dr, tk, os⟩) :
    wpAny (model P w) A (Builtin.«type.__call__» ⟨.ref C :: us, kw⟩) Q E ⟨hp, gs, dr, tk, os⟩ := by
  repeat (first | with_reducible refine wpAny_loadPart_at cls ?_ | with_reducible refine wpAny_madeBy_exc cls ?_ | wp_step)
  refine codeAny_call_builtin_code (Code.quiet_builtin _ F.quiet) (xnew_check F hT cls ?_)
  refine xnew_run F hT cls ?_ lim
  show wpAny _ _ _ _ _ _
  have up : ∀ b o, hp.get? b = some o → ((hp.push (W.kdv_tup us)).push (excO C hp.objs.size)).get? b = some o := fun b o e => Heap.get?_push_of_some _ (Heap.get?_push_of_some _ e)
  have cls1 := up _ _ cls
  have obj : ((hp.push (W.kdv_tup us)).push (excO C hp.objs.size)).get? (hp.objs.size + 1) = some (excO C hp.objs.size) := by heap_get
  have isC : (Value.ref C :: bm).contains (.ref C) = true := by simp
  have ini1 := ini.keeps up
  have bnd1 := (bnd (.ref (hp.objs.size + 1))).keeps up
  unfold isInstance
  repeat (first | with_reducible refine wpAny_loadPart_at obj ?_ | (with_reducible refine wpAny_isSubtype_exc cls1 ?_; rw [isC]) | wp_step)
  show wpAny _ _ (typeLookup (.ref C) _) _ _ _
  refine ini1.at ?_
  refine wpAny_holding (wpAny_bind (bnd1.at ?_))
  refine wpAny_bind (wpAny_call (codeAny_mono go fun r s' z => ?_))
  rcases r with e | (v | _ | _ | _) <;> first | exact z | exact z.elim | skip
  obtain ⟨rfl, z⟩ := z
  first
    | exact wpAny_pure (wpAny_pure z)
    | (wp_walk; exact z)
theorem xcheck_type {us : List Value} {kw : List (Str × Value)} {Q : Unit → Shared → Prop} (cls : hp.get? C = some (excClassObj nm qn C N bs bm hasD sn sub ab col dd k0 k1 k2 k3 k5 newId))
    (go : Q () ⟨hp, gs, dr, tk, os⟩) : wpAny M A (checkBuiltinCall "type.__call__" ⟨.ref C :: us, kw⟩) Q E ⟨hp, gs, dr, tk, os⟩ := by
  have f3 := tc_sub
  have isT : (⟨hp, gs, dr, tk, os⟩ : Shared).TypeIs (.ref C) "type" := ⟨_, cls, rfl⟩
  simp only [checkBuiltinCall, tc_kind, tc_split]
  repeat (any_goals (first | assumption | with_reducible refine wpAny_loadPart_at cls ?_ | with_reducible refine wpAny_onRaise ?_ | with_reducible refine wpAny_map ?_ | wp_step))
theorem xcall (F : ExcBaseFacts B newId initId tail) (hT : ∀ X : String, bm.contains (.type X) = tail.contains (.type X)) {us : List Value} {kw : List (Str × Value)} {fI : Addr}
    (cls : hp.get? C = some (excClassObj nm qn C N bs bm hasD sn sub ab col dd k0 k1 k2 k3 k5 newId))
    (ini : W.Looks (model P w) hp (typeLookup (.ref C) "__init__") (some (.ref fI))) (bnd : ∀ self, W.Looks (model P w) hp (bindSpecial (.ref fI) self) (.ref fI, [self])) (lim : us.length ≤ sizeLine)
    (go : codeAny (model P w) (A.under (.builtin "type.__call__" ⟨.ref C :: us, kw⟩)) (.call (.ref fI) ⟨.ref (hp.objs.size + 1) :: us, kw⟩) (W.InitBack (hp.objs.size + 1) R)
      ⟨(hp.push (W.kdv_tup us)).push (excO C hp.objs.size), gs, dr, tk, os⟩) :
    codeAny (model P w) A (.call (.ref C) ⟨us, kw⟩) R ⟨hp, gs, dr, tk, os⟩ := by
  have f1 := tc_lookup
  have f2 := tc_bind (.ref C)
  have isT : (⟨hp, gs, dr, tk, os⟩ : Shared).TypeIs (.ref C) "type" := ⟨_, cls, rfl⟩
  refine codeAny_of_tree ?_
  show wpAny _ _ (callAny (.ref C) _) _ _ _
  repeat (any_goals (first | assumption | with_reducible refine wpAny_loadPart_at cls ?_ | wp_step))
  refine ⟨rfl, ?_⟩
  refine codeAny_call_builtin_at (Code.quiet_builtin _ (by decide +kernel)) entry_typeCall (xcheck_type cls (xcall_tree F hT cls ini bnd lim ?_))
  refine codeAny_mono go fun r s' z => ?_
  rcases r with e | (v | _ | _ | _) <;> exact z
end
end MyX
end PySem

set_option Elab.async false
set_option linter.all false
set_option maxRecDepth 100000
set_option maxHeartbeats 4000000
/-! errors as values: made, their fields stored and read, isinstance -/
namespace My
open PySem PySem.Spec PyProof.Rows L2
open PySem.HandSPX (excO)
/-- what the written part says of the class -/
structure ErrK (K : PySem.W.Frag) (C : Addr) : Prop where
  cls : ∃ (B newId initId : String) (tail : List Value) (nm q : Str) (N : Addr) (bs bm : List Value) (sn : List Str) (sub : List Value) (ab : Bool) (col : Option Bool) (dd : Option Addr) (k0 k1 k2 k3 k5 : Option Value),
    Base B newId initId tail ∧ K.lookup C = some (excClassObj nm q C N bs bm true sn sub ab col dd k0 k1 k2 k3 k5 newId) ∧ Refs tail bm
  sa : PySem.W.findIn K (.ref C) "__setattr__" = some (some (.builtin "object.__setattr__"))
  tyC : PySem.W.typeIn K (.ref C) = some (.type "type")
  kC : PySem.W.keepIn K (.ref C) = true
  x : XfC K C
  e : ExcC K C
section
variable {X : Cx} {pins : List (Addr × Obj)} {σ : L2.St} {H : Hp} {s : Shared} {a C dx : Addr} {f : Str} {y : V} {u : Value} {fs : List (Str × V)} {Q : Unit → Shared → Prop} {E : Value → Shared → Prop} {A : Around}
theorem xst_new (T : ErrK X.K C) (I : Inv X pins σ H s) (e : H a = some (exo a C none)) (hno : PySem.W.findIn X.K (.ref C) f = some none) (ry : RelV y u)
    (go : ∀ dx s', H dx = none → dx ≠ a → Inv X pins σ (upd (upd H dx (exd dx [(f, y)])) a (exo a C (some dx))) s' → Q () s') : wpAny (model X.prog X.w) A (setAttr (.ref a) f u) Q E s := by
  obtain ⟨B, newId, initId, tail, nm, q, N, bs, bm, sn, sub, ab, col, dd, k0, k1, k2, k3, k5, b, lk, rf⟩ := T.cls
  have cd : PySem.W.clsIn X.K C = some { name := nm, bases := bs, mro := .ref C :: bm, ns := N, qualname := q, hasDict := true, slotNames := sn, subclasses := sub, abstract := ab, collection := col, hasDel := false } := by unfold PySem.W.clsIn; rw [lk] <;> rfl
  obtain ⟨t1, ho⟩ := exo_at I.hok e
  obtain ⟨hp, g, dr, tk, os⟩ := s
  refine PySem.W.set_plain I.kIn (ox := { cls := .ref C, dict := none, data := .fields #[.ref t1, .none, .none, .none, .bool false, .none] }) (od := none) ⟨ho, rfl, rfl, trivial⟩ T.sa ?_
  refine xset_new b I.kIn ho cd (show Refs tail (.ref C :: bm) from rf.cons) rfl hno (fun h' tk' dx k dn dne hx hn => ?_)
  have nod : H dx = none := I.hok.fresh dn
  have ned : ∀ {b : Addr} {o : Obj}, hp.get? b = some o → b ≠ dx := fun {b o} q => Nat.ne_of_lt (Nat.lt_of_lt_of_le (Heap.lt_size q) dn)
  have nea : ∀ {b : Addr}, H b = none → b ≠ a := fun {b} n z => by
    rw [z, e] at n
    cases n
  have U : Un X.fs [] H (upd (upd H dx (exd dx [(f, y)])) a (exo a C (some dx))) hp h' := {
    keep := fun b o q n _ _ => k b o (nea n) q
    slot := fun b o q n _ _ => ⟨o.slots, k b o (nea n) q⟩
    free := fun b o q n _ => by rw [upd_ne (nea n), upd_ne (ned q)]; exact n
    there := fun b o q _ => by
      by_cases hb : b = a
      · exact ⟨_, by rw [hb]; exact hx⟩
      · exact ⟨o, k b o hb q⟩
    tups := fun b xs q => by rw [upd_ne (at_ne e q exo_tup), upd_ne (ne_of_none q nod)]; exact q
    frzs := fun b o v q => by rw [upd_ne (at_ne e q exo_frz), upd_ne (ne_of_none q nod)]; exact q
    tbls := fun b ps q => ⟨#[], by rw [upd_ne (at_ne e q exo_tbl), upd_ne (ne_of_none q nod), q]; simp⟩ }
  refine go dx _ nod dne (I.un (t' := tk') U fun b o q => ?_)
  by_cases hb : b = a
  · subst hb
    rw [upd_same] at q
    cases q
    exact exo_ok hx
  · rw [upd_ne hb] at q
    by_cases hd : b = dx
    · subst hd
      rw [upd_same] at q
      cases q
      exact exd_ok hn (relO_put (fs := []) ry fun g => True.intro)
    · rw [upd_ne hd] at q
      have nb : ∀ {c : Addr}, c = b ∨ H c = some (.own b) → c ≠ a := fun {c} hc => by
        rcases hc with hc | hc
        · rw [hc]
          exact hb
        · exact at_ne e hc exo_own
      exact (I.hok b o q).stay (fun c v hc z => k c v (nb hc) z)
        (fun c hc => by rw [upd_ne (at_ne e hc exo_own), upd_ne (ne_of_none hc nod)]; exact hc) (fun c xs hc => by rw [upd_ne (at_ne e hc exo_tup), upd_ne (ne_of_none hc nod)]; exact hc)
theorem xst_old (T : ErrK X.K C) (I : Inv X pins σ H s) (e : H a = some (exo a C (some dx))) (ed : H dx = some (exd dx fs)) (hl : fs.length ≤ 900) (hno : PySem.W.findIn X.K (.ref C) f = some none) (ry : RelV y u)
    (go : ∀ s', Inv X pins σ (upd H dx (exd dx ((f, y) :: fs))) s' → Q () s') : wpAny (model X.prog X.w) A (setAttr (.ref a) f u) Q E s := by
  obtain ⟨B, newId, initId, tail, nm, q, N, bs, bm, sn, sub, ab, col, dd, k0, k1, k2, k3, k5, b, lk, rf⟩ := T.cls
  have cd : PySem.W.clsIn X.K C = some { name := nm, bases := bs, mro := .ref C :: bm, ns := N, qualname := q, hasDict := true, slotNames := sn, subclasses := sub, abstract := ab, collection := col, hasDel := false } := by unfold PySem.W.clsIn; rw [lk] <;> rfl
  obtain ⟨t1, ho⟩ := exo_at I.hok e
  obtain ⟨mA, hns, rel⟩ := exd_at I.hok ed
  have hw := within_of rel
  obtain ⟨hp, g, dr, tk, os⟩ := s
  obtain ⟨oD, _, _, hoD, _, _⟩ := hns.count hw
  refine PySem.W.set_plain I.kIn (ox := { cls := .ref C, dict := some dx, data := .fields #[.ref t1, .none, .none, .none, .bool false, .none] }) (od := some oD) ⟨ho, rfl, rfl, hoD⟩ T.sa ?_
  refine xset_old b I.kIn ho hns hw (by rw [List.length_map]; omega) cd (show Refs tail (.ref C :: bm) from rf.cons) rfl hno (fun h' tk' k hn => ?_)
  have there : ∃ o, h'.get? dx = some o := by
    obtain ⟨o, _, _, e', _⟩ := hn
    exact ⟨o, e'⟩
  exact go _ (I.write (t' := tk') (x := dx) (e := dx) (o := exd dx ((f, y) :: fs)) (by rw [ed]; exact True.intro) (.inl rfl) k there (exd_ok hn (relO_put ry rel)))
end
/-- self.f = e of an error -/
def tStX (K : PySem.W.Frag) (f : Str) (to te : TE) : TS := fun D σ H => te σ H fun y H1 => to σ H1 fun x H2 => ∃ a C : Addr, x = .ref a ∧ ErrK K C ∧ PySem.W.findIn K (.ref C) f = some none ∧
  ((H2 a = some (exo a C none) ∧ ∀ dx, H2 dx = none → dx ≠ a → D.nx σ (upd (upd H2 dx (exd dx [(f, y)])) a (exo a C (some dx)))) ∨
    ∃ (dx : Addr) (fs : List (Str × V)), H2 a = some (exo a C (some dx)) ∧ H2 dx = some (exd dx fs) ∧ fs.length ≤ 900 ∧ D.nx σ (upd H2 dx (exd dx ((f, y) :: fs))))
/-- an error that is made -/
def tMkX (C : Addr) (sp : Sp) (ta : TA) : TE := fun σ H Q => ta σ H fun vs H1 => vs.length ≤ 1000 ∧ ∀ a, H1 a = none → sp (.ref a :: vs) (upd H1 a (exo a C none)) (fun v H2 => v = .non ∧ Q (.ref a) H2) (fun _ _ _ => False)
/-- the same by keywords: in which order they are bound -/
def tMkXK (C : Addr) (m : Nat) (sp : Sp) (gV : List V → List V → List V) (tk : TA) : TE := fun σ H Q => tk σ H fun zs H1 => zs.length = m ∧ ∀ a, H1 a = none → sp (gV [.ref a] zs) (upd H1 a (exo a C none)) (fun v H2 => v = .non ∧ Q (.ref a) H2) (fun _ _ _ => False)
section
variable {X : Cx} {o e : Expr} {es : List Expr} {to te : TE} {ta tk : TA} {f x : Str} {p p' pos : Pos} {CX : CXT} {k : Nat} {C fI : Addr} {fd : FuncData} {ps ks : List Str} {sp : Sp} {kws : List Keyword} {g : List Value → List Value → List Value} {gV : List V → List V → List V}
theorem ps_fldX (ho : PE X o to) (he : PE X e te) (hs : swapsWith e (some (.Attribute o f p')) pos.line X.env = pure false := by rfl) : PS X (.Assign [.Attribute o f p'] e pos) (tStX X.K f to te) := by
  refine ⟨fun pins s σ H D I h => ?_⟩
  refine plainObj_wpAny_Assign_Attribute (thn (he.run pins s σ H _ I h) fun v s1 ⟨y, H1, I1, r1, q1⟩ => thn (ho.run pins s1 σ H1 _ I1 q1) fun u s2 ⟨x, H2, I2, r2, a, C, ex, T, hno, q⟩ => ?_) hs
  subst ex
  obtain rfl : u = Value.ref a := r2
  rcases q with ⟨ea, q⟩ | ⟨dx, fs, ea, ed, hl, q⟩
  · exact xst_new T I2 ea hno r1 fun dx s' n ne J => ⟨σ, _, J, q dx n ne⟩
  · exact xst_old T I2 ea ed hl hno r1 fun s' J => ⟨σ, _, J, q⟩
/-- the making, by values -/
theorem run_mkX {pins : List (Addr × Obj)} {σ : L2.St} {H1 : Hp} {s : Shared} {Q : VK} {us ws : List Value} {vs zs : List V} (T : ErrK X.K C) (iC : PySem.W.findIn X.K (.ref C) "__init__" = some (some (.ref fI))) (tI : PySem.W.typeIn X.K (.ref fI) = some (.type "function"))
    (F1 : FnOk X.prog X.w X.K X.mg X.base CX k fI fd ps sp) (hr : Room (k + 1) X.A) (hb : KBn X.K fd ps (vs.length + 1) ks g gV) (hx : Passes CX X (fun _ _ _ => False)) (I1 : Inv X pins σ H1 s) (r1 : Vals vs us) (rz : Vals zs ws) (lim : vs.length ≤ 1000) (lz : zs.length = ks.length)
    (go : ∀ a, H1 a = none → sp (gV (.ref a :: vs) zs) (upd H1 a (exo a C none)) (fun v H2 => v = .non ∧ Q (.ref a) H2) (fun _ _ _ => False)) : wpAny (model X.prog X.w) X.A (call (.ref C) us (ks.zip ws)) (EP X pins σ Q) X.xe s := by
  obtain ⟨B, newId, initId, tail, nm, q, N, bs, bm, sn, sub, ab, col, dd, k0, k1, k2, k3, k5, b, lk, rf⟩ := T.cls
  obtain ⟨hp, gs, dr, tk, os⟩ := s
  have up1 : hp.objs.size ≤ hp.objs.size + 1 := Nat.le_succ _
  have new : H1 (hp.objs.size + 1) = none := I1.hok.fresh up1
  have hq := go (hp.objs.size + 1) new
  have keep : ∀ b o, hp.get? b = some o → ((hp.push (PySem.W.kdv_tup us)).push (excO C hp.objs.size)).get? b = some o := fun b o e => Heap.get?_push_of_some _ (Heap.get?_push_of_some _ e)
  have here : ((hp.push (PySem.W.kdv_tup us)).push (excO C hp.objs.size)).get? (hp.objs.size + 1) = some (excO C hp.objs.size) := by heap_get
  have I2 : Inv X pins σ (upd H1 (hp.objs.size + 1) (exo (hp.objs.size + 1) C none)) ⟨(hp.push (PySem.W.kdv_tup us)).push (excO C hp.objs.size), gs, dr, tk, os⟩ := I1.laid (t' := tk) keep up1 (exo_ok here)
  have r2 : Vals (V.ref (hp.objs.size + 1) :: vs) (Value.ref (hp.objs.size + 1) :: us) := .cons rfl r1
  have n1 : (Value.ref (hp.objs.size + 1) :: us).length = vs.length + 1 := by rw [List.length_cons, ← Paired.length r1]
  have n2 : ws.length = ks.length := (Paired.length rz).symm.trans lz
  refine wpAny_call (PySem.MyX.xcall b.F (fun Y => refs_contains Y rf) (I1.kIn _ _ lk) (PySem.W.looks_findIn I1.kIn iC) (fun self => PySem.W.bind_fn I1.kIn self tI) (by rw [← Paired.length r1, sizeLine_eq]; omega)
    (codeAny_mono (F1.run _ X.stack _ _ ⟨Value.ref (hp.objs.size + 1) :: us, ks.zip ws⟩ (g (Value.ref (hp.objs.size + 1) :: us) ws) _ _ (fun _ _ _ => False) (hr.make C us (ks.zip ws)) (I2.env0.make C us (ks.zip ws)) (hb.to _ (Value.ref (hp.objs.size + 1) :: us) ws I2.kIn n1 n2) (hb.rel r2 rz) hq) fun r s' hq' => ?_))
  cases r with
  | error er => exact hx pins σ _ _ er s' I2 hq'
  | ok fl =>
    cases fl with
    | ret u =>
      obtain ⟨v, H', I3, rv, ev, q3⟩ := I2.after hq'
      subst ev
      exact ⟨rv, ⟨V.ref (hp.objs.size + 1), H', I3, rfl, q3⟩⟩
    | next => exact False.elim hq'
    | brk => exact False.elim hq'
    | cont => exact False.elim hq'
/-- by place alone: no keywords -/
theorem kbn_pos {K : PySem.W.Frag} {n : Nat} (hb : Binds K fd ps []) (hl : ps.length = n) : KBn K fd ps n [] (fun us _ => us) (fun vs _ => vs) := by
  refine ⟨fun s us ws X l1 l2 => ?_, fun r _ => r⟩
  obtain rfl : ws = [] := List.eq_nil_of_length_eq_zero l2
  have z := hb s us X (by rw [List.append_nil, l1, hl])
  rw [List.append_nil] at z
  exact z
/-- C(e, ..) -/
theorem pe_mkX (T : ErrK X.K C) (iC : PySem.W.findIn X.K (.ref C) "__init__" = some (some (.ref fI))) (tI : PySem.W.typeIn X.K (.ref fI) = some (.type "function"))
    (F1 : FnOk X.prog X.w X.K X.mg X.base CX k fI fd ps sp) (hr : Room (k + 1) X.A) (hb : Binds X.K fd ps []) (hx : Passes CX X (fun _ _ _ => False)) (hg : Gl X x) (hm : X.mg x = some (.ref C)) (ha : PA X (e :: es) ta)
    (hdb : (x == ("__debug__" : Str)) = false := by decide) (he : starEach (e :: es) X.env = (false, eval e X.env) :: starEach es X.env := by rfl) (hpl : (backTo pos (starEach es X.env)).any (·.1) = false := by rfl) :
    PE X (.Call (.Name x p) (e :: es) [] pos) (tMkX C sp ta) := by
  refine ⟨fun pins s σ H Q I h => ?_⟩
  refine wpAny_Call_Name_kw (ld_glob I hg hm ?_ hdb)
  refine PySem.W.callWith_K (h₀ := X.base) I.ok.mod.kin T.kC (thn (ha.run pos pins s σ H _ I h) fun us s1 ⟨vs, H1, I1, r1, lim, q1⟩ => ⟨I1.kIn, ?_⟩) he hpl
  have len : ps.length = vs.length + 1 := by
    have z := F1.len _ _ _ _ (q1 (s1.heap.objs.size) (I1.hok.fresh (Nat.le_refl _)))
    rw [← z]
    rfl
  exact run_mkX (ks := []) (ws := []) (zs := []) T iC tI F1 hr (kbn_pos hb len) hx I1 r1 .nil lim rfl q1
/-- C() -/
theorem pe_mkX0 (T : ErrK X.K C) (iC : PySem.W.findIn X.K (.ref C) "__init__" = some (some (.ref fI))) (tI : PySem.W.typeIn X.K (.ref fI) = some (.type "function"))
    (F1 : FnOk X.prog X.w X.K X.mg X.base CX k fI fd ps sp) (hr : Room (k + 1) X.A) (hb : Binds X.K fd ps []) (hl : ps.length = 1) (hx : Passes CX X (fun _ _ _ => False)) (hg : Gl X x) (hm : X.mg x = some (.ref C))
    (hdb : (x == ("__debug__" : Str)) = false := by decide) (hpl : ((backTo pos (starEach [] X.env)).any (·.1) || (backToKw pos (keywordEach [] X.env)).any (·.1.isNone)) = false := by rfl) :
    PE X (.Call (.Name x p) [] [] pos) (tMkX C sp tNil) := by
  refine ⟨fun pins s σ H Q I h => ?_⟩
  obtain ⟨_, q1⟩ := h
  refine wpAny_Call_Name_kw (ld_glob I hg hm ?_ hdb)
  refine PySem.W.callWith_KW0 (h₀ := X.base) I.ok.mod.kin T.kC (by rfl) ?_ hpl
  refine wpAny_evalAll_nil ⟨I.kIn, ?_⟩
  exact run_mkX (us := []) (vs := []) (ks := []) (ws := []) (zs := []) T iC tI F1 hr (kbn_pos hb hl) hx (I.tok _) .nil .nil (Nat.zero_le _) rfl q1
/-- C(k = v, ..) -/
theorem pe_mkXK (T : ErrK X.K C) (iC : PySem.W.findIn X.K (.ref C) "__init__" = some (some (.ref fI))) (tI : PySem.W.typeIn X.K (.ref fI) = some (.type "function"))
    (F1 : FnOk X.prog X.w X.K X.mg X.base CX k fI fd ps sp) (hr : Room (k + 1) X.A) (hb : KBn X.K fd ps 1 ks g gV) (hx : Passes CX X (fun _ _ _ => False)) (hg : Gl X x) (hm : X.mg x = some (.ref C)) (hkw : PK X kws tk)
    (hall : (backToKw pos (keywordEach kws X.env)).all (·.1.isSome) = true := by rfl) (hks : (backToKw pos (keywordEach kws X.env)).filterMap (·.1) = ks := by rfl) (hdb : (x == ("__debug__" : Str)) = false := by decide)
    (hpl : ((backTo pos (starEach [] X.env)).any (·.1) || (backToKw pos (keywordEach kws X.env)).any (·.1.isNone)) = false := by rfl) :
    PE X (.Call (.Name x p) [] kws pos) (tMkXK C ks.length sp gV tk) := by
  refine ⟨fun pins s σ H Q I h => ?_⟩
  refine wpAny_Call_Name_kw (ld_glob I hg hm ?_ hdb)
  refine PySem.W.callWith_KW0 (h₀ := X.base) I.ok.mod.kin T.kC hall ?_ hpl
  refine thn (hkw.run pos pins s σ H _ I h) fun ws s2 ⟨zs, H2, I2, rz, lz, q2⟩ => ⟨I2.kIn, ?_⟩
  rw [hks]
  exact run_mkX (us := []) (vs := []) T iC tI F1 hr hb hx I2 .nil rz (Nat.zero_le _) lz q2
end
end My

set_option Elab.async false
set_option linter.all false
set_option maxRecDepth 100000
set_option maxHeartbeats 4000000
namespace My
open PySem PySem.Spec PyProof.Rows L2
/-! ### isinstance of an error that has its own dict -/
section
open PySem.W PySem.Calls
variable {prog : Program} {w : World} {A : Around} {E : Value → Shared → Prop} {s : Shared} {K : Frag} {x D : Addr} {ox : Obj} {od : Obj}
theorem exc_class (T : L2.ExcC K D) {Q : Option Value → Shared → Prop} (X : K.In s.heap) (J : InstAt s.heap x ox D (some od)) (h : Q (some (.ref D)) { s with toks := s.toks + 1 }) :
    wpAny (model prog w) A (getAttr? (.ref x) "__class__") Q E s := by
  have found : findObj K D (some od) "__class__" = some (.bind (.builtin "getset_descriptor.__get__") (.builtin "object.__class__")) :=
    findObj_data (by obtain ⟨c, e, _⟩ := any_some T.hd; rw [e]; rfl) T.ha T.hn T.ht
  obtain ⟨hp, g, dr, tk, os⟩ := s
  have a0 := J.type (M := model prog w)
  have a1 := looks_findIn (M := model prog w) X T.hg
  have a2 := looks_findIn (M := model prog w) X T.hk
  have a3 := looks_find (M := model prog w) X J found
  have a4 : Looks (model prog w) hp (isInstance (.ref x) (.type "BaseException")) true := a0.andThen (looks_subIn X T.hs)
  have n0 : (false && onTheHeap (Value.builtin "BaseException.__getattribute__")) = false := rfl
  have n2 : (Value.builtin "BaseException.__getattribute__" == Value.builtin "object.__getattribute__") = false := by decide +kernel
  have n1 : (onTheHeap (Value.ref D) && Value.builtin "BaseException.__getattribute__" == Value.builtin "object.__getattribute__") = false := by rw [n2]; rfl
  unfold getAttr? getAttrBy? getAttrBy
  refine wpAny_bind (wpAny_mkText (wpAny_bind (wpAny_attempt (wpAny_holding (wpAny_bind (a0.at (wpAny_bind (a1.at ?_))))))))
  show wpAny _ _ (if (onTheHeap (Value.ref D) && Value.builtin "BaseException.__getattribute__" == Value.builtin "object.__getattribute__") = true then _ else _) _ _ _
  rw [n1, if_neg Bool.false_ne_true]
  unfold getAttrByItsOwn hookBefore
  refine wpAny_bind ?_
  rw [if_pos (show onTheHeap (Value.ref D) = true from rfl)]
  refine a2.at (wpAny_bind (wpAny_attempt (wpAny_holding ?_)))
  unfold callGetattribute
  rw [n0, if_neg Bool.false_ne_true]
  unfold boundAndCalled
  rw [PySem.F.excAttr_ValueError.ga.bind (.ref x)]
  refine wpAny_bind (wpAny_pure ?_)
  show wpAny _ _ (call (.builtin "BaseException.__getattribute__") [.ref x, .str "__class__" tk]) _ _ _
  refine wpAny_call (codeAny_call_builtin PySem.F.excAttr_ValueError.ga.plain PySem.F.entry_bexc_ga ?_)
  refine @check_slot (model prog w) _ _ ⟨hp, g, dr, tk + 1, os⟩ "BaseException.__getattribute__" "BaseException" "__getattribute__" (.ref x) [.str "__class__" tk] [] _ (by decide +kernel) (by decide +kernel) a4 (PySem.F.args_bexc_ga (.ref x) (.str "__class__" tk)) ?_
  unfold Builtin.«object.__getattribute__»
  refine wpAny_bind (wpAny_of_eq (a := ((Value.ref x : Value), [Value.str "__class__" tk])) (by first | rfl | (simp only [slotArgs]; rfl)) ?_)
  refine wpAny_bind (wpAny_pure (wpAny_bind (a0.at (wpAny_bind (a3.at ?_)))))
  show wpAny _ _ (holding [Value.builtin "object.__class__"] (call (.builtin "getset_descriptor.__get__") [.builtin "object.__class__", .ref x, .ref D]) >>= ret) _ _ _
  refine wpAny_bind (wpAny_holding (wpAny_call (class_get (s := ⟨hp, g, dr, tk + 1, os⟩) (ox := ox) (od := some od) X J T.hm ?_)))
  refine wpAny_pure ?_
  show wpAny _ _ (handedOut (.ref D)) _ _ _
  rw [handedOut_of (v := .ref D) rfl]
  first
    | exact wpAny_pure (wpAny_pure h)
    | exact wpAny_pure h
    | exact wpAny_pure (wpAny_bind (wpAny_pure (wpAny_pure h)))
theorem exc_kit (T : L2.ExcC K D) : KitX K (.ref x) (.ref D) (fun h => InstAt h x ox D (some od)) where
  ty := fun _ _ _ J => J.type
  it := fun _ _ X _ => by
    obtain ⟨cd, hc, _⟩ := any_some T.hd
    unfold clsIn at hc
    split at hc
    · rename_i c' d' cd' sl' ho
      intro A' Q' E' s' k q
      unfold isType loadHead
      exact wpAny_bind (wpAny_loadPart (k _ _ (X _ _ ho)) (wpAny_pure q))
    · cases hc
  ne := fun h tp dd its n sl X htp => by
    obtain ⟨cd, hc, _⟩ := any_some T.hd
    refine Bool.eq_false_iff.mpr fun q => ?_
    obtain rfl : D = tp := Value.ref.inj (beq_iff_eq.mp q)
    unfold clsIn at hc
    split at hc
    · rename_i c' d' cd' sl' ho
      have z := (X _ _ ho).symm.trans htp
      cases z
    · cases hc
  ca := fun X J k => exc_class T X J k
end
end My

set_option Elab.async false
set_option linter.all false
set_option maxRecDepth 100000
set_option maxHeartbeats 4000000
/-! errors as values: read, asked -/
namespace My
open PySem PySem.Spec PyProof.Rows L2
/-- an error at hand: tracked, or held by a pin -/
inductive EV (pn : List (Addr × Obj)) (H : Hp) (a C : Addr) (fs : List (Str × V)) : Prop where
  | cold {d : Addr} (e : H a = some (exo a C (some d))) (f : H d = some (exd d fs)) : EV pn H a C fs
  | pin {d : Addr} {oe : Obj} (m : (a, oe) ∈ pn) (z : Zc (.ref C) (some d) oe) (v : ∃ vs, oe.data = .fields vs) (f : H d = some (.xd fs)) : EV pn H a C fs
section
variable {X : Cx} {pins : List (Addr × Obj)} {σ : L2.St} {H : Hp} {s : Shared} {a C : Addr} {fs : List (Str × V)}
theorem EV.inst (h : EV X.pn H a C fs) (I : Inv X pins σ H s) : ∃ (oe od : Obj) (mA : Str → Option Value), PySem.W.InstAt s.heap a oe C (some od) ∧ (∀ name, PySem.W.lookIn name od = some (mA name)) ∧ ∀ f, RelO (fs.lookup f) (mA f) := by
  cases h with
  | cold e f =>
    obtain ⟨t1, ho⟩ := exo_at I.hok e
    obtain ⟨mA, hns, rel⟩ := exd_at I.hok f
    obtain ⟨od, hd, hl⟩ := lookIn_ns hns
    exact ⟨_, od, mA, ⟨ho, rfl, rfl, hd⟩, hl, rel⟩
  | pin m z v f =>
    obtain ⟨ha, _⟩ := I.pin _ (List.mem_append_left _ m)
    obtain ⟨vs, hv⟩ := v
    have hx : ObjOk X.prog X.w H s.heap _ (.xd fs) := I.hok _ _ f
    obtain ⟨mA, hns, rel⟩ := hx
    obtain ⟨od, hd, hl⟩ := lookIn_ns hns
    exact ⟨_, od, mA, ⟨ha, z.1, by unfold PySem.W.notCls; rw [hv] <;> rfl, by rw [z.2]; exact hd⟩, hl, rel⟩
end
/-- e.f -/
def tXv (X : Cx) (f : Str) (te : TE) : TE := fun σ H Q => te σ H fun x H1 => ∃ (a C : Addr) (fs : List (Str × V)) (v : V), x = .ref a ∧ EV X.pn H1 a C fs ∧ ErrK X.K C ∧ PySem.W.findIn X.K (.ref C) f = some none ∧ fs.lookup f = some v ∧ Q v H1
theorem pe_exf {X : Cx} {e : Expr} {te : TE} {pos : Pos} {n : Str} (he : PE X e te) (hb : attributeBase e n X.env (eval e X.env) = eval e X.env := by rfl) : PE X (.Attribute e n pos) (tXv X n te) := by
  refine ⟨fun pins s σ H Q I h => ?_⟩
  refine attr_of hb (thn (he.run pins s σ H _ I h) fun u s1 hh => ?_)
  obtain ⟨x, H1, I1, rx, a, C, fs, v, ex, ev, T, hno, l, q⟩ := hh
  subst ex
  obtain rfl : u = Value.ref a := rx
  obtain ⟨oe, od, mA, J, hl, rel⟩ := ev.inst I1
  obtain ⟨u, hu, ru⟩ := RelO.some_of (v := v) (o := mA n) (by rw [← l]; exact rel n)
  exact HandSPX.exc_get I1.kIn J T.x.ga T.x.gg T.x.exC (PySem.W.findObj_own T.x.hdC hno rfl (by rw [hl, hu])) (handed_of ru) ⟨v, H1, I1.tok _, ru, q⟩
/-- isinstance(e, C) -/
def rIsX (X : Cx) : List V → Hp → VK → Prop := fun xs H Q => ∃ (a C : Addr) (fs : List (Str × V)) (c : V) (cv : Value) (b : Bool), xs = [.ref a, c] ∧ EV X.pn H a C fs ∧ ErrK X.K C ∧ ClsV c cv ∧ PySem.W.kitOne X.K (.ref C) cv = some b ∧ Q (.bl b) H
theorem call_isX {X : Cx} : CallR X (.builtin "isinstance") (rIsX X) := by
  intro pins s σ H xs us Q I r h
  obtain ⟨a, C, fs, c, cv, b, rfl, ev, T, kc, e, q⟩ := h
  obtain ⟨u1, u2, rfl, r1, r2⟩ := vals2 r
  have e2 := kc.eq r2
  subst e2
  cases (show u1 = Value.ref a from r1)
  obtain ⟨oe, od, mA, J, _, _⟩ := ev.inst I
  exact PySem.W.kia_one (exc_kit T.e) I.kIn J e (fun z => nomatch z) fun tk => ⟨.bl b, H, I.tok tk, rfl, q⟩
/-- isinstance(e, (C, D, ..)) -/
def rIsXT (X : Cx) : List V → Hp → VK → Prop := fun xs H Q => ∃ (a C tp : Addr) (fs : List (Str × V)) (cs : List V) (ws : List Value) (b : Bool), xs = [.ref a, .ref tp] ∧ EV X.pn H a C fs ∧ ErrK X.K C ∧ H tp = some (.tup cs) ∧ Paired ClsV cs ws ∧ PySem.W.kitAny X.K (.ref C) ws = some b ∧ Q (.bl b) H
theorem call_isXT {X : Cx} : CallR X (.builtin "isinstance") (rIsXT X) := by
  intro pins s σ H xs us Q I r h
  obtain ⟨a, C, tp, fs, cs, ws, b, rfl, ev, T, hT, kc, e, q⟩ := h
  obtain ⟨u1, u2, rfl, r1, r2⟩ := vals2 r
  cases (show u1 = Value.ref a from r1)
  cases (show u2 = Value.ref tp from r2)
  obtain ⟨oe, od, mA, J, _, _⟩ := ev.inst I
  obtain ⟨_, its, rv, o, h1, h2, n, h3⟩ := (show ObjOk X.prog X.w H s.heap tp (.tup cs) from I.hok tp _ hT)
  have e3 := ClsV.all kc rv
  subst e3
  obtain ⟨oc, od', dt, sl⟩ := o
  simp only at h2 h3
  subst h2 h3
  exact PySem.W.kia_tup (exc_kit T.e) I.kIn J h1 e (fun z => nomatch z) fun tk => ⟨.bl b, H, I.tok tk, rfl, q⟩
end My

set_option Elab.async false
set_option linter.all false
set_option maxRecDepth 100000
set_option maxHeartbeats 4000000
/-! a try with several `except C as e` -/
namespace L2N
open PySem PySem.Spec PyProof.Rows L2
/-- what the clauses wish, each with the error in slot i -/
def wManyA (K : PySem.W.Frag) (i : Nat) (Wout : WX) (D : Ends) : List (Value × (Addr → Value → Option Addr → TS)) → WX
  | [] => Wout
  | (c, ts) :: r => fun cls d σ H => ∃ b, PySem.W.exmOne K cls c = some b ∧
    (b = true → ∀ a, H a = none → ts a cls d { nx := fun σ' H' => D.nx (σ'.set i none) H', rt := D.rt, bk := fun σ' H' => D.bk (σ'.set i none) H', ct := fun σ' H' => D.ct (σ'.set i none) H' } (σ.set i (some (.ref a))) H) ∧
    (b = false → wManyA K i Wout D r cls d σ H)
inductive HdsA (X : Cx) (n : Str) : List ExceptHandler → List (Value × (Addr → Value → Option Addr → TS)) → Prop
  | nil : HdsA X n [] []
  | cons {x : Str} {c : Value} {ts : Addr → Value → Option Addr → TS} {st0 : Stmt} {rest : List Stmt} {np hp : Pos} {hs : List ExceptHandler} {l : List (Value × (Addr → Value → Option Addr → TS))} (nm : Names X x c)
      (su : ∀ (a : Addr) (oe : Obj) (cls : Value) (d : Option Addr) (pn : List (Addr × Obj)), Zn cls d oe → (∃ vs, oe.data = .fields vs) → PSs (X.suite a ((a, oe) :: pn)) (st0 :: rest) (ts a cls d)) (r : HdsA X n hs l) :
      HdsA X n (.ExceptHandler (some (.Name x np)) (some n) (st0 :: rest) hp :: hs) ((c, ts) :: l)
section
variable {X : Cx} {n : Str} {i : Nat} {body : List Stmt} {h1 : ExceptHandler} {hs : List ExceptHandler} {l : List (Value × (Addr → Value → Option Addr → TS))} {pos : Pos} {tb : WX → TS} {Wout : WX}
theorem ps_try_manyA (stk : X.stack = X.env :: X.outer) (frm : X.env.frame = some X.env.locals) (nd : X.N.Nodup) (hi : X.N[i]? = some n) (loc : X.env.kindOf n = some .local) (tk : Takes X Wout)
    (bd : ∀ (W : WX) (pn : List (Addr × Obj)) (xe : Value → Shared → Prop), Takes (X.tr pn xe) W → PassesOwn (model X.prog X.w) X.A X.env xe → PSs (X.tr pn xe) body (tb W))
    (hh : HdsA X n (h1 :: hs) l) : PS X (.Try body (h1 :: hs) [] [] pos) (fun D σ H => tb (wManyA X.K i Wout D l) D σ H) := by
  refine ⟨fun pins s σ H D I h => ?_⟩
  have ok := I.ok
  have fr : X.A.frames = some (X.env :: X.outer) := by rw [ok.frames, stk]
  have lc : Loc X.env.scope n := .inl loc
  refine wpAny_Try_except ?_
  refine wpAny_mono ((bd (wManyA X.K i Wout D l) (X.pn ++ pins) (fun e s₁ => wpAny (model X.prog X.w) X.A (noteFrame e X.env) (fun _ s₂ => wpAny (model X.prog X.w) X.A (setFlight e none) (fun _ s₃ =>
    wpAny (model X.prog X.w) X.A (handleBy e X.env (h1 :: hs)) (SP X pins D) X.xe s₃) X.xe s₂) X.xe s₁) (fun u s' xx => ?_) PassesOwn.looking).run [] s σ H D (I.toTry _) h) (fun f s1 out => ?_) (fun e s1 he => he)
  · obtain ⟨a, B, sI, pins', σ', H', cls, d, rfl, J', nb, up, sky, na, os, ag, w⟩ := xx
    have J : Inv X pins σ' H' sI := J'.ofTry ok
    have sky1 : Sky B (X.env :: X.outer) a (Zn cls d) X.env.locals s'.heap := by rw [← stk]; exact sky
    show wpAny (model X.prog X.w) X.A (noteFrame (.ref a) X.env) _ _ _
    refine Sky.land Zn.steady fr frm sky1 fun h3 fl3 up3 => ?_
    have J3 : Inv X pins σ' H' { s' with heap := h3 } := J.landed nb fl3.1 (up.trans up3) os ag
    obtain ⟨oe3, vs3, he3, hz3, hd3⟩ := fl3.there
    have out_ : ∀ {h : Heap} {o : Obj} {vs : Array Value}, h.FunFrames B (X.env :: X.outer) → h.get? a = some o → o.data = .fields vs → a ∉ frs (X.env :: X.outer) := fun {h o vs} ff e dd hm => by
      obtain ⟨_, o', e', hnf⟩ := ff.mem hm
      rw [e] at e'; cases e'
      exact hnf _ dd
    have nfr := out_ fl3.2.2.1 he3 hd3
    have nL : a ≠ X.env.locals := fun z => nfr (List.mem_filterMap.mpr ⟨X.env, List.mem_cons_self, by rw [frm, z]⟩)
    have nF : a ∉ X.fs := fun hm => by
      obtain ⟨e, he, q⟩ := List.mem_filterMap.mp hm
      exact nfr (List.mem_filterMap.mpr ⟨e, List.mem_cons_of_mem _ he, q⟩)
    have S3 := J3.suite he3 hd3 na nL nF
    have each : ∀ {hs' : List ExceptHandler} {l' : List (Value × (Addr → Value → Option Addr → TS))}, HdsA X n hs' l' → wManyA X.K i Wout D l' cls d σ' H' →
        wpAny (model X.prog X.w) X.A (handleBy (.ref a) X.env hs') (SP X pins D) X.xe { s' with heap := h3 } := by
      intro hs' l' hk
      induction hk with
      | nil =>
        intro w
        refine wpAny_handleBy_nil ?_
        obtain ⟨k1, k2, k3, oe, vs, T, oT, ts', he, hz, hd, h1, hr⟩ := id fl3
        unfold PySem.passOn
        refine wpAny_bind (wpAny_field he hd h1 ?_)
        rw [if_neg (show ¬ ((Value.ref T == Value.none) = true) from by simp)]
        have fin : wpAny (model X.prog X.w) X.A (setFlight (.ref a) X.env.frame) (fun _ s4 => wpAny (model X.prog X.w) X.A (throw (.ref a) : Sem Flow) (SP X pins D) X.xe s4) X.xe { s' with heap := h3 } := by
          rw [frm]
          refine HandSPX.setFlight_upZ fl3 fun h4 hh4 up4 => wpAny_throw (tk _ _ ?_)
          exact ⟨a, B, sI, pins, σ', H', cls, d, rfl, J, nb, (up.trans up3).trans up4, .inr (.inr (by rw [stk]; exact hh4)), na, os, ag, w⟩
        first
          | exact wpAny_bind (wpAny_pure (wpAny_bind fin))
          | exact wpAny_bind fin
      | @cons x c ts st0 rest np hp' hs2 l2 nm su r ih =>
        intro w
        obtain ⟨b, hb1, hyes, hno⟩ := w
        refine wpAny_handleBy_cons (codeAny_handlers_test ?_) (by intro q; cases q)
        have LT : PySem.W.Looks (model X.prog X.w) h3 (typeOf (.ref a)) cls := fun A Q E s k q => wpAny_typeOf_ref (k _ _ he3) (by rw [hz3.1]; exact q)
        have LM := PySem.W.exm_one (M := model X.prog X.w) (J3.kIn) LT hb1
        have test : ∀ {Q : Value → Shared → Prop} {E : Value → Shared → Prop}, Q c { s' with heap := h3 } → wpAny (model X.prog X.w) (X.A.mark (some (.ref a))) (eval (.Name x np) X.env) Q E { s' with heap := h3 } := fun {Q E} q => by
          obtain ⟨hg, hdbg, hm | ⟨hm, hv, hnn⟩⟩ := nm
          · exact ld_glob (X := X.suite a ((a, oe3) :: (X.pn ++ pins))) S3 hg hm q hdbg
          · exact ld_blt (X := X.suite a ((a, oe3) :: (X.pn ++ pins))) S3 hg hm hv q hnn hdbg
        refine test (LM.here ?_)
        cases b with
        | true =>
          refine codeAny_handlers_suite_as ?_
          refine HandSPX.lands_againZ fl3 fun h4 fl4 up4 => ?_
          have J4 : Inv X pins σ' H' { s' with heap := h4 } := J.landed nb fl4.1 ((up.trans up3).trans up4) os ag
          obtain ⟨oe4, vs4, he4, hz4, hd4⟩ := fl4.there
          have S4 := J4.suite he4 hd4 na nL nF
          refine store_ok (X := X.suite a ((a, oe4) :: (X.pn ++ pins))) (v := .ref a) S4 nd hi lc rfl (fun s5 S5 => ?_) (.inr loc)
          refine wpAny_mono ((su a oe4 cls d (X.pn ++ pins) hz4 ⟨_, hd4⟩).run [] s5 _ H' _ S5 (hyes rfl a na)) (fun f s6 out => ?_) (fun _ _ z => False.elim z)
          have gone : ∀ {σ6 : St} {H6 : Hp} {Q : Shared → Prop}, Inv (X.suite a ((a, oe4) :: (X.pn ++ pins))) [] σ6 H6 s6 → (∀ s7, Inv X pins (σ6.set i none) H6 s7 → Q s7) →
              wpAny (model X.prog X.w) X.A (do bindName X.env n .none; unbindBehindTheSuite X.env n hp') (fun _ s7 => Q s7) X.xe s6 := fun {σ6 H6 Q} S6 hq => gone_ok (S6.unsuite ok) nd hi loc hq
          cases f with
          | next =>
            obtain ⟨σ6, H6, S6, q6⟩ := out
            exact gone S6 fun s7 J7 => ⟨_, _, J7, q6⟩
          | brk =>
            obtain ⟨σ6, H6, S6, q6⟩ := out
            exact gone S6 fun s7 J7 => ⟨_, _, J7, q6⟩
          | cont =>
            obtain ⟨σ6, H6, S6, q6⟩ := out
            exact gone S6 fun s7 J7 => ⟨_, _, J7, q6⟩
          | ret u =>
            obtain ⟨v6, σ6, H6, S6, r6, q6⟩ := out
            exact gone S6 fun s7 J7 => ⟨_, _, _, J7, r6, q6⟩
        | false =>
          show wpAny _ X.A (handleBy (.ref a) X.env hs2) _ _ _
          exact ih (hno rfl)
    exact each hh w
  · cases f with
    | next =>
      obtain ⟨σ', H', J', q⟩ := out
      exact wpAny_execs_nil ⟨σ', H', J'.ofTry ok, q⟩
    | brk =>
      obtain ⟨σ', H', J', q⟩ := out
      exact ⟨σ', H', J'.ofTry ok, q⟩
    | cont =>
      obtain ⟨σ', H', J', q⟩ := out
      exact ⟨σ', H', J'.ofTry ok, q⟩
    | ret u =>
      obtain ⟨v, σ', H', J', r, q⟩ := out
      exact ⟨v, σ', H', J'.ofTry ok, r, q⟩
end
end L2N

set_option Elab.async false
set_option linter.all false
set_option maxRecDepth 100000
set_option maxHeartbeats 4000000
/-! raise C(..); a def called in a suite with the caught error -/
namespace My
open PySem PySem.Spec PyProof.Rows L2
open PySem.HandSPX (excO)
section
variable {X : Cx} {CX : CXT} {x : Str} {e : Expr} {es : List Expr} {ta : TA} {p pos : Pos} {C fI : Addr} {k : Nat} {fd : FuncData} {ps : List Str} {sp : Sp}
theorem run_raX {pins : List (Addr × Obj)} {σ : L2.St} {H1 : Hp} {s : Shared} {Q : XK} {us : List Value} {vs : List V} (T : ErrK X.K C) (iC : PySem.W.findIn X.K (.ref C) "__init__" = some (some (.ref fI))) (tI : PySem.W.typeIn X.K (.ref fI) = some (.type "function"))
    (F1 : FnOk X.prog X.w X.K X.mg X.base CX k fI fd ps sp) (hr : Room (k + 1) X.A) (hb : Binds X.K fd ps []) (hx : Passes CX X (fun _ _ _ => False)) (I1 : Inv X pins σ H1 s) (r1 : Vals vs us) (lim : vs.length ≤ 1000)
    (go : ∀ a, H1 a = none → sp (.ref a :: vs) (upd H1 a (exo a C none)) (fun v H2 => v = .non ∧ ∃ (d : Addr) (fs : List (Str × V)), H2 a = some (exo a C (some d)) ∧ H2 d = some (exd d fs) ∧ H1 d = none ∧ Q (.ref C) (some d) (upd (del H2 a) d (.xd fs))) (fun _ _ _ => False)) :
    wpAny (model X.prog X.w) X.A (call (.ref C) us []) (L2N.MkP X pins σ Q) X.xe s := by
  obtain ⟨B, newId, initId, tail, nm, q, N, bs, bm, sn, sub, ab, col, dd, k0, k1, k2, k3, k5, b, lk, rf⟩ := T.cls
  obtain ⟨hp, gs, dr, tk, os⟩ := s
  have up1 : hp.objs.size ≤ hp.objs.size + 1 := Nat.le_succ _
  have new : H1 (hp.objs.size + 1) = none := I1.hok.fresh up1
  have hq := go (hp.objs.size + 1) new
  have keep : ∀ b o, hp.get? b = some o → ((hp.push (PySem.W.kdv_tup us)).push (excO C hp.objs.size)).get? b = some o := fun b o e => Heap.get?_push_of_some _ (Heap.get?_push_of_some _ e)
  have here : ((hp.push (PySem.W.kdv_tup us)).push (excO C hp.objs.size)).get? (hp.objs.size + 1) = some (excO C hp.objs.size) := by heap_get
  have I2 : Inv X pins σ (upd H1 (hp.objs.size + 1) (exo (hp.objs.size + 1) C none)) ⟨(hp.push (PySem.W.kdv_tup us)).push (excO C hp.objs.size), gs, dr, tk, os⟩ := I1.laid (t' := tk) keep up1 (exo_ok here)
  have r2 : Vals (V.ref (hp.objs.size + 1) :: vs) (Value.ref (hp.objs.size + 1) :: us) := .cons rfl r1
  have len : (Value.ref (hp.objs.size + 1) :: us ++ []).length = ps.length := by
    have e := r2.length
    rw [F1.len _ _ _ _ hq] at e
    rw [List.append_nil]
    exact e.symm
  have b2 := hb _ (Value.ref (hp.objs.size + 1) :: us) I2.kIn len
  rw [List.append_nil] at b2
  refine wpAny_call (PySem.MyX.xcall b.F (fun Y => refs_contains Y rf) (I1.kIn _ _ lk) (PySem.W.looks_findIn I1.kIn iC) (fun self => PySem.W.bind_fn I1.kIn self tI) (by rw [← Paired.length r1, sizeLine_eq]; omega)
    (codeAny_mono (F1.run _ X.stack _ _ ⟨Value.ref (hp.objs.size + 1) :: us, []⟩ (Value.ref (hp.objs.size + 1) :: us) _ _ (fun _ _ _ => False) (hr.make C us []) (I2.env0.make C us []) b2 r2 hq) fun r s' hq' => ?_))
  cases r with
  | error er => exact hx pins σ _ _ er s' I2 hq'
  | ok fl =>
    cases fl with
    | ret u =>
      obtain ⟨v, H2, os2, bare2, un2, hok2, rv, ev, d, fs, ea, ed, hd1, q2⟩ := hq'
      subst ev
      obtain ⟨h2, g2, d2, t2, os'⟩ := s'
      obtain ⟨t0, G, J, kG, ge, hoe, na⟩ := mk_end0 (d2 := d2) (t2 := t2) I1 up1 keep un2 hok2 os2 bare2 ea ed hd1
      exact ⟨rv, hp.objs.size + 1, _, _, ⟨G, g2, d2, t2, os'⟩, _, .ref C, some d, rfl, J, kG, ge, hoe, ⟨rfl, rfl, fun vs hv => by cases hv; rfl⟩, rfl, rfl, na, rfl, bare2, raises_own T.x.exC T.tyC, q2⟩
    | next => exact False.elim hq'
    | brk => exact False.elim hq'
    | cont => exact False.elim hq'
/-- raise C(e, ..) -/
theorem pmk_X (T : ErrK X.K C) (iC : PySem.W.findIn X.K (.ref C) "__init__" = some (some (.ref fI))) (tI : PySem.W.typeIn X.K (.ref fI) = some (.type "function"))
    (F1 : FnOk X.prog X.w X.K X.mg X.base CX k fI fd ps sp) (hr : Room (k + 1) X.A) (hb : Binds X.K fd ps []) (hx : Passes CX X (fun _ _ _ => False)) (hg : Gl X x) (hm : X.mg x = some (.ref C)) (ha : PA X (e :: es) ta)
    (hdb : (x == ("__debug__" : Str)) = false := by decide) (he : starEach (e :: es) X.env = (false, eval e X.env) :: starEach es X.env := by rfl) (hpl : (backTo pos (starEach es X.env)).any (·.1) = false := by rfl) :
    L2N.PMk X (.Call (.Name x p) (e :: es) [] pos) (tMkO C sp [] ta) := by
  intro pins s σ H Q I h
  refine wpAny_Call_Name_kw (ld_glob I hg hm ?_ hdb)
  refine PySem.W.callWith_K (h₀ := X.base) I.ok.mod.kin T.kC (thn (ha.run pos pins s σ H _ I h) fun us s1 ⟨vs, H1, I1, r1, lim, q1⟩ => ⟨I1.kIn, ?_⟩) he hpl
  refine run_raX T iC tI F1 hr hb hx I1 r1 lim fun a na => ?_
  have z := q1 a na
  rw [List.append_nil] at z
  exact z
/-- raise C() -/
theorem pmk_X0 (T : ErrK X.K C) (iC : PySem.W.findIn X.K (.ref C) "__init__" = some (some (.ref fI))) (tI : PySem.W.typeIn X.K (.ref fI) = some (.type "function"))
    (F1 : FnOk X.prog X.w X.K X.mg X.base CX k fI fd ps sp) (hr : Room (k + 1) X.A) (hb : Binds X.K fd ps []) (hx : Passes CX X (fun _ _ _ => False)) (hg : Gl X x) (hm : X.mg x = some (.ref C))
    (hdb : (x == ("__debug__" : Str)) = false := by decide) (hpl : ((backTo pos (starEach [] X.env)).any (·.1) || (backToKw pos (keywordEach [] X.env)).any (·.1.isNone)) = false := by rfl) :
    L2N.PMk X (.Call (.Name x p) [] [] pos) (tMkO C sp [] tNil) := by
  intro pins s σ H Q I h
  obtain ⟨_, q1⟩ := h
  refine wpAny_Call_Name_kw (ld_glob I hg hm ?_ hdb)
  refine PySem.W.callWith_KW0 (h₀ := X.base) I.ok.mod.kin T.kC (by rfl) ?_ hpl
  refine wpAny_evalAll_nil ⟨I.kIn, ?_⟩
  exact run_raX (us := []) (vs := []) T iC tI F1 hr hb hx (I.tok _) .nil (Nat.zero_le _) fun a na => q1 a na
end
/-! ### a def that is called with the caught error -/
/-- what a def promises of one pinned error -/
structure FnP (P : Program) (w : World) (K : PySem.W.Frag) (mg : Str → Option Value) (base : Heap) (CX : CXT) (k : Nat) (f : Addr) (fd : FuncData) (ps : List Str) (spp : Addr × Obj → Sp) : Prop where
  len : ∀ p vs H Q E, spp p vs H Q E → vs.length = ps.length
  run : ∀ (A : Around) (outer : List Env) (s : Shared) (H : Hp) (args : Args) (us : List Value) (vs : List V) (Q : VK) (E : XK) (p : Addr × Obj), L2H.RoomH k A → L2H.Hot1 A p → L2H.PinOk outer H s p → Env0 P w K mg base A outer s H → BindsTo s fd args (ps.zip us) → Vals vs us → spp p vs H Q E →
    codeAny (model P w) A (.call (.ref f) args) (CR CX outer P w H s Q E) s
theorem okP {P : Program} {w : World} {K : PySem.W.Frag} {mg : Str → Option Value} {base : Heap} {CX : CXT} {x qual : Str} {st : Stmt} {f : Addr} {fd : FuncData} {N ps : List Str} {k : Nat} {spp : Addr × Obj → Sp} (F : Fun K x qual st f fd) (S : FnScope N ps (defScope st)) (len : ∀ p vs H Q E, spp p vs H Q E → vs.length = ps.length)
    (hbody : ∀ (cdv : Value) (A : Around) (outer : List Env) (s : Shared) (H : Hp) (vs : List V) (Q : VK) (E : XK) (p : Addr × Obj), L2H.Hot1 A p → L2H.RoomH k (A.deeper (envOfC qual (defScope st) s.heap.objs.size f cdv)) → spp p vs H Q E →
      ∃ t, PSs (L2H.cxH CX P w K mg base N qual (defScope st) f cdv A outer s H E p) (defBody st) t ∧ t { nx := fun _ H' => Q .non H', rt := Q } (L2.start N vs) H) : FnP P w K mg base CX (k + 1) f fd ps spp := by
  obtain ⟨oc, od, kV, doc, pm, an, cdv, ct, osl, rfl, lk, hcd⟩ := F.ex
  refine ⟨len, fun A outer s H args us vs Q E p hr hot hpin e0 hb r hsp => ?_⟩
  have hl := len _ _ _ _ _ hsp
  have KX : K.In s.heap := e0.mod.kin.keeps fun b o e => (e0.bs b o e).1
  have lim : s.heap.NoLimit := e0.mod.nolimit.keeps fun b o e => (e0.bs b o e).1
  have kinds : ∀ y ∈ ps.zip us, (defScope st).names.lookup y.1 = some .local ∨ ((defScope st).names.lookup y.1 = some .cell ∧ ((cellsFrom (s.heap.objs.size + 1) (defScope st).names []).lookup y.1).isSome = true) := fun ⟨n, v⟩ hy => by
    rcases S.par n (List.of_mem_zip hy).1 with q | q
    · exact .inl q
    · exact .inr ⟨q, PySem.W.cellsFrom_some _ _ _ (.inl q)⟩
  refine codeAny_call_function hr.depth (KX _ _ lk) rfl S.co S.gen rfl (PySem.W.codeRec_of KX hcd) (hb _ _ _ _ ?_)
  refine wpAny_newFunctionEnv_cells S.kind kinds fun env he s1 x => ?_
  subst he
  refine ⟨lim.keeps x.toInCall.keep, codeAny_func ?_⟩
  obtain ⟨t, ht, hq⟩ := hbody cdv A outer s H vs Q E p hot (hr.deeper _) hsp
  have I : Inv (L2H.cxH CX P w K mg base N qual (defScope st) f cdv A outer s H E p) [] (L2.start N vs) H s1 := L2H.inv_startH S hpin e0 hl r x
  refine wpAny_mono (ht.run [] s1 (L2.start N vs) H _ I hq) (fun fl s' hs => ?_) fun e s' hs => hs
  have fin : ∀ {σ' : L2.St} {H' : Hp} {v : V} {u : Value}, Inv (L2H.cxH CX P w K mg base N qual (defScope st) f cdv A outer s H E p) [] σ' H' s' → RelV v u → Q v H' → CE outer P w H s Q u s' :=
    fun {σ' H' v u} J rv q => ⟨v, H', J.os, J.bare, J.base, J.hok, rv, q⟩
  cases fl with
  | ret u =>
    obtain ⟨v, σ', H', J, rv, q⟩ := hs
    exact fin J rv q
  | next =>
    obtain ⟨σ', H', J, q⟩ := hs
    exact fin (v := V.non) (u := Value.none) J rfl q
  | brk =>
    obtain ⟨_, _, _, q⟩ := hs
    exact False.elim q
  | cont =>
    obtain ⟨_, _, _, q⟩ := hs
    exact False.elim q
section
variable {X : Cx} {CX : CXT} {k : Nat} {f : Addr} {fd : FuncData} {ps : List Str} {spp : Addr × Obj → Sp} {E : L2.St → XK} {x : Str} {q pos : Pos} {e : Expr} {es : List Expr} {t : TA} {p : Addr × Obj}
theorem pe_callP (F : FnP X.prog X.w X.K X.mg X.base CX k f fd ps spp) (hr : L2H.RoomH k X.A) (hot : L2H.Hot1 X.A p) (hp : p ∈ X.pn) (hg : Gl X x) (hm : X.mg x = some (.ref f)) (hk : PySem.W.keepIn X.K (.ref f) = true) (hb : Binds X.K fd ps []) (hx : ∀ σ, PassesAt CX X σ (E σ))
    (ha : PA X (e :: es) t) (hdb : (x == ("__debug__" : Str)) = false := by decide) (he : starEach (e :: es) X.env = (false, eval e X.env) :: starEach es X.env := by rfl) (hpl : (backTo pos (starEach es X.env)).any (·.1) = false := by rfl) :
    PE X (.Call (.Name x q) (e :: es) [] pos) (tCallS (spp p) E t) := by
  refine ⟨fun pins s σ H Q I h => ?_⟩
  refine wpAny_Call_Name_kw (ld_glob I hg hm ?_ hdb)
  refine PySem.W.callWith_K (h₀ := X.base) I.ok.mod.kin hk (thn (ha.run pos pins s σ H _ I h) fun us s1 ⟨vs, H1, I1, r, z⟩ => ⟨I1.kIn, ?_⟩) he hpl
  have hl : us.length = ps.length := by rw [← r.length]; exact F.len _ _ _ _ _ z
  have b := hb s1 us I1.kIn (by rw [List.append_nil]; exact hl)
  rw [List.append_nil] at b
  have P1 := I1.pin p (List.mem_append_left _ hp)
  have pin : L2H.PinOk X.stack H1 s1 p := ⟨P1.1, P1.2.1, fun hm => (List.mem_cons.mp (I1.stkSub p.1 hm)).elim P1.2.2.1 P1.2.2.2.1, P1.2.2.2.2⟩
  refine wpAny_call (codeAny_mono (F.run X.A X.stack s1 H1 ⟨us, []⟩ us vs Q (E σ) p hr hot pin I1.env0 b r z) fun r s' hq => ?_)
  cases r with
  | error e => exact hx σ pins H1 s1 e s' I1 hq
  | ok fl =>
    cases fl with
    | ret u => exact I1.after hq
    | next => exact False.elim hq
    | brk => exact False.elim hq
    | cont => exact False.elim hq
end
end My

set_option Elab.async false
set_option linter.all false
set_option maxRecDepth 100000
namespace My
open PySem PySem.Spec PyProof.Rows L2
/-! things that are kept -/
abbrev sKept : Stmt := topS 1
theorem scKept : FnScope ["value", "item"] ["value"] (defScope sKept) := ⟨rfl, rfl, rfl, by decide +kernel, rfl, by decide +kernel, by decide +kernel⟩
/-- an object that data are made of -/
def dat : HO → Prop
  | .lst _ => True
  | .tup _ => True
  | .frz _ _ => True
  | _ => False
/-- data stay, but what stands in S -/
def Dat (S : List Addr) (H H' : Hp) : Prop := ∀ p o, p ∉ S → H p = some o → dat o → H' p = some o
theorem Dat.of {S : List Addr} {H H' : Hp} (s : Same H H') : Dat S H H' := fun p o _ h _ => s p o h
theorem Dat.but {S : List Addr} {b : Addr} {H H' : Hp} (m : b ∈ S) (s : But b H H') : Dat S H H' := fun p o n h _ => s p o (fun e => n (e ▸ m)) h
theorem Dat.put {S : List Addr} {b : Addr} {H : Hp} {o : HO} (m : b ∈ S) : Dat S H (upd H b o) := fun p u n h _ => by rw [upd_ne (show p ≠ b from fun e => n (by rw [e]; exact m))]; exact h
theorem Dat.trans {S : List Addr} {H H1 H2 : Hp} (x : Dat S H H1) (y : Dat S H1 H2) : Dat S H H2 := fun p o n h d => y p o n (x p o n h d) d
/-- a list that is none of S -/
def LA (K : PySem.W.Frag) (H : Hp) (S : List Addr) (a : Addr) (xs : List V) : Prop := SqL K H a xs ∧ (a ∉ S ∨ SqL K (fun _ => none) a xs)
def TA' (K : PySem.W.Frag) (H : Hp) (S : List Addr) (a : Addr) (xs : List V) : Prop := SqT K H a xs ∧ (a ∉ S ∨ SqT K (fun _ => none) a xs)
theorem none_seq {K : PySem.W.Frag} {H : Hp} {a : Addr} {xs : List V} (h : SqL K (fun _ => none) a xs) : SqL K H a xs := by
  rcases h with (h | ⟨o, h⟩) | h
  · cases h
  · cases h
  · exact .inr h
theorem none_seqT {K : PySem.W.Frag} {H : Hp} {a : Addr} {xs : List V} (h : SqT K (fun _ => none) a xs) : SqT K H a xs := by
  rcases h with (h | ⟨o, h⟩) | h
  · cases h
  · cases h
  · exact .inr h
theorem LA.dat {K : PySem.W.Frag} {S : List Addr} {a : Addr} {H H' : Hp} {xs : List V} (t : Dat S H H') (h : LA K H S a xs) : LA K H' S a xs := by
  obtain ⟨s, n⟩ := h
  refine ⟨?_, n⟩
  rcases n with n | n
  · rcases s with (s | ⟨o, s⟩) | s
    · exact .inl (.inl (t _ _ n s trivial))
    · exact .inl (.inr ⟨o, t _ _ n s trivial⟩)
    · exact .inr s
  · exact none_seq n
theorem TA'.dat {K : PySem.W.Frag} {S : List Addr} {a : Addr} {H H' : Hp} {xs : List V} (t : Dat S H H') (h : TA' K H S a xs) : TA' K H' S a xs := by
  obtain ⟨s, n⟩ := h
  refine ⟨?_, n⟩
  rcases n with n | n
  · rcases s with (s | ⟨o, s⟩) | s
    · exact .inl (.inl (t _ _ n s trivial))
    · exact .inl (.inr ⟨o, t _ _ n s trivial⟩)
    · exact .inr s
  · exact none_seqT n
theorem LA.more {K : PySem.W.Frag} {S : List Addr} {a D : Addr} {H : Hp} {xs : List V} (nD : H D = none) (h : LA K H S a xs) : LA K H (D :: S) a xs := by
  obtain ⟨s, n⟩ := h
  refine ⟨s, ?_⟩
  rcases n with n | n
  · have ne : ∀ {o : HO}, H a = some o → a ∉ D :: S := fun {o} e m => by
      rcases List.mem_cons.mp m with z | z
      · rw [z, nD] at e
        cases e
      · exact n z
    rcases s with (s | ⟨o, s⟩) | s
    · exact .inl (ne s)
    · exact .inl (ne s)
    · exact .inr (.inr s)
  · exact .inr n
theorem TA'.more {K : PySem.W.Frag} {S : List Addr} {a D : Addr} {H : Hp} {xs : List V} (nD : H D = none) (h : TA' K H S a xs) : TA' K H (D :: S) a xs := by
  obtain ⟨s, n⟩ := h
  refine ⟨s, ?_⟩
  rcases n with n | n
  · have ne : ∀ {o : HO}, H a = some o → a ∉ D :: S := fun {o} e m => by
      rcases List.mem_cons.mp m with z | z
      · rw [z, nD] at e
        cases e
      · exact n z
    rcases s with (s | ⟨o, s⟩) | s
    · exact .inl (ne s)
    · exact .inl (ne s)
    · exact .inr (.inr s)
  · exact .inr n
theorem LA.less {K : PySem.W.Frag} {S : List Addr} {a D : Addr} {H : Hp} {xs : List V} (h : LA K H (D :: S) a xs) : LA K H S a xs := ⟨h.1, h.2.imp (fun n m => n (List.mem_cons_of_mem _ m)) id⟩
theorem TA'.less {K : PySem.W.Frag} {S : List Addr} {a D : Addr} {H : Hp} {xs : List V} (h : TA' K H (D :: S) a xs) : TA' K H S a xs := ⟨h.1, h.2.imp (fun n m => n (List.mem_cons_of_mem _ m)) id⟩
/-- all of S stand -/
def Std (H : Hp) (S : List Addr) : Prop := ∀ p ∈ S, ∃ o, H p = some o
theorem Std.new {H : Hp} {S : List Addr} {p : Addr} (h : Std H S) (n : H p = none) : p ∉ S := fun m => by
  obtain ⟨o, e⟩ := h p m
  rw [n] at e
  cases e
theorem Std.same {H H' : Hp} {S : List Addr} (h : Std H S) (s : Same H H') : Std H' S := fun p m => by
  obtain ⟨o, e⟩ := h p m
  exact ⟨o, s _ _ e⟩
/-- a thing: flat, or a list or tuple of things; no list of S is part of it -/
def Thg (K : PySem.W.Frag) (H : Hp) (S : List Addr) : Nat → V → Prop
  | 0, v => flat0 v
  | n + 1, v => flat0 v ∨ ∃ a xs, v = .ref a ∧ (LA K H S a xs ∨ TA' K H S a xs) ∧ xs.length < 1000 ∧ ∀ x ∈ xs, Thg K H S n x
/-- v is like w, and no list of S is part of them -/
def LkB (K : PySem.W.Frag) (H : Hp) (S : List Addr) : Nat → V → V → Prop
  | 0, v, w => v = w ∧ flat0 v
  | n + 1, v, w => (v = w ∧ flat0 v) ∨ ∃ a a' xs ys, v = .ref a ∧ w = .ref a' ∧ ((LA K H S a xs ∧ LA K H S a' ys) ∨ (TA' K H S a xs ∧ TA' K H S a' ys)) ∧ xs.length = ys.length ∧ xs.length < 1000 ∧ ∀ (i : Nat) x y, xs[i]? = some x → ys[i]? = some y → LkB K H S n x y
theorem Thg.dat {K : PySem.W.Frag} {H H' : Hp} {S : List Addr} (t : Dat S H H') : ∀ {n : Nat} {v : V}, Thg K H S n v → Thg K H' S n v
  | 0, _, h => h
  | n + 1, _, h => by
    rcases h with h | ⟨a, xs, e, hs, hl, hi⟩
    · exact .inl h
    · exact .inr ⟨a, xs, e, hs.imp (LA.dat t) (TA'.dat t), hl, fun x m => (hi x m).dat t⟩
theorem LkB.dat {K : PySem.W.Frag} {H H' : Hp} {S : List Addr} (t : Dat S H H') : ∀ {n : Nat} {v w : V}, LkB K H S n v w → LkB K H' S n v w
  | 0, _, _, h => h
  | n + 1, _, _, h => by
    rcases h with h | ⟨a, a', xs, ys, e1, e2, hs, hl, hb, hi⟩
    · exact .inl h
    · exact .inr ⟨a, a', xs, ys, e1, e2, hs.imp (fun z => ⟨z.1.dat t, z.2.dat t⟩) (fun z => ⟨z.1.dat t, z.2.dat t⟩), hl, hb, fun i x y p q => (hi i x y p q).dat t⟩
theorem Thg.more {K : PySem.W.Frag} {H : Hp} {S : List Addr} {D : Addr} (n0 : H D = none) : ∀ {n : Nat} {v : V}, Thg K H S n v → Thg K H (D :: S) n v
  | 0, _, h => h
  | n + 1, _, h => by
    rcases h with h | ⟨a, xs, e, hs, hl, hi⟩
    · exact .inl h
    · exact .inr ⟨a, xs, e, hs.imp (LA.more n0) (TA'.more n0), hl, fun x m => (hi x m).more n0⟩
theorem LkB.less {K : PySem.W.Frag} {H : Hp} {S : List Addr} {D : Addr} : ∀ {n : Nat} {v w : V}, LkB K H (D :: S) n v w → LkB K H S n v w
  | 0, _, _, h => h
  | n + 1, _, _, h => by
    rcases h with h | ⟨a, a', xs, ys, e1, e2, hs, hl, hb, hi⟩
    · exact .inl h
    · exact .inr ⟨a, a', xs, ys, e1, e2, hs.imp (fun z => ⟨z.1.less, z.2.less⟩) (fun z => ⟨z.1.less, z.2.less⟩), hl, hb, fun i x y p q => (hi i x y p q).less⟩
theorem LkB.lk {K : PySem.W.Frag} {H : Hp} {S : List Addr} : ∀ {n : Nat} {v w : V}, LkB K H S n v w → Lk K H n v w
  | 0, _, _, h => h
  | n + 1, _, _, h => by
    rcases h with h | ⟨a, a', xs, ys, e1, e2, hs, hl, hb, hi⟩
    · exact .inl h
    · exact .inr ⟨a, a', xs, ys, e1, e2, hs.imp (fun z => ⟨z.1.1, z.2.1⟩) (fun z => ⟨z.1.1, z.2.1⟩), hl, by omega, fun i x y p q => (hi i x y p q).lk⟩
theorem Thg.flat {K : PySem.W.Frag} {H : Hp} {S : List Addr} {n : Nat} {v : V} (h : flat0 v) : Thg K H S n v := by
  cases n with
  | zero => exact h
  | succ n => exact .inl h
theorem LkB.flat {K : PySem.W.Frag} {H : Hp} {S : List Addr} {n : Nat} {v : V} (h : flat0 v) : LkB K H S n v v := by
  cases n with
  | zero => exact ⟨rfl, h⟩
  | succ n => exact .inl ⟨rfl, h⟩
/-- v' is a copy of v -/
def spKept (K : PySem.W.Frag) (n : Nat) : Sp := fun vs H Q _ => ∃ (S : List Addr) (v : V), vs = [v] ∧ Std H S ∧ Thg K H S n v ∧ ∀ v' H', Same H H' → LkB K H' S n v' v → Q v' H'
theorem k1_fl {K : PySem.W.Frag} {v : V} (h : flat0 v) : PySem.W.kitOne K (.type (tyN v)) (.type "list") = some false := by
  cases v <;> first | rfl | exact h.elim
theorem k1_ft {K : PySem.W.Frag} {v : V} (h : flat0 v) : PySem.W.kitOne K (.type (tyN v)) (.type "tuple") = some false := by
  cases v <;> first | rfl | exact h.elim
theorem small1000 {n : Nat} (h : n ≤ 1000) : n < sizeLine := by
  rw [sizeLine_eq]
  omega
theorem same_updF {H H' : Hp} {p : Addr} {o : HO} (n : H p = none) (s : Same H H') : Same H (upd H' p o) := fun b x e => by
  rw [upd_ne (ne_of_none e n)]
  exact s b x e
/-- one turn of the copying -/
theorem kept_W {K : PySem.W.Frag} {S : List Addr} {D : Addr} {n i : Nat} {xs ys : List V} {x y : V} {H G G' : Hp} (nD : H D = none) (hs : Same H G) (hD : G D = some (.lst ys)) (hl : ys.length = i) (li : i < 1000) (t : Same G G') (h : ∀ (j : Nat) u w, ys[j]? = some u → xs[j]? = some w → LkB K G (D :: S) n u w) (hx : xs[i]? = some x) (k : LkB K G' (D :: S) n y x) :
    ∃ acc, G' D = some (.lst acc) ∧ acc.length < sizeLine ∧ (Same H (upd G' D (.lst (acc ++ [y]))) ∧ ∃ zs, (upd G' D (.lst (acc ++ [y]))) D = some (.lst zs) ∧ zs.length = i + 1 ∧ ∀ (j : Nat) u w, zs[j]? = some u → xs[j]? = some w → LkB K (upd G' D (.lst (acc ++ [y]))) (D :: S) n u w) := by
  refine ⟨ys, t _ _ hD, ?_, same_updF nD (hs.trans t), ys ++ [y], upd_same, by rw [List.length_append, hl]; rfl, ?_⟩
  · rw [hl]
    exact small1000 (by omega)
  · intro j u w e1 e2
    have pt : Dat (D :: S) G' (upd G' D (.lst (ys ++ [y]))) := Dat.put List.mem_cons_self
    rcases Nat.lt_or_ge j ys.length with h1 | h1
    · rw [List.getElem?_append_left h1] at e1
      exact (h j u w e1 e2).dat ((Dat.of t).trans pt)
    · rw [List.getElem?_append_right h1] at e1
      have e0 : j - ys.length = 0 := by
        cases z : j - ys.length with
        | zero => rfl
        | succ m => rw [z] at e1; simp at e1
      rw [e0] at e1
      cases e1
      have : j = i := by omega
      subst this
      rw [hx] at e2
      cases e2
      exact k.dat pt
section
variable {P : Program} {w : World} {K : PySem.W.Frag} {mg : Str → Option Value} {base : Heap}
theorem kept_step {f : Addr} {fd : FuncData} {k n : Nat} (F : Fun K "kept" "kept" sKept f fd) (g : mg "kept" = some (.ref f)) (b : Binds K fd ["value"] []) (b_isinstance : mg "isinstance" = none) (b_list : mg "list" = none) (b_tuple : mg "tuple" = none)
    (Kp : FnOk P w K mg base CX0 k f fd ["value"] (spKept K n)) : FnOk P w K mg base CX0 (k + 1) f fd ["value"] (spKept K (n + 1)) := by
  refine F.ok scKept (fun vs H Q E h => ?_) (fun cdv A outer s H vs Q E hr h => ?_)
  · obtain ⟨S, v, rfl, _⟩ := h
    rfl
  · obtain ⟨S, v, rfl, hS, L, q⟩ := h
    refine ⟨_, (pss_cons (ps_if (pt_val (pe_callB call_isi rfl b_isinstance (by decide +kernel) (pa_cons (pv 0) (pa_cons (pe_ty "list" rfl b_list (by decide +kernel)) pa_nil)))) (pss_one (ps_ret (pe_lc (own := [("item", 1)]) (g := gName 1) (tt := tYes) rfl scKept.nd (pi_list (pv 0)) (blkOk_by (own := [("item", 1)]) (N := ["value", "item"]) (sc := defScope sKept) (by decide +kernel)) (fun _ _ _ _ _ => (pg_name (i := 1) scKept.nd rfl (.inl rfl) (.inr rfl))) (fun _ _ _ _ _ => pts_nil) (fun _ _ _ _ _ => (pe_call Kp (hr.mono (by omega)) rfl g F.kp b .nil pass0 (pa_cons (pv 1) pa_nil)))))) pss_nil)
      (pss_cons (ps_if (pt_val (pe_callB call_isi rfl b_isinstance (by decide +kernel) (pa_cons (pv 0) (pa_cons (pe_ty "tuple" rfl b_tuple (by decide +kernel)) pa_nil)))) (pss_one (ps_ret (pe_callTy call_tuple_of rfl b_tuple (by decide +kernel) (pa_cons (pe_lc (own := [("item", 1)]) (g := gName 1) (tt := tYes) rfl scKept.nd (pi_tup (pv 0)) (blkOk_by (own := [("item", 1)]) (N := ["value", "item"]) (sc := defScope sKept) (by decide +kernel)) (fun _ _ _ _ _ => (pg_name (i := 1) scKept.nd rfl (.inl rfl) (.inr rfl))) (fun _ _ _ _ _ => pts_nil) (fun _ _ _ _ _ => (pe_call Kp (hr.mono (by omega)) rfl g F.kp b .nil pass0 (pa_cons (pv 1) pa_nil)))) pa_nil)))) pss_nil)
      (pss_one (ps_ret (pv 0))))), ?_⟩
    rcases L with fl | ⟨a, xs, rfl, hs, hl, hi⟩
    · exact ⟨_, rfl, _, _, _, _, _, rfl, .ty _, ty_flat fl, k1_fl fl, _, rfl, iteF ⟨_, rfl, _, _, _, _, _, rfl, .ty _, ty_flat fl, k1_ft fl, _, rfl, iteF ⟨_, rfl, q _ _ (Same.refl _) (LkB.flat fl)⟩⟩⟩
    · rcases hs with hA | hA
      · refine ⟨_, rfl, _, _, _, _, _, rfl, .ty _, ty_list hA.1, k1_ll, _, rfl, iteT ?_⟩
        refine ⟨_, rfl, a, rfl, ⟨_, hA.1⟩, fun D nD => ?_⟩
        refine lc_list (xs := xs) (fun i G => Same H G ∧ ∃ ys, G D = some (.lst ys) ∧ ys.length = i ∧ ∀ (j : Nat) u w, ys[j]? = some u → xs[j]? = some w → LkB K G (D :: S) n u w) ⟨same_upd nD, [], upd_same, rfl, fun j u w e => by simp at e⟩ (fun i G _ h => h.1.seq hA.1) ?_ ?_
        · rintro i x G hx ⟨s1, ys, hD, ly, hy⟩
          have lt : i < xs.length := (List.getElem?_eq_some_iff.mp hx).1
          refine ⟨rfl, ?_⟩
          unfold tYes
          refine iteT ?_
          have nS : Std G (D :: S) := fun p m => by
            rcases List.mem_cons.mp m with rfl | m
            · exact ⟨_, hD⟩
            · exact (hS.same s1) p m
          refine ⟨_, rfl, D :: S, x, rfl, nS, ((hi x (List.mem_of_getElem? hx)).more nD).dat (Dat.of s1), fun y G' t k => kept_W nD s1 hD ly (by omega) t hy hx k⟩
        · rintro G ⟨s1, ys, hD, ly, hy⟩
          exact q _ _ s1 (.inr ⟨D, a, ys, xs, rfl, rfl, .inl ⟨⟨SqL.of hD, .inl (hS.new nD)⟩, hA.dat (Dat.of s1)⟩, ly, by omega, fun i x y e1 e2 => (hy i x y e1 e2).less⟩)
      · refine ⟨_, rfl, _, _, _, _, _, rfl, .ty _, ty_tup hA.1, k1_tl, _, rfl, iteF ⟨_, rfl, _, _, _, _, _, rfl, .ty _, ty_tup hA.1, k1_tt, _, rfl, iteT ?_⟩⟩
        refine ⟨_, rfl, a, rfl, ⟨_, hA.1⟩, fun D nD => ?_⟩
        refine lc_tup (xs := xs) (fun i G => Same H G ∧ ∃ ys, G D = some (.lst ys) ∧ ys.length = i ∧ ∀ (j : Nat) u w, ys[j]? = some u → xs[j]? = some w → LkB K G (D :: S) n u w) ⟨same_upd nD, [], upd_same, rfl, fun j u w e => by simp at e⟩ (fun i G _ h => seqT_same h.1 hA.1) ?_ ?_
        · rintro i x G hx ⟨s1, ys, hD, ly, hy⟩
          have lt : i < xs.length := (List.getElem?_eq_some_iff.mp hx).1
          refine ⟨rfl, ?_⟩
          unfold tYes
          refine iteT ?_
          have nS : Std G (D :: S) := fun p m => by
            rcases List.mem_cons.mp m with rfl | m
            · exact ⟨_, hD⟩
            · exact (hS.same s1) p m
          refine ⟨_, rfl, D :: S, x, rfl, nS, ((hi x (List.mem_of_getElem? hx)).more nD).dat (Dat.of s1), fun y G' t k => kept_W nD s1 hD ly (by omega) t hy hx k⟩
        · rintro G ⟨s1, ys, hD, ly, hy⟩
          refine ⟨D, _, rfl, .inl ⟨SqL.of hD, fun l nl => q _ _ (s1.trans (same_upd nl)) ?_⟩⟩
          have t2 : Dat S G (upd G l (.tup ys)) := Dat.of (same_upd nl)
          refine .inr ⟨l, a, ys, xs, rfl, rfl, .inr ⟨⟨SqT.of upd_same, .inl ((hS.same s1).new nl)⟩, (hA.dat (Dat.of s1)).dat t2⟩, ly, by omega, fun i x y e1 e2 => (hy i x y e1 e2).less.dat t2⟩
theorem ok_kept {f : Addr} {fd : FuncData} (F : Fun K "kept" "kept" sKept f fd) (g : mg "kept" = some (.ref f)) (b : Binds K fd ["value"] []) (b_isinstance : mg "isinstance" = none) (b_list : mg "list" = none) (b_tuple : mg "tuple" = none) :
    ∀ n : Nat, FnOk P w K mg base CX0 (n + 1) f fd ["value"] (spKept K n) := by
  intro n
  induction n with
  | zero =>
    refine F.ok scKept (fun vs H Q E h => ?_) (fun cdv A outer s H vs Q E hr h => ?_)
    · obtain ⟨S, v, rfl, _⟩ := h
      rfl
    · obtain ⟨S, v, rfl, hS, fl, q⟩ := h
      refine ⟨_, (pss_cons (ps_if (pt_val (pe_callB call_isi rfl b_isinstance (by decide +kernel) (pa_cons (pv 0) (pa_cons (pe_ty "list" rfl b_list (by decide +kernel)) pa_nil)))) (pss_one ps_never) pss_nil)
        (pss_cons (ps_if (pt_val (pe_callB call_isi rfl b_isinstance (by decide +kernel) (pa_cons (pv 0) (pa_cons (pe_ty "tuple" rfl b_tuple (by decide +kernel)) pa_nil)))) (pss_one ps_never) pss_nil)
        (pss_one (ps_ret (pv 0))))), ?_⟩
      exact ⟨_, rfl, _, _, _, _, _, rfl, .ty _, ty_flat fl, k1_fl fl, _, rfl, iteF ⟨_, rfl, _, _, _, _, _, rfl, .ty _, ty_flat fl, k1_ft fl, _, rfl, iteF ⟨_, rfl, q _ _ (Same.refl _) ⟨rfl, fl⟩⟩⟩⟩
  | succ n ih => exact kept_step F g b b_isinstance b_list b_tuple ih
end
end My

set_option Elab.async false
set_option linter.all false
set_option maxRecDepth 100000
set_option maxHeartbeats 4000000
/-! sorted(..) of tuples of whole numbers, of any length -/
namespace SrtO
open PySem PySem.Spec PyProof.Rows L2
/-- a tuple of these numbers -/
def IsTup (h : Heap) (v : Value) (ns : List Int) : Prop := ∃ (a : Addr) (o : Obj) (its : List Value) (n : Nat), v = .ref a ∧ h.get? a = some o ∧ o.cls = .type "tuple" ∧ o.data = .seq its.toArray n ∧ Vals (ns.map V.int) its
theorem IsTup.keeps {h h' : Heap} {v : Value} {ns : List Int} (p : IsTup h v ns) (k : ∀ b o, h.get? b = some o → o.cls = .type "tuple" → h'.get? b = some o) : IsTup h' v ns := by
  obtain ⟨a, o, its, n, e, ho, hc, hd, r⟩ := p
  exact ⟨a, o, its, n, e, k _ _ ho hc, hc, hd, r⟩
section
variable {prog : Program} {w : World} {A : Around} {s : Shared}
theorem kat_ints {Q : Bool → Shared → Prop} : ∀ (xs ys : List Int) (us vs : List Value) (i : Nat), Vals (xs.map V.int) us → Vals (ys.map V.int) vs → xs.length = ys.length → Q (HT.lexLt xs ys) s → PySem.W.KatLex prog w A true false Q (us.zip vs) i s
  | [], [], _, _, i, r1, r2, _, q => by
    cases r1
    cases r2
    rw [HT.lexLt_nil_nil] at q
    exact PySem.W.kat_nil q
  | [], _ :: _, _, _, _, _, _, h, _ => by cases h
  | _ :: _, [], _, _, _, _, _, h, _ => by cases h
  | x :: xs, y :: ys, _, _, i, r1, r2, h, q => by
    cases r1 with
    | cons a r1 =>
      cases r2 with
      | cons b r2 =>
        obtain ⟨t, rfl⟩ := a
        obtain ⟨u, rfl⟩ := b
        rw [HT.lexLt_cons] at q
        refine PySem.W.kat_cons (SeqAt.EqAt.int_int x t y u prog w _ _ ?_)
        refine PySem.W.kat_go (fun e1 => ?_) (fun e1 => ?_)
        · have ex : x = y := by simpa using e1
          rw [if_pos ex] at q
          exact PySem.W.kat_yes (kat_ints xs ys _ _ (i + 1) r1 r2 (by simpa using h) q)
        · have ex : ¬ x = y := by simpa using e1
          rw [if_neg ex] at q
          exact PySem.W.kat_no (TS.oneLt_ints _ q)
theorem tup_cmp {vs : List Value} {k : Value → List Int} {d : Nat} (hp : ∀ v ∈ vs, IsTup s.heap v (k v) ∧ (k v).length = d) : Cmp prog w A s (tuples' true) (fun p => p.1 ∈ vs) (lt2 fun v u => HT.lexLt (k v) (k u)) := by
  intro p q hm hm'
  obtain ⟨h1, l1⟩ := hp _ hm
  obtain ⟨h2, l2⟩ := hp _ hm'
  show wpAny (model prog w) A (keyLt' (tuples' true) p.1 q.1) (fun r s' => s' = s ∧ r = HT.lexLt (k p.1) (k q.1)) (fun _ _ => False) s
  obtain ⟨a, o, its, n, e, ho, hc, hd, r⟩ := h1
  obtain ⟨a', o', its', n', e', ho', hc', hd', r'⟩ := h2
  have z1 : its.length = d := by rw [← r.length, List.length_map, l1]
  have z2 : its'.length = d := by rw [← r'.length, List.length_map, l2]
  have zz : (k p.1).length = (k q.1).length := by rw [l1, l2]
  generalize k p.1 = xs at r zz ⊢
  generalize k q.1 = ys at r' zz ⊢
  rw [e, e']
  refine PySem.W.kat_lt ho hd ho' hd' ?_
  have fin : decide (its.toArray.size < its'.toArray.size) = false := by
    rw [List.size_toArray, List.size_toArray, z1, z2]
    exact decide_eq_false (Nat.lt_irrefl _)
  rw [fin]
  exact kat_ints _ _ _ _ 0 r r' zz ⟨rfl, rfl⟩
theorem firsts_tup {h : Heap} {k : Value → List Int} {d : Nat} (hd1 : 1 ≤ d) : ∀ {vs : List Value}, (∀ v ∈ vs, IsTup h v (k v) ∧ (k v).length = d) → ∃ fs : List Value, PySem.W.KatTups h vs fs ∧ fs.length = vs.length ∧ ∀ f ∈ fs, ∃ x t, f = Value.int x t
  | [], _ => ⟨[], PySem.W.KatTups.nil, rfl, fun _ hm => by simp at hm⟩
  | v :: vs, hp => by
    obtain ⟨fs, h1, h2, h3⟩ := firsts_tup hd1 (vs := vs) fun v' hm => hp v' (List.mem_cons_of_mem _ hm)
    obtain ⟨⟨a, o, its, n, e, ho, hc, hd, r⟩, l⟩ := hp v List.mem_cons_self
    subst e
    obtain ⟨x, xs, ek⟩ : ∃ x xs, k (.ref a) = x :: xs := by
      cases z : k (.ref a) with
      | nil => rw [z] at l; simp at l; omega
      | cons x xs => exact ⟨x, xs, rfl⟩
    rw [ek] at r
    cases r with
    | cons b r =>
      obtain ⟨t, rfl⟩ := b
      refine ⟨.int x t :: fs, PySem.W.KatTups.cons ho hc hd rfl h1, by rw [List.length_cons, List.length_cons, h2], fun f hm => ?_⟩
      rcases List.mem_cons.mp hm with rfl | hm
      · exact ⟨x, t, rfl⟩
      · exact h3 f hm
theorem tups_sortable {a : Addr} {vs : List Value} {k : Value → List Int} {d : Nat} (hd1 : 1 ≤ d) (h0 : 0 < vs.length) (hp : ∀ v ∈ vs, IsTup s.heap v (k v) ∧ (k v).length = d) (ha : ∀ o, s.heap.get? a = some o → o.cls ≠ .type "tuple") : SortableO prog w A s a vs fun v u => HT.lexLt (k v) (k u) := by
  intro h' keep
  have hp' : ∀ v ∈ vs, IsTup h' v (k v) ∧ (k v).length = d := fun v hm => ⟨(hp v hm).1.keeps fun b o e c => keep b o (fun z => by subst z; exact ha o e c) e, (hp v hm).2⟩
  obtain ⟨fs, h1, h2, h3⟩ := firsts_tup hd1 hp'
  refine ⟨tuples' true, fun Q E hq => ?_, tup_cmp hp'⟩
  refine PySem.W.kat_kind (T := .type "int") h1 (by omega) (fun f hm => ?_) (by rfl) ?_
  · obtain ⟨x, t, rfl⟩ := h3 f hm
    exact PySem.W.Looks.now
  · have e : (Value.type "int" != Value.type "tuple") = true := by first | decide +kernel | rfl | decide
    rw [e]
    exact hq
theorem sorted_tups {l : Addr} {vs : List Value} {k : Value → List Int} {d : Nat} {Q : Value → Shared → Prop} {E : Value → Shared → Prop} (hd1 : 1 ≤ d) (hl : s.heap.IsList l vs.toArray) (hz : vs.length ≤ sizeLine) (hp : ∀ v ∈ vs, IsTup s.heap v (k v) ∧ (k v).length = d)
    (go : ∀ (h' : Heap) (p : Addr) (out : List Value), Srtd (fun v u => HT.lexLt (k v) (k u)) out → Stb (fun v u => HT.lexLt (k v) (k u)) out vs → (∀ b o, s.heap.get? b = some o → h'.get? b = some o) → s.heap.objs.size ≤ p → (∃ n, h'.get? p = some (seqObj "list" out.toArray n)) → Q (.ref p) { s with heap := h' }) :
    wpAny (model prog w) A (call (.builtin "sorted") [.ref l]) Q E s := by
  refine sorted_ord (NtL.swo_lexL k) hl hz (fun h2 h₁ a ha kk => ?_) fun out hs hb => ?_
  · refine tups_sortable (s := { s with heap := h₁ }) hd1 (by omega) (fun v hm => ⟨(hp v hm).1.keeps fun b o e _ => (kk b o e).2, (hp v hm).2⟩) fun o e => ?_
    have e' : some o = some (seqObj "list" vs.toArray 0) := e.symm.trans ha
    cases e'
    intro c
    exact absurd (Value.type.inj c) (by decide)
  · exact go _ _ out hs hb (fun b o e => sortedAll_old e) (Nat.le_succ _) (sortedAll_at s.heap vs out.toArray)
end
end SrtO
namespace My
open PySem PySem.Spec PyProof.Rows L2
abbrev ltL (k : V → List Int) (x y : V) : Bool := HT.lexLt (k x) (k y)
/-- sorted(xs), xs a list of tuples of d whole numbers each (k says which) -/
def rSortedL (K : PySem.W.Frag) : List V → Hp → VK → Prop := fun vs H Q => ∃ (a : Addr) (xs : List V) (k : V → List Int) (d : Nat), vs = [V.ref a] ∧ SqL K H a xs ∧ 1 ≤ d ∧ (∀ x ∈ xs, ∃ t, x = V.ref t ∧ H t = some (.tup ((k x).map V.int)) ∧ (k x).length = d) ∧
  ∀ ys p, SrtO.Srtd (ltL k) ys → SrtO.Stb (ltL k) ys xs → H p = none → Q (.ref p) (upd H p (.lst ys))
theorem cr_sortedL {X : Cx} : CallR X (.builtin "sorted") (rSortedL X.K) := by
  intro pins s σ H vs us Q I r h
  obtain ⟨a, xs, k, d, rfl, hs, hd1, hx, q⟩ := h
  obtain ⟨its, rv, hl, hz⟩ := I.list hs
  obtain ⟨u, rfl, ru⟩ := vals1 r
  obtain rfl : u = Value.ref a := ru
  obtain ⟨e1, e2⟩ := refs_back rv fun x m => by
    obtain ⟨t, e, _⟩ := hx x m
    exact ⟨t, e⟩
  refine SrtO.sorted_tups (k := fun u => k (backV u)) hd1 hl.isList (by rw [← rv.length]; exact hz) (fun v hv => ?_) fun h' p out h1 h2 kp hd hn => ?_
  · obtain ⟨t, rfl⟩ := e2 v hv
    have hm : V.ref t ∈ xs := by rw [e1]; exact List.mem_map.mpr ⟨_, hv, rfl⟩
    obtain ⟨t', e, ht, len⟩ := hx _ hm
    cases e
    obtain ⟨_, its2, r2, o, ho, hc, n, hd⟩ := I.hok _ _ ht
    exact ⟨⟨t, o, its2, n, rfl, ho, hc, hd, r2⟩, len⟩
  · have h3 : ∀ u ∈ out, ∃ a, u = Value.ref a := fun u hu => e2 u (h2.perm.mem_iff.mp hu)
    obtain ⟨n, hn⟩ := hn
    have hb : SrtO.Stb (ltL k) (out.map backV) xs := by
      rw [e1]
      exact SrtO.Stb.map (NtL.swo_lexL k) backV h2
    refine ⟨.ref p, upd H p (.lst (out.map backV)), I.laid (t' := s.toks) kp hd ⟨?_, out, n, vals_back h3, hn⟩, rfl, q _ p (SrtO.srtd_map h1) hb (I.hok.fresh hd)⟩
    rw [hb.len]
    exact hz
end My

set_option Elab.async false
set_option linter.all false
set_option maxRecDepth 100000
namespace My
open PySem PySem.Spec PyProof.Rows L2
/-! lists of tuples of whole numbers; a block of two fors -/
abbrev sMarkRows : Stmt := topS 19
theorem scMarkRows : FnScope ["many", "most", "rows", "_", "row", "mark"] ["many", "most"] (defScope sMarkRows) := ⟨rfl, rfl, rfl, by decide +kernel, rfl, by decide +kernel, by decide +kernel⟩
/-- the outer for of two, over a list -/
theorem out_list {K : PySem.W.Frag} {a : Addr} {xs : List V} {g : TG} {tt : TT} {vs : List Nat} {σ : L2.St} {Hs : Hp} {Qd : Hp → Prop} {Inner : (Hp → Prop) → L2.St → Hp → Prop} (Pv : Nat → Hp → Prop) (h0 : Pv 0 Hs) (hl : ∀ i H, i ≤ xs.length → Pv i H → SqL K H a xs)
    (hs : ∀ i x H, xs[i]? = some x → Pv i H → g x (wipe σ vs) H fun σ2 H2 => wipe σ2 vs = wipe σ vs ∧ tt σ2 H2 fun b H3 => if b = true then Inner (Pv (i + 1)) σ2 H3 else Pv (i + 1) H3) (hd : ∀ H, Pv xs.length H → Qd H) :
    ∃ W : Nat → Nat → Hp → Prop, (∃ m, W 0 m Hs) ∧ ∀ i m H, W i m H →
      ((Itl K a).stop i H ∧ Qd H) ∨ ((Itl K a).go i H ∧ ∃ Nx : Hp → Prop, (∀ H', Nx H' → ∃ m', m' < m ∧ W (i + 1) m' H') ∧ ∀ x H', (Itl K a).yld i H x H' → g x (wipe σ vs) H' fun σ2 H2 => wipe σ2 vs = wipe σ vs ∧ tt σ2 H2 fun b H3 => if b = true then Inner Nx σ2 H3 else Nx H3) := by
  refine ⟨fun i m H => m = xs.length - i ∧ i ≤ xs.length ∧ Pv i H, ⟨xs.length, by simp, Nat.zero_le _, h0⟩, ?_⟩
  rintro i m H ⟨rfl, hi, p⟩
  have here := hl i H hi p
  by_cases lt : i < xs.length
  · refine .inr ⟨⟨xs, xs[i], here, by simp [lt]⟩, Pv (i + 1), fun H' p' => ⟨xs.length - (i + 1), by omega, rfl, lt, p'⟩, fun x H' y => ?_⟩
    obtain ⟨e, y⟩ := y
    subst e
    exact hs i x _ (y xs here) p
  · obtain rfl : i = xs.length := by omega
    exact .inl ⟨⟨xs, here, Nat.le_refl _⟩, hd H p⟩
/-- the inner for of two, over a range -/
theorem in_range {n : Nat} {g : TG} {tt : TT} {te : TE} {vs : List Nat} {σ : L2.St} {Hs : Hp} {D : Addr} {Qd : Hp → Prop} (Pv : Nat → Hp → Prop) (h0 : Pv 0 Hs)
    (hs : ∀ i H, i < n → Pv i H → g (.int (0 + i)) (wipe σ vs) H fun σ2 H2 => wipe σ2 vs = wipe σ vs ∧ tt σ2 H2 fun b H3 =>
      if b = true then te σ2 H3 fun y H4 => ∃ acc, H4 D = some (.lst acc) ∧ acc.length < sizeLine ∧ Pv (i + 1) (upd H4 D (.lst (acc ++ [y]))) else Pv (i + 1) H3) (hd : ∀ H, Pv n H → Qd H) :
    ∃ W : Nat → Nat → Hp → Prop, (∃ m, W 0 m Hs) ∧ ∀ i m H, W i m H →
      ((Itr 0 n).stop i H ∧ Qd H) ∨ ((Itr 0 n).go i H ∧ ∃ Nx : Hp → Prop, (∀ H', Nx H' → ∃ m', m' < m ∧ W (i + 1) m' H') ∧ ∀ x H', (Itr 0 n).yld i H x H' → g x (wipe σ vs) H' fun σ2 H2 => wipe σ2 vs = wipe σ vs ∧ tt σ2 H2 fun b H3 =>
        if b = true then te σ2 H3 fun y H4 => ∃ acc, H4 D = some (.lst acc) ∧ acc.length < sizeLine ∧ Nx (upd H4 D (.lst (acc ++ [y]))) else Nx H3) := by
  refine ⟨fun i m H => m = n - i ∧ i ≤ n ∧ Pv i H, ⟨n, by simp, Nat.zero_le _, h0⟩, ?_⟩
  rintro i m H ⟨rfl, hi, p⟩
  by_cases lt : i < n
  · refine .inr ⟨lt, Pv (i + 1), fun H' p' => ⟨n - (i + 1), by omega, rfl, lt, p'⟩, fun x H' y => ?_⟩
    obtain ⟨e, y⟩ := y
    subst e y
    exact hs i _ lt p
  · obtain rfl : i = n := by omega
    exact .inl ⟨Nat.le_refl _, hd H p⟩
/-- v is a tuple of these numbers -/
def TR (H : Hp) (v : V) (r : List Int) : Prop := ∃ t, v = .ref t ∧ H t = some (.tup (r.map V.int))
theorem TR.same {H H' : Hp} {v : V} {r : List Int} (s : Same H H') (h : TR H v r) : TR H' v r := by
  obtain ⟨t, e, h⟩ := h
  exact ⟨t, e, s _ _ h⟩
theorem TR.put {H : Hp} {v : V} {r : List Int} {D : Addr} {ys zs : List V} (hD : H D = some (.lst ys)) (h : TR H v r) : TR (upd H D (.lst zs)) v r := by
  obtain ⟨t, e, h⟩ := h
  refine ⟨t, e, ?_⟩
  rw [upd_ne (fun z => by rw [z, hD] at h; cases h)]
  exact h
/-- the list's tuples -/
def TRs (H : Hp) : List V → List (List Int) → Prop
  | [], [] => True
  | v :: vs, r :: rs => TR H v r ∧ TRs H vs rs
  | _, _ => False
theorem TRs.imp {H H' : Hp} (f : ∀ v r, TR H v r → TR H' v r) : ∀ {xs : List V} {rs : List (List Int)}, TRs H xs rs → TRs H' xs rs
  | [], [], _ => trivial
  | [], _ :: _, h => h.elim
  | _ :: _, [], h => h.elim
  | v :: _, r :: _, h => ⟨f v r h.1, h.2.imp f⟩
theorem TRs.len {H : Hp} : ∀ {xs : List V} {rs : List (List Int)}, TRs H xs rs → xs.length = rs.length
  | [], [], _ => rfl
  | [], _ :: _, h => h.elim
  | _ :: _, [], h => h.elim
  | _ :: _, _ :: _, h => congrArg Nat.succ h.2.len
theorem TRs.snoc {H : Hp} {v : V} {r : List Int} (k : TR H v r) : ∀ {xs : List V} {rs : List (List Int)}, TRs H xs rs → TRs H (xs ++ [v]) (rs ++ [r])
  | [], [], _ => ⟨k, trivial⟩
  | [], _ :: _, h => h.elim
  | _ :: _, [], h => h.elim
  | _ :: _, _ :: _, h => ⟨h.1, h.2.snoc k⟩
theorem TRs.get {H : Hp} : ∀ {xs : List V} {rs : List (List Int)} {i : Nat} {x : V}, TRs H xs rs → xs[i]? = some x → ∃ r, rs[i]? = some r ∧ TR H x r
  | [], [], _, _, _, e => by simp at e
  | [], _ :: _, _, _, h, _ => h.elim
  | _ :: _, [], _, _, h, _ => h.elim
  | _ :: _, r :: _, 0, _, h, e => by cases e; exact ⟨r, rfl, h.1⟩
  | _ :: _, _ :: _, i + 1, _, h, e => h.2.get (i := i) e
/-- one more number behind each -/
def mstep (k : Nat) (rows : List (List Int)) : List (List Int) := rows.flatMap fun r => (List.range (k + 1)).map fun j : Nat => r ++ [(j : Int)]
def mrows (k : Nat) : Nat → List (List Int)
  | 0 => [[]]
  | m + 1 => mstep k (mrows k m)
theorem mstep_len (k : Nat) (rows : List (List Int)) : (mstep k rows).length = rows.length * (k + 1) := by
  unfold mstep
  induction rows with
  | nil => simp
  | cons r rs ih => rw [List.flatMap_cons, List.length_append, ih, List.length_map, List.length_range, List.length_cons, Nat.succ_mul, Nat.add_comm]
theorem mstep_take {k i : Nat} {rows : List (List Int)} {r : List Int} (e : rows[i]? = some r) : mstep k (rows.take (i + 1)) = mstep k (rows.take i) ++ (List.range (k + 1)).map fun j : Nat => r ++ [(j : Int)] := by
  unfold mstep
  rw [List.take_add_one, e, List.flatMap_append]
  simp
def spRows : Sp := fun vs H Q _ => ∃ m k : Nat, vs = [.int m, .int k] ∧ m ≤ 5 ∧ k ≤ 3 ∧ ∀ l xs H', Same H H' → H l = none → H' l = some (.lst xs) → TRs H' xs (mrows k m) → Q (.ref l) H'
theorem mrows_len (k : Nat) : ∀ m, (mrows k m).length = (k + 1) ^ m
  | 0 => rfl
  | m + 1 => by rw [mrows, mstep_len, mrows_len k m, Nat.pow_succ]
theorem mrows_row (k : Nat) : ∀ m r, r ∈ mrows k m → r.length = m
  | 0, r, h => by
    rw [List.mem_singleton.mp h]
    rfl
  | m + 1, r, h => by
    obtain ⟨r0, h0, h1⟩ := List.mem_flatMap.mp h
    obtain ⟨j, _, rfl⟩ := List.mem_map.mp h1
    rw [List.length_append, mrows_row k m r0 h0]
    rfl
section
variable {P : Program} {w : World} {K : PySem.W.Frag} {mg : Str → Option Value} {base : Heap}
theorem ok_mark_rows {f : Addr} {fd : FuncData} {k : Nat} (F : Fun K "mark_rows" "mark_rows" sMarkRows f fd) (b_range : mg "range" = none) : FnOk P w K mg base CX0 (k + 1) f fd ["many", "most"] spRows := by
  refine F.ok scMarkRows (fun vs H Q E h => ?_) (fun cdv A outer s H vs Q E hr h => ?_)
  · obtain ⟨m, k, rfl, _⟩ := h
    rfl
  · obtain ⟨m, kk, rfl, hm, hk, q⟩ := h
    refine ⟨_, (pss_cons (ps_set (i := 2) scMarkRows.nd rfl (.inl rfl) (pe_lst (pa_cons (pe_tup pa_nil) pa_nil)))
      (pss_cons (ps_for PassesOwn.never rfl (pi_range1 rfl b_range (pa_cons (pv 0) pa_nil)) (pg_name (i := 3) scMarkRows.nd rfl (.inl rfl))
        (pss_one (ps_setLc2 (i := 2) (own := [("row", 4), ("mark", 5)]) (vs1 := [5]) (g := gName 4) (g1 := gName 5) (tt := tYes) (tt1 := tYes) (te := tOp (rCatA K) (tVar 4) (tTup (tCons (tVar 5) tNil))) rfl scMarkRows.nd rfl rfl (sw_true rfl rfl rfl (by decide +kernel)) (pi_list (pv 2)) (blkOk_by (own := [("row", 4), ("mark", 5)]) (N := ["many", "most", "rows", "_", "row", "mark"]) (sc := defScope sMarkRows) (by decide +kernel)) (by decide) (fun _ _ _ _ _ => (pg_name (i := 4) scMarkRows.nd rfl (.inl rfl) (.inr rfl))) (fun _ _ _ _ _ => pts_nil) (fun _ _ _ _ _ => (pi_range1 rfl b_range (pa_cons (pe_op op_add (pv 1) pe_int) pa_nil))) (fun _ _ _ _ _ => (pg_name (i := 5) scMarkRows.nd rfl (.inl rfl) (.inr rfl))) (fun _ _ _ _ _ => pts_nil) (fun _ _ _ _ _ => (pe_op op_catA (pv 4) (pe_tup (pa_cons (pv 5) pa_nil)))))))
      (pss_one (ps_ret (pv 2))))), ?_⟩
    refine ⟨(by show 0 ≤ sizeLine; decide), fun t nt => ⟨(by show 1 ≤ sizeLine; decide), fun l0 n0 => ?_⟩⟩
    have s0 := (same_upd (o := .tup []) nt).trans (same_upd (o := .lst [.ref t]) n0)
    have et : (upd (upd H t (.tup [])) l0 (.lst [.ref t])) t = some (.tup []) := same_upd n0 _ _ upd_same
    refine ⟨_, rfl, m, rfl, by omega, by omega, for_range (n := m) (fun i σ G => ∃ x3 l xs, σ = [some (.int m), some (.int kk), some (.ref l), x3, none, none] ∧ Same H G ∧ H l = none ∧ G l = some (.lst xs) ∧ TRs G xs (mrows kk i)) ⟨_, l0, _, rfl, s0, (same_upd nt).free n0, upd_same, ⟨⟨t, rfl, et⟩, trivial⟩⟩ ?_ (fun σ G ⟨x3, l, xs, e, s, hl, hG, hR⟩ => by subst e; exact ⟨_, rfl, q l xs G s hl hG hR⟩)⟩
    rintro i σ G hi ⟨x3, l, xs, rfl, sG, hl, eG, hR⟩
    have len0 : xs.length = (kk + 1) ^ i := by rw [hR.len, mrows_len]
    have big : xs.length * (kk + 1) ≤ 1024 := by
      rw [len0, ← Nat.pow_succ]
      calc (kk + 1) ^ (i + 1) ≤ 4 ^ (i + 1) := Nat.pow_le_pow_left (by omega) _
        _ ≤ 4 ^ 5 := Nat.pow_le_pow_right (by decide) (by omega)
        _ = 1024 := by decide
    refine ⟨_, rfl, l, rfl, ⟨_, SqL.of eG⟩, fun D nD => ?_⟩
    have nlD : l ≠ D := fun e => by rw [e, nD] at eG; cases eG
    refine out_list (xs := xs) (fun a G2 => Same G G2 ∧ ∃ ys, G2 D = some (.lst ys) ∧ TRs G2 ys (mstep kk ((mrows kk i).take a))) ⟨same_upd nD, [], upd_same, trivial⟩ (fun a G2 _ h => SqL.of (h.1 _ _ eG)) ?_ ?_
    · rintro a x G2 hx ⟨s2, ys, hD, hY⟩
      obtain ⟨r, er, kr⟩ := hR.get hx
      have lt : a < xs.length := (List.getElem?_eq_some_iff.mp hx).1
      have ly : ys.length ≤ a * (kk + 1) := by
        rw [hY.len, mstep_len, List.length_take]
        exact Nat.mul_le_mul_right _ (Nat.min_le_left _ _)
      have lb : a * (kk + 1) + (kk + 1) ≤ 1024 := by
        rw [← Nat.succ_mul]
        exact Nat.le_trans (Nat.mul_le_mul_right _ lt) big
      refine ⟨rfl, ?_⟩
      unfold tYes
      refine iteT ⟨_, rfl, _, _, rfl, rfl, _, rfl, by omega, by omega, ?_⟩
      have en : ((kk : Int) + 1).toNat = kk + 1 := by omega
      refine in_range (n := ((kk : Int) + 1).toNat) (g := gName 5) (tt := tYes) (te := tOp (rCatA K) (tVar 4) (tTup (tCons (tVar 5) tNil))) (vs := [5]) (D := D) (Hs := G2) (fun j G3 => Same G G3 ∧ ∃ zs, G3 D = some (.lst zs) ∧ TRs G3 zs (mstep kk ((mrows kk i).take a) ++ (List.range j).map fun j : Nat => r ++ [(j : Int)])) ⟨s2, ys, hD, by rw [List.range_zero, List.map_nil, List.append_nil]; exact hY⟩ ?_ ?_
      · rintro j G3 hj ⟨s3, zs, hZ, kZ⟩
        obtain ⟨tx, rfl, htx⟩ := kr
        have lz : zs.length < sizeLine := by
          rw [kZ.len, List.length_append, ← hY.len, List.length_map, List.length_range, sizeLine_eq]
          omega
        have app : ∀ (y : V) (G4 : Hp), Same G3 G4 → TR G4 y (r ++ [(0 + (j : Int))]) → ∃ acc, G4 D = some (.lst acc) ∧ acc.length < sizeLine ∧ (Same G (upd G4 D (.lst (acc ++ [y]))) ∧ ∃ zs, (upd G4 D (.lst (acc ++ [y]))) D = some (.lst zs) ∧ TRs (upd G4 D (.lst (acc ++ [y]))) zs (mstep kk ((mrows kk i).take a) ++ (List.range (j + 1)).map fun j : Nat => r ++ [(j : Int)])) := by
          intro y G4 s4 ky
          have hD4 := s4 _ _ hZ
          refine ⟨zs, hD4, lz, same_updF nD (s3.trans s4), zs ++ [y], upd_same, ?_⟩
          rw [List.range_succ, List.map_append, ← List.append_assoc]
          refine TRs.snoc (TR.put hD4 ?_) ((kZ.imp fun v r h => h.same s4).imp fun v r h => h.put hD4)
          show TR G4 y (r ++ [(j : Int)])
          rw [Int.zero_add] at ky
          exact ky
        refine ⟨rfl, ?_⟩
        unfold tYes
        refine iteT ⟨_, rfl, _, rfl, (by show 1 ≤ sizeLine; decide), fun p np => ?_⟩
        have sp := same_upd (o := .tup [.int (0 + (j : Int))]) np
        have lr : r.length ≤ 5 := by
          have := mrows_row kk i r (List.mem_of_getElem? er)
          omega
        refine ⟨tx, p, _, _, rfl, rfl, SqT.of (sp _ _ (s3 _ _ htx)), SqT.of upd_same, (by rw [List.length_map]; show _ + 1 ≤ sizeLine; rw [sizeLine_eq]; omega), fun e => ?_, (fun _ e => by cases e), fun e _ c nc => ?_⟩
        · have er' : r = [] := by cases r with
            | nil => rfl
            | cons _ _ => cases e
          exact app _ _ sp ⟨p, rfl, by rw [er', upd_same]; rfl⟩
        · refine app _ _ (sp.trans (same_upd nc)) ⟨c, rfl, ?_⟩
          rw [upd_same, List.map_append]
          rfl
      · rintro G3 ⟨s3, zs, hZ, kZ⟩
        rw [en] at kZ
        exact ⟨s3, zs, hZ, by rw [mstep_take er]; exact kZ⟩
    · rintro G2 ⟨s2, ys, hD, hY⟩
      rw [hR.len, List.take_length] at hY
      exact ⟨_, _, ys, rfl, sG.trans s2, sG.free nD, hD, hY⟩
end
end My

set_option Elab.async false
set_option linter.all false
set_option maxRecDepth 100000
namespace My
open PySem PySem.Spec PyProof.Rows L2
/-! whole numbers asked; forms made -/
abbrev sIsInteger : Stmt := topS 7
theorem scIsInteger : FnScope ["value"] ["value"] (defScope sIsInteger) := ⟨rfl, rfl, rfl, by decide +kernel, rfl, by decide +kernel, by decide +kernel⟩
abbrev sIsNumber : Stmt := topS 8
theorem scIsNumber : FnScope ["value", "least", "most"] ["value", "least", "most"] (defScope sIsNumber) := ⟨rfl, rfl, rfl, by decide +kernel, rfl, by decide +kernel, by decide +kernel⟩
abbrev sOneInit : Stmt := inClass (topS 13) 0
theorem scOneInit : FnScope ["self"] ["self"] (defScope sOneInit) := ⟨rfl, rfl, rfl, by decide +kernel, rfl, by decide +kernel, by decide +kernel⟩
abbrev sTicksInit : Stmt := inClass (topS 14) 0
theorem scTicksInit : FnScope ["self"] ["self"] (defScope sTicksInit) := ⟨rfl, rfl, rfl, by decide +kernel, rfl, by decide +kernel, by decide +kernel⟩
abbrev sPointsInit : Stmt := inClass (topS 15) 0
theorem scPointsInit : FnScope ["self", "number"] ["self", "number"] (defScope sPointsInit) := ⟨rfl, rfl, rfl, by decide +kernel, rfl, by decide +kernel, by decide +kernel⟩
abbrev sRanksInit : Stmt := inClass (topS 16) 0
theorem scRanksInit : FnScope ["self"] ["self"] (defScope sRanksInit) := ⟨rfl, rfl, rfl, by decide +kernel, rfl, by decide +kernel, by decide +kernel⟩
abbrev sListsInit : Stmt := inClass (topS 17) 0
theorem scListsInit : FnScope ["self", "number"] ["self", "number"] (defScope sListsInit) := ⟨rfl, rfl, rfl, by decide +kernel, rfl, by decide +kernel, by decide +kernel⟩
/-- flat, or a list or tuple -/
def AnyV (K : PySem.W.Frag) (H : Hp) (v : V) : Prop := flat0 v ∨ ∃ a xs, v = .ref a ∧ (SqL K H a xs ∨ SqT K H a xs)
theorem Thg.any {K : PySem.W.Frag} {H : Hp} {S : List Addr} {n : Nat} {v : V} (h : Thg K H S n v) : AnyV K H v := by
  cases n with
  | zero => exact .inl h
  | succ n =>
    rcases h with h | ⟨a, xs, e, hs, _, _⟩
    · exact .inl h
    · exact .inr ⟨a, xs, e, hs.imp (·.1) (·.1)⟩
def isI : V → Bool
  | .int _ => true
  | _ => false
/-- a whole number from lo to hi -/
def inI (lo hi : Int) : V → Bool
  | .int i => decide (lo ≤ i) && decide (i ≤ hi)
  | _ => false
def spIsInt (K : PySem.W.Frag) : Sp := fun vs H Q _ => ∃ v, vs = [v] ∧ AnyV K H v ∧ Q (.bl (isI v)) H
def spIsNum (K : PySem.W.Frag) : Sp := fun vs H Q _ => ∃ v lo hi, vs = [v, .int lo, .int hi] ∧ AnyV K H v ∧ Q (.bl (inI lo hi v)) H
/-- a form at a -/
def FormAt (H : Hp) (C a : Addr) (w : Str) (n : Int) : Prop := ∃ dx, H a = some (.ins C dx [("word", .str w), ("number", .int n)])
def spForm0 (C : Addr) (w : Str) : Sp := fun vs H Q _ => ∃ a dx : Addr, vs = [.ref a] ∧ H a = some (.ins C dx []) ∧ Q .non (upd H a (.ins C dx [("word", .str w), ("number", .int 0)]))
def spForm1 (C : Addr) (w : Str) (hi : Int) : Sp := fun vs H Q _ => ∃ (a dx : Addr) (n : Int), vs = [.ref a, .int n] ∧ H a = some (.ins C dx []) ∧ 1 ≤ n ∧ n ≤ hi ∧ Q .non (upd H a (.ins C dx [("word", .str w), ("number", .int n)]))
section
variable {P : Program} {w : World} {K : PySem.W.Frag} {mg : Str → Option Value} {base : Heap}
theorem ok_is_int {f : Addr} {fd : FuncData} {k : Nat} (F : Fun K "is_integer" "is_integer" sIsInteger f fd) (b_isinstance : mg "isinstance" = none) (b_int : mg "int" = none) (b_bool : mg "bool" = none) : FnOk P w K mg base CX0 (k + 1) f fd ["value"] (spIsInt K) := by
  refine F.ok scIsInteger (fun vs H Q E h => ?_) (fun cdv A outer s H vs Q E hr h => ?_)
  · obtain ⟨v, rfl, _⟩ := h
    rfl
  · obtain ⟨v, rfl, hv, q⟩ := h
    refine ⟨_, (pss_one (ps_ret (pe_and (pe_callB call_isi rfl b_isinstance (by decide +kernel) (pa_cons (pv 0) (pa_cons (pe_ty "int" rfl b_int (by decide +kernel)) pa_nil))) (pe_one (pe_not (pe_callB call_isi rfl b_isinstance (by decide +kernel) (pa_cons (pv 0) (pa_cons (pe_ty "bool" rfl b_bool (by decide +kernel)) pa_nil)))))))), ?_⟩
    rcases hv with fl | ⟨a, xs, rfl, hs⟩
    · have ty := ty_flat (K := K) (H := H) fl
      cases v with
      | int i => exact ⟨_, rfl, _, _, _, _, true, rfl, .ty _, ty, rfl, _, rfl, iteT ⟨_, rfl, _, _, _, _, false, rfl, .ty _, ty, rfl, _, rfl, q⟩⟩
      | bl b => exact ⟨_, rfl, _, _, _, _, true, rfl, .ty _, ty, rfl, _, rfl, iteT ⟨_, rfl, _, _, _, _, true, rfl, .ty _, ty, rfl, _, rfl, q⟩⟩
      | non => exact ⟨_, rfl, _, _, _, _, false, rfl, .ty _, ty, rfl, _, rfl, iteF q⟩
      | str z => exact ⟨_, rfl, _, _, _, _, false, rfl, .ty _, ty, rfl, _, rfl, iteF q⟩
      | _ => exact fl.elim
    · rcases hs with hs | hs
      · exact ⟨_, rfl, _, _, _, _, false, rfl, .ty _, ty_list hs, rfl, _, rfl, iteF q⟩
      · exact ⟨_, rfl, _, _, _, _, false, rfl, .ty _, ty_tup hs, rfl, _, rfl, iteF q⟩
theorem ok_is_num {f fI : Addr} {fd fdI : FuncData} {k : Nat} (F : Fun K "is_number" "is_number" sIsNumber f fd) (II : Cal P w K mg base "is_integer" (k + 1) ["value"] (spIsInt K) fI fdI) : FnOk P w K mg base CX0 (k + 2) f fd ["value", "least", "most"] (spIsNum K) := by
  refine F.ok scIsNumber (fun vs H Q E h => ?_) (fun cdv A outer s H vs Q E hr h => ?_)
  · obtain ⟨v, lo, hi, rfl, _⟩ := h
    rfl
  · obtain ⟨v, lo, hi, rfl, hv, q⟩ := h
    refine ⟨_, (pss_one (ps_ret (pe_and (pe_call II.ok (hr.mono (by omega)) rfl II.g II.kp II.b .nil pass0 (pa_cons (pv 0) pa_nil)) (pe_one (pe_chain op_le op_le (pv 1) (pv 0) (pv 2)))))), ?_⟩
    refine ⟨_, rfl, v, rfl, hv, _, rfl, ?_⟩
    cases v with
    | int i =>
      refine iteT ⟨_, rfl, _, rfl, _, _, rfl, rfl, _, rfl, ite2 (fun c => ?_) (fun c => ?_)⟩
      · refine ⟨_, rfl, _, _, rfl, rfl, ?_⟩
        have e : inI lo hi (.int i) = decide (i ≤ hi) := by
          show (decide (lo ≤ i) && _) = _
          rw [c, Bool.true_and]
        rw [e] at q
        exact q
      · have e : inI lo hi (.int i) = false := by
          show (decide (lo ≤ i) && _) = _
          rw [Bool.eq_false_iff.mpr c, Bool.false_and]
        rw [e] at q
        exact q
    | _ => exact iteF q
theorem ok_one_init {C f : Addr} {fd : FuncData} {k : Nat} (F : Fun K "__init__" "One.__init__" sOneInit f fd) (T : Cls K C) (nW : NoAttr K C "word") (nN : NoAttr K C "number") : FnOk P w K mg base CX0 (k + 1) f fd ["self"] (spForm0 C "one") := by
  refine F.ok scOneInit (fun vs H Q E h => ?_) (fun cdv A outer s H vs Q E hr h => ?_)
  · obtain ⟨a, dx, rfl, _⟩ := h
    rfl
  · obtain ⟨a, dx, rfl, ha, q⟩ := h
    refine ⟨_, (pss_cons (ps_fld (pv 0) pe_str rfl)
      (pss_one (ps_fld (pv 0) pe_int rfl))), ?_⟩
    refine ⟨_, rfl, a, C, dx, _, rfl, ha, T, nW, (by show 0 < 1000; decide), ?_⟩
    refine ⟨_, rfl, a, C, dx, _, rfl, upd_same, T, nN, (by show 1 < 1000; decide), ?_⟩
    rw [upd_upd]
    exact q
theorem ok_ticks_init {C f : Addr} {fd : FuncData} {k : Nat} (F : Fun K "__init__" "Ticks.__init__" sTicksInit f fd) (T : Cls K C) (nW : NoAttr K C "word") (nN : NoAttr K C "number") : FnOk P w K mg base CX0 (k + 1) f fd ["self"] (spForm0 C "ticks") := by
  refine F.ok scTicksInit (fun vs H Q E h => ?_) (fun cdv A outer s H vs Q E hr h => ?_)
  · obtain ⟨a, dx, rfl, _⟩ := h
    rfl
  · obtain ⟨a, dx, rfl, ha, q⟩ := h
    refine ⟨_, (pss_cons (ps_fld (pv 0) pe_str rfl)
      (pss_one (ps_fld (pv 0) pe_int rfl))), ?_⟩
    refine ⟨_, rfl, a, C, dx, _, rfl, ha, T, nW, (by show 0 < 1000; decide), ?_⟩
    refine ⟨_, rfl, a, C, dx, _, rfl, upd_same, T, nN, (by show 1 < 1000; decide), ?_⟩
    rw [upd_upd]
    exact q
theorem ok_points_init {C f : Addr} {fd : FuncData} {fI : Addr} {fdI : FuncData} {k : Nat} (F : Fun K "__init__" "Points.__init__" sPointsInit f fd) (T : Cls K C) (nW : NoAttr K C "word") (nN : NoAttr K C "number") (IN : Cal P w K mg base "is_number" (k + 2) ["value", "least", "most"] (spIsNum K) fI fdI) : FnOk P w K mg base CX0 (k + 3) f fd ["self", "number"] (spForm1 C "points" 3) := by
  refine F.ok scPointsInit (fun vs H Q E h => ?_) (fun cdv A outer s H vs Q E hr h => ?_)
  · obtain ⟨a, dx, n, rfl, _⟩ := h
    rfl
  · obtain ⟨a, dx, n, rfl, ha, h1, h2, q⟩ := h
    refine ⟨_, (pss_cons (ps_if (pt_not (pt_val (pe_call IN.ok (hr.mono (by omega)) rfl IN.g IN.kp IN.b .nil pass0 (pa_cons (pv 1) (pa_cons pe_int (pa_cons pe_int pa_nil)))))) (pss_one ps_never) pss_nil)
      (pss_cons (ps_fld (pv 0) pe_str rfl)
      (pss_one (ps_fld (pv 0) (pv 1) rfl)))), ?_⟩
    have e : inI 1 3 (.int n) = true := by
      show (decide _ && decide _) = true
      rw [decide_eq_true h1, decide_eq_true h2]
      rfl
    refine ⟨_, rfl, .int n, 1, 3, rfl, .inl trivial, ?_⟩
    rw [e]
    refine ⟨_, rfl, iteF ?_⟩
    refine ⟨_, rfl, a, C, dx, _, rfl, ha, T, nW, (by show 0 < 1000; decide), ?_⟩
    refine ⟨_, rfl, _, rfl, a, C, dx, _, rfl, upd_same, T, nN, (by show 1 < 1000; decide), ?_⟩
    rw [upd_upd]
    exact q
theorem ok_ranks_init {C f : Addr} {fd : FuncData} {k : Nat} (F : Fun K "__init__" "Ranks.__init__" sRanksInit f fd) (T : Cls K C) (nW : NoAttr K C "word") (nN : NoAttr K C "number") : FnOk P w K mg base CX0 (k + 1) f fd ["self"] (spForm0 C "ranks") := by
  refine F.ok scRanksInit (fun vs H Q E h => ?_) (fun cdv A outer s H vs Q E hr h => ?_)
  · obtain ⟨a, dx, rfl, _⟩ := h
    rfl
  · obtain ⟨a, dx, rfl, ha, q⟩ := h
    refine ⟨_, (pss_cons (ps_fld (pv 0) pe_str rfl)
      (pss_one (ps_fld (pv 0) pe_int rfl))), ?_⟩
    refine ⟨_, rfl, a, C, dx, _, rfl, ha, T, nW, (by show 0 < 1000; decide), ?_⟩
    refine ⟨_, rfl, a, C, dx, _, rfl, upd_same, T, nN, (by show 1 < 1000; decide), ?_⟩
    rw [upd_upd]
    exact q
theorem ok_lists_init {C f : Addr} {fd : FuncData} {fI : Addr} {fdI : FuncData} {k : Nat} (F : Fun K "__init__" "Lists.__init__" sListsInit f fd) (T : Cls K C) (nW : NoAttr K C "word") (nN : NoAttr K C "number") (IN : Cal P w K mg base "is_number" (k + 2) ["value", "least", "most"] (spIsNum K) fI fdI) : FnOk P w K mg base CX0 (k + 3) f fd ["self", "number"] (spForm1 C "lists" 4) := by
  refine F.ok scListsInit (fun vs H Q E h => ?_) (fun cdv A outer s H vs Q E hr h => ?_)
  · obtain ⟨a, dx, n, rfl, _⟩ := h
    rfl
  · obtain ⟨a, dx, n, rfl, ha, h1, h2, q⟩ := h
    refine ⟨_, (pss_cons (ps_if (pt_not (pt_val (pe_call IN.ok (hr.mono (by omega)) rfl IN.g IN.kp IN.b .nil pass0 (pa_cons (pv 1) (pa_cons pe_int (pa_cons pe_int pa_nil)))))) (pss_one ps_never) pss_nil)
      (pss_cons (ps_fld (pv 0) pe_str rfl)
      (pss_one (ps_fld (pv 0) (pv 1) rfl)))), ?_⟩
    have e : inI 1 4 (.int n) = true := by
      show (decide _ && decide _) = true
      rw [decide_eq_true h1, decide_eq_true h2]
      rfl
    refine ⟨_, rfl, .int n, 1, 4, rfl, .inl trivial, ?_⟩
    rw [e]
    refine ⟨_, rfl, iteF ?_⟩
    refine ⟨_, rfl, a, C, dx, _, rfl, ha, T, nW, (by show 0 < 1000; decide), ?_⟩
    refine ⟨_, rfl, _, rfl, a, C, dx, _, rfl, upd_same, T, nN, (by show 1 < 1000; decide), ?_⟩
    rw [upd_upd]
    exact q
end
end My

set_option Elab.async false
set_option linter.all false
set_option maxRecDepth 100000
set_option maxHeartbeats 2000000
/-! t.index(x) of a tuple of flat values -/
namespace My
open PySem PySem.Spec PyProof.Rows L2
def rIndexT (K : PySem.W.Frag) : V → List V → Hp → VK → Prop := fun x xs H Q => ∃ (a : Addr) (ys : List V) (y : V) (j : Nat) (z : V), x = V.ref a ∧ xs = [y] ∧ SqT K H a ys ∧ flatV y = true ∧ ys.all flatV = true ∧ ys[j]? = some z ∧ eqV z y = true ∧
  (∀ (m : Nat) (z' : V), m < j → ys[m]? = some z' → eqV z' y = false) ∧ Q (.int (j : Nat)) H
theorem mt_tindex {X : Cx} : MtR X "tuple.index" (rIndexT X.K) := by
  intro pins s σ H x xs v us Q I rx rxs h
  obtain ⟨a, ys, y, j, z, rfl, rfl, hs, fy, fys, hz, hzj, hno, q⟩ := h
  cases rx
  cases rxs with
  | cons ry rt =>
    rename_i uy ut
    cases rt
    obtain ⟨its, rv, pl, hlen⟩ := I.tuple hs
    obtain ⟨⟨cls, dd, data, sl⟩, ho, hc, n, hd⟩ := pl
    simp only at hc hd
    subst hc hd
    obtain ⟨u, hu, ru⟩ := rv.get hz
    obtain ⟨hjl, hje⟩ := List.getElem?_eq_some_iff.mp hu
    have hvl := rv.length
    have hj : j < its.toArray.size := by simpa using hjl
    refine call_meets PySem.F.slot_tuple_index ⟨_, ho, rfl⟩ PySem.F.entry_tuple_index (PySem.F.args_tuple_index_2 _ _)
      (TI.tuple_indexAt a its.toArray n dd sl uy (eqU y) j hj ?_ ?_) ⟨ho, fun u' hu' => mem_eqAt ry fy rv fys u' (by simpa using hu'), ⟨.int (j : Nat), H, I.tok _, ⟨_, rfl⟩, q⟩⟩
    · have e1 : its.toArray[j] = u := by simpa using hje
      rw [e1, eqU_of ru (flat_at fys hz)]
      exact hzj
    · intro m hm hmj
      have hml : m < its.length := by simpa using hm
      have hmy : m < ys.length := by omega
      obtain ⟨w, hw, rw'⟩ := rv.get (i := m) (x := ys[m]) (List.getElem?_eq_getElem hmy)
      have e1 : its.toArray[m] = w := by
        have := (List.getElem?_eq_some_iff.mp hw).2
        simpa using this
      rw [e1, eqU_of rw' (flat_at fys (List.getElem?_eq_getElem hmy))]
      exact hno m _ hmj (List.getElem?_eq_getElem hmy)
end My

set_option Elab.async false
set_option linter.all false
set_option maxRecDepth 100000
set_option maxHeartbeats 2000000
/-! tuples whose object is known to have no dict -/
namespace My
open PySem PySem.Spec PyProof.Rows L2
def tTupF (t : TA) : TE := fun σ H Q => t σ H fun xs H1 => xs.length ≤ sizeLine ∧ ∀ (p : Addr) (o : Obj), H1 p = none → o.dict = none → Q (.ref p) (upd H1 p (.frz o (.tup xs)))
section
variable {X : Cx} {es : List Expr} {t : TA} {pos : Pos}
theorem pe_tupF {x1} (h : PA X es t) : PE X (.Tuple es x1 pos) (tTupF t) := by
  refine ⟨fun pins s σ H Q I hq => ?_⟩
  refine wpAny_Tuple_spliced (thn (h.run pos pins s σ H _ I hq) fun us s1 ⟨xs, H1, I1, r, z, q⟩ => ⟨by rw [← r.length]; exact z, ?_⟩)
  have new : H1 s1.heap.objs.size = none := I1.hok.fresh (Nat.le_refl _)
  exact ⟨.ref s1.heap.objs.size, upd H1 s1.heap.objs.size (.frz { cls := .type "tuple", data := .seq us.toArray } (.tup xs)), I1.laid (t' := s1.toks) (fun b u e => Heap.get?_push_of_some _ e) (Nat.le_refl _) ⟨Heap.get?_push_size _ rfl, z, us, r, ⟨_, Heap.get?_push_size _ rfl, rfl, _, rfl⟩⟩, rfl, q _ _ new rfl⟩
def rCatF (K : PySem.W.Frag) : R2 := fun x y H Q => ∃ a b xs ys, x = .ref a ∧ y = .ref b ∧ SqT K H a xs ∧ SqT K H b ys ∧ xs.length + ys.length ≤ sizeLine ∧
  (xs = [] → Q (.ref b) H) ∧ (xs ≠ [] → ys = [] → Q (.ref a) H) ∧ (xs ≠ [] → ys ≠ [] → ∀ (p : Addr) (o : Obj), H p = none → o.dict = none → Q (.ref p) (upd H p (.frz o (.tup (xs ++ ys)))))
theorem op_catF : OpR X (binaryOp .Add) (rCatF X.K) := by
  intro pins s σ H x y v u Q I rx ry h
  obtain ⟨a, b, xs, ys, rfl, rfl, ha, hb, hz, q0, q1, q2⟩ := h
  cases rx
  cases ry
  obtain ⟨its, r1, p1, _⟩ := I.tuple ha
  obtain ⟨its2, r2, p2, _⟩ := I.tuple hb
  by_cases hx : xs = []
  · subst hx
    cases r1
    exact cat_tup0 p1 p2 ⟨.ref b, H, I, rfl, q0 rfl⟩
  · refine HT.cat_tup p1 p2 (fun z => hx (r1.nil_iff.mp z)) (fun z => ⟨.ref a, H, I, rfl, q1 hx (r2.nil_iff.mp z)⟩) (fun z => ?_) (by rw [← r1.length, ← r2.length]; exact hz)
    have len : (xs ++ ys).length ≤ sizeLine := by rw [List.length_append]; exact hz
    exact ⟨.ref s.heap.objs.size, upd H s.heap.objs.size (.frz _ (.tup (xs ++ ys))), I.laid (t' := s.toks) (fun b ob q => Heap.get?_push_of_some _ q) (Nat.le_refl _) ⟨Heap.get?_push_size _ rfl, len, _, r1.append r2, ⟨_, Heap.get?_push_size _ rfl, rfl, _, by simp; rfl⟩⟩, rfl, q2 hx (fun w => z (r2.nil_iff.mpr w)) _ _ (I.hok.fresh (Nat.le_refl _)) rfl⟩
/-- a tuple that has its methods -/
def tyTup (x : V) (H : Hp) : Prop := ∃ (a : Addr) (o : Obj) (xs : List V), x = .ref a ∧ H a = some (.frz o (.tup xs)) ∧ o.dict = none
theorem ty_tupOk : TyOk X "tuple" tyTup := by
  intro pins σ H s x v I r h
  obtain ⟨a, o, xs, rfl, e, d⟩ := h
  cases r
  have z : s.heap.get? a = some o ∧ ObjOk X.prog X.w H s.heap a (.tup xs) := I.hok a _ e
  obtain ⟨g, _, its, _, o', g', c, n, dd⟩ := z
  have eo : o' = o := by rw [g] at g'; exact (Option.some.inj g').symm
  subst eo
  exact ⟨⟨_, g, c⟩, fun a' ea => by cases ea; exact ⟨_, g, d⟩⟩
end
end My

set_option Elab.async false
set_option linter.all false
set_option maxRecDepth 100000
namespace My
open PySem PySem.Spec PyProof.Rows L2
/-! marks and ranks -/
abbrev sMarked : Stmt := topS 20
theorem scMarked : FnScope ["many", "numbers", "a"] ["many", "numbers"] (defScope sMarked) := ⟨rfl, rfl, rfl, by decide +kernel, rfl, by decide +kernel, by decide +kernel⟩
abbrev sRanked : Stmt := topS 21
theorem scRanked : FnScope ["many", "order", "a"] ["many", "order"] (defScope sRanked) := ⟨rfl, rfl, rfl, by decide +kernel, rfl, by decide +kernel, by decide +kernel⟩
def markL (m : Nat) (ns : List Int) : List Int := (List.range m).map fun a : Nat => if (a : Int) ∈ ns then 1 else 0
def spMarked (K : PySem.W.Frag) : Sp := fun vs H Q _ => ∃ (m : Nat) (p : Addr) (ns : List Int), vs = [.int m, .ref p] ∧ m ≤ 5 ∧ SqT K H p (ns.map V.int) ∧ ∀ t H', Same H H' → H t = none → H' t = some (.tup ((markL m ns).map V.int)) → Q (.ref t) H'
theorem inV_ints (a : Int) : ∀ ns : List Int, inV (.int a) (ns.map V.int) = decide (a ∈ ns)
  | [] => rfl
  | n :: ns => by
    show (eqV (.int n) (.int a) || inV (.int a) (ns.map V.int)) = _
    rw [inV_ints a ns]
    have e : eqV (.int n) (.int a) = decide (n = a) := by
      show (n == a) = _
      by_cases z : n = a
      · rw [z, decide_eq_true rfl]
        exact beq_self_eq_true a
      · rw [decide_eq_false z]
        exact beq_eq_false_iff_ne.mpr z
    rw [e]
    by_cases z : n = a
    · subst z
      simp
    · have z' : ¬ a = n := fun y => z y.symm
      simp [z, z']
theorem flat_ints (ns : List Int) : (ns.map V.int).all flatV = true := by
  rw [List.all_map]
  exact List.all_eq_true.mpr fun _ _ => rfl
def rankL (m : Nat) (ns : List Int) : List Int := (List.range m).map fun a : Nat => if (a : Int) ∈ ns then (m : Int) - (ns.idxOf (a : Int) : Nat) else 0
def spRanked (K : PySem.W.Frag) : Sp := fun vs H Q _ => ∃ (m : Nat) (p : Addr) (ns : List Int), vs = [.int m, .ref p] ∧ m ≤ 5 ∧ SqT K H p (ns.map V.int) ∧ (ns = [] ∨ tyTup (.ref p) H) ∧ ∀ t H', Same H H' → H t = none → H' t = some (.tup ((rankL m ns).map V.int)) → Q (.ref t) H'
theorem idx_first {a : Int} : ∀ {ns : List Int}, a ∈ ns → ns[ns.idxOf a]? = some a ∧ ∀ m z, m < ns.idxOf a → ns[m]? = some z → z ≠ a
  | [], h => by cases h
  | n :: ns, h => by
    by_cases e : n = a
    · subst e
      rw [List.idxOf_cons_self]
      exact ⟨rfl, fun m z hm => absurd hm (Nat.not_lt_zero _)⟩
    · have h' : a ∈ ns := by
        rcases List.mem_cons.mp h with z | z
        · exact absurd z.symm e
        · exact z
      have eb : (n == a) = false := beq_eq_false_iff_ne.mpr e
      rw [List.idxOf_cons, eb]
      obtain ⟨h1, h2⟩ := idx_first h'
      refine ⟨h1, fun m z hm hz => ?_⟩
      cases m with
      | zero => cases hz; exact e
      | succ m => exact h2 m z (Nat.lt_of_succ_lt_succ hm) hz
section
variable {P : Program} {w : World} {K : PySem.W.Frag} {mg : Str → Option Value} {base : Heap}
theorem ok_marked {f : Addr} {fd : FuncData} {k : Nat} (F : Fun K "marked" "marked" sMarked f fd) (b_range : mg "range" = none) (b_tuple : mg "tuple" = none) : FnOk P w K mg base CX0 (k + 1) f fd ["many", "numbers"] (spMarked K) := by
  refine F.ok scMarked (fun vs H Q E h => ?_) (fun cdv A outer s H vs Q E hr h => ?_)
  · obtain ⟨m, p, ns, rfl, _⟩ := h
    rfl
  · obtain ⟨m, p, ns, rfl, hm, hT, q⟩ := h
    refine ⟨_, (pss_one (ps_ret (pe_callTy call_tuple_of rfl b_tuple (by decide +kernel) (pa_cons (pe_lc (own := [("a", 2)]) (g := gName 2) (tt := tYes) (te := tIf (tTest (tOp (rIn K false) (tVar 2) (tVar 1))) (tC (.int 1)) (tC (.int 0))) rfl scMarked.nd (pi_range1 rfl b_range (pa_cons (pv 0) pa_nil)) (blkOk_by (own := [("a", 2)]) (N := ["many", "numbers", "a"]) (sc := defScope sMarked) (by decide +kernel)) (fun _ _ _ _ _ => (pg_name (i := 2) scMarked.nd rfl (.inl rfl) (.inr rfl))) (fun _ _ _ _ _ => pts_nil) (fun _ _ _ _ _ => (pe_ifExp (pt_cmpR op_in_seq (pv 2) (pv 1) rfl) pe_int pe_int))) pa_nil)))), ?_⟩
    refine ⟨_, rfl, m, rfl, by omega, by omega, fun D nD => ?_⟩
    refine lc_range (n := m) (fun i G => Same H G ∧ G D = some (.lst ((markL i ns).map V.int))) ⟨same_upd nD, upd_same⟩ ?_ ?_
    · rintro i G hi ⟨s1, hD⟩
      refine ⟨rfl, ?_⟩
      unfold tYes
      refine iteT ⟨_, rfl, _, rfl, p, _, rfl, .inr (seqT_same s1 hT), rfl, flat_ints ns, ?_⟩
      rw [if_neg (by decide), inV_ints, Int.zero_add]
      have app : ∀ z : Int, (z = if (i : Int) ∈ ns then 1 else 0) → ∃ acc, G D = some (.lst acc) ∧ acc.length < sizeLine ∧ (Same H (upd G D (.lst (acc ++ [.int z]))) ∧ (upd G D (.lst (acc ++ [.int z]))) D = some (.lst ((markL (i + 1) ns).map V.int))) := fun z e => by
        refine ⟨_, hD, ?_, same_updF nD s1, ?_⟩
        · rw [List.length_map]
          unfold markL
          rw [List.length_map, List.length_range]
          exact small1000 (by omega)
        · rw [upd_same]
          unfold markL
          rw [List.range_succ, List.map_append, List.map_append, e]
          rfl
      refine ⟨_, rfl, ite2 (fun c => ?_) (fun c => ?_)⟩
      · exact app 1 (by rw [if_pos (of_decide_eq_true c)])
      · exact app 0 (by rw [if_neg (fun z => c (decide_eq_true z))])
    · rintro G ⟨s1, hD⟩
      exact ⟨D, _, rfl, .inl ⟨SqL.of hD, fun t nt => q t _ (s1.trans (same_upd nt)) (s1.free nt) upd_same⟩⟩
theorem ok_ranked {f : Addr} {fd : FuncData} {k : Nat} (F : Fun K "ranked" "ranked" sRanked f fd) (b_range : mg "range" = none) (b_tuple : mg "tuple" = none) : FnOk P w K mg base CX0 (k + 1) f fd ["many", "order"] (spRanked K) := by
  refine F.ok scRanked (fun vs H Q E h => ?_) (fun cdv A outer s H vs Q E hr h => ?_)
  · obtain ⟨m, p, ns, rfl, _⟩ := h
    rfl
  · obtain ⟨m, p, ns, rfl, hm, hT, hty, q⟩ := h
    refine ⟨_, (pss_one (ps_ret (pe_callTy call_tuple_of rfl b_tuple (by decide +kernel) (pa_cons (pe_lc (own := [("a", 2)]) (g := gName 2) (tt := tYes) (te := tIf (tTest (tOp (rIn K false) (tVar 2) (tVar 1))) (tOp (rI0 fun i j => .int (i - j)) (tVar 0) (tMG tyTup (rIndexT K) (tVar 1) (tCons (tVar 2) tNil))) (tC (.int 0))) rfl scRanked.nd (pi_range1 rfl b_range (pa_cons (pv 0) pa_nil)) (blkOk_by (own := [("a", 2)]) (N := ["many", "order", "a"]) (sc := defScope sRanked) (by decide +kernel)) (fun _ _ _ _ _ => (pg_name (i := 2) scRanked.nd rfl (.inl rfl) (.inr rfl))) (fun _ _ _ _ _ => pts_nil) (fun _ _ _ _ _ => (pe_ifExp (pt_cmpR op_in_seq (pv 2) (pv 1) rfl) (pe_op op_sub (pv 0) (pe_mG ty_tupOk PySem.F.plainAttrs_tuple PySem.F.slot_tuple_index PySem.F.type_tuple_index mt_tindex (pv 1) (pa_cons (pv 2) pa_nil))) pe_int))) pa_nil)))), ?_⟩
    refine ⟨_, rfl, m, rfl, by omega, by omega, fun D nD => ?_⟩
    refine lc_range (n := m) (fun i G => Same H G ∧ ∃ zs : List Int, zs = ((List.range i).map fun a : Nat => if (a : Int) ∈ ns then (m : Int) - (ns.idxOf (a : Int) : Nat) else 0) ∧ G D = some (.lst (zs.map V.int))) ⟨same_upd nD, [], rfl, upd_same⟩ ?_ ?_
    · rintro i G hi ⟨s1, zs, ez, hD⟩
      refine ⟨rfl, ?_⟩
      unfold tYes
      refine iteT ⟨_, rfl, _, rfl, p, _, rfl, .inr (seqT_same s1 hT), rfl, flat_ints ns, ?_⟩
      rw [if_neg (by decide), inV_ints, Int.zero_add]
      have app : ∀ z : Int, (z = if (i : Int) ∈ ns then (m : Int) - (ns.idxOf (i : Int) : Nat) else 0) → ∃ acc, G D = some (.lst acc) ∧ acc.length < sizeLine ∧ (Same H (upd G D (.lst (acc ++ [.int z]))) ∧ ∃ zs : List Int, zs = ((List.range (i + 1)).map fun a : Nat => if (a : Int) ∈ ns then (m : Int) - (ns.idxOf (a : Int) : Nat) else 0) ∧ (upd G D (.lst (acc ++ [.int z]))) D = some (.lst (zs.map V.int))) := fun z e => by
        refine ⟨_, hD, ?_, same_updF nD s1, zs ++ [z], ?_, ?_⟩
        · rw [ez, List.length_map, List.length_map, List.length_range]
          exact small1000 (by omega)
        · rw [List.range_succ, List.map_append, ez, e]
          rfl
        · rw [upd_same, List.map_append]
          rfl
      refine ⟨_, rfl, ite2 (fun c => ?_) (fun c => ?_)⟩
      · have mem := of_decide_eq_true c
        obtain ⟨h1, h2⟩ := idx_first mem
        have ty : tyTup (.ref p) G := by
          rcases hty with e | ⟨a, o, xs, e, h, d⟩
          · rw [e] at mem
            cases mem
          · cases e
            exact ⟨p, o, xs, rfl, s1 _ _ h, d⟩
        have g1 : (ns.map V.int)[ns.idxOf (i : Int)]? = some (.int (i : Int)) := by rw [List.getElem?_map, h1]; rfl
        refine ⟨_, rfl, _, rfl, ty, _, rfl, p, ns.map V.int, .int (i : Int), ns.idxOf (i : Int), _, rfl, rfl, seqT_same s1 hT, rfl, flat_ints ns, g1, beq_self_eq_true _, fun m' z hm' hz => ?_, _, _, rfl, rfl, app _ (by rw [if_pos mem])⟩
        rw [List.getElem?_map] at hz
        cases e : ns[m']? with
        | none => rw [e] at hz; cases hz
        | some j =>
          rw [e] at hz
          cases hz
          exact beq_eq_false_iff_ne.mpr (h2 m' j hm' e)
      · exact app 0 (by rw [if_neg (fun z => c (decide_eq_true z))])
    · rintro G ⟨s1, zs, ez, hD⟩
      refine ⟨D, _, rfl, .inl ⟨SqL.of hD, fun t nt => q t _ (s1.trans (same_upd nt)) (s1.free nt) ?_⟩⟩
      rw [upd_same, ez]
      rfl
end
end My

set_option Elab.async false
set_option linter.all false
set_option maxRecDepth 100000
namespace My
open PySem PySem.Spec PyProof.Rows L2
/-! the markings of the forms -/
abbrev sTicksMarkings : Stmt := inClass (topS 14) 1
theorem scTicksMarkings : FnScope ["self", "many"] ["self", "many"] (defScope sTicksMarkings) := ⟨rfl, rfl, rfl, by decide +kernel, rfl, by decide +kernel, by decide +kernel⟩
abbrev sPointsMarkings : Stmt := inClass (topS 15) 1
theorem scPointsMarkings : FnScope ["self", "many"] ["self", "many"] (defScope sPointsMarkings) := ⟨rfl, rfl, rfl, by decide +kernel, rfl, by decide +kernel, by decide +kernel⟩
abbrev sOneMarkings : Stmt := inClass (topS 13) 1
theorem scOneMarkings : FnScope ["self", "many", "row"] ["self", "many"] (defScope sOneMarkings) := ⟨rfl, rfl, rfl, by decide +kernel, rfl, by decide +kernel, by decide +kernel⟩
def spMarkings (C : Addr) (w : Str) (rows : Nat → Nat → List (List Int)) : Sp := fun vs H Q _ => ∃ (a : Addr) (m n : Nat), vs = [.ref a, .int m] ∧ FormAt H C a w n ∧ n ≤ 4 ∧ 1 ≤ m ∧ m ≤ 5 ∧ ∀ l xs H', Same H H' → H l = none → H' l = some (.lst xs) → TRs H' xs (rows n m) → Q (.ref l) H'
section
variable {P : Program} {w : World} {K : PySem.W.Frag} {mg : Str → Option Value} {base : Heap}
theorem ok_ticks {C f fM : Addr} {fd fdM : FuncData} {k : Nat} (F : Fun K "markings" "Ticks.markings" sTicksMarkings f fd) (Mr : Cal P w K mg base "mark_rows" (k + 1) ["many", "most"] spRows fM fdM) : FnOk P w K mg base CX0 (k + 2) f fd ["self", "many"] (spMarkings C "ticks" fun _ m => mrows 1 m) := by
  refine F.ok scTicksMarkings (fun vs H Q E h => ?_) (fun cdv A outer s H vs Q E hr h => ?_)
  · obtain ⟨a, m, n, rfl, _⟩ := h
    rfl
  · obtain ⟨a, m, n, rfl, hF, hn, h1, hm, q⟩ := h
    refine ⟨_, (pss_one (ps_ret (pe_call Mr.ok (hr.mono (by omega)) rfl Mr.g Mr.kp Mr.b .nil pass0 (pa_cons (pv 1) (pa_cons pe_int pa_nil))))), ?_⟩
    exact ⟨_, rfl, m, 1, rfl, hm, by decide, fun l xs H' t nl el hR => q l xs H' t nl el hR⟩
theorem ok_points {C f fM : Addr} {fd fdM : FuncData} {k : Nat} (F : Fun K "markings" "Points.markings" sPointsMarkings f fd) (T : Cls K C) (nN : NoAttr K C "number") (Mr : Cal P w K mg base "mark_rows" (k + 1) ["many", "most"] spRows fM fdM) : FnOk P w K mg base CX0 (k + 2) f fd ["self", "many"] (fun vs H Q E => ∃ (a : Addr) (m n : Nat), vs = [.ref a, .int m] ∧ FormAt H C a "points" n ∧ n ≤ 3 ∧ 1 ≤ m ∧ m ≤ 5 ∧ ∀ l xs H', Same H H' → H l = none → H' l = some (.lst xs) → TRs H' xs (mrows n m) → Q (.ref l) H') := by
  refine F.ok scPointsMarkings (fun vs H Q E h => ?_) (fun cdv A outer s H vs Q E hr h => ?_)
  · obtain ⟨a, m, n, rfl, _⟩ := h
    rfl
  · obtain ⟨a, m, n, rfl, ⟨dx, ha⟩, hn, h1, hm, q⟩ := h
    refine ⟨_, (pss_one (ps_ret (pe_call Mr.ok (hr.mono (by omega)) rfl Mr.g Mr.kp Mr.b .nil pass0 (pa_cons (pv 1) (pa_cons (pe_fld (pv 0) rfl) pa_nil))))), ?_⟩
    exact ⟨_, rfl, _, rfl, a, C, dx, _, _, rfl, ha, T, nN, rfl, m, n, rfl, hm, hn, fun l xs H' t nl el hR => q l xs H' t nl el hR⟩
end
end My

set_option Elab.async false
set_option linter.all false
set_option maxRecDepth 100000
set_option maxHeartbeats 2000000
/-! sum(t) of a tuple of whole numbers -/
namespace My
open PySem PySem.Spec PyProof.Rows L2
section
variable {prog : Program} {w : World} {A : Around} {E : Value → Shared → Prop} {s : Shared} {l : Addr} {xs : Array (Int × Tok)}
theorem sum_tupG {Q : Value → Shared → Prop} (hh : A.handled = none) (hl : s.heap.IsTuple l (intItems xs))
    (h : ∀ h' tk t', (∀ b o, s.heap.get? b = some o → h'.get? b = some o) → Q (.int (preSum (numAt xs) xs.size) t') { s with heap := h', toks := tk }) :
    wpAny (model prog w) A (call (.builtin "sum") [.ref l]) Q E s := by
  have hlt : l < s.heap.objs.size := by obtain ⟨_, e, _⟩ := hl; exact Heap.lt_size e
  refine call_sum_walkG (wpAny_pyIter_tuple hl ?_)
  refine ⟨_, [_, l], [_], _, _, _, numAt xs, rfl, Walks.tuple (A := A.in1) hh _ l (Nat.ne_of_lt hlt) (intItems xs), ⟨⟨_, Heap.get?_push_size _ rfl, rfl, rfl⟩, hl.push _⟩, (fun b hb => ?_), (fun _ _ => intItems_at), fun h' tk t' hk => ?_⟩
  · show b < (s.heap.push _).objs.size
    rw [Heap.size_push]
    rcases List.mem_cons.mp hb with rfl | hb
    · exact Nat.lt_succ_self _
    · rcases List.mem_cons.mp hb with rfl | hb
      · exact Nat.lt_succ_of_lt hlt
      · cases hb
  · have := h h' tk t' fun b o e => by
      refine hk b o (fun hm => ?_) (Heap.get?_push_of_some _ e)
      rcases List.mem_cons.mp hm with e1 | hm
      · exact absurd (e1 ▸ Heap.lt_size e) (Nat.lt_irrefl _)
      · cases hm
    simpa [intItems] using this
theorem sum_tup_raw {its : List Value} {ns : List Int} {Q : Value → Shared → Prop} (hh : A.handled = none) (hl : s.heap.IsTuple l its.toArray) (hi : IntsAre its ns)
    (h : ∀ h' tk t', (∀ b o, s.heap.get? b = some o → h'.get? b = some o) → Q (.int ns.sum t') { s with heap := h', toks := tk }) : wpAny (model prog w) A (call (.builtin "sum") [.ref l]) Q E s := by
  obtain ⟨xs, e⟩ := hi.allInts.items
  have hn : numsOf (intItems xs).toList = ns := by rw [← e]; exact hi.numsOf
  rw [nums_intItems] at hn
  rw [e] at hl
  refine sum_tupG hh hl fun h' tk t' hk => ?_
  have := h h' tk t' hk
  rw [preSum_eq, List.take_of_length_le (by simp), hn]; exact this
end
/-- sum(t) of a tuple of ints -/
def rSumT (K : PySem.W.Frag) : List V → Hp → VK → Prop := fun vs H Q => ∃ (a : Addr) (ns : List Int), vs = [V.ref a] ∧ SqT K H a (ns.map V.int) ∧ Q (.int ns.sum) H
theorem cr_sumT {X : Cx} (hc : X.calm = true) : CallR X (.builtin "sum") (rSumT X.K) := by
  intro pins s σ H vs us Q I r h
  obtain ⟨a, ns, rfl, hs, q⟩ := h
  obtain ⟨its, rv, pl, _⟩ := I.tuple hs
  rw [Vals.ref1 r]
  have ht : s.heap.IsTuple a its.toArray := by
    obtain ⟨o, ho, hc, n, hd⟩ := pl
    exact ⟨o, ho, hc, n, hd⟩
  exact sum_tup_raw (I.ok.hd hc) ht rv.ints fun h' tk t' hk => ⟨.int _, H, I.kept hk, ⟨_, rfl⟩, q⟩
end My

set_option Elab.async false
set_option linter.all false
set_option maxRecDepth 100000
namespace My
open PySem PySem.Spec PyProof.Rows L2
/-! the markings of one -/
def oneRows (m : Nat) : List (List Int) := (mrows 1 m).filter fun r => decide (r.sum ≤ 1)
section
variable {P : Program} {w : World} {K : PySem.W.Frag} {mg : Str → Option Value} {base : Heap}
theorem ok_one {C f fM : Addr} {fd fdM : FuncData} {k : Nat} (F : Fun K "markings" "One.markings" sOneMarkings f fd) (b_sum : mg "sum" = none) (Mr : Cal P w K mg base "mark_rows" (k + 1) ["many", "most"] spRows fM fdM) : FnOk P w K mg base CX0 (k + 2) f fd ["self", "many"] (spMarkings C "one" fun _ m => oneRows m) := by
  refine F.ok scOneMarkings (fun vs H Q E h => ?_) (fun cdv A outer s H vs Q E hr h => ?_)
  · obtain ⟨a, m, n, rfl, _⟩ := h
    rfl
  · obtain ⟨a, m, n, rfl, hF, hn, h1, hm, q⟩ := h
    refine ⟨_, (pss_one (ps_ret (pe_lc (own := [("row", 2)]) (g := gName 2) (tt := tTest (tOp (rI0 fun i j => .bl (decide (i ≤ j))) (tCB (rSumT K) (tCons (tVar 2) tNil)) (tC (.int 1)))) rfl scOneMarkings.nd (pi_list (pe_call Mr.ok (hr.mono (by omega)) rfl Mr.g Mr.kp Mr.b .nil pass0 (pa_cons (pv 1) (pa_cons pe_int pa_nil)))) (blkOk_by (own := [("row", 2)]) (N := ["self", "many", "row"]) (sc := defScope sOneMarkings) (by decide +kernel)) (fun _ _ _ _ _ => (pg_name (i := 2) scOneMarkings.nd rfl (.inl rfl) (.inr rfl))) (fun _ _ _ _ _ => (pts_one (pt_cmpR op_le (pe_callB (cr_sumT rfl) rfl b_sum (by decide +kernel) (pa_cons (pv 2) pa_nil)) pe_int rfl))) (fun _ _ _ _ _ => (pv 2))))), ?_⟩
    refine ⟨_, rfl, m, 1, rfl, hm, by decide, fun l xs H' t nl el hR => ?_⟩
    refine ⟨l, rfl, ⟨_, SqL.of el⟩, fun D nD => ?_⟩
    have len : xs.length ≤ 1024 := by
      rw [hR.len, mrows_len]
      calc (1 + 1) ^ m ≤ 2 ^ 5 := Nat.pow_le_pow_right (by decide) hm
        _ ≤ 1024 := by decide
    refine lc_list (xs := xs) (fun i G => Same H' G ∧ ∃ ys, G D = some (.lst ys) ∧ ys.length ≤ i ∧ TRs G ys (((mrows 1 m).take i).filter fun r => decide (r.sum ≤ 1))) ⟨same_upd nD, [], upd_same, Nat.le_refl _, trivial⟩ (fun i G _ h => SqL.of (h.1 _ _ el)) ?_ ?_
    · rintro i x G hx ⟨s1, ys, hD, hy, hY⟩
      obtain ⟨r, er, kr⟩ := hR.get hx
      have lt : i < xs.length := (List.getElem?_eq_some_iff.mp hx).1
      have kr2 := kr.same s1
      obtain ⟨tx, rfl, htx⟩ := kr2
      refine ⟨rfl, ?_⟩
      have tk : (((mrows 1 m).take (i + 1)).filter fun r => decide (r.sum ≤ 1)) = (((mrows 1 m).take i).filter fun r => decide (r.sum ≤ 1)) ++ (if decide (r.sum ≤ 1) = true then [r] else []) := by
        rw [List.take_add_one, er, List.filter_append]
        show _ ++ List.filter _ [r] = _
        rw [List.filter_cons, List.filter_nil]
      refine ⟨_, rfl, tx, r, rfl, SqT.of htx, r.sum, 1, rfl, rfl, _, rfl, ?_⟩
      rw [tk]
      refine ite2 (fun c => ?_) (fun c => ?_)
      · refine ⟨_, rfl, ys, hD, ?_, same_updF nD s1, ys ++ [.ref tx], upd_same, ?_, ?_⟩
        · rw [sizeLine_eq]
          omega
        · rw [List.length_append]
          exact Nat.succ_le_succ hy
        · rw [if_pos c]
          exact TRs.snoc (TR.put hD ⟨tx, rfl, htx⟩) (hY.imp fun v r h => h.put hD)
      · refine ⟨s1, ys, hD, Nat.le_succ_of_le hy, ?_⟩
        rw [if_neg c, List.append_nil]
        exact hY
    · rintro G ⟨s1, ys, hD, hy, hY⟩
      refine q D ys G (t.trans s1) (t.free nD) hD ?_
      rw [hR.len, List.take_length] at hY
      exact hY
end
end My

set_option Elab.async false
set_option linter.all false
set_option maxRecDepth 100000
namespace My
open PySem PySem.Spec PyProof.Rows L2
/-! rows in their order -/
def insL (r : List Int) : List (List Int) → List (List Int)
  | [] => [r]
  | z :: zs => if HT.lexLt z r = true then z :: insL r zs else r :: z :: zs
def sortL : List (List Int) → List (List Int)
  | [] => []
  | r :: rs => insL r (sortL rs)
theorem swoL : SrtO.Swo HT.lexLt := NtL.swo_lexL id
theorem insL_mem {r x : List Int} : ∀ {zs : List (List Int)}, x ∈ insL r zs → x = r ∨ x ∈ zs
  | [], h => .inl (List.mem_singleton.mp h)
  | z :: zs, h => by
    unfold insL at h
    by_cases c : HT.lexLt z r = true
    · rw [if_pos c] at h
      rcases List.mem_cons.mp h with e | h
      · exact .inr (e ▸ List.mem_cons_self)
      · exact (insL_mem h).imp_right (List.mem_cons_of_mem _)
    · rw [if_neg c] at h
      exact List.mem_cons.mp h
theorem insL_srtd (r : List Int) : ∀ {zs : List (List Int)}, SrtO.Srtd HT.lexLt zs → SrtO.Srtd HT.lexLt (insL r zs)
  | [], _ => SrtO.srtd_one r
  | z :: zs, h => by
    unfold insL
    by_cases c : HT.lexLt z r = true
    · rw [if_pos c]
      refine List.pairwise_cons.mpr ⟨fun y hy => ?_, insL_srtd r (List.pairwise_cons.mp h).2⟩
      rcases insL_mem hy with e | hy
      · rw [e]
        exact NtL.lex_asym _ _ c
      · exact SrtO.srtd_head h y hy
    · rw [if_neg c]
      have c' : HT.lexLt z r = false := by simpa using c
      refine List.pairwise_cons.mpr ⟨fun y hy => ?_, h⟩
      rcases List.mem_cons.mp hy with e | hy
      · rw [e]
        exact c'
      · exact NtL.lex_tr _ _ _ c' (SrtO.srtd_head h y hy)
theorem insL_stb (r : List Int) : ∀ zs : List (List Int), SrtO.Stb HT.lexLt (insL r zs) (r :: zs)
  | [] => SrtO.Stb.refl _
  | z :: zs => by
    unfold insL
    by_cases c : HT.lexLt z r = true
    · rw [if_pos c]
      refine SrtO.Stb.trans (SrtO.Stb.app (SrtO.Stb.refl [z]) (insL_stb r zs)) ?_
      have h : SrtO.Stb HT.lexLt ([z] ++ [r]) ([r] ++ [z]) := SrtO.Stb.swap swoL fun a ha b hb => by
        rw [List.mem_singleton.mp ha, List.mem_singleton.mp hb]
        exact c
      exact SrtO.Stb.app h (SrtO.Stb.refl zs)
    · rw [if_neg c]
      exact SrtO.Stb.refl _
theorem sortL_srtd : ∀ rs, SrtO.Srtd HT.lexLt (sortL rs)
  | [] => List.Pairwise.nil
  | r :: rs => insL_srtd r (sortL_srtd rs)
theorem sortL_stb : ∀ rs, SrtO.Stb HT.lexLt (sortL rs) rs
  | [] => SrtO.Stb.refl _
  | r :: rs => (insL_stb r (sortL rs)).trans (SrtO.Stb.app (SrtO.Stb.refl [r]) (sortL_stb rs))
theorem sortL_uniq {zs rs : List (List Int)} (h : SrtO.Srtd HT.lexLt zs) (s : SrtO.Stb HT.lexLt zs rs) : zs = sortL rs :=
  SrtO.stb_uniq swoL h (sortL_srtd rs) (s.trans ⟨(sortL_stb rs).perm.symm, fun x => ((sortL_stb rs).cls x).symm⟩)
/-- the numbers of a tuple -/
def numV : V → Int
  | .int i => i
  | _ => 0
def keyOf (H : Hp) : V → List Int
  | .ref t => match H t with
    | some (.tup xs) => xs.map numV
    | _ => []
  | _ => []
theorem nums_back : ∀ r : List Int, (r.map V.int).map numV = r
  | [] => rfl
  | i :: r => congrArg (i :: ·) (nums_back r)
theorem TR.key {H : Hp} {v : V} {r : List Int} (h : TR H v r) : keyOf H v = r := by
  obtain ⟨t, rfl, h⟩ := h
  show (match H t with | some (.tup xs) => xs.map numV | _ => []) = r
  rw [h]
  exact nums_back r
theorem TRs.key {H : Hp} : ∀ {xs : List V} {rs : List (List Int)}, TRs H xs rs → xs.map (keyOf H) = rs
  | [], [], _ => rfl
  | [], _ :: _, h => h.elim
  | _ :: _, [], h => h.elim
  | _ :: _, _ :: _, h => by rw [List.map_cons, h.1.key, h.2.key]
theorem TRs.mem {H : Hp} : ∀ {xs : List V} {rs : List (List Int)}, TRs H xs rs → ∀ x ∈ xs, TR H x (keyOf H x) ∧ keyOf H x ∈ rs
  | [], [], _, _, m => by cases m
  | [], _ :: _, h, _, _ => h.elim
  | _ :: _, [], h, _, _ => h.elim
  | _ :: _, _ :: _, h, x, m => by
    rcases List.mem_cons.mp m with e | m
    · subst e
      rw [h.1.key]
      exact ⟨h.1, List.mem_cons_self⟩
    · exact ⟨(h.2.mem x m).1, List.mem_cons_of_mem _ (h.2.mem x m).2⟩
theorem TRs.of_key {H : Hp} : ∀ {ys : List V}, (∀ x ∈ ys, TR H x (keyOf H x)) → TRs H ys (ys.map (keyOf H))
  | [], _ => trivial
  | y :: ys, h => ⟨h y List.mem_cons_self, TRs.of_key fun x m => h x (List.mem_cons_of_mem _ m)⟩
/-- sorted(..) of such a list -/
theorem sorted_rows {K : PySem.W.Frag} {H : Hp} {a : Addr} {xs : List V} {rs : List (List Int)} {d : Nat} {Q : VK} (hs : SqL K H a xs) (h : TRs H xs rs) (hd : 1 ≤ d) (hr : ∀ r ∈ rs, r.length = d) (q : ∀ p ys, H p = none → TRs H ys (sortL rs) → Q (.ref p) (upd H p (.lst ys))) : rSortedL K [.ref a] H Q := by
  refine ⟨a, xs, keyOf H, d, rfl, hs, hd, fun x m => ?_, fun ys p h1 h2 np => q p ys np ?_⟩
  · obtain ⟨⟨t, e, ht⟩, km⟩ := h.mem x m
    exact ⟨t, e, ht, hr _ km⟩
  · have e : ys.map (keyOf H) = sortL rs := by
      refine sortL_uniq (SrtO.srtd_map h1) ?_
      have := SrtO.Stb.map swoL (keyOf H) h2
      rw [h.key] at this
      exact this
    rw [← e]
    exact TRs.of_key fun x m => (h.mem x (h2.perm.mem_iff.mp m)).1
end My

set_option Elab.async false
set_option linter.all false
set_option maxRecDepth 100000
namespace My
open PySem PySem.Spec PyProof.Rows L2
/-! the markings of lists -/
abbrev sListsMarkings : Stmt := inClass (topS 17) 1
theorem scListsMarkings : FnScope ["self", "many", "lists", "found", "a"] ["self", "many"] (defScope sListsMarkings) := ⟨rfl, rfl, rfl, by decide +kernel, rfl, by decide +kernel, by decide +kernel⟩
def listRows0 (L m : Nat) : List (List Int) := [markL m []] ++ (List.range L).map (fun a : Nat => markL m [(a : Int)]) ++ (List.range (m - L)).map (fun j : Nat => markL m [((L : Int) + j) % (L : Int), (L : Int) + j])
def listRows (n m : Nat) : List (List Int) := sortL (listRows0 (min n m) m)
theorem markL_len (m : Nat) (ns : List Int) : (markL m ns).length = m := by
  unfold markL
  rw [List.length_map, List.length_range]
theorem TRs.app {H : Hp} {ys : List V} {ss : List (List Int)} (k : TRs H ys ss) : ∀ {xs : List V} {rs : List (List Int)}, TRs H xs rs → TRs H (xs ++ ys) (rs ++ ss)
  | [], [], _ => k
  | [], _ :: _, h => h.elim
  | _ :: _, [], h => h.elim
  | _ :: _, _ :: _, h => ⟨h.1, TRs.app k h.2⟩
/-- one more row at the end of a new list -/
theorem grow {HA G G1 : Hp} {D : Addr} {ys : List V} {rows : List (List Int)} {y : V} {r : List Int} (nD : HA D = none) (s : Same HA G) (hD : G D = some (.lst ys)) (hY : TRs G ys rows) (s1 : Same G G1) (ky : TR G1 y r) :
    G1 D = some (.lst ys) ∧ Same HA (upd G1 D (.lst (ys ++ [y]))) ∧ (upd G1 D (.lst (ys ++ [y]))) D = some (.lst (ys ++ [y])) ∧ TRs (upd G1 D (.lst (ys ++ [y]))) (ys ++ [y]) (rows ++ [r]) :=
  have hD1 := s1 _ _ hD
  ⟨hD1, same_updF nD (s.trans s1), upd_same, TRs.snoc (TR.put hD1 ky) ((hY.imp fun v r h => h.same s1).imp fun v r h => h.put hD1)⟩
/-- one list behind another -/
theorem joined {H G : Hp} {l : Addr} {xs ys : List V} {rs ss : List (List Int)} (hl : H l = none) (s : Same H G) (el : G l = some (.lst xs)) (kx : TRs G xs rs) (ky : TRs G ys ss) :
    Same H (upd G l (.lst (xs ++ ys))) ∧ (upd G l (.lst (xs ++ ys))) l = some (.lst (xs ++ ys)) ∧ TRs (upd G l (.lst (xs ++ ys))) (xs ++ ys) (rs ++ ss) :=
  ⟨same_updF hl s, upd_same, (TRs.app ky kx).imp fun v r h => h.put el⟩
section
variable {P : Program} {w : World} {K : PySem.W.Frag} {mg : Str → Option Value} {base : Heap}
theorem ok_lists {C f fM : Addr} {fd fdM : FuncData} {k : Nat} (F : Fun K "markings" "Lists.markings" sListsMarkings f fd) (T : Cls K C) (nN : NoAttr K C "number") (b_min : mg "min" = none) (b_range : mg "range" = none) (b_sorted : mg "sorted" = none) (Md : Cal P w K mg base "marked" (k + 1) ["many", "numbers"] (spMarked K) fM fdM) : FnOk P w K mg base CX0 (k + 2) f fd ["self", "many"] (fun vs H Q E => ∃ (a : Addr) (m n : Nat), vs = [.ref a, .int m] ∧ FormAt H C a "lists" n ∧ 1 ≤ n ∧ n ≤ 4 ∧ 1 ≤ m ∧ m ≤ 5 ∧ ∀ l xs H', Same H H' → H l = none → H' l = some (.lst xs) → TRs H' xs (listRows n m) → Q (.ref l) H') := by
  refine F.ok scListsMarkings (fun vs H Q E h => ?_) (fun cdv A outer s H vs Q E hr h => ?_)
  · obtain ⟨a, m, n, rfl, _⟩ := h
    rfl
  · obtain ⟨a, m, n, rfl, ⟨dx, ha⟩, hn1, hn, h1, hm, q⟩ := h
    refine ⟨_, (pss_cons (ps_set (i := 2) scListsMarkings.nd rfl (.inr rfl) (pe_callB (call_min2 rfl) rfl b_min (by decide +kernel) (pa_cons (pe_fld (pv 0) rfl) (pa_cons (pv 1) pa_nil))))
      (pss_cons (ps_set (i := 3) scListsMarkings.nd rfl (.inl rfl) (pe_lst (pa_cons (pe_call Md.ok (hr.mono (by omega)) rfl Md.g Md.kp Md.b .nil pass0 (pa_cons (pv 1) (pa_cons (pe_tup pa_nil) pa_nil))) pa_nil)))
      (pss_cons (ps_expr (pe_bm PySem.F.plainAttrs_list PySem.F.slot_list_extend PySem.F.type_list_extend mt_extend (pv 3) (pa_cons (pe_lc (own := [("a", 4)]) (g := gName 4) (tt := tYes) rfl scListsMarkings.nd (pi_range1 rfl b_range (pa_cons (pv 2) pa_nil)) (blkOk_by (own := [("a", 4)]) (N := ["self", "many", "lists", "found", "a"]) (sc := defScope sListsMarkings) (by decide +kernel)) (fun _ _ _ _ _ => (pg_name (i := 4) scListsMarkings.nd rfl (.inl rfl) (.inr rfl))) (fun _ _ _ _ _ => pts_nil) (fun _ _ _ _ _ => (pe_call Md.ok (hr.mono (by omega)) rfl Md.g Md.kp Md.b .nil pass0 (pa_cons (pv 1) (pa_cons (pe_tup (pa_cons (pv 4) pa_nil)) pa_nil))))) pa_nil)))
      (pss_cons (ps_expr (pe_bm PySem.F.plainAttrs_list PySem.F.slot_list_extend PySem.F.type_list_extend mt_extend (pv 3) (pa_cons (pe_lc (own := [("a", 4)]) (g := gName 4) (tt := tYes) rfl scListsMarkings.nd (pi_range2 rfl b_range (pa_cons (pv 2) (pa_cons (pv 1) pa_nil))) (blkOk_by (own := [("a", 4)]) (N := ["self", "many", "lists", "found", "a"]) (sc := defScope sListsMarkings) (by decide +kernel)) (fun _ _ _ _ _ => (pg_name (i := 4) scListsMarkings.nd rfl (.inl rfl) (.inr rfl))) (fun _ _ _ _ _ => pts_nil) (fun _ _ _ _ _ => (pe_call Md.ok (hr.mono (by omega)) rfl Md.g Md.kp Md.b .nil pass0 (pa_cons (pv 1) (pa_cons (pe_tup (pa_cons (pe_op op_mod (pv 4) (pv 2)) (pa_cons (pv 4) pa_nil))) pa_nil))))) pa_nil)))
      (pss_one (ps_ret (pe_callB cr_sortedL rfl b_sorted (by decide +kernel) (pa_cons (pv 3) pa_nil)))))))), ?_⟩
    refine ⟨_, rfl, a, C, dx, _, _, rfl, ha, T, nN, rfl, _, rfl, n, m, rfl, ?_⟩
    have eM : (if (m : Int) < (n : Int) then (m : Int) else (n : Int)) = ((min n m : Nat) : Int) := by
      by_cases c : (m : Int) < (n : Int)
      · rw [if_pos c]; omega
      · rw [if_neg c]; omega
    rw [eM]
    have lm : min n m ≤ 4 := Nat.le_trans (Nat.min_le_left _ _) hn
    have lm1 : 1 ≤ min n m := by omega
    have lmm : min n m ≤ m := Nat.min_le_right _ _
    clear eM
    unfold listRows at q
    generalize min n m = L at lm lm1 lmm q ⊢
    have es0 : ∀ z : Nat, z ≤ 10 → z ≤ sizeLine := fun z hz => by rw [sizeLine_eq]; omega
    refine ⟨_, rfl, es0 0 (by decide), fun t0 nt0 => ?_⟩
    have s0 := same_upd (o := .tup []) nt0
    refine ⟨m, t0, [], rfl, hm, SqT.of upd_same, fun t1 H1 s1 n1 e1 => ?_⟩
    refine ⟨es0 1 (by decide), fun l0 n0 => ?_⟩
    have sA : Same H (upd H1 l0 (.lst [.ref t1])) := (s0.trans s1).trans (same_upd n0)
    have freeA : H l0 = none := (s0.trans s1).free n0
    have eA : TRs (upd H1 l0 (.lst [.ref t1])) [.ref t1] [markL m []] := ⟨⟨t1, rfl, same_upd n0 _ _ e1⟩, trivial⟩
    have e0 : (upd H1 l0 (.lst [.ref t1])) l0 = some (.lst [.ref t1]) := upd_same
    generalize upd H1 l0 (.lst [.ref t1]) = HA at sA eA e0 ⊢
    refine ⟨_, rfl, .inl ⟨rfl, _, SqL.of e0⟩, _, rfl, L, rfl, by omega, by omega, fun D nD => ?_⟩
    refine lc_range (n := L) (fun i G => Same HA G ∧ ∃ ys, G D = some (.lst ys) ∧ TRs G ys ((List.range i).map fun a : Nat => markL m [(a : Int)])) ⟨same_upd nD, [], upd_same, trivial⟩ ?_ ?_
    · rintro i G hi ⟨s1, ys, hD, hY⟩
      have ly : ys.length = i := by rw [hY.len, List.length_map, List.length_range]
      refine ⟨rfl, ?_⟩
      unfold tYes
      refine iteT ⟨_, rfl, _, rfl, es0 1 (by decide), fun t nt => ⟨m, t, [0 + (i : Int)], rfl, hm, SqT.of upd_same, fun t1 G1 s2 n1 e1 => ?_⟩⟩
      obtain ⟨a1, a2, a3, a4⟩ := grow nD s1 hD hY ((same_upd nt).trans s2) ⟨t1, rfl, e1⟩
      refine ⟨ys, a1, by rw [sizeLine_eq]; omega, a2, _, a3, ?_⟩
      rw [List.range_succ, List.map_append]
      rw [Int.zero_add] at a4
      exact a4
    rintro G ⟨s1, ys, hD, hY⟩
    have ly : ys.length = L := by rw [hY.len, List.length_map, List.length_range]
    refine ⟨l0, D, _, _, rfl, rfl, s1 _ _ e0, hD, es0 _ (by rw [List.length_cons]; show 0 + 1 + _ ≤ 10; omega), ?_⟩
    obtain ⟨sB, eB, kB⟩ := joined freeA (sA.trans s1) (s1 _ _ e0) (eA.imp fun v r h => h.same s1) hY
    have lB : ([V.ref t1] ++ ys).length = 1 + L := by rw [List.length_append, ly]; rfl
    generalize upd G l0 (.lst ([V.ref t1] ++ ys)) = HB at sB eB kB ⊢
    generalize [V.ref t1] ++ ys = xB at eB kB lB ⊢
    clear s1 hD hY
    refine ⟨_, rfl, .inl ⟨rfl, _, SqL.of eB⟩, _, rfl, _, rfl, L, m, rfl, ⟨by omega, by omega, by omega, by omega⟩, fun D nD => ?_⟩
    have en : ((m : Int) - (L : Int)).toNat = m - L := by omega
    refine lc_range (n := ((m : Int) - (L : Int)).toNat) (fun i G => Same HB G ∧ ∃ ys, G D = some (.lst ys) ∧ TRs G ys ((List.range i).map fun j : Nat => markL m [((L : Int) + j) % (L : Int), (L : Int) + j])) ⟨same_upd nD, [], upd_same, trivial⟩ ?_ ?_
    · rintro i G hi ⟨s1, ys, hD, hY⟩
      have ly : ys.length = i := by rw [hY.len, List.length_map, List.length_range]
      refine ⟨rfl, ?_⟩
      unfold tYes
      refine iteT ⟨_, rfl, _, rfl, _, rfl, (L : Int) + i, (L : Int), rfl, rfl, by omega, _, rfl, es0 2 (by decide), fun t nt => ⟨m, t, [((L : Int) + i) % (L : Int), (L : Int) + i], rfl, hm, SqT.of upd_same, fun t1 G1 s2 n1 e1 => ?_⟩⟩
      obtain ⟨a1, a2, a3, a4⟩ := grow nD s1 hD hY ((same_upd nt).trans s2) ⟨t1, rfl, e1⟩
      refine ⟨ys, a1, by rw [sizeLine_eq]; omega, a2, _, a3, ?_⟩
      rw [List.range_succ, List.map_append]
      exact a4
    rintro G ⟨s1, ys, hD, hY⟩
    rw [en] at hY
    have ly : ys.length = m - L := by rw [hY.len, List.length_map, List.length_range]
    refine ⟨l0, D, _, _, rfl, rfl, s1 _ _ eB, hD, es0 _ (by omega), ?_⟩
    obtain ⟨sC, eC, kC⟩ := joined freeA (sB.trans s1) (s1 _ _ eB) (kB.imp fun v r h => h.same s1) hY
    refine ⟨_, rfl, sorted_rows (SqL.of eC) kC h1 (fun r hr => ?_) fun p zs np kz => ?_⟩
    · rcases List.mem_append.mp hr with hr | hr
      · rcases List.mem_append.mp hr with hr | hr
        · rw [List.mem_singleton.mp hr]
          exact markL_len _ _
        · obtain ⟨_, _, e⟩ := List.mem_map.mp hr
          rw [← e]
          exact markL_len _ _
      · obtain ⟨_, _, e⟩ := List.mem_map.mp hr
        rw [← e]
        exact markL_len _ _
    · refine q p zs _ (sC.trans (same_upd np)) (sC.free np) upd_same ?_
      exact kz.imp fun v r h => h.same (same_upd np)
end
end My

set_option Elab.async false
set_option linter.all false
set_option maxRecDepth 100000
namespace My
open PySem PySem.Spec PyProof.Rows L2
/-! the markings of ranks -/
abbrev sRanksMarkings : Stmt := inClass (topS 16) 1
theorem scRanksMarkings : FnScope ["self", "many", "orders", "found", "_", "order", "a"] ["self", "many"] (defScope sRanksMarkings) := ⟨rfl, rfl, rfl, by decide +kernel, rfl, by decide +kernel, by decide +kernel⟩
/-- an order: a tuple with its methods, or an empty one -/
def OT (H : Hp) (v : V) (r : List Int) : Prop := ∃ t, v = .ref t ∧ ((r = [] ∧ H t = some (.tup [])) ∨ ∃ o : Obj, H t = some (.frz o (.tup (r.map V.int))) ∧ o.dict = none)
theorem OT.same {H H' : Hp} {v : V} {r : List Int} (s : Same H H') (h : OT H v r) : OT H' v r := by
  obtain ⟨t, e, h⟩ := h
  refine ⟨t, e, ?_⟩
  rcases h with ⟨a, b⟩ | ⟨o, a, b⟩
  · exact .inl ⟨a, s _ _ b⟩
  · exact .inr ⟨o, s _ _ a, b⟩
theorem OT.put {H : Hp} {v : V} {r : List Int} {D : Addr} {ys zs : List V} (hD : H D = some (.lst ys)) (h : OT H v r) : OT (upd H D (.lst zs)) v r := by
  obtain ⟨t, e, h⟩ := h
  refine ⟨t, e, ?_⟩
  rcases h with ⟨a, b⟩ | ⟨o, a, b⟩
  · refine .inl ⟨a, ?_⟩
    rw [upd_ne (fun z => by rw [z, hD] at b; cases b)]
    exact b
  · refine .inr ⟨o, ?_, b⟩
    rw [upd_ne (fun z => by rw [z, hD] at a; cases a)]
    exact a
theorem OT.sq {K : PySem.W.Frag} {H : Hp} {t : Addr} {r : List Int} (h : OT H (.ref t) r) : SqT K H t (r.map V.int) := by
  obtain ⟨t', e, h⟩ := h
  cases e
  rcases h with ⟨a, b⟩ | ⟨o, a, b⟩
  · rw [a]
    exact .inl (.inl b)
  · exact .inl (.inr ⟨o, a⟩)
theorem OT.ty {H : Hp} {t : Addr} {r : List Int} (h : OT H (.ref t) r) : r = [] ∨ tyTup (.ref t) H := by
  obtain ⟨t', e, h⟩ := h
  cases e
  rcases h with ⟨a, b⟩ | ⟨o, a, b⟩
  · exact .inl a
  · exact .inr ⟨t, o, _, rfl, a, b⟩
def OTs (H : Hp) : List V → List (List Int) → Prop
  | [], [] => True
  | v :: vs, r :: rs => OT H v r ∧ OTs H vs rs
  | _, _ => False
theorem OTs.imp {H H' : Hp} (f : ∀ v r, OT H v r → OT H' v r) : ∀ {xs : List V} {rs : List (List Int)}, OTs H xs rs → OTs H' xs rs
  | [], [], _ => trivial
  | [], _ :: _, h => h.elim
  | _ :: _, [], h => h.elim
  | v :: _, r :: _, h => ⟨f v r h.1, h.2.imp f⟩
theorem OTs.len {H : Hp} : ∀ {xs : List V} {rs : List (List Int)}, OTs H xs rs → xs.length = rs.length
  | [], [], _ => rfl
  | [], _ :: _, h => h.elim
  | _ :: _, [], h => h.elim
  | _ :: _, _ :: _, h => congrArg Nat.succ h.2.len
theorem OTs.snoc {H : Hp} {v : V} {r : List Int} (k : OT H v r) : ∀ {xs : List V} {rs : List (List Int)}, OTs H xs rs → OTs H (xs ++ [v]) (rs ++ [r])
  | [], [], _ => ⟨k, trivial⟩
  | [], _ :: _, h => h.elim
  | _ :: _, [], h => h.elim
  | _ :: _, _ :: _, h => ⟨h.1, h.2.snoc k⟩
theorem OTs.get {H : Hp} : ∀ {xs : List V} {rs : List (List Int)} {i : Nat} {x : V}, OTs H xs rs → xs[i]? = some x → ∃ r, rs[i]? = some r ∧ OT H x r
  | [], [], _, _, _, e => by simp at e
  | [], _ :: _, _, _, h, _ => h.elim
  | _ :: _, [], _, _, h, _ => h.elim
  | _ :: _, r :: _, 0, _, h, e => by cases e; exact ⟨r, rfl, h.1⟩
  | _ :: _, _ :: _, i + 1, _, h, e => h.2.get (i := i) e
def omore (r : List Int) (j : Nat) : List (List Int) := if (j : Int) ∈ r then [] else [r ++ [(j : Int)]]
/-- one more candidate behind each order -/
def ostep (m : Nat) (rows : List (List Int)) : List (List Int) := rows.flatMap fun r => (List.range m).flatMap (omore r)
def orders (m : Nat) : Nat → List (List Int)
  | 0 => [[]]
  | i + 1 => ostep m (orders m i)
def rankRows0 (m : Nat) : Nat → List (List Int)
  | 0 => [rankL m []]
  | i + 1 => rankRows0 m i ++ (orders m (i + 1)).map (rankL m)
def rankRows (m : Nat) : List (List Int) := sortL (rankRows0 m m)
theorem omore_len (r : List Int) (m : Nat) : ((List.range m).flatMap (omore r)).length ≤ m := by
  induction m with
  | zero => exact Nat.le_refl _
  | succ m ih =>
    rw [List.range_succ, List.flatMap_append, List.length_append]
    refine Nat.add_le_add ih ?_
    show ((omore r m) ++ []).length ≤ 1
    rw [List.append_nil]
    unfold omore
    by_cases c : (m : Int) ∈ r
    · rw [if_pos c]; exact Nat.zero_le _
    · rw [if_neg c]; exact Nat.le_refl _
theorem ostep_len (m : Nat) : ∀ rows : List (List Int), (ostep m rows).length ≤ rows.length * m
  | [] => Nat.zero_le _
  | r :: rows => by
    show (((List.range m).flatMap (omore r)) ++ ostep m rows).length ≤ (rows.length + 1) * m
    rw [List.length_append, Nat.succ_mul, Nat.add_comm]
    exact Nat.add_le_add (ostep_len m rows) (omore_len r m)
theorem ostep_take {m i : Nat} {rows : List (List Int)} {r : List Int} (e : rows[i]? = some r) : ostep m (rows.take (i + 1)) = ostep m (rows.take i) ++ (List.range m).flatMap (omore r) := by
  unfold ostep
  rw [List.take_add_one, e, List.flatMap_append]
  simp
theorem orders_len {m : Nat} (hm : m ≤ 5) : ∀ i, (orders m i).length ≤ 5 ^ i
  | 0 => Nat.le_refl _
  | i + 1 => by
    rw [Nat.pow_succ]
    exact Nat.le_trans (ostep_len m _) (Nat.mul_le_mul (orders_len hm i) hm)
theorem rankL_len (m : Nat) (ns : List Int) : (rankL m ns).length = m := by
  unfold rankL
  rw [List.length_map, List.length_range]
theorem rankRows0_len {m : Nat} (hm : m ≤ 5) : ∀ i, (rankRows0 m i).length ≤ 6 ^ i
  | 0 => Nat.le_refl _
  | i + 1 => by
    show (rankRows0 m i ++ (orders m (i + 1)).map (rankL m)).length ≤ _
    rw [List.length_append, List.length_map]
    have a := rankRows0_len hm i
    have b := orders_len hm (i + 1)
    have c : 5 ^ i ≤ 6 ^ i := Nat.pow_le_pow_left (by decide) i
    rw [Nat.pow_succ] at b ⊢
    omega
theorem rankRows0_row {m : Nat} : ∀ i r, r ∈ rankRows0 m i → r.length = m
  | 0, r, h => by rw [List.mem_singleton.mp h]; exact rankL_len _ _
  | i + 1, r, h => by
    rcases List.mem_append.mp h with h | h
    · exact rankRows0_row i r h
    · obtain ⟨_, _, e⟩ := List.mem_map.mp h
      rw [← e]
      exact rankL_len _ _
theorem orders_row {m : Nat} : ∀ i r, r ∈ orders m i → r.length = i
  | 0, r, h => by rw [List.mem_singleton.mp h]; rfl
  | i + 1, r, h => by
    obtain ⟨r0, h0, h1⟩ := List.mem_flatMap.mp h
    obtain ⟨j, _, h2⟩ := List.mem_flatMap.mp h1
    unfold omore at h2
    by_cases c : (j : Int) ∈ r0
    · rw [if_pos c] at h2; cases h2
    · rw [if_neg c] at h2
      rw [List.mem_singleton.mp h2, List.length_append, orders_row i r0 h0]
      rfl
section
variable {P : Program} {w : World} {K : PySem.W.Frag} {mg : Str → Option Value} {base : Heap}
theorem ok_ranks {C f fR : Addr} {fd fdR : FuncData} {k : Nat} (F : Fun K "markings" "Ranks.markings" sRanksMarkings f fd) (b_range : mg "range" = none) (b_sorted : mg "sorted" = none) (Rk : Cal P w K mg base "ranked" (k + 1) ["many", "order"] (spRanked K) fR fdR) : FnOk P w K mg base CX0 (k + 2) f fd ["self", "many"] (spMarkings C "ranks" fun _ m => rankRows m) := by
  refine F.ok scRanksMarkings (fun vs H Q E h => ?_) (fun cdv A outer s H vs Q E hr h => ?_)
  · obtain ⟨a, m, n, rfl, _⟩ := h
    rfl
  · obtain ⟨a, m, n, rfl, hF, hn, h1, hm, q⟩ := h
    refine ⟨_, (pss_cons (ps_set (i := 2) scRanksMarkings.nd rfl (.inl rfl) (pe_lst (pa_cons (pe_tup pa_nil) pa_nil)))
      (pss_cons (ps_set (i := 3) scRanksMarkings.nd rfl (.inl rfl) (pe_lst (pa_cons (pe_call Rk.ok (hr.mono (by omega)) rfl Rk.g Rk.kp Rk.b .nil pass0 (pa_cons (pv 1) (pa_cons (pe_tup pa_nil) pa_nil))) pa_nil)))
      (pss_cons (ps_for PassesOwn.never rfl (pi_range1 rfl b_range (pa_cons (pv 1) pa_nil)) (pg_name (i := 4) scRanksMarkings.nd rfl (.inl rfl))
        (pss_cons (ps_setLc2 (i := 2) (own := [("order", 5), ("a", 6)]) (vs1 := [6]) (g := gName 5) (g1 := gName 6) (tt := tYes) (tt1 := tTest (tOp (rIn K true) (tVar 6) (tVar 5))) (te := tOp (rCatF K) (tVar 5) (tTupF (tCons (tVar 6) tNil))) rfl scRanksMarkings.nd rfl rfl (sw_true rfl rfl rfl (by decide +kernel)) (pi_list (pv 2)) (blkOk_by (own := [("order", 5), ("a", 6)]) (N := ["self", "many", "orders", "found", "_", "order", "a"]) (sc := defScope sRanksMarkings) (by decide +kernel)) (by decide) (fun _ _ _ _ _ => (pg_name (i := 5) scRanksMarkings.nd rfl (.inl rfl) (.inr rfl))) (fun _ _ _ _ _ => pts_nil) (fun _ _ _ _ _ => (pi_range1 rfl b_range (pa_cons (pv 1) pa_nil))) (fun _ _ _ _ _ => (pg_name (i := 6) scRanksMarkings.nd rfl (.inl rfl) (.inr rfl))) (fun _ _ _ _ _ => (pts_one (pt_cmpR op_notIn_seq (pv 6) (pv 5) rfl))) (fun _ _ _ _ _ => (pe_op op_catF (pv 5) (pe_tupF (pa_cons (pv 6) pa_nil)))))
        (pss_one (ps_expr (pe_bm PySem.F.plainAttrs_list PySem.F.slot_list_extend PySem.F.type_list_extend mt_extend (pv 3) (pa_cons (pe_lc (own := [("order", 5)]) (g := gName 5) (tt := tYes) rfl scRanksMarkings.nd (pi_list (pv 2)) (blkOk_by (own := [("order", 5)]) (N := ["self", "many", "orders", "found", "_", "order", "a"]) (sc := defScope sRanksMarkings) (by decide +kernel)) (fun _ _ _ _ _ => (pg_name (i := 5) scRanksMarkings.nd rfl (.inl rfl) (.inr rfl))) (fun _ _ _ _ _ => pts_nil) (fun _ _ _ _ _ => (pe_call Rk.ok (hr.mono (by omega)) rfl Rk.g Rk.kp Rk.b .nil pass0 (pa_cons (pv 1) (pa_cons (pv 5) pa_nil))))) pa_nil))))))
      (pss_one (ps_ret (pe_callB cr_sortedL rfl b_sorted (by decide +kernel) (pa_cons (pv 3) pa_nil))))))), ?_⟩
    have es0 : ∀ z : Nat, z ≤ 10000 → z ≤ sizeLine := fun z hz => by rw [sizeLine_eq]; omega
    refine ⟨es0 0 (by decide), fun t0 nt0 => ⟨es0 1 (by decide), fun o0 no0 => ?_⟩⟩
    have s0 := (same_upd (o := .tup []) nt0).trans (same_upd (o := .lst [.ref t0]) no0)
    have k0 : OTs (upd (upd H t0 (.tup [])) o0 (.lst [.ref t0])) [.ref t0] (orders m 0) := ⟨⟨t0, rfl, .inl ⟨rfl, same_upd no0 _ _ upd_same⟩⟩, trivial⟩
    have e0 : (upd (upd H t0 (.tup [])) o0 (.lst [.ref t0])) o0 = some (.lst [.ref t0]) := upd_same
    have f0 : H o0 = none := (same_upd nt0).free no0
    generalize upd (upd H t0 (.tup [])) o0 (.lst [.ref t0]) = H0 at s0 k0 e0 ⊢
    refine ⟨_, rfl, es0 0 (by decide), fun t1 nt1 => ⟨m, t1, [], rfl, hm, SqT.of upd_same, .inl rfl, fun t2 H2 s2 n2 e2 => ?_⟩⟩
    refine ⟨es0 1 (by decide), fun l0 nl0 => ?_⟩
    have sA : Same H (upd H2 l0 (.lst [.ref t2])) := ((s0.trans (same_upd nt1)).trans s2).trans (same_upd nl0)
    have sB : Same H0 (upd H2 l0 (.lst [.ref t2])) := ((same_upd nt1).trans s2).trans (same_upd nl0)
    have hl0 : H l0 = none := ((s0.trans (same_upd nt1)).trans s2).free nl0
    have ne0 : o0 ≠ l0 := fun e => by
      have z := s2 _ _ (same_upd (o := .tup []) nt1 _ _ e0)
      rw [e, nl0] at z
      cases z
    have eo0 := sB _ _ e0
    have kA : TRs (upd H2 l0 (.lst [.ref t2])) [.ref t2] (rankRows0 m 0) := ⟨⟨t2, rfl, same_upd nl0 _ _ e2⟩, trivial⟩
    have el0 : (upd H2 l0 (.lst [.ref t2])) l0 = some (.lst [.ref t2]) := upd_same
    have kO := k0.imp fun v r h => h.same sB
    generalize upd H2 l0 (.lst [.ref t2]) = HA at sA sB eo0 kA el0 kO ⊢
    refine ⟨_, rfl, m, rfl, by omega, by omega, for_range (n := m) (fun i σ G => ∃ x4 o os l xs, σ = [some (.ref a), some (.int m), some (.ref o), some (.ref l), x4, none, none] ∧ Same H G ∧ H l = none ∧ o ≠ l ∧ G l = some (.lst xs) ∧ TRs G xs (rankRows0 m i) ∧ G o = some (.lst os) ∧ OTs G os (orders m i)) ⟨_, o0, _, l0, _, rfl, sA, hl0, ne0, el0, kA, eo0, kO⟩ ?_ ?_⟩
    · rintro i σ G hi ⟨x4, o, os, l, xs, rfl, sG, hl, ne, eL, kL, eO, kO⟩
      have lenO : os.length ≤ 5 ^ i := by rw [kO.len]; exact orders_len hm i
      have lenX : xs.length ≤ 6 ^ i := by rw [kL.len]; exact rankRows0_len hm i
      have p5 : 5 ^ i ≤ 5 ^ 4 := Nat.pow_le_pow_right (by decide) (by omega)
      have p6 : 6 ^ i ≤ 6 ^ 4 := Nat.pow_le_pow_right (by decide) (by omega)
      have osl : os.length ≤ 625 := by omega
      have xsl : xs.length ≤ 1296 := by omega
      refine ⟨_, rfl, o, rfl, ⟨_, SqL.of eO⟩, fun D nD => ?_⟩
      refine out_list (xs := os) (fun b G2 => Same G G2 ∧ ∃ ys, G2 D = some (.lst ys) ∧ OTs G2 ys (ostep m ((orders m i).take b))) ⟨same_upd nD, [], upd_same, trivial⟩ (fun b G2 _ h => SqL.of (h.1 _ _ eO)) ?_ ?_
      · rintro b x G2 hx ⟨s2, ys, hD, hY⟩
        obtain ⟨r, er, kr⟩ := kO.get hx
        have lt : b < os.length := (List.getElem?_eq_some_iff.mp hx).1
        have lr : r.length ≤ 5 := by
          have := orders_row i r (List.mem_of_getElem? er)
          omega
        have ly : ys.length ≤ b * 5 := by
          rw [hY.len]
          refine Nat.le_trans (ostep_len m _) ?_
          rw [List.length_take]
          exact Nat.mul_le_mul (Nat.min_le_left _ _) hm
        have krG := kr
        obtain ⟨tx, rfl, htx⟩ := kr
        refine ⟨rfl, ?_⟩
        unfold tYes
        refine iteT ⟨_, rfl, m, rfl, by omega, by omega, ?_⟩
        refine in_range (n := m) (g := gName 6) (tt := tTest (tOp (rIn K true) (tVar 6) (tVar 5))) (te := tOp (rCatF K) (tVar 5) (tTupF (tCons (tVar 6) tNil))) (vs := [6]) (D := D) (Hs := G2) (fun j G3 => Same G G3 ∧ ∃ zs, G3 D = some (.lst zs) ∧ OTs G3 zs (ostep m ((orders m i).take b) ++ (List.range j).flatMap (omore r))) ⟨s2, ys, hD, by rw [List.range_zero, List.flatMap_nil, List.append_nil]; exact hY⟩ ?_ ?_
        · rintro j G3 hj ⟨s3, zs, hZ, kZ⟩
          have k3 := krG.same s3
          have lz : zs.length < sizeLine := by
            have z := omore_len r j
            rw [kZ.len, List.length_append, ← hY.len, sizeLine_eq]
            omega
          have eS : ostep m ((orders m i).take b) ++ (List.range (j + 1)).flatMap (omore r) = (ostep m ((orders m i).take b) ++ (List.range j).flatMap (omore r)) ++ omore r j := by
            rw [List.range_succ, List.flatMap_append, List.append_assoc]
            simp
          refine ⟨rfl, ?_⟩
          refine ⟨_, rfl, _, rfl, tx, _, rfl, .inr k3.sq, rfl, flat_ints r, ?_⟩
          rw [if_pos rfl, inV_ints, Int.zero_add]
          refine ⟨_, rfl, ?_⟩
          rw [eS]
          refine ite2 (fun c => ?_) (fun c => ?_)
          · have c' : ¬ (j : Int) ∈ r := by simpa using c
            have eo : omore r j = [r ++ [(j : Int)]] := if_neg c'
            rw [eo]
            have app : ∀ (y : V) (G4 : Hp), Same G3 G4 → OT G4 y (r ++ [(j : Int)]) → ∃ acc, G4 D = some (.lst acc) ∧ acc.length < sizeLine ∧ (Same G (upd G4 D (.lst (acc ++ [y]))) ∧ ∃ ws, (upd G4 D (.lst (acc ++ [y]))) D = some (.lst ws) ∧ OTs (upd G4 D (.lst (acc ++ [y]))) ws ((ostep m ((orders m i).take b) ++ (List.range j).flatMap (omore r)) ++ [r ++ [(j : Int)]])) := by
              intro y G4 s4 ky
              have hD4 := s4 _ _ hZ
              exact ⟨zs, hD4, lz, same_updF nD (s3.trans s4), zs ++ [y], upd_same, OTs.snoc (OT.put hD4 ky) ((kZ.imp fun v r h => h.same s4).imp fun v r h => h.put hD4)⟩
            refine ⟨_, rfl, _, rfl, es0 1 (by decide), fun p ob np dp => ?_⟩
            have sp := same_upd (o := .frz ob (.tup [.int (0 + (j : Int))])) np
            have kp := k3.same sp
            refine ⟨tx, p, _, _, rfl, rfl, kp.sq, .inl (.inr ⟨ob, upd_same⟩), es0 _ (by rw [List.length_map]; show _ + 1 ≤ 10000; omega), fun e => ?_, (fun _ e => by cases e), fun e _ cc ob2 nc dc => ?_⟩
            · have er' : r = [] := by cases r with
                | nil => rfl
                | cons _ _ => cases e
              refine app _ _ sp ⟨p, rfl, .inr ⟨ob, ?_, dp⟩⟩
              rw [er', upd_same, Int.zero_add]
              rfl
            · refine app _ _ (sp.trans (same_upd nc)) ⟨cc, rfl, .inr ⟨ob2, ?_, dc⟩⟩
              rw [upd_same, List.map_append, Int.zero_add]
              rfl
          · have c' : (j : Int) ∈ r := by
              by_cases z : (j : Int) ∈ r
              · exact z
              · exact absurd (by simp [z]) c
            have eo : omore r j = [] := if_pos c'
            rw [eo, List.append_nil]
            exact ⟨s3, zs, hZ, kZ⟩
        · rintro G3 ⟨s3, zs, hZ, kZ⟩
          exact ⟨s3, zs, hZ, by rw [ostep_take er]; exact kZ⟩
      · rintro G2 ⟨s2, ys, hD, hY⟩
        rw [kO.len, List.take_length] at hY
        have nlD : l ≠ D := fun e => by rw [e, nD] at eL; cases eL
        have lY : ys.length ≤ 5 ^ (i + 1) := by rw [hY.len]; exact orders_len hm (i + 1)
        rw [Nat.pow_succ] at lY
        have lY2 : ys.length ≤ 3125 := by omega
        refine ⟨_, rfl, .inl ⟨rfl, _, SqL.of (s2 _ _ eL)⟩, _, rfl, D, rfl, ⟨_, SqL.of hD⟩, fun D2 nD2 => ?_⟩
        refine lc_list (xs := ys) (fun b G3 => Same G2 G3 ∧ ∃ zs, G3 D2 = some (.lst zs) ∧ TRs G3 zs (((orders m (i + 1)).take b).map (rankL m))) ⟨same_upd nD2, [], upd_same, trivial⟩ (fun b G3 _ h => SqL.of (h.1 _ _ hD)) ?_ ?_
        · rintro b x G3 hx ⟨s3, zs, hZ, kZ⟩
          obtain ⟨r, er, kr⟩ := hY.get hx
          have lt : b < ys.length := (List.getElem?_eq_some_iff.mp hx).1
          have kr3 := kr.same s3
          obtain ⟨tx, rfl, htx⟩ := kr
          have lz : zs.length ≤ 3125 := by
            have := kZ.len
            rw [List.length_map, List.length_take] at this
            omega
          refine ⟨rfl, ?_⟩
          unfold tYes
          refine iteT ⟨_, rfl, _, rfl, m, tx, r, rfl, hm, kr3.sq, kr3.ty, fun t3 G4 s4 n4 e4 => ?_⟩
          obtain ⟨a1, a2, a3, a4⟩ := grow nD2 s3 hZ kZ s4 ⟨t3, rfl, e4⟩
          refine ⟨zs, a1, by rw [sizeLine_eq]; omega, a2, _, a3, ?_⟩
          have er' : (orders m (i + 1))[b]? = some r := er
          rw [List.take_add_one, er', List.map_append]
          exact a4
        rintro G3 ⟨s3, zs, hZ, kZ⟩
        have kZ' : TRs G3 zs ((orders m (i + 1)).map (rankL m)) := by
          rw [hY.len] at kZ
          have e : (orders m (i + 1)).take (ostep m (orders m i)).length = orders m (i + 1) := List.take_length
          rw [e] at kZ
          exact kZ
        have lz : zs.length ≤ 3125 := by
          rw [kZ'.len, List.length_map]
          show (ostep m (orders m i)).length ≤ _
          rw [← hY.len]
          exact lY2
        have s23 := s2.trans s3
        refine ⟨l, D2, _, _, rfl, rfl, s23 _ _ eL, hZ, es0 _ (by omega), ?_⟩
        obtain ⟨b1, b2, b3⟩ := joined hl (sG.trans s23) (s23 _ _ eL) (kL.imp fun v r h => h.same s23) kZ'
        refine ⟨_, D, ys, l, _, rfl, b1, hl, fun e => nlD e.symm, b2, b3, ?_, ?_⟩
        · rw [upd_ne (fun e => nlD e.symm)]
          exact s3 _ _ hD
        · exact (hY.imp fun v r h => h.same s3).imp fun v r h => h.put (s23 _ _ eL)
    · rintro σ G ⟨x4, o, os, l, xs, rfl, sG, hl, ne, eL, kL, eO, kO⟩
      refine ⟨_, rfl, sorted_rows (SqL.of eL) kL h1 (rankRows0_row m) fun p zs np kz => ?_⟩
      exact q p zs _ (sG.trans (same_upd np)) (sG.free np) upd_same (kz.imp fun v r h => h.same (same_upd np))
end
end My

set_option Elab.async false
set_option linter.all false
set_option maxRecDepth 100000
namespace My
open PySem PySem.Spec PyProof.Rows L2
/-! the forms' texts -/
abbrev sOneStr : Stmt := inClass (topS 13) 4
theorem scOneStr : FnScope ["self"] ["self"] (defScope sOneStr) := ⟨rfl, rfl, rfl, by decide +kernel, rfl, by decide +kernel, by decide +kernel⟩
abbrev sTicksStr : Stmt := inClass (topS 14) 4
theorem scTicksStr : FnScope ["self"] ["self"] (defScope sTicksStr) := ⟨rfl, rfl, rfl, by decide +kernel, rfl, by decide +kernel, by decide +kernel⟩
abbrev sRanksStr : Stmt := inClass (topS 16) 4
theorem scRanksStr : FnScope ["self"] ["self"] (defScope sRanksStr) := ⟨rfl, rfl, rfl, by decide +kernel, rfl, by decide +kernel, by decide +kernel⟩
abbrev sPointsStr : Stmt := inClass (topS 15) 4
theorem scPointsStr : FnScope ["self"] ["self"] (defScope sPointsStr) := ⟨rfl, rfl, rfl, by decide +kernel, rfl, by decide +kernel, by decide +kernel⟩
abbrev sListsStr : Stmt := inClass (topS 17) 4
theorem scListsStr : FnScope ["self"] ["self"] (defScope sListsStr) := ⟨rfl, rfl, rfl, by decide +kernel, rfl, by decide +kernel, by decide +kernel⟩
section
variable {P : Program} {w : World} {K : PySem.W.Frag} {mg : Str → Option Value} {base : Heap}
def spStr0 (C : Addr) (w : Str) : Sp := fun vs H Q _ => ∃ a n, vs = [.ref a] ∧ FormAt H C a w n ∧ Q (.str w) H
/-- a word and a number behind it -/
def numbered (w : Str) (n : Int) : Str := ((Str.empty ++ w) ++ Str.ofString " ") ++ Str.ofString (toString n)
def spStr1 (C : Addr) (w : Str) : Sp := fun vs H Q _ => ∃ (a : Addr) (n : Nat), vs = [.ref a] ∧ FormAt H C a w n ∧ 1 ≤ n ∧ n ≤ 4 ∧ Q (.str (numbered w n)) H
theorem ok_one_str {C f : Addr} {fd : FuncData} {k : Nat} (F : Fun K "__str__" "One.__str__" sOneStr f fd) (T : Cls K C) (nN : NoAttr K C "word") : FnOk P w K mg base CX0 (k + 1) f fd ["self"] (spStr0 C "one") := by
  refine F.ok scOneStr (fun vs H Q E h => ?_) (fun cdv A outer s H vs Q E hr h => ?_)
  · obtain ⟨a, n, rfl, _⟩ := h
    rfl
  · obtain ⟨a, n, rfl, ⟨dx, ha⟩, q⟩ := h
    refine ⟨_, (pss_one (ps_ret (pe_joined1 (pe_fmt (pe_fld (pv 0) rfl))))), ?_⟩
    exact ⟨_, rfl, a, C, dx, _, _, rfl, ha, T, nN, rfl, .inl ⟨_, rfl, by decide +kernel, q⟩⟩
theorem ok_ticks_str {C f : Addr} {fd : FuncData} {k : Nat} (F : Fun K "__str__" "Ticks.__str__" sTicksStr f fd) (T : Cls K C) (nN : NoAttr K C "word") : FnOk P w K mg base CX0 (k + 1) f fd ["self"] (spStr0 C "ticks") := by
  refine F.ok scTicksStr (fun vs H Q E h => ?_) (fun cdv A outer s H vs Q E hr h => ?_)
  · obtain ⟨a, n, rfl, _⟩ := h
    rfl
  · obtain ⟨a, n, rfl, ⟨dx, ha⟩, q⟩ := h
    refine ⟨_, (pss_one (ps_ret (pe_joined1 (pe_fmt (pe_fld (pv 0) rfl))))), ?_⟩
    exact ⟨_, rfl, a, C, dx, _, _, rfl, ha, T, nN, rfl, .inl ⟨_, rfl, by decide +kernel, q⟩⟩
theorem ok_ranks_str {C f : Addr} {fd : FuncData} {k : Nat} (F : Fun K "__str__" "Ranks.__str__" sRanksStr f fd) (T : Cls K C) (nN : NoAttr K C "word") : FnOk P w K mg base CX0 (k + 1) f fd ["self"] (spStr0 C "ranks") := by
  refine F.ok scRanksStr (fun vs H Q E h => ?_) (fun cdv A outer s H vs Q E hr h => ?_)
  · obtain ⟨a, n, rfl, _⟩ := h
    rfl
  · obtain ⟨a, n, rfl, ⟨dx, ha⟩, q⟩ := h
    refine ⟨_, (pss_one (ps_ret (pe_joined1 (pe_fmt (pe_fld (pv 0) rfl))))), ?_⟩
    exact ⟨_, rfl, a, C, dx, _, _, rfl, ha, T, nN, rfl, .inl ⟨_, rfl, by decide +kernel, q⟩⟩
theorem ok_points_str {C f : Addr} {fd : FuncData} {k : Nat} (F : Fun K "__str__" "Points.__str__" sPointsStr f fd) (T : Cls K C) (nN : NoAttr K C "word") (nM : NoAttr K C "number") : FnOk P w K mg base CX0 (k + 1) f fd ["self"] (spStr1 C "points") := by
  refine F.ok scPointsStr (fun vs H Q E h => ?_) (fun cdv A outer s H vs Q E hr h => ?_)
  · obtain ⟨a, n, rfl, _⟩ := h
    rfl
  · obtain ⟨a, n, rfl, ⟨dx, ha⟩, h1, h4, q⟩ := h
    refine ⟨_, (pss_one (ps_ret (pe_joined (PJ.cons (pe_fmt (pe_fld (pv 0) rfl)) (PJ.cons pe_str (PJ.cons (pe_fmt (pe_fld (pv 0) rfl)) PJ.nil)))))), ?_⟩
    refine ⟨_, rfl, a, C, dx, _, _, rfl, ha, T, nN, rfl, .inl ⟨_, rfl, by decide +kernel, _, rfl, by decide +kernel, _, rfl, by decide +kernel, _, rfl, a, C, dx, _, _, rfl, ha, T, nM, rfl, .inr ⟨n, rfl, ?_, _, rfl, ?_, q⟩⟩⟩
    · have : n = 1 ∨ n = 2 ∨ n = 3 ∨ n = 4 := by omega
      rcases this with rfl | rfl | rfl | rfl <;> decide
    · have : n = 1 ∨ n = 2 ∨ n = 3 ∨ n = 4 := by omega
      rcases this with rfl | rfl | rfl | rfl <;> decide +kernel
theorem ok_lists_str {C f : Addr} {fd : FuncData} {k : Nat} (F : Fun K "__str__" "Lists.__str__" sListsStr f fd) (T : Cls K C) (nN : NoAttr K C "word") (nM : NoAttr K C "number") : FnOk P w K mg base CX0 (k + 1) f fd ["self"] (spStr1 C "lists") := by
  refine F.ok scListsStr (fun vs H Q E h => ?_) (fun cdv A outer s H vs Q E hr h => ?_)
  · obtain ⟨a, n, rfl, _⟩ := h
    rfl
  · obtain ⟨a, n, rfl, ⟨dx, ha⟩, h1, h4, q⟩ := h
    refine ⟨_, (pss_one (ps_ret (pe_joined (PJ.cons (pe_fmt (pe_fld (pv 0) rfl)) (PJ.cons pe_str (PJ.cons (pe_fmt (pe_fld (pv 0) rfl)) PJ.nil)))))), ?_⟩
    refine ⟨_, rfl, a, C, dx, _, _, rfl, ha, T, nN, rfl, .inl ⟨_, rfl, by decide +kernel, _, rfl, by decide +kernel, _, rfl, by decide +kernel, _, rfl, a, C, dx, _, _, rfl, ha, T, nM, rfl, .inr ⟨n, rfl, ?_, _, rfl, ?_, q⟩⟩⟩
    · have : n = 1 ∨ n = 2 ∨ n = 3 ∨ n = 4 := by omega
      rcases this with rfl | rfl | rfl | rfl <;> decide
    · have : n = 1 ∨ n = 2 ∨ n = 3 ∨ n = 4 := by omega
      rcases this with rfl | rfl | rfl | rfl <;> decide +kernel
end
end My

set_option Elab.async false
set_option linter.all false
set_option maxRecDepth 100000
namespace My
open PySem PySem.Spec PyProof.Rows L2
/-! the forms' == -/
abbrev sOneEq : Stmt := inClass (topS 13) 5
theorem scOneEq : FnScope ["self", "other"] ["self", "other"] (defScope sOneEq) := ⟨rfl, rfl, rfl, by decide +kernel, rfl, by decide +kernel, by decide +kernel⟩
abbrev sTicksEq : Stmt := inClass (topS 14) 5
theorem scTicksEq : FnScope ["self", "other"] ["self", "other"] (defScope sTicksEq) := ⟨rfl, rfl, rfl, by decide +kernel, rfl, by decide +kernel, by decide +kernel⟩
abbrev sPointsEq : Stmt := inClass (topS 15) 5
theorem scPointsEq : FnScope ["self", "other"] ["self", "other"] (defScope sPointsEq) := ⟨rfl, rfl, rfl, by decide +kernel, rfl, by decide +kernel, by decide +kernel⟩
abbrev sRanksEq : Stmt := inClass (topS 16) 5
theorem scRanksEq : FnScope ["self", "other"] ["self", "other"] (defScope sRanksEq) := ⟨rfl, rfl, rfl, by decide +kernel, rfl, by decide +kernel, by decide +kernel⟩
abbrev sListsEq : Stmt := inClass (topS 17) 5
theorem scListsEq : FnScope ["self", "other"] ["self", "other"] (defScope sListsEq) := ⟨rfl, rfl, rfl, by decide +kernel, rfl, by decide +kernel, by decide +kernel⟩
structure FmT (K : PySem.W.Frag) (C : Addr) : Prop where
  cl : Cls K C
  nW : NoAttr K C "word"
  nN : NoAttr K C "number"
  ha : PySem.W.findIn K (.ref C) "__class__" = some (some (.builtin "object.__class__"))
  hn : PySem.W.specialIn K (.builtin "object.__class__") "__get__" = some (some (.builtin "getset_descriptor.__get__"))
  htk : PySem.W.takesIn K (.builtin "object.__class__") = some true
  hm : PySem.W.mroIn K C (.type "object") = some true
theorem kit_same {K : PySem.W.Frag} {C : Addr} : PySem.W.kitOne K (.ref C) (.ref C) = some true := by
  unfold PySem.W.kitOne
  exact if_pos (beq_self_eq_true _)
theorem FmT.ty {K : PySem.W.Frag} {C : Addr} (T : FmT K C) {H : Hp} {a : Addr} {dx : Addr} {fs : List (Str × V)} (h : H a = some (.ins C dx fs)) : TyX K H (.ref a) (.ref C) := .base (.ins h T.cl T.ha T.hn T.htk T.hm)
def spEqF (K : PySem.W.Frag) (C : Addr) (w : Str) : Sp := fun vs H Q _ => ∃ (a : Addr) (v : V) (n : Int), vs = [.ref a, v] ∧ FormAt H C a w n ∧
  ((∃ b n', v = .ref b ∧ FormAt H C b w n' ∧ Q (.bl (decide (n = n'))) H) ∨ ∃ tv, TyX K H v tv ∧ PySem.W.kitOne K tv (.ref C) = some false ∧ Q (.bl false) H)
section
variable {P : Program} {w : World} {K : PySem.W.Frag} {mg : Str → Option Value} {base : Heap}
theorem ok_one_eq {C f : Addr} {fd : FuncData} {k : Nat} (F : Fun K "__eq__" "One.__eq__" sOneEq f fd) (T : FmT K C) (g_C : mg "One" = some (.ref C)) (b_isinstance : mg "isinstance" = none) : FnOk P w K mg base CX0 (k + 1) f fd ["self", "other"] (spEqF K C "one") := by
  refine F.ok scOneEq (fun vs H Q E h => ?_) (fun cdv A outer s H vs Q E hr h => ?_)
  · obtain ⟨a, v, n, rfl, _⟩ := h
    rfl
  · obtain ⟨a, v, n, rfl, ⟨dx, ha⟩, q⟩ := h
    refine ⟨_, (pss_one (ps_ret (pe_and (pe_callB call_isi rfl b_isinstance (by decide +kernel) (pa_cons (pv 1) (pa_cons (pe_glob (v := .ref C) rfl g_C rfl) pa_nil))) (pe_and (pe_cmpR op_eq (pe_fld (pv 0) rfl) (pe_fld (pv 1) rfl) rfl) (pe_one (pe_cmpR op_eq (pe_fld (pv 0) rfl) (pe_fld (pv 1) rfl) rfl)))))), ?_⟩
    rcases q with ⟨b, n', rfl, ⟨dy, hb⟩, q⟩ | ⟨tv, ty, kk, q⟩
    · refine ⟨_, rfl, _, _, _, _, _, rfl, .own C, T.ty hb, kit_same, _, rfl, iteT ?_⟩
      refine ⟨_, rfl, a, C, dx, _, _, rfl, ha, T.cl, T.nW, rfl, _, rfl, b, C, dy, _, _, rfl, hb, T.cl, T.nW, rfl, ?_⟩
      refine ⟨rfl, ?_⟩
      rw [decide_eq_true rfl]
      refine ⟨_, rfl, iteT ?_⟩
      refine ⟨_, rfl, a, C, dx, _, _, rfl, ha, T.cl, T.nN, rfl, _, rfl, b, C, dy, _, _, rfl, hb, T.cl, T.nN, rfl, rfl, ?_⟩
      have e : decide (V.int n = V.int n') = decide (n = n') := by
        by_cases c : n = n'
        · rw [c, decide_eq_true rfl, decide_eq_true rfl]
        · rw [decide_eq_false c, decide_eq_false (fun z => c (V.int.inj z))]
      rw [e]
      exact q
    · exact ⟨_, rfl, _, _, _, _, _, rfl, .own C, ty, kk, _, rfl, iteF q⟩
theorem ok_ticks_eq {C f : Addr} {fd : FuncData} {k : Nat} (F : Fun K "__eq__" "Ticks.__eq__" sTicksEq f fd) (T : FmT K C) (g_C : mg "Ticks" = some (.ref C)) (b_isinstance : mg "isinstance" = none) : FnOk P w K mg base CX0 (k + 1) f fd ["self", "other"] (spEqF K C "ticks") := by
  refine F.ok scTicksEq (fun vs H Q E h => ?_) (fun cdv A outer s H vs Q E hr h => ?_)
  · obtain ⟨a, v, n, rfl, _⟩ := h
    rfl
  · obtain ⟨a, v, n, rfl, ⟨dx, ha⟩, q⟩ := h
    refine ⟨_, (pss_one (ps_ret (pe_and (pe_callB call_isi rfl b_isinstance (by decide +kernel) (pa_cons (pv 1) (pa_cons (pe_glob (v := .ref C) rfl g_C rfl) pa_nil))) (pe_and (pe_cmpR op_eq (pe_fld (pv 0) rfl) (pe_fld (pv 1) rfl) rfl) (pe_one (pe_cmpR op_eq (pe_fld (pv 0) rfl) (pe_fld (pv 1) rfl) rfl)))))), ?_⟩
    rcases q with ⟨b, n', rfl, ⟨dy, hb⟩, q⟩ | ⟨tv, ty, kk, q⟩
    · refine ⟨_, rfl, _, _, _, _, _, rfl, .own C, T.ty hb, kit_same, _, rfl, iteT ?_⟩
      refine ⟨_, rfl, a, C, dx, _, _, rfl, ha, T.cl, T.nW, rfl, _, rfl, b, C, dy, _, _, rfl, hb, T.cl, T.nW, rfl, ?_⟩
      refine ⟨rfl, ?_⟩
      rw [decide_eq_true rfl]
      refine ⟨_, rfl, iteT ?_⟩
      refine ⟨_, rfl, a, C, dx, _, _, rfl, ha, T.cl, T.nN, rfl, _, rfl, b, C, dy, _, _, rfl, hb, T.cl, T.nN, rfl, rfl, ?_⟩
      have e : decide (V.int n = V.int n') = decide (n = n') := by
        by_cases c : n = n'
        · rw [c, decide_eq_true rfl, decide_eq_true rfl]
        · rw [decide_eq_false c, decide_eq_false (fun z => c (V.int.inj z))]
      rw [e]
      exact q
    · exact ⟨_, rfl, _, _, _, _, _, rfl, .own C, ty, kk, _, rfl, iteF q⟩
theorem ok_points_eq {C f : Addr} {fd : FuncData} {k : Nat} (F : Fun K "__eq__" "Points.__eq__" sPointsEq f fd) (T : FmT K C) (g_C : mg "Points" = some (.ref C)) (b_isinstance : mg "isinstance" = none) : FnOk P w K mg base CX0 (k + 1) f fd ["self", "other"] (spEqF K C "points") := by
  refine F.ok scPointsEq (fun vs H Q E h => ?_) (fun cdv A outer s H vs Q E hr h => ?_)
  · obtain ⟨a, v, n, rfl, _⟩ := h
    rfl
  · obtain ⟨a, v, n, rfl, ⟨dx, ha⟩, q⟩ := h
    refine ⟨_, (pss_one (ps_ret (pe_and (pe_callB call_isi rfl b_isinstance (by decide +kernel) (pa_cons (pv 1) (pa_cons (pe_glob (v := .ref C) rfl g_C rfl) pa_nil))) (pe_and (pe_cmpR op_eq (pe_fld (pv 0) rfl) (pe_fld (pv 1) rfl) rfl) (pe_one (pe_cmpR op_eq (pe_fld (pv 0) rfl) (pe_fld (pv 1) rfl) rfl)))))), ?_⟩
    rcases q with ⟨b, n', rfl, ⟨dy, hb⟩, q⟩ | ⟨tv, ty, kk, q⟩
    · refine ⟨_, rfl, _, _, _, _, _, rfl, .own C, T.ty hb, kit_same, _, rfl, iteT ?_⟩
      refine ⟨_, rfl, a, C, dx, _, _, rfl, ha, T.cl, T.nW, rfl, _, rfl, b, C, dy, _, _, rfl, hb, T.cl, T.nW, rfl, ?_⟩
      refine ⟨rfl, ?_⟩
      rw [decide_eq_true rfl]
      refine ⟨_, rfl, iteT ?_⟩
      refine ⟨_, rfl, a, C, dx, _, _, rfl, ha, T.cl, T.nN, rfl, _, rfl, b, C, dy, _, _, rfl, hb, T.cl, T.nN, rfl, rfl, ?_⟩
      have e : decide (V.int n = V.int n') = decide (n = n') := by
        by_cases c : n = n'
        · rw [c, decide_eq_true rfl, decide_eq_true rfl]
        · rw [decide_eq_false c, decide_eq_false (fun z => c (V.int.inj z))]
      rw [e]
      exact q
    · exact ⟨_, rfl, _, _, _, _, _, rfl, .own C, ty, kk, _, rfl, iteF q⟩
theorem ok_ranks_eq {C f : Addr} {fd : FuncData} {k : Nat} (F : Fun K "__eq__" "Ranks.__eq__" sRanksEq f fd) (T : FmT K C) (g_C : mg "Ranks" = some (.ref C)) (b_isinstance : mg "isinstance" = none) : FnOk P w K mg base CX0 (k + 1) f fd ["self", "other"] (spEqF K C "ranks") := by
  refine F.ok scRanksEq (fun vs H Q E h => ?_) (fun cdv A outer s H vs Q E hr h => ?_)
  · obtain ⟨a, v, n, rfl, _⟩ := h
    rfl
  · obtain ⟨a, v, n, rfl, ⟨dx, ha⟩, q⟩ := h
    refine ⟨_, (pss_one (ps_ret (pe_and (pe_callB call_isi rfl b_isinstance (by decide +kernel) (pa_cons (pv 1) (pa_cons (pe_glob (v := .ref C) rfl g_C rfl) pa_nil))) (pe_and (pe_cmpR op_eq (pe_fld (pv 0) rfl) (pe_fld (pv 1) rfl) rfl) (pe_one (pe_cmpR op_eq (pe_fld (pv 0) rfl) (pe_fld (pv 1) rfl) rfl)))))), ?_⟩
    rcases q with ⟨b, n', rfl, ⟨dy, hb⟩, q⟩ | ⟨tv, ty, kk, q⟩
    · refine ⟨_, rfl, _, _, _, _, _, rfl, .own C, T.ty hb, kit_same, _, rfl, iteT ?_⟩
      refine ⟨_, rfl, a, C, dx, _, _, rfl, ha, T.cl, T.nW, rfl, _, rfl, b, C, dy, _, _, rfl, hb, T.cl, T.nW, rfl, ?_⟩
      refine ⟨rfl, ?_⟩
      rw [decide_eq_true rfl]
      refine ⟨_, rfl, iteT ?_⟩
      refine ⟨_, rfl, a, C, dx, _, _, rfl, ha, T.cl, T.nN, rfl, _, rfl, b, C, dy, _, _, rfl, hb, T.cl, T.nN, rfl, rfl, ?_⟩
      have e : decide (V.int n = V.int n') = decide (n = n') := by
        by_cases c : n = n'
        · rw [c, decide_eq_true rfl, decide_eq_true rfl]
        · rw [decide_eq_false c, decide_eq_false (fun z => c (V.int.inj z))]
      rw [e]
      exact q
    · exact ⟨_, rfl, _, _, _, _, _, rfl, .own C, ty, kk, _, rfl, iteF q⟩
theorem ok_lists_eq {C f : Addr} {fd : FuncData} {k : Nat} (F : Fun K "__eq__" "Lists.__eq__" sListsEq f fd) (T : FmT K C) (g_C : mg "Lists" = some (.ref C)) (b_isinstance : mg "isinstance" = none) : FnOk P w K mg base CX0 (k + 1) f fd ["self", "other"] (spEqF K C "lists") := by
  refine F.ok scListsEq (fun vs H Q E h => ?_) (fun cdv A outer s H vs Q E hr h => ?_)
  · obtain ⟨a, v, n, rfl, _⟩ := h
    rfl
  · obtain ⟨a, v, n, rfl, ⟨dx, ha⟩, q⟩ := h
    refine ⟨_, (pss_one (ps_ret (pe_and (pe_callB call_isi rfl b_isinstance (by decide +kernel) (pa_cons (pv 1) (pa_cons (pe_glob (v := .ref C) rfl g_C rfl) pa_nil))) (pe_and (pe_cmpR op_eq (pe_fld (pv 0) rfl) (pe_fld (pv 1) rfl) rfl) (pe_one (pe_cmpR op_eq (pe_fld (pv 0) rfl) (pe_fld (pv 1) rfl) rfl)))))), ?_⟩
    rcases q with ⟨b, n', rfl, ⟨dy, hb⟩, q⟩ | ⟨tv, ty, kk, q⟩
    · refine ⟨_, rfl, _, _, _, _, _, rfl, .own C, T.ty hb, kit_same, _, rfl, iteT ?_⟩
      refine ⟨_, rfl, a, C, dx, _, _, rfl, ha, T.cl, T.nW, rfl, _, rfl, b, C, dy, _, _, rfl, hb, T.cl, T.nW, rfl, ?_⟩
      refine ⟨rfl, ?_⟩
      rw [decide_eq_true rfl]
      refine ⟨_, rfl, iteT ?_⟩
      refine ⟨_, rfl, a, C, dx, _, _, rfl, ha, T.cl, T.nN, rfl, _, rfl, b, C, dy, _, _, rfl, hb, T.cl, T.nN, rfl, rfl, ?_⟩
      have e : decide (V.int n = V.int n') = decide (n = n') := by
        by_cases c : n = n'
        · rw [c, decide_eq_true rfl, decide_eq_true rfl]
        · rw [decide_eq_false c, decide_eq_false (fun z => c (V.int.inj z))]
      rw [e]
      exact q
    · exact ⟨_, rfl, _, _, _, _, _, rfl, .own C, ty, kk, _, rfl, iteF q⟩
end
end My

set_option Elab.async false
set_option linter.all false
set_option maxRecDepth 100000
namespace My
open PySem PySem.Spec PyProof.Rows L2
/-! the text of a shape -/
abbrev sLawFormText : Stmt := topS 35
theorem scLawFormText : FnScope ["shape"] ["shape"] (defScope sLawFormText) := ⟨rfl, rfl, rfl, by decide +kernel, rfl, by decide +kernel, by decide +kernel⟩
def shapeText (w : Str) (n : Int) : Str := if 0 < n then (w ++ Str.ofString " ") ++ Str.ofString (toString n) else w
def spFtext (K : PySem.W.Frag) : Sp := fun vs H Q _ => ∃ (p : Addr) (w : Str) (n : Nat), vs = [.ref p] ∧ SqT K H p [.str w, .int n] ∧ n ≤ 4 ∧ w.length ≤ 10 ∧ Q (.str (shapeText w n)) H
section
variable {P : Program} {w : World} {K : PySem.W.Frag} {mg : Str → Option Value} {base : Heap}
theorem ok_ftext {f : Addr} {fd : FuncData} {k : Nat} (F : Fun K "_law_form_text" "_law_form_text" sLawFormText f fd) (b_str : mg "str" = none) : FnOk P w K mg base CX0 (k + 1) f fd ["shape"] (spFtext K) := by
  refine F.ok scLawFormText (fun vs H Q E h => ?_) (fun cdv A outer s H vs Q E hr h => ?_)
  · obtain ⟨p, w, n, rfl, _⟩ := h
    rfl
  · obtain ⟨p, w, n, rfl, hp, hn, hw, q⟩ := h
    refine ⟨_, (pss_one (ps_ret (pe_ifExp (pt_cmpR op_gt (pe_ix ix_tup (pv 0) pe_int (fun _ _ => rfl)) pe_int rfl) (pe_op op_add_str (pe_op op_add_str (pe_ix ix_tup (pv 0) pe_int (fun _ _ => rfl)) pe_str) (pe_callTy call_str_int rfl b_str (by decide +kernel) (pa_cons (pe_ix ix_tup (pv 0) pe_int (fun _ _ => rfl)) pa_nil))) (pe_ix ix_tup (pv 0) pe_int (fun _ _ => rfl))))), ?_⟩
    have i0 : atI [V.str w, V.int n] 0 = some (.str w) := rfl
    have i1 : atI [V.str w, V.int n] 1 = some (.int n) := rfl
    have big : (1000 : Nat) ≤ sizeLine := by rw [sizeLine_eq]; omega
    refine ⟨_, rfl, p, _, 1, _, rfl, rfl, hp, i1, n, 0, rfl, rfl, _, rfl, ?_⟩
    unfold shapeText at q
    refine ite2 (fun c => ?_) (fun c => ?_)
    · rw [if_pos (of_decide_eq_true c)] at q
      have n4 : n = 1 ∨ n = 2 ∨ n = 3 ∨ n = 4 := by
        have := of_decide_eq_true c
        omega
      have ls : (Str.ofString " ").length = 1 := by decide +kernel
      have la : (w ++ Str.ofString " ").length = w.length + 1 := by
        show (w.cps ++ (Str.ofString " ").cps).size = _
        rw [Array.size_append]
        exact congrArg (w.length + ·) ls
      have lt : (Str.ofString (toString (n : Int))).length ≤ 1 := by rcases n4 with rfl | rfl | rfl | rfl <;> decide +kernel
      refine ⟨_, rfl, p, _, 0, _, rfl, rfl, hp, i0, w, Str.ofString " ", rfl, rfl, by omega, _, rfl, p, _, 1, _, rfl, rfl, hp, i1, n, rfl, ?_, _, _, rfl, rfl, by omega, q⟩
      rcases n4 with rfl | rfl | rfl | rfl <;> decide
    · rw [if_neg (fun z => c (decide_eq_true z))] at q
      exact ⟨_, rfl, p, _, 0, _, rfl, rfl, hp, i0, q⟩
end
end My

set_option Elab.async false
set_option linter.all false
set_option maxRecDepth 100000
namespace My
open PySem PySem.Spec PyProof.Rows L2
/-! one of several rules; a text beside an own object -/
theorem pe_any {X : Cx} {e : Expr} {ι : Type} {t : ι → TE} (h : ∀ i, PE X e (t i)) : PE X e (fun σ H Q => ∃ i, t i σ H Q) := ⟨fun pins s σ H Q I ⟨i, q⟩ => (h i).run pins s σ H Q I q⟩
theorem op_any {X : Cx} {f : Value → Value → Sem Value} {ι : Type} {r : ι → R2} (h : ∀ i, OpR X f (r i)) : OpR X f (fun x y H Q => ∃ i, r i x y H Q) := fun pins s σ H x y u v Q I rx ry ⟨i, q⟩ => h i pins s σ H x y u v Q I rx ry q
theorem call_any {X : Cx} {f : Value} {ι : Type} {r : ι → List V → Hp → VK → Prop} (h : ∀ i, CallR X f (r i)) : CallR X f (fun xs H Q => ∃ i, r i xs H Q) := fun pins s σ H xs us Q I r0 ⟨i, q⟩ => h i pins s σ H xs us Q I r0 q
theorem op_or {X : Cx} {f : Value → Value → Sem Value} {r r' : R2} (h : OpR X f r) (h' : OpR X f r') : OpR X f (fun x y H Q => r x y H Q ∨ r' x y H Q) := fun pins s σ H x y u v Q I rx ry q => q.elim (fun q => h pins s σ H x y u v Q I rx ry q) fun q => h' pins s σ H x y u v Q I rx ry q
theorem ifT {c : Bool} {p q : Prop} (h : c = true) (x : p) : if c = true then p else q := by rw [if_pos h]; exact x
theorem ifF {c : Bool} {p q : Prop} (h : c = false) (x : q) : if c = true then p else q := by rw [if_neg (by rw [h]; exact Bool.false_ne_true)]; exact x
theorem str_eq_ins (b : Str) (u : Tok) (l : Addr) (c : Value) (dd : Option Addr) (sl : Array (Option Value)) :
    Meets (Builtin.«str.__eq__» ⟨[.str b u, .ref l], []⟩) (fun _ R s => s.heap.get? l = some { cls := c, dict := dd, data := .plain, slots := sl } ∧ R (.ok (.ret .notImplemented)) s) :=
  .of_wp fun prog w A R s h => by obtain ⟨hp, g, d, tk, os⟩ := s; obtain ⟨hl, h⟩ := h; wp_walk using wpAny_loadPart' hl, wpAny_load hl; exact ⟨_, rfl, h⟩
section
variable {prog : Program} {w : World} {A : Around} {E : Value → Shared → Prop} {s : Shared} {K : PySem.W.Frag} {x C f : Addr} {ox : Obj} {od : Option Obj} {b : Str} {t : Tok}
theorem rc_str_ins {Q : Value → Shared → Prop} (hu : A.units < cLine) (X : K.In s.heap) (J : PySem.W.InstAt s.heap x ox C od) (hd : ox.data = .plain) (hsub : PySem.W.subIn K (.ref C) (.type "str") = some false)
    (hs : PySem.W.findIn K (.ref C) "__eq__" = some (some (.ref f))) (hf : PySem.W.isFn K (.ref f) = true)
    (h : wpAny (model prog w) A (call (.ref f) [.ref x, .str b t]) (PySem.W.CmpBack Q) E s) : wpAny (model prog w) A (richCompare .Eq (.str b t) (.ref x)) Q E s := by
  have one : wpAny (model prog w) A (tryCompare (.ref x) "__eq__" (.str b t)) (fun r s' => ∃ v, r = some v ∧ Q v s') E s := by
    unfold tryCompare
    refine wpAny_bind (PySem.W.ifBound_K X J hs hf (wpAny_mono h (fun v s' hv => ?_) fun _ _ e => e))
    cases v <;> first | exact hv.elim | exact wpAny_pure ⟨_, rfl, hv⟩
  have ha : s.TypeIs (.str b t) "str" := typeIs_str s b t
  simp only [richCompare, ha.oneThing_none]
  refine wpAny_holding ?_
  refine wpAny_bind (wpAny_cRoomFor_or (.inr hu) ?_)
  refine wpAny_bind (wpAny_typeOf ha (wpAny_bind (J.type.here ?_)))
  have ne : (Value.type "str" != Value.ref C) = true := rfl
  simp only [ne, if_true]
  refine wpAny_bind ((PySem.W.looks_subIn X hsub).here ?_)
  simp only [Bool.false_eq_true, if_false, Bool.not_false, if_true]
  obtain ⟨cl, dt, da, sl⟩ := ox
  simp only at hd
  subst hd
  refine wpAny_bind (wpAny_tryCompare_declines ha F.slot_str_eq (call_meets F.slot_str_eq ha F.entry_str_eq (F.args_str_eq_2 _ _) (str_eq_ins _ _ _ _ _ _) ⟨J.1, rfl, ?_⟩))
  refine wpAny_bind (wpAny_mono one (fun r s' z => ?_) fun _ _ e => e)
  obtain ⟨v, rfl, hq⟩ := z
  exact wpAny_pure hq
end
section
variable {X : Cx}
def rEqTI (C : Addr) (sp : Sp) : R2 := fun x y H Q => ∃ z a dx fs, x = .str z ∧ y = .ref a ∧ H a = some (.ins C dx fs) ∧ sp [y, x] H Q E0
/-- a text beside an object with an own __eq__ -/
theorem op_eqTI {C f : Addr} {fd : FuncData} {ps : List Str} {n : Nat} {sp : Sp} (F : FnOk X.prog X.w X.K X.mg X.base CX0 n f fd ps sp) (ss : PySem.W.subIn X.K (.ref C) (.type "str") = some false)
    (hs : PySem.W.findIn X.K (.ref C) "__eq__" = some (some (.ref f))) (hf : PySem.W.isFn X.K (.ref f) = true) (hb : Binds X.K fd ps []) (hr : Room n X.A) : OpR X (compareOp .Eq) (rEqTI C sp) := by
  intro pins s σ H x y u v Q I rx ry d
  obtain ⟨z, a, dx, fs, rfl, rfl, ha, hsp⟩ := d
  cases ry
  obtain ⟨t, rfl⟩ := rx
  show wpAny (model X.prog X.w) X.A (richCompare .Eq (.str z t) (.ref a)) (EP X pins σ Q) X.xe s
  obtain ⟨mA, J, _⟩ := ins_get I.hok ha
  obtain ⟨od, J, _⟩ := J.look
  refine rc_str_ins hr.units0 I.kIn J rfl ss hs hf ?_
  have hl := F.len _ _ _ _ hsp
  have r2 : Vals [V.ref a, V.str z] [Value.ref a, Value.str z t] := .cons rfl (.cons ⟨t, rfl⟩ .nil)
  refine wpAny_call (codeAny_mono (F.run X.A X.stack s H ⟨[.ref a, .str z t], []⟩ [.ref a, .str z t] [.ref a, .str z] _ E0 hr I.env0 (by
    have := hb s [.ref a, .str z t] I.kIn (by simpa using hl)
    simpa using this) r2 hsp) fun r s' hq => ?_)
  cases r with
  | error e => exact (show False from hq).elim
  | ok fl =>
    cases fl with
    | ret w =>
      obtain ⟨v, H', I', rv, q⟩ := I.after hq
      show PySem.W.CmpBack (EP X pins σ Q) w s'
      have g : EP X pins σ Q w s' := ⟨v, H', I', rv, q⟩
      cases v with
      | non => cases rv; exact g
      | bl b => cases rv; exact g
      | int i => obtain ⟨t, rfl⟩ := rv; exact g
      | str i => obtain ⟨t, rfl⟩ := rv; exact g
      | byt i => obtain ⟨t, rfl⟩ := rv; exact g
      | flt i => obtain ⟨t, rfl⟩ := rv; exact g
      | ref i => cases rv; exact g
      | ty i => cases rv; exact g
    | next => exact False.elim hq
    | brk => exact False.elim hq
    | cont => exact False.elim hq
/-- str(x) by an own __str__ -/
def rStrOwn (C : Addr) (sp : Sp) : List V → Hp → VK → Prop := fun xs H Q => ∃ a dx fs, xs = [.ref a] ∧ H a = some (.ins C dx fs) ∧ sp [.ref a] H (fun v H' => ∃ z, v = .str z ∧ Q (.str z) H') E0
theorem call_strOwn {C f : Addr} {fd : FuncData} {ps : List Str} {n : Nat} {sp : Sp} (F : FnOk X.prog X.w X.K X.mg X.base CX0 n f fd ps sp)
    (hs : PySem.W.findIn X.K (.ref C) "__str__" = some (some (.ref f))) (hf : PySem.W.isFn X.K (.ref f) = true) (hb : Binds X.K fd ps []) (hr : Room (n + 2) X.A) : CallR X (.type "str") (rStrOwn C sp) := by
  intro pins s σ H xs us Q I r h
  obtain ⟨a, dx, fs, rfl, ha, hsp⟩ := h
  obtain ⟨u, rfl, ru⟩ := vals1 r
  cases ru
  obtain ⟨mA, J, _⟩ := ins_get I.hok ha
  obtain ⟨od, J, _⟩ := J.look
  have hr2 : Room n X.A.in1.in1 := hr.in1.in1
  refine PySem.W.kso_call hr2.units0 I.kIn J hs hf ?_
  have hl := F.len _ _ _ _ hsp
  have r2 : Vals [V.ref a] [Value.ref a] := .cons rfl .nil
  refine wpAny_call (codeAny_mono (F.run X.A.in1.in1 X.stack s H ⟨[.ref a], []⟩ [.ref a] [.ref a] _ E0 hr2 I.env0.in1.in1 (by
    have := hb s [.ref a] I.kIn (by simpa using hl)
    simpa using this) r2 hsp) fun r s' hq => ?_)
  cases r with
  | error e => exact (show False from hq).elim
  | ok fl =>
    cases fl with
    | ret w =>
      obtain ⟨v, H', I', rv, z, rfl, q⟩ := I.after hq
      obtain ⟨t, rfl⟩ := rv
      exact ⟨.str z, H', I', ⟨t, rfl⟩, q⟩
    | _ => exact (show False from hq).elim
def rEqAny (K : PySem.W.Frag) (C : Addr) (sp : Sp) : R2 := fun x y H Q => ∃ a dx fs tv, x = .ref a ∧ H a = some (.ins C dx fs) ∧ TyX K H y tv ∧ PySem.W.notFirst K C tv = true ∧ sp [x, y] H Q E0
theorem op_eqAny {C f : Addr} {fd : FuncData} {ps : List Str} {n : Nat} {sp : Sp} (F : FnOk X.prog X.w X.K X.mg X.base CX0 n f fd ps sp)
    (hs : PySem.W.findIn X.K (.ref C) "__eq__" = some (some (.ref f))) (hf : PySem.W.isFn X.K (.ref f) = true) (hb : Binds X.K fd ps []) (hr : Room n X.A) : OpR X (compareOp .Eq) (rEqAny X.K C sp) := by
  intro pins s σ H x y u v Q I rx ry d
  obtain ⟨a, dx, fs, tv, rfl, ha, ty, hn, hsp⟩ := d
  cases rx
  show wpAny (model X.prog X.w) X.A (richCompare .Eq (.ref a) v) (EP X pins σ Q) X.xe s
  obtain ⟨mA, J, _⟩ := ins_get I.hok ha
  obtain ⟨od, J, _⟩ := J.look
  obtain ⟨P, Z, p, _⟩ := kit_of I ry ty
  obtain ⟨m, hF⟩ := I.fr
  refine PySem.W.cmp_K (op := .Eq) hr.units0 hF I.ok.mod.kin J (Z.ty _ _ I.kIn p) hn hs hf ?_
  have hl := F.len _ _ _ _ hsp
  have r2 : Vals [V.ref a, y] [Value.ref a, v] := .cons rfl (.cons ry .nil)
  refine wpAny_call (codeAny_mono (F.run X.A X.stack s H ⟨[.ref a, v], []⟩ [.ref a, v] [.ref a, y] _ E0 hr I.env0 (by
    have := hb s [.ref a, v] I.kIn (by simpa using hl)
    simpa using this) r2 hsp) fun r s' hq => ?_)
  cases r with
  | error e => exact (show False from hq).elim
  | ok fl =>
    cases fl with
    | ret w =>
      obtain ⟨v, H', I', rv, q⟩ := I.after hq
      show PySem.W.CmpBack (EP X pins σ Q) w s'
      have g : EP X pins σ Q w s' := ⟨v, H', I', rv, q⟩
      cases v with
      | non => cases rv; exact g
      | bl b => cases rv; exact g
      | int i => obtain ⟨t, rfl⟩ := rv; exact g
      | str i => obtain ⟨t, rfl⟩ := rv; exact g
      | byt i => obtain ⟨t, rfl⟩ := rv; exact g
      | flt i => obtain ⟨t, rfl⟩ := rv; exact g
      | ref i => cases rv; exact g
      | ty i => cases rv; exact g
    | next => exact False.elim hq
    | brk => exact False.elim hq
    | cont => exact False.elim hq
/-- a text beside a list or a tuple -/
def rEqTS (K : PySem.W.Frag) : R2 := fun x y H Q => ∃ z a xs, x = .str z ∧ y = .ref a ∧ (SqL K H a xs ∨ SqT K H a xs) ∧ Q (.bl false) H
theorem op_eqTS (hu : X.A.units < cLine) : OpR X (compareOp .Eq) (rEqTS X.K) := by
  intro pins s σ H x y u v Q I rx ry d
  obtain ⟨z, a, xs, rfl, rfl, hs, q⟩ := d
  cases ry
  obtain ⟨t, rfl⟩ := rx
  show wpAny (model X.prog X.w) X.A (richCompare .Eq (.str z t) (.ref a)) (EP X pins σ Q) X.xe s
  rcases hs with hs | hs
  · obtain ⟨its, r, pl, hz⟩ := I.list hs
    exact SeqAt.RcAt.str_list z t pl.isList hu _ _ _ _ ⟨.bl false, H, I, rfl, q⟩
  · obtain ⟨its, r, pl, hz⟩ := I.tuple hs
    exact SeqAt.RcAt.str_tuple z t pl hu _ _ _ _ ⟨.bl false, H, I, rfl, q⟩
end
end My

set_option Elab.async false
set_option linter.all false
set_option maxRecDepth 100000
namespace My
open PySem PySem.Spec PyProof.Rows L2
/-! the five kinds of forms; the ten shapes -/
inductive Fk | one | ticks | points | ranks | lists deriving DecidableEq
def Fk.word : Fk → Str
  | .one => "one" | .ticks => "ticks" | .points => "points" | .ranks => "ranks" | .lists => "lists"
def Fk.cname : Fk → Str
  | .one => "One" | .ticks => "Ticks" | .points => "Points" | .ranks => "Ranks" | .lists => "Lists"
def Fk.ok (n : Nat) : Fk → Prop
  | .points => 1 ≤ n ∧ n ≤ 3
  | .lists => 1 ≤ n ∧ n ≤ 4
  | _ => n = 0
def Fk.rows (n m : Nat) : Fk → List (List Int)
  | .one => oneRows m | .ticks => mrows 1 m | .points => mrows n m | .ranks => rankRows m | .lists => listRows n m
def Fk.text (x : Fk) (n : Nat) : Str := shapeText x.word n
theorem Fk.ok4 {x : Fk} {n : Nat} (h : x.ok n) : n ≤ 4 := by
  cases x <;> simp only [Fk.ok] at h <;> omega
theorem Fk.wlen (x : Fk) : x.word.length ≤ 10 := by cases x <;> decide +kernel
theorem Fk.word_inj {x y : Fk} (h : x.word = y.word) : x = y := by
  cases x <;> cases y <;> first | rfl | exact absurd h (by decide +kernel)
def shapes : List (Fk × Nat) := [(.one, 0), (.ticks, 0), (.ranks, 0), (.points, 1), (.points, 2), (.points, 3), (.lists, 1), (.lists, 2), (.lists, 3), (.lists, 4)]
theorem Fk.ok_mem {x : Fk} {n : Nat} (h : x.ok n) : (x, n) ∈ shapes := by
  cases x with
  | one => cases (show n = 0 from h); simp [shapes]
  | ticks => cases (show n = 0 from h); simp [shapes]
  | ranks => cases (show n = 0 from h); simp [shapes]
  | points =>
    have h' : 1 ≤ n ∧ n ≤ 3 := h
    have : n = 1 ∨ n = 2 ∨ n = 3 := by omega
    rcases this with rfl | rfl | rfl <;> simp [shapes]
  | lists =>
    have h' : 1 ≤ n ∧ n ≤ 4 := h
    have : n = 1 ∨ n = 2 ∨ n = 3 ∨ n = 4 := by omega
    rcases this with rfl | rfl | rfl | rfl <;> simp [shapes]
theorem shapes_ok : ∀ z ∈ shapes, z.1.ok z.2 := by
  intro z h
  simp only [shapes, List.mem_cons, List.not_mem_nil, or_false] at h
  rcases h with rfl | rfl | rfl | rfl | rfl | rfl | rfl | rfl | rfl | rfl <;> simp [Fk.ok]
theorem Fk.text_inj {x y : Fk} {n m : Nat} (hx : x.ok n) (hy : y.ok m) (h : x.text n = y.text m) : x = y ∧ n = m := by
  have key : ∀ a ∈ shapes, ∀ b ∈ shapes, a.1.text a.2 = b.1.text b.2 → a = b := by decide +kernel
  have := key _ (Fk.ok_mem hx) _ (Fk.ok_mem hy) h
  exact ⟨congrArg Prod.fst this, congrArg Prod.snd this⟩
theorem Fk.text_len {x : Fk} {n : Nat} (h : x.ok n) : (x.text n).length ≤ 8 ∧ 3 ≤ (x.text n).length := by
  have key : ∀ a ∈ shapes, (a.1.text a.2).length ≤ 8 ∧ 3 ≤ (a.1.text a.2).length := by decide +kernel
  exact key _ (Fk.ok_mem h)
/-- the shape that a value tells -/
def readS (v : V) : Option (Fk × Nat) := shapes.find? fun z => decide (v = .str (z.1.text z.2))
theorem readS_text {x : Fk} {n : Nat} (h : x.ok n) : readS (.str (x.text n)) = some (x, n) := by
  have key : ∀ a ∈ shapes, readS (.str (a.1.text a.2)) = some a := by decide +kernel
  exact key _ (Fk.ok_mem h)
theorem readS_ok {v : V} {x : Fk} {n : Nat} (h : readS v = some (x, n)) : x.ok n := shapes_ok _ (List.mem_of_find?_eq_some h)
theorem numbered_text (x : Fk) (h : x = .points ∨ x = .lists) {n : Nat} (hn : x.ok n) : numbered x.word n = x.text n := by
  rcases h with rfl | rfl
  · have h' : 1 ≤ n ∧ n ≤ 3 := hn
    have : n = 1 ∨ n = 2 ∨ n = 3 := by omega
    rcases this with rfl | rfl | rfl <;> decide +kernel
  · have h' : 1 ≤ n ∧ n ≤ 4 := hn
    have : n = 1 ∨ n = 2 ∨ n = 3 ∨ n = 4 := by omega
    rcases this with rfl | rfl | rfl | rfl <;> decide +kernel
/-- a form of a kind at a -/
def Fm (C : Fk → Addr) (H : Hp) (x : Fk) (n : Nat) (a : Addr) : Prop := FormAt H (C x) a x.word n
theorem Fm.same {C : Fk → Addr} {H H' : Hp} {x : Fk} {n : Nat} {a : Addr} (s : Same H H') (h : Fm C H x n a) : Fm C H' x n a := by
  obtain ⟨dx, h⟩ := h
  exact ⟨dx, s _ _ h⟩
/-- two lists, item by item -/
def R2s {α : Type} (R : V → α → Prop) : List V → List α → Prop
  | [], [] => True
  | v :: vs, r :: rs => R v r ∧ R2s R vs rs
  | _, _ => False
section
variable {α : Type} {R R' : V → α → Prop}
theorem R2s.imp (f : ∀ v r, R v r → R' v r) : ∀ {xs : List V} {rs : List α}, R2s R xs rs → R2s R' xs rs
  | [], [], _ => trivial
  | [], _ :: _, h => h.elim
  | _ :: _, [], h => h.elim
  | v :: _, r :: _, h => ⟨f v r h.1, h.2.imp f⟩
theorem R2s.len : ∀ {xs : List V} {rs : List α}, R2s R xs rs → xs.length = rs.length
  | [], [], _ => rfl
  | [], _ :: _, h => h.elim
  | _ :: _, [], h => h.elim
  | _ :: _, _ :: _, h => congrArg Nat.succ h.2.len
theorem R2s.snoc {v : V} {r : α} (k : R v r) : ∀ {xs : List V} {rs : List α}, R2s R xs rs → R2s R (xs ++ [v]) (rs ++ [r])
  | [], [], _ => ⟨k, trivial⟩
  | [], _ :: _, h => h.elim
  | _ :: _, [], h => h.elim
  | _ :: _, _ :: _, h => ⟨h.1, h.2.snoc k⟩
theorem R2s.app {ys : List V} {ss : List α} (k : R2s R ys ss) : ∀ {xs : List V} {rs : List α}, R2s R xs rs → R2s R (xs ++ ys) (rs ++ ss)
  | [], [], _ => k
  | [], _ :: _, h => h.elim
  | _ :: _, [], h => h.elim
  | _ :: _, _ :: _, h => ⟨h.1, R2s.app k h.2⟩
theorem R2s.get : ∀ {xs : List V} {rs : List α} {i : Nat} {x : V}, R2s R xs rs → xs[i]? = some x → ∃ r, rs[i]? = some r ∧ R x r
  | [], [], _, _, _, e => by simp at e
  | [], _ :: _, _, _, h, _ => h.elim
  | _ :: _, [], _, _, h, _ => h.elim
  | _ :: _, r :: _, 0, _, h, e => by cases e; exact ⟨r, rfl, h.1⟩
  | _ :: _, _ :: _, i + 1, _, h, e => h.2.get (i := i) e
end
/-- where the classes and their methods stand -/
structure FA where
  C : Fk → Addr
  i : Fk → Addr
  m : Fk → Addr
  s : Fk → Addr
  e : Fk → Addr
  fi : Fk → FuncData
  fm : Fk → FuncData
  fs : Fk → FuncData
  fe : Fk → FuncData
def spMk (A : FA) (x : Fk) : Sp := fun vs H Q _ => ∃ (a : Addr) (m n : Nat), vs = [.ref a, .int m] ∧ Fm A.C H x n a ∧ x.ok n ∧ 1 ≤ m ∧ m ≤ 5 ∧ ∀ l xs H', Same H H' → H l = none → H' l = some (.lst xs) → TRs H' xs (x.rows n m) → Q (.ref l) H'
def spSt (A : FA) (x : Fk) : Sp := fun vs H Q _ => ∃ (a : Addr) (n : Nat), vs = [.ref a] ∧ Fm A.C H x n a ∧ x.ok n ∧ Q (.str (x.text n)) H
def ips : Fk → List Str
  | .points => ["self", "number"] | .lists => ["self", "number"] | _ => ["self"]
def spIn (A : FA) : Fk → Sp
  | .points => spForm1 (A.C .points) "points" 3
  | .lists => spForm1 (A.C .lists) "lists" 4
  | x => spForm0 (A.C x) x.word
/-- all that is known of the five classes -/
structure Fms (P : Program) (w : World) (K : PySem.W.Frag) (mg : Str → Option Value) (base : Heap) (A : FA) : Prop where
  T : ∀ x, FmT K (A.C x)
  g : ∀ x, mg x.cname = some (.ref (A.C x))
  mkc : ∀ x, Mk K (A.C x) (A.i x)
  iok : ∀ x, FnOk P w K mg base CX0 3 (A.i x) (A.fi x) (ips x) (spIn A x)
  ib : ∀ x, Binds K (A.fi x) (ips x) []
  kb : ∀ x, x = .points ∨ x = .lists → KBn K (A.fi x) (ips x) 1 ["number"] (fun us ws => us ++ ws) (fun vs zs => vs ++ zs)
  mm : ∀ x, Meth K (A.C x) "markings" (A.m x)
  mok : ∀ x, FnOk P w K mg base CX0 2 (A.m x) (A.fm x) ["self", "many"] (spMk A x)
  mb : ∀ x, Binds K (A.fm x) ["self", "many"] []
  sm : ∀ x, PySem.W.findIn K (.ref (A.C x)) "__str__" = some (some (.ref (A.s x)))
  sf : ∀ x, PySem.W.isFn K (.ref (A.s x)) = true
  sok : ∀ x, FnOk P w K mg base CX0 1 (A.s x) (A.fs x) ["self"] (spSt A x)
  sb : ∀ x, Binds K (A.fs x) ["self"] []
  em : ∀ x, PySem.W.findIn K (.ref (A.C x)) "__eq__" = some (some (.ref (A.e x)))
  ef : ∀ x, PySem.W.isFn K (.ref (A.e x)) = true
  eok : ∀ x, FnOk P w K mg base CX0 1 (A.e x) (A.fe x) ["self", "other"] (spEqF K (A.C x) x.word)
  eb : ∀ x, Binds K (A.fe x) ["self", "other"] []
  inj : ∀ x y, A.C x = A.C y → x = y
  kc : ∀ x y, x ≠ y → PySem.W.kitOne K (.ref (A.C y)) (.ref (A.C x)) = some false
  nf : ∀ x y, PySem.W.notFirst K (A.C x) (.ref (A.C y)) = true
  kt : ∀ x t, t = "str" ∨ t = "int" → PySem.W.kitOne K (.type t) (.ref (A.C x)) = some false
  nt : ∀ x t, t = "str" ∨ t = "int" → PySem.W.notFirst K (A.C x) (.type t) = true
  ss : ∀ x, PySem.W.subIn K (.ref (A.C x)) (.type "str") = some false
  ks : ∀ x, PySem.W.kitOne K (.ref (A.C x)) (.type "str") = some false
end My

set_option Elab.async false
set_option linter.all false
set_option maxRecDepth 100000
namespace My
open PySem PySem.Spec PyProof.Rows L2
/-! forms drawn, made and read -/
abbrev sLawForm : Stmt := topS 34
theorem scLawForm : FnScope ["bag", "tag"] ["bag"] (defScope sLawForm) := ⟨rfl, rfl, rfl, by decide +kernel, rfl, by decide +kernel, by decide +kernel⟩
abbrev sLawMade : Stmt := topS 37
theorem scLawMade : FnScope ["shape"] ["shape"] (defScope sLawMade) := ⟨rfl, rfl, rfl, by decide +kernel, rfl, by decide +kernel, by decide +kernel⟩
abbrev sReadForm : Stmt := topS 18
theorem scReadForm : FnScope ["text", "forms", "number", "form"] ["text"] (defScope sReadForm) := ⟨rfl, rfl, rfl, by decide +kernel, rfl, by decide +kernel, by decide +kernel⟩
abbrev sLawRead : Stmt := topS 39
theorem scLawRead : FnScope ["thing", "shapes", "k", "shape"] ["thing"] (defScope sLawRead) := ⟨rfl, rfl, rfl, by decide +kernel, rfl, by decide +kernel, by decide +kernel⟩
theorem BagC.ne {K : PySem.W.Frag} {H : Hp} {b c l : Addr} {ns : List Int} (h : BagC K H b c ns) (n : H l = none) : l ≠ b := by
  obtain ⟨i, g, x, m, B⟩ := h
  exact (ne_of_none B.ob n).symm
theorem But.free {K : PySem.W.Frag} {H H' : Hp} {b c p : Addr} {ns : List Int} (t : But b H H') (h : BagC K H' b c ns) (n : H' p = none) : H p = none := by
  cases e : H p with
  | none => rfl
  | some o => rw [t p o (h.ne n) e] at n; cases n
def spForm (K : PySem.W.Frag) : Sp := fun vs H Q _ => ∃ (b c : Addr) (ns : List Int), vs = [.ref b] ∧ BagC K H b c ns ∧ ∀ p (x : Fk) (n : Nat) H', BagC K H' b c ns → But b H H' → H p = none → H' p = some (.tup [.str x.word, .int n]) → x.ok n → Q (.ref p) H'
def spMade (K : PySem.W.Frag) (A : FA) : Sp := fun vs H Q _ => ∃ (p : Addr) (x : Fk) (n : Nat), vs = [.ref p] ∧ SqT K H p [.str x.word, .int n] ∧ x.ok n ∧ ∀ a H', Same H H' → H a = none → Fm A.C H' x n a → Q (.ref a) H'
def OddV (K : PySem.W.Frag) (C : Fk → Addr) (H : Hp) (v : V) : Prop := flat0 v ∨ (∃ a xs, v = .ref a ∧ (SqL K H a xs ∨ SqT K H a xs)) ∨ ∃ a, v = .ref a ∧ Fm C H .one 0 a
theorem OddV.same {K : PySem.W.Frag} {C : Fk → Addr} {H H' : Hp} {v : V} (s : Same H H') (h : OddV K C H v) : OddV K C H' v := by
  rcases h with h | ⟨a, xs, e, h⟩ | ⟨a, e, h⟩
  · exact .inl h
  · exact .inr (.inl ⟨a, xs, e, h.imp (Same.seq s) (seqT_same s)⟩)
  · exact .inr (.inr ⟨a, e, h.same s⟩)
def spRead (K : PySem.W.Frag) (A : FA) : Sp := fun vs H Q _ => ∃ v, vs = [v] ∧ OddV K A.C H v ∧ (∀ a x n H', readS v = some (x, n) → Same H H' → Fm A.C H' x n a → Q (.ref a) H') ∧ ∀ H', readS v = none → Same H H' → Q .non H'
def spLread (K : PySem.W.Frag) (A : FA) : Sp := fun vs H Q _ => ∃ v, vs = [v] ∧ OddV K A.C H v ∧ (∀ p x n H', readS v = some (x, n) → Same H H' → H' p = some (.tup [.str x.word, .int (n : Nat)]) → Q (.ref p) H') ∧ ∀ H', readS v = none → Same H H' → Q .non H'
theorem new_fm {C : Fk → Addr} {H : Hp} {a dx : Addr} (x : Fk) (n : Nat) (na : H a = none) (nd : H dx = none) :
    Same H (upd (upd (upd H dx (.own a)) a (.ins (C x) dx [])) a (.ins (C x) dx [("word", .str x.word), ("number", .int n)])) ∧ Fm C (upd (upd (upd H dx (.own a)) a (.ins (C x) dx [])) a (.ins (C x) dx [("word", .str x.word), ("number", .int n)])) x n a :=
  ⟨same_updF na (same_updF na (same_upd nd)), dx, upd_same⟩
def FR (C : Fk → Addr) (H : Hp) (v : V) (z : Fk × Nat) : Prop := ∃ a, v = .ref a ∧ Fm C H z.1 z.2 a
theorem FR.same {C : Fk → Addr} {H H' : Hp} {v : V} {z : Fk × Nat} (s : Same H H') (h : FR C H v z) : FR C H' v z := by
  obtain ⟨a, e, h⟩ := h
  exact ⟨a, e, h.same s⟩
theorem FR.put {C : Fk → Addr} {H : Hp} {v : V} {z : Fk × Nat} {D : Addr} {ys zs : List V} (hD : H D = some (.lst ys)) (h : FR C H v z) : FR C (upd H D (.lst zs)) v z := by
  obtain ⟨a, e, dx, h⟩ := h
  exact ⟨a, e, dx, by rw [upd_ne (fun q => by rw [q, hD] at h; cases h)]; exact h⟩
def TP (H : Hp) (v : V) (z : Fk × Nat) : Prop := ∃ a, v = .ref a ∧ H a = some (.tup [.str z.1.word, .int z.2])
theorem TP.same {H H' : Hp} {v : V} {z : Fk × Nat} (s : Same H H') (h : TP H v z) : TP H' v z := by
  obtain ⟨a, e, h⟩ := h
  exact ⟨a, e, s _ _ h⟩
theorem TP.put {H : Hp} {v : V} {z : Fk × Nat} {D : Addr} {ys zs : List V} (hD : H D = some (.lst ys)) (h : TP H v z) : TP (upd H D (.lst zs)) v z := by
  obtain ⟨a, e, h⟩ := h
  exact ⟨a, e, by rw [upd_ne (fun q => by rw [q, hD] at h; cases h)]; exact h⟩
theorem drop_at {α : Type} {xs : List α} {i : Nat} {x : α} (h : xs[i]? = some x) : xs.drop i = x :: xs.drop (i + 1) := by
  obtain ⟨lt, rfl⟩ := List.getElem?_eq_some_iff.mp h
  exact List.drop_eq_getElem_cons lt
section
variable {P : Program} {w : World} {K : PySem.W.Frag} {mg : Str → Option Value} {base : Heap} {A : FA}
theorem ok_form {f fD fO : Addr} {fd fdD fdO : FuncData} {k : Nat} (F : Fun K "_law_form" "_law_form" sLawForm f fd) (D : Cal P w K mg base "_law_draw" (k + 1) ["bag", "size"] (spDrawC K) fD fdD) (O : Cal P w K mg base "_law_of" (k + 2) ["bag", "things"] (spOfC K) fO fdO) : FnOk P w K mg base CX0 (k + 3) f fd ["bag"] (spForm K) := by
  refine F.ok scLawForm (fun vs H Q E h => ?_) (fun cdv A outer s H vs Q E hr h => ?_)
  · obtain ⟨b, c, ns, rfl, _⟩ := h
    rfl
  · obtain ⟨b, c, ns, rfl, B, q⟩ := h
    refine ⟨_, (pss_cons (ps_set (i := 1) scLawForm.nd rfl (.inl rfl) (pe_call O.ok (hr.mono (by omega)) rfl O.g O.kp O.b .nil pass0 (pa_cons (pv 0) (pa_cons (pe_lst (pa_cons pe_str (pa_cons pe_str (pa_cons pe_str (pa_cons pe_str (pa_cons pe_str (pa_cons pe_str pa_nil))))))) pa_nil))))
      (pss_cons (ps_if (pt_cmpR op_eq (pv 1) pe_str (nomark _)) (pss_one (ps_ret (pe_tup (pa_cons (pv 1) (pa_cons (pe_op op_add pe_int (pe_call D.ok (hr.mono (by omega)) rfl D.g D.kp D.b .nil pass0 (pa_cons (pv 0) (pa_cons pe_int pa_nil)))) pa_nil))))) pss_nil)
      (pss_one (ps_ret (pe_ifExp (pt_cmpR op_eq (pv 1) pe_str (nomark _)) (pe_tup (pa_cons (pv 1) (pa_cons (pe_op op_add pe_int (pe_call D.ok (hr.mono (by omega)) rfl D.g D.kp D.b .nil pass0 (pa_cons (pv 0) (pa_cons pe_int pa_nil)))) pa_nil))) (pe_tup (pa_cons (pv 1) (pa_cons pe_int pa_nil)))))))), ?_⟩
    refine ⟨_, rfl, (by show 6 ≤ sizeLine; decide), fun l0 n0 => ⟨b, l0, c, ns, _, rfl, B.same (same_upd n0), B.ne n0, SqL.of upd_same, by decide, by decide, fun v H1 hv B1 t1 => ?_⟩⟩
    have t01 : But b H H1 := (But.of (same_upd n0)).trans t1
    obtain ⟨x, rfl⟩ : ∃ x : Fk, v = .str x.word := by
      simp only [List.mem_cons, List.not_mem_nil, or_false] at hv
      rcases hv with rfl | rfl | rfl | rfl | rfl | rfl
      · exact ⟨.one, rfl⟩
      · exact ⟨.ticks, rfl⟩
      · exact ⟨.points, rfl⟩
      · exact ⟨.ranks, rfl⟩
      · exact ⟨.ranks, rfl⟩
      · exact ⟨.lists, rfl⟩
    have fin : ∀ (n : Nat) (z : Int) (H2 : Hp) (p : Addr), BagC K H2 b c ns → But b H H2 → H2 p = none → z = n → x.ok n → Q (.ref p) (upd H2 p (.tup [.str x.word, .int z])) := fun n z H2 p B2 t2 np ez ok => by
      subst ez
      exact q p x n _ (B2.same (same_upd np)) (t2.trans (But.of (same_upd np))) (t2.free B2 np) upd_same ok
    cases x with
    | points =>
      refine ⟨_, rfl, rfl, _, rfl, ifT (by decide +kernel) ⟨_, rfl, _, rfl, b, 3, c, ns, rfl, B1, by decide, by decide, fun r H2 r0 r1 B2 t2 => ⟨_, _, rfl, rfl, (by show 2 ≤ sizeLine; decide), fun p np => ?_⟩⟩⟩
      exact fin (1 + r).toNat _ H2 p B2 (t01.trans t2) np (by omega) ⟨by omega, by omega⟩
    | lists =>
      refine ⟨_, rfl, rfl, _, rfl, ifF (by decide +kernel) ⟨_, rfl, rfl, _, rfl, ifT (by decide +kernel) ⟨_, rfl, _, rfl, b, 4, c, ns, rfl, B1, by decide, by decide, fun r H2 r0 r1 B2 t2 => ⟨_, _, rfl, rfl, (by show 2 ≤ sizeLine; decide), fun p np => ?_⟩⟩⟩⟩
      exact fin (1 + r).toNat _ H2 p B2 (t01.trans t2) np (by omega) ⟨by omega, by omega⟩
    | one => exact ⟨_, rfl, rfl, _, rfl, ifF (by decide +kernel) ⟨_, rfl, rfl, _, rfl, ifF (by decide +kernel) ⟨_, rfl, (by show 2 ≤ sizeLine; decide), fun p np => fin 0 _ H1 p B1 t01 np rfl rfl⟩⟩⟩
    | ticks => exact ⟨_, rfl, rfl, _, rfl, ifF (by decide +kernel) ⟨_, rfl, rfl, _, rfl, ifF (by decide +kernel) ⟨_, rfl, (by show 2 ≤ sizeLine; decide), fun p np => fin 0 _ H1 p B1 t01 np rfl rfl⟩⟩⟩
    | ranks => exact ⟨_, rfl, rfl, _, rfl, ifF (by decide +kernel) ⟨_, rfl, rfl, _, rfl, ifF (by decide +kernel) ⟨_, rfl, (by show 2 ≤ sizeLine; decide), fun p np => fin 0 _ H1 p B1 t01 np rfl rfl⟩⟩⟩
theorem ok_made {f : Addr} {fd : FuncData} {k : Nat} (F : Fun K "_law_made" "_law_made" sLawMade f fd) (Z : Fms P w K mg base A) : FnOk P w K mg base CX0 (k + 5) f fd ["shape"] (spMade K A) := by
  refine F.ok scLawMade (fun vs H Q E h => ?_) (fun cdv A' outer s H vs Q E hr h => ?_)
  · obtain ⟨p, x, n, rfl, _⟩ := h
    rfl
  · obtain ⟨p, x, n, rfl, hp, ok, q⟩ := h
    refine ⟨_, (pss_cons (ps_if (pt_cmpR op_eq (pe_ix ix_tup (pv 0) pe_int (fun _ _ => rfl)) pe_str (nomark _)) (pss_one (ps_ret (pe_make (Z.mkc .points) (Z.iok .points) (hr.mono (by omega)) rfl (Z.g .points) (Z.ib .points) .nil pass0 (pa_cons (pe_ix ix_tup (pv 0) pe_int (fun _ _ => rfl)) pa_nil)))) pss_nil)
      (pss_cons (ps_if (pt_cmpR op_eq (pe_ix ix_tup (pv 0) pe_int (fun _ _ => rfl)) pe_str (nomark _)) (pss_one (ps_ret (pe_makeK0 (Z.mkc .lists) (Z.iok .lists) (hr.mono (by omega)) rfl (Z.g .lists) (Z.kb .lists (by simp)) pass0 (pk_cons (pe_ix ix_tup (pv 0) pe_int (fun _ _ => rfl)) pk_nil)))) pss_nil)
      (pss_one (ps_ret (pe_ifExp (pt_cmpR op_eq (pe_ix ix_tup (pv 0) pe_int (fun _ _ => rfl)) pe_str (nomark _)) (pe_make0 (Z.mkc .one) (Z.iok .one) (hr.mono (by omega)) rfl (Z.g .one) (Z.ib .one) .nil pass0) (pe_ifExp (pt_cmpR op_eq (pe_ix ix_tup (pv 0) pe_int (fun _ _ => rfl)) pe_str (nomark _)) (pe_make0 (Z.mkc .ticks) (Z.iok .ticks) (hr.mono (by omega)) rfl (Z.g .ticks) (Z.ib .ticks) .nil pass0) (pe_make0 (Z.mkc .ranks) (Z.iok .ranks) (hr.mono (by omega)) rfl (Z.g .ranks) (Z.ib .ranks) .nil pass0))))))), ?_⟩
    have i0 : atI [V.str x.word, V.int n] 0 = some (.str x.word) := rfl
    have i1 : atI [V.str x.word, V.int n] 1 = some (.int n) := rfl
    have fin : ∀ a dx, H a = none → H dx = none → Q (.ref a) (upd (upd (upd H dx (.own a)) a (.ins (A.C x) dx [])) a (.ins (A.C x) dx [("word", .str x.word), ("number", .int n)])) := fun a dx na nd => by
      obtain ⟨s1, k1⟩ := new_fm (C := A.C) x n na nd
      exact q a _ s1 na k1
    cases x with
    | points =>
      have ok' : 1 ≤ n ∧ n ≤ 3 := ok
      exact ⟨_, rfl, p, _, 0, _, rfl, rfl, hp, i0, rfl, _, rfl, ifT (by decide +kernel) ⟨_, rfl, p, _, 1, _, rfl, rfl, hp, i1, fun a dx na nd ne => ⟨a, dx, n, rfl, upd_same, by omega, by omega, rfl, fin a dx na nd⟩⟩⟩
    | lists =>
      have ok' : 1 ≤ n ∧ n ≤ 4 := ok
      exact ⟨_, rfl, p, _, 0, _, rfl, rfl, hp, i0, rfl, _, rfl, ifF (by decide +kernel) ⟨_, rfl, p, _, 0, _, rfl, rfl, hp, i0, rfl, _, rfl, ifT (by decide +kernel) ⟨_, rfl, p, _, 1, _, rfl, rfl, hp, i1, rfl, rfl, fun a dx na nd ne => ⟨a, dx, n, rfl, upd_same, by omega, by omega, rfl, fin a dx na nd⟩⟩⟩⟩
    | one =>
      have ok' : n = 0 := ok
      subst ok'
      exact ⟨_, rfl, p, _, 0, _, rfl, rfl, hp, i0, rfl, _, rfl, ifF (by decide +kernel) ⟨_, rfl, p, _, 0, _, rfl, rfl, hp, i0, rfl, _, rfl, ifF (by decide +kernel) ⟨_, rfl, p, _, 0, _, rfl, rfl, hp, i0, rfl, _, rfl, ifT (by decide +kernel) fun a dx na nd ne => ⟨a, dx, rfl, upd_same, rfl, fin a dx na nd⟩⟩⟩⟩
    | ticks =>
      have ok' : n = 0 := ok
      subst ok'
      exact ⟨_, rfl, p, _, 0, _, rfl, rfl, hp, i0, rfl, _, rfl, ifF (by decide +kernel) ⟨_, rfl, p, _, 0, _, rfl, rfl, hp, i0, rfl, _, rfl, ifF (by decide +kernel) ⟨_, rfl, p, _, 0, _, rfl, rfl, hp, i0, rfl, _, rfl, ifF (by decide +kernel) ⟨_, rfl, p, _, 0, _, rfl, rfl, hp, i0, rfl, _, rfl, ifT (by decide +kernel) fun a dx na nd ne => ⟨a, dx, rfl, upd_same, rfl, fin a dx na nd⟩⟩⟩⟩⟩
    | ranks =>
      have ok' : n = 0 := ok
      subst ok'
      exact ⟨_, rfl, p, _, 0, _, rfl, rfl, hp, i0, rfl, _, rfl, ifF (by decide +kernel) ⟨_, rfl, p, _, 0, _, rfl, rfl, hp, i0, rfl, _, rfl, ifF (by decide +kernel) ⟨_, rfl, p, _, 0, _, rfl, rfl, hp, i0, rfl, _, rfl, ifF (by decide +kernel) ⟨_, rfl, p, _, 0, _, rfl, rfl, hp, i0, rfl, _, rfl, ifF (by decide +kernel) fun a dx na nd ne => ⟨a, dx, rfl, upd_same, rfl, fin a dx na nd⟩⟩⟩⟩⟩
theorem ok_read {f : Addr} {fd : FuncData} {k : Nat} (F : Fun K "read_form" "read_form" sReadForm f fd) (Z : Fms P w K mg base A) (b_range : mg "range" = none) (b_str : mg "str" = none) : FnOk P w K mg base CX0 (k + 5) f fd ["text"] (spRead K A) := by
  refine F.ok scReadForm (fun vs H Q E h => ?_) (fun cdv A' outer s H vs Q E hr h => ?_)
  · obtain ⟨v, rfl, _⟩ := h
    rfl
  · obtain ⟨v, rfl, hv, q1, q2⟩ := h
    refine ⟨_, (pss_cons (ps_set (i := 1) scReadForm.nd rfl (.inl rfl) (pe_lst (pa_cons (pe_make0 (Z.mkc .one) (Z.iok .one) (hr.mono (by omega)) rfl (Z.g .one) (Z.ib .one) .nil pass0) (pa_cons (pe_make0 (Z.mkc .ticks) (Z.iok .ticks) (hr.mono (by omega)) rfl (Z.g .ticks) (Z.ib .ticks) .nil pass0) (pa_cons (pe_make0 (Z.mkc .ranks) (Z.iok .ranks) (hr.mono (by omega)) rfl (Z.g .ranks) (Z.ib .ranks) .nil pass0) pa_nil)))))
      (pss_cons (ps_expr (pe_bm PySem.F.plainAttrs_list PySem.F.slot_list_extend PySem.F.type_list_extend mt_extend (pv 1) (pa_cons (pe_lc (own := [("number", 2)]) (g := gName 2) (tt := tYes) rfl scReadForm.nd (pi_range2 rfl b_range (pa_cons pe_int (pa_cons pe_int pa_nil))) (blkOk_by (own := [("number", 2)]) (N := ["text", "forms", "number", "form"]) (sc := defScope sReadForm) (by decide +kernel)) (fun _ _ _ _ _ => (pg_name (i := 2) scReadForm.nd rfl (.inl rfl) (.inr rfl))) (fun _ _ _ _ _ => pts_nil) (fun _ _ _ _ _ => (pe_make (Z.mkc .points) (Z.iok .points) (hr.mono (by omega)) rfl (Z.g .points) (Z.ib .points) .nil pass0 (pa_cons (pv 2) pa_nil)))) pa_nil)))
      (pss_cons (ps_expr (pe_bm PySem.F.plainAttrs_list PySem.F.slot_list_extend PySem.F.type_list_extend mt_extend (pv 1) (pa_cons (pe_lc (own := [("number", 2)]) (g := gName 2) (tt := tYes) rfl scReadForm.nd (pi_range2 rfl b_range (pa_cons pe_int (pa_cons pe_int pa_nil))) (blkOk_by (own := [("number", 2)]) (N := ["text", "forms", "number", "form"]) (sc := defScope sReadForm) (by decide +kernel)) (fun _ _ _ _ _ => (pg_name (i := 2) scReadForm.nd rfl (.inl rfl) (.inr rfl))) (fun _ _ _ _ _ => pts_nil) (fun _ _ _ _ _ => (pe_make (Z.mkc .lists) (Z.iok .lists) (hr.mono (by omega)) rfl (Z.g .lists) (Z.ib .lists) .nil pass0 (pa_cons (pv 2) pa_nil)))) pa_nil)))
      (pss_cons (ps_for PassesOwn.never rfl (pi_list (pv 1)) (pg_name (i := 3) scReadForm.nd rfl (.inl rfl))
        (pss_one (ps_if (pt_cmpR (op_or op_eq (op_or (op_eqTS hr.units0) (op_eqTI (Z.eok .one) (Z.ss .one) (Z.em .one) (Z.ef .one) (Z.eb .one) (hr.mono (by omega))))) (pe_callTy (call_any fun x => call_strOwn (Z.sok x) (Z.sm x) (Z.sf x) (Z.sb x) (hr.mono (by omega))) rfl b_str (by decide +kernel) (pa_cons (pv 3) pa_nil)) (pv 0) (nomark _)) (pss_one (ps_ret (pv 3))) pss_nil)))
      (pss_one (ps_ret pe_non)))))), ?_⟩
    have es0 : ∀ z : Nat, z ≤ 10000 → z ≤ sizeLine := fun z hz => by rw [sizeLine_eq]; omega
    refine fun a1 d1 na1 nd1 _ => ⟨a1, d1, rfl, upd_same, rfl, ?_⟩
    obtain ⟨s1, k1⟩ := new_fm (C := A.C) .one 0 na1 nd1
    generalize upd (upd (upd H d1 (.own a1)) a1 (.ins (A.C .one) d1 [])) a1 (.ins (A.C .one) d1 [("word", .str Fk.one.word), ("number", .int (0 : Nat))]) = G1 at s1 k1 ⊢
    refine fun a2 d2 na2 nd2 _ => ⟨a2, d2, rfl, upd_same, rfl, ?_⟩
    obtain ⟨s2, k2⟩ := new_fm (C := A.C) .ticks 0 na2 nd2
    generalize upd (upd (upd G1 d2 (.own a2)) a2 (.ins (A.C .ticks) d2 [])) a2 (.ins (A.C .ticks) d2 [("word", .str Fk.ticks.word), ("number", .int (0 : Nat))]) = G2 at s2 k2 ⊢
    refine fun a3 d3 na3 nd3 _ => ⟨a3, d3, rfl, upd_same, rfl, ?_⟩
    obtain ⟨s3, k3⟩ := new_fm (C := A.C) .ranks 0 na3 nd3
    generalize upd (upd (upd G2 d3 (.own a3)) a3 (.ins (A.C .ranks) d3 [])) a3 (.ins (A.C .ranks) d3 [("word", .str Fk.ranks.word), ("number", .int (0 : Nat))]) = G3 at s3 k3 ⊢
    refine ⟨es0 3 (by decide), fun l nl => ?_⟩
    have kA : R2s (FR A.C G3) [.ref a1, .ref a2, .ref a3] [(.one, 0), (.ticks, 0), (.ranks, 0)] := ⟨⟨a1, rfl, (k1.same s2).same s3⟩, ⟨a2, rfl, k2.same s3⟩, ⟨a3, rfl, k3⟩, trivial⟩
    have sA := ((s1.trans s2).trans s3).trans (same_upd (o := .lst [.ref a1, .ref a2, .ref a3]) nl)
    have lH : H l = none := ((s1.trans s2).trans s3).free nl
    have kA := R2s.imp (fun v r h => FR.same (same_upd (o := .lst [.ref a1, .ref a2, .ref a3]) nl) h) kA
    have eA : (upd G3 l (.lst [.ref a1, .ref a2, .ref a3])) l = some (.lst [.ref a1, .ref a2, .ref a3]) := upd_same
    generalize upd G3 l (.lst [.ref a1, .ref a2, .ref a3]) = HA at sA kA eA ⊢
    generalize [V.ref a1, .ref a2, .ref a3] = xA at kA eA ⊢
    clear s1 s2 s3 k1 k2 k3 nl na1 na2 na3 nd1 nd2 nd3
    refine ⟨_, rfl, .inl ⟨rfl, _, SqL.of eA⟩, 1, 4, rfl, ⟨by decide, by decide, by decide, by decide⟩, fun D nD => ?_⟩
    refine lc_range (n := 3) (fun i G => Same HA G ∧ ∃ ys, G D = some (.lst ys) ∧ R2s (FR A.C G) ys ((List.range i).map fun j => (Fk.points, j + 1))) ⟨same_upd nD, [], upd_same, trivial⟩ ?_ ?_
    · rintro i G hi ⟨s1, ys, hD, hY⟩
      have ly : ys.length = i := by rw [hY.len, List.length_map, List.length_range]
      refine ⟨rfl, ?_⟩
      unfold tYes
      refine iteT ⟨_, rfl, fun x dx nx nd ne => ⟨x, dx, ((i + 1 : Nat) : Int), by rw [show (1 + (i : Int)) = ((i + 1 : Nat) : Int) from by omega]; rfl, upd_same, by omega, by omega, rfl, ?_⟩⟩
      obtain ⟨s2, k2⟩ := new_fm (C := A.C) .points (i + 1) nx nd
      have hD2 := s2 _ _ hD
      refine ⟨ys, hD2, by rw [sizeLine_eq]; omega, same_updF nD (s1.trans s2), _, upd_same, ?_⟩
      rw [List.range_succ, List.map_append]
      exact R2s.snoc (FR.put hD2 ⟨x, rfl, k2⟩) (R2s.imp (fun v r h => FR.put hD2 (FR.same s2 h)) hY)
    rintro G ⟨s1, ys, hD, hY⟩
    have ly : ys.length = 3 := hY.len
    have lA : xA.length = 3 := kA.len
    refine ⟨l, D, _, _, rfl, rfl, s1 _ _ eA, hD, es0 _ (by omega), ?_⟩
    have eG := s1 _ _ eA
    have kB : R2s (FR A.C (upd G l (.lst (xA ++ ys)))) (xA ++ ys) [(.one, 0), (.ticks, 0), (.ranks, 0), (.points, 1), (.points, 2), (.points, 3)] := R2s.imp (fun v r h => FR.put eG h) (R2s.app hY (R2s.imp (fun v r h => FR.same s1 h) kA))
    have sB : Same H (upd G l (.lst (xA ++ ys))) := same_updF lH (sA.trans s1)
    have eB : (upd G l (.lst (xA ++ ys))) l = some (.lst (xA ++ ys)) := upd_same
    generalize upd G l (.lst (xA ++ ys)) = HB at sB kB eB ⊢
    generalize xA ++ ys = xB at kB eB ⊢
    clear s1 hD hY ly nD eG
    refine ⟨_, rfl, .inl ⟨rfl, _, SqL.of eB⟩, 1, 5, rfl, ⟨by decide, by decide, by decide, by decide⟩, fun D nD => ?_⟩
    refine lc_range (n := 4) (fun i G => Same HB G ∧ ∃ ys, G D = some (.lst ys) ∧ R2s (FR A.C G) ys ((List.range i).map fun j => (Fk.lists, j + 1))) ⟨same_upd nD, [], upd_same, trivial⟩ ?_ ?_
    · rintro i G hi ⟨s1, ys, hD, hY⟩
      have ly : ys.length = i := by rw [hY.len, List.length_map, List.length_range]
      refine ⟨rfl, ?_⟩
      unfold tYes
      refine iteT ⟨_, rfl, fun x dx nx nd ne => ⟨x, dx, ((i + 1 : Nat) : Int), by rw [show (1 + (i : Int)) = ((i + 1 : Nat) : Int) from by omega]; rfl, upd_same, by omega, by omega, rfl, ?_⟩⟩
      obtain ⟨s2, k2⟩ := new_fm (C := A.C) .lists (i + 1) nx nd
      have hD2 := s2 _ _ hD
      refine ⟨ys, hD2, by rw [sizeLine_eq]; omega, same_updF nD (s1.trans s2), _, upd_same, ?_⟩
      rw [List.range_succ, List.map_append]
      exact R2s.snoc (FR.put hD2 ⟨x, rfl, k2⟩) (R2s.imp (fun v r h => FR.put hD2 (FR.same s2 h)) hY)
    rintro G ⟨s1, ys, hD, hY⟩
    have ly : ys.length = 4 := hY.len
    have lB : xB.length = 6 := kB.len
    refine ⟨l, D, _, _, rfl, rfl, s1 _ _ eB, hD, es0 _ (by omega), ?_⟩
    have eG := s1 _ _ eB
    have kC : R2s (FR A.C (upd G l (.lst (xB ++ ys)))) (xB ++ ys) shapes := R2s.imp (fun v r h => FR.put eG h) (R2s.app hY (R2s.imp (fun v r h => FR.same s1 h) kB))
    have sC : Same H (upd G l (.lst (xB ++ ys))) := same_updF lH (sB.trans s1)
    have eC : (upd G l (.lst (xB ++ ys))) l = some (.lst (xB ++ ys)) := upd_same
    generalize upd G l (.lst (xB ++ ys)) = HC at sC kC eC ⊢
    generalize xB ++ ys = xC at kC eC ⊢
    clear s1 hD hY ly nD eG
    have lC : xC.length = 10 := kC.len
    refine ⟨_, rfl, l, rfl, ⟨_, SqL.of eC⟩, for_list (K := K) (a := l) (xs := xC) (fun i σ G => ∃ y, σ = [some v, some (.ref l), none, y] ∧ G = HC ∧ readS v = (shapes.drop i).find? fun z => decide (v = .str (z.1.text z.2))) ⟨none, rfl, rfl, rfl⟩ (fun i σ G _ ⟨_, _, e, _⟩ => e ▸ SqL.of eC) ?_ ?_⟩
    · rintro i x σ G hx ⟨y, rfl, rfl, hr⟩
      obtain ⟨⟨z, n⟩, ez, a, rfl, dx, ha⟩ := kC.get hx
      have hok : z.ok n := shapes_ok (z, n) (List.mem_of_getElem? ez)
      have dr := drop_at ez
      rw [dr, List.find?_cons] at hr
      have hA : v = .str (z.text n) → Q (.ref a) G := fun e => by
        rw [decide_eq_true e] at hr
        exact q1 a z n _ hr sC ⟨dx, ha⟩
      have hB : v ≠ .str (z.text n) → readS v = (shapes.drop (i + 1)).find? fun z => decide (v = .str (z.1.text z.2)) := fun e => by
        rw [decide_eq_false e] at hr
        exact hr
      refine ⟨_, rfl, z, a, dx, _, rfl, ha, a, n, rfl, ⟨dx, ha⟩, hok, _, rfl, _, rfl, ?_⟩
      rcases hv with fl | ⟨b, xs, rfl, hb⟩ | ⟨b, rfl, db, hb⟩
      · refine .inl ⟨by cases v <;> first | rfl | exact fl.elim, _, rfl, ite2 (fun c => ⟨_, rfl, hA (of_decide_eq_true c).symm⟩) (fun c => ⟨_, rfl, rfl, hB fun e => c (decide_eq_true e.symm)⟩)⟩
      · exact .inr (.inl ⟨_, b, xs, rfl, rfl, hb.imp (Same.seq sC) (seqT_same sC), _, rfl, iteF ⟨_, rfl, rfl, hB fun e => by cases e⟩⟩)
      · exact .inr (.inr ⟨_, b, db, _, rfl, rfl, sC _ _ hb, b, .str (z.text n), 0, rfl, ⟨db, sC _ _ hb⟩, .inr ⟨.type "str", .base (.str _), Z.kt .one "str" (.inl rfl), _, rfl, iteF ⟨_, rfl, rfl, hB fun e => by cases e⟩⟩⟩)
    · rintro σ G ⟨y, rfl, rfl, hr⟩
      rw [lC] at hr
      exact q2 _ hr sC
theorem k_str {v : V} (h : flat0 v) : PySem.W.kitOne K (.type (tyN v)) (.type "str") = some (match v with | .str _ => true | _ => false) := by
  cases v <;> first | rfl | exact h.elim
theorem ok_lread {f fT : Addr} {fd fdT : FuncData} {k : Nat} (F : Fun K "_law_read" "_law_read" sLawRead f fd) (Z : Fms P w K mg base A) (Ft : Cal P w K mg base "_law_form_text" (k + 1) ["shape"] (spFtext K) fT fdT) (b_isinstance : mg "isinstance" = none) (b_str : mg "str" = none) : FnOk P w K mg base CX0 (k + 2) f fd ["thing"] (spLread K A) := by
  refine F.ok scLawRead (fun vs H Q E h => ?_) (fun cdv A' outer s H vs Q E hr h => ?_)
  · obtain ⟨v, rfl, _⟩ := h
    rfl
  · obtain ⟨v, rfl, hv, q1, q2⟩ := h
    refine ⟨_, (pss_cons (ps_set (i := 1) scLawRead.nd rfl (.inl rfl) (pe_op op_cat (pe_lst (pa_cons (pe_tup (pa_cons pe_str (pa_cons pe_int pa_nil))) (pa_cons (pe_tup (pa_cons pe_str (pa_cons pe_int pa_nil))) (pa_cons (pe_tup (pa_cons pe_str (pa_cons pe_int pa_nil))) pa_nil)))) (pe_lc (own := [("k", 2)]) (g := gName 2) (tt := tYes) rfl scLawRead.nd (pi_tup (pe_tup (pa_cons pe_int (pa_cons pe_int (pa_cons pe_int pa_nil))))) (blkOk_by (own := [("k", 2)]) (N := ["thing", "shapes", "k", "shape"]) (sc := defScope sLawRead) (by decide +kernel)) (fun _ _ _ _ _ => (pg_name (i := 2) scLawRead.nd rfl (.inl rfl) (.inr rfl))) (fun _ _ _ _ _ => pts_nil) (fun _ _ _ _ _ => (pe_tup (pa_cons pe_str (pa_cons (pv 2) pa_nil)))))))
      (pss_cons (ps_for PassesOwn.never rfl (pi_list (pe_op op_cat (pv 1) (pe_lc (own := [("k", 2)]) (g := gName 2) (tt := tYes) rfl scLawRead.nd (pi_tup (pe_tup (pa_cons pe_int (pa_cons pe_int (pa_cons pe_int (pa_cons pe_int pa_nil)))))) (blkOk_by (own := [("k", 2)]) (N := ["thing", "shapes", "k", "shape"]) (sc := defScope sLawRead) (by decide +kernel)) (fun _ _ _ _ _ => (pg_name (i := 2) scLawRead.nd rfl (.inl rfl) (.inr rfl))) (fun _ _ _ _ _ => pts_nil) (fun _ _ _ _ _ => (pe_tup (pa_cons pe_str (pa_cons (pv 2) pa_nil))))))) (pg_name (i := 3) scLawRead.nd rfl (.inl rfl))
        (pss_one (ps_if (PW.pt (pw_and (pt_val (pe_callB call_isi rfl b_isinstance (by decide +kernel) (pa_cons (pv 0) (pa_cons (pe_ty "str" rfl b_str (by decide +kernel)) pa_nil)))) (pw_and1 (pt_cmpR op_eq (pv 0) (pe_call Ft.ok (hr.mono (by omega)) rfl Ft.g Ft.kp Ft.b .nil pass0 (pa_cons (pv 3) pa_nil)) (nomark _))))) (pss_one (ps_ret (pv 3))) pss_nil)))
      (pss_one (ps_ret pe_non)))), ?_⟩
    have es0 : ∀ z : Nat, z ≤ 10000 → z ≤ sizeLine := fun z hz => by rw [sizeLine_eq]; omega
    refine ⟨es0 2 (by decide), fun p1 n1 => ⟨es0 2 (by decide), fun p2 n2 => ⟨es0 2 (by decide), fun p3 n3 => ⟨es0 3 (by decide), fun l0 n0 => ?_⟩⟩⟩⟩
    have s2 := same_upd (o := .tup [.str "ticks", .int 0]) n2
    have s3 := same_upd (o := .tup [.str "ranks", .int 0]) n3
    have s0 := same_upd (o := .lst [.ref p1, .ref p2, .ref p3]) n0
    have kA : R2s (TP (upd (upd (upd (upd H p1 (.tup [.str "one", .int 0])) p2 (.tup [.str "ticks", .int 0])) p3 (.tup [.str "ranks", .int 0])) l0 (.lst [.ref p1, .ref p2, .ref p3]))) [.ref p1, .ref p2, .ref p3] [(.one, 0), (.ticks, 0), (.ranks, 0)] :=
      ⟨⟨p1, rfl, s0 _ _ (s3 _ _ (s2 _ _ upd_same))⟩, ⟨p2, rfl, s0 _ _ (s3 _ _ upd_same)⟩, ⟨p3, rfl, s0 _ _ upd_same⟩, trivial⟩
    have sA := (((same_upd (o := .tup [.str "one", .int 0]) n1).trans s2).trans s3).trans s0
    have eA : (upd (upd (upd (upd H p1 (.tup [.str "one", .int 0])) p2 (.tup [.str "ticks", .int 0])) p3 (.tup [.str "ranks", .int 0])) l0 (.lst [.ref p1, .ref p2, .ref p3])) l0 = some (.lst [.ref p1, .ref p2, .ref p3]) := upd_same
    generalize upd (upd (upd (upd H p1 (.tup [.str "one", .int 0])) p2 (.tup [.str "ticks", .int 0])) p3 (.tup [.str "ranks", .int 0])) l0 (.lst [.ref p1, .ref p2, .ref p3]) = HA at kA sA eA ⊢
    generalize [V.ref p1, .ref p2, .ref p3] = xA at kA eA ⊢
    clear s2 s3 s0 n1 n2 n3 n0
    refine ⟨es0 3 (by decide), fun t nt => ⟨t, rfl, ⟨_, SqT.of upd_same⟩, fun D nD => ?_⟩⟩
    have st := same_upd (o := .tup [.int 1, .int 2, .int 3]) nt
    have et : (upd HA t (.tup [.int 1, .int 2, .int 3])) t = some (.tup [.int 1, .int 2, .int 3]) := upd_same
    generalize upd HA t (.tup [.int 1, .int 2, .int 3]) = HT at st et nD ⊢
    refine lc_tup (xs := [.int 1, .int 2, .int 3]) (fun i G => Same HT G ∧ ∃ ys, G D = some (.lst ys) ∧ R2s (TP G) ys ((List.range i).map fun j => (Fk.points, j + 1))) ⟨same_upd nD, [], upd_same, trivial⟩ (fun i G _ h => SqT.of (h.1 _ _ et)) ?_ ?_
    · rintro i x G hx ⟨s1, ys, hD, hY⟩
      have hi : i < 3 := (List.getElem?_eq_some_iff.mp hx).1
      have ex : x = .int ((i + 1 : Nat) : Int) := by
        have : i = 0 ∨ i = 1 ∨ i = 2 := by omega
        rcases this with rfl | rfl | rfl <;> (cases hx; rfl)
      subst ex
      have ly : ys.length = i := by rw [hY.len, List.length_map, List.length_range]
      refine ⟨rfl, ?_⟩
      unfold tYes
      refine iteT ⟨_, rfl, es0 2 (by decide), fun p np => ?_⟩
      have s2 := same_upd (o := .tup [.str "points", .int ((i + 1 : Nat) : Int)]) np
      have hD2 := s2 _ _ hD
      refine ⟨ys, hD2, by rw [sizeLine_eq]; omega, same_updF nD (s1.trans s2), _, upd_same, ?_⟩
      rw [List.range_succ, List.map_append]
      exact R2s.snoc (TP.put hD2 ⟨p, rfl, upd_same⟩) (R2s.imp (fun v r h => TP.put hD2 (TP.same s2 h)) hY)
    rintro G ⟨s1, ys, hD, hY⟩
    have ly : ys.length = 3 := hY.len
    have lA : xA.length = 3 := kA.len
    have sG := st.trans s1
    refine ⟨l0, D, _, _, rfl, rfl, sG _ _ eA, hD, es0 _ (by omega), fun l1 n1 => ?_⟩
    have s2 := same_upd (o := .lst (xA ++ ys)) n1
    have kB : R2s (TP (upd G l1 (.lst (xA ++ ys)))) (xA ++ ys) [(.one, 0), (.ticks, 0), (.ranks, 0), (.points, 1), (.points, 2), (.points, 3)] := R2s.imp (fun v r h => TP.same s2 h) (R2s.app hY (R2s.imp (fun v r h => TP.same sG h) kA))
    have sB : Same H (upd G l1 (.lst (xA ++ ys))) := (sA.trans sG).trans s2
    have eB : (upd G l1 (.lst (xA ++ ys))) l1 = some (.lst (xA ++ ys)) := upd_same
    generalize upd G l1 (.lst (xA ++ ys)) = HB at sB kB eB ⊢
    generalize xA ++ ys = xB at kB eB ⊢
    clear s1 hD hY ly nD sG s2 n1 st et nt kA lA eA sA
    refine ⟨_, rfl, es0 4 (by decide), fun t nt => ⟨t, rfl, ⟨_, SqT.of upd_same⟩, fun D nD => ?_⟩⟩
    have st := same_upd (o := .tup [.int 1, .int 2, .int 3, .int 4]) nt
    have et : (upd HB t (.tup [.int 1, .int 2, .int 3, .int 4])) t = some (.tup [.int 1, .int 2, .int 3, .int 4]) := upd_same
    generalize upd HB t (.tup [.int 1, .int 2, .int 3, .int 4]) = HT at st et nD ⊢
    refine lc_tup (xs := [.int 1, .int 2, .int 3, .int 4]) (fun i G => Same HT G ∧ ∃ ys, G D = some (.lst ys) ∧ R2s (TP G) ys ((List.range i).map fun j => (Fk.lists, j + 1))) ⟨same_upd nD, [], upd_same, trivial⟩ (fun i G _ h => SqT.of (h.1 _ _ et)) ?_ ?_
    · rintro i x G hx ⟨s1, ys, hD, hY⟩
      have hi : i < 4 := (List.getElem?_eq_some_iff.mp hx).1
      have ex : x = .int ((i + 1 : Nat) : Int) := by
        have : i = 0 ∨ i = 1 ∨ i = 2 ∨ i = 3 := by omega
        rcases this with rfl | rfl | rfl | rfl <;> (cases hx; rfl)
      subst ex
      have ly : ys.length = i := by rw [hY.len, List.length_map, List.length_range]
      refine ⟨rfl, ?_⟩
      unfold tYes
      refine iteT ⟨_, rfl, es0 2 (by decide), fun p np => ?_⟩
      have s2 := same_upd (o := .tup [.str "lists", .int ((i + 1 : Nat) : Int)]) np
      have hD2 := s2 _ _ hD
      refine ⟨ys, hD2, by rw [sizeLine_eq]; omega, same_updF nD (s1.trans s2), _, upd_same, ?_⟩
      rw [List.range_succ, List.map_append]
      exact R2s.snoc (TP.put hD2 ⟨p, rfl, upd_same⟩) (R2s.imp (fun v r h => TP.put hD2 (TP.same s2 h)) hY)
    rintro G ⟨s1, ys, hD, hY⟩
    have ly : ys.length = 4 := hY.len
    have lB : xB.length = 6 := kB.len
    have sG := st.trans s1
    refine ⟨l1, D, _, _, rfl, rfl, sG _ _ eB, hD, es0 _ (by omega), fun l n1 => ?_⟩
    have s2 := same_upd (o := .lst (xB ++ ys)) n1
    have kC : R2s (TP (upd G l (.lst (xB ++ ys)))) (xB ++ ys) shapes := R2s.imp (fun v r h => TP.same s2 h) (R2s.app hY (R2s.imp (fun v r h => TP.same sG h) kB))
    have sC : Same H (upd G l (.lst (xB ++ ys))) := (sB.trans sG).trans s2
    have eC : (upd G l (.lst (xB ++ ys))) l = some (.lst (xB ++ ys)) := upd_same
    generalize upd G l (.lst (xB ++ ys)) = HC at sC kC eC ⊢
    generalize xB ++ ys = xC at kC eC ⊢
    have lC : xC.length = 10 := kC.len
    refine ⟨_, rfl, ⟨_, SqL.of eC⟩, for_list (K := K) (a := l) (xs := xC) (fun i σ G => ∃ x1 y, σ = [some v, x1, none, y] ∧ G = HC ∧ readS v = (shapes.drop i).find? fun z => decide (v = .str (z.1.text z.2))) ⟨_, none, rfl, rfl, rfl⟩ (fun i σ G _ ⟨_, _, _, e, _⟩ => e ▸ SqL.of eC) ?_ ?_⟩
    · rintro i x σ G hx ⟨x1, y, rfl, rfl, hr⟩
      obtain ⟨⟨z, n⟩, ez, a, rfl, ha⟩ := kC.get hx
      have hok : z.ok n := shapes_ok (z, n) (List.mem_of_getElem? ez)
      rw [drop_at ez, List.find?_cons] at hr
      have hA : v = .str (z.text n) → Q (.ref a) G := fun e => by
        rw [decide_eq_true e] at hr
        exact q1 a z n _ hr sC ha
      have hB : v ≠ .str (z.text n) → readS v = (shapes.drop (i + 1)).find? fun z => decide (v = .str (z.1.text z.2)) := fun e => by
        rw [decide_eq_false e] at hr
        exact hr
      rcases hv with fl | ⟨b, xs, rfl, hb⟩ | ⟨b, rfl, db, hb⟩
      · refine ⟨_, rfl, _, _, _, _, _, rfl, .ty _, ty_flat fl, k_str fl, _, rfl, ?_⟩
        cases v with
        | str u => exact iteT ⟨_, rfl, _, rfl, a, z.word, n, rfl, SqT.of ha, Fk.ok4 hok, z.wlen, rfl, _, rfl, ite2 (fun c => ⟨_, rfl, hA (of_decide_eq_true c)⟩) (fun c => ⟨_, _, rfl, rfl, hB fun e => c (decide_eq_true e)⟩)⟩
        | non => exact iteF ⟨_, _, rfl, rfl, hB fun e => by cases e⟩
        | bl _ => exact iteF ⟨_, _, rfl, rfl, hB fun e => by cases e⟩
        | int _ => exact iteF ⟨_, _, rfl, rfl, hB fun e => by cases e⟩
        | _ => exact fl.elim
      · rcases hb with hb | hb
        · exact ⟨_, rfl, _, _, _, _, false, rfl, .ty _, ty_list (Same.seq sC hb), rfl, _, rfl, iteF ⟨_, _, rfl, rfl, hB fun e => by cases e⟩⟩
        · exact ⟨_, rfl, _, _, _, _, false, rfl, .ty _, ty_tup (seqT_same sC hb), rfl, _, rfl, iteF ⟨_, _, rfl, rfl, hB fun e => by cases e⟩⟩
      · exact ⟨_, rfl, _, _, _, _, false, rfl, .ty _, (Z.T .one).ty (sC _ _ hb), Z.ks .one, _, rfl, iteF ⟨_, _, rfl, rfl, hB fun e => by cases e⟩⟩
    · rintro σ G ⟨x1, y, rfl, rfl, hr⟩
      rw [lC] at hr
      exact q2 _ hr sC
end
end My

set_option Elab.async false
set_option linter.all false
set_option maxRecDepth 100000
namespace My
open PySem PySem.Spec PyProof.Rows L2
/-! the law's own listing of markings -/
abbrev sLawListing : Stmt := topS 36
theorem scLawListing : FnScope ["shape", "many", "tag", "top", "some", "k", "longer", "row", "mark", "last", "a", "pairs", "pair"] ["shape", "many"] (defScope sLawListing) := ⟨rfl, rfl, rfl, by decide +kernel, rfl, by decide +kernel, by decide +kernel⟩
def rTupOf (K : PySem.W.Frag) : List V → Hp → VK → Prop := fun xs H Q => ∃ p ys, xs = [.ref p] ∧ ((SqL K H p ys ∧ ∀ l, H l = none → Q (.ref l) (upd H l (.tup ys))) ∨ (SqT K H p ys ∧ Q (.ref p) H))
def spListing (K : PySem.W.Frag) : Sp := fun vs H Q _ => ∃ (p : Addr) (x : Fk) (n m : Nat), vs = [.ref p, .int m] ∧ SqT K H p [.str x.word, .int n] ∧ x.ok n ∧ 2 ≤ m ∧ m ≤ 5 ∧ ∀ l xs H', Same H H' → H l = none → H' l = some (.lst xs) → TRs H' xs (x.rows n m) → Q (.ref l) H'
/-! what the listing gives -/
theorem sorted_mrows : ∀ k, k < 4 → ∀ m, m < 6 → sortL (mrows k m) = mrows k m := by decide +kernel
def allOrders (m : Nat) : Nat → List (List Int)
  | 0 => [[]]
  | i + 1 => allOrders m i ++ orders m (i + 1)
theorem rank_all (m : Nat) : ∀ i, (allOrders m i).map (rankL m) = rankRows0 m i
  | 0 => rfl
  | i + 1 => by
    show (allOrders m i ++ orders m (i + 1)).map (rankL m) = _
    rw [List.map_append, rank_all m i]
    rfl
theorem allOrders_len {m : Nat} (hm : m ≤ 5) (i : Nat) : (allOrders m i).length ≤ 6 ^ i := by
  have := rankRows0_len hm i
  rw [← rank_all, List.length_map] at this
  exact this
/-- the pairs of one and of lists -/
def prs (o : Bool) (top m : Nat) : List (List Int) := ([[(m : Int), (m : Int)]] ++ ((List.range m).filter fun a => o || decide (a < top)).map fun a : Nat => [(a : Int), (a : Int)]) ++ ((List.range m).filter fun a => !o && decide (top ≤ a)).map fun a : Nat => [(a : Int), (a : Int) % (top : Int)]
theorem one_rows : ∀ m, m < 6 → 2 ≤ m → sortL ((prs true 0 m).map (markL m)) = oneRows m := by decide +kernel
theorem list_rows : ∀ n, n < 4 → ∀ m, m < 6 → 2 ≤ m → sortL ((prs false (n + 1) m).map (markL m)) = listRows (n + 1) m := by decide +kernel
theorem prs_len (o : Bool) (top m : Nat) : (prs o top m).length ≤ 1 + m + m := by
  unfold prs
  rw [List.length_append, List.length_append, List.length_map, List.length_map]
  have a := List.length_filter_le (fun a => o || decide (a < top)) (List.range m)
  have b := List.length_filter_le (fun a => !o && decide (top ≤ a)) (List.range m)
  rw [List.length_range] at a b
  show 0 + 1 + _ + _ ≤ _
  omega
theorem filt_snoc {p : Nat → Bool} {i : Nat} : (List.range (i + 1)).filter p = (List.range i).filter p ++ if p i = true then [i] else [] := by
  rw [List.range_succ, List.filter_append, List.filter_cons, List.filter_nil]
theorem OTs.app {H : Hp} {ys : List V} {ss : List (List Int)} (k : OTs H ys ss) : ∀ {xs : List V} {rs : List (List Int)}, OTs H xs rs → OTs H (xs ++ ys) (rs ++ ss)
  | [], [], _ => k
  | [], _ :: _, h => h.elim
  | _ :: _, [], h => h.elim
  | _ :: _, _ :: _, h => ⟨h.1, OTs.app k h.2⟩
theorem joinedO {H G : Hp} {l : Addr} {xs ys : List V} {rs ss : List (List Int)} (hl : H l = none) (s : Same H G) (el : G l = some (.lst xs)) (kx : OTs G xs rs) (ky : OTs G ys ss) :
    Same H (upd G l (.lst (xs ++ ys))) ∧ (upd G l (.lst (xs ++ ys))) l = some (.lst (xs ++ ys)) ∧ OTs (upd G l (.lst (xs ++ ys))) (xs ++ ys) (rs ++ ss) :=
  ⟨same_updF hl s, upd_same, (OTs.app ky kx).imp fun v r h => h.put el⟩
section
variable {P : Program} {w : World} {K : PySem.W.Frag} {mg : Str → Option Value} {base : Heap}
theorem ok_listing {f : Addr} {fd : FuncData} {k : Nat} (F : Fun K "_law_listing" "_law_listing" sLawListing f fd) (b_range : mg "range" = none) (b_max : mg "max" = none) (b_sorted : mg "sorted" = none) (b_tuple : mg "tuple" = none) (b_int : mg "int" = none) : FnOk P w K mg base CX0 (k + 1) f fd ["shape", "many"] (spListing K) := by
  refine F.ok scLawListing (fun vs H Q E h => ?_) (fun cdv A' outer s H vs Q E hr h => ?_)
  · obtain ⟨p, x, n, m, rfl, _⟩ := h
    rfl
  · obtain ⟨p, x, n, m, rfl, hp, ok, m2, m5, q⟩ := h
    refine ⟨_, (pss_cons (ps_asg (pv 0) (pg_tup rfl (pgs_cons (pg_name (i := 2) scLawListing.nd rfl (.inr rfl)) (pgs_cons (pg_name (i := 3) scLawListing.nd rfl (.inr rfl)) pgs_nil))))
      (pss_cons (ps_set (i := 4) scLawListing.nd rfl (.inl rfl) (pe_lst (pa_cons (pe_tup pa_nil) pa_nil)))
      (pss_cons (ps_if (pt_cmpR op_in_seq (pv 2) (pe_tup (pa_cons pe_str (pa_cons pe_str pa_nil))) rfl) (pss_cons (ps_for PassesOwn.never rfl (pi_range1 rfl b_range (pa_cons (pv 1) pa_nil)) (pg_name (i := 5) scLawListing.nd rfl (.inl rfl))
          (pss_cons (ps_set (i := 6) scLawListing.nd rfl (.inl rfl) (pe_lst pa_nil))
          (pss_cons (ps_for PassesOwn.never rfl (pi_list (pv 4)) (pg_name (i := 7) scLawListing.nd rfl (.inr rfl))
            (pss_one (ps_expr (pe_bm PySem.F.plainAttrs_list PySem.F.slot_list_extend PySem.F.type_list_extend mt_extend (pv 6) (pa_cons (pe_lc (own := [("mark", 8)]) (g := gName 8) (tt := tYes) (te := tOp (rCatA K) (tVar 7) (tTup (tCons (tVar 8) tNil))) rfl scLawListing.nd (pi_range1 rfl b_range (pa_cons (pe_op op_add (pe_callB (call_max2 rfl) rfl b_max (by decide +kernel) (pa_cons pe_int (pa_cons (pv 3) pa_nil))) pe_int) pa_nil)) (blkOk_by (own := [("mark", 8)]) (N := ["shape", "many", "tag", "top", "some", "k", "longer", "row", "mark", "last", "a", "pairs", "pair"]) (sc := defScope sLawListing) (by decide +kernel)) (fun _ _ _ _ _ => (pg_name (i := 8) scLawListing.nd rfl (.inl rfl) (.inr rfl))) (fun _ _ _ _ _ => pts_nil) (fun _ _ _ _ _ => (pe_op op_catA (pv 7) (pe_tup (pa_cons (pv 8) pa_nil))))) pa_nil)))))
          (pss_one (ps_set (i := 4) scLawListing.nd rfl (.inl rfl) (pv 6))))))
        (pss_one (ps_ret (pe_callB cr_sortedL rfl b_sorted (by decide +kernel) (pa_cons (pv 4) pa_nil))))) pss_nil)
      (pss_cons (ps_if (pt_cmpR op_eq (pv 2) pe_str rfl) (pss_cons (ps_set (i := 9) scLawListing.nd rfl (.inl rfl) (pe_lst (pa_cons (pe_tup pa_nil) pa_nil)))
        (pss_cons (ps_for PassesOwn.never rfl (pi_range1 rfl b_range (pa_cons (pv 1) pa_nil)) (pg_name (i := 5) scLawListing.nd rfl (.inl rfl))
          (pss_cons (ps_set (i := 6) scLawListing.nd rfl (.inl rfl) (pe_lst pa_nil))
          (pss_cons (ps_for PassesOwn.never rfl (pi_list (pv 9)) (pg_name (i := 7) scLawListing.nd rfl (.inr rfl))
            (pss_one (ps_expr (pe_bm PySem.F.plainAttrs_list PySem.F.slot_list_extend PySem.F.type_list_extend mt_extend (pv 6) (pa_cons (pe_lc (own := [("a", 10)]) (g := gName 10) (tt := tTest (tOp (rIn K true) (tVar 10) (tVar 7))) (te := tOp (rCatF K) (tVar 7) (tTupF (tCons (tVar 10) tNil))) rfl scLawListing.nd (pi_range1 rfl b_range (pa_cons (pv 1) pa_nil)) (blkOk_by (own := [("a", 10)]) (N := ["shape", "many", "tag", "top", "some", "k", "longer", "row", "mark", "last", "a", "pairs", "pair"]) (sc := defScope sLawListing) (by decide +kernel)) (fun _ _ _ _ _ => (pg_name (i := 10) scLawListing.nd rfl (.inl rfl) (.inr rfl))) (fun _ _ _ _ _ => (pts_one (pt_cmpR op_notIn_seq (pv 10) (pv 7) rfl))) (fun _ _ _ _ _ => (pe_op op_catF (pv 7) (pe_tupF (pa_cons (pv 10) pa_nil))))) pa_nil)))))
          (pss_cons (ps_expr (pe_bm PySem.F.plainAttrs_list PySem.F.slot_list_extend PySem.F.type_list_extend mt_extend (pv 4) (pa_cons (pv 6) pa_nil)))
          (pss_one (ps_set (i := 9) scLawListing.nd rfl (.inl rfl) (pv 6)))))))
        (pss_one (ps_ret (pe_callB cr_sortedL rfl b_sorted (by decide +kernel) (pa_cons (pe_lc (own := [("row", 7)]) (g := gName 7) (tt := tYes) (te := tCB (rTupOf K) (tCons (tLc (iRng1 (tCons (tVar 1) tNil)) (gName 10) tYes (tIf (tTest (tOp (rIn K false) (tVar 10) (tVar 7))) (tOp (rI0 fun i j => .int (i - j)) (tVar 1) (tMG tyTup (rIndexT K) (tVar 7) (tCons (tVar 10) tNil))) (tC (.int 0))) [10]) tNil)) rfl scLawListing.nd (pi_list (pv 4)) (blkOk_by (own := [("row", 7)]) (N := ["shape", "many", "tag", "top", "some", "k", "longer", "row", "mark", "last", "a", "pairs", "pair"]) (sc := defScope sLawListing) (by decide +kernel)) (fun _ _ _ _ _ => (pg_name (i := 7) scLawListing.nd rfl (.inr rfl) (.inl rfl))) (fun _ _ _ _ _ => pts_nil) (fun _ _ _ _ _ => (pe_callTy call_tuple_of rfl b_tuple (by decide +kernel) (pa_cons (pe_lc (own := [("a", 10)]) (g := gName 10) (tt := tYes) (te := tIf (tTest (tOp (rIn K false) (tVar 10) (tVar 7))) (tOp (rI0 fun i j => .int (i - j)) (tVar 1) (tMG tyTup (rIndexT K) (tVar 7) (tCons (tVar 10) tNil))) (tC (.int 0))) rfl scLawListing.nd (pi_range1 rfl b_range (pa_cons (pv 1) pa_nil)) (blkOk_by (own := [("a", 10)]) (N := ["shape", "many", "tag", "top", "some", "k", "longer", "row", "mark", "last", "a", "pairs", "pair"]) rfl) (fun _ _ _ _ _ => (pg_name (i := 10) scLawListing.nd rfl (.inl rfl) (.inr rfl))) (fun _ _ _ _ _ => pts_nil) (fun _ _ _ _ _ => (pe_ifExp (pt_cmpR op_in_seq (pv 10) (pv 7) rfl) (pe_op op_sub (pv 1) (pe_mG ty_tupOk PySem.F.plainAttrs_tuple PySem.F.slot_tuple_index PySem.F.type_tuple_index mt_tindex (pv 7) (pa_cons (pv 10) pa_nil))) pe_int))) pa_nil)))) pa_nil)))))) pss_nil)
      (pss_cons (ps_set (i := 11) scLawListing.nd rfl (.inl rfl) (pe_op op_cat (pe_lst (pa_cons (pe_tup (pa_cons (pv 1) (pa_cons (pv 1) pa_nil))) pa_nil)) (pe_lc (own := [("a", 10)]) (g := gName 10) rfl scLawListing.nd (pi_range1 rfl b_range (pa_cons (pv 1) pa_nil)) (blkOk_by (own := [("a", 10)]) (N := ["shape", "many", "tag", "top", "some", "k", "longer", "row", "mark", "last", "a", "pairs", "pair"]) (sc := defScope sLawListing) (by decide +kernel)) (fun _ _ _ _ _ => (pg_name (i := 10) scLawListing.nd rfl (.inl rfl) (.inr rfl))) (fun _ _ _ _ _ => (pts_one (PW.pt (pw_or (pt_cmpR op_eq (pv 2) pe_str rfl) (pw_or1 (pt_cmpR op_lt (pv 10) (pv 3) rfl)))))) (fun _ _ _ _ _ => (pe_tup (pa_cons (pv 10) (pa_cons (pv 10) pa_nil)))))))
      (pss_cons (ps_expr (pe_bm PySem.F.plainAttrs_list PySem.F.slot_list_extend PySem.F.type_list_extend mt_extend (pv 11) (pa_cons (pe_lc (own := [("a", 10)]) (g := gName 10) rfl scLawListing.nd (pi_range1 rfl b_range (pa_cons (pv 1) pa_nil)) (blkOk_by (own := [("a", 10)]) (N := ["shape", "many", "tag", "top", "some", "k", "longer", "row", "mark", "last", "a", "pairs", "pair"]) (sc := defScope sLawListing) (by decide +kernel)) (fun _ _ _ _ _ => (pg_name (i := 10) scLawListing.nd rfl (.inl rfl) (.inr rfl))) (fun _ _ _ _ _ => (pts_one (PW.pt (pw_and (pt_cmpR op_eq (pv 2) pe_str rfl) (pw_and1 (pt_cmpR op_ge (pv 10) (pv 3) rfl)))))) (fun _ _ _ _ _ => (pe_tup (pa_cons (pv 10) (pa_cons (pe_op op_mod (pe_callTy call_int1 rfl b_int (by decide +kernel) (pa_cons (pv 10) pa_nil)) (pv 3)) pa_nil))))) pa_nil)))
      (pss_one (ps_ret (pe_callB cr_sortedL rfl b_sorted (by decide +kernel) (pa_cons (pe_lc (own := [("pair", 12)]) (g := gName 12) (tt := tYes) (te := tCB (rTupOf K) (tCons (tLc (iRng1 (tCons (tVar 1) tNil)) (gName 10) tYes (tIf (tTest (tOp (rIn K false) (tVar 10) (tVar 12))) (tC (.int 1)) (tC (.int 0))) [10]) tNil)) rfl scLawListing.nd (pi_list (pv 11)) (blkOk_by (own := [("pair", 12)]) (N := ["shape", "many", "tag", "top", "some", "k", "longer", "row", "mark", "last", "a", "pairs", "pair"]) (sc := defScope sLawListing) (by decide +kernel)) (fun _ _ _ _ _ => (pg_name (i := 12) scLawListing.nd rfl (.inr rfl) (.inl rfl))) (fun _ _ _ _ _ => pts_nil) (fun _ _ _ _ _ => (pe_callTy call_tuple_of rfl b_tuple (by decide +kernel) (pa_cons (pe_lc (own := [("a", 10)]) (g := gName 10) (tt := tYes) (te := tIf (tTest (tOp (rIn K false) (tVar 10) (tVar 12))) (tC (.int 1)) (tC (.int 0))) rfl scLawListing.nd (pi_range1 rfl b_range (pa_cons (pv 1) pa_nil)) (blkOk_by (own := [("a", 10)]) (N := ["shape", "many", "tag", "top", "some", "k", "longer", "row", "mark", "last", "a", "pairs", "pair"]) rfl) (fun _ _ _ _ _ => (pg_name (i := 10) scLawListing.nd rfl (.inl rfl) (.inr rfl))) (fun _ _ _ _ _ => pts_nil) (fun _ _ _ _ _ => (pe_ifExp (pt_cmpR op_in_seq (pv 10) (pv 12) rfl) pe_int pe_int))) pa_nil)))) pa_nil)))))))))), ?_⟩
    have es0 : ∀ z : Nat, z ≤ 10000 → z ≤ sizeLine := fun z hz => by rw [sizeLine_eq]; omega
    refine ⟨_, rfl, p, _, rfl, hp, rfl, .str x.word, [.int n], rfl, .int n, [], rfl, rfl, ?_⟩
    refine ⟨es0 0 (by decide), fun t0 nt0 => ⟨es0 1 (by decide), fun l0 nl0 => ?_⟩⟩
    have s0 := (same_upd (o := .tup []) nt0).trans (same_upd (o := .lst [.ref t0]) nl0)
    have et0 : (upd (upd H t0 (.tup [])) l0 (.lst [.ref t0])) t0 = some (.tup []) := same_upd nl0 _ _ upd_same
    have el0 : (upd (upd H t0 (.tup [])) l0 (.lst [.ref t0])) l0 = some (.lst [.ref t0]) := upd_same
    have hl0 : H l0 = none := (same_upd nt0).free nl0
    generalize upd (upd H t0 (.tup [])) l0 (.lst [.ref t0]) = H0 at s0 et0 el0 ⊢
    refine ⟨_, rfl, es0 2 (by decide), fun t1 nt1 => ?_⟩
    have s1 := s0.trans (same_upd (o := .tup [.str "ticks", .str "points"]) nt1)
    have et1 := same_upd (o := .tup [.str "ticks", .str "points"]) nt1 _ _ et0
    have el1 := same_upd (o := .tup [.str "ticks", .str "points"]) nt1 _ _ el0
    have e1 : (upd H0 t1 (.tup [.str "ticks", .str "points"])) t1 = some (.tup [.str "ticks", .str "points"]) := upd_same
    generalize upd H0 t1 (.tup [.str "ticks", .str "points"]) = H1 at s1 et1 el1 e1 ⊢
    clear s0 et0 el0 nt1 nt0 nl0
    refine ⟨t1, _, rfl, .inr (SqT.of e1), rfl, rfl, _, rfl, ?_⟩
    have three : (x = .ticks ∨ x = .points) ∨ x = .ranks ∨ (x = .one ∨ x = .lists) := by cases x <;> simp
    rcases three with hx | hx | hx
    · obtain ⟨kk, k1, k3, ek, er⟩ : ∃ kk : Nat, 1 ≤ kk ∧ kk ≤ 3 ∧ (if (n : Int) > 1 then (n : Int) else 1) = (kk : Int) ∧ x.rows n m = mrows kk m := by
        rcases hx with rfl | rfl
        · have e : n = 0 := ok
          subst e
          exact ⟨1, by decide, by decide, by decide, rfl⟩
        · have e : 1 ≤ n ∧ n ≤ 3 := ok
          refine ⟨n, e.1, e.2, ?_, rfl⟩
          by_cases c : (n : Int) > 1
          · rw [if_pos c]
          · rw [if_neg c]
            omega
      have c1 : (if false = true then !inV (V.str x.word) [.str "ticks", .str "points"] else inV (V.str x.word) [.str "ticks", .str "points"]) = true := by rcases hx with rfl | rfl <;> decide +kernel
      rw [er] at q
      refine ifT c1 ?_
      refine ⟨_, rfl, m, rfl, by omega, by omega, for_range (n := m) (fun i σ G => ∃ l xs x5 x6 x7, σ = [some (.ref p), some (.int m), some (.str x.word), some (.int n), some (.ref l), x5, x6, x7, none, none, none, none, none] ∧ Same H G ∧ H l = none ∧ G l = some (.lst xs) ∧ TRs G xs (mrows kk i)) ⟨l0, _, _, _, _, rfl, s1, hl0, el1, ⟨⟨t0, rfl, et1⟩, trivial⟩⟩ ?_ ?_⟩
      · rintro i σ G hi ⟨l, xs, x5, x6, x7, rfl, sG, hl, eG, hR⟩
        have len0 : xs.length = (kk + 1) ^ i := by rw [hR.len, mrows_len]
        have big : xs.length * (kk + 1) ≤ 1024 := by
          rw [len0, ← Nat.pow_succ]
          calc (kk + 1) ^ (i + 1) ≤ 4 ^ (i + 1) := Nat.pow_le_pow_left (by omega) _
            _ ≤ 4 ^ 5 := Nat.pow_le_pow_right (by decide) (by omega)
            _ = 1024 := by decide
        refine ⟨es0 0 (by decide), fun L nL => ?_⟩
        have nlL : l ≠ L := fun e => by rw [e, nL] at eG; cases eG
        refine ⟨_, rfl, l, rfl, ⟨_, SqL.of (by rw [upd_ne nlL]; exact eG)⟩, for_list (K := K) (a := l) (xs := xs) (fun j σ2 G2 => ∃ x7 ys, σ2 = [some (.ref p), some (.int m), some (.str x.word), some (.int n), some (.ref l), some (.int (0 + (i : Int))), some (.ref L), x7, none, none, none, none, none] ∧ Same G G2 ∧ G2 L = some (.lst ys) ∧ TRs G2 ys (mstep kk ((mrows kk i).take j))) ⟨_, [], rfl, same_upd nL, upd_same, trivial⟩ (fun j σ2 G2 _ ⟨_, _, _, s, _⟩ => SqL.of (s _ _ eG)) ?_ ?_⟩
        · rintro j y σ2 G2 hy ⟨x7, ys, rfl, s2, hL, hY⟩
          obtain ⟨r, er, kr⟩ := hR.get hy
          obtain ⟨tx, rfl, htx⟩ := kr
          have lt : j < xs.length := (List.getElem?_eq_some_iff.mp hy).1
          have ly : ys.length ≤ j * (kk + 1) := by
            rw [hY.len, mstep_len, List.length_take]
            exact Nat.mul_le_mul_right _ (Nat.min_le_left _ _)
          have lb : j * (kk + 1) + (kk + 1) ≤ 1024 := by
            rw [← Nat.succ_mul]
            exact Nat.le_trans (Nat.mul_le_mul_right _ lt) big
          have lr : r.length ≤ 5 := by
            have := mrows_row kk i r (List.mem_of_getElem? er)
            omega
          refine ⟨_, rfl, .inl ⟨rfl, _, SqL.of hL⟩, _, rfl, 1, n, rfl, _, 1, rfl, rfl, _, rfl, ?_⟩
          rw [ek]
          refine ⟨by omega, by omega, fun D nD => ?_⟩
          have en : ((kk : Int) + 1).toNat = kk + 1 := by omega
          refine lc_range (n := ((kk : Int) + 1).toNat) (fun a G3 => Same G2 G3 ∧ ∃ zs, G3 D = some (.lst zs) ∧ TRs G3 zs ((List.range a).map fun j : Nat => r ++ [(j : Int)])) ⟨same_upd nD, [], upd_same, trivial⟩ ?_ ?_
          · rintro a G3 ha ⟨s3, zs, hZ, kZ⟩
            have lz : zs.length = a := by rw [kZ.len, List.length_map, List.length_range]
            have app : ∀ (y : V) (G4 : Hp), Same G3 G4 → TR G4 y (r ++ [(0 + (a : Int))]) → ∃ acc, G4 D = some (.lst acc) ∧ acc.length < sizeLine ∧ (Same G2 (upd G4 D (.lst (acc ++ [y]))) ∧ ∃ zs, (upd G4 D (.lst (acc ++ [y]))) D = some (.lst zs) ∧ TRs (upd G4 D (.lst (acc ++ [y]))) zs ((List.range (a + 1)).map fun j : Nat => r ++ [(j : Int)])) := by
              intro y G4 s4 ky
              obtain ⟨a1, a2, a3, a4⟩ := grow nD s3 hZ kZ s4 ky
              refine ⟨zs, a1, by rw [sizeLine_eq]; omega, a2, _, a3, ?_⟩
              rw [List.range_succ, List.map_append]
              rw [Int.zero_add] at a4
              exact a4
            refine ⟨rfl, ?_⟩
            unfold tYes
            refine iteT ⟨_, rfl, _, rfl, es0 1 (by decide), fun p np => ?_⟩
            have sp := same_upd (o := .tup [.int (0 + (a : Int))]) np
            refine ⟨tx, p, _, _, rfl, rfl, SqT.of (sp _ _ (s3 _ _ (s2 _ _ htx))), SqT.of upd_same, (by rw [List.length_map]; show _ + 1 ≤ sizeLine; rw [sizeLine_eq]; omega), fun e => ?_, (fun _ e => by cases e), fun e _ c nc => ?_⟩
            · have er' : r = [] := by cases r with
                | nil => rfl
                | cons _ _ => cases e
              exact app _ _ sp ⟨p, rfl, by rw [er', upd_same]; rfl⟩
            · refine app _ _ (sp.trans (same_upd nc)) ⟨c, rfl, ?_⟩
              rw [upd_same, List.map_append]
              rfl
          · rintro G3 ⟨s3, zs, hZ, kZ⟩
            rw [en] at kZ
            have lz : zs.length = kk + 1 := by rw [kZ.len, List.length_map, List.length_range]
            refine ⟨L, D, _, _, rfl, rfl, s3 _ _ hL, hZ, es0 _ (by omega), ?_⟩
            obtain ⟨b1, b2, b3⟩ := joined nL (s2.trans s3) (s3 _ _ hL) (hY.imp fun v r h => h.same s3) kZ
            exact ⟨_, _, rfl, b1, b2, by rw [mstep_take er]; exact b3⟩
        · rintro σ2 G2 ⟨x7, ys, rfl, s2, hL, hY⟩
          rw [hR.len, List.take_length] at hY
          exact ⟨_, rfl, L, ys, _, _, _, rfl, sG.trans s2, sG.free nL, hL, hY⟩
      · rintro σ G ⟨l, xs, x5, x6, x7, rfl, sG, hl, eG, hR⟩
        refine ⟨_, rfl, sorted_rows (SqL.of eG) hR (by omega : 1 ≤ m) (mrows_row kk m) fun l2 zs np kz => ?_⟩
        rw [sorted_mrows kk (by omega) m (by omega)] at kz
        exact q l2 zs _ (sG.trans (same_upd np)) (sG.free np) upd_same (kz.imp fun v r h => h.same (same_upd np))
    · subst hx
      have q' : ∀ (l : Addr) (xs : List V) (H' : Hp), Same H H' → H l = none → H' l = some (.lst xs) → TRs H' xs (rankRows m) → Q (.ref l) H' := q
      refine ifF (by decide +kernel) ⟨_, rfl, rfl, _, rfl, ifT (by decide +kernel) ?_⟩
      refine ⟨es0 0 (by decide), fun t2 nt2 => ⟨es0 1 (by decide), fun l1 nl1 => ?_⟩⟩
      have s2 := (same_upd (o := .tup []) nt2).trans (same_upd (o := .lst [.ref t2]) nl1)
      have el2 := s2 _ _ el1
      have kA : OTs (upd (upd H1 t2 (.tup [])) l1 (.lst [.ref t2])) [.ref t0] (allOrders m 0) := ⟨⟨t0, rfl, .inl ⟨rfl, s2 _ _ et1⟩⟩, trivial⟩
      have kO : OTs (upd (upd H1 t2 (.tup [])) l1 (.lst [.ref t2])) [.ref t2] (orders m 0) := ⟨⟨t2, rfl, .inl ⟨rfl, same_upd nl1 _ _ upd_same⟩⟩, trivial⟩
      have eO : (upd (upd H1 t2 (.tup [])) l1 (.lst [.ref t2])) l1 = some (.lst [.ref t2]) := upd_same
      have n10 : l1 ≠ l0 := (ne_of_none (same_upd (o := .tup []) nt2 _ _ el1) nl1).symm
      have sB := s1.trans s2
      generalize upd (upd H1 t2 (.tup [])) l1 (.lst [.ref t2]) = HB at sB el2 kA kO eO ⊢
      clear s1 s2 el1 et1 e1 nt2 nl1
      refine ⟨_, rfl, m, rfl, by omega, by omega, for_range (n := m) (fun i σ G => ∃ x5 x6 x7 o os xs, σ = [some (.ref p), some (.int m), some (.str Fk.ranks.word), some (.int n), some (.ref l0), x5, x6, x7, none, some (.ref o), none, none, none] ∧ Same H G ∧ G l0 = some (.lst xs) ∧ OTs G xs (allOrders m i) ∧ o ≠ l0 ∧ G o = some (.lst os) ∧ OTs G os (orders m i)) ⟨_, _, _, l1, _, _, rfl, sB, el2, kA, n10, eO, kO⟩ ?_ ?_⟩
      · rintro i σ G hi ⟨x5, x6, x7, o, os, xs, rfl, sG, eL0, kL, no, eO, kO⟩
        have lenO : os.length ≤ 5 ^ i := by rw [kO.len]; exact orders_len m5 i
        have lenX : xs.length ≤ 6 ^ i := by rw [kL.len]; exact allOrders_len m5 i
        have p5 : 5 ^ i ≤ 5 ^ 4 := Nat.pow_le_pow_right (by decide) (by omega)
        have p6 : 6 ^ i ≤ 6 ^ 4 := Nat.pow_le_pow_right (by decide) (by omega)
        have osl : os.length ≤ 625 := by omega
        have xsl : xs.length ≤ 1296 := by omega
        refine ⟨es0 0 (by decide), fun L nL => ?_⟩
        have noL : o ≠ L := fun e => by rw [e, nL] at eO; cases eO
        have n0L : l0 ≠ L := fun e => by rw [e, nL] at eL0; cases eL0
        refine ⟨_, rfl, o, rfl, ⟨_, SqL.of (by rw [upd_ne noL]; exact eO)⟩, for_list (K := K) (a := o) (xs := os) (fun j σ2 G2 => ∃ x7 ys, σ2 = [some (.ref p), some (.int m), some (.str Fk.ranks.word), some (.int n), some (.ref l0), some (.int (0 + (i : Int))), some (.ref L), x7, none, some (.ref o), none, none, none] ∧ Same G G2 ∧ G2 L = some (.lst ys) ∧ OTs G2 ys (ostep m ((orders m i).take j))) ⟨_, [], rfl, same_upd nL, upd_same, trivial⟩ (fun j σ2 G2 _ ⟨_, _, _, s, _⟩ => SqL.of (s _ _ eO)) ?_ ?_⟩
        · rintro j y σ2 G2 hy ⟨x7, ys, rfl, s2, hL, hY⟩
          obtain ⟨r, er, kr⟩ := kO.get hy
          have lt : j < os.length := (List.getElem?_eq_some_iff.mp hy).1
          have lr : r.length ≤ 5 := by
            have := orders_row i r (List.mem_of_getElem? er)
            omega
          have ly : ys.length ≤ j * 5 := by
            rw [hY.len]
            refine Nat.le_trans (ostep_len m _) ?_
            rw [List.length_take]
            exact Nat.mul_le_mul (Nat.min_le_left _ _) m5
          have krG := kr.same s2
          obtain ⟨tx, rfl, htx⟩ := kr
          refine ⟨_, rfl, .inl ⟨rfl, _, SqL.of hL⟩, _, rfl, m, rfl, by omega, by omega, fun D nD => ?_⟩
          refine lc_range (n := m) (fun a G3 => Same G2 G3 ∧ ∃ zs, G3 D = some (.lst zs) ∧ OTs G3 zs ((List.range a).flatMap (omore r))) ⟨same_upd nD, [], upd_same, trivial⟩ ?_ ?_
          · rintro a G3 ha ⟨s3, zs, hZ, kZ⟩
            have k3 := krG.same s3
            have lz : zs.length ≤ a := by rw [kZ.len]; exact omore_len r a
            have eS : (List.range (a + 1)).flatMap (omore r) = (List.range a).flatMap (omore r) ++ omore r a := by
              rw [List.range_succ, List.flatMap_append]
              simp
            refine ⟨rfl, ?_⟩
            refine ⟨_, rfl, _, rfl, tx, _, rfl, .inr k3.sq, rfl, flat_ints r, ?_⟩
            rw [if_pos rfl, inV_ints, Int.zero_add]
            refine ⟨_, rfl, ?_⟩
            rw [eS]
            refine ite2 (fun c => ?_) (fun c => ?_)
            · have c' : ¬ (a : Int) ∈ r := by simpa using c
              have eo : omore r a = [r ++ [(a : Int)]] := if_neg c'
              rw [eo]
              have app : ∀ (y : V) (G4 : Hp), Same G3 G4 → OT G4 y (r ++ [(a : Int)]) → ∃ acc, G4 D = some (.lst acc) ∧ acc.length < sizeLine ∧ (Same G2 (upd G4 D (.lst (acc ++ [y]))) ∧ ∃ ws, (upd G4 D (.lst (acc ++ [y]))) D = some (.lst ws) ∧ OTs (upd G4 D (.lst (acc ++ [y]))) ws ((List.range a).flatMap (omore r) ++ [r ++ [(a : Int)]])) := by
                intro y G4 s4 ky
                have hD4 := s4 _ _ hZ
                exact ⟨zs, hD4, by rw [sizeLine_eq]; omega, same_updF nD (s3.trans s4), zs ++ [y], upd_same, OTs.snoc (OT.put hD4 ky) ((kZ.imp fun v r h => h.same s4).imp fun v r h => h.put hD4)⟩
              refine ⟨_, rfl, _, rfl, es0 1 (by decide), fun p ob np dp => ?_⟩
              have sp := same_upd (o := .frz ob (.tup [.int (0 + (a : Int))])) np
              have kp := k3.same sp
              refine ⟨tx, p, _, _, rfl, rfl, kp.sq, .inl (.inr ⟨ob, upd_same⟩), es0 _ (by rw [List.length_map]; show _ + 1 ≤ 10000; omega), fun e => ?_, (fun _ e => by cases e), fun e _ cc ob2 nc dc => ?_⟩
              · have er' : r = [] := by cases r with
                  | nil => rfl
                  | cons _ _ => cases e
                refine app _ _ sp ⟨p, rfl, .inr ⟨ob, ?_, dp⟩⟩
                rw [er', upd_same, Int.zero_add]
                rfl
              · refine app _ _ (sp.trans (same_upd nc)) ⟨cc, rfl, .inr ⟨ob2, ?_, dc⟩⟩
                rw [upd_same, List.map_append, Int.zero_add]
                rfl
            · have c' : (a : Int) ∈ r := by
                by_cases z : (a : Int) ∈ r
                · exact z
                · exact absurd (by simp [z]) c
              have eo : omore r a = [] := if_pos c'
              rw [eo, List.append_nil]
              exact ⟨s3, zs, hZ, kZ⟩
          · rintro G3 ⟨s3, zs, hZ, kZ⟩
            have lz : zs.length ≤ 5 := by
              rw [kZ.len]
              exact Nat.le_trans (omore_len r m) m5
            refine ⟨L, D, _, _, rfl, rfl, s3 _ _ hL, hZ, es0 _ (by omega), ?_⟩
            obtain ⟨b1, b2, b3⟩ := joinedO nL (s2.trans s3) (s3 _ _ hL) (hY.imp fun v r h => h.same s3) kZ
            exact ⟨_, _, rfl, b1, b2, by rw [ostep_take er]; exact b3⟩
        · rintro σ2 G2 ⟨x7, ys, rfl, s2, hL, hY⟩
          rw [kO.len, List.take_length] at hY
          have lY : ys.length ≤ 5 ^ (i + 1) := by rw [hY.len]; exact orders_len m5 (i + 1)
          rw [Nat.pow_succ] at lY
          refine ⟨_, rfl, .inl ⟨rfl, _, SqL.of (s2 _ _ eL0)⟩, _, rfl, l0, L, _, _, rfl, rfl, s2 _ _ eL0, hL, es0 _ (by omega), ?_⟩
          obtain ⟨b1, b2, b3⟩ := joinedO hl0 (sG.trans s2) (s2 _ _ eL0) (kL.imp fun v r h => h.same s2) hY
          refine ⟨_, rfl, _, _, _, L, ys, _, rfl, b1, b2, b3, fun e => n0L e.symm, ?_, hY.imp fun v r h => h.put (s2 _ _ eL0)⟩
          rw [upd_ne (fun e => n0L e.symm)]
          exact hL
      · rintro σ G ⟨x5, x6, x7, o, os, xs, rfl, sG, eL0, kL, no, eO, kO⟩
        have lenX : xs.length ≤ 6 ^ m := by rw [kL.len]; exact allOrders_len m5 m
        have p6 : 6 ^ m ≤ 6 ^ 5 := Nat.pow_le_pow_right (by decide) m5
        have xsl : xs.length ≤ 7776 := by omega
        refine ⟨_, rfl, l0, rfl, ⟨_, SqL.of eL0⟩, fun D nD => ?_⟩
        refine lc_list (xs := xs) (fun b G3 => Same G G3 ∧ ∃ zs, G3 D = some (.lst zs) ∧ TRs G3 zs (((allOrders m m).take b).map (rankL m))) ⟨same_upd nD, [], upd_same, trivial⟩ (fun b G3 _ h => SqL.of (h.1 _ _ eL0)) ?_ ?_
        · rintro b x G3 hx ⟨s3, zs, hZ, kZ⟩
          obtain ⟨r, er, kr⟩ := kL.get hx
          have lt : b < xs.length := (List.getElem?_eq_some_iff.mp hx).1
          have kr3 := kr.same s3
          obtain ⟨tx, rfl, htx⟩ := kr
          have lz : zs.length ≤ 7776 := by
            have := kZ.len
            rw [List.length_map, List.length_take] at this
            omega
          refine ⟨rfl, ?_⟩
          unfold tYes
          refine iteT ⟨_, rfl, m, rfl, by omega, by omega, fun D2 nD2 => ?_⟩
          refine lc_range (lo := 0) (n := m) (g := gName 10) (tt := tYes) (te := tIf (tTest (tOp (rIn K false) (tVar 10) (tVar 7))) (tOp (rI0 fun i j => .int (i - j)) (tVar 1) (tMG tyTup (rIndexT K) (tVar 7) (tCons (tVar 10) tNil))) (tC (.int 0))) (vs := [10]) (fun a G4 => Same G3 G4 ∧ ∃ ws : List Int, ws = ((List.range a).map fun a : Nat => if (a : Int) ∈ r then (m : Int) - (r.idxOf (a : Int) : Nat) else 0) ∧ G4 D2 = some (.lst (ws.map V.int))) ⟨same_upd nD2, [], rfl, upd_same⟩ ?_ ?_
          · rintro a G4 ha ⟨s4, ws, ew, hW⟩
            have k4 := kr3.same s4
            refine ⟨rfl, ?_⟩
            unfold tYes
            refine iteT ⟨_, rfl, _, rfl, tx, _, rfl, .inr k4.sq, rfl, flat_ints r, ?_⟩
            rw [if_neg (by decide), inV_ints, Int.zero_add]
            have app : ∀ z : Int, (z = if (a : Int) ∈ r then (m : Int) - (r.idxOf (a : Int) : Nat) else 0) → ∃ acc, G4 D2 = some (.lst acc) ∧ acc.length < sizeLine ∧ (Same G3 (upd G4 D2 (.lst (acc ++ [.int z]))) ∧ ∃ ws : List Int, ws = ((List.range (a + 1)).map fun a : Nat => if (a : Int) ∈ r then (m : Int) - (r.idxOf (a : Int) : Nat) else 0) ∧ (upd G4 D2 (.lst (acc ++ [.int z]))) D2 = some (.lst (ws.map V.int))) := fun z e => by
              refine ⟨_, hW, ?_, same_updF nD2 s4, ws ++ [z], ?_, ?_⟩
              · rw [ew, List.length_map, List.length_map, List.length_range]
                exact small1000 (by omega)
              · rw [List.range_succ, List.map_append, ew, e]
                rfl
              · rw [upd_same, List.map_append]
                rfl
            refine ⟨_, rfl, ite2 (fun c => ?_) (fun c => ?_)⟩
            · have mem := of_decide_eq_true c
              obtain ⟨h1, h2⟩ := idx_first mem
              have ty : tyTup (.ref tx) G4 := by
                rcases k4.ty with e | z
                · rw [e] at mem
                  cases mem
                · exact z
              have g1 : (r.map V.int)[r.idxOf (a : Int)]? = some (.int (a : Int)) := by rw [List.getElem?_map, h1]; rfl
              refine ⟨_, rfl, _, rfl, ty, _, rfl, tx, r.map V.int, .int (a : Int), r.idxOf (a : Int), _, rfl, rfl, k4.sq, rfl, flat_ints r, g1, beq_self_eq_true _, fun m' z hm' hz => ?_, _, _, rfl, rfl, app _ (by rw [if_pos mem])⟩
              rw [List.getElem?_map] at hz
              cases e : r[m']? with
              | none => rw [e] at hz; cases hz
              | some j =>
                rw [e] at hz
                cases hz
                exact beq_eq_false_iff_ne.mpr (h2 m' j hm' e)
            · exact app 0 (by rw [if_neg (fun z => c (decide_eq_true z))])
          · rintro G4 ⟨s4, ws, ew, hW⟩
            refine ⟨D2, _, rfl, .inl ⟨SqL.of hW, fun t nt => ?_⟩⟩
            obtain ⟨a1, a2, a3, a4⟩ := grow nD s3 hZ kZ (s4.trans (same_upd (o := .tup (ws.map V.int)) nt)) (r := rankL m r) ⟨t, rfl, by rw [upd_same, ew]; rfl⟩
            refine ⟨zs, a1, by rw [sizeLine_eq]; omega, a2, _, a3, ?_⟩
            rw [List.take_add_one, er, List.map_append]
            exact a4
        · rintro G3 ⟨s3, zs, hZ, kZ⟩
          rw [kL.len, List.take_length, rank_all] at kZ
          refine sorted_rows (SqL.of hZ) kZ (by omega : 1 ≤ m) (rankRows0_row m) fun l2 ws np kz => ?_
          exact q' l2 ws _ ((sG.trans s3).trans (same_upd np)) ((sG.trans s3).free np) upd_same (kz.imp fun v r h => h.same (same_upd np))
    · have c1 : (if false = true then !inV (V.str x.word) [.str "ticks", .str "points"] else inV (V.str x.word) [.str "ticks", .str "points"]) = false := by rcases hx with rfl | rfl <;> decide +kernel
      have c2 : decide (V.str x.word = V.str "ranks") = false := by rcases hx with rfl | rfl <;> decide +kernel
      obtain ⟨o, eo, el, er, on⟩ : ∃ o : Bool, decide (V.str x.word = V.str "one") = o ∧ decide (V.str x.word = V.str "lists") = (!o) ∧ sortL ((prs o n m).map (markL m)) = x.rows n m ∧ (o = false → 1 ≤ n) := by
        rcases hx with rfl | rfl
        · have e : n = 0 := ok
          subst e
          exact ⟨true, by decide +kernel, by decide +kernel, one_rows m (by omega) m2, fun e => by cases e⟩
        · have e : 1 ≤ n ∧ n ≤ 4 := ok
          obtain ⟨j, rfl⟩ : ∃ j, n = j + 1 := ⟨n - 1, by omega⟩
          exact ⟨false, by decide +kernel, by decide +kernel, list_rows j (by omega) m (by omega) m2, fun _ => by omega⟩
      refine ifF c1 ⟨_, rfl, rfl, _, rfl, ifF c2 ?_⟩
      clear c1 c2 et1 el1 e1
      refine ⟨_, rfl, _, rfl, es0 2 (by decide), fun t2 nt2 => ⟨es0 1 (by decide), fun l1 nl1 => ?_⟩⟩
      have s2 := (same_upd (o := .tup [.int m, .int m]) nt2).trans (same_upd (o := .lst [.ref t2]) nl1)
      have kA : TRs (upd (upd H1 t2 (.tup [.int m, .int m])) l1 (.lst [.ref t2])) [.ref t2] [[(m : Int), (m : Int)]] := ⟨⟨t2, rfl, same_upd nl1 _ _ upd_same⟩, trivial⟩
      have eA : (upd (upd H1 t2 (.tup [.int m, .int m])) l1 (.lst [.ref t2])) l1 = some (.lst [.ref t2]) := upd_same
      have sB := s1.trans s2
      generalize upd (upd H1 t2 (.tup [.int m, .int m])) l1 (.lst [.ref t2]) = HB at sB kA eA ⊢
      generalize [V.ref t2] = xA at kA eA ⊢
      have lA : xA.length = 1 := kA.len
      clear s1 s2 nt2 nl1
      refine ⟨_, rfl, m, rfl, by omega, by omega, fun D nD => ?_⟩
      refine lc_range (n := m) (fun a G => Same HB G ∧ ∃ ys, G D = some (.lst ys) ∧ TRs G ys (((List.range a).filter fun a => o || decide (a < n)).map fun a : Nat => [(a : Int), (a : Int)])) ⟨same_upd nD, [], upd_same, trivial⟩ ?_ ?_
      · rintro a G ha ⟨sG, ys, hD, hY⟩
        have ly : ys.length ≤ a := by
          rw [hY.len, List.length_map]
          have := List.length_filter_le (fun a => o || decide (a < n)) (List.range a)
          rw [List.length_range] at this
          exact this
        have app : (o || decide (a < n)) = true → ∀ t, G t = none → ∃ acc, (upd G t (.tup [.int (0 + (a : Int)), .int (0 + (a : Int))])) D = some (.lst acc) ∧ acc.length < sizeLine ∧ (Same HB (upd (upd G t (.tup [.int (0 + (a : Int)), .int (0 + (a : Int))])) D (.lst (acc ++ [.ref t]))) ∧ ∃ zs, (upd (upd G t (.tup [.int (0 + (a : Int)), .int (0 + (a : Int))])) D (.lst (acc ++ [.ref t]))) D = some (.lst zs) ∧ TRs (upd (upd G t (.tup [.int (0 + (a : Int)), .int (0 + (a : Int))])) D (.lst (acc ++ [.ref t]))) zs (((List.range (a + 1)).filter fun a => o || decide (a < n)).map fun a : Nat => [(a : Int), (a : Int)])) := fun hc t nt => by
          obtain ⟨a1, a2, a3, a4⟩ := grow nD sG hD hY (same_upd (o := .tup [.int (0 + (a : Int)), .int (0 + (a : Int))]) nt) (r := [(a : Int), (a : Int)]) ⟨t, rfl, by rw [upd_same, Int.zero_add]; rfl⟩
          refine ⟨ys, a1, by rw [sizeLine_eq]; omega, a2, _, a3, ?_⟩
          rw [filt_snoc, if_pos hc, List.map_append]
          exact a4
        have skip : (o || decide (a < n)) = false → (Same HB G ∧ ∃ ys, G D = some (.lst ys) ∧ TRs G ys (((List.range (a + 1)).filter fun a => o || decide (a < n)).map fun a : Nat => [(a : Int), (a : Int)])) := fun hc => by
          refine ⟨sG, ys, hD, ?_⟩
          rw [filt_snoc, if_neg (by rw [hc]; exact Bool.false_ne_true), List.append_nil]
          exact hY
        refine ⟨rfl, ?_⟩
        refine ⟨_, rfl, rfl, _, rfl, ?_⟩
        rw [eo]
        cases o with
        | true => exact iteT (iteT ⟨_, rfl, _, rfl, es0 2 (by decide), fun t nt => app rfl t nt⟩)
        | false =>
          refine iteF ⟨_, rfl, _, rfl, _, _, rfl, rfl, _, rfl, ite2 (fun c => ?_) (fun c => ?_)⟩
          · have c' := of_decide_eq_true c
            exact ⟨_, rfl, _, rfl, es0 2 (by decide), fun t nt => app (by show decide _ = true; exact decide_eq_true (by omega)) t nt⟩
          · exact skip (by show decide _ = false; exact decide_eq_false fun z => c (decide_eq_true (by omega)))
      rintro G ⟨sG, ys, hD, hY⟩
      have ly : ys.length ≤ 5 := by
        rw [hY.len, List.length_map]
        have := List.length_filter_le (fun a => o || decide (a < n)) (List.range m)
        rw [List.length_range] at this
        omega
      refine ⟨l1, D, _, _, rfl, rfl, sG _ _ eA, hD, es0 _ (by omega), fun l2 nl2 => ?_⟩
      have s2 := same_upd (o := .lst (xA ++ ys)) nl2
      have kB : TRs (upd G l2 (.lst (xA ++ ys))) (xA ++ ys) ([[(m : Int), (m : Int)]] ++ ((List.range m).filter fun a => o || decide (a < n)).map fun a : Nat => [(a : Int), (a : Int)]) := (TRs.app hY (kA.imp fun v r h => h.same sG)).imp fun v r h => h.same s2
      have sC := (sB.trans sG).trans s2
      have hl2 : H l2 = none := (sB.trans sG).free nl2
      have eC : (upd G l2 (.lst (xA ++ ys))) l2 = some (.lst (xA ++ ys)) := upd_same
      have lC : (xA ++ ys).length ≤ 6 := by rw [List.length_append]; omega
      generalize upd G l2 (.lst (xA ++ ys)) = HC at sC kB eC ⊢
      generalize xA ++ ys = xC at kB eC lC ⊢
      clear sG hD hY s2 nl2 nD sB kA eA ly lA
      refine ⟨_, rfl, .inl ⟨rfl, _, SqL.of eC⟩, _, rfl, m, rfl, by omega, by omega, fun D nD => ?_⟩
      refine lc_range (n := m) (fun a G => Same HC G ∧ ∃ ys, G D = some (.lst ys) ∧ TRs G ys (((List.range a).filter fun a => !o && decide (n ≤ a)).map fun a : Nat => [(a : Int), (a : Int) % (n : Int)])) ⟨same_upd nD, [], upd_same, trivial⟩ ?_ ?_
      · rintro a G ha ⟨sG, ys, hD, hY⟩
        have ly : ys.length ≤ a := by
          rw [hY.len, List.length_map]
          have := List.length_filter_le (fun a => !o && decide (n ≤ a)) (List.range a)
          rw [List.length_range] at this
          exact this
        have skip : (!o && decide (n ≤ a)) = false → (Same HC G ∧ ∃ ys, G D = some (.lst ys) ∧ TRs G ys (((List.range (a + 1)).filter fun a => !o && decide (n ≤ a)).map fun a : Nat => [(a : Int), (a : Int) % (n : Int)])) := fun hc => by
          refine ⟨sG, ys, hD, ?_⟩
          rw [filt_snoc, if_neg (by rw [hc]; exact Bool.false_ne_true), List.append_nil]
          exact hY
        refine ⟨rfl, ?_⟩
        refine ⟨_, rfl, rfl, _, rfl, ?_⟩
        rw [el]
        cases o with
        | true => exact iteF (iteF (skip rfl))
        | false =>
          have n1 := on rfl
          refine iteT ⟨_, rfl, _, rfl, _, _, rfl, rfl, _, rfl, ite2 (fun c => ?_) (fun c => ?_)⟩
          · have c' := of_decide_eq_true c
            have hc : (!false && decide (n ≤ a)) = true := by show decide _ = true; exact decide_eq_true (by omega)
            refine ⟨_, rfl, _, rfl, .inl ⟨_, rfl, _, rfl, _, _, rfl, rfl, (by show (0 : Int) < (n : Int); omega), es0 2 (by decide), fun t nt => ?_⟩⟩
            obtain ⟨a1, a2, a3, a4⟩ := grow nD sG hD hY (same_upd (o := .tup [.int (0 + (a : Int)), .int ((0 + (a : Int)) % (n : Int))]) nt) (r := [(a : Int), (a : Int) % (n : Int)]) ⟨t, rfl, by rw [upd_same, Int.zero_add]; rfl⟩
            refine ⟨ys, a1, by rw [sizeLine_eq]; omega, a2, _, a3, ?_⟩
            rw [filt_snoc, if_pos hc, List.map_append]
            exact a4
          · exact skip (by show decide _ = false; exact decide_eq_false fun z => c (decide_eq_true (by omega)))
      rintro G ⟨sG, ys, hD, hY⟩
      have ly : ys.length ≤ 5 := by
        rw [hY.len, List.length_map]
        have := List.length_filter_le (fun a => !o && decide (n ≤ a)) (List.range m)
        rw [List.length_range] at this
        omega
      refine ⟨l2, D, _, _, rfl, rfl, sG _ _ eC, hD, es0 _ (by omega), ?_⟩
      obtain ⟨sE, eE, kE⟩ := joined hl2 (sC.trans sG) (sG _ _ eC) (kB.imp fun v r h => h.same sG) hY
      have kE : TRs (upd G l2 (.lst (xC ++ ys))) (xC ++ ys) (prs o n m) := kE
      have lE : (xC ++ ys).length ≤ 11 := by rw [List.length_append]; omega
      generalize upd G l2 (.lst (xC ++ ys)) = HE at sE eE kE ⊢
      generalize xC ++ ys = xE at eE kE lE ⊢
      clear sG hD hY nD sC kB eC ly lC
      refine ⟨_, rfl, l2, rfl, ⟨_, SqL.of eE⟩, fun D nD => ?_⟩
      refine lc_list (xs := xE) (fun b G3 => Same HE G3 ∧ ∃ zs, G3 D = some (.lst zs) ∧ TRs G3 zs (((prs o n m).take b).map (markL m))) ⟨same_upd nD, [], upd_same, trivial⟩ (fun b G3 _ h => SqL.of (h.1 _ _ eE)) ?_ ?_
      · rintro b x G3 hx ⟨s3, zs, hZ, kZ⟩
        obtain ⟨r, er, kr⟩ := kE.get hx
        have lt : b < xE.length := (List.getElem?_eq_some_iff.mp hx).1
        have kr3 := kr.same s3
        obtain ⟨tx, rfl, htx⟩ := kr3
        have lz : zs.length ≤ 11 := by
          have := kZ.len
          rw [List.length_map, List.length_take] at this
          omega
        refine ⟨rfl, ?_⟩
        unfold tYes
        refine iteT ⟨_, rfl, m, rfl, by omega, by omega, fun D2 nD2 => ?_⟩
        refine lc_range (lo := 0) (n := m) (g := gName 10) (tt := tYes) (te := tIf (tTest (tOp (rIn K false) (tVar 10) (tVar 12))) (tC (.int 1)) (tC (.int 0))) (vs := [10]) (fun a G4 => Same G3 G4 ∧ G4 D2 = some (.lst ((markL a r).map V.int))) ⟨same_upd nD2, upd_same⟩ ?_ ?_
        · rintro a G4 ha ⟨s4, hW⟩
          refine ⟨rfl, ?_⟩
          unfold tYes
          refine iteT ⟨_, rfl, _, rfl, tx, _, rfl, .inr (SqT.of (s4 _ _ htx)), rfl, flat_ints r, ?_⟩
          rw [if_neg (by decide), inV_ints, Int.zero_add]
          have app : ∀ z : Int, (z = if (a : Int) ∈ r then 1 else 0) → ∃ acc, G4 D2 = some (.lst acc) ∧ acc.length < sizeLine ∧ (Same G3 (upd G4 D2 (.lst (acc ++ [.int z]))) ∧ (upd G4 D2 (.lst (acc ++ [.int z]))) D2 = some (.lst ((markL (a + 1) r).map V.int))) := fun z e => by
            refine ⟨_, hW, ?_, same_updF nD2 s4, ?_⟩
            · rw [List.length_map]
              unfold markL
              rw [List.length_map, List.length_range]
              exact small1000 (by omega)
            · rw [upd_same]
              unfold markL
              rw [List.range_succ, List.map_append, List.map_append, e]
              rfl
          refine ⟨_, rfl, ite2 (fun c => ?_) (fun c => ?_)⟩
          · exact app 1 (by rw [if_pos (of_decide_eq_true c)])
          · exact app 0 (by rw [if_neg (fun z => c (decide_eq_true z))])
        · rintro G4 ⟨s4, hW⟩
          refine ⟨D2, _, rfl, .inl ⟨SqL.of hW, fun t nt => ?_⟩⟩
          obtain ⟨a1, a2, a3, a4⟩ := grow nD s3 hZ kZ (s4.trans (same_upd (o := .tup ((markL m r).map V.int)) nt)) (r := markL m r) ⟨t, rfl, upd_same⟩
          refine ⟨zs, a1, by rw [sizeLine_eq]; omega, a2, _, a3, ?_⟩
          rw [List.take_add_one, er, List.map_append]
          exact a4
      · rintro G3 ⟨s3, zs, hZ, kZ⟩
        rw [kE.len, List.take_length] at kZ
        refine sorted_rows (SqL.of hZ) kZ (by omega : 1 ≤ m) (fun r hr => ?_) fun l3 ws np kz => ?_
        · obtain ⟨_, _, e⟩ := List.mem_map.mp hr
          rw [← e]
          exact markL_len _ _
        · rw [er] at kz
          exact q l3 ws _ ((sE.trans s3).trans (same_upd np)) ((sE.trans s3).free np) upd_same (kz.imp fun v r h => h.same (same_upd np))
end
end My

set_option Elab.async false
set_option linter.all false
set_option maxRecDepth 100000
namespace My
open PySem PySem.Spec PyProof.Rows L2
/-! the error: made; the inits that raise it -/
def spIni (K : PySem.W.Frag) (C : Addr) (code : Str) (fl : List Str) : Sp := fun vs H Q _ => ∃ (S : List Addr) (a : Addr) (ws : List V), vs = .ref a :: ws ∧ ws.length = fl.length ∧ H a = some (exo a C none) ∧ Std H S ∧ (∀ w ∈ ws, Thg K H S 4 w) ∧
  ∀ H' d ws', H d = none → (∀ p o, p ≠ a → H p = some o → H' p = some o) → H' a = some (exo a C (some d)) → H' d = some (exd d (("code", .str code) :: (fl.zip ws').reverse)) → ws'.length = fl.length →
    (∀ (j : Nat) u w, ws'[j]? = some u → ws[j]? = some w → LkB K H' S 4 u w) → Q .non H'
theorem Dat.err {S : List Addr} {a d C : Addr} {o : Option Addr} {H : Hp} {u u' : HO} (ha : H a = some (exo a C o)) (hd : H d = none) : Dat S H (upd (upd H d u) a u') := fun p x _ h k => by
  have n1 : p ≠ a := fun e => by
    rw [e, ha] at h
    cases h
    exact k
  rw [upd_ne n1, upd_ne (ne_of_none h hd)]
  exact h
theorem Dat.erd {S : List Addr} {d : Addr} {fs : List (Str × V)} {H : Hp} {u : HO} (hd : H d = some (exd d fs)) : Dat S H (upd H d u) := fun p x _ h k => by
  have n1 : p ≠ d := fun e => by
    rw [e, hd] at h
    cases h
    exact k
  rw [upd_ne n1]
  exact h
theorem one_at {α : Type} {x y : α} {i : Nat} (h : [x][i]? = some y) : i = 0 ∧ y = x := by
  cases i with
  | zero => cases h; exact ⟨rfl, rfl⟩
  | succ n => simp at h
abbrev sInvalidNumberInit : Stmt := inClass (topS 4) 0
theorem scInvalidNumberInit : FnScope ["self", "value"] ["self", "value"] (defScope sInvalidNumberInit) := ⟨rfl, rfl, rfl, by decide +kernel, rfl, by decide +kernel, by decide +kernel⟩
/-- an init that lets a number or raises -/
def spIniB (K : PySem.W.Frag) (C CI : Addr) (w : Str) (hi : Int) : Sp := fun vs H Q E => ∃ (a dx : Addr) (v : V) (S : List Addr), vs = [.ref a, v] ∧ H a = some (.ins C dx []) ∧ Std H S ∧ Thg K H S 4 v ∧
  ((∃ n : Int, v = .int n ∧ 1 ≤ n ∧ n ≤ hi ∧ Q .non (upd H a (.ins C dx [("word", .str w), ("number", .int n)]))) ∨
    (inI 1 hi v = false ∧ ∀ H' d v' fs, Same H H' → H' d = some (.xd fs) → fs.lookup ("value" : Str) = some v' → LkB K H' S 4 v' v → E (.ref CI) (some d) H'))
theorem okN {P : Program} {w : World} {K : PySem.W.Frag} {mg : Str → Option Value} {base : Heap} {x qual : Str} {st : Stmt} {f : Addr} {fd : FuncData} {N ps : List Str} {k : Nat} {sp : Sp} (F : Fun K x qual st f fd) (S : FnScope N ps (defScope st)) (len : ∀ vs H Q E, sp vs H Q E → vs.length = ps.length)
    (hbody : ∀ (cdv : Value) (A : Around) (outer : List Env) (s : Shared) (H : Hp) (vs : List V) (Q : VK) (E : XK), Room k (A.deeper (envOfC qual (defScope st) s.heap.objs.size f cdv)) → sp vs H Q E →
      ∃ t, PSs (cxOf (L2N.CX P w) P w K mg base N qual (defScope st) f cdv A outer s H E) (defBody st) t ∧ t { nx := fun _ H' => Q .non H', rt := Q } (start N vs) H) : FnOk P w K mg base (L2N.CX P w) (k + 1) f fd ps sp := by
  obtain ⟨oc, od, kV, doc, pm, an, cdv, ct, osl, rfl, lk, hcd⟩ := F.ex
  exact fn_of lk hcd S len fun A outer s H vs Q E hr hsp => hbody cdv A outer s H vs Q E hr hsp
theorem none_of {H : Hp} {a d : Addr} {o : HO} (na : H a = none) (h : upd H a o d = none) : H d = none := by
  by_cases e : d = a
  · rw [e]
    exact na
  · rwa [upd_ne e] at h
/-- behind the raising: the error is let go, its dict stands -/
theorem let_go {H H' : Hp} {S : List Addr} {a d C : Addr} {fs : List (Str × V)} (na : H a = none) (nd : H d = none) (keep : ∀ p o, p ≠ a → upd H a (exo a C none) p = some o → H' p = some o) (ea : H' a = some (exo a C (some d))) (ed : H' d = some (exd d fs)) : Same H (upd (del H' a) d (.xd fs)) ∧ Dat S H' (upd (del H' a) d (.xd fs)) := by
  refine ⟨fun p o h => ?_, fun p o _ h k => ?_⟩
  · have n1 := ne_of_none h na
    rw [upd_ne (ne_of_none h nd), del_ne n1]
    exact keep p o n1 (by rw [upd_ne n1]; exact h)
  · have n1 : p ≠ a := fun e => by
      rw [e, ea] at h
      cases h
      exact k
    have n2 : p ≠ d := fun e => by
      rw [e, ed] at h
      cases h
      exact k
    rw [upd_ne n2, del_ne n1]
    exact h
section
variable {P : Program} {w : World} {K : PySem.W.Frag} {mg : Str → Option Value} {base : Heap}
theorem ok_ini1 {C f : Addr} {fd : FuncData} {fK : Addr} {fdK : FuncData} (F : Fun K "__init__" "InvalidNumber.__init__" sInvalidNumberInit f fd) (T : ErrK K C) (nC : PySem.W.findIn K (.ref C) "code" = some none) (n0 : PySem.W.findIn K (.ref C) "value" = some none) (Kp : Cal P w K mg base "kept" 5 ["value"] (spKept K 4) fK fdK) : FnOk P w K mg base CX0 6 f fd ["self", "value"] (spIni K C "InvalidNumber" ["value"]) := by
  refine F.ok scInvalidNumberInit (fun vs H Q E h => ?_) (fun cdv A outer s H vs Q E hr h => ?_)
  · obtain ⟨S, a, ws, rfl, l, _⟩ := h
    show ws.length + 1 = _
    rw [l]
    rfl
  · obtain ⟨S, a, ws, rfl, l, ha, hS, hw, q⟩ := h
    obtain ⟨w1, rfl⟩ : ∃ w1, ws = [w1] := by
      match ws, l with
      | [w1], _ => exact ⟨_, rfl⟩
    refine ⟨_, (pss_cons (ps_fldX (pv 0) (pe_call Kp.ok (hr.mono (by omega)) rfl Kp.g Kp.kp Kp.b .nil pass0 (pa_cons (pv 1) pa_nil)))
      (pss_one (ps_fldX (pv 0) pe_str))), ?_⟩
    refine ⟨_, rfl, S, w1, rfl, hS, hw _ (by simp), fun v1 H1 s1 k1 => ⟨_, rfl, a, C, rfl, T, n0, .inl ⟨s1 _ _ ha, fun d nd ne => ?_⟩⟩⟩
    have t2 : Dat S H1 (upd (upd H1 d (exd d [("value", v1)])) a (exo a C (some d))) := Dat.err (s1 _ _ ha) nd
    have ea : (upd (upd H1 d (exd d [("value", v1)])) a (exo a C (some d))) a = some (exo a C (some d)) := upd_same
    have ed : (upd (upd H1 d (exd d [("value", v1)])) a (exo a C (some d))) d = some (exd d [("value", v1)]) := by rw [upd_ne ne, upd_same]
    have keep : ∀ p o, p ≠ a → H1 p = some o → (upd (upd H1 d (exd d [("value", v1)])) a (exo a C (some d))) p = some o := fun p o n h => by
      rw [upd_ne n, upd_ne (ne_of_none h nd)]
      exact h
    generalize (upd (upd H1 d (exd d [("value", v1)])) a (exo a C (some d))) = H2 at t2 ea ed keep ⊢
    have nd0 : H d = none := by
      cases e : H d with
      | none => rfl
      | some o => rw [s1 _ _ e] at nd; cases nd
    refine ⟨_, rfl, a, C, rfl, T, nC, .inr ⟨d, _, ea, ed, (by show 1 ≤ 900; decide), ?_⟩⟩
    refine q _ d [v1] nd0 (fun p o n h => ?_) (by rw [upd_ne (Ne.symm ne)]; exact ea) upd_same rfl (fun j u w e1 e2 => ?_)
    · rw [upd_ne (ne_of_none h nd0)]
      exact keep p o n (s1 _ _ h)
    · obtain ⟨rfl, rfl⟩ := one_at e1
      cases e2
      exact (k1.dat t2).dat (Dat.erd ed)
theorem ok_points_initB {C CI f fI fE : Addr} {fd fdI fdE : FuncData} (F : Fun K "__init__" "Points.__init__" sPointsInit f fd) (T : Cls K C) (nW : NoAttr K C "word") (nN : NoAttr K C "number") (IN : Cal P w K mg base "is_number" 2 ["value", "least", "most"] (spIsNum K) fI fdI)
    (TE : ErrK K CI) (iC : PySem.W.findIn K (.ref CI) "__init__" = some (some (.ref fE))) (tI : PySem.W.typeIn K (.ref fE) = some (.type "function")) (gI : mg "InvalidNumber" = some (.ref CI)) (Er : FnOk P w K mg base CX0 6 fE fdE ["self", "value"] (spIni K CI "InvalidNumber" ["value"])) (bE : Binds K fdE ["self", "value"] []) :
    FnOk P w K mg base (L2N.CX P w) 8 f fd ["self", "number"] (spIniB K C CI "points" 3) := by
  refine okN F scPointsInit (fun vs H Q E h => ?_) (fun cdv A outer s H vs Q E hr h => ?_)
  · obtain ⟨a, dx, v, S, rfl, _⟩ := h
    rfl
  · obtain ⟨a, dx, v, S, rfl, ha, hS, hv, q⟩ := h
    refine ⟨_, (pss_cons (ps_if (pt_not (pt_val (pe_call IN.ok (hr.mono (by omega)) rfl IN.g IN.kp IN.b .nil pass0 (pa_cons (pv 1) (pa_cons pe_int (pa_cons pe_int pa_nil)))))) (pss_one (L2N.ps_raise rfl (L2N.takes_of rfl rfl rfl rfl) (pmk_X TE iC tI Er (hr.mono (by omega)) bE pass0 rfl gI (pa_cons (pv 1) pa_nil)))) pss_nil)
      (pss_cons (ps_fld (pv 0) pe_str rfl) (pss_one (ps_fld (pv 0) (pv 1) rfl)))), ?_⟩
    refine ⟨_, rfl, v, 1, 3, rfl, hv.any, _, rfl, ?_⟩
    rcases q with ⟨n, rfl, h1, h2, q⟩ | ⟨bad, q⟩
    · have e : inI 1 3 (.int n) = true := by
        show (decide _ && decide _) = true
        rw [decide_eq_true h1, decide_eq_true h2]
        rfl
      rw [e]
      refine iteF ?_
      refine ⟨_, rfl, a, C, dx, _, rfl, ha, T, nW, (by show 0 < 1000; decide), ?_⟩
      refine ⟨_, rfl, _, rfl, a, C, dx, _, rfl, upd_same, T, nN, (by show 1 < 1000; decide), ?_⟩
      rw [upd_upd]
      exact q
    · rw [bad]
      refine iteT ⟨_, rfl, (by show 1 ≤ 1000; decide), fun e ne => ⟨S, e, [v], rfl, rfl, upd_same, hS.same (same_upd ne), fun w hw => ?_, fun H1 d ws nd keep ea ed lw kl => ⟨rfl, d, _, ea, ed, none_of ne nd, ?_⟩⟩⟩
      · rw [List.mem_singleton.mp hw]
        exact hv.dat (Dat.of (same_upd ne))
      · obtain ⟨s3, d3⟩ := let_go (S := S) ne (none_of ne nd) keep ea ed
        obtain ⟨w1, rfl⟩ : ∃ w1, ws = [w1] := by
          match ws, lw with
          | [w1], _ => exact ⟨_, rfl⟩
        exact q _ d w1 _ s3 upd_same rfl ((kl 0 w1 v rfl rfl).dat d3)
theorem ok_lists_initB {C CI f fI fE : Addr} {fd fdI fdE : FuncData} (F : Fun K "__init__" "Lists.__init__" sListsInit f fd) (T : Cls K C) (nW : NoAttr K C "word") (nN : NoAttr K C "number") (IN : Cal P w K mg base "is_number" 2 ["value", "least", "most"] (spIsNum K) fI fdI)
    (TE : ErrK K CI) (iC : PySem.W.findIn K (.ref CI) "__init__" = some (some (.ref fE))) (tI : PySem.W.typeIn K (.ref fE) = some (.type "function")) (gI : mg "InvalidNumber" = some (.ref CI)) (Er : FnOk P w K mg base CX0 6 fE fdE ["self", "value"] (spIni K CI "InvalidNumber" ["value"])) (bE : Binds K fdE ["self", "value"] []) :
    FnOk P w K mg base (L2N.CX P w) 8 f fd ["self", "number"] (spIniB K C CI "lists" 4) := by
  refine okN F scListsInit (fun vs H Q E h => ?_) (fun cdv A outer s H vs Q E hr h => ?_)
  · obtain ⟨a, dx, v, S, rfl, _⟩ := h
    rfl
  · obtain ⟨a, dx, v, S, rfl, ha, hS, hv, q⟩ := h
    refine ⟨_, (pss_cons (ps_if (pt_not (pt_val (pe_call IN.ok (hr.mono (by omega)) rfl IN.g IN.kp IN.b .nil pass0 (pa_cons (pv 1) (pa_cons pe_int (pa_cons pe_int pa_nil)))))) (pss_one (L2N.ps_raise rfl (L2N.takes_of rfl rfl rfl rfl) (pmk_X TE iC tI Er (hr.mono (by omega)) bE pass0 rfl gI (pa_cons (pv 1) pa_nil)))) pss_nil)
      (pss_cons (ps_fld (pv 0) pe_str rfl) (pss_one (ps_fld (pv 0) (pv 1) rfl)))), ?_⟩
    refine ⟨_, rfl, v, 1, 4, rfl, hv.any, _, rfl, ?_⟩
    rcases q with ⟨n, rfl, h1, h2, q⟩ | ⟨bad, q⟩
    · have e : inI 1 4 (.int n) = true := by
        show (decide _ && decide _) = true
        rw [decide_eq_true h1, decide_eq_true h2]
        rfl
      rw [e]
      refine iteF ?_
      refine ⟨_, rfl, a, C, dx, _, rfl, ha, T, nW, (by show 0 < 1000; decide), ?_⟩
      refine ⟨_, rfl, _, rfl, a, C, dx, _, rfl, upd_same, T, nN, (by show 1 < 1000; decide), ?_⟩
      rw [upd_upd]
      exact q
    · rw [bad]
      refine iteT ⟨_, rfl, (by show 1 ≤ 1000; decide), fun e ne => ⟨S, e, [v], rfl, rfl, upd_same, hS.same (same_upd ne), fun w hw => ?_, fun H1 d ws nd keep ea ed lw kl => ⟨rfl, d, _, ea, ed, none_of ne nd, ?_⟩⟩⟩
      · rw [List.mem_singleton.mp hw]
        exact hv.dat (Dat.of (same_upd ne))
      · obtain ⟨s3, d3⟩ := let_go (S := S) ne (none_of ne nd) keep ea ed
        obtain ⟨w1, rfl⟩ : ∃ w1, ws = [w1] := by
          match ws, lw with
          | [w1], _ => exact ⟨_, rfl⟩
        exact q _ d w1 _ s3 upd_same rfl ((kl 0 w1 v rfl rfl).dat d3)
end
end My

set_option Elab.async false
set_option linter.all false
set_option maxRecDepth 100000
namespace My
open PySem PySem.Spec PyProof.Rows L2
/-! numbers that are let or refused -/
abbrev sLawRefused : Stmt := topS 38
theorem scLawRefused : FnScope ["bag", "thing", "right", "told", "due", "tool", "e"] ["bag"] (defScope sLawRefused) := ⟨rfl, rfl, rfl, by decide +kernel, rfl, by decide +kernel, by decide +kernel⟩
theorem mt_appendR {X : Cx} : MtR X "list.append" rAppend := mt_append
/-- a method's call whose reading does not speak of what runs around -/
theorem pe_bmK {X : Cx} {K : PySem.W.Frag} {o e : Expr} {es : List Expr} {to : TE} {t : TA} {name : Str} {apos cpos : Pos} {T id : String} {r : V → List V → Hp → VK → Prop} (eK : X.K = K) (pa : PlainAttrs T) (slot : Slot T name id) (hty : typeOf (.builtin id) = pure (.type "method_descriptor")) (hm : MtR X id r) (ho : PE X o to) (ha : PA X (e :: es) t)
    (hbase : attributeBase o name X.env (eval o X.env) = eval o X.env := by rfl)
    (hfew : ((backTo cpos (starEach (e :: es) X.env)).all (fun x => !x.1) && (backToKw cpos (keywordEach [] X.env)).all (fun x => x.1.isSome)
      && decide ((e :: es).length + ([] : List Keyword).length + (if ([] : List Keyword).isEmpty then 0 else 1) < 30)) = true := by rfl)
    (hline : (apos.endLine == cpos.line) = true := by rfl) (hs : starEach (e :: es) X.env = (false, eval e X.env) :: starEach es X.env := by rfl) (hplain : (backTo cpos (starEach es X.env)).any (·.1) = false := by rfl) :
    PE X (.Call (.Attribute o name apos) (e :: es) [] cpos) (tBM K T r to t) := by
  subst eK
  exact pe_bm pa slot hty hm ho ha hbase hfew hline hs hplain
theorem pe_fldK {X : Cx} {K : PySem.W.Frag} {o : Expr} {f : Str} {pos : Pos} {to : TE} (eK : X.K = K) (ho : PE X o to) (hb : attributeBase o f X.env (eval o X.env) = eval o X.env) : PE X (.Attribute o f pos) (tFld K to f) := by
  subst eK
  exact pe_fld ho hb
theorem takesN0 {X : Cx} : L2N.Takes X (fun _ _ _ _ => False) := fun _ _ x => by
  obtain ⟨_, _, _, _, _, _, _, _, _, _, _, _, _, _, _, _, h⟩ := x
  exact h.elim
/-- e.f of the caught error -/
def tXc (K : PySem.W.Frag) (a : Addr) (cls : Value) (d : Option Addr) (f : Str) (te : TE) : TE := fun σ H Q => te σ H fun x H1 => ∃ (C dd : Addr) (fs : List (Str × V)) (v : V), x = .ref a ∧ cls = .ref C ∧ d = some dd ∧ H1 dd = some (.xd fs) ∧ ErrK K C ∧ PySem.W.findIn K (.ref C) f = some none ∧ fs.lookup f = some v ∧ Q v H1
theorem pe_code {X : Cx} {a : Addr} {oe : Obj} {cls : Value} {d : Option Addr} {pn : List (Addr × Obj)} {e : Expr} {te : TE} {pos : Pos} {n : Str} (hz : Zc cls d oe) (hf : ∃ vs, oe.data = .fields vs) (he : PE (X.suite a ((a, oe) :: pn)) e te) (hb : attributeBase e n X.env (eval e X.env) = eval e X.env := by rfl) :
    PE (X.suite a ((a, oe) :: pn)) (.Attribute e n pos) (tXc X.K a cls d n te) := by
  refine ⟨fun pins s σ H Q I h => ?_⟩
  refine attr_of hb (thn (he.run pins s σ H _ I h) fun u s1 hh => ?_)
  obtain ⟨x, H1, I1, rx, C, dd, fs, v, ex, ec, ed, hd, T, hno, l, q⟩ := hh
  subst ex ec ed
  obtain rfl : u = Value.ref a := rx
  have ev : EV (X.suite a ((a, oe) :: pn)).pn H1 a C fs := .pin List.mem_cons_self hz hf hd
  obtain ⟨ox, od, mA, J, hl, rel⟩ := ev.inst I1
  obtain ⟨u, hu, ru⟩ := RelO.some_of (v := v) (o := mA n) (by rw [← l]; exact rel n)
  exact HandSPX.exc_get I1.kIn J T.x.ga T.x.gg T.x.exC (PySem.W.findObj_own T.x.hdC hno rfl (by rw [hl, hu])) (handed_of ru) ⟨v, H1, I1.tok _, ru, q⟩
section
variable {X : Cx} {CX : CXT} {k : Nat} {f C : Addr} {fd : FuncData} {ps ks : List Str} {sp : Sp} {x : Str} {p pos : Pos} {e : Expr} {es : List Expr} {kws : List Keyword} {t tk : TA} {g : List Value → List Value → List Value} {gV : List V → List V → List V}
def tMakeS (C : Addr) (sp : Sp) (E : L2.St → XK) (t : TA) : TE := fun σ H Q => t σ H fun vs H1 => ∀ x dx, H1 x = none → H1 dx = none → dx ≠ x →
  sp (.ref x :: vs) (upd (upd H1 dx (.own x)) x (.ins C dx [])) (fun v H2 => v = .non ∧ Q (.ref x) H2) (E σ)
theorem run_makeS {pins : List (Addr × Obj)} {σ : L2.St} {H : Hp} {s : Shared} {Q : VK} {us ws : List Value} {vs zs : List V} {E : L2.St → XK} (M : Mk X.K C f) (F : FnOk X.prog X.w X.K X.mg X.base CX k f fd ps sp) (hr : Room (k + 1) X.A) (hb : KBn X.K fd ps (vs.length + 1) ks g gV) (hx : ∀ σ, PassesAt CX X σ (E σ))
    (I : Inv X pins σ H s) (r : Vals vs us) (rz : Vals zs ws) (l2 : zs.length = ks.length)
    (h : ∀ x dx, H x = none → H dx = none → dx ≠ x → sp (gV (.ref x :: vs) zs) (upd (upd H dx (.own x)) x (.ins C dx [])) (fun v H2 => v = .non ∧ Q (.ref x) H2) (E σ)) :
    wpAny (model X.prog X.w) X.A (call (.ref C) us (ks.zip ws)) (EP X pins σ Q) X.xe s := by
  have hq := h (s.heap.objs.size + 1) s.heap.objs.size (I.hok.fresh (Nat.le_succ _)) (I.hok.fresh (Nat.le_refl _)) (Nat.ne_of_lt (Nat.lt_succ_self _))
  have I2 := Inv.made (C := C) I
  have r1 : Vals (V.ref (s.heap.objs.size + 1) :: vs) (Value.ref (s.heap.objs.size + 1) :: us) := .cons rfl r
  have r2 := hb.rel r1 rz
  have n1 : (Value.ref (s.heap.objs.size + 1) :: us).length = vs.length + 1 := by
    rw [List.length_cons, ← r.length]
  refine wpAny_call (make_map (f := f) I.kIn M.makes M.init (beq_iff_eq.mp M.fn) (codeAny_mono (F.run _ X.stack _ _ ⟨Value.ref (s.heap.objs.size + 1) :: us, ks.zip ws⟩ (g (Value.ref (s.heap.objs.size + 1) :: us) ws) _ _ (E σ) (hr.make C us (ks.zip ws))
    (I2.env0.make C us (ks.zip ws)) (hb.to _ (Value.ref (s.heap.objs.size + 1) :: us) ws I2.kIn n1 (rz.length.symm.trans l2)) r2 hq) fun r s' hq' => ?_))
  cases r with
  | error e => exact hx σ pins _ _ e s' I2 hq'
  | ok fl =>
    cases fl with
    | ret u =>
      obtain ⟨v, H', I3, rv, ev, q3⟩ := I2.after hq'
      subst ev
      exact ⟨rv, ⟨V.ref (s.heap.objs.size + 1), H', I3, rfl, q3⟩⟩
    | next => exact False.elim hq'
    | brk => exact False.elim hq'
    | cont => exact False.elim hq'
/-- C(e, ..) that may raise, in a try -/
theorem pe_makeS {E : L2.St → XK} (M : Mk X.K C f) (F : FnOk X.prog X.w X.K X.mg X.base CX k f fd ps sp) (hr : Room (k + 1) X.A) (hg : Gl X x) (hm : X.mg x = some (.ref C)) (hb : Binds X.K fd ps []) (hx : ∀ σ, PassesAt CX X σ (E σ))
    (ha : PA X (e :: es) t) (hdb : (x == ("__debug__" : Str)) = false := by decide) (he : starEach (e :: es) X.env = (false, eval e X.env) :: starEach es X.env := by rfl) (hpl : (backTo pos (starEach es X.env)).any (·.1) = false := by rfl) :
    PE X (.Call (.Name x p) (e :: es) [] pos) (tMakeS C sp E t) := by
  refine ⟨fun pins s σ H Q I h => ?_⟩
  refine wpAny_Call_Name_kw (ld_glob I hg hm ?_ hdb)
  refine PySem.W.callWith_K (h₀ := X.base) I.ok.mod.kin M.kp (thn (ha.run pos pins s σ H _ I h) fun us s1 ⟨vs, H1, I1, r, q1⟩ => ⟨I1.kIn, ?_⟩) he hpl
  have len : ps.length = vs.length + 1 := by
    have z := F.len _ _ _ _ (q1 (s1.heap.objs.size + 1) s1.heap.objs.size (I1.hok.fresh (Nat.le_succ _)) (I1.hok.fresh (Nat.le_refl _)) (Nat.ne_of_lt (Nat.lt_succ_self _)))
    rw [← z]
    rfl
  exact run_makeS (ks := []) (ws := []) (zs := []) M F hr (kbn_pos hb len) hx I1 r .nil rfl q1
def tMakeSK (C : Addr) (m : Nat) (sp : Sp) (gV : List V → List V → List V) (E : L2.St → XK) (tk : TA) : TE := fun σ H Q => tk σ H fun zs H2 => zs.length = m ∧ ∀ x dx, H2 x = none → H2 dx = none → dx ≠ x →
  sp (gV [.ref x] zs) (upd (upd H2 dx (.own x)) x (.ins C dx [])) (fun v H3 => v = .non ∧ Q (.ref x) H3) (E σ)
/-- C(k = v, ..) that may raise, in a try -/
theorem pe_makeSK {E : L2.St → XK} (M : Mk X.K C f) (F : FnOk X.prog X.w X.K X.mg X.base CX k f fd ps sp) (hr : Room (k + 1) X.A) (hg : Gl X x) (hm : X.mg x = some (.ref C)) (hb : KBn X.K fd ps 1 ks g gV) (hx : ∀ σ, PassesAt CX X σ (E σ)) (hkw : PK X kws tk)
    (hall : (backToKw pos (keywordEach kws X.env)).all (·.1.isSome) = true := by rfl) (hks : (backToKw pos (keywordEach kws X.env)).filterMap (·.1) = ks := by rfl) (hdb : (x == ("__debug__" : Str)) = false := by decide)
    (hpl : ((backTo pos (starEach [] X.env)).any (·.1) || (backToKw pos (keywordEach kws X.env)).any (·.1.isNone)) = false := by rfl) :
    PE X (.Call (.Name x p) [] kws pos) (tMakeSK C ks.length sp gV E tk) := by
  refine ⟨fun pins s σ H Q I h => ?_⟩
  refine wpAny_Call_Name_kw (ld_glob I hg hm ?_ hdb)
  refine PySem.W.callWith_KW0 (h₀ := X.base) I.ok.mod.kin M.kp hall ?_ hpl
  refine thn (hkw.run pos pins s σ H _ I h) fun ws s2 ⟨zs, H2, I2, rz, l2, q2⟩ => ⟨I2.kIn, ?_⟩
  rw [hks]
  exact run_makeS (us := []) (vs := []) M F hr hb hx I2 .nil rz l2 q2
end
def spRefused (K : PySem.W.Frag) : Sp := fun vs H Q _ => ∃ (b c : Addr) (ns : List Int), vs = [.ref b] ∧ BagC K H b c ns ∧ ∀ H', BagC K H' b c ns → But b H H' → Q (.bl true) H'
/-- what a try leaves: the number, or what tells that it was refused -/
def Res (K : PySem.W.Frag) (H : Hp) (S : List Addr) (hi : Int) (w v : V) : Prop := (∃ n : Int, v = .int n ∧ w = .int n ∧ 1 ≤ n ∧ n ≤ hi) ∨ (inI 1 hi v = false ∧ ∃ t v', w = .ref t ∧ TA' K H S t [.str "refused", v'] ∧ LkB K H S 4 v' v)
theorem Res.dat {K : PySem.W.Frag} {H H' : Hp} {S : List Addr} {hi : Int} {w v : V} (t : Dat S H H') (h : Res K H S hi w v) : Res K H' S hi w v := by
  rcases h with h | ⟨b, t', v', e, ht, hv⟩
  · exact .inl h
  · exact .inr ⟨b, t', v', e, ht.dat t, hv.dat t⟩
theorem Res.lk {K : PySem.W.Frag} {H : Hp} {S : List Addr} {hi : Int} {w v : V} {t : Addr} (h : Res K H S hi w v) (b : inI 1 hi v = false) (ht : TA' K H S t [.str "refused", v]) : LkB K H S 5 w (.ref t) := by
  rcases h with ⟨n, rfl, _, h1, h2⟩ | ⟨_, t', v', rfl, ht', hv⟩
  · have : inI 1 hi (.int n) = true := by
      show (decide _ && decide _) = true
      rw [decide_eq_true h1, decide_eq_true h2]
      rfl
    rw [this] at b
    cases b
  · refine .inr ⟨t', t, _, _, rfl, rfl, .inr ⟨ht', ht⟩, rfl, (by show 2 < 1000; decide), fun i x y e1 e2 => ?_⟩
    match i, e1, e2 with
    | 0, e1, e2 => cases e1; cases e2; exact .inl ⟨rfl, trivial⟩
    | 1, e1, e2 => cases e1; cases e2; exact hv
    | n + 2, e1, e2 => simp at e1
def gt0 : V → Bool
  | .int i => decide (0 < i)
  | _ => false
theorem gt0_in {v : V} {hi : Int} (h : inI 1 hi v = true) : ∃ n : Nat, v = .int n ∧ 1 ≤ (n : Int) ∧ (n : Int) ≤ hi := by
  cases v with
  | int i =>
    have h' : (decide (1 ≤ i) && decide (i ≤ hi)) = true := h
    obtain ⟨h1, h2⟩ := Bool.and_eq_true_iff.mp h'
    have := of_decide_eq_true h1
    have := of_decide_eq_true h2
    exact ⟨i.toNat, by rw [show ((i.toNat : Nat) : Int) = i from by omega], by omega, by omega⟩
  | _ => cases h
structure RM (K : PySem.W.Frag) (H1 : Hp) (b d3 d4 : Addr) (v : V) (xs ys : List V) (σ : L2.St) (G : Hp) : Prop where
  sl : ∃ x5 x6, σ = [some (.ref b), some v, some (.bl (gt0 v)), some (.ref d3), some (.ref d4), x5, x6]
  s : Same H1 G
  e3 : G d3 = some (.lst xs)
  e4 : G d4 = some (.lst ys)
  v : Thg K G [d4, d3] 4 v
theorem thg_ty {K : PySem.W.Frag} {H : Hp} {S : List Addr} {n : Nat} {v : V} (h : Thg K H S n v) : ∃ tv, TyX K H v tv ∧ PySem.W.kitOne K tv (.type "int") = some (match v with | .int _ => true | .bl _ => true | _ => false) ∧ PySem.W.kitOne K tv (.type "bool") = some (match v with | .bl _ => true | _ => false) := by
  have hv := h.any
  rcases hv with fl | ⟨a, xs, rfl, hs | hs⟩
  · refine ⟨_, ty_flat fl, ?_, ?_⟩ <;> cases v <;> first | rfl | exact fl.elim
  · exact ⟨_, ty_list hs, rfl, rfl⟩
  · exact ⟨_, ty_tup hs, rfl, rfl⟩
section
variable {P : Program} {w : World} {K : PySem.W.Frag} {mg : Str → Option Value} {base : Heap} {A : FA}
theorem ok_refused {CI f fO fL : Addr} {fd fdO fdL : FuncData} (F : Fun K "_law_refused" "_law_refused" sLawRefused f fd) (Z : Fms P w K mg base A) (O : Cal P w K mg base "_law_of" 2 ["bag", "things"] (spOfC K) fO fdO) (Li : Cal P w K mg base "_law_like" 7 ["told", "due"] (spLike K 6) fL fdL)
    (XP : FnOk P w K mg base (L2N.CX P w) 8 (A.i .points) (A.fi .points) ["self", "number"] (spIniB K (A.C .points) CI "points" 3)) (XL : FnOk P w K mg base (L2N.CX P w) 8 (A.i .lists) (A.fi .lists) ["self", "number"] (spIniB K (A.C .lists) CI "lists" 4)) (TE : ErrK K CI) (gI : mg "InvalidNumber" = some (.ref CI)) (xI : PySem.W.exmOne K (.ref CI) (.ref CI) = some true) (nV : PySem.W.findIn K (.ref CI) "value" = some none)
    (b_isinstance : mg "isinstance" = none) (b_int : mg "int" = none) (b_bool : mg "bool" = none) : FnOk P w K mg base CX0 11 f fd ["bag"] (spRefused K) := by
  refine F.ok scLawRefused (fun vs H Q E h => ?_) (fun cdv A' outer s H vs Q E hr h => ?_)
  · obtain ⟨b, c, ns, rfl, _⟩ := h
    rfl
  · obtain ⟨b, c, ns, rfl, B, q⟩ := h
    refine ⟨_, (pss_cons (ps_set (i := 1) scLawRefused.nd rfl (.inl rfl) (pe_call O.ok (hr.mono (by omega)) rfl O.g O.kp O.b .nil pass0 (pa_cons (pv 0) (pa_cons (pe_lst (pa_cons pe_int (pa_cons pe_int (pa_cons pe_int (pa_cons pe_int (pa_cons pe_int (pa_cons pe_int (pa_cons (pe_op op_sub pe_int pe_int) (pa_cons (pe_op op_powG pe_int pe_int) (pa_cons pe_non (pa_cons pe_bl (pa_cons pe_bl (pa_cons pe_str (pa_cons pe_str (pa_cons (pe_tup (pa_cons pe_int pa_nil)) (pa_cons (pe_lst (pa_cons pe_int pa_nil)) (pa_cons pe_str pa_nil))))))))))))))))) pa_nil))))
      (C8.pss_cut (ps_set (i := 2) scLawRefused.nd rfl (.inl rfl) (pe_and (pe_callB call_isi rfl b_isinstance (by decide +kernel) (pa_cons (pv 1) (pa_cons (pe_ty "int" rfl b_int (by decide +kernel)) pa_nil))) (pe_and (pe_not (pe_callB call_isi rfl b_isinstance (by decide +kernel) (pa_cons (pv 1) (pa_cons (pe_ty "bool" rfl b_bool (by decide +kernel)) pa_nil)))) (pe_one (pe_cmpR op_gt (pv 1) pe_int (nomark _))))))
      (pss_cons (ps_par (i := 3) (j := 4) rfl scLawRefused.nd rfl rfl (by decide) rfl rfl (pa_cons (pe_lst pa_nil) (pa_cons (pe_lst pa_nil) pa_nil)) rfl)
      (C8.pss_cut (L2N.ps_try_as (i := 6) rfl rfl scLawRefused.nd rfl rfl ⟨rfl, by decide, .inl gI⟩ takesN0 (fun W pn xe tk _ => (pss_cons (ps_set (i := 5) scLawRefused.nd rfl (.inl rfl) (pe_makeSK (E := L2.WE W) (Z.mkc .points) XP (hr.mono (by omega)) rfl (Z.g .points) (Z.kb .points (by simp)) (fun σ => L2N.passAt tk σ) (pk_cons (pv 1) pk_nil))) (pss_one (ps_expr (pe_bmK (K := K) rfl PySem.F.plainAttrs_list PySem.F.slot_list_append PySem.F.type_list_append mt_appendR (pv 3) (pa_cons (pe_fldK (K := K) rfl (pv 5) rfl) pa_nil))))))
        (fun a oe cls d pn hz hf => (pss_one (ps_expr (pe_bmK (K := K) rfl PySem.F.plainAttrs_list PySem.F.slot_list_append PySem.F.type_list_append mt_appendR (pv 3) (pa_cons (pe_tup (pa_cons pe_str (pa_cons (pe_code hz.zc hf (pv 6)) pa_nil))) pa_nil))))))
      (C8.pss_cut (ps_expr (pe_bm PySem.F.plainAttrs_list PySem.F.slot_list_append PySem.F.type_list_append mt_appendR (pv 4) (pa_cons (pe_ifExp (PW.pt (pw_and (pt_val (pv 2)) (pw_and1 (pt_cmpR op_lt (pv 1) pe_int (nomark _))))) (pv 1) (pe_tup (pa_cons pe_str (pa_cons (pv 1) pa_nil)))) pa_nil)))
      (C8.pss_cut (L2N.ps_try_as (i := 6) rfl rfl scLawRefused.nd rfl rfl ⟨rfl, by decide, .inl gI⟩ takesN0 (fun W pn xe tk _ => (pss_cons (ps_set (i := 5) scLawRefused.nd rfl (.inl rfl) (pe_makeS (E := L2.WE W) (Z.mkc .lists) XL (hr.mono (by omega)) rfl (Z.g .lists) (Z.ib .lists) (fun σ => L2N.passAt tk σ) (pa_cons (pv 1) pa_nil))) (pss_one (ps_expr (pe_bmK (K := K) rfl PySem.F.plainAttrs_list PySem.F.slot_list_append PySem.F.type_list_append mt_appendR (pv 3) (pa_cons (pe_fldK (K := K) rfl (pv 5) rfl) pa_nil))))))
        (fun a oe cls d pn hz hf => (pss_one (ps_expr (pe_bmK (K := K) rfl PySem.F.plainAttrs_list PySem.F.slot_list_append PySem.F.type_list_append mt_appendR (pv 3) (pa_cons (pe_tup (pa_cons pe_str (pa_cons (pe_code hz.zc hf (pv 6)) pa_nil))) pa_nil))))))
      (C8.pss_cut (ps_expr (pe_bm PySem.F.plainAttrs_list PySem.F.slot_list_append PySem.F.type_list_append mt_appendR (pv 4) (pa_cons (pe_ifExp (PW.pt (pw_and (pt_val (pv 2)) (pw_and1 (pt_cmpR op_lt (pv 1) pe_int (nomark _))))) (pv 1) (pe_tup (pa_cons pe_str (pa_cons (pv 1) pa_nil)))) pa_nil)))
      (pss_one (ps_ret (pe_call Li.ok (hr.mono (by omega)) rfl Li.g Li.kp Li.b .nil pass0 (pa_cons (pv 3) (pa_cons (pv 4) pa_nil)))))))))))), ?_⟩
    have es0 : ∀ z : Nat, z ≤ 10000 → z ≤ sizeLine := fun z hz => by rw [sizeLine_eq]; omega
    refine ⟨_, rfl, _, _, rfl, rfl, _, _, rfl, rfl, ⟨by decide, by decide +kernel⟩, es0 1 (by decide), fun t nt => ⟨es0 1 (by decide), fun l nl => ⟨es0 16 (by decide), fun l0 n0 => ?_⟩⟩⟩
    have sl := same_upd (o := .lst [.int 2]) nl
    have nl' := (same_upd (o := .tup [.int 1]) nt).free nl
    have s00 := (same_upd (o := .tup [.int 1]) nt).trans sl
    have s0 := fun o => s00.trans (same_upd (o := o) n0)
    refine ⟨b, l0, c, ns, _, rfl, B.same (s0 _), (B.same s00).ne n0, SqL.of upd_same, (by show 0 < 16; decide), (by show 16 < 1000; decide), fun v H1 hv B1 t1 => ?_⟩
    have et : H1 t = some (.tup [.int 1]) := t1 _ _ (B.ne nt) (same_upd n0 _ _ (sl _ _ upd_same))
    have el : H1 l = some (.lst [.int 2]) := t1 _ _ (B.ne nl') (same_upd n0 _ _ upd_same)
    have tH : But b H H1 := (But.of (s0 _)).trans t1
    have hv1 : Thg K H1 [] 4 v := by
      simp only [List.mem_cons, List.not_mem_nil, or_false] at hv
      rcases hv with rfl | rfl | rfl | rfl | rfl | rfl | rfl | rfl | rfl | rfl | rfl | rfl | rfl | rfl | rfl | rfl
      case inr.inr.inr.inr.inr.inr.inr.inr.inr.inr.inr.inr.inr.inl => exact .inr ⟨t, _, rfl, .inr ⟨SqT.of et, .inl (List.not_mem_nil)⟩, by decide, fun x m => by rw [List.mem_singleton.mp m]; exact Thg.flat trivial⟩
      case inr.inr.inr.inr.inr.inr.inr.inr.inr.inr.inr.inr.inr.inr.inl => exact .inr ⟨l, _, rfl, .inl ⟨SqL.of el, .inl (List.not_mem_nil)⟩, by decide, fun x m => by rw [List.mem_singleton.mp m]; exact Thg.flat trivial⟩
      all_goals exact Thg.flat trivial
    clear hv et el s0 s00 sl n0 nl nt nl' t1
    refine ⟨fun σ G => σ = [some (.ref b), some v, some (.bl (gt0 v)), none, none, none, none] ∧ H1 = G, ?_, ?_⟩
    · obtain ⟨tv, ty, ki, kb⟩ := thg_ty hv1
      refine ⟨_, rfl, _, _, _, _, _, rfl, .ty _, ty, ki, _, rfl, ?_⟩
      cases v with
      | int i => exact iteT ⟨_, rfl, _, _, _, _, _, rfl, .ty _, ty, kb, _, rfl, _, rfl, iteT ⟨_, rfl, _, _, rfl, rfl, rfl, rfl⟩⟩
      | bl i => exact iteT ⟨_, rfl, _, _, _, _, _, rfl, .ty _, ty, kb, _, rfl, _, rfl, iteF ⟨rfl, rfl⟩⟩
      | _ => exact iteF ⟨rfl, rfl⟩
    rintro σ G ⟨rfl, rfl⟩
    refine ⟨es0 0 (by decide), fun d3 n3 => ⟨es0 0 (by decide), fun d4 n4 => ?_⟩⟩
    have n34 : d3 ≠ d4 := ne_of_none upd_same n4
    have sA := (same_upd (o := .lst []) n3).trans (same_upd (o := .lst []) n4)
    have e3 : (upd (upd H1 d3 (.lst [])) d4 (.lst [])) d3 = some (.lst []) := by rw [upd_ne n34, upd_same]
    have e4 : (upd (upd H1 d3 (.lst [])) d4 (.lst [])) d4 = some (.lst []) := upd_same
    have hv : Thg K (upd (upd H1 d3 (.lst [])) d4 (.lst [])) [d4, d3] 4 v := (((hv1.more n3).dat (Dat.of (same_upd n3))).more n4).dat (Dat.of (same_upd n4))
    have n4 : H1 d4 = none := none_of n3 n4
    have stdG : ∀ {G : Hp} {xs ys : List V}, G d3 = some (.lst xs) → G d4 = some (.lst ys) → Std G [d4, d3] := fun a b p m => by
      rcases List.mem_cons.mp m with rfl | m
      · exact ⟨_, b⟩
      · rw [List.mem_singleton.mp m]
        exact ⟨_, a⟩
    have sG := sA
    refine ⟨_, _, rfl, ?_⟩
    generalize upd (upd H1 d3 (.lst [])) d4 (.lst []) = G at sG e3 e4 hv ⊢
    clear hv1 sA
    refine ⟨fun σ G => ∃ w, RM K H1 b d3 d4 v [w] [] σ G ∧ Res K G [d4, d3] 3 w v, ?_, ?_⟩
    · cases good : inI 1 3 v with
      | true =>
        obtain ⟨n, ev, h1, h2⟩ := gt0_in good
        refine ⟨_, rfl, rfl, fun x dx nx ndx ne => ⟨x, dx, v, [d4, d3], rfl, upd_same, (stdG e3 e4).same (same_updF nx (same_upd ndx)), hv.dat (Dat.of (same_updF nx (same_upd ndx))), .inl ⟨n, ev, h1, h2, rfl, ?_⟩⟩⟩
        obtain ⟨s2, k2⟩ := new_fm (C := A.C) .points n nx ndx
        obtain ⟨dx', hx⟩ := k2
        refine ⟨_, rfl, .inl ⟨rfl, _, SqL.of (s2 _ _ e3)⟩, _, rfl, x, A.C .points, _, _, _, rfl, hx, (Z.T .points).cl, (Z.T .points).nN, rfl, d3, _, _, rfl, rfl, s2 _ _ e3, (by rw [sizeLine_eq]; simp), ?_⟩
        have t2 := (Dat.of (S := [d4, d3]) s2).trans (Dat.put (o := .lst ([] ++ [.int n])) (by simp : d3 ∈ [d4, d3]))
        exact ⟨.int n, ⟨⟨_, _, rfl⟩, same_updF n3 (sG.trans s2), upd_same, by rw [upd_ne (Ne.symm n34)]; exact s2 _ _ e4, hv.dat t2⟩, .inl ⟨n, ev, rfl, h1, h2⟩⟩
      | false =>
        refine ⟨_, rfl, rfl, fun x dx nx ndx ne => ⟨x, dx, v, [d4, d3], rfl, upd_same, (stdG e3 e4).same (same_updF nx (same_upd ndx)), hv.dat (Dat.of (same_updF nx (same_upd ndx))), .inr ⟨good, fun H' d v' fs s' hd hl hlk => ⟨true, xI, fun _ a na => ?_, fun z => nomatch z⟩⟩⟩⟩
        have s2 := (same_updF nx (same_upd ndx)).trans s'
        refine ⟨_, rfl, .inl ⟨rfl, _, SqL.of (s2 _ _ e3)⟩, _, rfl, CI, d, fs, v', rfl, rfl, rfl, hd, TE, nV, hl, es0 2 (by decide), fun t nt => ⟨d3, _, _, rfl, rfl, same_upd nt _ _ (s2 _ _ e3), (by rw [sizeLine_eq]; simp), ?_⟩⟩
        have s3 := s2.trans (same_upd (o := .tup [.str "refused", v']) nt)
        have t2 := (Dat.of (S := [d4, d3]) s3).trans (Dat.put (o := .lst ([] ++ [.ref t])) (by simp : d3 ∈ [d4, d3]))
        have nt' : t ∉ [d4, d3] := (stdG (s2 _ _ e3) (s2 _ _ e4)).new nt
        have et : upd (upd H' t (.tup [.str "refused", v'])) d3 (.lst ([] ++ [.ref t])) t = some (.tup [.str "refused", v']) := by
          rw [upd_ne (fun e => nt' (by rw [e]; simp)), upd_same]
        have hlk2 := (hlk.dat (Dat.of (same_upd (o := .tup [.str "refused", v']) nt))).dat (Dat.put (o := .lst ([] ++ [.ref t])) (by simp : d3 ∈ [d4, d3]))
        exact ⟨.ref t, ⟨⟨_, _, rfl⟩, same_updF n3 (sG.trans s3), upd_same, by rw [upd_ne (Ne.symm n34)]; exact s3 _ _ e4, hv.dat t2⟩, .inr ⟨good, t, v', rfl, ⟨SqT.of et, .inl nt'⟩, hlk2⟩⟩
    clear sG e3 e4 hv
    rintro σ G ⟨w1, ⟨⟨x5, x6, rfl⟩, sG, e3, e4, hv⟩, hR⟩
    refine ⟨fun σ G => ∃ w y, RM K H1 b d3 d4 v [w] [y] σ G ∧ LkB K G [d4, d3] 5 w y, ?_, ?_⟩
    · cases good : inI 1 3 v with
      | true =>
        obtain ⟨n, rfl, h1, h2⟩ := gt0_in good
        have g0 : gt0 (.int n) = true := decide_eq_true (by omega)
        have t2 := Dat.put (H := G) (o := .lst ([] ++ [.int n])) (by simp : d4 ∈ [d4, d3])
        refine ⟨_, rfl, .inl ⟨rfl, _, SqL.of e4⟩, _, rfl, _, rfl, ?_⟩
        refine ifT g0 ⟨_, rfl, _, _, rfl, rfl, _, rfl, ifT (decide_eq_true (by omega)) ⟨_, rfl, d4, _, _, rfl, rfl, e4, (by rw [sizeLine_eq]; simp), ?_⟩⟩
        refine ⟨w1, .int n, ⟨⟨_, _, rfl⟩, same_updF n4 sG, by rw [upd_ne n34]; exact e3, upd_same, hv.dat t2⟩, ?_⟩
        rcases hR with ⟨m, e1, rfl, _⟩ | ⟨bad, _⟩
        · cases e1
          exact LkB.flat trivial
        · rw [good] at bad
          cases bad
      | false =>
        refine ⟨_, rfl, .inl ⟨rfl, _, SqL.of e4⟩, _, rfl, _, rfl, ?_⟩
        have nG : ∀ t, G t = none → LkB K (upd (upd G t (.tup [.str "refused", v])) d4 (.lst ([] ++ [.ref t]))) [d4, d3] 5 w1 (.ref t) ∧ Same H1 (upd (upd G t (.tup [.str "refused", v])) d4 (.lst ([] ++ [.ref t]))) ∧ Dat [d4, d3] G (upd (upd G t (.tup [.str "refused", v])) d4 (.lst ([] ++ [.ref t]))) := fun t nt => by
          have s3 := same_upd (o := .tup [.str "refused", v]) nt
          have t2 := (Dat.of (S := [d4, d3]) s3).trans (Dat.put (o := .lst ([] ++ [.ref t])) (by simp : d4 ∈ [d4, d3]))
          have nt' : t ∉ [d4, d3] := (stdG e3 e4).new nt
          have et : upd (upd G t (.tup [.str "refused", v])) d4 (.lst ([] ++ [.ref t])) t = some (.tup [.str "refused", v]) := by
            rw [upd_ne (fun e => nt' (by rw [e]; simp)), upd_same]
          exact ⟨(hR.dat t2).lk good ⟨SqT.of et, .inl nt'⟩, same_updF n4 (sG.trans s3), t2⟩
        have big : gt0 v = true → ∃ i : Int, v = .int i ∧ ¬ i < 3 + 1 := fun g => by
          cases v with
          | int i =>
            refine ⟨i, rfl, fun z => ?_⟩
            have h0 : 0 < i := of_decide_eq_true g
            have : inI 1 3 (.int i) = true := by
              show (decide _ && decide _) = true
              rw [decide_eq_true (by omega), decide_eq_true (by omega)]
              rfl
            rw [this] at good
            cases good
          | _ => cases g
        rcases (show gt0 v = false ∨ gt0 v = true from by cases gt0 v <;> simp) with g | g
        · refine ifF g ⟨_, rfl, es0 2 (by decide), fun t nt => ⟨d4, _, _, rfl, rfl, same_upd nt _ _ e4, (by rw [sizeLine_eq]; simp), ?_⟩⟩
          obtain ⟨a1, a2, t2⟩ := nG t nt
          exact ⟨w1, .ref t, ⟨⟨_, _, rfl⟩, a2, by rw [upd_ne n34]; exact same_upd nt _ _ e3, upd_same, hv.dat t2⟩, a1⟩
        · obtain ⟨i, ei, ni⟩ := big g
          refine ifT g ⟨_, rfl, i, _, ei, rfl, _, rfl, ifF (decide_eq_false (by omega)) ⟨_, rfl, es0 2 (by decide), fun t nt => ⟨d4, _, _, rfl, rfl, same_upd nt _ _ e4, (by rw [sizeLine_eq]; simp), ?_⟩⟩⟩
          obtain ⟨a1, a2, t2⟩ := nG t nt
          exact ⟨w1, .ref t, ⟨⟨_, _, rfl⟩, a2, by rw [upd_ne n34]; exact same_upd nt _ _ e3, upd_same, hv.dat t2⟩, a1⟩
    clear sG e3 e4 hv hR
    rintro σ G ⟨w1, y1, ⟨⟨x5, x6, rfl⟩, sG, e3, e4, hv⟩, hK⟩
    refine ⟨fun σ G => ∃ w y w2, RM K H1 b d3 d4 v [w, w2] [y] σ G ∧ Res K G [d4, d3] 4 w2 v ∧ LkB K G [d4, d3] 5 w y, ?_, ?_⟩
    · cases good : inI 1 4 v with
      | true =>
        obtain ⟨n, ev, h1, h2⟩ := gt0_in good
        refine ⟨_, rfl, fun x dx nx ndx ne => ⟨x, dx, v, [d4, d3], rfl, upd_same, (stdG e3 e4).same (same_updF nx (same_upd ndx)), hv.dat (Dat.of (same_updF nx (same_upd ndx))), .inl ⟨n, ev, h1, h2, rfl, ?_⟩⟩⟩
        obtain ⟨s2, k2⟩ := new_fm (C := A.C) .lists n nx ndx
        obtain ⟨dx', hx⟩ := k2
        refine ⟨_, rfl, .inl ⟨rfl, _, SqL.of (s2 _ _ e3)⟩, _, rfl, x, A.C .lists, _, _, _, rfl, hx, (Z.T .lists).cl, (Z.T .lists).nN, rfl, d3, _, _, rfl, rfl, s2 _ _ e3, (by rw [sizeLine_eq]; simp), ?_⟩
        have t2 := (Dat.of (S := [d4, d3]) s2).trans (Dat.put (o := .lst ([w1] ++ [.int n])) (by simp : d3 ∈ [d4, d3]))
        exact ⟨_, _, .int n, ⟨⟨_, _, rfl⟩, same_updF n3 (sG.trans s2), upd_same, by rw [upd_ne (Ne.symm n34)]; exact s2 _ _ e4, hv.dat t2⟩, .inl ⟨n, ev, rfl, h1, h2⟩, hK.dat t2⟩
      | false =>
        refine ⟨_, rfl, fun x dx nx ndx ne => ⟨x, dx, v, [d4, d3], rfl, upd_same, (stdG e3 e4).same (same_updF nx (same_upd ndx)), hv.dat (Dat.of (same_updF nx (same_upd ndx))), .inr ⟨good, fun H' d v' fs s' hd hl hlk => ⟨true, xI, fun _ a na => ?_, fun z => nomatch z⟩⟩⟩⟩
        have s2 := (same_updF nx (same_upd ndx)).trans s'
        refine ⟨_, rfl, .inl ⟨rfl, _, SqL.of (s2 _ _ e3)⟩, _, rfl, CI, d, fs, v', rfl, rfl, rfl, hd, TE, nV, hl, es0 2 (by decide), fun t nt => ⟨d3, _, _, rfl, rfl, same_upd nt _ _ (s2 _ _ e3), (by rw [sizeLine_eq]; simp), ?_⟩⟩
        have s3 := s2.trans (same_upd (o := .tup [.str "refused", v']) nt)
        have t2 := (Dat.of (S := [d4, d3]) s3).trans (Dat.put (o := .lst ([w1] ++ [.ref t])) (by simp : d3 ∈ [d4, d3]))
        have nt' : t ∉ [d4, d3] := (stdG (s2 _ _ e3) (s2 _ _ e4)).new nt
        have et : upd (upd H' t (.tup [.str "refused", v'])) d3 (.lst ([w1] ++ [.ref t])) t = some (.tup [.str "refused", v']) := by
          rw [upd_ne (fun e => nt' (by rw [e]; simp)), upd_same]
        have hlk2 := (hlk.dat (Dat.of (same_upd (o := .tup [.str "refused", v']) nt))).dat (Dat.put (o := .lst ([w1] ++ [.ref t])) (by simp : d3 ∈ [d4, d3]))
        exact ⟨_, _, .ref t, ⟨⟨_, _, rfl⟩, same_updF n3 (sG.trans s3), upd_same, by rw [upd_ne (Ne.symm n34)]; exact s3 _ _ e4, hv.dat t2⟩, .inr ⟨good, t, v', rfl, ⟨SqT.of et, .inl nt'⟩, hlk2⟩, hK.dat t2⟩
    clear sG e3 e4 hv hK
    rintro σ G ⟨w1, y1, w2, ⟨⟨x5, x6, rfl⟩, sG, e3, e4, hv⟩, hR, hK⟩
    refine ⟨fun σ G => ∃ w y w2 y2, RM K H1 b d3 d4 v [w, w2] [y, y2] σ G ∧ LkB K G [d4, d3] 5 w2 y2 ∧ LkB K G [d4, d3] 5 w y, ?_, ?_⟩
    · cases good : inI 1 4 v with
      | true =>
        obtain ⟨n, rfl, h1, h2⟩ := gt0_in good
        have g0 : gt0 (.int n) = true := decide_eq_true (by omega)
        have t2 := Dat.put (H := G) (o := .lst ([y1] ++ [.int n])) (by simp : d4 ∈ [d4, d3])
        refine ⟨_, rfl, .inl ⟨rfl, _, SqL.of e4⟩, _, rfl, _, rfl, ?_⟩
        refine ifT g0 ⟨_, rfl, _, _, rfl, rfl, _, rfl, ifT (decide_eq_true (by omega)) ⟨_, rfl, d4, _, _, rfl, rfl, e4, (by rw [sizeLine_eq]; simp), ?_⟩⟩
        refine ⟨_, _, w2, .int n, ⟨⟨_, _, rfl⟩, same_updF n4 sG, by rw [upd_ne n34]; exact e3, upd_same, hv.dat t2⟩, ?_, hK.dat t2⟩
        rcases hR with ⟨m, e1, rfl, _⟩ | ⟨bad, _⟩
        · cases e1
          exact LkB.flat trivial
        · rw [good] at bad
          cases bad
      | false =>
        refine ⟨_, rfl, .inl ⟨rfl, _, SqL.of e4⟩, _, rfl, _, rfl, ?_⟩
        have nG : ∀ t, G t = none → LkB K (upd (upd G t (.tup [.str "refused", v])) d4 (.lst ([y1] ++ [.ref t]))) [d4, d3] 5 w2 (.ref t) ∧ Same H1 (upd (upd G t (.tup [.str "refused", v])) d4 (.lst ([y1] ++ [.ref t]))) ∧ Dat [d4, d3] G (upd (upd G t (.tup [.str "refused", v])) d4 (.lst ([y1] ++ [.ref t]))) := fun t nt => by
          have s3 := same_upd (o := .tup [.str "refused", v]) nt
          have t2 := (Dat.of (S := [d4, d3]) s3).trans (Dat.put (o := .lst ([y1] ++ [.ref t])) (by simp : d4 ∈ [d4, d3]))
          have nt' : t ∉ [d4, d3] := (stdG e3 e4).new nt
          have et : upd (upd G t (.tup [.str "refused", v])) d4 (.lst ([y1] ++ [.ref t])) t = some (.tup [.str "refused", v]) := by
            rw [upd_ne (fun e => nt' (by rw [e]; simp)), upd_same]
          exact ⟨(hR.dat t2).lk good ⟨SqT.of et, .inl nt'⟩, same_updF n4 (sG.trans s3), t2⟩
        have big : gt0 v = true → ∃ i : Int, v = .int i ∧ ¬ i < 4 + 1 := fun g => by
          cases v with
          | int i =>
            refine ⟨i, rfl, fun z => ?_⟩
            have h0 : 0 < i := of_decide_eq_true g
            have : inI 1 4 (.int i) = true := by
              show (decide _ && decide _) = true
              rw [decide_eq_true (by omega), decide_eq_true (by omega)]
              rfl
            rw [this] at good
            cases good
          | _ => cases g
        rcases (show gt0 v = false ∨ gt0 v = true from by cases gt0 v <;> simp) with g | g
        · refine ifF g ⟨_, rfl, es0 2 (by decide), fun t nt => ⟨d4, _, _, rfl, rfl, same_upd nt _ _ e4, (by rw [sizeLine_eq]; simp), ?_⟩⟩
          obtain ⟨a1, a2, t2⟩ := nG t nt
          exact ⟨_, _, w2, .ref t, ⟨⟨_, _, rfl⟩, a2, by rw [upd_ne n34]; exact same_upd nt _ _ e3, upd_same, hv.dat t2⟩, a1, hK.dat t2⟩
        · obtain ⟨i, ei, ni⟩ := big g
          refine ifT g ⟨_, rfl, i, _, ei, rfl, _, rfl, ifF (decide_eq_false (by omega)) ⟨_, rfl, es0 2 (by decide), fun t nt => ⟨d4, _, _, rfl, rfl, same_upd nt _ _ e4, (by rw [sizeLine_eq]; simp), ?_⟩⟩⟩
          obtain ⟨a1, a2, t2⟩ := nG t nt
          exact ⟨_, _, w2, .ref t, ⟨⟨_, _, rfl⟩, a2, by rw [upd_ne n34]; exact same_upd nt _ _ e3, upd_same, hv.dat t2⟩, a1, hK.dat t2⟩
    clear sG e3 e4 hv hK hR
    rintro σ G ⟨w1, y1, w2, y2, ⟨⟨x5, x6, rfl⟩, sG, e3, e4, hv⟩, hK2, hK⟩
    refine ⟨_, rfl, _, rfl, .ref d3, .ref d4, rfl, .inr ⟨d3, d4, _, _, rfl, rfl, .inl ⟨SqL.of e3, SqL.of e4⟩, rfl, (by show 2 < 2000; decide), fun i x y a1 a2 => ?_⟩, fun H' s' => q _ (B1.same (sG.trans s')) (tH.trans (But.of (sG.trans s')))⟩
    match i, a1, a2 with
    | 0, a1, a2 => cases a1; cases a2; exact hK.lk
    | 1, a1, a2 => cases a1; cases a2; exact hK2.lk
    | n + 2, a1, a2 => simp at a1
end
end My

set_option Elab.async false
set_option linter.all false
set_option maxRecDepth 100000
namespace My
open PySem PySem.Spec PyProof.Rows L2
/-! a value that may tell a form -/
abbrev sLawOdd : Stmt := topS 40
theorem scLawOdd : FnScope ["bag", "own", "spot", "some"] ["bag", "own"] (defScope sLawOdd) := ⟨rfl, rfl, rfl, by decide +kernel, rfl, by decide +kernel, by decide +kernel⟩
def spOdd (K : PySem.W.Frag) (A : FA) : Sp := fun vs H Q _ => ∃ (b c : Addr) (ns : List Int) (own : Str), vs = [.ref b, .str own] ∧ own.length ≤ 10 ∧ BagC K H b c ns ∧ ∀ v H', OddV K A.C H' v → BagC K H' b c ns → But b H H' → Q v H'
theorem OddV.but {K : PySem.W.Frag} {C : Fk → Addr} {H H' : Hp} {b : Addr} {v : V} (t : But b H H') (n : v ≠ .ref b) (h : OddV K C H v) : OddV K C H' v := by
  rcases h with h | ⟨a, xs, rfl, h⟩ | ⟨a, rfl, dx, h⟩
  · exact .inl h
  · have n' : a ≠ b := fun e => n (by rw [e])
    exact .inr (.inl ⟨a, xs, rfl, h.imp (t.seq n') (t.seqT n')⟩)
  · have n' : a ≠ b := fun e => n (by rw [e])
    exact .inr (.inr ⟨a, rfl, dx, t _ _ n' h⟩)
theorem cat_len (a b : Str) : (a ++ b).length = a.length + b.length := by
  show (a.cps ++ b.cps).size = _
  rw [Array.size_append]
  rfl
theorem flat_ne {v : V} {b : Addr} (h : flat0 v) : v ≠ .ref b := fun e => by rw [e] at h; exact h
section
variable {P : Program} {w : World} {K : PySem.W.Frag} {mg : Str → Option Value} {base : Heap} {A : FA}
theorem ok_odd {f fD : Addr} {fd fdD : FuncData} (F : Fun K "_law_odd" "_law_odd" sLawOdd f fd) (Z : Fms P w K mg base A) (D : Cal P w K mg base "_law_draw" 1 ["bag", "size"] (spDrawC K) fD fdD) (b_len : mg "len" = none) : FnOk P w K mg base CX0 5 f fd ["bag", "own"] (spOdd K A) := by
  refine F.ok scLawOdd (fun vs H Q E h => ?_) (fun cdv A' outer s H vs Q E hr h => ?_)
  · obtain ⟨b, c, ns, own, rfl, _⟩ := h
    rfl
  · obtain ⟨b, c, ns, own, rfl, ho, B, q⟩ := h
    refine ⟨_, (pss_cons (ps_set (i := 2) scLawOdd.nd rfl (.inl rfl) (pe_call D.ok (hr.mono (by omega)) rfl D.g D.kp D.b .nil pass0 (pa_cons (pv 0) (pa_cons (pe_op op_add (pe_callB call_len rfl b_len (by decide +kernel) (pa_cons (pv 1) pa_nil)) pe_int) pa_nil))))
      (pss_cons (ps_set (i := 3) scLawOdd.nd rfl (.inl rfl) (pe_lst (pa_cons (pv 1) (pa_cons (pe_op op_add_str (pv 1) pe_str) (pa_cons (pe_op op_add_str pe_str (pv 1)) (pa_cons (pe_op op_add_str (pv 1) pe_str) (pa_cons (pe_op op_add_str (pe_slice C8.sl_txt (pv 1) po_none (po_some (pv 2))) (pe_slice C8.sl_txt (pv 1) (po_some (pe_op op_add (pv 2) pe_int)) po_none)) (pa_cons (pe_op op_add_str (pe_op op_add_str (pe_slice C8.sl_txt (pv 1) po_none (po_some (pv 2))) pe_str) (pe_slice C8.sl_txt (pv 1) (po_some (pv 2)) po_none)) pa_nil))))))))
      (pss_cons (ps_expr (pe_bm PySem.F.plainAttrs_list PySem.F.slot_list_extend PySem.F.type_list_extend mt_extend (pv 3) (pa_cons (pe_lst (pa_cons pe_str (pa_cons pe_str (pa_cons pe_str (pa_cons pe_str (pa_cons pe_str (pa_cons pe_str (pa_cons pe_str (pa_cons pe_str (pa_cons pe_str pa_nil)))))))))) pa_nil)))
      (pss_cons (ps_expr (pe_bm PySem.F.plainAttrs_list PySem.F.slot_list_extend PySem.F.type_list_extend mt_extend (pv 3) (pa_cons (pe_lst (pa_cons (pe_op op_add_str (pv 1) pe_str) (pa_cons pe_str (pa_cons (pe_op op_add_str (pe_op op_add_str (pe_slice C8.sl_txt (pv 1) po_none (po_some (pv 2))) pe_str) (pe_slice C8.sl_txt (pv 1) (po_some (pe_op op_add (pv 2) pe_int)) po_none)) pa_nil)))) pa_nil)))
      (pss_cons (ps_expr (pe_bm PySem.F.plainAttrs_list PySem.F.slot_list_extend PySem.F.type_list_extend mt_extend (pv 3) (pa_cons (pe_lst (pa_cons pe_non (pa_cons pe_bl (pa_cons pe_int (pa_cons pe_int (pa_cons (pe_tup (pa_cons (pv 1) pa_nil)) (pa_cons (pe_lst (pa_cons (pv 1) pa_nil)) (pa_cons (pe_make0 (Z.mkc .one) (Z.iok .one) (hr.mono (by omega)) rfl (Z.g .one) (Z.ib .one) .nil pass0) (pa_cons (pe_tup (pa_cons pe_str (pa_cons pe_int pa_nil))) (pa_cons pe_str (pa_cons pe_str (pa_cons pe_str pa_nil)))))))))))) pa_nil)))
      (pss_one (ps_ret (pe_ix ix_list (pv 3) (pe_call D.ok (hr.mono (by omega)) rfl D.g D.kp D.b .nil pass0 (pa_cons (pv 0) (pa_cons (pe_callB call_len rfl b_len (by decide +kernel) (pa_cons (pv 3) pa_nil)) pa_nil))) (fun _ _ => rfl))))))))), ?_⟩
    have es0 : ∀ z : Nat, z ≤ 10000 → z ≤ sizeLine := fun z hz => by rw [sizeLine_eq]; omega
    refine ⟨_, rfl, _, rfl, _, own.length, rfl, ⟨es0 _ (by omega), rfl⟩, _, _, rfl, rfl, b, _, c, ns, rfl, B, by omega, by omega, fun r H1 r0 r1 B1 t1 => ?_⟩
    have l1 : (Str.ofString " ").length = 1 := by decide +kernel
    have l2 : (Str.ofString " 1").length = 2 := by decide +kernel
    have l3' : (Str.ofString "2").length = 1 := by decide +kernel
    have l4' : (Str.ofString "\n").length = 1 := by decide +kernel
    have sl : ∀ lo hi, (Txt.slice own lo hi).length ≤ 10 := fun lo hi => Nat.le_trans (Txt.slice_le _ _ _) ho
    have own0 : own.length ≤ sizeLine := es0 _ (by omega)
    have sll : ∀ lo hi lo' hi', (Txt.slice own lo hi).length + (Txt.slice own lo' hi').length ≤ sizeLine := fun lo hi lo' hi' => by
      have a := sl lo hi
      have b := sl lo' hi'
      exact es0 _ (by omega)
    have sl1 : ∀ lo hi (z : Str), z.length = 1 → (Txt.slice own lo hi).length + z.length ≤ sizeLine := fun lo hi z e => by
      have a := sl lo hi
      exact es0 _ (by omega)
    have sls : ∀ lo hi lo' hi' (z : Str), z.length = 1 → (Txt.slice own lo hi ++ z).length + (Txt.slice own lo' hi').length ≤ sizeLine := fun lo hi lo' hi' z e => by
      have a := sl lo hi
      have b := sl lo' hi'
      rw [cat_len]
      exact es0 _ (by omega)
    refine ⟨_, rfl, _, rfl, _, _, rfl, rfl, es0 _ (by omega), _, rfl, _, _, rfl, rfl, es0 _ (by omega), _, rfl, _, _, rfl, rfl, es0 _ (by omega),
      _, rfl, _, rfl, _, rfl, own, rfl, own0, _, rfl, _, rfl, _, _, rfl, rfl, _, rfl, own, rfl, own0, _, _, rfl, rfl, sll _ _ _ _,
      _, rfl, _, rfl, _, rfl, own, rfl, own0, _, _, rfl, rfl, sl1 _ _ _ l1, _, rfl, _, rfl, _, rfl, own, rfl, own0, _, _, rfl, rfl, sls _ _ _ _ _ l1, es0 6 (by decide), fun l nl => ?_⟩
    have s2 := same_upd (o := .lst [.str own, .str (own ++ Str.ofString " "), .str (Str.ofString " " ++ own), .str (own ++ Str.ofString " 1"), .str (Txt.slice own none (some r) ++ Txt.slice own (some (r + 1)) none), .str (Txt.slice own none (some r) ++ Str.ofString " " ++ Txt.slice own (some r) none)]) nl
    have e2 : (upd H1 l (.lst [.str own, .str (own ++ Str.ofString " "), .str (Str.ofString " " ++ own), .str (own ++ Str.ofString " 1"), .str (Txt.slice own none (some r) ++ Txt.slice own (some (r + 1)) none), .str (Txt.slice own none (some r) ++ Str.ofString " " ++ Txt.slice own (some r) none)])) l = some (.lst [.str own, .str (own ++ Str.ofString " "), .str (Str.ofString " " ++ own), .str (own ++ Str.ofString " 1"), .str (Txt.slice own none (some r) ++ Txt.slice own (some (r + 1)) none), .str (Txt.slice own none (some r) ++ Str.ofString " " ++ Txt.slice own (some r) none)]) := upd_same
    obtain ⟨xs, ex⟩ : ∃ xs, xs = [V.str own, .str (own ++ Str.ofString " "), .str (Str.ofString " " ++ own), .str (own ++ Str.ofString " 1"), .str (Txt.slice own none (some r) ++ Txt.slice own (some (r + 1)) none), .str (Txt.slice own none (some r) ++ Str.ofString " " ++ Txt.slice own (some r) none)] := ⟨_, rfl⟩
    have fx : ∀ x ∈ xs, flat0 x := fun x m => by
      rw [ex] at m
      simp only [List.mem_cons, List.not_mem_nil, or_false] at m
      rcases m with rfl | rfl | rfl | rfl | rfl | rfl <;> trivial
    have lx : xs.length = 6 := by rw [ex]; rfl
    rw [← ex] at s2 e2 ⊢
    clear ex
    generalize upd H1 l (.lst xs) = H2 at s2 e2 ⊢
    refine ⟨_, rfl, .inl ⟨rfl, _, SqL.of e2⟩, es0 9 (by decide), fun l3 n3 => ⟨l, l3, _, _, rfl, rfl, same_upd n3 _ _ e2, upd_same, es0 _ (by rw [lx]; decide), ?_⟩⟩
    obtain ⟨ys, ey⟩ : ∃ ys, ys = [V.str "points", .str "lists", .str "points 0", .str "points 4", .str "points 3", .str "lists 4", .str "lists 5", .str "lists 01", .str "one 0"] := ⟨_, rfl⟩
    have fy : ∀ x ∈ xs ++ ys, flat0 x := fun x m => by
      rcases List.mem_append.mp m with m | m
      · exact fx x m
      · rw [ey] at m
        simp only [List.mem_cons, List.not_mem_nil, or_false] at m
        rcases m with rfl | rfl | rfl | rfl | rfl | rfl | rfl | rfl | rfl <;> trivial
    have ly : (xs ++ ys).length = 15 := by rw [List.length_append, lx, ey]; rfl
    rw [← ey]
    clear ey
    have s3 : Same H1 (upd (upd H2 l3 (.lst ys)) l (.lst (xs ++ ys))) := same_updF nl (s2.trans (same_upd n3))
    have e3 : (upd (upd H2 l3 (.lst ys)) l (.lst (xs ++ ys))) l = some (.lst (xs ++ ys)) := upd_same
    generalize upd (upd H2 l3 (.lst ys)) l (.lst (xs ++ ys)) = H3 at s3 e3 ⊢
    generalize xs ++ ys = zs at fy ly e3 ⊢
    clear fx lx s2 e2 n3
    refine ⟨_, rfl, .inl ⟨rfl, _, SqL.of e3⟩, _, rfl, _, _, rfl, rfl, es0 _ (by omega), _, rfl, _, rfl, _, rfl, own, rfl, own0, _, _, rfl, rfl, sl1 _ _ _ l3', _, rfl, _, rfl, _, _, rfl, rfl, _, rfl, own, rfl, own0, _, _, rfl, rfl, sls _ _ _ _ _ l3', es0 3 (by decide), fun l4 n4 => ⟨l, l4, _, _, rfl, rfl, same_upd n4 _ _ e3, upd_same, es0 _ (by rw [ly]; show 15 + 3 ≤ 10000; decide), ?_⟩⟩
    obtain ⟨ys, ey⟩ : ∃ ys, ys = [V.str (own ++ Str.ofString "\n"), .str "Ranks", .str (Txt.slice own none (some r) ++ Str.ofString "2" ++ Txt.slice own (some (r + 1)) none)] := ⟨_, rfl⟩
    have fx : ∀ x ∈ zs ++ ys, flat0 x := fun x m => by
      rcases List.mem_append.mp m with m | m
      · exact fy x m
      · rw [ey] at m
        simp only [List.mem_cons, List.not_mem_nil, or_false] at m
        rcases m with rfl | rfl | rfl <;> trivial
    have lx : (zs ++ ys).length = 18 := by rw [List.length_append, ly, ey]; rfl
    rw [← ey]
    clear ey
    have s4 : Same H1 (upd (upd H3 l4 (.lst ys)) l (.lst (zs ++ ys))) := same_updF nl (s3.trans (same_upd n4))
    have e4 : (upd (upd H3 l4 (.lst ys)) l (.lst (zs ++ ys))) l = some (.lst (zs ++ ys)) := upd_same
    generalize upd (upd H3 l4 (.lst ys)) l (.lst (zs ++ ys)) = H4 at s4 e4 ⊢
    generalize zs ++ ys = xs at fx lx e4 ⊢
    clear fy ly s3 e3 n4
    refine ⟨_, rfl, .inl ⟨rfl, _, SqL.of e4⟩, _, rfl, es0 1 (by decide), fun t1' nt1 => ⟨_, rfl, es0 1 (by decide), fun l5 n5 => ?_⟩⟩
    have g1 : (upd (upd H4 t1' (.tup [.str own])) l5 (.lst [.str own])) t1' = some (.tup [.str own]) := same_upd n5 _ _ upd_same
    have g2 : (upd (upd H4 t1' (.tup [.str own])) l5 (.lst [.str own])) l5 = some (.lst [.str own]) := upd_same
    have s5 := (same_upd (o := .tup [.str own]) nt1).trans (same_upd (o := .lst [.str own]) n5)
    generalize upd (upd H4 t1' (.tup [.str own])) l5 (.lst [.str own]) = H5 at g1 g2 s5 ⊢
    refine fun a dx na nd _ => ⟨a, dx, rfl, upd_same, rfl, ?_⟩
    obtain ⟨s6, dx', k6⟩ := new_fm (C := A.C) .one 0 na nd
    generalize upd (upd (upd H5 dx (.own a)) a (.ins (A.C .one) dx [])) a (.ins (A.C .one) dx [("word", .str Fk.one.word), ("number", .int (0 : Nat))]) = H6 at s6 k6 ⊢
    refine ⟨es0 2 (by decide), fun t2 nt2 => ⟨es0 11 (by decide), fun l7 n7 => ?_⟩⟩
    have s7 := (same_upd (o := .tup [.str "one", .int 0]) nt2).trans (same_upd (o := .lst [.non, .bl true, .int 0, .int 1, .ref t1', .ref l5, .ref a, .ref t2, .str "", .str "points  2", .str "ticks 1"]) n7)
    have g3 : (upd (upd H6 t2 (.tup [.str "one", .int 0])) l7 (.lst [.non, .bl true, .int 0, .int 1, .ref t1', .ref l5, .ref a, .ref t2, .str "", .str "points  2", .str "ticks 1"])) t2 = some (.tup [.str "one", .int 0]) := same_upd n7 _ _ upd_same
    have s47 := (s5.trans s6).trans s7
    have s67 := s6.trans s7
    refine ⟨l, l7, _, _, rfl, rfl, s47 _ _ e4, upd_same, es0 _ (by rw [lx]; show 18 + 11 ≤ 10000; decide), ?_⟩
    generalize upd (upd H6 t2 (.tup [.str "one", .int 0])) l7 (.lst [.non, .bl true, .int 0, .int 1, .ref t1', .ref l5, .ref a, .ref t2, .str "", .str "points  2", .str "ticks 1"]) = H7 at s7 g3 s47 s67 ⊢
    have t17 := s67 _ _ g1
    have l57 := s67 _ _ g2
    have a7 := s7 _ _ k6
    have l7' := s47 _ _ e4
    have ne5 : l5 ≠ l := fun e => by
      rw [e] at n5
      rw [same_upd nt1 _ _ e4] at n5
      cases n5
    have s8 : Same H1 (upd H7 l (.lst (xs ++ [.non, .bl true, .int 0, .int 1, .ref t1', .ref l5, .ref a, .ref t2, .str "", .str "points  2", .str "ticks 1"]))) := same_updF nl (s4.trans s47)
    have e8 : (upd H7 l (.lst (xs ++ [.non, .bl true, .int 0, .int 1, .ref t1', .ref l5, .ref a, .ref t2, .str "", .str "points  2", .str "ticks 1"]))) l = some (.lst (xs ++ [.non, .bl true, .int 0, .int 1, .ref t1', .ref l5, .ref a, .ref t2, .str "", .str "points  2", .str "ticks 1"])) := upd_same
    have B8 := B1.same s8
    have nb : ∀ p o, (upd H7 l (.lst (xs ++ [.non, .bl true, .int 0, .int 1, .ref t1', .ref l5, .ref a, .ref t2, .str "", .str "points  2", .str "ticks 1"]))) p = some o → H1 p = none → p ≠ b := fun p o _ h => B1.ne h
    have odd : ∀ x ∈ xs ++ [.non, .bl true, .int 0, .int 1, .ref t1', .ref l5, .ref a, .ref t2, .str "", .str "points  2", .str "ticks 1"], OddV K A.C (upd H7 l (.lst (xs ++ [.non, .bl true, .int 0, .int 1, .ref t1', .ref l5, .ref a, .ref t2, .str "", .str "points  2", .str "ticks 1"]))) x ∧ x ≠ .ref b := fun x m => by
      have fl : ∀ {y : V}, flat0 y → OddV K A.C (upd H7 l (.lst (xs ++ [.non, .bl true, .int 0, .int 1, .ref t1', .ref l5, .ref a, .ref t2, .str "", .str "points  2", .str "ticks 1"]))) y ∧ y ≠ .ref b := fun h => ⟨.inl h, flat_ne h⟩
      have rb : ∀ {p : Addr}, H1 p = none → V.ref p ≠ .ref b := fun h e => B1.ne h (V.ref.inj e)
      have f45 := s4.free nt1
      have f5 := s4.free ((same_upd nt1).free n5)
      have f6 := (s4.trans s5).free na
      have f7 := (s4.trans (s5.trans s6)).free nt2
      rcases List.mem_append.mp m with m | m
      · exact fl (fx x m)
      · simp only [List.mem_cons, List.not_mem_nil, or_false] at m
        rcases m with rfl | rfl | rfl | rfl | rfl | rfl | rfl | rfl | rfl | rfl | rfl
        case inr.inr.inr.inr.inr.inl => exact ⟨.inr (.inl ⟨t1', _, rfl, .inr (SqT.of (by rw [upd_ne (fun e => by rw [e, l7'] at t17; cases t17)]; exact t17))⟩), rb f45⟩
        case inr.inr.inr.inr.inr.inr.inl => exact ⟨.inr (.inl ⟨l5, _, rfl, .inl (SqL.of (by rw [upd_ne ne5]; exact l57))⟩), rb f5⟩
        case inr.inr.inr.inr.inr.inr.inr.inl => exact ⟨.inr (.inr ⟨a, rfl, dx', by rw [upd_ne (fun e => by rw [e, l7'] at a7; cases a7)]; exact a7⟩), rb f6⟩
        case inr.inr.inr.inr.inr.inr.inr.inr.inl => exact ⟨.inr (.inl ⟨t2, _, rfl, .inr (SqT.of (by rw [upd_ne (fun e => by rw [e, l7'] at g3; cases g3)]; exact g3))⟩), rb f7⟩
        all_goals exact fl trivial
    have l29 : (xs ++ ([.non, .bl true, .int 0, .int 1, .ref t1', .ref l5, .ref a, .ref t2, .str "", .str "points  2", .str "ticks 1"] : List V)).length = 29 := by rw [List.length_append, lx]; rfl
    generalize upd H7 l (.lst (xs ++ [.non, .bl true, .int 0, .int 1, .ref t1', .ref l5, .ref a, .ref t2, .str "", .str "points  2", .str "ticks 1"])) = H8 at s8 e8 B8 odd nb ⊢
    generalize xs ++ ([.non, .bl true, .int 0, .int 1, .ref t1', .ref l5, .ref a, .ref t2, .str "", .str "points  2", .str "ticks 1"] : List V) = zs at e8 odd l29 ⊢
    refine ⟨_, rfl, _, rfl, _, rfl, _, _, rfl, .inl ⟨_, SqL.of e8, rfl⟩, b, _, c, ns, rfl, B8, by omega, by omega, fun r2 H9 r20 r21 B9 t9 => ?_⟩
    obtain ⟨j, rfl⟩ : ∃ j : Nat, r2 = (j : Int) := ⟨r2.toNat, by omega⟩
    have hj : j < zs.length := by omega
    have nlb : l ≠ b := B1.ne nl
    obtain ⟨o1, o2⟩ := odd _ (List.getElem_mem hj)
    exact ⟨l, _, _, zs[j], rfl, rfl, SqL.of (t9 _ _ nlb e8), atI_nat (List.getElem?_eq_getElem hj), q _ H9 (o1.but t9 o2) B9 ((t1.trans (But.of s8)).trans t9)⟩
end
end My

set_option Elab.async false
set_option linter.all false
set_option maxRecDepth 100000
namespace My
open PySem PySem.Spec PyProof.Rows L2
/-! the law -/
abbrev sLaw : Stmt := topS 41
theorem scLaw : FnScope ["script", "bag", "lap", "shape", "size", "tool", "due", "told", "own", "other", "twin", "third", "answers", "k", "thing", "found", "right"] ["script"] (defScope sLaw) := ⟨rfl, rfl, rfl, by decide +kernel, rfl, by decide +kernel, by decide +kernel⟩
def spLaw (K : PySem.W.Frag) : Sp := fun vs H Q _ => ∃ (a : Addr) (ns : List Int), vs = [.ref a] ∧ SqL K H a (ns.map V.int) ∧ ns.length ≤ 63 ∧ ∀ H', Q (.bl true) H'
theorem BagAt.c {K : PySem.W.Frag} {H : Hp} {b : Addr} (h : BagAt K H b) : ∃ c ns, BagC K H b c ns := h
/-- two lists of the same rows -/
theorem rows_lk {K : PySem.W.Frag} {H : Hp} {n : Nat} {a b : Addr} {xs ys : List V} {rs : List (List Int)} (ea : H a = some (.lst xs)) (eb : H b = some (.lst ys)) (ha : TRs H xs rs) (hb : TRs H ys rs) (hl : rs.length < 2000) (hr : ∀ r ∈ rs, r.length < 2000) : Lk K H (n + 2) (.ref a) (.ref b) := by
  refine .inr ⟨a, b, xs, ys, rfl, rfl, .inl ⟨SqL.of ea, SqL.of eb⟩, by rw [ha.len, hb.len], by rw [ha.len]; exact hl, fun i x y e1 e2 => ?_⟩
  obtain ⟨r, er, t, rfl, ht⟩ := ha.get e1
  obtain ⟨r', er', t', rfl, ht'⟩ := hb.get e2
  rw [er] at er'
  cases er'
  have lr := hr r (List.mem_of_getElem? er)
  refine .inr ⟨t, t', _, _, rfl, rfl, .inr ⟨SqT.of ht, SqT.of ht'⟩, rfl, by rw [List.length_map]; exact lr, fun j u v h1 h2 => ?_⟩
  rw [h1] at h2
  cases h2
  refine Lk.flat rfl ?_
  rw [List.getElem?_map] at h1
  cases e : r[j]? with
  | none => rw [e] at h1; cases h1
  | some z => rw [e] at h1; cases h1; trivial
theorem insL_len (r : List Int) : ∀ zs, (insL r zs).length = zs.length + 1
  | [] => rfl
  | z :: zs => by
    unfold insL
    split
    · rw [List.length_cons, insL_len r zs, List.length_cons]
    · rfl
theorem sortL_len : ∀ rs, (sortL rs).length = rs.length
  | [] => rfl
  | r :: rs => by
    show (insL r (sortL rs)).length = _
    rw [insL_len, sortL_len rs, List.length_cons]
theorem insL_mem2 {r x : List Int} : ∀ {zs : List (List Int)}, x ∈ insL r zs → x = r ∨ x ∈ zs := insL_mem
theorem sortL_mem {x : List Int} : ∀ {rs : List (List Int)}, x ∈ sortL rs → x ∈ rs
  | [], h => h
  | r :: rs, h => by
    rcases insL_mem (zs := sortL rs) h with e | h
    · rw [e]; exact List.mem_cons_self
    · exact List.mem_cons_of_mem _ (sortL_mem h)
theorem rows_bound {x : Fk} {n m : Nat} (ok : x.ok n) (h1 : 1 ≤ m) (h5 : m ≤ 5) : (x.rows n m).length < 2000 ∧ ∀ r ∈ x.rows n m, r.length < 2000 := by
  have mr : ∀ k, k ≤ 3 → (mrows k m).length < 2000 ∧ ∀ r ∈ mrows k m, r.length < 2000 := fun k hk => by
    refine ⟨?_, fun r hr => by rw [mrows_row k m r hr]; omega⟩
    rw [mrows_len]
    calc (k + 1) ^ m ≤ 4 ^ m := Nat.pow_le_pow_left (by omega) _
      _ ≤ 4 ^ 5 := Nat.pow_le_pow_right (by decide) h5
      _ < 2000 := by decide
  cases x with
  | one =>
    refine ⟨Nat.lt_of_le_of_lt (List.length_filter_le _ _) (mr 1 (by decide)).1, fun r hr => (mr 1 (by decide)).2 r (List.mem_filter.mp hr).1⟩
  | ticks => exact mr 1 (by decide)
  | points => exact mr n (show 1 ≤ n ∧ n ≤ 3 from ok).2
  | ranks =>
    have key : ∀ m, m < 6 → (rankRows0 m m).length < 2000 := by decide +kernel
    refine ⟨?_, fun r hr => ?_⟩
    · show (sortL (rankRows0 m m)).length < 2000
      rw [sortL_len]
      exact key m (by omega)
    · rw [rankRows0_row m r (sortL_mem hr)]
      omega
  | lists =>
    have e : 1 ≤ n ∧ n ≤ 4 := ok
    refine ⟨?_, fun r hr => ?_⟩
    · show (sortL (listRows0 (min n m) m)).length < 2000
      rw [sortL_len]
      unfold listRows0
      rw [List.length_append, List.length_append, List.length_map, List.length_map, List.length_range, List.length_range]
      show 0 + 1 + _ + _ < 2000
      omega
    · have hr := sortL_mem hr
      have : r.length = m := by
        rcases List.mem_append.mp hr with hr | hr
        · rcases List.mem_append.mp hr with hr | hr
          · rw [List.mem_singleton.mp hr]
            exact markL_len _ _
          · obtain ⟨_, _, e⟩ := List.mem_map.mp hr
            rw [← e]
            exact markL_len _ _
        · obtain ⟨_, _, e⟩ := List.mem_map.mp hr
          rw [← e]
          exact markL_len _ _
      omega
section
variable {K : PySem.W.Frag} {H H' : Hp} {b c : Addr} {ns : List Int}
theorem BagC.kind (B : BagC K H b c ns) {a : Addr} {o : HO} (h : H a = some o) (n : ∀ xs, o ≠ .lst xs) : a ≠ b := by
  obtain ⟨i, g, x, m, Bi⟩ := B
  intro e
  rw [e, Bi.ob] at h
  exact n _ (Option.some.inj h).symm
theorem Fm.but {C : Fk → Addr} {x : Fk} {n : Nat} {a : Addr} (t : But b H H') (B : BagC K H b c ns) (h : Fm C H x n a) : Fm C H' x n a := by
  obtain ⟨dx, h⟩ := h
  exact ⟨dx, t _ _ (B.kind h fun _ z => by cases z) h⟩
theorem TRs.but {xs : List V} {rs : List (List Int)} (t : But b H H') (B : BagC K H b c ns) (h : TRs H xs rs) : TRs H' xs rs := h.imp fun v r ⟨u, e, h⟩ => ⟨u, e, t _ _ (B.kind h fun _ z => by cases z) h⟩
theorem lk_flat {n : Nat} {p q : Addr} {xs : List V} (hp : SqL K H p xs) (hq : SqL K H q xs) (hl : xs.length < 2000) (hf : ∀ x ∈ xs, flat0 x) : Lk K H (n + 1) (.ref p) (.ref q) :=
  .inr ⟨p, q, xs, xs, rfl, rfl, .inl ⟨hp, hq⟩, rfl, hl, fun i x y e1 e2 => by rw [e1] at e2; cases e2; exact Lk.flat rfl (hf x (List.mem_of_getElem? e1))⟩
theorem lk_flatT {n : Nat} {p q : Addr} {xs : List V} (hp : SqT K H p xs) (hq : SqT K H q xs) (hl : xs.length < 2000) (hf : ∀ x ∈ xs, flat0 x) : Lk K H (n + 1) (.ref p) (.ref q) :=
  .inr ⟨p, q, xs, xs, rfl, rfl, .inr ⟨hp, hq⟩, rfl, hl, fun i x y e1 e2 => by rw [e1] at e2; cases e2; exact Lk.flat rfl (hf x (List.mem_of_getElem? e1))⟩
end
section
variable {P : Program} {w : World} {K : PySem.W.Frag} {mg : Str → Option Value} {base : Heap} {A : FA} {H : Hp} {Q : VK}
/-- == of two forms -/
theorem eq_any (Z : Fms P w K mg base A) {x y : Fk} {n m : Nat} {a a' : Addr} (ka : Fm A.C H x n a) (kb : Fm A.C H y m a') (q : Q (.bl (decide (x = y ∧ n = m))) H) : ∃ i, rEqAny K (A.C i) (spEqF K (A.C i) i.word) (.ref a) (.ref a') H Q := by
  obtain ⟨dx, ha⟩ := ka
  obtain ⟨dy, hb⟩ := kb
  refine ⟨x, a, dx, _, .ref (A.C y), rfl, ha, (Z.T y).ty hb, Z.nf x y, a, .ref a', n, rfl, ⟨dx, ha⟩, ?_⟩
  by_cases e : x = y
  · subst e
    refine .inl ⟨a', m, rfl, ⟨dy, hb⟩, ?_⟩
    have : decide ((n : Int) = m) = decide (x = x ∧ n = m) := by simp [Int.ofNat_inj]
    rw [this]
    exact q
  · refine .inr ⟨.ref (A.C y), (Z.T y).ty hb, Z.kc x y e, ?_⟩
    rw [decide_eq_false (fun z => e z.1)] at q
    exact q
theorem eq_txt (Z : Fms P w K mg base A) {x : Fk} {n : Nat} {a : Addr} {z : Str} (ka : Fm A.C H x n a) (q : Q (.bl false) H) : ∃ i, rEqAny K (A.C i) (spEqF K (A.C i) i.word) (.ref a) (.str z) H Q := by
  obtain ⟨dx, ha⟩ := ka
  exact ⟨x, a, dx, _, .type "str", rfl, ha, .base (.str _), Z.nt x _ (.inl rfl), a, .str z, n, rfl, ⟨dx, ha⟩, .inr ⟨.type "str", .base (.str _), Z.kt x _ (.inl rfl), q⟩⟩
theorem eq_num (Z : Fms P w K mg base A) {x : Fk} {n : Nat} {a : Addr} {z : Int} (ka : Fm A.C H x n a) (q : Q (.bl false) H) : ∃ i, rEqAny K (A.C i) (spEqF K (A.C i) i.word) (.ref a) (.int z) H Q := by
  obtain ⟨dx, ha⟩ := ka
  exact ⟨x, a, dx, _, .type "int", rfl, ha, .base (.int _), Z.nt x _ (.inr rfl), a, .int z, n, rfl, ⟨dx, ha⟩, .inr ⟨.type "int", .base (.int _), Z.kt x _ (.inr rfl), q⟩⟩
theorem shaped_shape (x : Fk) (n : Int) : SeqAt.shaped (.tuple [.str x.word, .int n]) = true := by
  have h : ∀ x : Fk, PyData.strOk x.word = true := fun x => by cases x <;> decide +kernel
  show (PyData.canLay0 _ && decide _) = true
  simp only [PyData.canLay0, PyData.canLayAll0, h x, PyData.depth, PyData.depthAll]
  rfl
/-- == of two shapes -/
theorem eq_shape {x y : Fk} {n m : Nat} {p p' : Addr} (hp : H p = some (.tup [.str x.word, .int n])) (hp' : H p' = some (.tup [.str y.word, .int m])) (q : Q (.bl (decide (x = y ∧ n = m))) H) : rEqD K (.ref p) (.ref p') H Q := by
  refine ⟨.tuple [.str x.word, .int n], .tuple [.str y.word, .int m], .tup (SqT.of hp) (.cons (.str _) (.cons (.int _) .nil)), .tup (SqT.of hp') (.cons (.str _) (.cons (.int _) .nil)), shaped_shape x n, shaped_shape y m, ?_⟩
  have e : PyData.eqv (.tuple [.str x.word, .int n]) (.tuple [.str y.word, .int m]) = decide (x = y ∧ n = m) := by
    simp only [PyData.eqv, PyData.eqvAll, Bool.and_true]
    by_cases c : x = y
    · subst c
      have : (x.word == x.word) = true := by simp
      rw [this, Bool.true_and]
      by_cases d : n = m
      · subst d
        simp
      · have : ((n : Int) == m) = false := by simpa [Int.ofNat_inj] using d
        rw [this]
        simp [d]
    · have : (x.word == y.word) = false := by
        refine beq_eq_false_iff_ne.mpr fun z => c (Fk.word_inj z)
      rw [this, Bool.false_and]
      simp [c]
  rw [e]
  exact q
end
section
variable {P : Program} {w : World} {K : PySem.W.Frag} {mg : Str → Option Value} {base : Heap} {A : FA}
theorem ok_law {CF f fB fD fO fL fFo fMa fLs fFt fRf fOd fRd fLr : Addr} {fd fdB fdD fdO fdL fdFo fdMa fdLs fdFt fdRf fdOd fdRd fdLr : FuncData} (F : Fun K "law" "law" sLaw f fd) (Z : Fms P w K mg base A) (gF : mg "Form" = some (.ref CF)) (kF : ∀ x, PySem.W.kitOne K (.ref (A.C x)) (.ref CF) = some true)
    (Ba : Cal P w K mg base "_law_bag" 1 ["script"] (spBag K) fB fdB) (D : Cal P w K mg base "_law_draw" 1 ["bag", "size"] (spDrawC K) fD fdD) (O : Cal P w K mg base "_law_of" 2 ["bag", "things"] (spOfC K) fO fdO) (Li : Cal P w K mg base "_law_like" 7 ["told", "due"] (spLike K 6) fL fdL)
    (Fo : Cal P w K mg base "_law_form" 3 ["bag"] (spForm K) fFo fdFo) (Ma : Cal P w K mg base "_law_made" 5 ["shape"] (spMade K A) fMa fdMa) (Ls : Cal P w K mg base "_law_listing" 1 ["shape", "many"] (spListing K) fLs fdLs) (Ft : Cal P w K mg base "_law_form_text" 1 ["shape"] (spFtext K) fFt fdFt)
    (Rf : Cal P w K mg base "read_form" 5 ["text"] (spRead K A) fRf fdRf) (Od : Cal P w K mg base "_law_odd" 5 ["bag", "own"] (spOdd K A) fOd fdOd) (Rd : Cal P w K mg base "_law_read" 2 ["thing"] (spLread K A) fRd fdRd) (Lr : Cal P w K mg base "_law_refused" 11 ["bag"] (spRefused K) fLr fdLr)
    (b_range : mg "range" = none) (b_str : mg "str" = none) (b_isinstance : mg "isinstance" = none) : FnOk P w K mg base CX0 12 f fd ["script"] (spLaw K) := by
  refine F.ok scLaw (fun vs H Q E h => ?_) (fun cdv A' outer s H vs Q E hr h => ?_)
  · obtain ⟨a, ns, rfl, _⟩ := h
    rfl
  · obtain ⟨sc, ns, rfl, hS, hl, q⟩ := h
    refine ⟨_, (pss_cons (ps_set (i := 1) scLaw.nd rfl (.inl rfl) (pe_call Ba.ok (hr.mono (by omega)) rfl Ba.g Ba.kp Ba.b .nil pass0 (pa_cons (pv 0) pa_nil)))
      (pss_cons (ps_for PassesOwn.never rfl (pi_range1 rfl b_range (pa_cons pe_int pa_nil)) (pg_name (i := 2) scLaw.nd rfl (.inl rfl))
        (pss_cons (ps_par (i := 3) (j := 4) rfl scLaw.nd rfl rfl (by decide) rfl rfl (pa_cons (pe_call Fo.ok (hr.mono (by omega)) rfl Fo.g Fo.kp Fo.b .nil pass0 (pa_cons (pv 1) pa_nil)) (pa_cons (pe_call O.ok (hr.mono (by omega)) rfl O.g O.kp O.b .nil pass0 (pa_cons (pv 1) (pa_cons (pe_lst (pa_cons pe_int (pa_cons pe_int (pa_cons pe_int (pa_cons pe_int (pa_cons pe_int pa_nil)))))) pa_nil))) pa_nil)) rfl)
        (C8.pss_cut (ps_if (pt_cmpR op_eq (pe_call D.ok (hr.mono (by omega)) rfl D.g D.kp D.b .nil pass0 (pa_cons (pv 1) (pa_cons pe_int pa_nil))) pe_int (nomark _)) (pss_one (ps_set (i := 4) scLaw.nd rfl (.inl rfl) pe_int)) pss_nil)
        (pss_cons (ps_par (i := 5) (j := 6) rfl scLaw.nd rfl rfl (by decide) rfl rfl (pa_cons (pe_call Ma.ok (hr.mono (by omega)) rfl Ma.g Ma.kp Ma.b .nil pass0 (pa_cons (pv 3) pa_nil)) (pa_cons (pe_call Ls.ok (hr.mono (by omega)) rfl Ls.g Ls.kp Ls.b .nil pass0 (pa_cons (pv 3) (pa_cons (pv 4) pa_nil))) pa_nil)) rfl)
        (pss_cons (ps_set (i := 7) scLaw.nd rfl (.inl rfl) (pe_any fun x => pe_meth (pv 5) (Z.T x).cl (Z.mm x) (Z.mok x) (hr.mono (by omega)) (Z.mb x) .nil pass0 (pa_cons (pv 4) pa_nil)))
        (pss_cons (ps_if (pt_not (pt_val (pe_call Li.ok (hr.mono (by omega)) rfl Li.g Li.kp Li.b .nil pass0 (pa_cons (pv 7) (pa_cons (pv 6) pa_nil))))) (pss_one (ps_ret pe_bl)) pss_nil)
        (pss_cons (ps_expr (pe_bm0 PySem.F.plainAttrs_list PySem.F.slot_list_reverse PySem.F.type_list_reverse mt_reverse (pv 7)))
        (pss_cons (ps_expr (pe_bm PySem.F.plainAttrs_list PySem.F.slot_list_append PySem.F.type_list_append mt_append (pv 7) (pa_cons (pe_op op_repT (pe_tup (pa_cons pe_int pa_nil)) (pv 4)) pa_nil)))
        (pss_cons (ps_set (i := 8) scLaw.nd rfl (.inl rfl) (pe_call Ft.ok (hr.mono (by omega)) rfl Ft.g Ft.kp Ft.b .nil pass0 (pa_cons (pv 3) pa_nil)))
        (pss_cons (ps_if (PW.pt (pw_or (pt_not (pt_val (pe_call Li.ok (hr.mono (by omega)) rfl Li.g Li.kp Li.b .nil pass0 (pa_cons (pe_lst (pa_cons (pe_fld (pv 5) rfl) (pa_cons (pe_fld (pv 5) rfl) (pa_cons (pe_callTy (call_any fun x => call_strOwn (Z.sok x) (Z.sm x) (Z.sf x) (Z.sb x) (hr.mono (by omega))) rfl b_str (by decide +kernel) (pa_cons (pv 5) pa_nil)) pa_nil)))) (pa_cons (pe_lst (pa_cons (pe_ix ix_tup (pv 3) pe_int (fun _ _ => rfl)) (pa_cons (pe_ix ix_tup (pv 3) pe_int (fun _ _ => rfl)) (pa_cons (pv 8) pa_nil)))) pa_nil))))) (pw_or1 (pt_not (pt_val (pe_callB call_isi rfl b_isinstance (by decide +kernel) (pa_cons (pv 5) (pa_cons (pe_glob (v := .ref CF) rfl gF rfl) pa_nil)))))))) (pss_one (ps_ret pe_bl)) pss_nil)
        (pss_cons (ps_set (i := 9) scLaw.nd rfl (.inl rfl) (pe_call Fo.ok (hr.mono (by omega)) rfl Fo.g Fo.kp Fo.b .nil pass0 (pa_cons (pv 1) pa_nil)))
        (pss_cons (ps_par (i := 10) (j := 11) rfl scLaw.nd rfl rfl (by decide) rfl rfl (pa_cons (pe_call Rf.ok (hr.mono (by omega)) rfl Rf.g Rf.kp Rf.b .nil pass0 (pa_cons (pv 8) pa_nil)) (pa_cons (pe_call Ma.ok (hr.mono (by omega)) rfl Ma.g Ma.kp Ma.b .nil pass0 (pa_cons (pv 9) pa_nil)) pa_nil)) rfl)
        (pss_cons (ps_set (i := 12) scLaw.nd rfl (.inl rfl) (pe_lst (pa_cons (pe_cmpR (op_any fun x => op_eqAny (Z.eok x) (Z.em x) (Z.ef x) (Z.eb x) (hr.mono (by omega))) (pv 5) (pv 10) (nomark _)) (pa_cons (pe_cmpR (op_any fun x => op_eqAny (Z.eok x) (Z.em x) (Z.ef x) (Z.eb x) (hr.mono (by omega))) (pv 10) (pv 5) (nomark _)) (pa_cons (pe_cmpR (op_any fun x => op_eqAny (Z.eok x) (Z.em x) (Z.ef x) (Z.eb x) (hr.mono (by omega))) (pv 5) (pv 11) (nomark _)) (pa_cons (pe_cmpR (op_any fun x => op_eqAny (Z.eok x) (Z.em x) (Z.ef x) (Z.eb x) (hr.mono (by omega))) (pv 11) (pv 5) (nomark _)) (pa_cons (pe_cmpR (op_any fun x => op_eqAny (Z.eok x) (Z.em x) (Z.ef x) (Z.eb x) (hr.mono (by omega))) (pv 5) (pv 8) (nomark _)) (pa_cons (pe_cmpR (op_any fun x => op_eqAny (Z.eok x) (Z.em x) (Z.ef x) (Z.eb x) (hr.mono (by omega))) (pv 5) pe_int (nomark _)) pa_nil))))))))
        (pss_cons (ps_if (pt_not (pt_val (pe_call Li.ok (hr.mono (by omega)) rfl Li.g Li.kp Li.b .nil pass0 (pa_cons (pv 12) (pa_cons (pe_lst (pa_cons pe_bl (pa_cons pe_bl (pa_cons (pe_cmpR (op_eqD hr.units) (pv 3) (pv 9) (nomark _)) (pa_cons (pe_cmpR (op_eqD hr.units) (pv 3) (pv 9) (nomark _)) (pa_cons pe_bl (pa_cons pe_bl pa_nil))))))) pa_nil))))) (pss_one (ps_ret pe_bl)) pss_nil)
        (pss_cons (ps_if (pt_not (pt_val (pe_call Li.ok (hr.mono (by omega)) rfl Li.g Li.kp Li.b .nil pass0 (pa_cons (pe_lst (pa_cons (pe_any fun x => pe_meth (pv 5) (Z.T x).cl (Z.mm x) (Z.mok x) (hr.mono (by omega)) (Z.mb x) .nil pass0 (pa_cons (pv 4) pa_nil)) (pa_cons (pe_any fun x => pe_meth (pv 10) (Z.T x).cl (Z.mm x) (Z.mok x) (hr.mono (by omega)) (Z.mb x) .nil pass0 (pa_cons pe_int pa_nil)) pa_nil))) (pa_cons (pe_lst (pa_cons (pv 6) (pa_cons (pe_call Ls.ok (hr.mono (by omega)) rfl Ls.g Ls.kp Ls.b .nil pass0 (pa_cons (pv 3) (pa_cons pe_int pa_nil))) pa_nil))) pa_nil))))) (pss_one (ps_ret pe_bl)) pss_nil)
        (pss_one (ps_for PassesOwn.never rfl (pi_range1 rfl b_range (pa_cons pe_int pa_nil)) (pg_name (i := 13) scLaw.nd rfl (.inl rfl))
          (pss_cons (ps_set (i := 14) scLaw.nd rfl (.inl rfl) (pe_call Od.ok (hr.mono (by omega)) rfl Od.g Od.kp Od.b .nil pass0 (pa_cons (pv 1) (pa_cons (pv 8) pa_nil))))
          (pss_cons (ps_par (i := 15) (j := 16) rfl scLaw.nd rfl rfl (by decide) rfl rfl (pa_cons (pe_call Rf.ok (hr.mono (by omega)) rfl Rf.g Rf.kp Rf.b .nil pass0 (pa_cons (pv 14) pa_nil)) (pa_cons (pe_call Rd.ok (hr.mono (by omega)) rfl Rd.g Rd.kp Rd.b .nil pass0 (pa_cons (pv 14) pa_nil)) pa_nil)) rfl)
          (pss_cons (ps_if (pt_not (pt_val (pe_call Li.ok (hr.mono (by omega)) rfl Li.g Li.kp Li.b .nil pass0 (pa_cons (pe_ifExp (pt_cmpR op_isN (pv 15) pe_non (nomark _)) pe_non (pe_tup (pa_cons (pe_fld (pv 15) rfl) (pa_cons (pe_fld (pv 15) rfl) pa_nil)))) (pa_cons (pv 16) pa_nil))))) (pss_one (ps_ret pe_bl)) pss_nil)
          (pss_one (ps_if (pt_not (pt_val (pe_call Lr.ok (hr.mono (by omega)) rfl Lr.g Lr.kp Lr.b .nil pass0 (pa_cons (pv 1) pa_nil)))) (pss_one (ps_ret pe_bl)) pss_nil))))))))))))))))))))))
      (pss_one (ps_ret pe_bl)))), ?_⟩
    have es0 : ∀ z : Nat, z ≤ 10000 → z ≤ sizeLine := fun z hz => by rw [sizeLine_eq]; omega
    refine ⟨_, rfl, sc, ns, rfl, hS, fun b H1 s1 hB _ => ?_⟩
    obtain ⟨c, ns', B1⟩ := hB.c
    clear hB hS s1
    refine ⟨3, rfl, by decide, by decide, for_range (n := 3) (fun i σ G => ∃ x2 x3 x4 x5 x6 x7 x8 x9 x10 x11 x12 x13 x14 x15 x16, σ = [some (.ref sc), some (.ref b), x2, x3, x4, x5, x6, x7, x8, x9, x10, x11, x12, x13, x14, x15, x16] ∧ BagC K G b c ns') ⟨_, _, _, _, _, _, _, _, _, _, _, _, _, _, _, rfl, B1⟩ ?_ (fun σ G _ => q _)⟩
    clear B1
    rintro i σ G hi ⟨x2, x3, x4, x5, x6, x7, x8, x9, x10, x11, x12, x13, x14, x15, x16, rfl, B⟩
    refine ⟨_, rfl, b, c, ns', rfl, B, fun p x n H2 B2 t2 np hp ok => ⟨_, rfl, es0 5 (by decide), fun l0 n0 => ⟨b, l0, c, ns', _, rfl, B2.same (same_upd n0), B2.ne n0, SqL.of upd_same, (by show 0 < 5; decide), (by show 5 < 1000; decide), fun v H3 hv B3 t3 => ⟨_, _, rfl, ?_⟩⟩⟩⟩
    have pb : p ≠ b := B.ne np
    have hp3 := t3 _ _ pb (same_upd n0 _ _ hp)
    obtain ⟨m0, rfl, m02, m05⟩ : ∃ m0 : Nat, v = .int m0 ∧ 2 ≤ m0 ∧ m0 ≤ 5 := by
      simp only [List.mem_cons, List.not_mem_nil, or_false] at hv
      rcases hv with rfl | rfl | rfl | rfl | rfl
      · exact ⟨2, rfl, by decide, by decide⟩
      · exact ⟨3, rfl, by decide, by decide⟩
      · exact ⟨3, rfl, by decide, by decide⟩
      · exact ⟨4, rfl, by decide, by decide⟩
      · exact ⟨4, rfl, by decide, by decide⟩
    clear hv t2 t3 hp B2 n0 np B
    refine ⟨fun σ G => ∃ m : Nat, σ = [some (.ref sc), some (.ref b), some (.int (0 + (i : Int))), some (.ref p), some (.int m), x5, x6, x7, x8, x9, x10, x11, x12, x13, x14, x15, x16] ∧ 2 ≤ m ∧ m ≤ 5 ∧ BagC K G b c ns' ∧ G p = some (.tup [.str x.word, .int n]), ?_, ?_⟩
    · refine ⟨_, rfl, b, 6, c, ns', rfl, B3, by decide, by decide, fun r H4 r0 r1 B4 t4 => ⟨rfl, _, rfl, ite2 (fun _ => ?_) (fun _ => ?_)⟩⟩
      · exact ⟨5, rfl, by decide, by decide, B4, t4 _ _ pb hp3⟩
      · exact ⟨m0, rfl, m02, m05, B4, t4 _ _ pb hp3⟩
    clear B3 hp3 m02 m05
    rintro σ H4 ⟨m, rfl, m2, m5, B4, hp4⟩
    obtain ⟨rb1, rb2⟩ := rows_bound ok (by omega : 1 ≤ m) m5
    obtain ⟨rb3, rb4⟩ := rows_bound ok (by decide : 1 ≤ 2) (by decide)
    refine ⟨_, rfl, p, x, n, rfl, SqT.of hp4, ok, fun a5 H5 s5 na5 k5 => ⟨_, rfl, _, rfl, p, x, n, m, rfl, SqT.of (s5 _ _ hp4), ok, m2, m5, fun l6 ys H6 s6 nl6 e6 k6 => ⟨_, _, rfl, ?_⟩⟩⟩
    have B6 := (B4.same s5).same s6
    have hp6 := s6 _ _ (s5 _ _ hp4)
    have k56 := k5.same s6
    have l6b := (B4.same s5).ne nl6
    clear s5 s6 nl6 na5 k5 hp4 B4
    obtain ⟨dx5, ha5⟩ := k56
    refine ⟨x, _, rfl, a5, dx5, _, rfl, ha5, rfl, _, rfl, a5, m, n, rfl, ⟨dx5, ha5⟩, ok, by omega, m5, fun l7 xs H7 s7 nl7 e7 k7 => ?_⟩
    refine ⟨_, rfl, _, rfl, .ref l7, .ref l6, rfl, rows_lk e7 (s7 _ _ e6) k7 (k6.imp fun v r h => h.same s7) rb1 rb2, fun H8 s8 => ⟨_, rfl, iteF ?_⟩⟩
    refine ⟨_, rfl, .inl ⟨rfl, _, SqL.of (s8 _ _ e7)⟩, l7, xs, rfl, rfl, s8 _ _ e7, ?_⟩
    have s68 := s7.trans s8
    have lx : xs.length < 2000 := by rw [k7.len]; exact rb1
    refine ⟨_, rfl, .inl ⟨rfl, _, SqL.of upd_same⟩, es0 1 (by decide), fun t nt => ⟨_, rfl, t, m, [.int 9], rfl, rfl, SqT.of upd_same, by simp, by omega, by omega, (by show 1 ≤ 1000; decide), fun p2 np2 => ⟨l7, xs.reverse, _, rfl, rfl, same_upd np2 _ _ (same_upd nt _ _ upd_same), (by rw [List.length_reverse, sizeLine_eq]; omega), ?_⟩⟩⟩
    have s9 : ∀ oB oC oD, Same H6 (upd (upd (upd (upd H8 l7 (.lst xs.reverse)) t oB) p2 oC) l7 oD) := fun oB oC oD => by
      have f1 := same_updF (o := .lst xs.reverse) nl7 s68
      have np' : upd (upd H8 l7 (.lst xs.reverse)) t oB p2 = none := by
        by_cases z : p2 = t
        · rw [z, upd_same] at np2
          cases np2
        · rw [upd_ne z] at np2 ⊢
          exact np2
      exact same_updF nl7 ((f1.trans (same_upd nt)).trans (same_upd np'))
    generalize hH9 : upd (upd (upd (upd H8 l7 (.lst xs.reverse)) t (.tup [.int 9])) p2 _) l7 _ = H9
    have s9 : Same H6 H9 := by rw [← hH9]; exact s9 _ _ _
    clear hH9
    have B9 := B6.same s9
    have hp9 := s9 _ _ hp6
    have ha9 := s9 _ _ ha5
    have e69 := s9 _ _ e6
    have k69 := k6.imp fun v r h => TR.same s9 h
    clear s9 s68 s7 s8 e7 k7 lx nl7 B6 hp6 ha5 e6 k6
    refine ⟨_, rfl, p, x.word, n, rfl, SqT.of hp9, Fk.ok4 ok, x.wlen, ?_⟩
    have i0 : atI [V.str x.word, V.int n] 0 = some (.str x.word) := rfl
    have i1 : atI [V.str x.word, V.int n] 1 = some (.int n) := rfl
    refine ⟨_, rfl, a5, A.C x, dx5, _, _, rfl, ha9, (Z.T x).cl, (Z.T x).nW, rfl, _, rfl, a5, A.C x, dx5, _, _, rfl, ha9, (Z.T x).cl, (Z.T x).nN, rfl, _, rfl, x, a5, dx5, _, rfl, ha9, a5, n, rfl, ⟨dx5, ha9⟩, ok, _, rfl, es0 3 (by decide), fun q1 nq1 => ?_⟩
    have sq1 := same_upd (o := .lst [.str x.word, .int n, .str (x.text n)]) nq1
    refine ⟨_, rfl, p, _, 0, _, rfl, rfl, SqT.of (sq1 _ _ hp9), i0, _, rfl, p, _, 1, _, rfl, rfl, SqT.of (sq1 _ _ hp9), i1, _, rfl, es0 3 (by decide), fun q2 nq2 => ?_⟩
    have sq2 := same_upd (o := .lst [.str x.word, .int n, .str (x.text n)]) nq2
    refine ⟨.ref q1, .ref q2, rfl, lk_flat (SqL.of (sq2 _ _ upd_same)) (SqL.of upd_same) (by show 3 < 2000; decide) (fun x m => by
      simp only [List.mem_cons, List.not_mem_nil, or_false] at m
      rcases m with rfl | rfl | rfl <;> trivial), fun H10 s10 => ⟨_, rfl, iteF ?_⟩⟩
    have s10 := (sq1.trans sq2).trans s10
    refine ⟨_, rfl, _, _, _, _, _, rfl, .own CF, (Z.T x).ty (s10 _ _ ha9), kF x, _, rfl, iteF ?_⟩
    have B10 := B9.same s10
    have hp10 := s10 _ _ hp9
    have k510 : Fm A.C H10 x n a5 := ⟨dx5, s10 _ _ ha9⟩
    have e610 := s10 _ _ e69
    have k610 := k69.imp fun v r h => TR.same s10 h
    clear s10 sq1 sq2 nq1 nq2 ha9 hp9 B9 e69 k69
    refine ⟨_, rfl, b, c, ns', rfl, B10, fun p9 y n9 H11 B11 t11 np9 hp9 ok9 => ?_⟩
    have hp11 := t11 _ _ pb hp10
    have k511 := k510.but t11 B10
    have e611 := t11 _ _ l6b e610
    have k611 := k610.but t11 B10
    clear hp10 k510 e610 k610 B10 t11 np9
    have p9ok := hp9
    refine ⟨_, rfl, _, rfl, .inl trivial, fun a10 x' n' H12 hrd s12 k10 => ?_, fun H12 hn _ => by
      have z := readS_text ok
      rw [show (V.str (shapeText x.word n)) = V.str (x.text n) from rfl, z] at hn
      cases hn⟩
    have hrd' : some (x, n) = some (x', n') := (readS_text ok).symm.trans hrd
    cases hrd'
    clear hrd
    refine ⟨_, rfl, p9, y, n9, rfl, SqT.of (s12 _ _ hp9), ok9, fun a11 H13 s13 na11 k11 => ⟨_, _, rfl, ?_⟩⟩
    have s1113 := s12.trans s13
    have B13 := B11.same s1113
    have hp13 := s1113 _ _ hp11
    have hp913 := s1113 _ _ hp9
    have k513 := k511.same s1113
    have k1013 := k10.same s13
    have e613 := s1113 _ _ e611
    have k613 := k611.imp fun v r h => TR.same s1113 h
    clear s1113 s12 s13 na11 k10 k611 e611 k511 hp9 hp11 B11 p9ok
    refine ⟨_, rfl, _, rfl, eq_any Z k513 k1013 ⟨_, rfl, _, rfl, eq_any Z k1013 k513 ⟨_, rfl, _, rfl, eq_any Z k513 k11 ⟨_, rfl, _, rfl, eq_any Z k11 k513 ⟨_, rfl, _, rfl, eq_txt Z k513 ⟨_, rfl, eq_num Z k513 ⟨es0 6 (by decide), fun l12 n12 => ?_⟩⟩⟩⟩⟩⟩⟩
    have s14 := same_upd (o := .lst [.bl (decide (x = x ∧ n = n)), .bl (decide (x = x ∧ n = n)), .bl (decide (x = y ∧ n = n9)), .bl (decide (y = x ∧ n9 = n)), .bl false, .bl false]) n12
    refine ⟨_, rfl, _, rfl, _, rfl, eq_shape (s14 _ _ hp13) (s14 _ _ hp913) ⟨_, rfl, _, rfl, eq_shape (s14 _ _ hp13) (s14 _ _ hp913) ⟨es0 6 (by decide), fun q2 n2 => ?_⟩⟩⟩
    have s15 := same_upd (o := .lst [.bl true, .bl true, .bl (decide (x = y ∧ n = n9)), .bl (decide (x = y ∧ n = n9)), .bl false, .bl false]) n2
    have sy : decide (y = x ∧ n9 = n) = decide (x = y ∧ n = n9) := by
      by_cases e : x = y ∧ n = n9
      · rw [decide_eq_true e, decide_eq_true ⟨e.1.symm, e.2.symm⟩]
      · rw [decide_eq_false e, decide_eq_false (fun z => e ⟨z.1.symm, z.2.symm⟩)]
    have tt : decide (x = x ∧ n = n) = true := decide_eq_true ⟨rfl, rfl⟩
    refine ⟨.ref l12, .ref q2, rfl, lk_flat (xs := [.bl true, .bl true, .bl (decide (x = y ∧ n = n9)), .bl (decide (x = y ∧ n = n9)), .bl false, .bl false]) (SqL.of (by rw [s15 _ _ upd_same, tt, sy])) (SqL.of upd_same) (by show 6 < 2000; decide) (fun x m => by
      simp only [List.mem_cons, List.not_mem_nil, or_false] at m
      rcases m with rfl | rfl | rfl | rfl | rfl | rfl <;> trivial), fun H16 s16 => ⟨_, rfl, iteF ?_⟩⟩
    have s16 := (s14.trans s15).trans s16
    have B16 := B13.same s16
    have hp16 := s16 _ _ hp13
    have k516 := k513.same s16
    have k1016 := k1013.same s16
    have e616 := s16 _ _ e613
    have k616 := k613.imp fun v r h => TR.same s16 h
    clear s16 s14 s15 n12 n2 k513 k1013 k11 hp913 e613 k613 B13 hp13
    obtain ⟨dx5', ha516⟩ := k516
    obtain ⟨dx10, ha10⟩ := k1016
    refine ⟨x, _, rfl, a5, dx5', _, rfl, ha516, rfl, _, rfl, a5, m, n, rfl, ⟨dx5', ha516⟩, ok, by omega, m5, fun l1 xs1 H17 s17 nl1 el1 kl1 => ?_⟩
    refine ⟨x, _, rfl, a10, dx10, _, rfl, s17 _ _ ha10, rfl, a10, 2, n, rfl, ⟨dx10, s17 _ _ ha10⟩, ok, by decide, by decide, fun l2 xs2 H18 s18 nl2 el2 kl2 => ⟨es0 2 (by decide), fun q1 nq1 => ?_⟩⟩
    have s19 := same_upd (o := .lst [.ref l1, .ref l2]) nq1
    have s1619 := (s17.trans s18).trans s19
    refine ⟨_, rfl, _, rfl, p, x, n, 2, rfl, SqT.of (s1619 _ _ hp16), ok, by decide, by decide, fun l3 xs3 H20 s20 nl3 el3 kl3 => ⟨es0 2 (by decide), fun q2 nq2 => ?_⟩⟩
    have s21 := same_upd (o := .lst [.ref l6, .ref l3]) nq2
    have s1921 := s20.trans s21
    refine ⟨.ref q1, .ref q2, rfl, .inr ⟨q1, q2, _, _, rfl, rfl, .inl ⟨SqL.of (s1921 _ _ upd_same), SqL.of upd_same⟩, rfl, (by show 2 < 2000; decide), fun j u v e1 e2 => ?_⟩, fun H22 s22 => ⟨_, rfl, iteF ?_⟩⟩
    · match j, e1, e2 with
      | 0, e1, e2 =>
        cases e1
        cases e2
        exact rows_lk (s1921 _ _ (s19 _ _ (s18 _ _ el1))) (s1921 _ _ (s1619 _ _ e616)) (((kl1.imp fun v r h => h.same s18).imp fun v r h => h.same s19).imp fun v r h => h.same s1921) ((k616.imp fun v r h => h.same s1619).imp fun v r h => h.same s1921) rb1 rb2
      | 1, e1, e2 =>
        cases e1
        cases e2
        exact rows_lk (s1921 _ _ (s19 _ _ el2)) (s21 _ _ el3) ((kl2.imp fun v r h => h.same s19).imp fun v r h => h.same s1921) (kl3.imp fun v r h => h.same s21) rb3 rb4
      | j + 2, e1, e2 => simp at e1
    have s22 := (s1619.trans s1921).trans s22
    have B22 := B16.same s22
    clear s22 s1921 s21 s20 s1619 s19 s17 s18 nl1 nl2 nl3 nq1 nq2 el1 el2 el3 kl1 kl2 kl3 e616 k616 hp16 ha516 ha10 B16 rb1 rb2 rb3 rb4
    have ol : (shapeText x.word n).length ≤ 10 := Nat.le_trans (Fk.text_len ok).1 (by decide)
    refine ⟨4, rfl, by decide, by decide, for_range (n := 4) (fun j σ G => ∃ x2 x3 x4 x5 x6 x7 x9 x10 x11 x12 x13 x14 x15 x16, σ = [some (.ref sc), some (.ref b), x2, x3, x4, x5, x6, x7, some (.str (shapeText x.word n)), x9, x10, x11, x12, x13, x14, x15, x16] ∧ BagC K G b c ns') ⟨_, _, _, _, _, _, _, _, _, _, _, _, _, _, rfl, B22⟩ ?_ (fun σ G ⟨_, _, _, _, _, _, _, _, _, _, _, _, _, _, e, BG⟩ => ⟨_, _, _, _, _, _, _, _, _, _, _, _, _, _, _, e, BG⟩)⟩
    clear B22
    rintro j σ G hj ⟨y2, y3, y4, y5, y6, y7, y9, y10, y11, y12, y13, y14, y15, y16, rfl, B⟩
    refine ⟨_, rfl, _, rfl, b, c, ns', _, rfl, ol, B, fun v H1 ov B1 t1 => ?_⟩
    refine ⟨_, rfl, v, rfl, ov, fun a z k H2 hz s2 kz => ?_, fun H2 hz s2 => ?_⟩
    · refine ⟨_, rfl, v, rfl, ov.same s2, fun p1 z' k' H3 hz' s3 hp1 => ?_, fun H3 hz' _ => by rw [hz] at hz'; cases hz'⟩
      rw [hz] at hz'
      cases hz'
      obtain ⟨dz, hz2⟩ := kz
      have hz3 := s3 _ _ hz2
      refine ⟨_, _, rfl, ?_⟩
      refine ⟨_, rfl, rfl, _, rfl, ifF (decide_eq_false (fun e => by cases e)) ⟨_, rfl, a, A.C z, dz, _, _, rfl, hz3, (Z.T z).cl, (Z.T z).nW, rfl, _, rfl, a, A.C z, dz, _, _, rfl, hz3, (Z.T z).cl, (Z.T z).nN, rfl, es0 2 (by decide), fun t nt => ?_⟩⟩
      have s4 := same_upd (o := .tup [.str z.word, .int k]) nt
      refine ⟨_, rfl, .ref t, .ref p1, rfl, lk_flatT (SqT.of upd_same) (SqT.of (s4 _ _ hp1)) (by show 2 < 2000; decide) (fun x m => by
        simp only [List.mem_cons, List.not_mem_nil, or_false] at m
        rcases m with rfl | rfl <;> trivial), fun H5 s5 => ⟨_, rfl, iteF ?_⟩⟩
      refine ⟨_, rfl, b, c, ns', rfl, (((B1.same s2).same s3).same s4).same s5, fun H6 B6 _ => ⟨_, rfl, iteF ⟨_, _, _, _, _, _, _, _, _, _, _, _, _, _, rfl, B6⟩⟩⟩
    · refine ⟨_, rfl, v, rfl, ov.same s2, fun p1 z' k' H3 hz' _ _ => (by rw [hz] at hz'; cases hz'), fun H3 _ s3 => ?_⟩
      refine ⟨_, _, rfl, ?_⟩
      refine ⟨_, rfl, rfl, _, rfl, ifT (decide_eq_true rfl) ⟨_, rfl, .non, .non, rfl, Lk.flat rfl trivial, fun H5 s5 => ⟨_, rfl, iteF ?_⟩⟩⟩
      refine ⟨_, rfl, b, c, ns', rfl, ((B1.same s2).same s3).same s5, fun H6 B6 _ => ⟨_, rfl, iteF ⟨_, _, _, _, _, _, _, _, _, _, _, _, _, _, rfl, B6⟩⟩⟩
end
end My

set_option Elab.async false
set_option linter.all false
set_option maxRecDepth 100000
namespace My
open PySem PySem.Spec PyProof.Rows L2
/-! the classes' facts put together -/
def pick {α : Type} (a b c d e : α) : Fk → α
  | .one => a | .ticks => b | .points => c | .ranks => d | .lists => e
theorem by5 {p : Fk → Prop} (h1 : p .one) (h2 : p .ticks) (h3 : p .points) (h4 : p .ranks) (h5 : p .lists) : ∀ x, p x := fun x => by
  cases x with
  | one => exact h1
  | ticks => exact h2
  | points => exact h3
  | ranks => exact h4
  | lists => exact h5
theorem isc_of {K : PySem.W.Frag} {C : Addr} (h : PySem.W.hasDictIn K C = true) : (PySem.W.clsIn K C).isSome = true := by
  obtain ⟨cd, hc, _⟩ := PySem.W.any_some h
  rw [hc]
  rfl
theorem kit_cl {K : PySem.W.Frag} {C : Addr} {v : Value} {b : Bool} (h : PySem.W.hasDictIn K C = true) (t : PySem.W.typeIn K (.ref C) = some (.type "type")) (s : PySem.W.subIn K v (.ref C) = some b) : PySem.W.kitCls K v (.ref C) = some b := by
  unfold PySem.W.kitCls
  dsimp only
  rw [isc_of h, t]
  exact s
theorem kit_sub {K : PySem.W.Frag} {C : Addr} {v : Value} (h : PySem.W.hasDictIn K C = true) (t : PySem.W.typeIn K (.ref C) = some (.type "type")) (s : PySem.W.subIn K v (.ref C) = some true) : PySem.W.kitOne K v (.ref C) = some true := by
  unfold PySem.W.kitOne
  split
  · rfl
  · exact kit_cl h t s
theorem kit_no {K : PySem.W.Frag} {C D : Addr} (z : PySem.W.subIn K (.ref D) (.ref D) = some true) (h : PySem.W.hasDictIn K C = true) (t : PySem.W.typeIn K (.ref C) = some (.type "type")) (s : PySem.W.subIn K (.ref D) (.ref C) = some false) : PySem.W.kitOne K (.ref D) (.ref C) = some false := by
  unfold PySem.W.kitOne
  split
  · rename_i e
    rw [← beq_iff_eq.mp e, z] at s
    cases s
  · exact kit_cl h t s
theorem sub_ty {K : PySem.W.Frag} {C : Addr} {t : String} (ht : t = "str" ∨ t = "int") : PySem.W.subIn K (.type t) (.ref C) = some false := by
  rcases ht with rfl | rfl <;> rfl
theorem kit_ty {K : PySem.W.Frag} {C : Addr} {t : String} (ht : t = "str" ∨ t = "int") (h : PySem.W.hasDictIn K C = true) (y : PySem.W.typeIn K (.ref C) = some (.type "type")) : PySem.W.kitOne K (.type t) (.ref C) = some false := by
  unfold PySem.W.kitOne
  rw [if_neg (by simp)]
  exact kit_cl h y (sub_ty ht)
theorem kit_str {K : PySem.W.Frag} {C : Addr} (s : PySem.W.subIn K (.ref C) (.type "str") = some false) : PySem.W.kitOne K (.ref C) (.type "str") = some false := by
  unfold PySem.W.kitOne
  rw [if_neg (by simp)]
  unfold PySem.W.kitCls
  dsimp only
  rw [if_pos (by decide +kernel)]
  exact s
structure FmC (K : PySem.W.Frag) (mg : Str → Option Value) (C CF : Addr) (nm : Str) : Prop where
  cl : Cls K C
  nW : NoAttr K C "word"
  nN : NoAttr K C "number"
  ha : PySem.W.findIn K (.ref C) "__class__" = some (some (.builtin "object.__class__"))
  hm : PySem.W.mroIn K C (.type "object") = some true
  ty : PySem.W.typeIn K (.ref C) = some (.type "type")
  ss : PySem.W.subIn K (.ref C) (.type "str") = some false
  fF : PySem.W.subIn K (.ref C) (.ref CF) = some true
  sl : PySem.W.subIn K (.ref C) (.ref C) = some true
  g : mg nm = some (.ref C)
  mi : PySem.W.makesIn K C = true
  kp : PySem.W.keepIn K (.ref C) = true
/-- a method of a class -/
structure MtC (K : PySem.W.Frag) (C : Addr) (m : Str) (f : Addr) : Prop where
  at_ : PySem.W.findIn K (.ref C) m = some (some (.ref f))
  fn : PySem.W.isFn K (.ref f) = true
  kp : PySem.W.keepIn K (.ref f) = true
section
variable {P : Program} {w : World} {K : PySem.W.Frag} {mg : Str → Option Value} {base : Heap} {A : FA} {CF : Addr}
theorem fms_mk (hn : PySem.W.specialIn K (.builtin "object.__class__") "__get__" = some (some (.builtin "getset_descriptor.__get__"))) (htk : PySem.W.takesIn K (.builtin "object.__class__") = some true)
    (h : ∀ x, FmC K mg (A.C x) CF x.cname) (no : ∀ x y, x ≠ y → PySem.W.subIn K (.ref (A.C x)) (.ref (A.C y)) = some false)
    (mi : ∀ x, MtC K (A.C x) "__init__" (A.i x)) (mm : ∀ x, MtC K (A.C x) "markings" (A.m x)) (ms : ∀ x, MtC K (A.C x) "__str__" (A.s x)) (me : ∀ x, MtC K (A.C x) "__eq__" (A.e x))
    (iok : ∀ x, FnOk P w K mg base CX0 3 (A.i x) (A.fi x) (ips x) (spIn A x)) (ib : ∀ x, Binds K (A.fi x) (ips x) []) (kb : ∀ x, x = .points ∨ x = .lists → KBn K (A.fi x) (ips x) 1 ["number"] (fun us ws => us ++ ws) (fun vs zs => vs ++ zs))
    (mok : ∀ x, FnOk P w K mg base CX0 2 (A.m x) (A.fm x) ["self", "many"] (spMk A x)) (mb : ∀ x, Binds K (A.fm x) ["self", "many"] [])
    (sok : ∀ x, FnOk P w K mg base CX0 1 (A.s x) (A.fs x) ["self"] (spSt A x)) (sb : ∀ x, Binds K (A.fs x) ["self"] [])
    (eok : ∀ x, FnOk P w K mg base CX0 1 (A.e x) (A.fe x) ["self", "other"] (spEqF K (A.C x) x.word)) (eb : ∀ x, Binds K (A.fe x) ["self", "other"] []) : Fms P w K mg base A where
  T := fun x => ⟨(h x).cl, (h x).nW, (h x).nN, (h x).ha, hn, htk, (h x).hm⟩
  g := fun x => (h x).g
  mkc := fun x => ⟨(h x).mi, (mi x).at_, (mi x).fn, (h x).kp⟩
  iok := iok
  ib := ib
  kb := kb
  mm := fun x => ⟨(mm x).at_, (mm x).fn, (mm x).kp⟩
  mok := mok
  mb := mb
  sm := fun x => (ms x).at_
  sf := fun x => (ms x).fn
  sok := sok
  sb := sb
  em := fun x => (me x).at_
  ef := fun x => (me x).fn
  eok := eok
  eb := eb
  inj := fun x y e => by
    by_cases c : x = y
    · exact c
    · have := no x y c
      rw [e, (h y).sl] at this
      cases this
  kc := fun x y c => kit_no (h y).sl (h x).cl.hd (h x).ty (no y x (Ne.symm c))
  nf := fun x y => by
    unfold PySem.W.notFirst
    by_cases c : x = y
    · subst c
      simp
    · rw [no y x (Ne.symm c)]
      simp
  kt := fun x t ht => kit_ty ht (h x).cl.hd (h x).ty
  nt := fun x t ht => by
    unfold PySem.W.notFirst
    rw [sub_ty ht]
    simp
  ss := fun x => (h x).ss
  ks := fun x => kit_str (h x).ss
theorem kF_of {C : Fk → Addr} (h : ∀ x, FmC K mg (C x) CF x.cname) (hd : PySem.W.hasDictIn K CF = true) (ty : PySem.W.typeIn K (.ref CF) = some (.type "type")) : ∀ x, PySem.W.kitOne K (.ref (C x)) (.ref CF) = some true := fun x => kit_sub hd ty (h x).fF
theorem mk_one {f : Addr} {fd : FuncData} (h : FnOk P w K mg base CX0 2 f fd ["self", "many"] (spMarkings (A.C .one) "one" fun _ m => oneRows m)) : FnOk P w K mg base CX0 2 f fd ["self", "many"] (spMk A .one) := h.imp fun vs H Q E ⟨a, m, n, e, k, ok, h1, h5, q⟩ => ⟨a, m, n, e, k, Fk.ok4 ok, h1, h5, q⟩
theorem mk_ticks {f : Addr} {fd : FuncData} (h : FnOk P w K mg base CX0 2 f fd ["self", "many"] (spMarkings (A.C .ticks) "ticks" fun _ m => mrows 1 m)) : FnOk P w K mg base CX0 2 f fd ["self", "many"] (spMk A .ticks) := h.imp fun vs H Q E ⟨a, m, n, e, k, ok, h1, h5, q⟩ => ⟨a, m, n, e, k, Fk.ok4 ok, h1, h5, q⟩
theorem mk_ranks {f : Addr} {fd : FuncData} (h : FnOk P w K mg base CX0 2 f fd ["self", "many"] (spMarkings (A.C .ranks) "ranks" fun _ m => rankRows m)) : FnOk P w K mg base CX0 2 f fd ["self", "many"] (spMk A .ranks) := h.imp fun vs H Q E ⟨a, m, n, e, k, ok, h1, h5, q⟩ => ⟨a, m, n, e, k, Fk.ok4 ok, h1, h5, q⟩
theorem mk_points {f : Addr} {fd : FuncData} (h : FnOk P w K mg base CX0 2 f fd ["self", "many"] (fun vs H Q E => ∃ (a : Addr) (m n : Nat), vs = [.ref a, .int m] ∧ FormAt H (A.C .points) a "points" n ∧ n ≤ 3 ∧ 1 ≤ m ∧ m ≤ 5 ∧ ∀ l xs H', Same H H' → H l = none → H' l = some (.lst xs) → TRs H' xs (mrows n m) → Q (.ref l) H')) : FnOk P w K mg base CX0 2 f fd ["self", "many"] (spMk A .points) := h.imp fun vs H Q E ⟨a, m, n, e, k, ok, h1, h5, q⟩ => ⟨a, m, n, e, k, (show 1 ≤ n ∧ n ≤ 3 from ok).2, h1, h5, q⟩
theorem mk_lists {f : Addr} {fd : FuncData} (h : FnOk P w K mg base CX0 2 f fd ["self", "many"] (fun vs H Q E => ∃ (a : Addr) (m n : Nat), vs = [.ref a, .int m] ∧ FormAt H (A.C .lists) a "lists" n ∧ 1 ≤ n ∧ n ≤ 4 ∧ 1 ≤ m ∧ m ≤ 5 ∧ ∀ l xs H', Same H H' → H l = none → H' l = some (.lst xs) → TRs H' xs (listRows n m) → Q (.ref l) H')) : FnOk P w K mg base CX0 2 f fd ["self", "many"] (spMk A .lists) := h.imp fun vs H Q E ⟨a, m, n, e, k, ok, h1, h5, q⟩ => ⟨a, m, n, e, k, (show 1 ≤ n ∧ n ≤ 4 from ok).1, (show 1 ≤ n ∧ n ≤ 4 from ok).2, h1, h5, q⟩
theorem st_zero {f : Addr} {fd : FuncData} {x : Fk} (hx : x = .one ∨ x = .ticks ∨ x = .ranks) (h : FnOk P w K mg base CX0 1 f fd ["self"] (spStr0 (A.C x) x.word)) : FnOk P w K mg base CX0 1 f fd ["self"] (spSt A x) := h.imp fun vs H Q E ⟨a, n, e, k, ok, q⟩ => by
  refine ⟨a, n, e, k, ?_⟩
  have z : x.text n = x.word := by
    rcases hx with rfl | rfl | rfl
    · cases (show n = 0 from ok); rfl
    · cases (show n = 0 from ok); rfl
    · cases (show n = 0 from ok); rfl
  rw [z] at q
  exact q
theorem st_num {f : Addr} {fd : FuncData} {x : Fk} (hx : x = .points ∨ x = .lists) (h : FnOk P w K mg base CX0 1 f fd ["self"] (spStr1 (A.C x) x.word)) : FnOk P w K mg base CX0 1 f fd ["self"] (spSt A x) := h.imp fun vs H Q E ⟨a, n, e, k, ok, q⟩ => by
  have b : 1 ≤ n ∧ n ≤ 4 := by
    rcases hx with rfl | rfl
    · have : 1 ≤ n ∧ n ≤ 3 := ok
      omega
    · exact ok
  refine ⟨a, n, e, k, b.1, b.2, ?_⟩
  rw [← numbered_text x hx ok] at q
  exact q
theorem kb_points {f : Addr} {fd : FuncData} (F : Fun K "__init__" "Points.__init__" sPointsInit f fd) : KBn K fd ["self", "number"] 1 ["number"] (fun us ws => us ++ ws) (fun vs zs => vs ++ zs) := by
  obtain ⟨oc, od, kV, doc, pm, an, cdv, ct, osl, rfl, lk, hcd⟩ := F.ex
  refine ⟨fun s us ws X l1 l2 => ?_, fun r1 r2 => r1.append r2⟩
  match us, l1, ws, l2 with
  | [u0], _, [w0], _ => exact .of_eq rfl
theorem kb_lists {f : Addr} {fd : FuncData} (F : Fun K "__init__" "Lists.__init__" sListsInit f fd) : KBn K fd ["self", "number"] 1 ["number"] (fun us ws => us ++ ws) (fun vs zs => vs ++ zs) := by
  obtain ⟨oc, od, kV, doc, pm, an, cdv, ct, osl, rfl, lk, hcd⟩ := F.ex
  refine ⟨fun s us ws X l1 l2 => ?_, fun r1 r2 => r1.append r2⟩
  match us, l1, ws, l2 with
  | [u0], _, [w0], _ => exact .of_eq rfl
/-- the error's class -/
structure OneC (K : PySem.W.Frag) (C Par : Addr) (newId : String) (tail : List Value) : Prop where
  ox : ∃ (nm q : Str) (N : Addr) (bs : List Value) (sn : List Str) (sub : List Value) (ab : Bool) (col : Option Bool) (dd : Option Addr) (k0 k1 k2 k3 k5 : Option Value), K.lookup C = some (excClassObj nm q C N bs (.ref Par :: tail) true sn sub ab col dd k0 k1 k2 k3 k5 newId)
  sa : PySem.W.findIn K (.ref C) "__setattr__" = some (some (.builtin "object.__setattr__"))
  ty : PySem.W.typeIn K (.ref C) = some (.type "type")
  kp : PySem.W.keepIn K (.ref C) = true
  ga : PySem.W.findIn K (.ref C) "__getattribute__" = some (some (.builtin "BaseException.__getattribute__"))
  gg : PySem.W.findIn K (.ref C) "__getattr__" = some none
  ex : PySem.W.subIn K (.ref C) (.type "BaseException") = some true
  hd : PySem.W.hasDictIn K C = true
  ha : PySem.W.findIn K (.ref C) "__class__" = some (some (.builtin "object.__class__"))
  hm : PySem.W.mroIn K C (.type "object") = some true
theorem OneC.err {C Par : Addr} {B newId initId : String} {tail : List Value} (h : OneC K C Par newId tail) (b : Base B newId initId tail) (hn : PySem.W.specialIn K (.builtin "object.__class__") "__get__" = some (some (.builtin "getset_descriptor.__get__"))) (ht : PySem.W.takesIn K (.builtin "object.__class__") = some true) : ErrK K C := by
  obtain ⟨nm, q, N, bs, sn, sub, ab, col, dd, k0, k1, k2, k3, k5, lk⟩ := h.ox
  exact ⟨⟨B, newId, initId, tail, nm, q, N, bs, _, sn, sub, ab, col, dd, k0, k1, k2, k3, k5, b, lk, ⟨[Par], rfl⟩⟩, h.sa, h.ty, h.kp, ⟨h.ga, h.gg, h.ex, h.hd⟩, ⟨h.ga, h.gg, h.ex, h.hd, h.ha, hn, ht, h.hm⟩⟩
end
end My

set_option Elab.async false
set_option linter.all false
set_option maxRecDepth 100000
namespace My
open PySem PySem.Spec PyProof.Rows L2
set_option maxHeartbeats 4000000 in
theorem all_mk {l : PySem.W.OpenLaw} {w : World} {K : PySem.W.Frag} {h : Heap} {mg : Str → Option Value} {fa : Addr} (X : K.In h) (G : h.Ns mainGlobals mg) (hfa : mg "law" = some (.ref fa))
    {COne CTicks CPoints CRanks CLists CF CInvalidNumber aE : Addr}
    {f0 : Addr} {od0 an0 : Option Addr} {sl0 : Array (Option Value)} {oc0 kV0 dc0 pm0 cd0 ct0 : Value}
    {f1 : Addr} {od1 an1 : Option Addr} {sl1 : Array (Option Value)} {oc1 kV1 dc1 pm1 cd1 ct1 : Value}
    {f2 : Addr} {od2 an2 : Option Addr} {sl2 : Array (Option Value)} {oc2 kV2 dc2 pm2 cd2 ct2 : Value}
    {f3 : Addr} {od3 an3 : Option Addr} {sl3 : Array (Option Value)} {oc3 kV3 dc3 pm3 cd3 ct3 : Value}
    {f4 : Addr} {od4 an4 : Option Addr} {sl4 : Array (Option Value)} {oc4 kV4 dc4 pm4 cd4 ct4 : Value}
    {f5 : Addr} {od5 an5 : Option Addr} {sl5 : Array (Option Value)} {oc5 kV5 dc5 pm5 cd5 ct5 : Value}
    {f6 : Addr} {od6 an6 : Option Addr} {sl6 : Array (Option Value)} {oc6 kV6 dc6 pm6 cd6 ct6 : Value}
    {f7 : Addr} {od7 an7 : Option Addr} {sl7 : Array (Option Value)} {oc7 kV7 dc7 pm7 cd7 ct7 : Value}
    {f8 : Addr} {od8 an8 : Option Addr} {sl8 : Array (Option Value)} {oc8 kV8 dc8 pm8 cd8 ct8 : Value}
    {f9 : Addr} {od9 an9 : Option Addr} {sl9 : Array (Option Value)} {oc9 kV9 dc9 pm9 cd9 ct9 : Value}
    {f10 : Addr} {od10 an10 : Option Addr} {sl10 : Array (Option Value)} {oc10 kV10 dc10 pm10 cd10 ct10 : Value}
    {f11 : Addr} {od11 an11 : Option Addr} {sl11 : Array (Option Value)} {oc11 kV11 dc11 pm11 cd11 ct11 : Value}
    {f12 : Addr} {od12 an12 : Option Addr} {sl12 : Array (Option Value)} {oc12 kV12 dc12 pm12 cd12 ct12 : Value}
    {f13 : Addr} {od13 an13 : Option Addr} {sl13 : Array (Option Value)} {oc13 kV13 dc13 pm13 cd13 ct13 : Value}
    {f14 : Addr} {od14 an14 : Option Addr} {sl14 : Array (Option Value)} {oc14 kV14 dc14 pm14 cd14 ct14 : Value}
    {f15 : Addr} {od15 an15 : Option Addr} {sl15 : Array (Option Value)} {oc15 kV15 dc15 pm15 cd15 ct15 : Value}
    {f16 : Addr} {od16 an16 : Option Addr} {sl16 : Array (Option Value)} {oc16 kV16 dc16 pm16 cd16 ct16 : Value}
    {f17 : Addr} {od17 an17 : Option Addr} {sl17 : Array (Option Value)} {oc17 kV17 dc17 pm17 cd17 ct17 : Value}
    {f18 : Addr} {od18 an18 : Option Addr} {sl18 : Array (Option Value)} {oc18 kV18 dc18 pm18 cd18 ct18 : Value}
    {f19 : Addr} {od19 an19 : Option Addr} {sl19 : Array (Option Value)} {oc19 kV19 dc19 pm19 cd19 ct19 : Value}
    {f20 : Addr} {od20 an20 : Option Addr} {sl20 : Array (Option Value)} {oc20 kV20 dc20 pm20 cd20 ct20 : Value}
    {f21 : Addr} {od21 an21 : Option Addr} {sl21 : Array (Option Value)} {oc21 kV21 dc21 pm21 cd21 ct21 : Value}
    {f22 : Addr} {od22 an22 : Option Addr} {sl22 : Array (Option Value)} {oc22 kV22 dc22 pm22 cd22 ct22 : Value}
    {f23 : Addr} {od23 an23 : Option Addr} {sl23 : Array (Option Value)} {oc23 kV23 dc23 pm23 cd23 ct23 : Value}
    {f24 : Addr} {od24 an24 : Option Addr} {sl24 : Array (Option Value)} {oc24 kV24 dc24 pm24 cd24 ct24 : Value}
    {f25 : Addr} {od25 an25 : Option Addr} {sl25 : Array (Option Value)} {oc25 kV25 dc25 pm25 cd25 ct25 : Value}
    {f26 : Addr} {od26 an26 : Option Addr} {sl26 : Array (Option Value)} {oc26 kV26 dc26 pm26 cd26 ct26 : Value}
    {f27 : Addr} {od27 an27 : Option Addr} {sl27 : Array (Option Value)} {oc27 kV27 dc27 pm27 cd27 ct27 : Value}
    {f28 : Addr} {od28 an28 : Option Addr} {sl28 : Array (Option Value)} {oc28 kV28 dc28 pm28 cd28 ct28 : Value}
    {f29 : Addr} {od29 an29 : Option Addr} {sl29 : Array (Option Value)} {oc29 kV29 dc29 pm29 cd29 ct29 : Value}
    {f30 : Addr} {od30 an30 : Option Addr} {sl30 : Array (Option Value)} {oc30 kV30 dc30 pm30 cd30 ct30 : Value}
    {f31 : Addr} {od31 an31 : Option Addr} {sl31 : Array (Option Value)} {oc31 kV31 dc31 pm31 cd31 ct31 : Value}
    {f32 : Addr} {od32 an32 : Option Addr} {sl32 : Array (Option Value)} {oc32 kV32 dc32 pm32 cd32 ct32 : Value}
    {f33 : Addr} {od33 an33 : Option Addr} {sl33 : Array (Option Value)} {oc33 kV33 dc33 pm33 cd33 ct33 : Value}
    {f34 : Addr} {od34 an34 : Option Addr} {sl34 : Array (Option Value)} {oc34 kV34 dc34 pm34 cd34 ct34 : Value}
    {f35 : Addr} {od35 an35 : Option Addr} {sl35 : Array (Option Value)} {oc35 kV35 dc35 pm35 cd35 ct35 : Value}
    {f36 : Addr} {od36 an36 : Option Addr} {sl36 : Array (Option Value)} {oc36 kV36 dc36 pm36 cd36 ct36 : Value}
    {f37 : Addr} {od37 an37 : Option Addr} {sl37 : Array (Option Value)} {oc37 kV37 dc37 pm37 cd37 ct37 : Value}
    {f38 : Addr} {od38 an38 : Option Addr} {sl38 : Array (Option Value)} {oc38 kV38 dc38 pm38 cd38 ct38 : Value}
    {f39 : Addr} {od39 an39 : Option Addr} {sl39 : Array (Option Value)} {oc39 kV39 dc39 pm39 cd39 ct39 : Value}
    (nCF : PySem.W.nsIn K mainGlobals "Form" = some (some (.ref CF)))
    (naE : PySem.W.nsIn K mainGlobals "CountError" = some (some (.ref aE)))
    (nCInvalidNumber : PySem.W.nsIn K mainGlobals "InvalidNumber" = some (some (.ref CInvalidNumber)))
    (nCOne : PySem.W.nsIn K mainGlobals "One" = some (some (.ref COne)))
    (nCTicks : PySem.W.nsIn K mainGlobals "Ticks" = some (some (.ref CTicks)))
    (nCPoints : PySem.W.nsIn K mainGlobals "Points" = some (some (.ref CPoints)))
    (nCRanks : PySem.W.nsIn K mainGlobals "Ranks" = some (some (.ref CRanks)))
    (nCLists : PySem.W.nsIn K mainGlobals "Lists" = some (some (.ref CLists)))
    (a0 : PySem.W.nsIn K mainGlobals "kept" = some (some (.ref f0)))
    (l0 : K.lookup f0 = some ⟨oc0, od0, .func (PySem.W.fnOf "kept" "kept" (defArgs sKept) (defBody sKept) (defScope sKept) .none kV0 dc0 pm0 an0 cd0 ct0), sl0⟩) (c0 : PySem.W.codeIn K cd0 "kept" = true) (k0 : PySem.W.keepIn K (.ref f0) = true)
    (a1 : PySem.W.nsIn K mainGlobals "is_integer" = some (some (.ref f1)))
    (l1 : K.lookup f1 = some ⟨oc1, od1, .func (PySem.W.fnOf "is_integer" "is_integer" (defArgs sIsInteger) (defBody sIsInteger) (defScope sIsInteger) .none kV1 dc1 pm1 an1 cd1 ct1), sl1⟩) (c1 : PySem.W.codeIn K cd1 "is_integer" = true) (k1 : PySem.W.keepIn K (.ref f1) = true)
    (a2 : PySem.W.nsIn K mainGlobals "is_number" = some (some (.ref f2)))
    (l2 : K.lookup f2 = some ⟨oc2, od2, .func (PySem.W.fnOf "is_number" "is_number" (defArgs sIsNumber) (defBody sIsNumber) (defScope sIsNumber) .none kV2 dc2 pm2 an2 cd2 ct2), sl2⟩) (c2 : PySem.W.codeIn K cd2 "is_number" = true) (k2 : PySem.W.keepIn K (.ref f2) = true)
    (a3 : PySem.W.nsIn K mainGlobals "mark_rows" = some (some (.ref f3)))
    (l3 : K.lookup f3 = some ⟨oc3, od3, .func (PySem.W.fnOf "mark_rows" "mark_rows" (defArgs sMarkRows) (defBody sMarkRows) (defScope sMarkRows) .none kV3 dc3 pm3 an3 cd3 ct3), sl3⟩) (c3 : PySem.W.codeIn K cd3 "mark_rows" = true) (k3 : PySem.W.keepIn K (.ref f3) = true)
    (a4 : PySem.W.nsIn K mainGlobals "marked" = some (some (.ref f4)))
    (l4 : K.lookup f4 = some ⟨oc4, od4, .func (PySem.W.fnOf "marked" "marked" (defArgs sMarked) (defBody sMarked) (defScope sMarked) .none kV4 dc4 pm4 an4 cd4 ct4), sl4⟩) (c4 : PySem.W.codeIn K cd4 "marked" = true) (k4 : PySem.W.keepIn K (.ref f4) = true)
    (a5 : PySem.W.nsIn K mainGlobals "ranked" = some (some (.ref f5)))
    (l5 : K.lookup f5 = some ⟨oc5, od5, .func (PySem.W.fnOf "ranked" "ranked" (defArgs sRanked) (defBody sRanked) (defScope sRanked) .none kV5 dc5 pm5 an5 cd5 ct5), sl5⟩) (c5 : PySem.W.codeIn K cd5 "ranked" = true) (k5 : PySem.W.keepIn K (.ref f5) = true)
    (a6 : PySem.W.nsIn K mainGlobals "read_form" = some (some (.ref f6)))
    (l6 : K.lookup f6 = some ⟨oc6, od6, .func (PySem.W.fnOf "read_form" "read_form" (defArgs sReadForm) (defBody sReadForm) (defScope sReadForm) .none kV6 dc6 pm6 an6 cd6 ct6), sl6⟩) (c6 : PySem.W.codeIn K cd6 "read_form" = true) (k6 : PySem.W.keepIn K (.ref f6) = true)
    (a7 : PySem.W.findIn K (.ref CInvalidNumber) "__init__" = some (some (.ref f7))) (i7 : PySem.W.isFn K (.ref f7) = true)
    (l7 : K.lookup f7 = some ⟨oc7, od7, .func (PySem.W.fnOf "__init__" "InvalidNumber.__init__" (defArgs sInvalidNumberInit) (defBody sInvalidNumberInit) (defScope sInvalidNumberInit) .none kV7 dc7 pm7 an7 cd7 ct7), sl7⟩) (c7 : PySem.W.codeIn K cd7 "InvalidNumber.__init__" = true) (k7 : PySem.W.keepIn K (.ref f7) = true)
    (a8 : PySem.W.findIn K (.ref COne) "__init__" = some (some (.ref f8))) (i8 : PySem.W.isFn K (.ref f8) = true)
    (l8 : K.lookup f8 = some ⟨oc8, od8, .func (PySem.W.fnOf "__init__" "One.__init__" (defArgs sOneInit) (defBody sOneInit) (defScope sOneInit) .none kV8 dc8 pm8 an8 cd8 ct8), sl8⟩) (c8 : PySem.W.codeIn K cd8 "One.__init__" = true) (k8 : PySem.W.keepIn K (.ref f8) = true)
    (a9 : PySem.W.findIn K (.ref COne) "markings" = some (some (.ref f9))) (i9 : PySem.W.isFn K (.ref f9) = true)
    (l9 : K.lookup f9 = some ⟨oc9, od9, .func (PySem.W.fnOf "markings" "One.markings" (defArgs sOneMarkings) (defBody sOneMarkings) (defScope sOneMarkings) .none kV9 dc9 pm9 an9 cd9 ct9), sl9⟩) (c9 : PySem.W.codeIn K cd9 "One.markings" = true) (k9 : PySem.W.keepIn K (.ref f9) = true)
    (a10 : PySem.W.findIn K (.ref COne) "__str__" = some (some (.ref f10))) (i10 : PySem.W.isFn K (.ref f10) = true)
    (l10 : K.lookup f10 = some ⟨oc10, od10, .func (PySem.W.fnOf "__str__" "One.__str__" (defArgs sOneStr) (defBody sOneStr) (defScope sOneStr) .none kV10 dc10 pm10 an10 cd10 ct10), sl10⟩) (c10 : PySem.W.codeIn K cd10 "One.__str__" = true) (k10 : PySem.W.keepIn K (.ref f10) = true)
    (a11 : PySem.W.findIn K (.ref COne) "__eq__" = some (some (.ref f11))) (i11 : PySem.W.isFn K (.ref f11) = true)
    (l11 : K.lookup f11 = some ⟨oc11, od11, .func (PySem.W.fnOf "__eq__" "One.__eq__" (defArgs sOneEq) (defBody sOneEq) (defScope sOneEq) .none kV11 dc11 pm11 an11 cd11 ct11), sl11⟩) (c11 : PySem.W.codeIn K cd11 "One.__eq__" = true) (k11 : PySem.W.keepIn K (.ref f11) = true)
    (a12 : PySem.W.findIn K (.ref CTicks) "__init__" = some (some (.ref f12))) (i12 : PySem.W.isFn K (.ref f12) = true)
    (l12 : K.lookup f12 = some ⟨oc12, od12, .func (PySem.W.fnOf "__init__" "Ticks.__init__" (defArgs sTicksInit) (defBody sTicksInit) (defScope sTicksInit) .none kV12 dc12 pm12 an12 cd12 ct12), sl12⟩) (c12 : PySem.W.codeIn K cd12 "Ticks.__init__" = true) (k12 : PySem.W.keepIn K (.ref f12) = true)
    (a13 : PySem.W.findIn K (.ref CTicks) "markings" = some (some (.ref f13))) (i13 : PySem.W.isFn K (.ref f13) = true)
    (l13 : K.lookup f13 = some ⟨oc13, od13, .func (PySem.W.fnOf "markings" "Ticks.markings" (defArgs sTicksMarkings) (defBody sTicksMarkings) (defScope sTicksMarkings) .none kV13 dc13 pm13 an13 cd13 ct13), sl13⟩) (c13 : PySem.W.codeIn K cd13 "Ticks.markings" = true) (k13 : PySem.W.keepIn K (.ref f13) = true)
    (a14 : PySem.W.findIn K (.ref CTicks) "__str__" = some (some (.ref f14))) (i14 : PySem.W.isFn K (.ref f14) = true)
    (l14 : K.lookup f14 = some ⟨oc14, od14, .func (PySem.W.fnOf "__str__" "Ticks.__str__" (defArgs sTicksStr) (defBody sTicksStr) (defScope sTicksStr) .none kV14 dc14 pm14 an14 cd14 ct14), sl14⟩) (c14 : PySem.W.codeIn K cd14 "Ticks.__str__" = true) (k14 : PySem.W.keepIn K (.ref f14) = true)
    (a15 : PySem.W.findIn K (.ref CTicks) "__eq__" = some (some (.ref f15))) (i15 : PySem.W.isFn K (.ref f15) = true)
    (l15 : K.lookup f15 = some ⟨oc15, od15, .func (PySem.W.fnOf "__eq__" "Ticks.__eq__" (defArgs sTicksEq) (defBody sTicksEq) (defScope sTicksEq) .none kV15 dc15 pm15 an15 cd15 ct15), sl15⟩) (c15 : PySem.W.codeIn K cd15 "Ticks.__eq__" = true) (k15 : PySem.W.keepIn K (.ref f15) = true)
    (a16 : PySem.W.findIn K (.ref CPoints) "__init__" = some (some (.ref f16))) (i16 : PySem.W.isFn K (.ref f16) = true)
    (l16 : K.lookup f16 = some ⟨oc16, od16, .func (PySem.W.fnOf "__init__" "Points.__init__" (defArgs sPointsInit) (defBody sPointsInit) (defScope sPointsInit) .none kV16 dc16 pm16 an16 cd16 ct16), sl16⟩) (c16 : PySem.W.codeIn K cd16 "Points.__init__" = true) (k16 : PySem.W.keepIn K (.ref f16) = true)
    (a17 : PySem.W.findIn K (.ref CPoints) "markings" = some (some (.ref f17))) (i17 : PySem.W.isFn K (.ref f17) = true)
    (l17 : K.lookup f17 = some ⟨oc17, od17, .func (PySem.W.fnOf "markings" "Points.markings" (defArgs sPointsMarkings) (defBody sPointsMarkings) (defScope sPointsMarkings) .none kV17 dc17 pm17 an17 cd17 ct17), sl17⟩) (c17 : PySem.W.codeIn K cd17 "Points.markings" = true) (k17 : PySem.W.keepIn K (.ref f17) = true)
    (a18 : PySem.W.findIn K (.ref CPoints) "__str__" = some (some (.ref f18))) (i18 : PySem.W.isFn K (.ref f18) = true)
    (l18 : K.lookup f18 = some ⟨oc18, od18, .func (PySem.W.fnOf "__str__" "Points.__str__" (defArgs sPointsStr) (defBody sPointsStr) (defScope sPointsStr) .none kV18 dc18 pm18 an18 cd18 ct18), sl18⟩) (c18 : PySem.W.codeIn K cd18 "Points.__str__" = true) (k18 : PySem.W.keepIn K (.ref f18) = true)
    (a19 : PySem.W.findIn K (.ref CPoints) "__eq__" = some (some (.ref f19))) (i19 : PySem.W.isFn K (.ref f19) = true)
    (l19 : K.lookup f19 = some ⟨oc19, od19, .func (PySem.W.fnOf "__eq__" "Points.__eq__" (defArgs sPointsEq) (defBody sPointsEq) (defScope sPointsEq) .none kV19 dc19 pm19 an19 cd19 ct19), sl19⟩) (c19 : PySem.W.codeIn K cd19 "Points.__eq__" = true) (k19 : PySem.W.keepIn K (.ref f19) = true)
    (a20 : PySem.W.findIn K (.ref CRanks) "__init__" = some (some (.ref f20))) (i20 : PySem.W.isFn K (.ref f20) = true)
    (l20 : K.lookup f20 = some ⟨oc20, od20, .func (PySem.W.fnOf "__init__" "Ranks.__init__" (defArgs sRanksInit) (defBody sRanksInit) (defScope sRanksInit) .none kV20 dc20 pm20 an20 cd20 ct20), sl20⟩) (c20 : PySem.W.codeIn K cd20 "Ranks.__init__" = true) (k20 : PySem.W.keepIn K (.ref f20) = true)
    (a21 : PySem.W.findIn K (.ref CRanks) "markings" = some (some (.ref f21))) (i21 : PySem.W.isFn K (.ref f21) = true)
    (l21 : K.lookup f21 = some ⟨oc21, od21, .func (PySem.W.fnOf "markings" "Ranks.markings" (defArgs sRanksMarkings) (defBody sRanksMarkings) (defScope sRanksMarkings) .none kV21 dc21 pm21 an21 cd21 ct21), sl21⟩) (c21 : PySem.W.codeIn K cd21 "Ranks.markings" = true) (k21 : PySem.W.keepIn K (.ref f21) = true)
    (a22 : PySem.W.findIn K (.ref CRanks) "__str__" = some (some (.ref f22))) (i22 : PySem.W.isFn K (.ref f22) = true)
    (l22 : K.lookup f22 = some ⟨oc22, od22, .func (PySem.W.fnOf "__str__" "Ranks.__str__" (defArgs sRanksStr) (defBody sRanksStr) (defScope sRanksStr) .none kV22 dc22 pm22 an22 cd22 ct22), sl22⟩) (c22 : PySem.W.codeIn K cd22 "Ranks.__str__" = true) (k22 : PySem.W.keepIn K (.ref f22) = true)
    (a23 : PySem.W.findIn K (.ref CRanks) "__eq__" = some (some (.ref f23))) (i23 : PySem.W.isFn K (.ref f23) = true)
    (l23 : K.lookup f23 = some ⟨oc23, od23, .func (PySem.W.fnOf "__eq__" "Ranks.__eq__" (defArgs sRanksEq) (defBody sRanksEq) (defScope sRanksEq) .none kV23 dc23 pm23 an23 cd23 ct23), sl23⟩) (c23 : PySem.W.codeIn K cd23 "Ranks.__eq__" = true) (k23 : PySem.W.keepIn K (.ref f23) = true)
    (a24 : PySem.W.findIn K (.ref CLists) "__init__" = some (some (.ref f24))) (i24 : PySem.W.isFn K (.ref f24) = true)
    (l24 : K.lookup f24 = some ⟨oc24, od24, .func (PySem.W.fnOf "__init__" "Lists.__init__" (defArgs sListsInit) (defBody sListsInit) (defScope sListsInit) .none kV24 dc24 pm24 an24 cd24 ct24), sl24⟩) (c24 : PySem.W.codeIn K cd24 "Lists.__init__" = true) (k24 : PySem.W.keepIn K (.ref f24) = true)
    (a25 : PySem.W.findIn K (.ref CLists) "markings" = some (some (.ref f25))) (i25 : PySem.W.isFn K (.ref f25) = true)
    (l25 : K.lookup f25 = some ⟨oc25, od25, .func (PySem.W.fnOf "markings" "Lists.markings" (defArgs sListsMarkings) (defBody sListsMarkings) (defScope sListsMarkings) .none kV25 dc25 pm25 an25 cd25 ct25), sl25⟩) (c25 : PySem.W.codeIn K cd25 "Lists.markings" = true) (k25 : PySem.W.keepIn K (.ref f25) = true)
    (a26 : PySem.W.findIn K (.ref CLists) "__str__" = some (some (.ref f26))) (i26 : PySem.W.isFn K (.ref f26) = true)
    (l26 : K.lookup f26 = some ⟨oc26, od26, .func (PySem.W.fnOf "__str__" "Lists.__str__" (defArgs sListsStr) (defBody sListsStr) (defScope sListsStr) .none kV26 dc26 pm26 an26 cd26 ct26), sl26⟩) (c26 : PySem.W.codeIn K cd26 "Lists.__str__" = true) (k26 : PySem.W.keepIn K (.ref f26) = true)
    (a27 : PySem.W.findIn K (.ref CLists) "__eq__" = some (some (.ref f27))) (i27 : PySem.W.isFn K (.ref f27) = true)
    (l27 : K.lookup f27 = some ⟨oc27, od27, .func (PySem.W.fnOf "__eq__" "Lists.__eq__" (defArgs sListsEq) (defBody sListsEq) (defScope sListsEq) .none kV27 dc27 pm27 an27 cd27 ct27), sl27⟩) (c27 : PySem.W.codeIn K cd27 "Lists.__eq__" = true) (k27 : PySem.W.keepIn K (.ref f27) = true)
    (a28 : PySem.W.nsIn K mainGlobals "_law_bag" = some (some (.ref f28)))
    (l28 : K.lookup f28 = some ⟨oc28, od28, .func (PySem.W.fnOf "_law_bag" "_law_bag" (defArgs sLawBag) (defBody sLawBag) (defScope sLawBag) .none kV28 dc28 pm28 an28 cd28 ct28), sl28⟩) (c28 : PySem.W.codeIn K cd28 "_law_bag" = true) (k28 : PySem.W.keepIn K (.ref f28) = true)
    (a29 : PySem.W.nsIn K mainGlobals "_law_draw" = some (some (.ref f29)))
    (l29 : K.lookup f29 = some ⟨oc29, od29, .func (PySem.W.fnOf "_law_draw" "_law_draw" (defArgs sLawDraw) (defBody sLawDraw) (defScope sLawDraw) .none kV29 dc29 pm29 an29 cd29 ct29), sl29⟩) (c29 : PySem.W.codeIn K cd29 "_law_draw" = true) (k29 : PySem.W.keepIn K (.ref f29) = true)
    (a30 : PySem.W.nsIn K mainGlobals "_law_of" = some (some (.ref f30)))
    (l30 : K.lookup f30 = some ⟨oc30, od30, .func (PySem.W.fnOf "_law_of" "_law_of" (defArgs sLawOf) (defBody sLawOf) (defScope sLawOf) .none kV30 dc30 pm30 an30 cd30 ct30), sl30⟩) (c30 : PySem.W.codeIn K cd30 "_law_of" = true) (k30 : PySem.W.keepIn K (.ref f30) = true)
    (a31 : PySem.W.nsIn K mainGlobals "_law_like" = some (some (.ref f31)))
    (l31 : K.lookup f31 = some ⟨oc31, od31, .func (PySem.W.fnOf "_law_like" "_law_like" (defArgs sLawLike) (defBody sLawLike) (defScope sLawLike) .none kV31 dc31 pm31 an31 cd31 ct31), sl31⟩) (c31 : PySem.W.codeIn K cd31 "_law_like" = true) (k31 : PySem.W.keepIn K (.ref f31) = true)
    (a32 : PySem.W.nsIn K mainGlobals "_law_form" = some (some (.ref f32)))
    (l32 : K.lookup f32 = some ⟨oc32, od32, .func (PySem.W.fnOf "_law_form" "_law_form" (defArgs sLawForm) (defBody sLawForm) (defScope sLawForm) .none kV32 dc32 pm32 an32 cd32 ct32), sl32⟩) (c32 : PySem.W.codeIn K cd32 "_law_form" = true) (k32 : PySem.W.keepIn K (.ref f32) = true)
    (a33 : PySem.W.nsIn K mainGlobals "_law_form_text" = some (some (.ref f33)))
    (l33 : K.lookup f33 = some ⟨oc33, od33, .func (PySem.W.fnOf "_law_form_text" "_law_form_text" (defArgs sLawFormText) (defBody sLawFormText) (defScope sLawFormText) .none kV33 dc33 pm33 an33 cd33 ct33), sl33⟩) (c33 : PySem.W.codeIn K cd33 "_law_form_text" = true) (k33 : PySem.W.keepIn K (.ref f33) = true)
    (a34 : PySem.W.nsIn K mainGlobals "_law_listing" = some (some (.ref f34)))
    (l34 : K.lookup f34 = some ⟨oc34, od34, .func (PySem.W.fnOf "_law_listing" "_law_listing" (defArgs sLawListing) (defBody sLawListing) (defScope sLawListing) .none kV34 dc34 pm34 an34 cd34 ct34), sl34⟩) (c34 : PySem.W.codeIn K cd34 "_law_listing" = true) (k34 : PySem.W.keepIn K (.ref f34) = true)
    (a35 : PySem.W.nsIn K mainGlobals "_law_made" = some (some (.ref f35)))
    (l35 : K.lookup f35 = some ⟨oc35, od35, .func (PySem.W.fnOf "_law_made" "_law_made" (defArgs sLawMade) (defBody sLawMade) (defScope sLawMade) .none kV35 dc35 pm35 an35 cd35 ct35), sl35⟩) (c35 : PySem.W.codeIn K cd35 "_law_made" = true) (k35 : PySem.W.keepIn K (.ref f35) = true)
    (a36 : PySem.W.nsIn K mainGlobals "_law_refused" = some (some (.ref f36)))
    (l36 : K.lookup f36 = some ⟨oc36, od36, .func (PySem.W.fnOf "_law_refused" "_law_refused" (defArgs sLawRefused) (defBody sLawRefused) (defScope sLawRefused) .none kV36 dc36 pm36 an36 cd36 ct36), sl36⟩) (c36 : PySem.W.codeIn K cd36 "_law_refused" = true) (k36 : PySem.W.keepIn K (.ref f36) = true)
    (a37 : PySem.W.nsIn K mainGlobals "_law_read" = some (some (.ref f37)))
    (l37 : K.lookup f37 = some ⟨oc37, od37, .func (PySem.W.fnOf "_law_read" "_law_read" (defArgs sLawRead) (defBody sLawRead) (defScope sLawRead) .none kV37 dc37 pm37 an37 cd37 ct37), sl37⟩) (c37 : PySem.W.codeIn K cd37 "_law_read" = true) (k37 : PySem.W.keepIn K (.ref f37) = true)
    (a38 : PySem.W.nsIn K mainGlobals "_law_odd" = some (some (.ref f38)))
    (l38 : K.lookup f38 = some ⟨oc38, od38, .func (PySem.W.fnOf "_law_odd" "_law_odd" (defArgs sLawOdd) (defBody sLawOdd) (defScope sLawOdd) .none kV38 dc38 pm38 an38 cd38 ct38), sl38⟩) (c38 : PySem.W.codeIn K cd38 "_law_odd" = true) (k38 : PySem.W.keepIn K (.ref f38) = true)
    (a39 : PySem.W.nsIn K mainGlobals "law" = some (some (.ref f39)))
    (l39 : K.lookup f39 = some ⟨oc39, od39, .func (PySem.W.fnOf "law" "law" (defArgs sLaw) (defBody sLaw) (defScope sLaw) .none kV39 dc39 pm39 an39 cd39 ct39), sl39⟩) (c39 : PySem.W.codeIn K cd39 "law" = true) (k39 : PySem.W.keepIn K (.ref f39) = true)
    (oxInvalidNumber : ∃ (nm q : Str) (N : Addr) (bs : List Value) (sn : List Str) (sub : List Value) (ab : Bool) (col : Option Bool) (dd : Option Addr) (k0 k1 k2 k3 k5 : Option Value), K.lookup CInvalidNumber = some (excClassObj nm q CInvalidNumber N bs (.ref aE :: [.type "ValueError", .type "Exception", .type "BaseException", .type "object"]) true sn sub ab col dd k0 k1 k2 k3 k5 "ValueError.__new__"))
    (saInvalidNumber : PySem.W.findIn K (.ref CInvalidNumber) "__setattr__" = some (some (.builtin "object.__setattr__"))) (tyInvalidNumber : PySem.W.typeIn K (.ref CInvalidNumber) = some (.type "type")) (kcInvalidNumber : PySem.W.keepIn K (.ref CInvalidNumber) = true) (gaInvalidNumber : PySem.W.findIn K (.ref CInvalidNumber) "__getattribute__" = some (some (.builtin "BaseException.__getattribute__"))) (ggInvalidNumber : PySem.W.findIn K (.ref CInvalidNumber) "__getattr__" = some none) (exInvalidNumber : PySem.W.subIn K (.ref CInvalidNumber) (.type "BaseException") = some true) (hdInvalidNumber : PySem.W.hasDictIn K CInvalidNumber = true) (haInvalidNumber : PySem.W.findIn K (.ref CInvalidNumber) "__class__" = some (some (.builtin "object.__class__"))) (hmInvalidNumber : PySem.W.mroIn K CInvalidNumber (.type "object") = some true) (ncInvalidNumber : PySem.W.findIn K (.ref CInvalidNumber) "code" = some none) (nvInvalidNumber : PySem.W.findIn K (.ref CInvalidNumber) "value" = some none) (suInvalidNumber : PySem.W.subIn K (.ref CInvalidNumber) (.ref CInvalidNumber) = some true)
    (tfInvalidNumber : PySem.W.typeIn K (.ref f7) = some (.type "function"))
    (hn : PySem.W.specialIn K (.builtin "object.__class__") "__get__" = some (some (.builtin "getset_descriptor.__get__"))) (htk : PySem.W.takesIn K (.builtin "object.__class__") = some true)
    (hdF : PySem.W.hasDictIn K CF = true) (tyF : PySem.W.typeIn K (.ref CF) = some (.type "type"))
    (pgOne : PySem.W.plainGet K COne Str.empty = true) (hdOne : PySem.W.hasDictIn K COne = true) (poOne : PySem.W.plainOver K COne = true) (saOne : PySem.W.findIn K (.ref COne) "__setattr__" = some (some (.builtin "object.__setattr__"))) (nWOne : PySem.W.findIn K (.ref COne) "word" = some none) (nNOne : PySem.W.findIn K (.ref COne) "number" = some none) (haOne : PySem.W.findIn K (.ref COne) "__class__" = some (some (.builtin "object.__class__"))) (hmOne : PySem.W.mroIn K COne (.type "object") = some true) (tyOne : PySem.W.typeIn K (.ref COne) = some (.type "type")) (ssOne : PySem.W.subIn K (.ref COne) (.type "str") = some false) (fFOne : PySem.W.subIn K (.ref COne) (.ref CF) = some true) (slOne : PySem.W.subIn K (.ref COne) (.ref COne) = some true) (miOne : PySem.W.makesIn K COne = true) (kpOne : PySem.W.keepIn K (.ref COne) = true)
    (pgTicks : PySem.W.plainGet K CTicks Str.empty = true) (hdTicks : PySem.W.hasDictIn K CTicks = true) (poTicks : PySem.W.plainOver K CTicks = true) (saTicks : PySem.W.findIn K (.ref CTicks) "__setattr__" = some (some (.builtin "object.__setattr__"))) (nWTicks : PySem.W.findIn K (.ref CTicks) "word" = some none) (nNTicks : PySem.W.findIn K (.ref CTicks) "number" = some none) (haTicks : PySem.W.findIn K (.ref CTicks) "__class__" = some (some (.builtin "object.__class__"))) (hmTicks : PySem.W.mroIn K CTicks (.type "object") = some true) (tyTicks : PySem.W.typeIn K (.ref CTicks) = some (.type "type")) (ssTicks : PySem.W.subIn K (.ref CTicks) (.type "str") = some false) (fFTicks : PySem.W.subIn K (.ref CTicks) (.ref CF) = some true) (slTicks : PySem.W.subIn K (.ref CTicks) (.ref CTicks) = some true) (miTicks : PySem.W.makesIn K CTicks = true) (kpTicks : PySem.W.keepIn K (.ref CTicks) = true)
    (pgPoints : PySem.W.plainGet K CPoints Str.empty = true) (hdPoints : PySem.W.hasDictIn K CPoints = true) (poPoints : PySem.W.plainOver K CPoints = true) (saPoints : PySem.W.findIn K (.ref CPoints) "__setattr__" = some (some (.builtin "object.__setattr__"))) (nWPoints : PySem.W.findIn K (.ref CPoints) "word" = some none) (nNPoints : PySem.W.findIn K (.ref CPoints) "number" = some none) (haPoints : PySem.W.findIn K (.ref CPoints) "__class__" = some (some (.builtin "object.__class__"))) (hmPoints : PySem.W.mroIn K CPoints (.type "object") = some true) (tyPoints : PySem.W.typeIn K (.ref CPoints) = some (.type "type")) (ssPoints : PySem.W.subIn K (.ref CPoints) (.type "str") = some false) (fFPoints : PySem.W.subIn K (.ref CPoints) (.ref CF) = some true) (slPoints : PySem.W.subIn K (.ref CPoints) (.ref CPoints) = some true) (miPoints : PySem.W.makesIn K CPoints = true) (kpPoints : PySem.W.keepIn K (.ref CPoints) = true)
    (pgRanks : PySem.W.plainGet K CRanks Str.empty = true) (hdRanks : PySem.W.hasDictIn K CRanks = true) (poRanks : PySem.W.plainOver K CRanks = true) (saRanks : PySem.W.findIn K (.ref CRanks) "__setattr__" = some (some (.builtin "object.__setattr__"))) (nWRanks : PySem.W.findIn K (.ref CRanks) "word" = some none) (nNRanks : PySem.W.findIn K (.ref CRanks) "number" = some none) (haRanks : PySem.W.findIn K (.ref CRanks) "__class__" = some (some (.builtin "object.__class__"))) (hmRanks : PySem.W.mroIn K CRanks (.type "object") = some true) (tyRanks : PySem.W.typeIn K (.ref CRanks) = some (.type "type")) (ssRanks : PySem.W.subIn K (.ref CRanks) (.type "str") = some false) (fFRanks : PySem.W.subIn K (.ref CRanks) (.ref CF) = some true) (slRanks : PySem.W.subIn K (.ref CRanks) (.ref CRanks) = some true) (miRanks : PySem.W.makesIn K CRanks = true) (kpRanks : PySem.W.keepIn K (.ref CRanks) = true)
    (pgLists : PySem.W.plainGet K CLists Str.empty = true) (hdLists : PySem.W.hasDictIn K CLists = true) (poLists : PySem.W.plainOver K CLists = true) (saLists : PySem.W.findIn K (.ref CLists) "__setattr__" = some (some (.builtin "object.__setattr__"))) (nWLists : PySem.W.findIn K (.ref CLists) "word" = some none) (nNLists : PySem.W.findIn K (.ref CLists) "number" = some none) (haLists : PySem.W.findIn K (.ref CLists) "__class__" = some (some (.builtin "object.__class__"))) (hmLists : PySem.W.mroIn K CLists (.type "object") = some true) (tyLists : PySem.W.typeIn K (.ref CLists) = some (.type "type")) (ssLists : PySem.W.subIn K (.ref CLists) (.type "str") = some false) (fFLists : PySem.W.subIn K (.ref CLists) (.ref CF) = some true) (slLists : PySem.W.subIn K (.ref CLists) (.ref CLists) = some true) (miLists : PySem.W.makesIn K CLists = true) (kpLists : PySem.W.keepIn K (.ref CLists) = true)
    (noOneTicks : PySem.W.subIn K (.ref COne) (.ref CTicks) = some false)
    (noOnePoints : PySem.W.subIn K (.ref COne) (.ref CPoints) = some false)
    (noOneRanks : PySem.W.subIn K (.ref COne) (.ref CRanks) = some false)
    (noOneLists : PySem.W.subIn K (.ref COne) (.ref CLists) = some false)
    (noTicksOne : PySem.W.subIn K (.ref CTicks) (.ref COne) = some false)
    (noTicksPoints : PySem.W.subIn K (.ref CTicks) (.ref CPoints) = some false)
    (noTicksRanks : PySem.W.subIn K (.ref CTicks) (.ref CRanks) = some false)
    (noTicksLists : PySem.W.subIn K (.ref CTicks) (.ref CLists) = some false)
    (noPointsOne : PySem.W.subIn K (.ref CPoints) (.ref COne) = some false)
    (noPointsTicks : PySem.W.subIn K (.ref CPoints) (.ref CTicks) = some false)
    (noPointsRanks : PySem.W.subIn K (.ref CPoints) (.ref CRanks) = some false)
    (noPointsLists : PySem.W.subIn K (.ref CPoints) (.ref CLists) = some false)
    (noRanksOne : PySem.W.subIn K (.ref CRanks) (.ref COne) = some false)
    (noRanksTicks : PySem.W.subIn K (.ref CRanks) (.ref CTicks) = some false)
    (noRanksPoints : PySem.W.subIn K (.ref CRanks) (.ref CPoints) = some false)
    (noRanksLists : PySem.W.subIn K (.ref CRanks) (.ref CLists) = some false)
    (noListsOne : PySem.W.subIn K (.ref CLists) (.ref COne) = some false)
    (noListsTicks : PySem.W.subIn K (.ref CLists) (.ref CTicks) = some false)
    (noListsPoints : PySem.W.subIn K (.ref CLists) (.ref CPoints) = some false)
    (noListsRanks : PySem.W.subIn K (.ref CLists) (.ref CRanks) = some false)
    (b_int : PySem.W.nsIn K mainGlobals "int" = some none)
    (b_list : PySem.W.nsIn K mainGlobals "list" = some none)
    (b_len : PySem.W.nsIn K mainGlobals "len" = some none)
    (b_isinstance : PySem.W.nsIn K mainGlobals "isinstance" = some none)
    (b_tuple : PySem.W.nsIn K mainGlobals "tuple" = some none)
    (b_bool : PySem.W.nsIn K mainGlobals "bool" = some none)
    (b_str : PySem.W.nsIn K mainGlobals "str" = some none)
    (b_all : PySem.W.nsIn K mainGlobals "all" = some none)
    (b_zip : PySem.W.nsIn K mainGlobals "zip" = some none)
    (b_range : PySem.W.nsIn K mainGlobals "range" = some none)
    (b_sum : PySem.W.nsIn K mainGlobals "sum" = some none)
    (b_min : PySem.W.nsIn K mainGlobals "min" = some none)
    (b_max : PySem.W.nsIn K mainGlobals "max" = some none)
    (b_sorted : PySem.W.nsIn K mainGlobals "sorted" = some none) :
    ∃ fd : FuncData, (∀ (s : Shared) (v : Value), BindsTo s fd ⟨[v], []⟩ [("script", v)]) ∧ ∀ base : Heap, K.In base → base.Ns mainGlobals mg → FnOk l.prog w K mg base CX0 12 fa fd ["script"] (spLaw K) := by
  have e := hfa.symm.trans (PySem.W.mg_of X G a39)
  cases e
  have F0 := fun_mk (st := sKept) l0 c0 k0
  have B0 := F0.binds (ps := ["value"]) fun _ _ _ _ _ _ us hl => match us, hl with | [_], _ => rfl
  have F1 := fun_mk (st := sIsInteger) l1 c1 k1
  have B1 := F1.binds (ps := ["value"]) fun _ _ _ _ _ _ us hl => match us, hl with | [_], _ => rfl
  have F2 := fun_mk (st := sIsNumber) l2 c2 k2
  have B2 := F2.binds (ps := ["value", "least", "most"]) fun _ _ _ _ _ _ us hl => match us, hl with | [_, _, _], _ => rfl
  have F3 := fun_mk (st := sMarkRows) l3 c3 k3
  have B3 := F3.binds (ps := ["many", "most"]) fun _ _ _ _ _ _ us hl => match us, hl with | [_, _], _ => rfl
  have F4 := fun_mk (st := sMarked) l4 c4 k4
  have B4 := F4.binds (ps := ["many", "numbers"]) fun _ _ _ _ _ _ us hl => match us, hl with | [_, _], _ => rfl
  have F5 := fun_mk (st := sRanked) l5 c5 k5
  have B5 := F5.binds (ps := ["many", "order"]) fun _ _ _ _ _ _ us hl => match us, hl with | [_, _], _ => rfl
  have F6 := fun_mk (st := sReadForm) l6 c6 k6
  have B6 := F6.binds (ps := ["text"]) fun _ _ _ _ _ _ us hl => match us, hl with | [_], _ => rfl
  have F7 := fun_mk (st := sInvalidNumberInit) l7 c7 k7
  have B7 := F7.binds (ps := ["self", "value"]) fun _ _ _ _ _ _ us hl => match us, hl with | [_, _], _ => rfl
  have F8 := fun_mk (st := sOneInit) l8 c8 k8
  have B8 := F8.binds (ps := ["self"]) fun _ _ _ _ _ _ us hl => match us, hl with | [_], _ => rfl
  have F9 := fun_mk (st := sOneMarkings) l9 c9 k9
  have B9 := F9.binds (ps := ["self", "many"]) fun _ _ _ _ _ _ us hl => match us, hl with | [_, _], _ => rfl
  have F10 := fun_mk (st := sOneStr) l10 c10 k10
  have B10 := F10.binds (ps := ["self"]) fun _ _ _ _ _ _ us hl => match us, hl with | [_], _ => rfl
  have F11 := fun_mk (st := sOneEq) l11 c11 k11
  have B11 := F11.binds (ps := ["self", "other"]) fun _ _ _ _ _ _ us hl => match us, hl with | [_, _], _ => rfl
  have F12 := fun_mk (st := sTicksInit) l12 c12 k12
  have B12 := F12.binds (ps := ["self"]) fun _ _ _ _ _ _ us hl => match us, hl with | [_], _ => rfl
  have F13 := fun_mk (st := sTicksMarkings) l13 c13 k13
  have B13 := F13.binds (ps := ["self", "many"]) fun _ _ _ _ _ _ us hl => match us, hl with | [_, _], _ => rfl
  have F14 := fun_mk (st := sTicksStr) l14 c14 k14
  have B14 := F14.binds (ps := ["self"]) fun _ _ _ _ _ _ us hl => match us, hl with | [_], _ => rfl
  have F15 := fun_mk (st := sTicksEq) l15 c15 k15
  have B15 := F15.binds (ps := ["self", "other"]) fun _ _ _ _ _ _ us hl => match us, hl with | [_, _], _ => rfl
  have F16 := fun_mk (st := sPointsInit) l16 c16 k16
  have B16 := F16.binds (ps := ["self", "number"]) fun _ _ _ _ _ _ us hl => match us, hl with | [_, _], _ => rfl
  have F17 := fun_mk (st := sPointsMarkings) l17 c17 k17
  have B17 := F17.binds (ps := ["self", "many"]) fun _ _ _ _ _ _ us hl => match us, hl with | [_, _], _ => rfl
  have F18 := fun_mk (st := sPointsStr) l18 c18 k18
  have B18 := F18.binds (ps := ["self"]) fun _ _ _ _ _ _ us hl => match us, hl with | [_], _ => rfl
  have F19 := fun_mk (st := sPointsEq) l19 c19 k19
  have B19 := F19.binds (ps := ["self", "other"]) fun _ _ _ _ _ _ us hl => match us, hl with | [_, _], _ => rfl
  have F20 := fun_mk (st := sRanksInit) l20 c20 k20
  have B20 := F20.binds (ps := ["self"]) fun _ _ _ _ _ _ us hl => match us, hl with | [_], _ => rfl
  have F21 := fun_mk (st := sRanksMarkings) l21 c21 k21
  have B21 := F21.binds (ps := ["self", "many"]) fun _ _ _ _ _ _ us hl => match us, hl with | [_, _], _ => rfl
  have F22 := fun_mk (st := sRanksStr) l22 c22 k22
  have B22 := F22.binds (ps := ["self"]) fun _ _ _ _ _ _ us hl => match us, hl with | [_], _ => rfl
  have F23 := fun_mk (st := sRanksEq) l23 c23 k23
  have B23 := F23.binds (ps := ["self", "other"]) fun _ _ _ _ _ _ us hl => match us, hl with | [_, _], _ => rfl
  have F24 := fun_mk (st := sListsInit) l24 c24 k24
  have B24 := F24.binds (ps := ["self", "number"]) fun _ _ _ _ _ _ us hl => match us, hl with | [_, _], _ => rfl
  have F25 := fun_mk (st := sListsMarkings) l25 c25 k25
  have B25 := F25.binds (ps := ["self", "many"]) fun _ _ _ _ _ _ us hl => match us, hl with | [_, _], _ => rfl
  have F26 := fun_mk (st := sListsStr) l26 c26 k26
  have B26 := F26.binds (ps := ["self"]) fun _ _ _ _ _ _ us hl => match us, hl with | [_], _ => rfl
  have F27 := fun_mk (st := sListsEq) l27 c27 k27
  have B27 := F27.binds (ps := ["self", "other"]) fun _ _ _ _ _ _ us hl => match us, hl with | [_, _], _ => rfl
  have F28 := fun_mk (st := sLawBag) l28 c28 k28
  have B28 := F28.binds (ps := ["script"]) fun _ _ _ _ _ _ us hl => match us, hl with | [_], _ => rfl
  have F29 := fun_mk (st := sLawDraw) l29 c29 k29
  have B29 := F29.binds (ps := ["bag", "size"]) fun _ _ _ _ _ _ us hl => match us, hl with | [_, _], _ => rfl
  have F30 := fun_mk (st := sLawOf) l30 c30 k30
  have B30 := F30.binds (ps := ["bag", "things"]) fun _ _ _ _ _ _ us hl => match us, hl with | [_, _], _ => rfl
  have F31 := fun_mk (st := sLawLike) l31 c31 k31
  have B31 := F31.binds (ps := ["told", "due"]) fun _ _ _ _ _ _ us hl => match us, hl with | [_, _], _ => rfl
  have F32 := fun_mk (st := sLawForm) l32 c32 k32
  have B32 := F32.binds (ps := ["bag"]) fun _ _ _ _ _ _ us hl => match us, hl with | [_], _ => rfl
  have F33 := fun_mk (st := sLawFormText) l33 c33 k33
  have B33 := F33.binds (ps := ["shape"]) fun _ _ _ _ _ _ us hl => match us, hl with | [_], _ => rfl
  have F34 := fun_mk (st := sLawListing) l34 c34 k34
  have B34 := F34.binds (ps := ["shape", "many"]) fun _ _ _ _ _ _ us hl => match us, hl with | [_, _], _ => rfl
  have F35 := fun_mk (st := sLawMade) l35 c35 k35
  have B35 := F35.binds (ps := ["shape"]) fun _ _ _ _ _ _ us hl => match us, hl with | [_], _ => rfl
  have F36 := fun_mk (st := sLawRefused) l36 c36 k36
  have B36 := F36.binds (ps := ["bag"]) fun _ _ _ _ _ _ us hl => match us, hl with | [_], _ => rfl
  have F37 := fun_mk (st := sLawRead) l37 c37 k37
  have B37 := F37.binds (ps := ["thing"]) fun _ _ _ _ _ _ us hl => match us, hl with | [_], _ => rfl
  have F38 := fun_mk (st := sLawOdd) l38 c38 k38
  have B38 := F38.binds (ps := ["bag", "own"]) fun _ _ _ _ _ _ us hl => match us, hl with | [_, _], _ => rfl
  have F39 := fun_mk (st := sLaw) l39 c39 k39
  have B39 := F39.binds (ps := ["script"]) fun _ _ _ _ _ _ us hl => match us, hl with | [_], _ => rfl
  have m_int := PySem.W.mg_none_of X G b_int
  have m_list := PySem.W.mg_none_of X G b_list
  have m_len := PySem.W.mg_none_of X G b_len
  have m_isinstance := PySem.W.mg_none_of X G b_isinstance
  have m_tuple := PySem.W.mg_none_of X G b_tuple
  have m_bool := PySem.W.mg_none_of X G b_bool
  have m_str := PySem.W.mg_none_of X G b_str
  have m_all := PySem.W.mg_none_of X G b_all
  have m_zip := PySem.W.mg_none_of X G b_zip
  have m_range := PySem.W.mg_none_of X G b_range
  have m_sum := PySem.W.mg_none_of X G b_sum
  have m_min := PySem.W.mg_none_of X G b_min
  have m_max := PySem.W.mg_none_of X G b_max
  have m_sorted := PySem.W.mg_none_of X G b_sorted
  refine ⟨PySem.W.fnOf "law" "law" (defArgs sLaw) (defBody sLaw) (defScope sLaw) .none kV39 dc39 pm39 an39 cd39 ct39, fun s v => .of_eq rfl, fun base _ _ => ?_⟩
  have II : Cal l.prog w K mg base "is_integer" 1 ["value"] (spIsInt K) f1 _ := ⟨ok_is_int (k := 0) F1 m_isinstance m_int m_bool, PySem.W.mg_of X G a1, k1, B1⟩
  have IN : Cal l.prog w K mg base "is_number" 2 ["value", "least", "most"] (spIsNum K) f2 _ := ⟨ok_is_num (k := 0) F2 II, PySem.W.mg_of X G a2, k2, B2⟩
  have Mr : Cal l.prog w K mg base "mark_rows" 1 ["many", "most"] spRows f3 _ := ⟨ok_mark_rows (k := 0) F3 m_range, PySem.W.mg_of X G a3, k3, B3⟩
  have Md : Cal l.prog w K mg base "marked" 1 ["many", "numbers"] (spMarked K) f4 _ := ⟨ok_marked (k := 0) F4 m_range m_tuple, PySem.W.mg_of X G a4, k4, B4⟩
  have Rk : Cal l.prog w K mg base "ranked" 1 ["many", "order"] (spRanked K) f5 _ := ⟨ok_ranked (k := 0) F5 m_range m_tuple, PySem.W.mg_of X G a5, k5, B5⟩
  have Kp : Cal l.prog w K mg base "kept" 5 ["value"] (spKept K 4) f0 _ := ⟨ok_kept F0 (PySem.W.mg_of X G a0) B0 m_isinstance m_list m_tuple 4, PySem.W.mg_of X G a0, k0, B0⟩
  have TOne : Cls K COne := ⟨pgOne, hdOne, poOne, saOne⟩
  have DOne : FmT K COne := ⟨TOne, nWOne, nNOne, haOne, hn, htk, hmOne⟩
  have TTicks : Cls K CTicks := ⟨pgTicks, hdTicks, poTicks, saTicks⟩
  have DTicks : FmT K CTicks := ⟨TTicks, nWTicks, nNTicks, haTicks, hn, htk, hmTicks⟩
  have TPoints : Cls K CPoints := ⟨pgPoints, hdPoints, poPoints, saPoints⟩
  have DPoints : FmT K CPoints := ⟨TPoints, nWPoints, nNPoints, haPoints, hn, htk, hmPoints⟩
  have TRanks : Cls K CRanks := ⟨pgRanks, hdRanks, poRanks, saRanks⟩
  have DRanks : FmT K CRanks := ⟨TRanks, nWRanks, nNRanks, haRanks, hn, htk, hmRanks⟩
  have TLists : Cls K CLists := ⟨pgLists, hdLists, poLists, saLists⟩
  have DLists : FmT K CLists := ⟨TLists, nWLists, nNLists, haLists, hn, htk, hmLists⟩
  have Z : Fms l.prog w K mg base (⟨(pick COne CTicks CPoints CRanks CLists), (pick f8 f12 f16 f20 f24), (pick f9 f13 f17 f21 f25), (pick f10 f14 f18 f22 f26), (pick f11 f15 f19 f23 f27), pick _ _ _ _ _, pick _ _ _ _ _, pick _ _ _ _ _, pick _ _ _ _ _⟩ : FA) := fms_mk (CF := CF) hn htk (by5 ⟨TOne, nWOne, nNOne, haOne, hmOne, tyOne, ssOne, fFOne, slOne, (PySem.W.mg_of X G nCOne), miOne, kpOne⟩ ⟨TTicks, nWTicks, nNTicks, haTicks, hmTicks, tyTicks, ssTicks, fFTicks, slTicks, (PySem.W.mg_of X G nCTicks), miTicks, kpTicks⟩ ⟨TPoints, nWPoints, nNPoints, haPoints, hmPoints, tyPoints, ssPoints, fFPoints, slPoints, (PySem.W.mg_of X G nCPoints), miPoints, kpPoints⟩ ⟨TRanks, nWRanks, nNRanks, haRanks, hmRanks, tyRanks, ssRanks, fFRanks, slRanks, (PySem.W.mg_of X G nCRanks), miRanks, kpRanks⟩ ⟨TLists, nWLists, nNLists, haLists, hmLists, tyLists, ssLists, fFLists, slLists, (PySem.W.mg_of X G nCLists), miLists, kpLists⟩) (by5 (by5 (fun h => absurd rfl h) (fun _ => noOneTicks) (fun _ => noOnePoints) (fun _ => noOneRanks) (fun _ => noOneLists)) (by5 (fun _ => noTicksOne) (fun h => absurd rfl h) (fun _ => noTicksPoints) (fun _ => noTicksRanks) (fun _ => noTicksLists)) (by5 (fun _ => noPointsOne) (fun _ => noPointsTicks) (fun h => absurd rfl h) (fun _ => noPointsRanks) (fun _ => noPointsLists)) (by5 (fun _ => noRanksOne) (fun _ => noRanksTicks) (fun _ => noRanksPoints) (fun h => absurd rfl h) (fun _ => noRanksLists)) (by5 (fun _ => noListsOne) (fun _ => noListsTicks) (fun _ => noListsPoints) (fun _ => noListsRanks) (fun h => absurd rfl h)))
    (by5 ⟨a8, i8, k8⟩ ⟨a12, i12, k12⟩ ⟨a16, i16, k16⟩ ⟨a20, i20, k20⟩ ⟨a24, i24, k24⟩) (by5 ⟨a9, i9, k9⟩ ⟨a13, i13, k13⟩ ⟨a17, i17, k17⟩ ⟨a21, i21, k21⟩ ⟨a25, i25, k25⟩) (by5 ⟨a10, i10, k10⟩ ⟨a14, i14, k14⟩ ⟨a18, i18, k18⟩ ⟨a22, i22, k22⟩ ⟨a26, i26, k26⟩) (by5 ⟨a11, i11, k11⟩ ⟨a15, i15, k15⟩ ⟨a19, i19, k19⟩ ⟨a23, i23, k23⟩ ⟨a27, i27, k27⟩)
    (by5 (ok_one_init (k := 2) F8 TOne nWOne nNOne) (ok_ticks_init (k := 2) F12 TTicks nWTicks nNTicks) (ok_points_init (k := 0) F16 TPoints nWPoints nNPoints IN) (ok_ranks_init (k := 2) F20 TRanks nWRanks nNRanks) (ok_lists_init (k := 0) F24 TLists nWLists nNLists IN)) (by5 B8 B12 B16 B20 B24) (by5 (fun h => by simp at h) (fun h => by simp at h) (fun _ => kb_points F16) (fun h => by simp at h) (fun _ => kb_lists F24))
    (by5 (mk_one (ok_one (k := 0) (C := COne) F9 m_sum Mr)) (mk_ticks (ok_ticks (k := 0) (C := CTicks) F13 Mr)) (mk_points (ok_points (k := 0) F17 TPoints nNPoints Mr)) (mk_ranks (ok_ranks (k := 0) (C := CRanks) F21 m_range m_sorted Rk)) (mk_lists (ok_lists (k := 0) F25 TLists nNLists m_min m_range m_sorted Md))) (by5 B9 B13 B17 B21 B25)
    (by5 (st_zero (x := .one) (by simp) (ok_one_str (k := 0) F10 TOne nWOne)) (st_zero (x := .ticks) (by simp) (ok_ticks_str (k := 0) F14 TTicks nWTicks)) (st_num (x := .points) (by simp) (ok_points_str (k := 0) F18 TPoints nWPoints nNPoints)) (st_zero (x := .ranks) (by simp) (ok_ranks_str (k := 0) F22 TRanks nWRanks)) (st_num (x := .lists) (by simp) (ok_lists_str (k := 0) F26 TLists nWLists nNLists))) (by5 B10 B14 B18 B22 B26)
    (by5 (ok_one_eq (k := 0) F11 DOne (PySem.W.mg_of X G nCOne) m_isinstance) (ok_ticks_eq (k := 0) F15 DTicks (PySem.W.mg_of X G nCTicks) m_isinstance) (ok_points_eq (k := 0) F19 DPoints (PySem.W.mg_of X G nCPoints) m_isinstance) (ok_ranks_eq (k := 0) F23 DRanks (PySem.W.mg_of X G nCRanks) m_isinstance) (ok_lists_eq (k := 0) F27 DLists (PySem.W.mg_of X G nCLists) m_isinstance)) (by5 B11 B15 B19 B23 B27)
  have kF := kF_of (C := (pick COne CTicks CPoints CRanks CLists)) (mg := mg) (CF := CF) (by5 ⟨TOne, nWOne, nNOne, haOne, hmOne, tyOne, ssOne, fFOne, slOne, (PySem.W.mg_of X G nCOne), miOne, kpOne⟩ ⟨TTicks, nWTicks, nNTicks, haTicks, hmTicks, tyTicks, ssTicks, fFTicks, slTicks, (PySem.W.mg_of X G nCTicks), miTicks, kpTicks⟩ ⟨TPoints, nWPoints, nNPoints, haPoints, hmPoints, tyPoints, ssPoints, fFPoints, slPoints, (PySem.W.mg_of X G nCPoints), miPoints, kpPoints⟩ ⟨TRanks, nWRanks, nNRanks, haRanks, hmRanks, tyRanks, ssRanks, fFRanks, slRanks, (PySem.W.mg_of X G nCRanks), miRanks, kpRanks⟩ ⟨TLists, nWLists, nNLists, haLists, hmLists, tyLists, ssLists, fFLists, slLists, (PySem.W.mg_of X G nCLists), miLists, kpLists⟩) hdF tyF
  have O1 : OneC K CInvalidNumber aE "ValueError.__new__" [.type "ValueError", .type "Exception", .type "BaseException", .type "object"] := ⟨oxInvalidNumber, saInvalidNumber, tyInvalidNumber, kcInvalidNumber, gaInvalidNumber, ggInvalidNumber, exInvalidNumber, hdInvalidNumber, haInvalidNumber, hmInvalidNumber⟩
  have TE : ErrK K CInvalidNumber := O1.err bValue hn htk
  have xI : PySem.W.exmOne K (.ref CInvalidNumber) (.ref CInvalidNumber) = some true := PySem.W.exm_ref exInvalidNumber hdInvalidNumber tyInvalidNumber suInvalidNumber
  have Er : FnOk l.prog w K mg base CX0 6 f7 _ ["self", "value"] (spIni K CInvalidNumber "InvalidNumber" ["value"]) := ok_ini1 F7 TE ncInvalidNumber nvInvalidNumber Kp
  have XPoints := ok_points_initB (P := l.prog) (w := w) (mg := mg) (base := base) F16 TPoints nWPoints nNPoints IN TE a7 tfInvalidNumber (PySem.W.mg_of X G nCInvalidNumber) Er B7
  have XLists := ok_lists_initB (P := l.prog) (w := w) (mg := mg) (base := base) F24 TLists nWLists nNLists IN TE a7 tfInvalidNumber (PySem.W.mg_of X G nCInvalidNumber) Er B7
  have Ba : Cal l.prog w K mg base "_law_bag" 1 ["script"] (spBag K) f28 _ := ⟨ok_bag (k := 0) F28 m_int m_list, PySem.W.mg_of X G a28, k28, B28⟩
  have D : Cal l.prog w K mg base "_law_draw" 1 ["bag", "size"] (spDrawC K) f29 _ := ⟨ok_drawC (k := 0) F29 m_int m_len, PySem.W.mg_of X G a29, k29, B29⟩
  have O : Cal l.prog w K mg base "_law_of" 2 ["bag", "things"] (spOfC K) f30 _ := ⟨ok_ofC (k := 0) F30 D m_len, PySem.W.mg_of X G a30, k30, B30⟩
  have Li : Cal l.prog w K mg base "_law_like" 7 ["told", "due"] (spLike K 6) f31 _ := ⟨ok_like F31 (PySem.W.mg_of X G a31) B31 m_isinstance m_list m_tuple m_bool m_str m_int m_len m_all m_zip 6, PySem.W.mg_of X G a31, k31, B31⟩
  have Fo : Cal l.prog w K mg base "_law_form" 3 ["bag"] (spForm K) f32 _ := ⟨ok_form (k := 0) F32 D O, PySem.W.mg_of X G a32, k32, B32⟩
  have Ft : Cal l.prog w K mg base "_law_form_text" 1 ["shape"] (spFtext K) f33 _ := ⟨ok_ftext (k := 0) F33 m_str, PySem.W.mg_of X G a33, k33, B33⟩
  have Ls : Cal l.prog w K mg base "_law_listing" 1 ["shape", "many"] (spListing K) f34 _ := ⟨ok_listing (k := 0) F34 m_range m_max m_sorted m_tuple m_int, PySem.W.mg_of X G a34, k34, B34⟩
  have Ma : Cal l.prog w K mg base "_law_made" 5 ["shape"] (spMade K _) f35 _ := ⟨ok_made (k := 0) F35 Z, PySem.W.mg_of X G a35, k35, B35⟩
  have Rf : Cal l.prog w K mg base "read_form" 5 ["text"] (spRead K _) f6 _ := ⟨ok_read (k := 0) F6 Z m_range m_str, PySem.W.mg_of X G a6, k6, B6⟩
  have Rd : Cal l.prog w K mg base "_law_read" 2 ["thing"] (spLread K _) f37 _ := ⟨ok_lread (k := 0) F37 Z Ft m_isinstance m_str, PySem.W.mg_of X G a37, k37, B37⟩
  have Lr : Cal l.prog w K mg base "_law_refused" 11 ["bag"] (spRefused K) f36 _ := ⟨ok_refused F36 Z O Li XPoints XLists TE (PySem.W.mg_of X G nCInvalidNumber) xI nvInvalidNumber m_isinstance m_int m_bool, PySem.W.mg_of X G a36, k36, B36⟩
  have Od : Cal l.prog w K mg base "_law_odd" 5 ["bag", "own"] (spOdd K _) f38 _ := ⟨ok_odd F38 Z D m_len, PySem.W.mg_of X G a38, k38, B38⟩
  exact ok_law F39 Z (PySem.W.mg_of X G nCF) kF Ba D O Li Fo Ma Ls Ft Rf Od Rd Lr m_range m_str m_isinstance
end My
open PySem PySem.W PyProof.Rows
set_option maxRecDepth 100000 in
set_option maxHeartbeats 0 in
theorem PySem.Challenge.cw_soleheld_k04_markings_listed_holds : PySem.Challenge.rw_soleheld_k04_markings_listed.Holds := by
  w_on; o_law; k_head; (case hw => w_witness2)
  k_fill
  refine L2.walk_of (l := PySem.Challenge.rw_soleheld_k04_markings_listed) (n := 63) (k := 12) (x := "script") (CX := fun _ => L2.CX0) (sp := fun w => My.spLaw _) rfl (by decide) rfl ⟨rfl, by decide, by decide⟩ (fun w h Y => PySem.W.kIn_of Y) ?F (fun _ _ a ns hl _ hS => ⟨a, ns, rfl, hS, hl, fun _ => rfl⟩) (fun _ _ _ _ _ h => h)
  case F =>
    intro w mg fa h KX G hmg
    refine' My.all_mk KX G hmg ?nCF ?naE ?nCInvalidNumber ?nCOne ?nCTicks ?nCPoints ?nCRanks ?nCLists ?a0 ?l0 ?c0 ?k0 ?a1 ?l1 ?c1 ?k1 ?a2 ?l2 ?c2 ?k2 ?a3 ?l3 ?c3 ?k3 ?a4 ?l4 ?c4 ?k4 ?a5 ?l5 ?c5 ?k5 ?a6 ?l6 ?c6 ?k6 ?a7 ?i7 ?l7 ?c7 ?k7 ?a8 ?i8 ?l8 ?c8 ?k8 ?a9 ?i9 ?l9 ?c9 ?k9 ?a10 ?i10 ?l10 ?c10 ?k10 ?a11 ?i11 ?l11 ?c11 ?k11 ?a12 ?i12 ?l12 ?c12 ?k12 ?a13 ?i13 ?l13 ?c13 ?k13 ?a14 ?i14 ?l14 ?c14 ?k14 ?a15 ?i15 ?l15 ?c15 ?k15 ?a16 ?i16 ?l16 ?c16 ?k16 ?a17 ?i17 ?l17 ?c17 ?k17 ?a18 ?i18 ?l18 ?c18 ?k18 ?a19 ?i19 ?l19 ?c19 ?k19 ?a20 ?i20 ?l20 ?c20 ?k20 ?a21 ?i21 ?l21 ?c21 ?k21 ?a22 ?i22 ?l22 ?c22 ?k22 ?a23 ?i23 ?l23 ?c23 ?k23 ?a24 ?i24 ?l24 ?c24 ?k24 ?a25 ?i25 ?l25 ?c25 ?k25 ?a26 ?i26 ?l26 ?c26 ?k26 ?a27 ?i27 ?l27 ?c27 ?k27 ?a28 ?l28 ?c28 ?k28 ?a29 ?l29 ?c29 ?k29 ?a30 ?l30 ?c30 ?k30 ?a31 ?l31 ?c31 ?k31 ?a32 ?l32 ?c32 ?k32 ?a33 ?l33 ?c33 ?k33 ?a34 ?l34 ?c34 ?k34 ?a35 ?l35 ?c35 ?k35 ?a36 ?l36 ?c36 ?k36 ?a37 ?l37 ?c37 ?k37 ?a38 ?l38 ?c38 ?k38 ?a39 ?l39 ?c39 ?k39 ?oxInvalidNumber ?saInvalidNumber ?tyInvalidNumber ?kcInvalidNumber ?gaInvalidNumber ?ggInvalidNumber ?exInvalidNumber ?hdInvalidNumber ?haInvalidNumber ?hmInvalidNumber ?ncInvalidNumber ?nvInvalidNumber ?suInvalidNumber ?tfInvalidNumber ?hn ?htk ?hdF ?tyF ?pgOne ?hdOne ?poOne ?saOne ?nWOne ?nNOne ?haOne ?hmOne ?tyOne ?ssOne ?fFOne ?slOne ?miOne ?kpOne ?pgTicks ?hdTicks ?poTicks ?saTicks ?nWTicks ?nNTicks ?haTicks ?hmTicks ?tyTicks ?ssTicks ?fFTicks ?slTicks ?miTicks ?kpTicks ?pgPoints ?hdPoints ?poPoints ?saPoints ?nWPoints ?nNPoints ?haPoints ?hmPoints ?tyPoints ?ssPoints ?fFPoints ?slPoints ?miPoints ?kpPoints ?pgRanks ?hdRanks ?poRanks ?saRanks ?nWRanks ?nNRanks ?haRanks ?hmRanks ?tyRanks ?ssRanks ?fFRanks ?slRanks ?miRanks ?kpRanks ?pgLists ?hdLists ?poLists ?saLists ?nWLists ?nNLists ?haLists ?hmLists ?tyLists ?ssLists ?fFLists ?slLists ?miLists ?kpLists ?noOneTicks ?noOnePoints ?noOneRanks ?noOneLists ?noTicksOne ?noTicksPoints ?noTicksRanks ?noTicksLists ?noPointsOne ?noPointsTicks ?noPointsRanks ?noPointsLists ?noRanksOne ?noRanksTicks ?noRanksPoints ?noRanksLists ?noListsOne ?noListsTicks ?noListsPoints ?noListsRanks ?b_int ?b_list ?b_len ?b_isinstance ?b_tuple ?b_bool ?b_str ?b_all ?b_zip ?b_range ?b_sum ?b_min ?b_max ?b_sorted
    (case nCF => k_is)
    (case naE => k_is)
    (case nCInvalidNumber => k_is)
    (case nCOne => k_is)
    (case nCTicks => k_is)
    (case nCPoints => k_is)
    (case nCRanks => k_is)
    (case nCLists => k_is)
    (case a0 => k_is)
    (case l0 => k_is)
    (case c0 => k_is)
    (case k0 => k_is)
    (case a1 => k_is)
    (case l1 => k_is)
    (case c1 => k_is)
    (case k1 => k_is)
    (case a2 => k_is)
    (case l2 => k_is)
    (case c2 => k_is)
    (case k2 => k_is)
    (case a3 => k_is)
    (case l3 => k_is)
    (case c3 => k_is)
    (case k3 => k_is)
    (case a4 => k_is)
    (case l4 => k_is)
    (case c4 => k_is)
    (case k4 => k_is)
    (case a5 => k_is)
    (case l5 => k_is)
    (case c5 => k_is)
    (case k5 => k_is)
    (case a6 => k_is)
    (case l6 => k_is)
    (case c6 => k_is)
    (case k6 => k_is)
    (case a7 => k_is)
    (case i7 => k_is)
    (case l7 => k_is)
    (case c7 => k_is)
    (case k7 => k_is)
    (case a8 => k_is)
    (case i8 => k_is)
    (case l8 => k_is)
    (case c8 => k_is)
    (case k8 => k_is)
    (case a9 => k_is)
    (case i9 => k_is)
    (case l9 => k_is)
    (case c9 => k_is)
    (case k9 => k_is)
    (case a10 => k_is)
    (case i10 => k_is)
    (case l10 => k_is)
    (case c10 => k_is)
    (case k10 => k_is)
    (case a11 => k_is)
    (case i11 => k_is)
    (case l11 => k_is)
    (case c11 => k_is)
    (case k11 => k_is)
    (case a12 => k_is)
    (case i12 => k_is)
    (case l12 => k_is)
    (case c12 => k_is)
    (case k12 => k_is)
    (case a13 => k_is)
    (case i13 => k_is)
    (case l13 => k_is)
    (case c13 => k_is)
    (case k13 => k_is)
    (case a14 => k_is)
    (case i14 => k_is)
    (case l14 => k_is)
    (case c14 => k_is)
    (case k14 => k_is)
    (case a15 => k_is)
    (case i15 => k_is)
    (case l15 => k_is)
    (case c15 => k_is)
    (case k15 => k_is)
    (case a16 => k_is)
    (case i16 => k_is)
    (case l16 => k_is)
    (case c16 => k_is)
    (case k16 => k_is)
    (case a17 => k_is)
    (case i17 => k_is)
    (case l17 => k_is)
    (case c17 => k_is)
    (case k17 => k_is)
    (case a18 => k_is)
    (case i18 => k_is)
    (case l18 => k_is)
    (case c18 => k_is)
    (case k18 => k_is)
    (case a19 => k_is)
    (case i19 => k_is)
    (case l19 => k_is)
    (case c19 => k_is)
    (case k19 => k_is)
    (case a20 => k_is)
    (case i20 => k_is)
    (case l20 => k_is)
    (case c20 => k_is)
    (case k20 => k_is)
    (case a21 => k_is)
    (case i21 => k_is)
    (case l21 => k_is)
    (case c21 => k_is)
    (case k21 => k_is)
    (case a22 => k_is)
    (case i22 => k_is)
    (case l22 => k_is)
    (case c22 => k_is)
    (case k22 => k_is)
    (case a23 => k_is)
    (case i23 => k_is)
    (case l23 => k_is)
    (case c23 => k_is)
    (case k23 => k_is)
    (case a24 => k_is)
    (case i24 => k_is)
    (case l24 => k_is)
    (case c24 => k_is)
    (case k24 => k_is)
    (case a25 => k_is)
    (case i25 => k_is)
    (case l25 => k_is)
    (case c25 => k_is)
    (case k25 => k_is)
    (case a26 => k_is)
    (case i26 => k_is)
    (case l26 => k_is)
    (case c26 => k_is)
    (case k26 => k_is)
    (case a27 => k_is)
    (case i27 => k_is)
    (case l27 => k_is)
    (case c27 => k_is)
    (case k27 => k_is)
    (case a28 => k_is)
    (case l28 => k_is)
    (case c28 => k_is)
    (case k28 => k_is)
    (case a29 => k_is)
    (case l29 => k_is)
    (case c29 => k_is)
    (case k29 => k_is)
    (case a30 => k_is)
    (case l30 => k_is)
    (case c30 => k_is)
    (case k30 => k_is)
    (case a31 => k_is)
    (case l31 => k_is)
    (case c31 => k_is)
    (case k31 => k_is)
    (case a32 => k_is)
    (case l32 => k_is)
    (case c32 => k_is)
    (case k32 => k_is)
    (case a33 => k_is)
    (case l33 => k_is)
    (case c33 => k_is)
    (case k33 => k_is)
    (case a34 => k_is)
    (case l34 => k_is)
    (case c34 => k_is)
    (case k34 => k_is)
    (case a35 => k_is)
    (case l35 => k_is)
    (case c35 => k_is)
    (case k35 => k_is)
    (case a36 => k_is)
    (case l36 => k_is)
    (case c36 => k_is)
    (case k36 => k_is)
    (case a37 => k_is)
    (case l37 => k_is)
    (case c37 => k_is)
    (case k37 => k_is)
    (case a38 => k_is)
    (case l38 => k_is)
    (case c38 => k_is)
    (case k38 => k_is)
    (case a39 => k_is)
    (case l39 => k_is)
    (case c39 => k_is)
    (case k39 => k_is)
    (case oxInvalidNumber => exact ⟨_, _, _, _, _, _, _, _, _, _, _, _, _, _, (by k_is)⟩)
    (case saInvalidNumber => k_is)
    (case tyInvalidNumber => k_is)
    (case kcInvalidNumber => k_is)
    (case gaInvalidNumber => k_is)
    (case ggInvalidNumber => k_is)
    (case exInvalidNumber => k_is)
    (case hdInvalidNumber => k_is)
    (case haInvalidNumber => k_is)
    (case hmInvalidNumber => k_is)
    (case ncInvalidNumber => k_is)
    (case nvInvalidNumber => k_is)
    (case suInvalidNumber => k_is)
    (case tfInvalidNumber => k_is)
    (case hn => k_is)
    (case htk => k_is)
    (case hdF => k_is)
    (case tyF => k_is)
    (case pgOne => k_is)
    (case hdOne => k_is)
    (case poOne => k_is)
    (case saOne => k_is)
    (case nWOne => k_is)
    (case nNOne => k_is)
    (case haOne => k_is)
    (case hmOne => k_is)
    (case tyOne => k_is)
    (case ssOne => k_is)
    (case fFOne => k_is)
    (case slOne => k_is)
    (case miOne => k_is)
    (case kpOne => k_is)
    (case pgTicks => k_is)
    (case hdTicks => k_is)
    (case poTicks => k_is)
    (case saTicks => k_is)
    (case nWTicks => k_is)
    (case nNTicks => k_is)
    (case haTicks => k_is)
    (case hmTicks => k_is)
    (case tyTicks => k_is)
    (case ssTicks => k_is)
    (case fFTicks => k_is)
    (case slTicks => k_is)
    (case miTicks => k_is)
    (case kpTicks => k_is)
    (case pgPoints => k_is)
    (case hdPoints => k_is)
    (case poPoints => k_is)
    (case saPoints => k_is)
    (case nWPoints => k_is)
    (case nNPoints => k_is)
    (case haPoints => k_is)
    (case hmPoints => k_is)
    (case tyPoints => k_is)
    (case ssPoints => k_is)
    (case fFPoints => k_is)
    (case slPoints => k_is)
    (case miPoints => k_is)
    (case kpPoints => k_is)
    (case pgRanks => k_is)
    (case hdRanks => k_is)
    (case poRanks => k_is)
    (case saRanks => k_is)
    (case nWRanks => k_is)
    (case nNRanks => k_is)
    (case haRanks => k_is)
    (case hmRanks => k_is)
    (case tyRanks => k_is)
    (case ssRanks => k_is)
    (case fFRanks => k_is)
    (case slRanks => k_is)
    (case miRanks => k_is)
    (case kpRanks => k_is)
    (case pgLists => k_is)
    (case hdLists => k_is)
    (case poLists => k_is)
    (case saLists => k_is)
    (case nWLists => k_is)
    (case nNLists => k_is)
    (case haLists => k_is)
    (case hmLists => k_is)
    (case tyLists => k_is)
    (case ssLists => k_is)
    (case fFLists => k_is)
    (case slLists => k_is)
    (case miLists => k_is)
    (case kpLists => k_is)
    (case noOneTicks => k_is)
    (case noOnePoints => k_is)
    (case noOneRanks => k_is)
    (case noOneLists => k_is)
    (case noTicksOne => k_is)
    (case noTicksPoints => k_is)
    (case noTicksRanks => k_is)
    (case noTicksLists => k_is)
    (case noPointsOne => k_is)
    (case noPointsTicks => k_is)
    (case noPointsRanks => k_is)
    (case noPointsLists => k_is)
    (case noRanksOne => k_is)
    (case noRanksTicks => k_is)
    (case noRanksPoints => k_is)
    (case noRanksLists => k_is)
    (case noListsOne => k_is)
    (case noListsTicks => k_is)
    (case noListsPoints => k_is)
    (case noListsRanks => k_is)
    (case b_int => k_is)
    (case b_list => k_is)
    (case b_len => k_is)
    (case b_isinstance => k_is)
    (case b_tuple => k_is)
    (case b_bool => k_is)
    (case b_str => k_is)
    (case b_all => k_is)
    (case b_zip => k_is)
    (case b_range => k_is)
    (case b_sum => k_is)
    (case b_min => k_is)
    (case b_max => k_is)
    (case b_sorted => k_is)
#print axioms PySem.Challenge.cw_soleheld_k04_markings_listed_holds

