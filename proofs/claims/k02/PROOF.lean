import PyProof.Rows.All
import Wide.All
import OpenK.AllK
import Wide.FinOn
import HandS.ForMost
import HandS.Wide
import HandS.Gcd
import HandS.IsInst
import HandS.Defaults
import HandS.Zip
import HandS.Walk
import HandS.Codes
import HandS.Evl
import PySem.Challenge.RW_soleheld_k02_worths_reckoned
set_option Elab.async false
set_option linter.all false
set_option maxRecDepth 100000
namespace My
open PySem PySem.Spec PyProof.Rows L2
/-! ### operators upon whole numbers of any size -/
section
variable {X : Cx}
theorem op_mulG : OpR X (binaryOp .Mult) (rI IntMulOk fun i j => .int (i * j)) := opI fun _ _ _ _ _ _ _ hc q => mul_int q hc
def CDivS (_ j : Int) : Prop := j ≠ 0 ∧ j.natAbs.log2 < 9000
theorem op_divS : OpR X (binaryOp .FloorDiv) (rI CDivS fun i j => .int (i.fdiv j)) := opI fun _ _ _ _ _ _ _ hc q => floordiv_int hc.1 q (.inl (PyProof.noPylong_of_log2 hc.2))
def CPowG (i j : Int) : Prop := 0 ≤ j ∧ (Builtin.Int.intBits i : Int) * j ≤ 2 ^ 27
theorem op_powG : OpR X (binaryOp .Pow) (rI CPowG fun i j => .int (i ^ j.toNat)) := opI fun _ _ _ _ _ _ _ hc q => pow_int hc.1 hc.2 q
end
/-- a def that stands at a module's name and keeps its promise -/
structure Cal (P : Program) (w : World) (K : PySem.W.Frag) (mg : Str → Option Value) (base : Heap) (x : Str) (k : Nat) (ps : List Str) (sp : Sp) (f : Addr) (fd : FuncData) : Prop where
  ok : FnOk P w K mg base CX0 k f fd ps sp
  g : mg x = some (.ref f)
  kp : PySem.W.keepIn K (.ref f) = true
  b : Binds K fd ps []
theorem same_upd {H : Hp} {p : Addr} {o : HO} (h : H p = none) : Same H (upd H p o) := fun b x e => by
  rw [upd_ne (ne_of_none e h)]
  exact e
/-! ### the bag -/
/-- a bag at b: its numbers at c, the rest bounded -/
structure BagIs (K : PySem.W.Frag) (H : Hp) (b c : Addr) (ns : List Int) (i : Nat) (g x n : Int) : Prop where
  ob : H b = some (.lst [.ref c, .int i, .int g, .int x, .int n])
  sq : SqL K H c (ns.map V.int)
  cb : c ≠ b
  hi : i ≤ ns.length
  x0 : 0 ≤ x
  x1 : x < 4294967296
def BagAt (K : PySem.W.Frag) (H : Hp) (b : Addr) : Prop := ∃ c ns i g x n, BagIs K H b c ns i g x n
/-- what stands stays, but for what stands at b -/
def But (b : Addr) (H H' : Hp) : Prop := ∀ p o, p ≠ b → H p = some o → H' p = some o
theorem But.refl {b : Addr} {H : Hp} : But b H H := fun _ _ _ h => h
theorem But.trans {b : Addr} {H H1 H2 : Hp} (x : But b H H1) (y : But b H1 H2) : But b H H2 := fun p o n h => y p o n (x p o n h)
theorem But.upd {b : Addr} {H : Hp} {o : HO} : But b H (upd H b o) := fun p u n h => by rw [upd_ne n]; exact h
theorem But.of {b : Addr} {H H' : Hp} (s : Same H H') : But b H H' := fun p o _ h => s p o h
theorem But.seq {K : PySem.W.Frag} {b p : Addr} {H H' : Hp} {xs : List V} (h : But b H H') (n : p ≠ b) (s : SqL K H p xs) : SqL K H' p xs := by
  rcases s with (s | ⟨o, s⟩) | s
  · exact .inl (.inl (h _ _ n s))
  · exact .inl (.inr ⟨o, h _ _ n s⟩)
  · exact .inr s
theorem But.seqT {K : PySem.W.Frag} {b p : Addr} {H H' : Hp} {xs : List V} (h : But b H H') (n : p ≠ b) (s : SqT K H p xs) : SqT K H' p xs := by
  rcases s with (s | ⟨o, s⟩) | s
  · exact .inl (.inl (h _ _ n s))
  · exact .inl (.inr ⟨o, h _ _ n s⟩)
  · exact .inr s
theorem BagIs.same {K : PySem.W.Frag} {H H' : Hp} {b c : Addr} {ns : List Int} {i : Nat} {g x n : Int} (B : BagIs K H b c ns i g x n) (s : Same H H') : BagIs K H' b c ns i g x n :=
  ⟨s _ _ B.ob, s.seq B.sq, B.cb, B.hi, B.x0, B.x1⟩
theorem BagAt.same {K : PySem.W.Frag} {H H' : Hp} {b : Addr} (B : BagAt K H b) (s : Same H H') : BagAt K H' b :=
  let ⟨c, ns, i, g, x, n, B⟩ := B; ⟨c, ns, i, g, x, n, B.same s⟩
theorem BagIs.put {K : PySem.W.Frag} {H : Hp} {b c : Addr} {ns : List Int} {i : Nat} {g x n : Int} (B : BagIs K H b c ns i g x n) {i' : Nat} {g' x' n' : Int} (hi : i' ≤ ns.length) (x0 : 0 ≤ x') (x1 : x' < 4294967296) :
    BagIs K (upd H b (.lst [.ref c, .int i', .int g', .int x', .int n'])) b c ns i' g' x' n' :=
  ⟨upd_same, (But.upd (H := H)).seq B.cb B.sq, B.cb, hi, x0, x1⟩
/-! ### promises -/
def spBag (K : PySem.W.Frag) : Sp := fun vs H Q _ => ∃ (a : Addr) (ns : List Int), vs = [.ref a] ∧ SqL K H a (ns.map V.int) ∧ ∀ b H', Same H H' → BagAt K H' b → H b = none → Q (.ref b) H'
def spDraw (K : PySem.W.Frag) : Sp := fun vs H Q _ => ∃ (b : Addr) (m : Int), vs = [.ref b, .int m] ∧ BagAt K H b ∧ 0 < m ∧ m < 1000000000000000000000000000000000000000 ∧ ∀ r H', 0 ≤ r → r < m → BagAt K H' b → But b H H' → Q (.int r) H'
def topS (i : Nat) : Stmt := PySem.Challenge.pw_soleheld_k02_worths_reckoned.main.body.getD i (.Pass ⟨0, 0, 0, 0⟩)
abbrev sLawBag : Stmt := topS 13
theorem scLawBag : FnScope ["script", "mixed", "piece"] ["script"] (defScope sLawBag) := ⟨rfl, rfl, rfl, by decide +kernel, rfl, by decide +kernel, by decide +kernel⟩
abbrev sLawDraw : Stmt := topS 14
theorem scLawDraw : FnScope ["bag", "size", "piece", "digit"] ["bag", "size"] (defScope sLawDraw) := ⟨rfl, rfl, rfl, by decide +kernel, rfl, by decide +kernel, by decide +kernel⟩
theorem mod_lo {a m : Int} (h : 0 < m) : 0 ≤ a % m := Int.emod_nonneg a (by omega)
theorem mod_hi {a m : Int} (h : 0 < m) : a % m < m := Int.emod_lt_of_pos a h
theorem mul_right {a : Int} {c : Int} (h : Builtin.Int.intBits c ≤ 64) : IntMulOk a c := IntMulOk.of_right h
section
variable {P : Program} {w : World} {K : PySem.W.Frag} {mg : Str → Option Value} {base : Heap}
theorem ok_bag {f : Addr} {fd : FuncData} {k : Nat} (F : Fun K "_law_bag" "_law_bag" sLawBag f fd) (b_int : mg "int" = none) (b_list : mg "list" = none) : FnOk P w K mg base CX0 (k + 1) f fd ["script"] (spBag K) := by
  refine F.ok scLawBag (fun vs H Q E h => ?_) (fun cdv A outer s H vs Q E hr h => ?_)
  · obtain ⟨a, ns, rfl, _⟩ := h
    rfl
  · obtain ⟨a, ns, rfl, hS, q⟩ := h
    refine ⟨_, (pss_cons (ps_set (i := 1) scLawBag.nd rfl (.inl rfl) pe_int)
      (pss_cons (ps_for PassesOwn.never rfl (pi_list (pe_slice sl_list (pv 0) po_none (po_some pe_int))) (pg_name (i := 2) scLawBag.nd rfl (.inl rfl))
        (pss_one (ps_set (i := 1) scLawBag.nd rfl (.inl rfl) (pe_op op_mod (pe_callTy call_int1 rfl b_int (by decide +kernel) (pa_cons (pe_op op_add (pe_op op_add (pe_op op_mulG (pv 1) pe_int) (pe_op op_mod (pe_callTy call_int1 rfl b_int (by decide +kernel) (pa_cons (pv 2) pa_nil)) pe_int)) pe_int) pa_nil)) pe_int))))
      (pss_one (ps_ret (pe_lst (pa_cons (pe_callTy call_list_of rfl b_list (by decide +kernel) (pa_cons (pe_slice sl_list (pv 0) po_none (po_some pe_int)) pa_nil)) (pa_cons pe_int (pa_cons pe_int (pa_cons (pv 1) (pa_cons pe_int pa_nil)))))))))), ?_⟩
    obtain ⟨ms, ec⟩ : ∃ ms : List Int, cutV (ns.map V.int) none (some 63) = ms.map V.int := ⟨(ns.drop _).take _, by
      unfold cutV
      rw [List.map_take, List.map_drop]⟩
    refine ⟨_, rfl, _, rfl, a, _, rfl, hS, fun c nc => ?_⟩
    rw [ec]
    have sc : Same H (upd H c (.lst (ms.map V.int))) := same_upd nc
    refine ⟨c, rfl, ⟨_, SqL.of upd_same⟩, for_list (K := K) (a := c) (xs := ms.map V.int) (fun i σ H2 => ∃ (m : Int) (v : Option V), σ = [some (.ref a), some (.int m), v] ∧ Same H H2 ∧ H2 c = some (.lst (ms.map V.int)) ∧ 0 ≤ m ∧ m < 4294967296)
      ⟨13964, none, rfl, sc, upd_same, by decide, by decide⟩ (fun i σ H2 _ ⟨_, _, _, _, e, _⟩ => SqL.of e) ?_ ?_⟩
    · rintro i y σ H2 hi ⟨m, v, rfl, s2, ce, m0, m1⟩
      obtain ⟨z, -, rfl⟩ : ∃ z, ms[i]? = some z ∧ y = .int z := by
        rw [List.getElem?_map] at hi
        cases e : ms[i]? with
        | none => rw [e] at hi; cases hi
        | some z => rw [e] at hi; exact ⟨z, rfl, (Option.some.inj hi).symm⟩
      refine ⟨_, rfl, _, _, rfl, rfl, mul_right (by decide +kernel), _, rfl, .inl ⟨_, rfl, _, _, rfl, rfl, (by show (0 : Int) < _; decide), _, _, rfl, rfl, _, _, rfl, rfl, .inl ⟨_, rfl, _, _, rfl, rfl, (by show (0 : Int) < _; decide), ?_⟩⟩⟩
      refine ⟨_, _, rfl, s2, ce, mod_lo (by decide), ?_⟩
      exact Int.lt_trans (mod_hi (by decide)) (by decide)
    · rintro σ H2 ⟨m, v, rfl, s2, ce, m0, m1⟩
      refine ⟨_, rfl, _, rfl, a, _, rfl, s2.seq hS, fun d nd => ?_⟩
      rw [ec]
      refine ⟨d, _, rfl, .inl (SqL.of upd_same), fun l nl => ⟨_, rfl, (by show 5 ≤ sizeLine; decide), fun b nb => ?_⟩⟩
      have s3 := (s2.trans (same_upd (o := .lst (ms.map V.int)) nd)).trans (same_upd (o := .lst (ms.map V.int)) nl)
      refine q b _ (s3.trans (same_upd nb)) ⟨l, ms, 0, 0, m, 0, upd_same, ?_, ?_, Nat.zero_le _, m0, m1⟩ (s3.free nb)
      · have e : l ≠ b := fun e => by rw [← e, upd_same] at nb; cases nb
        exact SqL.of (by rw [upd_ne e, upd_same])
      · exact fun e => by rw [← e, upd_same] at nb; cases nb
theorem ok_draw {f : Addr} {fd : FuncData} {k : Nat} (F : Fun K "_law_draw" "_law_draw" sLawDraw f fd) (b_int : mg "int" = none) (b_len : mg "len" = none) : FnOk P w K mg base CX0 (k + 1) f fd ["bag", "size"] (spDraw K) := by
  refine F.ok scLawDraw (fun vs H Q E h => ?_) (fun cdv A outer s H vs Q E hr h => ?_)
  · obtain ⟨b, m, rfl, _⟩ := h
    rfl
  · obtain ⟨b, m, rfl, ⟨c, ns, i, g, x, n, B⟩, m0, m1, q⟩ := h
    refine ⟨_, (pss_cons (ps_asg (pe_op op_add (pe_ix ix_list (pv 0) pe_int (fun _ _ => rfl)) pe_int) (pg_sub (pv 0) pe_int set_list))
      (C8.pss_cut (ps_if (PW.pt (pw_and (pt_cmpR op_eq (pe_ix ix_list (pv 0) pe_int (fun _ _ => rfl)) pe_int (nomark _)) (pw_and1 (pt_cmpR op_lt (pe_ix ix_list (pv 0) pe_int (fun _ _ => rfl)) (pe_callB call_len rfl b_len (by decide +kernel) (pa_cons (pe_ix ix_list (pv 0) pe_int (fun _ _ => rfl)) pa_nil)) (nomark _))))) (pss_cons (ps_set (i := 2) scLawDraw.nd rfl (.inl rfl) (pe_callTy call_int1 rfl b_int (by decide +kernel) (pa_cons (pe_ix ix_list (pe_ix ix_list (pv 0) pe_int (fun _ _ => rfl)) (pe_ix ix_list (pv 0) pe_int (fun _ _ => rfl)) (fun _ _ => rfl)) pa_nil)))
        (pss_cons (ps_asg (pe_op op_add (pe_ix ix_list (pv 0) pe_int (fun _ _ => rfl)) pe_int) (pg_sub (pv 0) pe_int set_list))
        (pss_one (ps_if (pt_cmpR op_ge (pv 2) (pe_op op_powG pe_int pe_int) (nomark _)) (pss_one (ps_asg (pv 2) (pg_sub (pv 0) pe_int set_list))) (pss_one (ps_asg (pe_op op_mod (pe_callTy call_int1 rfl b_int (by decide +kernel) (pa_cons (pe_op op_add (pe_op op_add (pe_op op_mulG (pe_ix ix_list (pv 0) pe_int (fun _ _ => rfl)) pe_int) (pe_op op_mulG (pe_op op_mod (pe_callTy call_int1 rfl b_int (by decide +kernel) (pa_cons (pv 2) pa_nil)) pe_int) pe_int)) pe_int) pa_nil)) pe_int) (pg_sub (pv 0) pe_int set_list))))))) pss_nil)
      (pss_cons (ps_if (pt_cmpR op_gt (pe_ix ix_list (pv 0) pe_int (fun _ _ => rfl)) pe_int (nomark _)) (pss_cons (ps_set (i := 3) scLawDraw.nd rfl (.inl rfl) (pe_op op_mod (pe_callTy call_int1 rfl b_int (by decide +kernel) (pa_cons (pe_ix ix_list (pv 0) pe_int (fun _ _ => rfl)) pa_nil)) (pv 1)))
        (pss_cons (ps_asg (pe_op op_fdivW (pe_ix ix_list (pv 0) pe_int (fun _ _ => rfl)) (pv 1)) (pg_sub (pv 0) pe_int set_list))
        (pss_one (ps_ret (pv 3))))) pss_nil)
      (pss_cons (ps_asg (pe_op op_mod (pe_callTy call_int1 rfl b_int (by decide +kernel) (pa_cons (pe_op op_add (pe_op op_add (pe_op op_powG (pe_ix ix_list (pv 0) pe_int (fun _ _ => rfl)) pe_int) (pe_op op_mulG (pe_ix ix_list (pv 0) pe_int (fun _ _ => rfl)) pe_int)) pe_int) pa_nil)) pe_int) (pg_sub (pv 0) pe_int set_list))
      (pss_one (ps_ret (pe_op op_mod (pe_callTy call_int1 rfl b_int (by decide +kernel) (pa_cons (pe_op op_add (pe_op op_fdivW (pe_ix ix_list (pv 0) pe_int (fun _ _ => rfl)) pe_int) (pe_op op_mulG (pe_op op_mod (pe_callTy call_int1 rfl b_int (by decide +kernel) (pa_cons (pe_ix ix_list (pv 0) pe_int (fun _ _ => rfl)) pa_nil)) pe_int) pe_int)) pa_nil)) (pv 1)))))))), ?_⟩
    -- bag[4] = bag[4] + 1
    refine ⟨.ref b, rfl, b, _, 4, _, rfl, rfl, SqL.of B.ob, (atI_nat (j := 4) rfl), _, _, rfl, rfl, .ref b, rfl, b, _, 4, 4, rfl, rfl, B.ob, rfl, ?_⟩
    have B1 : BagIs K (upd H b (.lst [.ref c, .int i, .int g, .int x, .int (n + 1)])) b c ns i g x (n + 1) := B.put B.hi B.x0 B.x1
    have t1 : But b H (upd H b (.lst [.ref c, .int i, .int g, .int x, .int (n + 1)])) := But.upd
    refine ⟨fun σ' H' => ∃ (v2 v3 : Option V) (i' : Nat) (g' x' n' : Int), σ' = [some (.ref b), some (.int m), v2, v3] ∧ BagIs K H' b c ns i' g' x' n' ∧ But b H H', ?_, ?_⟩
    · -- the if
      refine ⟨.ref b, rfl, b, _, 2, _, rfl, rfl, SqL.of B1.ob, (atI_nat (j := 2) rfl), rfl, _, rfl, ?_⟩
      refine ite2 (fun _ => ?_) (fun _ => ?_)
      · refine ⟨.ref b, rfl, b, _, 1, _, rfl, rfl, SqL.of B1.ob, (atI_nat (j := 1) rfl), .ref b, rfl, b, _, 0, _, rfl, rfl, SqL.of B1.ob, (atI_nat (j := 0) rfl), _, _, rfl, .inl ⟨_, B1.sq, rfl⟩, _, _, rfl, rfl, _, rfl, ?_⟩
        refine ite2 (fun e => ?_) (fun _ => ?_)
        · have hlt : i < ns.length := by
            have e2 := of_decide_eq_true e
            rw [List.length_map] at e2
            omega
          have gi : (ns.map V.int)[i]? = some (.int ns[i]) := by
            rw [List.getElem?_map, List.getElem?_eq_getElem hlt]
            rfl
          refine ⟨.ref b, rfl, b, _, 0, _, rfl, rfl, SqL.of B1.ob, (atI_nat (j := 0) rfl), .ref b, rfl, b, _, 1, _, rfl, rfl, SqL.of B1.ob, (atI_nat (j := 1) rfl), c, _, i, _, rfl, rfl, B1.sq, atI_nat gi, .inl ⟨_, rfl, ?_⟩⟩
          refine ⟨.ref b, rfl, b, _, 1, _, rfl, rfl, SqL.of B1.ob, (atI_nat (j := 1) rfl), _, _, rfl, rfl, .ref b, rfl, b, _, 1, 1, rfl, rfl, B1.ob, rfl, ?_⟩
          have B2 : BagIs K (upd (upd H b (.lst [.ref c, .int i, .int g, .int x, .int (n + 1)])) b (.lst [.ref c, .int ((i : Int) + 1), .int g, .int x, .int (n + 1)])) b c ns (i + 1) g x (n + 1) := B1.put (i' := i + 1) hlt B.x0 B.x1
          have t2 : But b H (upd (upd H b (.lst [.ref c, .int i, .int g, .int x, .int (n + 1)])) b (.lst [.ref c, .int ((i : Int) + 1), .int g, .int x, .int (n + 1)])) := t1.trans But.upd
          refine ⟨_, rfl, _, _, rfl, rfl, ⟨by decide, by decide +kernel⟩, _, _, rfl, rfl, _, rfl, ?_⟩
          refine ite2 (fun _ => ?_) (fun _ => ?_)
          · refine ⟨_, rfl, .ref b, rfl, b, _, 2, 2, rfl, rfl, B2.ob, rfl, ?_⟩
            exact ⟨_, _, i + 1, ns[i], x, n + 1, rfl, B2.put B2.hi B.x0 B.x1, t2.trans But.upd⟩
          · refine ⟨.ref b, rfl, b, _, 3, _, rfl, rfl, SqL.of B2.ob, (atI_nat (j := 3) rfl), _, _, rfl, rfl, mul_right (by decide +kernel), _, rfl, .inl ⟨_, rfl, _, _, rfl, rfl, (by show (0 : Int) < _; decide), _, _, rfl, rfl, mul_right (by decide +kernel), _, _, rfl, rfl, _, _, rfl, rfl, .inl ⟨_, rfl, _, _, rfl, rfl, (by show (0 : Int) < _; decide), ?_⟩⟩⟩
            refine ⟨.ref b, rfl, b, _, 3, 3, rfl, rfl, B2.ob, rfl, ?_⟩
            exact ⟨_, _, i + 1, g, _, n + 1, rfl, B2.put B2.hi (mod_lo (by decide)) (Int.lt_trans (mod_hi (by decide)) (by decide)), t2.trans But.upd⟩
        · exact ⟨_, _, i, g, x, n + 1, rfl, B1, t1⟩
      · exact ⟨_, _, i, g, x, n + 1, rfl, B1, t1⟩
    · rintro σ' H' ⟨v2, v3, i', g', x', n', rfl, B', t'⟩
      refine ⟨.ref b, rfl, b, _, 2, _, rfl, rfl, SqL.of B'.ob, (atI_nat (j := 2) rfl), _, _, rfl, rfl, _, rfl, ?_⟩
      have d1 : CDivW g' m := wide_div m0 (b := 130) (by omega) (by decide) (by decide)
      refine ite2 (fun _ => ?_) (fun _ => ?_)
      · refine ⟨.ref b, rfl, b, _, 2, _, rfl, rfl, SqL.of B'.ob, (atI_nat (j := 2) rfl), .inl ⟨_, rfl, _, rfl, _, _, rfl, rfl, m0, ?_⟩⟩
        refine ⟨.ref b, rfl, b, _, 2, _, rfl, rfl, SqL.of B'.ob, (atI_nat (j := 2) rfl), _, rfl, _, _, rfl, rfl, d1, .ref b, rfl, b, _, 2, 2, rfl, rfl, B'.ob, rfl, ?_⟩
        exact ⟨_, rfl, q _ _ (mod_lo m0) (mod_hi m0) ⟨c, ns, i', g' / m, x', n', B'.put B'.hi B'.x0 B'.x1⟩ (t'.trans But.upd)⟩
      · have hx : CPowG x' 3 := ⟨by decide, by
          have hb : Builtin.Int.intBits x' ≤ 64 := intBits_le_64 (by have := B'.x0; omega) (by have := B'.x1; omega)
          omega⟩
        refine ⟨.ref b, rfl, b, _, 3, _, rfl, rfl, SqL.of B'.ob, (atI_nat (j := 3) rfl), _, _, rfl, rfl, hx, .ref b, rfl, b, _, 4, _, rfl, rfl, SqL.of B'.ob, (atI_nat (j := 4) rfl), _, _, rfl, rfl, mul_right (by decide +kernel), _, _, rfl, rfl, _, _, rfl, rfl, .inl ⟨_, rfl, _, _, rfl, rfl, (by show (0 : Int) < _; decide), ?_⟩⟩
        refine ⟨.ref b, rfl, b, _, 3, 3, rfl, rfl, B'.ob, rfl, ?_⟩
        have B3 : BagIs K (upd H' b (.lst [.ref c, .int i', .int g', .int ((x' ^ (3 : Int).toNat + n' * 1299709 + 70001) % 2147483579), .int n'])) b c ns i' g' ((x' ^ (3 : Int).toNat + n' * 1299709 + 70001) % 2147483579) n' := B'.put B'.hi (mod_lo (by decide)) (Int.lt_trans (mod_hi (by decide)) (by decide))
        refine ⟨.ref b, rfl, b, _, 3, _, rfl, rfl, SqL.of B3.ob, (atI_nat (j := 3) rfl), _, _, rfl, rfl, wide_div (b := 10) (by decide) (by decide) (by decide) (by decide), .ref b, rfl, b, _, 3, _, rfl, rfl, SqL.of B3.ob, (atI_nat (j := 3) rfl), .inl ⟨_, rfl, _, _, rfl, rfl, (by show (0 : Int) < _; decide), _, _, rfl, rfl, mul_right (by decide +kernel), _, _, rfl, rfl, .inl ⟨_, rfl, _, rfl, _, _, rfl, rfl, m0, ?_⟩⟩⟩
        exact q _ _ (mod_lo m0) (mod_hi m0) ⟨c, ns, i', g', _, n', B3⟩ (t'.trans But.upd)
end
end My

set_option Elab.async false
set_option linter.all false
set_option maxRecDepth 100000
namespace My
open PySem PySem.Spec PyProof.Rows L2
abbrev sLawOf : Stmt := topS 15
theorem scLawOf : FnScope ["bag", "things"] ["bag", "things"] (defScope sLawOf) := ⟨rfl, rfl, rfl, by decide +kernel, rfl, by decide +kernel, by decide +kernel⟩
abbrev sLawLike : Stmt := topS 16
theorem scLawLike : FnScope ["told", "due", "a", "b"] ["told", "due"] (defScope sLawLike) := ⟨rfl, rfl, rfl, by decide +kernel, rfl, by decide +kernel, by decide +kernel⟩
/-- things are a list of whole numbers -/
def spOf (K : PySem.W.Frag) : Sp := fun vs H Q _ => ∃ (b a : Addr) (xs : List V), vs = [.ref b, .ref a] ∧ BagAt K H b ∧ a ≠ b ∧ SqL K H a xs ∧ 0 < xs.length ∧ xs.length < 1000 ∧ ∀ v H', v ∈ xs → BagAt K H' b → But b H H' → Q v H'
/-! ### data that are alike -/
def flat0 : V → Prop
  | .non => True
  | .bl _ => True
  | .int _ => True
  | .str _ => True
  | _ => False
def Lk (K : PySem.W.Frag) (H : Hp) : Nat → V → V → Prop
  | 0, v, w => v = w ∧ flat0 v
  | n + 1, v, w => (v = w ∧ flat0 v) ∨ ∃ a b xs ys, v = .ref a ∧ w = .ref b ∧ ((SqL K H a xs ∧ SqL K H b ys) ∨ (SqT K H a xs ∧ SqT K H b ys)) ∧ xs.length = ys.length ∧ xs.length < 1000 ∧ ∀ (i : Nat) x y, xs[i]? = some x → ys[i]? = some y → Lk K H n x y
theorem seqT_same {K : PySem.W.Frag} {H H' : Hp} {p : Addr} {xs : List V} (h : Same H H') (s : SqT K H p xs) : SqT K H' p xs := by
  rcases s with (s | ⟨o, s⟩) | s
  · exact .inl (.inl (h _ _ s))
  · exact .inl (.inr ⟨o, h _ _ s⟩)
  · exact .inr s
theorem Lk.same {K : PySem.W.Frag} {H H' : Hp} (s : Same H H') : ∀ {n : Nat} {v w : V}, Lk K H n v w → Lk K H' n v w
  | 0, _, _, h => h
  | n + 1, _, _, h => by
    rcases h with h | ⟨a, b, xs, ys, e1, e2, hs, hl, hb, hi⟩
    · exact .inl h
    · refine .inr ⟨a, b, xs, ys, e1, e2, ?_, hl, hb, fun i x y p q => (hi i x y p q).same s⟩
      rcases hs with ⟨p, q⟩ | ⟨p, q⟩
      · exact .inl ⟨s.seq p, s.seq q⟩
      · exact .inr ⟨seqT_same s p, seqT_same s q⟩
theorem Lk.flat {K : PySem.W.Frag} {H : Hp} {n : Nat} {v w : V} (e : v = w) (f : flat0 v) : Lk K H n v w := by
  cases n with
  | zero => exact ⟨e, f⟩
  | succ n => exact .inl ⟨e, f⟩
def spLike (K : PySem.W.Frag) (n : Nat) : Sp := fun vs H Q _ => ∃ v w, vs = [v, w] ∧ Lk K H n v w ∧ ∀ H', Same H H' → Q (.bl true) H'
theorem ty_list {K : PySem.W.Frag} {H : Hp} {a : Addr} {xs : List V} (h : SqL K H a xs) : TyX K H (.ref a) (.type "list") := by
  rcases h with (h | ⟨o, h⟩) | ⟨o, its, n, h, c, _⟩
  · exact .base (.lst h)
  · exact .base (.frz h)
  · exact .kList h c
theorem ty_tup {K : PySem.W.Frag} {H : Hp} {a : Addr} {xs : List V} (h : SqT K H a xs) : TyX K H (.ref a) (.type "tuple") := by
  rcases h with (h | ⟨o, h⟩) | ⟨o, its, n, h, c, _⟩
  · exact .base (.tup h)
  · exact .fTuple h
  · exact .kTuple h c
/-- the type of a flat value -/
def tyN : V → String
  | .non => "NoneType"
  | .bl _ => "bool"
  | .int _ => "int"
  | .str _ => "str"
  | _ => ""
theorem ty_flat {K : PySem.W.Frag} {H : Hp} {v : V} (h : flat0 v) : TyX K H v (.type (tyN v)) := by
  cases v with
  | non => exact .base .non
  | bl b => exact .base (.bl b)
  | int i => exact .base (.int i)
  | str x => exact .base (.str x)
  | _ => exact h.elim
theorem cls2 {a b : String} : Paired ClsV [.ty a, .ty b] [.type a, .type b] := .cons (.ty a) (.cons (.ty b) .nil)
section
variable {P : Program} {w : World} {K : PySem.W.Frag} {mg : Str → Option Value} {base : Heap}
theorem kit_ll : PySem.W.kitAny K (.type "list") [.type "list", .type "tuple"] = some true := by rfl
theorem kit_tl : PySem.W.kitAny K (.type "tuple") [.type "list", .type "tuple"] = some true := by rfl
theorem kit_flat {v : V} (h : flat0 v) : PySem.W.kitAny K (.type (tyN v)) [.type "list", .type "tuple"] = some false := by
  cases v <;> first | rfl | exact h.elim
theorem k1_ll : PySem.W.kitOne K (.type "list") (.type "list") = some true := by rfl
theorem k1_lt : PySem.W.kitOne K (.type "list") (.type "tuple") = some false := by rfl
theorem k1_tl : PySem.W.kitOne K (.type "tuple") (.type "list") = some false := by rfl
theorem k1_tt : PySem.W.kitOne K (.type "tuple") (.type "tuple") = some true := by rfl
theorem k1_flat {v : V} (h : flat0 v) (c : String) (hc : c = "bool" ∨ c = "str" ∨ c = "int") : ∃ b, PySem.W.kitOne K (.type (tyN v)) (.type c) = some b := by
  cases v <;> first | exact h.elim | (rcases hc with rfl | rfl | rfl <;> exact ⟨_, rfl⟩)
theorem pe_ty {X : Cx} (T : String) {x : Str} {pos : Pos} (hg : Gl X x) (hm : X.mg x = none) (hv : bootBuiltins x = some (.type T)) (hn : x ≠ "__name__" := by decide) (hd : (x == ("__debug__" : Str)) = false := by decide) : PE X (.Name x pos) (tC (.ty T)) := pe_bltn hg hm hv rfl hn hd
theorem walk_zipT {a b : Addr} {xs ys : List V} {n : Nat} (hn : n = min xs.length ys.length) : Walk (RZ.ItzT K a b) n (fun H => SqT K H a xs ∧ SqT K H b ys) (YPair (fun i => xs[i]?) (fun i => ys[i]?)) := by
  subst hn
  refine ⟨fun i _ hi q => ?_, fun _ q => ⟨xs, ys, q.1, q.2, by omega⟩, fun i H v H' _ q y => ?_⟩
  · have h1 : i < xs.length := by omega
    have h2 : i < ys.length := by omega
    exact ⟨xs, ys, xs[i], ys[i], q.1, q.2, by simp [h1], by simp [h2]⟩
  · obtain ⟨T, x, z, h1, h2, h3, h4, h5⟩ := y
    exact ⟨T, x, z, h1, h2, h3, h4 xs q.1, h5 ys q.2⟩
theorem ok_of {f fD : Addr} {fd fdD : FuncData} {k : Nat} (F : Fun K "_law_of" "_law_of" sLawOf f fd) (D : Cal P w K mg base "_law_draw" (k + 1) ["bag", "size"] (spDraw K) fD fdD) (b_len : mg "len" = none) : FnOk P w K mg base CX0 (k + 2) f fd ["bag", "things"] (spOf K) := by
  refine F.ok scLawOf (fun vs H Q E h => ?_) (fun cdv A outer s H vs Q E hr h => ?_)
  · obtain ⟨b, a, xs, rfl, _⟩ := h
    rfl
  · obtain ⟨b, a, xs, rfl, B, n, hs, h0, h1, q⟩ := h
    refine ⟨_, (pss_one (ps_ret (pe_ix ix_list (pv 1) (pe_call D.ok hr rfl D.g D.kp D.b .nil pass0 (pa_cons (pv 0) (pa_cons (pe_callB call_len rfl b_len (by decide +kernel) (pa_cons (pv 1) pa_nil)) pa_nil))) (fun _ _ => rfl)))), ?_⟩
    refine ⟨_, rfl, _, rfl, _, rfl, _, _, rfl, .inl ⟨_, hs, rfl⟩, b, _, rfl, B, by omega, by omega, fun r H' r0 r1 B' t => ?_⟩
    obtain ⟨j, rfl⟩ : ∃ j : Nat, r = (j : Int) := ⟨r.toNat, by omega⟩
    have hj : j < xs.length := by omega
    exact ⟨a, _, _, xs[j], rfl, rfl, t.seq n hs, atI_nat (List.getElem?_eq_getElem hj), q _ H' (List.getElem_mem hj) B' t⟩
theorem all_true : ∀ n : Nat, (List.replicate n true).all id = true := fun n => by
  induction n with
  | zero => rfl
  | succ n ih => rw [List.replicate_succ, List.all_cons, ih]; rfl
theorem FnOk.never {f : Addr} {fd : FuncData} {k : Nat} {ps : List Str} : FnOk P w K mg base CX0 k f fd ps (fun _ _ _ _ => False) := ⟨fun _ _ _ _ h => h.elim, fun _ _ _ _ _ _ _ _ _ _ _ _ _ h => h.elim⟩
def spLikeM (K : PySem.W.Frag) (M : Hp → V → V → Prop) : Sp := fun vs H Q _ => ∃ v w, vs = [v, w] ∧ ((v = w ∧ flat0 v) ∨ ∃ a b xs ys, v = .ref a ∧ w = .ref b ∧ ((SqL K H a xs ∧ SqL K H b ys) ∨ (SqT K H a xs ∧ SqT K H b ys)) ∧ xs.length = ys.length ∧ xs.length < 1000 ∧ ∀ (i : Nat) x y, xs[i]? = some x → ys[i]? = some y → M H x y) ∧ ∀ H', Same H H' → Q (.bl true) H'
theorem like_step {f : Addr} {fd : FuncData} {k : Nat} {R : Sp} {M : Hp → V → V → Prop} (F : Fun K "_law_like" "_law_like" sLawLike f fd) (g : mg "_law_like" = some (.ref f)) (b : Binds K fd ["told", "due"] [])
    (b_isinstance : mg "isinstance" = none) (b_list : mg "list" = none) (b_tuple : mg "tuple" = none) (b_bool : mg "bool" = none) (b_str : mg "str" = none) (b_int : mg "int" = none) (b_len : mg "len" = none) (b_all : mg "all" = none) (b_zip : mg "zip" = none)
    (G : FnOk P w K mg base CX0 k f fd ["told", "due"] R) (hM : ∀ v w H Q E, M H v w → (∀ H', Same H H' → Q (.bl true) H') → R [v, w] H Q E) (hS : ∀ H H' v w, Same H H' → M H v w → M H' v w) : FnOk P w K mg base CX0 (k + 1) f fd ["told", "due"] (spLikeM K M) := by
  refine F.ok scLawLike (fun vs H Q E h => ?_) (fun cdv A outer s H vs Q E hr h => ?_)
  · obtain ⟨v, w', rfl, _⟩ := h
    rfl
  · obtain ⟨v, w', rfl, L, q⟩ := h
    refine ⟨_, (pss_cons (ps_if (pt_val (pe_callB call_isiT rfl b_isinstance (by decide +kernel) (pa_cons (pv 1) (pa_cons (pe_tup (pa_cons (pe_ty "list" rfl b_list (by decide +kernel)) (pa_cons (pe_ty "tuple" rfl b_tuple (by decide +kernel)) pa_nil))) pa_nil)))) (pss_cons (ps_if (PW.pt (pw_or (pt_cmpR op_ne (pe_callB call_isi rfl b_isinstance (by decide +kernel) (pa_cons (pv 0) (pa_cons (pe_ty "list" rfl b_list (by decide +kernel)) pa_nil))) (pe_callB call_isi rfl b_isinstance (by decide +kernel) (pa_cons (pv 1) (pa_cons (pe_ty "list" rfl b_list (by decide +kernel)) pa_nil))) (nomark _)) (pw_or1 (pt_cmpR op_ne (pe_callB call_isi rfl b_isinstance (by decide +kernel) (pa_cons (pv 0) (pa_cons (pe_ty "tuple" rfl b_tuple (by decide +kernel)) pa_nil))) (pe_callB call_isi rfl b_isinstance (by decide +kernel) (pa_cons (pv 1) (pa_cons (pe_ty "tuple" rfl b_tuple (by decide +kernel)) pa_nil))) (nomark _))))) (pss_one (ps_ret pe_bl)) pss_nil)
      (pss_one (ps_ret (pe_and (pe_cmpR op_eq (pe_callB call_len rfl b_len (by decide +kernel) (pa_cons (pv 0) pa_nil)) (pe_callB call_len rfl b_len (by decide +kernel) (pa_cons (pv 1) pa_nil)) (nomark _)) (pe_one (pe_callB (cr_all rfl) rfl b_all (by decide +kernel) (pa_cons (pe_lc (own := [("a", 2), ("b", 3)]) (g := gTup K 2 (gCons (gName 2) (gCons (gName 3) gNil))) (tt := tYes) rfl scLawLike.nd (RZ.pi_zipA rfl b_zip (pa_cons (pv 0) (pa_cons (pv 1) pa_nil))) (blkOk_by (own := [("a", 2), ("b", 3)]) (N := ["told", "due", "a", "b"]) (sc := defScope sLawLike) (by decide +kernel)) (fun _ _ _ _ _ => (pg_tup rfl (pgs_cons (pg_name (i := 2) scLawLike.nd rfl (.inl rfl) (.inr rfl)) (pgs_cons (pg_name (i := 3) scLawLike.nd rfl (.inl rfl) (.inr rfl)) pgs_nil)))) (fun _ _ _ _ _ => pts_nil) (fun _ _ _ _ _ => (pe_call G hr rfl g F.kp b .nil pass0 (pa_cons (pv 2) (pa_cons (pv 3) pa_nil))))) pa_nil))))))) pss_nil)
    (pss_cons (ps_if (PW.pt (pw_or (pt_cmpR op_isN (pv 1) pe_non (nomark _)) (pw_or1 (pt_cmpR op_isN (pv 0) pe_non (nomark _))))) (pss_one (ps_ret (pe_and (pe_cmpR op_isN (pv 1) pe_non (nomark _)) (pe_one (pe_cmpR op_isN (pv 0) pe_non (nomark _)))))) pss_nil)
    (pss_cons (ps_if (PW.pt (pw_or (pt_val (pe_callB call_isiT rfl b_isinstance (by decide +kernel) (pa_cons (pv 0) (pa_cons (pe_tup (pa_cons (pe_ty "list" rfl b_list (by decide +kernel)) (pa_cons (pe_ty "tuple" rfl b_tuple (by decide +kernel)) pa_nil))) pa_nil)))) (pw_or1 (pt_cmpR op_ne (pe_callB call_isi rfl b_isinstance (by decide +kernel) (pa_cons (pv 0) (pa_cons (pe_ty "bool" rfl b_bool (by decide +kernel)) pa_nil))) (pe_callB call_isi rfl b_isinstance (by decide +kernel) (pa_cons (pv 1) (pa_cons (pe_ty "bool" rfl b_bool (by decide +kernel)) pa_nil))) (nomark _))))) (pss_one (ps_ret pe_bl)) pss_nil)
    (pss_cons (ps_if (PW.pt (pw_or (pt_cmpR op_ne (pe_callB call_isi rfl b_isinstance (by decide +kernel) (pa_cons (pv 0) (pa_cons (pe_ty "str" rfl b_str (by decide +kernel)) pa_nil))) (pe_callB call_isi rfl b_isinstance (by decide +kernel) (pa_cons (pv 1) (pa_cons (pe_ty "str" rfl b_str (by decide +kernel)) pa_nil))) (nomark _)) (pw_or1 (pt_cmpR op_ne (pe_callB call_isi rfl b_isinstance (by decide +kernel) (pa_cons (pv 0) (pa_cons (pe_ty "int" rfl b_int (by decide +kernel)) pa_nil))) (pe_callB call_isi rfl b_isinstance (by decide +kernel) (pa_cons (pv 1) (pa_cons (pe_ty "int" rfl b_int (by decide +kernel)) pa_nil))) (nomark _))))) (pss_one (ps_ret pe_bl)) pss_nil)
    (pss_one (ps_ret (pe_cmpR op_eq (pv 0) (pv 1) (nomark _)))))))), ?_⟩
    rcases L with ⟨rfl, fl⟩ | ⟨a, c, xs, ys, rfl, rfl, hs, hl, hb, hi⟩
    · have hf : flat0 v := fl
      refine ⟨_, rfl, (by show 2 ≤ sizeLine; decide), fun p np => ⟨_, p, _, _, _, _, rfl, upd_same, cls2, ty_flat hf, kit_flat hf, _, rfl, iteF ?_⟩⟩
      have s1 : Same H (upd H p (.tup [.ty "list", .ty "tuple"])) := same_upd np
      refine ⟨v, rfl, rfl, _, rfl, ite2 (fun e => iteT ?_) (fun e => ⟨v, rfl, rfl, _, rfl, ite2 (fun e' => absurd e' e) (fun _ => ?_)⟩)⟩
      · refine ⟨v, rfl, rfl, _, rfl, ?_⟩
        rw [e]
        refine iteT ⟨v, rfl, rfl, ?_⟩
        rw [e]
        exact q _ s1
      · refine ⟨_, rfl, (by show 2 ≤ sizeLine; decide), fun p2 np2 => ⟨_, p2, _, _, _, _, rfl, upd_same, cls2, ty_flat hf, kit_flat hf, _, rfl, iteF ?_⟩⟩
        have s2 : Same H (upd (upd H p (.tup [.ty "list", .ty "tuple"])) p2 (.tup [.ty "list", .ty "tuple"])) := s1.trans (same_upd np2)
        obtain ⟨k1, e1⟩ := k1_flat (K := K) hf "bool" (.inl rfl)
        obtain ⟨k2, e2⟩ := k1_flat (K := K) hf "str" (.inr (.inl rfl))
        obtain ⟨k3, e3⟩ := k1_flat (K := K) hf "int" (.inr (.inr rfl))
        refine ⟨_, rfl, _, _, _, _, _, rfl, .ty _, ty_flat hf, e1, _, rfl, _, _, _, _, _, rfl, .ty _, ty_flat hf, e1, rfl, _, rfl, ?_⟩
        rw [decide_eq_true rfl]
        refine iteF ⟨_, rfl, _, _, _, _, _, rfl, .ty _, ty_flat hf, e2, _, rfl, _, _, _, _, _, rfl, .ty _, ty_flat hf, e2, rfl, _, rfl, ?_⟩
        rw [decide_eq_true rfl]
        refine iteF ⟨_, rfl, _, _, _, _, _, rfl, .ty _, ty_flat hf, e3, _, rfl, _, _, _, _, _, rfl, .ty _, ty_flat hf, e3, rfl, _, rfl, ?_⟩
        rw [decide_eq_true rfl]
        refine iteF ⟨_, rfl, _, rfl, ?_, ?_⟩
        · cases v <;> first | rfl | exact hf.elim
        · rw [decide_eq_true rfl]
          exact q _ s2
    · -- lists or tuples
      have hr1 : ∀ (i : Nat) x y, xs[i]? = some x → ys[i]? = some y → M H x y := hi
      obtain ⟨T, kt, k1, k2, tya, tyc, hlen, hlen'⟩ : ∃ T, PySem.W.kitAny K (.type T) [.type "list", .type "tuple"] = some true ∧ (∃ k1, PySem.W.kitOne K (.type T) (.type "list") = some k1) ∧ (∃ k2, PySem.W.kitOne K (.type T) (.type "tuple") = some k2) ∧ (∀ H', Same H H' → TyX K H' (.ref a) (.type T)) ∧ (∀ H', Same H H' → TyX K H' (.ref c) (.type T)) ∧ (∀ H', Same H H' → LenV K (.ref a) H' xs.length) ∧ (∀ H', Same H H' → LenV K (.ref c) H' ys.length) := by
        rcases hs with ⟨p, q⟩ | ⟨p, q⟩
        · exact ⟨"list", kit_ll, ⟨_, k1_ll⟩, ⟨_, k1_lt⟩, fun _ s => ty_list (s.seq p), fun _ s => ty_list (s.seq q), fun _ s => .inl ⟨_, s.seq p, rfl⟩, fun _ s => .inl ⟨_, s.seq q, rfl⟩⟩
        · exact ⟨"tuple", kit_tl, ⟨_, k1_tl⟩, ⟨_, k1_tt⟩, fun _ s => ty_tup (seqT_same s p), fun _ s => ty_tup (seqT_same s q), fun _ s => .inr ⟨_, seqT_same s p, rfl⟩, fun _ s => .inr ⟨_, seqT_same s q, rfl⟩⟩
      obtain ⟨k1, e1⟩ := k1
      obtain ⟨k2, e2⟩ := k2
      refine ⟨_, rfl, (by show 2 ≤ sizeLine; decide), fun p0 np => ⟨_, p0, _, _, _, _, rfl, upd_same, cls2, tyc _ (same_upd np), kt, _, rfl, iteT ?_⟩⟩
      have s1 : Same H (upd H p0 (.tup [.ty "list", .ty "tuple"])) := same_upd np
      refine ⟨_, rfl, _, _, _, _, _, rfl, .ty _, tya _ s1, e1, _, rfl, _, _, _, _, _, rfl, .ty _, tyc _ s1, e1, rfl, _, rfl, ?_⟩
      rw [decide_eq_true rfl]
      refine iteF ⟨_, rfl, _, _, _, _, _, rfl, .ty _, tya _ s1, e2, _, rfl, _, _, _, _, _, rfl, .ty _, tyc _ s1, e2, rfl, _, rfl, ?_⟩
      rw [decide_eq_true rfl]
      refine iteF ⟨_, rfl, _, _, rfl, hlen _ s1, _, rfl, _, _, rfl, hlen' _ s1, rfl, _, rfl, ?_⟩
      rw [hl, decide_eq_true rfl]
      refine iteT ⟨_, rfl, _, rfl, a, c, xs, ys, rfl, ?_⟩
      rcases hs with ⟨p, q'⟩ | ⟨p, q'⟩
      ·
        refine .inl ⟨Same.seq s1 p, Same.seq s1 q', fun D nD => lc_it (walk_zip (K := K) (a := a) (b := c) (by omega : xs.length = min xs.length ys.length)) (fun i H2 => Same (upd H p0 (.tup [.ty "list", .ty "tuple"])) H2 ∧ H2 D = some (.lst ((List.replicate i true).map V.bl))) ⟨same_upd nD, upd_same⟩ (fun i H2 _ h => ⟨Same.seq (s1.trans h.1) p, Same.seq (s1.trans h.1) q'⟩) ?_ ?_⟩
        · rintro i z H2 H3 hlt ⟨s2, hD⟩ ⟨T, x, y, rfl, nT, rfl, hx, hy⟩
          have nTD : D ≠ T := ne_of_none hD nT
          refine ⟨T, [x, y], rfl, SqT.of upd_same, rfl, x, [y], rfl, y, [], rfl, rfl, rfl, ?_⟩
          unfold tYes
          refine iteT ?_
          refine ⟨x, rfl, y, rfl, hM x y _ _ _ (hS _ _ _ _ ((s1.trans s2).trans (same_upd nT)) (hr1 i x y hx hy)) fun H4 s4 => ?_⟩
          have hD4 : H4 D = some (.lst ((List.replicate i true).map V.bl)) := s4 _ _ (by rw [upd_ne nTD]; exact hD)
          refine ⟨_, hD4, ?_, ?_, ?_⟩
          · rw [List.length_map, List.length_replicate]
            exact small1000 (by omega)
          · intro p' o' h'
            have nq : p' ≠ D := ne_of_none h' nD
            rw [upd_ne nq]
            exact s4 _ _ (same_upd nT _ _ (s2 _ _ h'))
          · rw [upd_same, List.replicate_succ', List.map_append]
            rfl
        · rintro H2 ⟨s2, hD⟩
          refine ⟨D, _, rfl, SqL.of hD, ?_⟩
          rw [all_true]
          exact q _ (s1.trans s2)
      ·
        refine .inr ⟨seqT_same s1 p, seqT_same s1 q', fun D nD => lc_it (walk_zipT (K := K) (a := a) (b := c) (by omega : xs.length = min xs.length ys.length)) (fun i H2 => Same (upd H p0 (.tup [.ty "list", .ty "tuple"])) H2 ∧ H2 D = some (.lst ((List.replicate i true).map V.bl))) ⟨same_upd nD, upd_same⟩ (fun i H2 _ h => ⟨seqT_same (s1.trans h.1) p, seqT_same (s1.trans h.1) q'⟩) ?_ ?_⟩
        · rintro i z H2 H3 hlt ⟨s2, hD⟩ ⟨T, x, y, rfl, nT, rfl, hx, hy⟩
          have nTD : D ≠ T := ne_of_none hD nT
          refine ⟨T, [x, y], rfl, SqT.of upd_same, rfl, x, [y], rfl, y, [], rfl, rfl, rfl, ?_⟩
          unfold tYes
          refine iteT ?_
          refine ⟨x, rfl, y, rfl, hM x y _ _ _ (hS _ _ _ _ ((s1.trans s2).trans (same_upd nT)) (hr1 i x y hx hy)) fun H4 s4 => ?_⟩
          have hD4 : H4 D = some (.lst ((List.replicate i true).map V.bl)) := s4 _ _ (by rw [upd_ne nTD]; exact hD)
          refine ⟨_, hD4, ?_, ?_, ?_⟩
          · rw [List.length_map, List.length_replicate]
            exact small1000 (by omega)
          · intro p' o' h'
            have nq : p' ≠ D := ne_of_none h' nD
            rw [upd_ne nq]
            exact s4 _ _ (same_upd nT _ _ (s2 _ _ h'))
          · rw [upd_same, List.replicate_succ', List.map_append]
            rfl
        · rintro H2 ⟨s2, hD⟩
          refine ⟨D, _, rfl, SqL.of hD, ?_⟩
          rw [all_true]
          exact q _ (s1.trans s2)

theorem ok_like {f : Addr} {fd : FuncData} (F : Fun K "_law_like" "_law_like" sLawLike f fd) (g : mg "_law_like" = some (.ref f)) (b : Binds K fd ["told", "due"] [])
    (b_isinstance : mg "isinstance" = none) (b_list : mg "list" = none) (b_tuple : mg "tuple" = none) (b_bool : mg "bool" = none) (b_str : mg "str" = none) (b_int : mg "int" = none) (b_len : mg "len" = none) (b_all : mg "all" = none) (b_zip : mg "zip" = none) :
    ∀ n : Nat, FnOk P w K mg base CX0 (n + 1) f fd ["told", "due"] (spLike K n) := by
  intro n
  induction n with
  | zero =>
    exact (like_step (M := fun _ _ _ => False) (R := fun _ _ _ _ => False) F g b b_isinstance b_list b_tuple b_bool b_str b_int b_len b_all b_zip FnOk.never (fun _ _ _ _ _ h _ => h) (fun _ _ _ _ _ h => h)).imp
      fun vs H Q E ⟨v, w', e, L, q⟩ => ⟨v, w', e, .inl L, q⟩
  | succ n ih =>
    exact (like_step (M := fun H v w => Lk K H n v w) F g b b_isinstance b_list b_tuple b_bool b_str b_int b_len b_all b_zip ih (fun v w H Q E h q => ⟨v, w, rfl, h, q⟩) (fun _ _ _ _ s h => h.same s)).imp
      fun vs H Q E ⟨v, w', e, L, q⟩ => ⟨v, w', e, L, q⟩
end
end My

set_option Elab.async false
namespace My
/-- x / y is t / b in lowest terms; 0 / 1 where b is 0 -/
structure WR (t b x y : Int) : Prop where
  pos : 1 ≤ y
  low : Nat.gcd x.natAbs y.natAbs = 1
  eq : b ≠ 0 → x * b = t * y
  z : b = 0 → x = 0 ∧ y = 1
  lx : x.natAbs ≤ t.natAbs
  ly : y.natAbs ≤ b.natAbs + 1
theorem low_uniq {x y x' y' : Int} (p : 1 ≤ y) (p' : 1 ≤ y') (l : Nat.gcd x.natAbs y.natAbs = 1) (l' : Nat.gcd x'.natAbs y'.natAbs = 1) (h : x * y' = x' * y) : x = x' ∧ y = y' := by
  have h1 : x.natAbs * y'.natAbs = x'.natAbs * y.natAbs := by rw [← Int.natAbs_mul, ← Int.natAbs_mul, h]
  have d1 : y.natAbs ∣ y'.natAbs := by
    have : y.natAbs ∣ x.natAbs * y'.natAbs := by rw [h1]; exact Nat.dvd_mul_left _ _
    exact Nat.Coprime.dvd_of_dvd_mul_left (Nat.Coprime.symm l) this
  have d2 : y'.natAbs ∣ y.natAbs := by
    have : y'.natAbs ∣ x'.natAbs * y.natAbs := by rw [← h1]; exact Nat.dvd_mul_left _ _
    exact Nat.Coprime.dvd_of_dvd_mul_left (Nat.Coprime.symm l') this
  have e : y.natAbs = y'.natAbs := Nat.dvd_antisymm d1 d2
  have e2 : y = y' := by omega
  subst e2
  exact ⟨Int.eq_of_mul_eq_mul_right (by omega) h, rfl⟩
theorem WR.uniq {t b t' b' x y x' y' : Int} (W : WR t b x y) (W' : WR t' b' x' y') (hb : b ≠ 0) (hb' : b' ≠ 0) (h : t * b' = t' * b) : x = x' ∧ y = y' := by
  refine low_uniq W.pos W'.pos W.low W'.low ?_
  have e1 := W.eq hb
  have e2 := W'.eq hb'
  have : (x * y') * (b * b') = (x' * y) * (b * b') := by
    have a1 : (x * y') * (b * b') = (x * b) * (y' * b') := by grind
    have a2 : (x' * y) * (b * b') = (x' * b') * (y * b) := by grind
    rw [a1, a2, e1, e2]
    grind
  exact Int.eq_of_mul_eq_mul_right (Int.mul_ne_zero hb hb') this
/-- a pair in lowest terms is its own worth -/
theorem WR.self {x y : Int} (p : 1 ≤ y) (l : Nat.gcd x.natAbs y.natAbs = 1) : WR x y x y := ⟨p, l, fun _ => rfl, fun h => by omega, Nat.le_refl _, Nat.le_succ _⟩
theorem wr_zero {t : Int} : WR t 0 0 1 := ⟨by decide, by decide, fun h => absurd rfl h, fun _ => ⟨rfl, rfl⟩, Nat.zero_le _, by decide⟩
theorem wr_make {t b g : Int} (hb : b ≠ 0) (hg : g = ((Nat.gcd t.natAbs b.natAbs : Nat) : Int)) : 0 < g ∧ g.natAbs ≤ b.natAbs ∧ (b < 0 → WR t b (t.fdiv (-g)) (b.fdiv (-g))) ∧ (¬ b < 0 → WR t b (t.fdiv g) (b.fdiv g)) := by
  have hbn : 0 < b.natAbs := by omega
  have hgn : 0 < Nat.gcd t.natAbs b.natAbs := Nat.gcd_pos_of_pos_right _ hbn
  have hg0 : 0 < g := by omega
  have hgl : Nat.gcd t.natAbs b.natAbs ≤ b.natAbs := Nat.le_of_dvd hbn (Nat.gcd_dvd_right _ _)
  have dt : g ∣ t := by rw [hg]; exact Int.ofNat_dvd_left.mpr (Nat.gcd_dvd_left _ _)
  have db : g ∣ b := by rw [hg]; exact Int.ofNat_dvd_left.mpr (Nat.gcd_dvd_right _ _)
  obtain ⟨t', ht⟩ := dt
  obtain ⟨b', hb'⟩ := db
  have hgn2 : g.natAbs = Nat.gcd t.natAbs b.natAbs := by omega
  have co : Nat.gcd t'.natAbs b'.natAbs = 1 := by
    have e : Nat.gcd t.natAbs b.natAbs = g.natAbs * Nat.gcd t'.natAbs b'.natAbs := by
      rw [ht, hb', Int.natAbs_mul, Int.natAbs_mul, Nat.gcd_mul_left]
    rw [hgn2] at e
    exact Nat.eq_of_mul_eq_mul_left hgn (by omega)
  have lt : t'.natAbs ≤ t.natAbs := by rw [ht, Int.natAbs_mul]; exact Nat.le_mul_of_pos_left _ (by omega)
  have lb : b'.natAbs ≤ b.natAbs := by rw [hb', Int.natAbs_mul]; exact Nat.le_mul_of_pos_left _ (by omega)
  have hb0 : b' ≠ 0 := by rintro rfl; rw [Int.mul_zero] at hb'; exact hb hb'
  refine ⟨hg0, by omega, fun hn => ?_, fun hn => ?_⟩
  · have e1 : t.fdiv (-g) = -t' := by
      rw [ht, show g * t' = (-g) * (-t') by grind]
      exact Int.mul_fdiv_cancel_left _ (by omega)
    have e2 : b.fdiv (-g) = -b' := by
      rw [hb', show g * b' = (-g) * (-b') by grind]
      exact Int.mul_fdiv_cancel_left _ (by omega)
    have hb1 : b' < 0 := by
      rcases Int.lt_trichotomy b' 0 with h | h | h
      · exact h
      · exact absurd h hb0
      · have := Int.mul_pos hg0 h
        omega
    rw [e1, e2]
    exact ⟨by omega, by rw [Int.natAbs_neg, Int.natAbs_neg]; exact co, fun _ => by rw [hb', ht]; grind, fun h => absurd h hb, by rw [Int.natAbs_neg]; exact lt, by rw [Int.natAbs_neg]; omega⟩
  · have e1 : t.fdiv g = t' := by
      rw [ht]
      exact Int.mul_fdiv_cancel_left _ (by omega)
    have e2 : b.fdiv g = b' := by
      rw [hb']
      exact Int.mul_fdiv_cancel_left _ (by omega)
    have hb1 : 0 < b' := by
      rcases Int.lt_trichotomy b' 0 with h | h | h
      · have := Int.mul_neg_of_pos_of_neg hg0 h
        omega
      · exact absurd h hb0
      · exact h
    rw [e1, e2]
    exact ⟨by omega, co, fun _ => by rw [hb', ht]; grind, fun h => absurd h hb, lt, by omega⟩
/-- a sum less one part, a difference and one part -/
theorem wr_back {x0 x1 y0 y1 p0 p1 m0 m1 : Int} (hx : 1 ≤ x1) (hy : 1 ≤ y1) (lx : Nat.gcd x0.natAbs x1.natAbs = 1) (P : WR (x0 * y1 + y0 * x1) (x1 * y1) p0 p1) (M : WR (p0 * y1 - y0 * p1) (p1 * y1) m0 m1) : m0 = x0 ∧ m1 = x1 := by
  have hxy : x1 * y1 ≠ 0 := Int.mul_ne_zero (by omega) (by omega)
  have hp := P.pos
  have e := P.eq hxy
  refine M.uniq (WR.self hx lx) (Int.mul_ne_zero (by omega) (by omega)) (by omega) ?_
  have : ((p0 * y1 - y0 * p1) * x1) * y1 = (x0 * (p1 * y1)) * y1 := by grind
  exact Int.eq_of_mul_eq_mul_right (by omega) this
theorem wr_back' {x0 x1 y0 y1 p0 p1 m0 m1 : Int} (hx : 1 ≤ x1) (hy : 1 ≤ y1) (lx : Nat.gcd x0.natAbs x1.natAbs = 1) (P : WR (x0 * y1 - y0 * x1) (x1 * y1) p0 p1) (M : WR (p0 * y1 + y0 * p1) (p1 * y1) m0 m1) : m0 = x0 ∧ m1 = x1 := by
  have hxy : x1 * y1 ≠ 0 := Int.mul_ne_zero (by omega) (by omega)
  have hp := P.pos
  have e := P.eq hxy
  refine M.uniq (WR.self hx lx) (Int.mul_ne_zero (by omega) (by omega)) (by omega) ?_
  have : ((p0 * y1 + y0 * p1) * x1) * y1 = (x0 * (p1 * y1)) * y1 := by grind
  exact Int.eq_of_mul_eq_mul_right (by omega) this
theorem wr_back2 {x0 x1 y0 y1 p0 p1 m0 m1 : Int} (hx : 1 ≤ x1) (hy : 1 ≤ y1) (h0 : y0 ≠ 0) (lx : Nat.gcd x0.natAbs x1.natAbs = 1) (P : WR (x0 * y0) (x1 * y1) p0 p1) (M : WR (p0 * y1) (p1 * y0) m0 m1) : m0 = x0 ∧ m1 = x1 := by
  have hxy : x1 * y1 ≠ 0 := Int.mul_ne_zero (by omega) (by omega)
  have hp := P.pos
  have e := P.eq hxy
  refine M.uniq (WR.self hx lx) (Int.mul_ne_zero (by omega) h0) (by omega) ?_
  grind
theorem wr_back2' {x0 x1 y0 y1 p0 p1 m0 m1 : Int} (hx : 1 ≤ x1) (hy : 1 ≤ y1) (h0 : y0 ≠ 0) (lx : Nat.gcd x0.natAbs x1.natAbs = 1) (P : WR (x0 * y1) (x1 * y0) p0 p1) (M : WR (p0 * y0) (p1 * y1) m0 m1) : m0 = x0 ∧ m1 = x1 := by
  have hxy : x1 * y0 ≠ 0 := Int.mul_ne_zero (by omega) h0
  have hp := P.pos
  have e := P.eq hxy
  refine M.uniq (WR.self hx lx) (Int.mul_ne_zero (by omega) (by omega)) (by omega) ?_
  grind
end My

set_option Elab.async false
set_option linter.all false
set_option maxRecDepth 100000
namespace My
open PySem PySem.Spec PyProof.Rows L2
/-! ### a call by keywords alone -/
section
variable {X : Cx} {CX : CXT} {k : Nat} {f : Addr} {fd : FuncData} {ps ks : List Str} {sp : Sp} {E : XK} {x : Str} {p pos : Pos} {kws : List Keyword} {tk : TA} {g : List Value → List Value → List Value} {gV : List V → List V → List V}
theorem pe_callN0 (F : FnOk X.prog X.w X.K X.mg X.base CX k f fd ps sp) (hr : Room k X.A) (hg : Gl X x) (hm : X.mg x = some (.ref f)) (hk : PySem.W.keepIn X.K (.ref f) = true) (hb : KBn X.K fd ps 0 ks g gV) (hx : Passes CX X E)
    (hkw : PK X kws tk) (hall : (backToKw pos (keywordEach kws X.env)).all (·.1.isSome) = true := by rfl) (hks : (backToKw pos (keywordEach kws X.env)).filterMap (·.1) = ks := by rfl)
    (hdb : (x == ("__debug__" : Str)) = false := by decide)
    (hpl : ((backTo pos (starEach [] X.env)).any (·.1) || (backToKw pos (keywordEach kws X.env)).any (·.1.isNone)) = false := by rfl) :
    PE X (.Call (.Name x p) [] kws pos) (tCallN 0 ks.length sp gV E tNil tk) := by
  refine ⟨fun pins s σ H Q I h => ?_⟩
  refine wpAny_Call_Name_kw (ld_glob I hg hm ?_ hdb)
  refine PySem.W.callWith_KW0 (h₀ := X.base) I.ok.mod.kin hk hall ?_ hpl
  refine thn (hkw.run pos pins s σ H _ I h) fun ws s2 ⟨zs, H2, I2, rz, l1, l2, q2⟩ => ⟨I2.kIn, ?_⟩
  rw [hks]
  exact run_fnN F hr hb hx I2 .nil rz l1 l2 q2
end
abbrev sWorth : Stmt := topS 4
theorem scWorth : FnScope ["top", "bottom", "common"] ["top", "bottom"] (defScope sWorth) := ⟨rfl, rfl, rfl, by decide +kernel, rfl, by decide +kernel, by decide +kernel⟩
abbrev FunW (K : PySem.W.Frag) (f : Addr) (fd : FuncData) : Prop := FunD K "worth" "worth" (defArgs sWorth) (defBody sWorth) (defScope sWorth) [.int 1] [] f fd
/-- both by place -/
theorem bind2 {K : PySem.W.Frag} {f : Addr} {fd : FuncData} (F : FunW K f fd) : Binds K fd ["top", "bottom"] [] := by
  obtain ⟨ds, r, b⟩ := FunD.binds1 (ps := ["top", "bottom"]) F 2 1 (by simp) rfl (fun T kV doc pm an cdv ct us its h1 h2 => by
    match us, h1, its, h2 with
    | [a, c], _, [d], _ => exact ⟨_, rfl, rfl⟩)
  cases r
  exact b
theorem bind1 {K : PySem.W.Frag} {f : Addr} {fd : FuncData} (F : FunW K f fd) : ∃ ds, Vals [.int 1] ds ∧ Binds K fd ["top", "bottom"] ds :=
  FunD.binds1 (ps := ["top", "bottom"]) F 1 0 (by simp) rfl (fun T kV doc pm an cdv ct us its h1 h2 => by
    match us, h1, its, h2 with
    | [a], _, [d], _ => exact ⟨_, rfl, rfl⟩)
def swp {α : Type} (d : α) (ws : List α) : List α := [ws.getD 1 d, ws.getD 0 d]
theorem bindK {K : PySem.W.Frag} {f : Addr} {fd : FuncData} (F : FunW K f fd) : KBn K fd ["top", "bottom"] 0 ["bottom", "top"] (fun _ ws => ws.reverse) (fun _ zs => zs.reverse) := by
  obtain ⟨oc, od, dV, kV, doc, pm, an, cdv, ct, osl, rfl, lk, hcd, hD, hK⟩ := F.ex
  rcases hD with ⟨e, _⟩ | ⟨_, T, o, its, m, rfl, lT, oT, rT⟩
  · cases e
  · refine ⟨fun s us ws X l1 l2 => ?_, fun r1 r2 => ?_⟩
    · match us, l1, ws, l2, its, rT.length with
      | [], _, [w0, w1], _, [d], _ => exact BindsTo.of_looks fun M => looks_items X lT oT (.of_pure rfl)
    · have : ∀ {xs : List V} {us : List Value}, Vals xs us → Vals xs.reverse us.reverse := by
        intro xs us r
        induction r with
        | nil => exact .nil
        | cons h t ih =>
          rw [List.reverse_cons, List.reverse_cons]
          exact ih.append (.cons h .nil)
      exact this r2
def IsW (K : PySem.W.Frag) (H : Hp) (v : V) (x y : Int) : Prop := ∃ a, v = .ref a ∧ SqT K H a [.int x, .int y]
theorem IsW.same {K : PySem.W.Frag} {H H' : Hp} {v : V} {x y : Int} (s : Same H H') (h : IsW K H v x y) : IsW K H' v x y := let ⟨a, e, h⟩ := h; ⟨a, e, seqT_same s h⟩
def spWorth (K : PySem.W.Frag) : Sp := fun vs H Q _ => ∃ t b : Int, vs = [.int t, .int b] ∧ b.natAbs < 2 ^ 8000 ∧ ∀ v x y H', WR t b x y → IsW K H' v x y → Same H H' → Q v H'
section
variable {P : Program} {w : World} {K : PySem.W.Frag} {mg : Str → Option Value} {base : Heap}
theorem log_of {n : Nat} (h : n < 2 ^ 8000) : n.log2 < 9000 := Nat.lt_of_lt_of_le (PySem.Flt.log2_lt_of (by decide) h) (by decide)
theorem ok_worth {f aZ : Addr} {fd : FuncData} {k : Nat} (F : FunW K f fd) (b_gcd : mg "gcd" = some (.builtin "math.gcd")) (g_ZERO : mg "ZERO" = some (.ref aZ)) (hZ : ∀ H, SqT K H aZ [.int 0, .int 1]) : FnOk P w K mg base CX0 (k + 1) f fd ["top", "bottom"] (spWorth K) := by
  refine F.ok scWorth (fun vs H Q E h => ?_) (fun cdv A outer s H vs Q E hr h => ?_)
  · obtain ⟨t, b, rfl, _⟩ := h
    rfl
  · obtain ⟨t, b, rfl, hb9, q⟩ := h
    refine ⟨_, (pss_cons (ps_if (pt_cmpR op_eq (pv 1) pe_int (nomark _)) (pss_one (ps_ret (pe_glob (v := .ref aZ) rfl g_ZERO rfl))) pss_nil)
      (pss_cons (ps_set (i := 2) scWorth.nd rfl (.inl rfl) (pe_callBfun cr_gcd rfl b_gcd (pa_cons (pv 0) (pa_cons (pv 1) pa_nil))))
      (C8.pss_cut (ps_if (pt_cmpR op_lt (pv 1) pe_int (nomark _)) (pss_one (ps_set (i := 2) scWorth.nd rfl (.inl rfl) (pe_un un_neg (pv 2)))) pss_nil)
      (pss_one (ps_ret (pe_tup (pa_cons (pe_op op_divS (pv 0) (pv 2)) (pa_cons (pe_op op_divS (pv 1) (pv 2)) pa_nil)))))))), ?_⟩
    refine ⟨_, rfl, rfl, _, rfl, ite2 (fun e => ?_) (fun e => ?_)⟩
    · have e0 : b = 0 := V.int.inj (of_decide_eq_true e)
      subst e0
      exact q _ 0 1 H wr_zero ⟨aZ, rfl, hZ H⟩ (Same.refl H)
    · have hb0 : b ≠ 0 := fun z => e (decide_eq_true (by rw [z]))
      obtain ⟨g0, gl, wn, wp⟩ := wr_make (t := t) hb0 rfl
      refine ⟨_, rfl, _, rfl, t, b, rfl, ?_⟩
      revert g0 gl wn wp
      generalize ((Nat.gcd t.natAbs b.natAbs : Nat) : Int) = g
      intro g0 gl wn wp
      refine ⟨fun σ' H' => ∃ c : Int, σ' = [some (.int t), some (.int b), some (.int c)] ∧ H' = H ∧ c ≠ 0 ∧ c.natAbs < 2 ^ 8000 ∧ WR t b (t.fdiv c) (b.fdiv c), ?_, ?_⟩
      · refine ⟨_, rfl, _, _, rfl, rfl, _, rfl, ite2 (fun e => ?_) (fun e => ?_)⟩
        · exact ⟨_, rfl, g, rfl, _, rfl, rfl, by omega, by rw [Int.natAbs_neg]; exact Nat.lt_of_le_of_lt gl hb9, wn (of_decide_eq_true e)⟩
        · exact ⟨_, rfl, rfl, by omega, Nat.lt_of_le_of_lt gl hb9, wp (fun z => e (decide_eq_true z))⟩
      · rintro σ' H' ⟨c, rfl, rfl, c0, c9, W⟩
        have hc : ∀ i, CDivS i c := fun i => ⟨c0, log_of c9⟩
        refine ⟨_, rfl, _, rfl, _, _, rfl, rfl, hc _, _, rfl, _, rfl, _, _, rfl, rfl, hc _, (by show 2 ≤ sizeLine; decide), fun p np => ?_⟩
        exact q _ _ _ _ W ⟨p, rfl, SqT.of upd_same⟩ (same_upd np)
end
end My

set_option Elab.async false
set_option linter.all false
set_option maxRecDepth 100000
namespace My
open PySem PySem.Spec PyProof.Rows L2
theorem mok {i j : Int} (ha : i.natAbs < 2 ^ 3000) (hb : j.natAbs < 2 ^ 3000) : IntMulOk i j := (wide_mul ha hb (by decide) (by decide) (by decide)).ok
theorem mlt {i j : Int} (ha : i.natAbs < 2 ^ 3000) (hb : j.natAbs < 2 ^ 3000) : (i * j).natAbs < 2 ^ 8000 := Nat.lt_trans (wide_lt ha hb) (Nat.pow_lt_pow_right (by decide) (by decide))
abbrev sPlus : Stmt := topS 5
theorem scPlus : FnScope ["a", "b"] ["a", "b"] (defScope sPlus) := ⟨rfl, rfl, rfl, by decide +kernel, rfl, by decide +kernel, by decide +kernel⟩
abbrev sMinus : Stmt := topS 6
theorem scMinus : FnScope ["a", "b"] ["a", "b"] (defScope sMinus) := ⟨rfl, rfl, rfl, by decide +kernel, rfl, by decide +kernel, by decide +kernel⟩
abbrev sProduct : Stmt := topS 7
theorem scProduct : FnScope ["a", "b"] ["a", "b"] (defScope sProduct) := ⟨rfl, rfl, rfl, by decide +kernel, rfl, by decide +kernel, by decide +kernel⟩
abbrev sQuotient : Stmt := topS 8
theorem scQuotient : FnScope ["a", "b"] ["a", "b"] (defScope sQuotient) := ⟨rfl, rfl, rfl, by decide +kernel, rfl, by decide +kernel, by decide +kernel⟩
abbrev sIsLess : Stmt := topS 9
theorem scIsLess : FnScope ["a", "b"] ["a", "b"] (defScope sIsLess) := ⟨rfl, rfl, rfl, by decide +kernel, rfl, by decide +kernel, by decide +kernel⟩
abbrev sFloorOf : Stmt := topS 10
theorem scFloorOf : FnScope ["a"] ["a"] (defScope sFloorOf) := ⟨rfl, rfl, rfl, by decide +kernel, rfl, by decide +kernel, by decide +kernel⟩
abbrev sIsLarge : Stmt := topS 11
theorem scIsLarge : FnScope ["a"] ["a"] (defScope sIsLarge) := ⟨rfl, rfl, rfl, by decide +kernel, rfl, by decide +kernel, by decide +kernel⟩
def Sml (x : Int) : Prop := x.natAbs < 2 ^ 3000
def spBin (K : PySem.W.Frag) (tp bt : Int → Int → Int → Int → Int) : Sp := fun vs H Q _ => ∃ v w x0 x1 y0 y1, vs = [v, w] ∧ IsW K H v x0 x1 ∧ IsW K H w y0 y1 ∧ Sml x0 ∧ Sml x1 ∧ Sml y0 ∧ Sml y1 ∧ ∀ r p q H', WR (tp x0 x1 y0 y1) (bt x0 x1 y0 y1) p q → IsW K H' r p q → Same H H' → Q r H'
abbrev spPlus (K : PySem.W.Frag) : Sp := spBin K (fun x0 x1 y0 y1 => x0 * y1 + y0 * x1) (fun x0 x1 y0 y1 => x1 * y1)
abbrev spMinus (K : PySem.W.Frag) : Sp := spBin K (fun x0 x1 y0 y1 => x0 * y1 - y0 * x1) (fun x0 x1 y0 y1 => x1 * y1)
abbrev spProduct (K : PySem.W.Frag) : Sp := spBin K (fun x0 x1 y0 y1 => x0 * y0) (fun x0 x1 y0 y1 => x1 * y1)
abbrev spQuotient (K : PySem.W.Frag) : Sp := spBin K (fun x0 x1 y0 y1 => x0 * y1) (fun x0 x1 y0 y1 => x1 * y0)
def spLess (K : PySem.W.Frag) : Sp := fun vs H Q _ => ∃ v w x0 x1 y0 y1, vs = [v, w] ∧ IsW K H v x0 x1 ∧ IsW K H w y0 y1 ∧ Sml x0 ∧ Sml x1 ∧ Sml y0 ∧ Sml y1 ∧ Q (.bl (decide (x0 * y1 < y0 * x1))) H
def spFloor (K : PySem.W.Frag) : Sp := fun vs H Q _ => ∃ v x0 x1, vs = [v] ∧ IsW K H v x0 x1 ∧ 1 ≤ x1 ∧ Sml x1 ∧ Q (.int (x0 / x1)) H
def LIM : Int := 10 ^ 200
def spLarge (K : PySem.W.Frag) : Sp := fun vs H Q _ => ∃ v x0 x1, vs = [v] ∧ IsW K H v x0 x1 ∧ Q (.bl (decide (LIM ≤ (if x0 < 0 then -x0 else x0)) || decide (LIM ≤ x1))) H
section
variable {P : Program} {w : World} {K : PySem.W.Frag} {mg : Str → Option Value} {base : Heap}
theorem ok_plus {f fW : Addr} {fd fdW : FuncData} {k : Nat} (F : Fun K "plus" "plus" sPlus f fd) (W : Cal P w K mg base "worth" (k + 1) ["top", "bottom"] (spWorth K) fW fdW) : FnOk P w K mg base CX0 (k + 2) f fd ["a", "b"] (spPlus K) := by
  refine F.ok scPlus (fun vs H Q E h => ?_) (fun cdv A outer s H vs Q E hr h => ?_)
  · obtain ⟨v, w', x0, x1, y0, y1, rfl, _⟩ := h
    rfl
  · obtain ⟨v, w', x0, x1, y0, y1, rfl, ⟨a, rfl, hA⟩, ⟨b, rfl, hB⟩, s0, s1, s2, s3, q⟩ := h
    unfold Sml at s0 s1 s2 s3
    refine ⟨_, (pss_one (ps_ret (pe_call W.ok hr rfl W.g W.kp W.b .nil pass0 (pa_cons (pe_op op_add (pe_op op_mulG (pe_ix ix_tup (pv 0) pe_int (fun _ _ => rfl)) (pe_ix ix_tup (pv 1) pe_int (fun _ _ => rfl))) (pe_op op_mulG (pe_ix ix_tup (pv 1) pe_int (fun _ _ => rfl)) (pe_ix ix_tup (pv 0) pe_int (fun _ _ => rfl)))) (pa_cons (pe_op op_mulG (pe_ix ix_tup (pv 0) pe_int (fun _ _ => rfl)) (pe_ix ix_tup (pv 1) pe_int (fun _ _ => rfl))) pa_nil))))), ?_⟩
    exact ⟨_, rfl, a, _, 0, _, rfl, rfl, hA, atI_nat (j := 0) rfl, _, rfl, b, _, 1, _, rfl, rfl, hB, atI_nat (j := 1) rfl, _, _, rfl, rfl, mok (by assumption) (by assumption), _, rfl, b, _, 0, _, rfl, rfl, hB, atI_nat (j := 0) rfl, _, rfl, a, _, 1, _, rfl, rfl, hA, atI_nat (j := 1) rfl, _, _, rfl, rfl, mok (by assumption) (by assumption), _, _, rfl, rfl, _, rfl, a, _, 1, _, rfl, rfl, hA, atI_nat (j := 1) rfl, _, rfl, b, _, 1, _, rfl, rfl, hB, atI_nat (j := 1) rfl, _, _, rfl, rfl, mok (by assumption) (by assumption), _, _, rfl, mlt (by assumption) (by assumption), fun v x y H' hw hi hs => q v x y H' hw hi hs⟩
theorem ok_minus {f fW : Addr} {fd fdW : FuncData} {k : Nat} (F : Fun K "minus" "minus" sMinus f fd) (W : Cal P w K mg base "worth" (k + 1) ["top", "bottom"] (spWorth K) fW fdW) : FnOk P w K mg base CX0 (k + 2) f fd ["a", "b"] (spMinus K) := by
  refine F.ok scMinus (fun vs H Q E h => ?_) (fun cdv A outer s H vs Q E hr h => ?_)
  · obtain ⟨v, w', x0, x1, y0, y1, rfl, _⟩ := h
    rfl
  · obtain ⟨v, w', x0, x1, y0, y1, rfl, ⟨a, rfl, hA⟩, ⟨b, rfl, hB⟩, s0, s1, s2, s3, q⟩ := h
    unfold Sml at s0 s1 s2 s3
    refine ⟨_, (pss_one (ps_ret (pe_call W.ok hr rfl W.g W.kp W.b .nil pass0 (pa_cons (pe_op op_sub (pe_op op_mulG (pe_ix ix_tup (pv 0) pe_int (fun _ _ => rfl)) (pe_ix ix_tup (pv 1) pe_int (fun _ _ => rfl))) (pe_op op_mulG (pe_ix ix_tup (pv 1) pe_int (fun _ _ => rfl)) (pe_ix ix_tup (pv 0) pe_int (fun _ _ => rfl)))) (pa_cons (pe_op op_mulG (pe_ix ix_tup (pv 0) pe_int (fun _ _ => rfl)) (pe_ix ix_tup (pv 1) pe_int (fun _ _ => rfl))) pa_nil))))), ?_⟩
    exact ⟨_, rfl, a, _, 0, _, rfl, rfl, hA, atI_nat (j := 0) rfl, _, rfl, b, _, 1, _, rfl, rfl, hB, atI_nat (j := 1) rfl, _, _, rfl, rfl, mok (by assumption) (by assumption), _, rfl, b, _, 0, _, rfl, rfl, hB, atI_nat (j := 0) rfl, _, rfl, a, _, 1, _, rfl, rfl, hA, atI_nat (j := 1) rfl, _, _, rfl, rfl, mok (by assumption) (by assumption), _, _, rfl, rfl, _, rfl, a, _, 1, _, rfl, rfl, hA, atI_nat (j := 1) rfl, _, rfl, b, _, 1, _, rfl, rfl, hB, atI_nat (j := 1) rfl, _, _, rfl, rfl, mok (by assumption) (by assumption), _, _, rfl, mlt (by assumption) (by assumption), fun v x y H' hw hi hs => q v x y H' hw hi hs⟩
theorem ok_product {f fW : Addr} {fd fdW : FuncData} {k : Nat} (F : Fun K "product" "product" sProduct f fd) (W : Cal P w K mg base "worth" (k + 1) ["top", "bottom"] (spWorth K) fW fdW) : FnOk P w K mg base CX0 (k + 2) f fd ["a", "b"] (spProduct K) := by
  refine F.ok scProduct (fun vs H Q E h => ?_) (fun cdv A outer s H vs Q E hr h => ?_)
  · obtain ⟨v, w', x0, x1, y0, y1, rfl, _⟩ := h
    rfl
  · obtain ⟨v, w', x0, x1, y0, y1, rfl, ⟨a, rfl, hA⟩, ⟨b, rfl, hB⟩, s0, s1, s2, s3, q⟩ := h
    unfold Sml at s0 s1 s2 s3
    refine ⟨_, (pss_one (ps_ret (pe_call W.ok hr rfl W.g W.kp W.b .nil pass0 (pa_cons (pe_op op_mulG (pe_ix ix_tup (pv 0) pe_int (fun _ _ => rfl)) (pe_ix ix_tup (pv 1) pe_int (fun _ _ => rfl))) (pa_cons (pe_op op_mulG (pe_ix ix_tup (pv 0) pe_int (fun _ _ => rfl)) (pe_ix ix_tup (pv 1) pe_int (fun _ _ => rfl))) pa_nil))))), ?_⟩
    exact ⟨_, rfl, a, _, 0, _, rfl, rfl, hA, atI_nat (j := 0) rfl, _, rfl, b, _, 0, _, rfl, rfl, hB, atI_nat (j := 0) rfl, _, _, rfl, rfl, mok (by assumption) (by assumption), _, rfl, a, _, 1, _, rfl, rfl, hA, atI_nat (j := 1) rfl, _, rfl, b, _, 1, _, rfl, rfl, hB, atI_nat (j := 1) rfl, _, _, rfl, rfl, mok (by assumption) (by assumption), _, _, rfl, mlt (by assumption) (by assumption), fun v x y H' hw hi hs => q v x y H' hw hi hs⟩
theorem ok_quotient {f fW : Addr} {fd fdW : FuncData} {k : Nat} (F : Fun K "quotient" "quotient" sQuotient f fd) (W : Cal P w K mg base "worth" (k + 1) ["top", "bottom"] (spWorth K) fW fdW) : FnOk P w K mg base CX0 (k + 2) f fd ["a", "b"] (spQuotient K) := by
  refine F.ok scQuotient (fun vs H Q E h => ?_) (fun cdv A outer s H vs Q E hr h => ?_)
  · obtain ⟨v, w', x0, x1, y0, y1, rfl, _⟩ := h
    rfl
  · obtain ⟨v, w', x0, x1, y0, y1, rfl, ⟨a, rfl, hA⟩, ⟨b, rfl, hB⟩, s0, s1, s2, s3, q⟩ := h
    unfold Sml at s0 s1 s2 s3
    refine ⟨_, (pss_one (ps_ret (pe_call W.ok hr rfl W.g W.kp W.b .nil pass0 (pa_cons (pe_op op_mulG (pe_ix ix_tup (pv 0) pe_int (fun _ _ => rfl)) (pe_ix ix_tup (pv 1) pe_int (fun _ _ => rfl))) (pa_cons (pe_op op_mulG (pe_ix ix_tup (pv 0) pe_int (fun _ _ => rfl)) (pe_ix ix_tup (pv 1) pe_int (fun _ _ => rfl))) pa_nil))))), ?_⟩
    exact ⟨_, rfl, a, _, 0, _, rfl, rfl, hA, atI_nat (j := 0) rfl, _, rfl, b, _, 1, _, rfl, rfl, hB, atI_nat (j := 1) rfl, _, _, rfl, rfl, mok (by assumption) (by assumption), _, rfl, a, _, 1, _, rfl, rfl, hA, atI_nat (j := 1) rfl, _, rfl, b, _, 0, _, rfl, rfl, hB, atI_nat (j := 0) rfl, _, _, rfl, rfl, mok (by assumption) (by assumption), _, _, rfl, mlt (by assumption) (by assumption), fun v x y H' hw hi hs => q v x y H' hw hi hs⟩
theorem ok_is_less {f : Addr} {fd : FuncData} {k : Nat} (F : Fun K "is_less" "is_less" sIsLess f fd) : FnOk P w K mg base CX0 (k + 1) f fd ["a", "b"] (spLess K) := by
  refine F.ok scIsLess (fun vs H Q E h => ?_) (fun cdv A outer s H vs Q E hr h => ?_)
  · obtain ⟨v, w', x0, x1, y0, y1, rfl, _⟩ := h
    rfl
  · obtain ⟨v, w', x0, x1, y0, y1, rfl, ⟨a, rfl, hA⟩, ⟨b, rfl, hB⟩, s0, s1, s2, s3, q⟩ := h
    unfold Sml at s0 s1 s2 s3
    refine ⟨_, (pss_one (ps_ret (pe_cmpR op_lt (pe_op op_mulG (pe_ix ix_tup (pv 0) pe_int (fun _ _ => rfl)) (pe_ix ix_tup (pv 1) pe_int (fun _ _ => rfl))) (pe_op op_mulG (pe_ix ix_tup (pv 1) pe_int (fun _ _ => rfl)) (pe_ix ix_tup (pv 0) pe_int (fun _ _ => rfl))) (nomark _)))), ?_⟩
    exact ⟨_, rfl, a, _, 0, _, rfl, rfl, hA, atI_nat (j := 0) rfl, _, rfl, b, _, 1, _, rfl, rfl, hB, atI_nat (j := 1) rfl, _, _, rfl, rfl, mok (by assumption) (by assumption), _, rfl, b, _, 0, _, rfl, rfl, hB, atI_nat (j := 0) rfl, _, rfl, a, _, 1, _, rfl, rfl, hA, atI_nat (j := 1) rfl, _, _, rfl, rfl, mok (by assumption) (by assumption), _, _, rfl, rfl, q⟩
theorem ok_floor_of {f : Addr} {fd : FuncData} {k : Nat} (F : Fun K "floor_of" "floor_of" sFloorOf f fd) : FnOk P w K mg base CX0 (k + 1) f fd ["a"] (spFloor K) := by
  refine F.ok scFloorOf (fun vs H Q E h => ?_) (fun cdv A outer s H vs Q E hr h => ?_)
  · obtain ⟨v, x0, x1, rfl, _⟩ := h
    rfl
  · obtain ⟨v, x0, x1, rfl, ⟨a, rfl, hA⟩, p, s1, q⟩ := h
    refine ⟨_, (pss_one (ps_ret (pe_op op_fdivW (pe_ix ix_tup (pv 0) pe_int (fun _ _ => rfl)) (pe_ix ix_tup (pv 0) pe_int (fun _ _ => rfl))))), ?_⟩
    exact ⟨_, rfl, a, _, 0, _, rfl, rfl, hA, atI_nat (j := 0) rfl, _, rfl, a, _, 1, _, rfl, rfl, hA, atI_nat (j := 1) rfl, _, _, rfl, rfl, wide_div (b := 3000) (by omega) s1 (by decide) (by decide), q⟩
theorem ok_is_large {f : Addr} {fd : FuncData} {k : Nat} (F : Fun K "is_large" "is_large" sIsLarge f fd) {tk : Tok} (g_LIMIT : mg "LIMIT" = some (.int LIM tk)) : FnOk P w K mg base CX0 (k + 1) f fd ["a"] (spLarge K) := by
  refine F.ok scIsLarge (fun vs H Q E h => ?_) (fun cdv A outer s H vs Q E hr h => ?_)
  · obtain ⟨v, x0, x1, rfl, _⟩ := h
    rfl
  · obtain ⟨v, x0, x1, rfl, ⟨a, rfl, hA⟩, q⟩ := h
    have hL : (0 : Int) < LIM := by decide
    revert q g_LIMIT hL
    generalize LIM = L
    intro g_LIMIT q hL
    refine ⟨_, (pss_one (ps_ret (pe_or (pe_not (pe_chain op_lt op_lt (pe_un un_neg (pe_glob (v := .int L) rfl g_LIMIT ⟨_, rfl⟩)) (pe_ix ix_tup (pv 0) pe_int (fun _ _ => rfl)) (pe_glob (v := .int L) rfl g_LIMIT ⟨_, rfl⟩))) (pe_one (pe_cmpR op_ge (pe_ix ix_tup (pv 0) pe_int (fun _ _ => rfl)) (pe_glob (v := .int L) rfl g_LIMIT ⟨_, rfl⟩) (nomark _)))))), ?_⟩
    refine ⟨_, rfl, _, rfl, a, _, 0, _, rfl, rfl, hA, atI_nat (j := 0) rfl, _, _, rfl, rfl, _, rfl, ite2 (fun e => ?_) (fun e => ?_)⟩
    · have e0 : -L < x0 := of_decide_eq_true e
      refine ⟨_, _, rfl, rfl, _, rfl, _, rfl, ite2 (fun e => ?_) (fun e => ?_)⟩
      · have e1 : ¬ x0 < L := fun z => by rw [decide_eq_true z] at e; cases e
        have : decide (L ≤ (if x0 < 0 then -x0 else x0)) = true := decide_eq_true (by split <;> omega)
        rw [this, Bool.true_or] at q
        exact q
      · have e1 : x0 < L := Classical.byContradiction fun z => e (by rw [decide_eq_false z]; rfl)
        have : decide (L ≤ (if x0 < 0 then -x0 else x0)) = false := decide_eq_false (by split <;> omega)
        rw [this, Bool.false_or] at q
        exact ⟨_, rfl, a, _, 1, _, rfl, rfl, hA, atI_nat (j := 1) rfl, _, _, rfl, rfl, q⟩
    · have e0 : ¬ -L < x0 := fun z => e (decide_eq_true z)
      have : decide (L ≤ (if x0 < 0 then -x0 else x0)) = true := decide_eq_true (by split <;> omega)
      rw [this, Bool.true_or] at q
      exact ⟨_, rfl, _, rfl, iteT q⟩
end
end My

set_option Elab.async false
set_option linter.all false
set_option maxRecDepth 100000
namespace My
open PySem PySem.Spec PyProof.Rows L2
abbrev sLawGcd : Stmt := topS 17
theorem scLawGcd : FnScope ["x", "y"] ["x", "y"] (defScope sLawGcd) := ⟨rfl, rfl, rfl, by decide +kernel, rfl, by decide +kernel, by decide +kernel⟩
abbrev sLawAmount : Stmt := topS 18
theorem scLawAmount : FnScope ["bag", "kind", "some", "k"] ["bag"] (defScope sLawAmount) := ⟨rfl, rfl, rfl, by decide +kernel, rfl, by decide +kernel, by decide +kernel⟩
abbrev sLawSo : Stmt := topS 19
theorem scLawSo : FnScope ["told", "over", "under", "x"] ["told", "over", "under"] (defScope sLawSo) := ⟨rfl, rfl, rfl, by decide +kernel, rfl, by decide +kernel, by decide +kernel⟩
def spGcd : Sp := fun vs H Q _ => ∃ x y : Int, vs = [.int x, .int y] ∧ Q (.int ((Nat.gcd x.natAbs y.natAbs : Nat) : Int)) H
def spAmount (K : PySem.W.Frag) : Sp := fun vs H Q _ => ∃ b, vs = [.ref b] ∧ BagAt K H b ∧ ∀ (n : Int) H', n.natAbs < 10 ^ 80 → BagAt K H' b → But b H H' → Q (.int n) H'
def Mid29 (x : Int) : Prop := x.natAbs < 2 ^ 2900
def spSo (K : PySem.W.Frag) : Sp := fun vs H Q _ => ∃ v x y t b, vs = [v, .int t, .int b] ∧ IsW K H v x y ∧ WR t b x y ∧ Mid29 t ∧ Mid29 b ∧ ∀ H', Same H H' → Q (.bl true) H'
def muGcd : L2.St → Hp → Nat := fun σ _ => match σ with
  | [_, some (.int y)] => y.toNat
  | _ => 0
section
variable {P : Program} {w : World} {K : PySem.W.Frag} {mg : Str → Option Value} {base : Heap}
theorem abs_if (x : Int) : (if x < 0 then -x else x) = (x.natAbs : Int) := by split <;> omega
theorem ok_gcd {f : Addr} {fd : FuncData} {k : Nat} (F : Fun K "_law_gcd" "_law_gcd" sLawGcd f fd) (b_abs : mg "abs" = none) (b_int : mg "int" = none) : FnOk P w K mg base CX0 (k + 1) f fd ["x", "y"] spGcd := by
  refine F.ok scLawGcd (fun vs H Q E h => ?_) (fun cdv A outer s H vs Q E hr h => ?_)
  · obtain ⟨x, y, rfl, _⟩ := h
    rfl
  · obtain ⟨x, y, rfl, q⟩ := h
    refine ⟨_, (pss_cons (ps_par (i := 0) (j := 1) rfl scLawGcd.nd rfl rfl (by decide) rfl rfl (pa_cons (pe_callB call_abs rfl b_abs (by decide +kernel) (pa_cons (pv 0) pa_nil)) (pa_cons (pe_callB call_abs rfl b_abs (by decide +kernel) (pa_cons (pv 1) pa_nil)) pa_nil)) rfl)
      (pss_cons (ps_while PassesOwn.never (pt_cmpR op_gt (pv 1) pe_int (nomark _)) (pss_one (ps_par (i := 0) (j := 1) rfl scLawGcd.nd rfl rfl (by decide) rfl rfl (pa_cons (pv 1) (pa_cons (pe_op op_mod (pe_callTy call_int1 rfl b_int (by decide +kernel) (pa_cons (pv 0) pa_nil)) (pv 1)) pa_nil)) rfl)))
      (pss_one (ps_ret (pv 0))))), ?_⟩
    refine ⟨_, rfl, _, rfl, _, rfl, _, rfl, _, _, rfl, ?_⟩
    rw [abs_if, abs_if]
    refine while_by (fun σ H' => ∃ a b : Int, σ = [some (.int a), some (.int b)] ∧ H' = H ∧ 0 ≤ a ∧ 0 ≤ b ∧ Nat.gcd a.natAbs b.natAbs = Nat.gcd x.natAbs y.natAbs) muGcd ⟨_, _, rfl, rfl, Int.natCast_nonneg _, Int.natCast_nonneg _, rfl⟩ ?_ ?_
    · rintro σ H' ⟨a, b, rfl, rfl, a0, b0, e⟩
      refine ⟨_, rfl, _, _, rfl, rfl, _, rfl, ite2 (fun c => ?_) (fun c => ?_)⟩
      · have hb : 0 < b := of_decide_eq_true c
        refine ⟨_, rfl, _, rfl, .inl ⟨_, rfl, _, rfl, _, _, rfl, rfl, hb, _, _, rfl, ?_, ?_⟩⟩
        · refine ⟨_, _, rfl, rfl, b0, mod_lo hb, ?_⟩
          rw [← e]
          have h1 : (a % b).natAbs = a.natAbs % b.natAbs := by
            obtain ⟨a', rfl⟩ := Int.eq_ofNat_of_zero_le a0
            obtain ⟨b', rfl⟩ := Int.eq_ofNat_of_zero_le b0
            rfl
          rw [h1, Nat.gcd_comm a.natAbs, Nat.gcd_rec b.natAbs a.natAbs, Nat.gcd_comm]
        · have h2 := mod_hi (a := a) hb
          have h3 := mod_lo (a := a) hb
          show (a % b).toNat < b.toNat
          omega
      · have hb : b = 0 := by
          have : ¬ 0 < b := fun z => c (decide_eq_true z)
          omega
        subst hb
        refine ⟨_, rfl, ?_⟩
        have e2 : a = ((Nat.gcd x.natAbs y.natAbs : Nat) : Int) := by
          rw [← e]
          simp
          omega
        rw [e2]
        exact q
    · rintro σ H Q Q' hm ⟨v, e1, i, j, e3, e4, k, e5, z⟩
      exact ⟨v, e1, i, j, e3, e4, k, e5, hm _ _ z⟩
theorem small_of {n m : Nat} (h : n < 10 ^ 80) : n < 2 ^ 3000 := Nat.lt_trans h (by decide +kernel)
theorem ok_amount {f fD fO : Addr} {fd fdD fdO : FuncData} {k : Nat} (F : Fun K "_law_amount" "_law_amount" sLawAmount f fd) (D : Cal P w K mg base "_law_draw" (k + 1) ["bag", "size"] (spDraw K) fD fdD) (O : Cal P w K mg base "_law_of" (k + 2) ["bag", "things"] (spOf K) fO fdO) (b_range : mg "range" = none) :
    FnOk P w K mg base CX0 (k + 3) f fd ["bag"] (spAmount K) := by
  refine F.ok scLawAmount (fun vs H Q E h => ?_) (fun cdv A outer s H vs Q E hr h => ?_)
  · obtain ⟨b, rfl, _⟩ := h
    rfl
  · obtain ⟨b, rfl, B, q⟩ := h
    have hr1 : Room (k + 1) _ := hr.mono (by omega)
    refine ⟨_, (pss_cons (ps_set (i := 1) scLawAmount.nd rfl (.inl rfl) (pe_call D.ok hr1 rfl D.g D.kp D.b .nil pass0 (pa_cons (pv 0) (pa_cons pe_int pa_nil))))
      (C8.pss_cut (ps_if (pt_cmpR op_lt (pv 1) pe_int (nomark _)) (pss_one (ps_set (i := 2) scLawAmount.nd rfl (.inl rfl) (pe_call O.ok hr rfl O.g O.kp O.b .nil pass0 (pa_cons (pv 0) (pa_cons (pe_lst (pa_cons pe_int (pa_cons pe_int (pa_cons pe_int (pa_cons pe_int (pa_cons pe_int (pa_cons (pe_call D.ok hr1 rfl D.g D.kp D.b .nil pass0 (pa_cons (pv 0) (pa_cons pe_int pa_nil))) (pa_cons (pe_call D.ok hr1 rfl D.g D.kp D.b .nil pass0 (pa_cons (pv 0) (pa_cons pe_int pa_nil))) pa_nil)))))))) pa_nil))))) (pss_cons (ps_set (i := 2) scLawAmount.nd rfl (.inl rfl) pe_int)
        (pss_cons (ps_for PassesOwn.never rfl (pi_range1 rfl b_range (pa_cons (pe_op op_add pe_int (pe_call D.ok hr1 rfl D.g D.kp D.b .nil pass0 (pa_cons (pv 0) (pa_cons pe_int pa_nil)))) pa_nil)) (pg_name (i := 3) scLawAmount.nd rfl (.inl rfl))
          (pss_one (ps_set (i := 2) scLawAmount.nd rfl (.inl rfl) (pe_op op_add (pe_op op_mulG (pv 2) (pe_op op_powG pe_int pe_int)) (pe_call D.ok hr1 rfl D.g D.kp D.b .nil pass0 (pa_cons (pv 0) (pa_cons (pe_op op_powG pe_int pe_int) pa_nil)))))))
        (pss_one (ps_if (pt_cmpR op_eq (pv 1) pe_int (nomark _)) (pss_one (ps_set (i := 2) scLawAmount.nd rfl (.inl rfl) (pe_op op_add (pe_op op_mulG (pe_op op_powG pe_int pe_int) (pv 2)) (pe_call D.ok hr1 rfl D.g D.kp D.b .nil pass0 (pa_cons (pv 0) (pa_cons pe_int pa_nil)))))) pss_nil)))))
      (pss_one (ps_ret (pe_ifExp (pt_cmpR op_gt (pe_call D.ok hr1 rfl D.g D.kp D.b .nil pass0 (pa_cons (pv 0) (pa_cons pe_int pa_nil))) pe_int (nomark _)) (pv 2) (pe_op op_sub pe_int (pv 2))))))), ?_⟩
    refine ⟨_, rfl, b, 5, rfl, B, by decide, by decide, fun kd H1 k0 k1 B1 t1 => ?_⟩
    refine ⟨fun σ' H' => ∃ (v3 : Option V) (n : Int), σ' = [some (.ref b), some (.int kd), some (.int n), v3] ∧ n.natAbs < 10 ^ 80 ∧ BagAt K H' b ∧ But b H H', ?_, ?_⟩
    · refine ⟨_, rfl, _, _, rfl, rfl, _, rfl, ite2 (fun c => ?_) (fun c => ?_)⟩
      · refine ⟨_, rfl, _, rfl, b, 13, rfl, B1, by decide, by decide, fun r1 H2 r10 r11 B2 t2 => ⟨_, rfl, b, 1000, rfl, B2, by decide, by decide, fun r2 H3 r20 r21 B3 t3 => ⟨(by show 7 ≤ sizeLine; decide), fun p np => ?_⟩⟩⟩
        have B4 := B3.same (same_upd (o := .lst [.int 0, .int 1, .int 1, .int 2, .int 3, .int r1, .int r2]) np)
        have pb : p ≠ b := by
          obtain ⟨c, ns, i, g, x, n, B3'⟩ := B3
          exact (ne_of_none B3'.ob np).symm
        refine ⟨b, p, _, rfl, B4, pb, SqL.of upd_same, (by show 0 < 7; decide), (by show 7 < 1000; decide), fun v H5 hv B5 t5 => ?_⟩
        have tt : But b H H5 := (((t1.trans t2).trans t3).trans (But.of (same_upd np))).trans t5
        obtain ⟨n, rfl, hn⟩ : ∃ n : Int, v = .int n ∧ n.natAbs < 10 ^ 80 := by
          simp only [List.append_nil, List.mem_cons, List.not_mem_nil, or_false] at hv
          rcases hv with rfl | rfl | rfl | rfl | rfl | rfl | rfl <;> exact ⟨_, rfl, by omega⟩
        exact ⟨none, n, rfl, hn, B5, tt⟩
      · refine ⟨_, rfl, b, 6, rfl, B1, by decide, by decide, fun r H2 r0 r1 B2 t2 => ?_⟩
        refine ⟨_, _, rfl, rfl, _, rfl, by omega, by omega, for_range (n := (1 + r).toNat) (fun i σ H3 => ∃ (v3 : Option V) (n : Int), σ = [some (.ref b), some (.int kd), some (.int n), v3] ∧ i ≤ 6 ∧ 0 ≤ n ∧ n < (10000000000 : Int) ^ i ∧ BagAt K H3 b ∧ But b H H3) ⟨none, 0, rfl, Nat.zero_le _, by decide, by decide, B2, t1.trans t2⟩ ?_ ?_⟩
        · rintro i σ H3 hi ⟨v3, n, rfl, i6, n0, n1, B3, t3⟩
          refine ⟨_, rfl, _, _, rfl, rfl, ⟨by decide, by decide +kernel⟩, _, _, rfl, rfl, mul_right (by decide +kernel), _, rfl, _, _, rfl, rfl, ⟨by decide, by decide +kernel⟩, b, _, rfl, B3, by decide +kernel, by decide +kernel, fun d H4 d0 d1 B4 t4 => ?_⟩
          have e10 : (10 : Int) ^ (10 : Int).toNat = 10000000000 := by decide +kernel
          rw [e10] at d1
          refine ⟨_, _, rfl, rfl, _, _, rfl, by omega, ?_, ?_, B4, t3.trans t4⟩
          · rw [e10]; omega
          · rw [e10, Int.pow_succ]
            omega
        · rintro σ H3 ⟨v3, n, rfl, i6, n0, n1, B3, t3⟩
          have hn : n < 10 ^ 60 := by
            refine Int.lt_of_lt_of_le n1 ?_
            have : ∀ m : Nat, m ≤ 6 → (10000000000 : Int) ^ m ≤ 10 ^ 60 := by decide +kernel
            exact this _ i6
          refine ⟨_, rfl, rfl, _, rfl, ite2 (fun c => ?_) (fun c => ?_)⟩
          · refine ⟨_, _, rfl, rfl, ⟨by decide, by decide +kernel⟩, _, rfl, _, _, rfl, rfl, IntMulOk.of_left (by decide +kernel), _, rfl, b, 3, rfl, B3, by decide, by decide, fun d H4 d0 d1 B4 t4 => ?_⟩
            refine ⟨_, _, rfl, rfl, _, _, rfl, ?_, B4, t3.trans t4⟩
            have e12 : (10 : Int) ^ (12 : Int).toNat = 1000000000000 := by decide +kernel
            rw [e12]
            omega
          · exact ⟨_, n, rfl, by omega, B3, t3⟩
    · rintro σ' H' ⟨v3, n, rfl, hn, B', t'⟩
      refine ⟨_, rfl, b, 3, rfl, B', by decide, by decide, fun d H2 d0 d1 B2 t2 => ⟨_, _, rfl, rfl, _, rfl, ite2 (fun _ => ?_) (fun _ => ?_)⟩⟩
      · exact ⟨_, rfl, q n H2 hn B2 (t'.trans t2)⟩
      · exact ⟨_, rfl, _, _, rfl, rfl, q _ H2 (by omega) B2 (t'.trans t2)⟩
end
end My

set_option Elab.async false
set_option linter.all false
set_option maxRecDepth 100000
namespace My
open PySem PySem.Spec PyProof.Rows L2
section
variable {P : Program} {w : World} {K : PySem.W.Frag} {mg : Str → Option Value} {base : Heap}
theorem k1_ii : PySem.W.kitOne K (.type "int") (.type "int") = some true := by rfl
theorem k1_ib : PySem.W.kitOne K (.type "int") (.type "bool") = some false := by rfl
theorem mok29 {i j : Int} (ha : i.natAbs < 2 ^ 2901) (hb : j.natAbs < 2 ^ 2901) : IntMulOk i j := (wide_mul ha hb (by decide) (by decide) (by decide)).ok
theorem m29 {x : Int} (h : Mid29 x) : x.natAbs < 2 ^ 2901 := Nat.lt_trans h (by decide +kernel)
theorem m29' {x y : Int} (h : Mid29 x) (l : y.natAbs ≤ x.natAbs + 1) : y.natAbs < 2 ^ 2901 := by
  have h' : x.natAbs < 2 ^ 2900 := h
  have e : 2 ^ 2900 + 1 ≤ 2 ^ 2901 := by decide +kernel
  revert h' e
  generalize 2 ^ 2900 = A
  generalize 2 ^ 2901 = B
  intro h' e
  omega
theorem ok_so {f fG : Addr} {fd fdG : FuncData} {k : Nat} (F : Fun K "_law_so" "_law_so" sLawSo f fd) (G : Cal P w K mg base "_law_gcd" (k + 1) ["x", "y"] spGcd fG fdG) (b_isinstance : mg "isinstance" = none) (b_tuple : mg "tuple" = none) (b_len : mg "len" = none) (b_all : mg "all" = none) (b_int : mg "int" = none) (b_bool : mg "bool" = none) :
    FnOk P w K mg base CX0 (k + 2) f fd ["told", "over", "under"] (spSo K) := by
  refine F.ok scLawSo (fun vs H Q E h => ?_) (fun cdv A outer s H vs Q E hr h => ?_)
  · obtain ⟨v, x, y, t, b, rfl, _⟩ := h
    rfl
  · obtain ⟨v, x, y, t, b, rfl, ⟨a, rfl, hA⟩, W, mt, mb, q⟩ := h
    refine ⟨_, (pss_cons (ps_if (PW.pt (pw_or (pt_not (pt_val (pe_callB call_isi rfl b_isinstance (by decide +kernel) (pa_cons (pv 0) (pa_cons (pe_ty "tuple" rfl b_tuple (by decide +kernel)) pa_nil))))) (pw_or1 (pt_cmpR op_ne (pe_callB call_len rfl b_len (by decide +kernel) (pa_cons (pv 0) pa_nil)) pe_int (nomark _))))) (pss_one (ps_ret pe_bl)) pss_nil)
      (pss_cons (ps_if (PW.pt (pw_or (pt_not (pt_val (pe_callB (cr_all rfl) rfl b_all (by decide +kernel) (pa_cons (pe_lc (own := [("x", 3)]) (g := gName 3) (tt := tYes) (te := tAndV (tCB (rIsi K) (tCons (tVar 3) (tCons (tC (.ty "int")) tNil))) (tNotV (tCB (rIsi K) (tCons (tVar 3) (tCons (tC (.ty "bool")) tNil))))) rfl scLawSo.nd (pi_tup (pv 0)) (blkOk_by (own := [("x", 3)]) (N := ["told", "over", "under", "x"]) (sc := defScope sLawSo) (by decide +kernel)) (fun _ _ _ _ _ => (pg_name (i := 3) scLawSo.nd rfl (.inl rfl) (.inr rfl))) (fun _ _ _ _ _ => pts_nil) (fun _ _ _ _ _ => (pe_and (pe_callB call_isi rfl b_isinstance (by decide +kernel) (pa_cons (pv 3) (pa_cons (pe_ty "int" rfl b_int (by decide +kernel)) pa_nil))) (pe_one (pe_not (pe_callB call_isi rfl b_isinstance (by decide +kernel) (pa_cons (pv 3) (pa_cons (pe_ty "bool" rfl b_bool (by decide +kernel)) pa_nil)))))))) pa_nil)))) (pw_or1 (pt_cmpR op_lt (pe_ix ix_tup (pv 0) pe_int (fun _ _ => rfl)) pe_int (nomark _))))) (pss_one (ps_ret pe_bl)) pss_nil)
      (pss_cons (ps_if (pt_cmpR op_eq (pv 2) pe_int (nomark _)) (pss_one (ps_ret (pe_cmpR (op_eqD hr.units) (pv 0) (pe_tup (pa_cons pe_int (pa_cons pe_int pa_nil))) (nomark _)))) pss_nil)
      (pss_one (ps_ret (pe_and (pe_cmpR op_eq (pe_call G.ok hr rfl G.g G.kp G.b .nil pass0 (pa_cons (pe_ix ix_tup (pv 0) pe_int (fun _ _ => rfl)) (pa_cons (pe_ix ix_tup (pv 0) pe_int (fun _ _ => rfl)) pa_nil))) pe_int (nomark _)) (pe_one (pe_cmpR op_eq (pe_op op_mulG (pe_ix ix_tup (pv 0) pe_int (fun _ _ => rfl)) (pv 2)) (pe_op op_mulG (pv 1) (pe_ix ix_tup (pv 0) pe_int (fun _ _ => rfl))) (nomark _))))))))), ?_⟩
    refine ⟨_, rfl, _, _, _, _, _, rfl, .ty _, ty_tup hA, k1_tt, _, rfl, iteF ⟨_, rfl, _, _, rfl, .inr ⟨_, hA, rfl⟩, rfl, _, rfl, iteF ?_⟩⟩
    refine ⟨_, rfl, _, rfl, ⟨_, hA⟩, fun D nD => lc_it (walk_tup (K := K) (a := a) (xs := [.int x, .int y])) (fun i H2 => Same H H2 ∧ H2 D = some (.lst ((List.replicate i true).map V.bl))) ⟨same_upd nD, upd_same⟩ (fun i H2 _ h => seqT_same h.1 hA) ?_ ?_⟩
    · rintro i z H2 H3 hlt ⟨s2, hD⟩ ⟨rfl, hz⟩
      obtain ⟨n, rfl⟩ : ∃ n : Int, z = .int n := by
        match i, hz with
        | 0, hz => exact ⟨_, (Option.some.inj hz).symm⟩
        | 1, hz => exact ⟨_, (Option.some.inj hz).symm⟩
      have hi : i < 2 := hlt
      refine ⟨rfl, ?_⟩
      unfold tYes
      refine iteT ⟨_, rfl, _, _, _, _, _, rfl, .ty _, .base (.int n), k1_ii, _, rfl, iteT ⟨_, rfl, _, _, _, _, _, rfl, .ty _, .base (.int n), k1_ib, _, rfl, _, hD, ?_, ?_, ?_⟩⟩
      · rw [List.length_map, List.length_replicate]
        exact small1000 (by omega)
      · intro p' o' h'
        have nq : p' ≠ D := ne_of_none h' nD
        rw [upd_ne nq]
        exact s2 _ _ h'
      · rw [upd_same, List.replicate_succ', List.map_append]
        rfl
    · rintro H2 ⟨s2, hD⟩
      have hA2 : SqT K H2 a [.int x, .int y] := seqT_same s2 hA
      refine ⟨D, _, rfl, SqL.of hD, ?_⟩
      rw [all_true]
      have y1 := W.pos
      refine ⟨_, rfl, iteF ⟨_, rfl, a, _, 1, _, rfl, rfl, hA2, atI_nat (j := 1) rfl, _, _, rfl, rfl, _, rfl, ite2 (fun c => ?_) (fun _ => ?_)⟩⟩
      · have : y < 1 := of_decide_eq_true c
        omega
      · refine ⟨_, rfl, rfl, _, rfl, ite2 (fun c => ?_) (fun c => ?_)⟩
        · have hb : b = 0 := V.int.inj (of_decide_eq_true c)
          obtain ⟨rfl, rfl⟩ := W.z hb
          refine ⟨_, rfl, (by show 2 ≤ sizeLine; decide), fun p np => ?_⟩
          have s3 := s2.trans (same_upd (o := .tup [.int 0, .int 1]) np)
          refine ⟨.tuple [.int 0, .int 1], .tuple [.int 0, .int 1], .tup (seqT_same (same_upd np) hA2) (.cons (.int 0) (.cons (.int 1) .nil)), .tup (SqT.of upd_same) (.cons (.int 0) (.cons (.int 1) .nil)), by decide +kernel, by decide +kernel, ?_⟩
          exact q _ s3
        · have hb : b ≠ 0 := fun z => c (decide_eq_true (by rw [z]))
          refine ⟨_, rfl, a, _, 0, _, rfl, rfl, hA2, atI_nat (j := 0) rfl, _, rfl, a, _, 1, _, rfl, rfl, hA2, atI_nat (j := 1) rfl, x, y, rfl, rfl, _, rfl, ?_⟩
          rw [W.low, decide_eq_true (show V.int ((1 : Nat) : Int) = V.int 1 from rfl)]
          have bx : x.natAbs < 2 ^ 2901 := m29' mt (by have := W.lx; omega)
          have by' : y.natAbs < 2 ^ 2901 := m29' mb W.ly
          refine iteT ⟨_, rfl, a, _, 0, _, rfl, rfl, hA2, atI_nat (j := 0) rfl, _, rfl, _, _, rfl, rfl, mok29 bx (m29 mb), _, rfl, _, rfl, a, _, 1, _, rfl, rfl, hA2, atI_nat (j := 1) rfl, _, _, rfl, rfl, mok29 (m29 mt) by', rfl, ?_⟩
          show Q (.bl (decide (V.int (x * b) = V.int (t * y)))) H2
          rw [W.eq hb, decide_eq_true rfl]
          exact q _ s2
end
end My

set_option Elab.async false
set_option linter.all false
set_option maxRecDepth 100000
namespace My
open PySem PySem.Spec PyProof.Rows L2
abbrev sLawMade : Stmt := topS 20
theorem scLawMade : FnScope ["bag", "over", "under", "part"] ["bag"] (defScope sLawMade) := ⟨rfl, rfl, rfl, by decide +kernel, rfl, by decide +kernel, by decide +kernel⟩
abbrev sLawNear : Stmt := topS 21
theorem scLawNear : FnScope ["bag", "limit", "some", "part", "common"] ["bag", "limit"] (defScope sLawNear) := ⟨rfl, rfl, rfl, by decide +kernel, rfl, by decide +kernel, by decide +kernel⟩
structure Good (x y : Int) : Prop where
  pos : 1 ≤ y
  low : Nat.gcd x.natAbs y.natAbs = 1
  bx : x.natAbs < 2 ^ 700
  by' : y.natAbs < 2 ^ 700
def spMade (K : PySem.W.Frag) : Sp := fun vs H Q _ => ∃ b, vs = [.ref b] ∧ BagAt K H b ∧ ∀ v x y H', Good x y → IsW K H' v x y → BagAt K H' b → But b H H' → Q v H'
def spNear (K : PySem.W.Frag) : Sp := fun vs H Q _ => ∃ b, vs = [.ref b, .int LIM] ∧ BagAt K H b ∧ ∀ v x y H', Good x y → IsW K H' v x y → BagAt K H' b → But b H H' → Q v H'
theorem wr_good {t b x y : Int} (W : WR t b x y) (ht : t.natAbs < 10 ^ 202) (hb : b.natAbs < 10 ^ 202) : Good x y := by
  have e : 10 ^ 202 < 2 ^ 700 := by decide +kernel
  have h1 := W.lx
  have h2 := W.ly
  refine ⟨W.pos, W.low, ?_, ?_⟩
  · exact Nat.lt_trans (Nat.lt_of_le_of_lt h1 ht) e
  · exact Nat.lt_of_le_of_lt (Nat.le_trans h2 hb) e
section
variable {P : Program} {w : World} {K : PySem.W.Frag} {mg : Str → Option Value} {base : Heap}
theorem bag_ne {H : Hp} {b p : Addr} (B : BagAt K H b) (h : H p = none) : p ≠ b := by
  obtain ⟨c, ns, i, g, x, n, B⟩ := B
  exact (ne_of_none B.ob h).symm
theorem divs {i c : Int} (h0 : c ≠ 0) (h : c.natAbs < 2 ^ 8000) : CDivS i c := ⟨h0, log_of h⟩
theorem ok_made {f fD fA fG : Addr} {fd fdD fdA fdG : FuncData} {k : Nat} (F : Fun K "_law_made" "_law_made" sLawMade f fd) (D : Cal P w K mg base "_law_draw" (k + 1) ["bag", "size"] (spDraw K) fD fdD) (Am : Cal P w K mg base "_law_amount" (k + 3) ["bag"] (spAmount K) fA fdA) (G : Cal P w K mg base "_law_gcd" (k + 1) ["x", "y"] spGcd fG fdG) (b_abs : mg "abs" = none) :
    FnOk P w K mg base CX0 (k + 4) f fd ["bag"] (spMade K) := by
  refine F.ok scLawMade (fun vs H Q E h => ?_) (fun cdv A outer s H vs Q E hr h => ?_)
  · obtain ⟨b, rfl, _⟩ := h
    rfl
  · obtain ⟨b, rfl, B, q⟩ := h
    have hr1 : Room (k + 1) _ := hr.mono (by omega)
    refine ⟨_, (pss_cons (ps_par (i := 1) (j := 2) rfl scLawMade.nd rfl rfl (by decide) rfl rfl (pa_cons (pe_call Am.ok hr rfl Am.g Am.kp Am.b .nil pass0 (pa_cons (pv 0) pa_nil)) (pa_cons (pe_op op_add (pe_callB call_abs rfl b_abs (by decide +kernel) (pa_cons (pe_call Am.ok hr rfl Am.g Am.kp Am.b .nil pass0 (pa_cons (pv 0) pa_nil)) pa_nil)) (pe_call D.ok hr1 rfl D.g D.kp D.b .nil pass0 (pa_cons (pv 0) (pa_cons pe_int pa_nil)))) pa_nil)) rfl)
      (pss_cons (ps_if (pt_cmpR op_eq (pv 2) pe_int (nomark _)) (pss_one (ps_ret (pe_tup (pa_cons (pv 1) (pa_cons pe_int pa_nil))))) pss_nil)
      (pss_cons (ps_set (i := 3) scLawMade.nd rfl (.inl rfl) (pe_call G.ok hr1 rfl G.g G.kp G.b .nil pass0 (pa_cons (pv 1) (pa_cons (pv 2) pa_nil))))
      (pss_one (ps_ret (pe_tup (pa_cons (pe_op op_divS (pv 1) (pv 3)) (pa_cons (pe_op op_divS (pv 2) (pv 3)) pa_nil)))))))), ?_⟩
    refine ⟨_, rfl, b, rfl, B, fun ov H1 ho B1 t1 => ⟨_, rfl, b, rfl, B1, fun un H2 hu B2 t2 => ⟨_, rfl, _, rfl, b, 2, rfl, B2, by decide, by decide, fun d H3 d0 d1 B3 t3 => ?_⟩⟩⟩
    have t123 : But b H H3 := (t1.trans t2).trans t3
    rw [abs_if]
    obtain ⟨m, hm, m0⟩ : ∃ m : Int, m = (un.natAbs : Int) + d ∧ 0 ≤ m := ⟨_, rfl, by omega⟩
    have ml : m.natAbs < 10 ^ 81 := by omega
    refine ⟨_, _, rfl, rfl, _, _, rfl, ?_⟩
    dsimp only
    rw [← hm]
    refine ⟨_, rfl, rfl, _, rfl, ite2 (fun c => ?_) (fun c => ?_)⟩
    · refine ⟨_, rfl, (by show 2 ≤ sizeLine; decide), fun p np => q _ ov 1 _ ?_ ⟨p, rfl, SqT.of upd_same⟩ (B3.same (same_upd np)) (t123.trans (But.of (same_upd np)))⟩
      exact ⟨by decide, by simp, Nat.lt_trans ho (by decide +kernel), by decide +kernel⟩
    · have hm0 : m ≠ 0 := fun z => c (decide_eq_true (by rw [z]))
      refine ⟨_, rfl, _, rfl, _, _, rfl, ?_⟩
      obtain ⟨g0, gl, wn, wp⟩ := wr_make (t := ov) (b := m) hm0 rfl
      revert g0 gl wn wp
      generalize ((Nat.gcd ov.natAbs m.natAbs : Nat) : Int) = g
      intro g0 gl wn wp
      have hc : ∀ i, CDivS i g := fun i => divs (by omega) (Nat.lt_of_le_of_lt gl (Nat.lt_trans ml (by decide +kernel)))
      refine ⟨_, rfl, _, rfl, _, _, rfl, rfl, hc _, _, rfl, _, rfl, _, _, rfl, rfl, hc _, (by show 2 ≤ sizeLine; decide), fun p np => ?_⟩
      refine q _ _ _ _ (wr_good (wp (by omega)) (Nat.lt_trans ho (by decide +kernel)) (Nat.lt_trans ml (by decide +kernel))) ⟨p, rfl, SqT.of upd_same⟩ (B3.same (same_upd np)) (t123.trans (But.of (same_upd np)))
end
end My

set_option Elab.async false
set_option linter.all false
set_option maxRecDepth 100000
namespace My
open PySem PySem.Spec PyProof.Rows L2
section
variable {P : Program} {w : World} {K : PySem.W.Frag} {mg : Str → Option Value} {base : Heap}
theorem ok_near {f fD fO fG : Addr} {fd fdD fdO fdG : FuncData} {k : Nat} (F : Fun K "_law_near" "_law_near" sLawNear f fd) (D : Cal P w K mg base "_law_draw" (k + 1) ["bag", "size"] (spDraw K) fD fdD) (O : Cal P w K mg base "_law_of" (k + 2) ["bag", "things"] (spOf K) fO fdO) (G : Cal P w K mg base "_law_gcd" (k + 1) ["x", "y"] spGcd fG fdG) (b_abs : mg "abs" = none) :
    FnOk P w K mg base CX0 (k + 3) f fd ["bag", "limit"] (spNear K) := by
  refine F.ok scLawNear (fun vs H Q E h => ?_) (fun cdv A outer s H vs Q E hr h => ?_)
  · obtain ⟨b, rfl, _⟩ := h
    rfl
  · obtain ⟨b, rfl, B, q⟩ := h
    have hr1 : Room (k + 1) _ := hr.mono (by omega)
    have hL : (1000000 : Int) < LIM ∧ LIM.natAbs * 10 < 10 ^ 202 := by decide +kernel
    revert hL
    generalize LIM = L
    intro hL
    obtain ⟨hL0, hL1⟩ := hL
    refine ⟨_, (pss_cons (ps_set (i := 2) scLawNear.nd rfl (.inl rfl) (pe_call O.ok hr rfl O.g O.kp O.b .nil pass0 (pa_cons (pv 0) (pa_cons (pe_lst (pa_cons (pv 1) (pa_cons (pe_op op_sub (pv 1) pe_int) (pa_cons (pe_op op_add (pv 1) pe_int) (pa_cons (pe_op op_fdivW (pv 1) pe_int) (pa_cons (pe_op op_mulG (pv 1) pe_int) (pa_cons (pe_op op_sub (pe_op op_sub (pv 1) pe_int) (pe_call D.ok hr1 rfl D.g D.kp D.b .nil pass0 (pa_cons (pv 0) (pa_cons pe_int pa_nil)))) pa_nil))))))) pa_nil))))
      (C8.pss_cut (ps_if (pt_cmpR op_eq (pe_call D.ok hr1 rfl D.g D.kp D.b .nil pass0 (pa_cons (pv 0) (pa_cons pe_int pa_nil))) pe_int (nomark _)) (pss_one (ps_set (i := 2) scLawNear.nd rfl (.inl rfl) (pe_op op_sub pe_int (pv 2)))) pss_nil)
      (pss_cons (ps_if (pt_cmpR op_eq (pe_call D.ok hr1 rfl D.g D.kp D.b .nil pass0 (pa_cons (pv 0) (pa_cons pe_int pa_nil))) pe_int (nomark _)) (pss_cons (ps_set (i := 3) scLawNear.nd rfl (.inl rfl) (pe_call O.ok hr rfl O.g O.kp O.b .nil pass0 (pa_cons (pv 0) (pa_cons (pe_lst (pa_cons pe_int (pa_cons pe_int (pa_cons pe_int (pa_cons pe_int (pa_cons pe_int pa_nil)))))) pa_nil))))
        (pss_cons (ps_set (i := 4) scLawNear.nd rfl (.inl rfl) (pe_call G.ok hr1 rfl G.g G.kp G.b .nil pass0 (pa_cons (pv 2) (pa_cons (pv 3) pa_nil))))
        (pss_one (ps_ret (pe_tup (pa_cons (pe_op op_divS (pv 2) (pv 4)) (pa_cons (pe_op op_divS (pv 3) (pv 4)) pa_nil))))))) pss_nil)
      (pss_one (ps_ret (pe_tup (pa_cons (pe_ifExp (pt_cmpR op_gt (pv 2) pe_int (nomark _)) pe_int (pe_op op_sub pe_int pe_int)) (pa_cons (pe_callB call_abs rfl b_abs (by decide +kernel) (pa_cons (pv 2) pa_nil)) pa_nil)))))))), ?_⟩
    refine ⟨_, rfl, _, rfl, _, rfl, _, _, rfl, rfl, _, rfl, _, _, rfl, rfl, _, rfl, _, _, rfl, rfl, wide_div (b := 10) (by decide) (by decide) (by decide) (by decide), _, rfl, _, _, rfl, rfl, mul_right (by decide +kernel), _, rfl, _, _, rfl, rfl, _, rfl, b, 1000, rfl, B, by decide, by decide, fun r H1 r0 r1 B1 t1 => ⟨_, _, rfl, rfl, (by show 6 ≤ sizeLine; decide), fun p np => ?_⟩⟩
    have B2 := B1.same (same_upd (o := .lst [.int L, .int (L - 1), .int (L + 1), .int (L / 10), .int (L * 10), .int (L - 1 - r)]) np)
    refine ⟨b, p, _, rfl, B2, bag_ne B1 np, SqL.of upd_same, (by show 0 < 6; decide), (by show 6 < 1000; decide), fun v H3 hv B3 t3 => ?_⟩
    have t13 : But b H H3 := (t1.trans (But.of (same_upd np))).trans t3
    obtain ⟨n, rfl, hn, n0⟩ : ∃ n : Int, v = .int n ∧ n.natAbs < 10 ^ 202 ∧ n ≠ 0 := by
      simp only [List.append_nil, List.mem_cons, List.not_mem_nil, or_false] at hv
      rcases hv with rfl | rfl | rfl | rfl | rfl | rfl <;> refine ⟨_, rfl, ?_, ?_⟩ <;> omega
    refine ⟨fun σ' H' => ∃ (n : Int), σ' = [some (.ref b), some (.int L), some (.int n), none, none] ∧ n.natAbs < 10 ^ 202 ∧ n ≠ 0 ∧ BagAt K H' b ∧ But b H H', ?_, ?_⟩
    · refine ⟨_, rfl, b, 2, rfl, B3, by decide, by decide, fun d H4 d0 d1 B4 t4 => ⟨rfl, _, rfl, ite2 (fun _ => ?_) (fun _ => ?_)⟩⟩
      · exact ⟨_, rfl, _, _, rfl, rfl, 0 - n, rfl, by omega, by omega, B4, t13.trans t4⟩
      · exact ⟨n, rfl, hn, n0, B4, t13.trans t4⟩
    · rintro σ' H' ⟨n, rfl, hn, n0, B', t'⟩
      refine ⟨_, rfl, b, 2, rfl, B', by decide, by decide, fun d H4 d0 d1 B4 t4 => ⟨rfl, _, rfl, ite2 (fun _ => ?_) (fun _ => ?_)⟩⟩
      · refine ⟨_, rfl, (by show 5 ≤ sizeLine; decide), fun p np => ?_⟩
        have B5 := B4.same (same_upd (o := .lst [.int 1, .int 1, .int 2, .int 3, .int 7]) np)
        refine ⟨b, p, _, rfl, B5, bag_ne B4 np, SqL.of upd_same, (by show 0 < 5; decide), (by show 5 < 1000; decide), fun v H6 hv B6 t6 => ?_⟩
        have t16 : But b H H6 := ((t'.trans t4).trans (But.of (same_upd np))).trans t6
        obtain ⟨m, rfl, hm, m0⟩ : ∃ m : Int, v = .int m ∧ m.natAbs < 10 ∧ 0 < m := by
          simp only [List.append_nil, List.mem_cons, List.not_mem_nil, or_false] at hv
          rcases hv with rfl | rfl | rfl | rfl | rfl <;> exact ⟨_, rfl, by decide, by decide⟩
        refine ⟨_, rfl, _, rfl, _, _, rfl, ?_⟩
        obtain ⟨g0, gl, wn, wp⟩ := wr_make (t := n) (b := m) (by omega) rfl
        revert g0 gl wn wp
        generalize ((Nat.gcd n.natAbs m.natAbs : Nat) : Int) = g
        intro g0 gl wn wp
        have hc : ∀ i, CDivS i g := fun i => divs (by omega) (Nat.lt_of_le_of_lt gl (Nat.lt_trans hm (by decide +kernel)))
        refine ⟨_, rfl, _, rfl, _, _, rfl, rfl, hc _, _, rfl, _, rfl, _, _, rfl, rfl, hc _, (by show 2 ≤ sizeLine; decide), fun p np => ?_⟩
        exact q _ _ _ _ (wr_good (wp (by omega)) hn (Nat.lt_trans hm (by decide +kernel))) ⟨p, rfl, SqT.of upd_same⟩ (B6.same (same_upd np)) (t16.trans (But.of (same_upd np)))
      · have gd : ∀ z : Int, z.natAbs = 1 → Good z (n.natAbs : Int) := fun z hz => ⟨by omega, by rw [hz]; exact Nat.gcd_one_left _, by rw [hz]; decide +kernel, by
          show ((n.natAbs : Nat) : Int).natAbs < _
          rw [Int.natAbs_natCast]
          exact Nat.lt_trans hn (by decide +kernel)⟩
        refine ⟨_, rfl, _, _, rfl, rfl, _, rfl, ite2 (fun _ => ?_) (fun _ => ?_)⟩
        · refine ⟨_, rfl, _, rfl, (by show 2 ≤ sizeLine; decide), fun p np => ?_⟩
          rw [abs_if]
          exact q _ 1 _ _ (gd 1 rfl) ⟨p, rfl, SqT.of upd_same⟩ (B4.same (same_upd np)) ((t'.trans t4).trans (But.of (same_upd np)))
        · refine ⟨_, _, rfl, rfl, _, rfl, _, rfl, (by show 2 ≤ sizeLine; decide), fun p np => ?_⟩
          rw [abs_if]
          exact q _ (0 - 1) _ _ (gd (0 - 1) rfl) ⟨p, rfl, SqT.of upd_same⟩ (B4.same (same_upd np)) ((t'.trans t4).trans (But.of (same_upd np)))
end
end My

set_option Elab.async false
set_option linter.all false
set_option maxRecDepth 100000
namespace My
open PySem PySem.Spec PyProof.Rows L2
abbrev sLawPairSo : Stmt := topS 22
theorem scLawPairSo : FnScope ["x", "y", "cross"] ["x", "y"] (defScope sLawPairSo) := ⟨rfl, rfl, rfl, by decide +kernel, rfl, by decide +kernel, by decide +kernel⟩
def spPair (K : PySem.W.Frag) : Sp := fun vs H Q _ => ∃ v w x0 x1 y0 y1, vs = [v, w] ∧ IsW K H v x0 x1 ∧ IsW K H w y0 y1 ∧ Good x0 x1 ∧ Good y0 y1 ∧ ∀ H', Same H H' → Q (.bl true) H'
theorem mok7 {i j : Int} (ha : i.natAbs < 2 ^ 700) (hb : j.natAbs < 2 ^ 700) : IntMulOk i j := (wide_mul ha hb (by decide) (by decide) (by decide)).ok
theorem sml7 {x : Int} (h : x.natAbs < 2 ^ 700) : Sml x := Nat.lt_trans h (by decide +kernel)
theorem m14 {i j : Int} (ha : i.natAbs < 2 ^ 700) (hb : j.natAbs < 2 ^ 700) : (i * j).natAbs < 2 ^ 1400 := wide_lt ha hb
theorem mid14 {x : Int} (h : x.natAbs < 2 ^ 1400) : Mid29 x := Nat.lt_trans h (by decide +kernel)
theorem pow14 : 2 ^ 1400 + 2 ^ 1400 < 2 ^ 2900 := by decide +kernel
theorem mid14p {x y : Int} (h : x.natAbs < 2 ^ 1400) (h' : y.natAbs < 2 ^ 1400) : Mid29 (x + y) := by
  have e := pow14
  show (x + y).natAbs < 2 ^ 2900
  revert h h' e
  generalize 2 ^ 1400 = M
  generalize 2 ^ 2900 = N
  intro h h' e
  omega
theorem mid14m {x y : Int} (h : x.natAbs < 2 ^ 1400) (h' : y.natAbs < 2 ^ 1400) : Mid29 (x - y) := by
  have e := pow14
  show (x - y).natAbs < 2 ^ 2900
  revert h h' e
  generalize 2 ^ 1400 = M
  generalize 2 ^ 2900 = N
  intro h h' e
  omega
theorem wr_sml {t b x y : Int} (W : WR t b x y) (ht : Mid29 t) (hb : Mid29 b) : Sml x ∧ Sml y := by
  have e : 2 ^ 2900 + 1 < 2 ^ 3000 := by decide +kernel
  have h1 := W.lx
  have h2 := W.ly
  show x.natAbs < 2 ^ 3000 ∧ y.natAbs < 2 ^ 3000
  have ht' : t.natAbs < 2 ^ 2900 := ht
  have hb' : b.natAbs < 2 ^ 2900 := hb
  revert ht' hb' e
  generalize 2 ^ 2900 = M
  generalize 2 ^ 3000 = N
  intro e ht' hb'
  omega
theorem paired_get {α β : Type} {F : α → β → Prop} {xs : List α} {ys : List β} (p : Paired F xs ys) : ∀ (i : Nat) x y, xs[i]? = some x → ys[i]? = some y → F x y := by
  induction p with
  | nil => intro i x y h _; simp at h
  | cons h t ih =>
    intro i x y h1 h2
    cases i with
    | zero =>
      cases h1
      cases h2
      exact h
    | succ i => exact ih i x y h1 h2
theorem Lk.lst {K : PySem.W.Frag} {H : Hp} {n : Nat} {a b : Addr} {xs ys : List V} (hx : SqL K H a xs) (hy : SqL K H b ys) (hb : xs.length < 1000) (p : Paired (Lk K H n) xs ys) : Lk K H (n + 1) (.ref a) (.ref b) :=
  .inr ⟨a, b, xs, ys, rfl, rfl, .inl ⟨hx, hy⟩, p.length, hb, paired_get p⟩
theorem Lk.tup {K : PySem.W.Frag} {H : Hp} {n : Nat} {a b : Addr} {xs ys : List V} (hx : SqT K H a xs) (hy : SqT K H b ys) (hb : xs.length < 1000) (p : Paired (Lk K H n) xs ys) : Lk K H (n + 1) (.ref a) (.ref b) :=
  .inr ⟨a, b, xs, ys, rfl, rfl, .inr ⟨hx, hy⟩, p.length, hb, paired_get p⟩
theorem Lk.worth {K : PySem.W.Frag} {H : Hp} {n : Nat} {v w : V} {x y x' y' : Int} (h : IsW K H v x y) (h' : IsW K H w x' y') (e : x = x' ∧ y = y') : Lk K H (n + 1) v w := by
  obtain ⟨rfl, rfl⟩ := e
  obtain ⟨a, rfl, h⟩ := h
  obtain ⟨b, rfl, h'⟩ := h'
  exact .tup h h' (by show 2 < 1000; decide) (.cons (.flat rfl trivial) (.cons (.flat rfl trivial) .nil))
section
variable {P : Program} {w : World} {K : PySem.W.Frag} {mg : Str → Option Value} {base : Heap}
set_option maxHeartbeats 1000000 in
theorem ok_pair_so {f fPl fMi fPr fQu fLe fSo fLi : Addr} {fd fdPl fdMi fdPr fdQu fdLe fdSo fdLi : FuncData} (F : Fun K "_law_pair_so" "_law_pair_so" sLawPairSo f fd)
    (Pl : Cal P w K mg base "plus" 2 ["a", "b"] (spPlus K) fPl fdPl) (Mi : Cal P w K mg base "minus" 2 ["a", "b"] (spMinus K) fMi fdMi) (Pr : Cal P w K mg base "product" 2 ["a", "b"] (spProduct K) fPr fdPr) (Qu : Cal P w K mg base "quotient" 2 ["a", "b"] (spQuotient K) fQu fdQu)
    (Le : Cal P w K mg base "is_less" 1 ["a", "b"] (spLess K) fLe fdLe) (So : Cal P w K mg base "_law_so" 2 ["told", "over", "under"] (spSo K) fSo fdSo) (Li : Cal P w K mg base "_law_like" 3 ["told", "due"] (spLike K 2) fLi fdLi) :
    FnOk P w K mg base CX0 4 f fd ["x", "y"] (spPair K) := by
  refine F.ok scLawPairSo (fun vs H Q E h => ?_) (fun cdv A outer s H vs Q E hr h => ?_)
  · obtain ⟨v, w', x0, x1, y0, y1, rfl, _⟩ := h
    rfl
  · obtain ⟨v, w', x0, x1, y0, y1, rfl, IA, IB, ga, gb, q⟩ := h
    obtain ⟨a, rfl, hA⟩ := id IA
    obtain ⟨b, rfl, hB⟩ := id IB
    have h0 := ga.bx
    have h1 := ga.by'
    have h2 := gb.bx
    have h3 := gb.by'
    have s0 : Sml x0 := sml7 h0
    have s1 : Sml x1 := sml7 h1
    have s2 : Sml y0 := sml7 h2
    have s3 : Sml y1 := sml7 h3
    have px := ga.pos
    have py := gb.pos
    have d0 : Mid29 (x1 * y1) := mid14 (m14 h1 h3)
    have d1 : Mid29 (x0 * y1 + y0 * x1) := mid14p (m14 h0 h3) (m14 h2 h1)
    have d2 : Mid29 (x0 * y1 - y0 * x1) := mid14m (m14 h0 h3) (m14 h2 h1)
    have d3 : Mid29 (x0 * y0) := mid14 (m14 h0 h2)
    have d4 : Mid29 (x0 * y1) := mid14 (m14 h0 h3)
    have d5 : Mid29 (x1 * y0) := mid14 (m14 h1 h2)
    refine ⟨_, (pss_cons (ps_set (i := 2) scLawPairSo.nd rfl (.inl rfl) (pe_op op_sub (pe_op op_mulG (pe_ix ix_tup (pv 0) pe_int (fun _ _ => rfl)) (pe_ix ix_tup (pv 1) pe_int (fun _ _ => rfl))) (pe_op op_mulG (pe_ix ix_tup (pv 1) pe_int (fun _ _ => rfl)) (pe_ix ix_tup (pv 0) pe_int (fun _ _ => rfl)))))
      (pss_cons (ps_if (PW.pt (pw_or (pt_not (pt_val (pe_call So.ok (hr.mono (by omega)) rfl So.g So.kp So.b .nil pass0 (pa_cons (pe_call Pl.ok (hr.mono (by omega)) rfl Pl.g Pl.kp Pl.b .nil pass0 (pa_cons (pv 0) (pa_cons (pv 1) pa_nil))) (pa_cons (pe_op op_add (pe_op op_mulG (pe_ix ix_tup (pv 0) pe_int (fun _ _ => rfl)) (pe_ix ix_tup (pv 1) pe_int (fun _ _ => rfl))) (pe_op op_mulG (pe_ix ix_tup (pv 1) pe_int (fun _ _ => rfl)) (pe_ix ix_tup (pv 0) pe_int (fun _ _ => rfl)))) (pa_cons (pe_op op_mulG (pe_ix ix_tup (pv 0) pe_int (fun _ _ => rfl)) (pe_ix ix_tup (pv 1) pe_int (fun _ _ => rfl))) pa_nil)))))) (pw_or1 (pt_not (pt_val (pe_call So.ok (hr.mono (by omega)) rfl So.g So.kp So.b .nil pass0 (pa_cons (pe_call Mi.ok (hr.mono (by omega)) rfl Mi.g Mi.kp Mi.b .nil pass0 (pa_cons (pv 0) (pa_cons (pv 1) pa_nil))) (pa_cons (pv 2) (pa_cons (pe_op op_mulG (pe_ix ix_tup (pv 0) pe_int (fun _ _ => rfl)) (pe_ix ix_tup (pv 1) pe_int (fun _ _ => rfl))) pa_nil))))))))) (pss_one (ps_ret pe_bl)) pss_nil)
      (pss_cons (ps_if (PW.pt (pw_or (pt_not (pt_val (pe_call So.ok (hr.mono (by omega)) rfl So.g So.kp So.b .nil pass0 (pa_cons (pe_call Pr.ok (hr.mono (by omega)) rfl Pr.g Pr.kp Pr.b .nil pass0 (pa_cons (pv 0) (pa_cons (pv 1) pa_nil))) (pa_cons (pe_op op_mulG (pe_ix ix_tup (pv 0) pe_int (fun _ _ => rfl)) (pe_ix ix_tup (pv 1) pe_int (fun _ _ => rfl))) (pa_cons (pe_op op_mulG (pe_ix ix_tup (pv 0) pe_int (fun _ _ => rfl)) (pe_ix ix_tup (pv 1) pe_int (fun _ _ => rfl))) pa_nil)))))) (pw_or1 (pt_not (pt_val (pe_call So.ok (hr.mono (by omega)) rfl So.g So.kp So.b .nil pass0 (pa_cons (pe_call Qu.ok (hr.mono (by omega)) rfl Qu.g Qu.kp Qu.b .nil pass0 (pa_cons (pv 0) (pa_cons (pv 1) pa_nil))) (pa_cons (pe_op op_mulG (pe_ix ix_tup (pv 0) pe_int (fun _ _ => rfl)) (pe_ix ix_tup (pv 1) pe_int (fun _ _ => rfl))) (pa_cons (pe_op op_mulG (pe_ix ix_tup (pv 0) pe_int (fun _ _ => rfl)) (pe_ix ix_tup (pv 1) pe_int (fun _ _ => rfl))) pa_nil))))))))) (pss_one (ps_ret pe_bl)) pss_nil)
      (pss_cons (ps_if (pt_not (pt_val (pe_call Li.ok (hr.mono (by omega)) rfl Li.g Li.kp Li.b .nil pass0 (pa_cons (pe_lst (pa_cons (pe_call Le.ok (hr.mono (by omega)) rfl Le.g Le.kp Le.b .nil pass0 (pa_cons (pv 0) (pa_cons (pv 1) pa_nil))) (pa_cons (pe_call Le.ok (hr.mono (by omega)) rfl Le.g Le.kp Le.b .nil pass0 (pa_cons (pv 1) (pa_cons (pv 0) pa_nil))) (pa_cons (pe_call Le.ok (hr.mono (by omega)) rfl Le.g Le.kp Le.b .nil pass0 (pa_cons (pv 0) (pa_cons (pv 0) pa_nil))) pa_nil)))) (pa_cons (pe_lst (pa_cons (pe_cmpR op_lt (pv 2) pe_int (nomark _)) (pa_cons (pe_cmpR op_gt (pv 2) pe_int (nomark _)) (pa_cons pe_bl pa_nil)))) pa_nil))))) (pss_one (ps_ret pe_bl)) pss_nil)
      (pss_cons (ps_if (pt_not (pt_val (pe_call Li.ok (hr.mono (by omega)) rfl Li.g Li.kp Li.b .nil pass0 (pa_cons (pe_lst (pa_cons (pe_call Mi.ok (hr.mono (by omega)) rfl Mi.g Mi.kp Mi.b .nil pass0 (pa_cons (pe_call Pl.ok (hr.mono (by omega)) rfl Pl.g Pl.kp Pl.b .nil pass0 (pa_cons (pv 0) (pa_cons (pv 1) pa_nil))) (pa_cons (pv 1) pa_nil))) (pa_cons (pe_call Pl.ok (hr.mono (by omega)) rfl Pl.g Pl.kp Pl.b .nil pass0 (pa_cons (pe_call Mi.ok (hr.mono (by omega)) rfl Mi.g Mi.kp Mi.b .nil pass0 (pa_cons (pv 0) (pa_cons (pv 1) pa_nil))) (pa_cons (pv 1) pa_nil))) pa_nil))) (pa_cons (pe_lst (pa_cons (pv 0) (pa_cons (pv 0) pa_nil))) pa_nil))))) (pss_one (ps_ret pe_bl)) pss_nil)
      (pss_one (ps_ret (pe_or (pe_cmpR op_eq (pe_ix ix_tup (pv 1) pe_int (fun _ _ => rfl)) pe_int (nomark _)) (pe_one (pe_call Li.ok (hr.mono (by omega)) rfl Li.g Li.kp Li.b .nil pass0 (pa_cons (pe_lst (pa_cons (pe_call Qu.ok (hr.mono (by omega)) rfl Qu.g Qu.kp Qu.b .nil pass0 (pa_cons (pe_call Pr.ok (hr.mono (by omega)) rfl Pr.g Pr.kp Pr.b .nil pass0 (pa_cons (pv 0) (pa_cons (pv 1) pa_nil))) (pa_cons (pv 1) pa_nil))) (pa_cons (pe_call Pr.ok (hr.mono (by omega)) rfl Pr.g Pr.kp Pr.b .nil pass0 (pa_cons (pe_call Qu.ok (hr.mono (by omega)) rfl Qu.g Qu.kp Qu.b .nil pass0 (pa_cons (pv 0) (pa_cons (pv 1) pa_nil))) (pa_cons (pv 1) pa_nil))) pa_nil))) (pa_cons (pe_lst (pa_cons (pv 0) (pa_cons (pv 0) pa_nil))) pa_nil)))))))))))), ?_⟩
    -- cross
    refine ⟨_, rfl, a, _, 0, _, rfl, rfl, hA, atI_nat (j := 0) rfl, _, rfl, b, _, 1, _, rfl, rfl, hB, atI_nat (j := 1) rfl, _, _, rfl, rfl, mok7 (by assumption) (by assumption), _, rfl, b, _, 0, _, rfl, rfl, hB, atI_nat (j := 0) rfl, _, rfl, a, _, 1, _, rfl, rfl, hA, atI_nat (j := 1) rfl, _, _, rfl, rfl, mok7 (by assumption) (by assumption), _, _, rfl, rfl, ?_⟩
    -- plus
    refine ⟨_, rfl, _, rfl, _, _, x0, x1, y0, y1, rfl, IA, IB, s0, s1, s2, s3, fun r p0 p1 H1 W1 I1 t1 => ?_⟩
    have A1 := seqT_same t1 hA
    have B1 := seqT_same t1 hB
    refine ⟨_, rfl, a, _, 0, _, rfl, rfl, A1, atI_nat (j := 0) rfl, _, rfl, b, _, 1, _, rfl, rfl, B1, atI_nat (j := 1) rfl, _, _, rfl, rfl, mok7 (by assumption) (by assumption), _, rfl, b, _, 0, _, rfl, rfl, B1, atI_nat (j := 0) rfl, _, rfl, a, _, 1, _, rfl, rfl, A1, atI_nat (j := 1) rfl, _, _, rfl, rfl, mok7 (by assumption) (by assumption), _, _, rfl, rfl, _, rfl, a, _, 1, _, rfl, rfl, A1, atI_nat (j := 1) rfl, _, rfl, b, _, 1, _, rfl, rfl, B1, atI_nat (j := 1) rfl, _, _, rfl, rfl, mok7 (by assumption) (by assumption), r, p0, p1, _, _, rfl, I1, W1, d1, d0, fun H2 t2 => ⟨_, rfl, iteF ?_⟩⟩
    have u2 := t1.trans t2
    -- minus
    refine ⟨_, rfl, _, rfl, _, _, x0, x1, y0, y1, rfl, IA.same u2, IB.same u2, s0, s1, s2, s3, fun r p0 p1 H3 W3 I3 t3 => ?_⟩
    have u3 := u2.trans t3
    have A1 := seqT_same u3 hA
    have B1 := seqT_same u3 hB
    refine ⟨_, rfl, _, rfl, a, _, 1, _, rfl, rfl, A1, atI_nat (j := 1) rfl, _, rfl, b, _, 1, _, rfl, rfl, B1, atI_nat (j := 1) rfl, _, _, rfl, rfl, mok7 (by assumption) (by assumption), r, p0, p1, _, _, rfl, I3, W3, d2, d0, fun H4 t4 => ⟨_, rfl, iteF ?_⟩⟩
    have u4 := u3.trans t4
    -- product
    refine ⟨_, rfl, _, rfl, _, _, x0, x1, y0, y1, rfl, IA.same u4, IB.same u4, s0, s1, s2, s3, fun r p0 p1 H5 W5 I5 t5 => ?_⟩
    have u5 := u4.trans t5
    have A1 := seqT_same u5 hA
    have B1 := seqT_same u5 hB
    refine ⟨_, rfl, a, _, 0, _, rfl, rfl, A1, atI_nat (j := 0) rfl, _, rfl, b, _, 0, _, rfl, rfl, B1, atI_nat (j := 0) rfl, _, _, rfl, rfl, mok7 (by assumption) (by assumption), _, rfl, a, _, 1, _, rfl, rfl, A1, atI_nat (j := 1) rfl, _, rfl, b, _, 1, _, rfl, rfl, B1, atI_nat (j := 1) rfl, _, _, rfl, rfl, mok7 (by assumption) (by assumption), r, p0, p1, _, _, rfl, I5, W5, d3, d0, fun H6 t6 => ⟨_, rfl, iteF ?_⟩⟩
    have u6 := u5.trans t6
    -- quotient
    refine ⟨_, rfl, _, rfl, _, _, x0, x1, y0, y1, rfl, IA.same u6, IB.same u6, s0, s1, s2, s3, fun r p0 p1 H7 W7 I7 t7 => ?_⟩
    have u7 := u6.trans t7
    have A1 := seqT_same u7 hA
    have B1 := seqT_same u7 hB
    refine ⟨_, rfl, a, _, 0, _, rfl, rfl, A1, atI_nat (j := 0) rfl, _, rfl, b, _, 1, _, rfl, rfl, B1, atI_nat (j := 1) rfl, _, _, rfl, rfl, mok7 (by assumption) (by assumption), _, rfl, a, _, 1, _, rfl, rfl, A1, atI_nat (j := 1) rfl, _, rfl, b, _, 0, _, rfl, rfl, B1, atI_nat (j := 0) rfl, _, _, rfl, rfl, mok7 (by assumption) (by assumption), r, p0, p1, _, _, rfl, I7, W7, d4, d5, fun H8 t8 => ⟨_, rfl, iteF ?_⟩⟩
    have u8 := u7.trans t8
    -- the comparisons
    refine ⟨_, rfl, _, rfl, _, _, x0, x1, y0, y1, rfl, IA.same u8, IB.same u8, s0, s1, s2, s3, _, rfl, _, rfl, _, _, y0, y1, x0, x1, rfl, IB.same u8, IA.same u8, s2, s3, s0, s1, _, rfl, _, rfl, _, _, x0, x1, x0, x1, rfl, IA.same u8, IA.same u8, s0, s1, s0, s1, (by show 3 ≤ sizeLine; decide), fun l1 n1 => ?_⟩
    refine ⟨_, rfl, _, _, rfl, rfl, _, rfl, _, _, rfl, rfl, (by show 3 ≤ sizeLine; decide), fun l2 n2 => ?_⟩
    have v1 := same_upd (o := .lst [.bl (decide (x0 * y1 < y0 * x1)), .bl (decide (y0 * x1 < x0 * y1)), .bl (decide (x0 * x1 < x0 * x1))]) n1
    have v2 := same_upd (o := .lst [.bl (decide (x0 * y1 - y0 * x1 < 0)), .bl (decide (0 < x0 * y1 - y0 * x1)), .bl false]) n2
    refine ⟨.ref l1, .ref l2, rfl, .lst (v2.seq (SqL.of upd_same)) (SqL.of upd_same) (by show 3 < 1000; decide) (.cons (.flat ?_ trivial) (.cons (.flat ?_ trivial) (.cons (.flat ?_ trivial) .nil))), fun H9 t9 => ⟨_, rfl, iteF ?_⟩⟩
    · exact congrArg V.bl (decide_eq_decide.mpr (by omega))
    · exact congrArg V.bl (decide_eq_decide.mpr (by omega))
    · exact congrArg V.bl (decide_eq_false (Int.lt_irrefl _))
    have u9 := ((u8.trans v1).trans v2).trans t9
    -- there and back by sums
    refine ⟨_, rfl, _, rfl, _, _, x0, x1, y0, y1, rfl, IA.same u9, IB.same u9, s0, s1, s2, s3, fun r1 p0 p1 G1 P1 J1 e1 => ?_⟩
    obtain ⟨z0, z1⟩ := wr_sml P1 d1 d0
    have w1 := u9.trans e1
    refine ⟨_, rfl, _, _, p0, p1, y0, y1, rfl, J1, IB.same w1, z0, z1, s2, s3, fun r2 m0 m1 G2 M1 J2 e2 => ?_⟩
    have w2 := w1.trans e2
    refine ⟨_, rfl, _, rfl, _, _, x0, x1, y0, y1, rfl, IA.same w2, IB.same w2, s0, s1, s2, s3, fun r3 p2 p3 G3 P3 J3 e3 => ?_⟩
    obtain ⟨z0, z1⟩ := wr_sml P3 d2 d0
    have w3 := w2.trans e3
    refine ⟨_, rfl, _, _, p2, p3, y0, y1, rfl, J3, IB.same w3, z0, z1, s2, s3, fun r4 m2 m3 G4 M3 J4 e4 => ⟨(by show 2 ≤ sizeLine; decide), fun l3 n3 => ?_⟩⟩
    have w4 := w3.trans e4
    refine ⟨_, rfl, _, rfl, (by show 2 ≤ sizeLine; decide), fun l4 n4 => ?_⟩
    have v3 := same_upd (o := .lst [r2, r4]) n3
    have v4 := same_upd (o := .lst [.ref a, .ref a]) n4
    have w5 := (w4.trans v3).trans v4
    have f1 := wr_back px py ga.low P1 M1
    have f2 := wr_back' px py ga.low P3 M3
    refine ⟨.ref l3, .ref l4, rfl, .lst (v4.seq (SqL.of upd_same)) (SqL.of upd_same) (by show 2 < 1000; decide) (.cons (.worth (J2.same (((e3.trans e4).trans v3).trans v4)) (IA.same w5) f1) (.cons (.worth (J4.same (v3.trans v4)) (IA.same w5) f2) .nil)), fun G6 t10 => ⟨_, rfl, iteF ?_⟩⟩
    have w6 := w5.trans t10
    -- there and back by products
    have B6 := seqT_same w6 hB
    refine ⟨_, rfl, b, _, 0, _, rfl, rfl, B6, atI_nat (j := 0) rfl, rfl, _, rfl, ite2 (fun _ => ?_) (fun c => ?_)⟩
    · exact q _ w6
    · have y00 : y0 ≠ 0 := fun z => c (decide_eq_true (by rw [z]))
      refine ⟨_, rfl, _, rfl, _, _, x0, x1, y0, y1, rfl, IA.same w6, IB.same w6, s0, s1, s2, s3, fun r1 p0 p1 G1 P1 J1 e1 => ?_⟩
      obtain ⟨z0, z1⟩ := wr_sml P1 d3 d0
      have w1 := w6.trans e1
      refine ⟨_, rfl, _, _, p0, p1, y0, y1, rfl, J1, IB.same w1, z0, z1, s2, s3, fun r2 m0 m1 G2 M1 J2 e2 => ?_⟩
      have w2 := w1.trans e2
      refine ⟨_, rfl, _, rfl, _, _, x0, x1, y0, y1, rfl, IA.same w2, IB.same w2, s0, s1, s2, s3, fun r3 p2 p3 G3 P3 J3 e3 => ?_⟩
      obtain ⟨z0, z1⟩ := wr_sml P3 d4 d5
      have w3 := w2.trans e3
      refine ⟨_, rfl, _, _, p2, p3, y0, y1, rfl, J3, IB.same w3, z0, z1, s2, s3, fun r4 m2 m3 G4 M3 J4 e4 => ⟨(by show 2 ≤ sizeLine; decide), fun l3 n3 => ?_⟩⟩
      have w4 := w3.trans e4
      refine ⟨_, rfl, _, rfl, (by show 2 ≤ sizeLine; decide), fun l4 n4 => ?_⟩
      have v3 := same_upd (o := .lst [r2, r4]) n3
      have v4 := same_upd (o := .lst [.ref a, .ref a]) n4
      have w5 := (w4.trans v3).trans v4
      have f1 := wr_back2 px py y00 ga.low P1 M1
      have f2 := wr_back2' px py y00 ga.low P3 M3
      refine ⟨.ref l3, .ref l4, rfl, .lst (v4.seq (SqL.of upd_same)) (SqL.of upd_same) (by show 2 < 1000; decide) (.cons (.worth (J2.same (((e3.trans e4).trans v3).trans v4)) (IA.same w5) f1) (.cons (.worth (J4.same (v3.trans v4)) (IA.same w5) f2) .nil)), fun G6 t10 => ?_⟩
      exact q _ (w5.trans t10)
end
end My

set_option Elab.async false
set_option linter.all false
set_option maxRecDepth 100000
namespace My
open PySem PySem.Spec PyProof.Rows L2
abbrev sLaw : Stmt := topS 23
theorem scLaw : FnScope ["script", "bag", "limit", "lap", "over", "under", "times", "x", "y", "low"] ["script"] (defScope sLaw) := ⟨rfl, rfl, rfl, by decide +kernel, rfl, by decide +kernel, by decide +kernel⟩
def spLaw (K : PySem.W.Frag) : Sp := fun vs H Q _ => ∃ (a : Addr) (ns : List Int), vs = [.ref a] ∧ SqL K H a (ns.map V.int) ∧ ns.length ≤ 63 ∧ ∀ H', Q (.bl true) H'
theorem bindK2 {K : PySem.W.Frag} {f : Addr} {fd : FuncData} (F : FunW K f fd) : KBn K fd ["top", "bottom"] 0 ["top", "bottom"] (fun _ ws => ws) (fun _ zs => zs) := by
  obtain ⟨oc, od, dV, kV, doc, pm, an, cdv, ct, osl, rfl, lk, hcd, hD, hK⟩ := F.ex
  rcases hD with ⟨e, _⟩ | ⟨_, T, o, its, m, rfl, lT, oT, rT⟩
  · cases e
  · refine ⟨fun s us ws X l1 l2 => ?_, fun r1 r2 => r2⟩
    match us, l1, ws, l2, its, rT.length with
    | [], _, [w0, w1], _, [d], _ => exact BindsTo.of_looks fun M => looks_items X lT oT (.of_pure rfl)
theorem IsW.but {K : PySem.W.Frag} {H H' : Hp} {v : V} {x y : Int} {b : Addr} (h : IsW K H v x y) (B : BagAt K H b) (t : But b H H') : IsW K H' v x y := by
  obtain ⟨a, rfl, h⟩ := h
  obtain ⟨c, ns, i, g, x', n, B⟩ := B
  refine ⟨a, rfl, ?_⟩
  rcases h with (h | ⟨o, h⟩) | h
  · exact .inl (.inl (t _ _ (ne_of h B.ob (by intro z; cases z)) h))
  · exact .inl (.inr ⟨o, t _ _ (ne_of h B.ob (by intro z; cases z)) h⟩)
  · exact .inr h
def LSt (a b : Addr) (σ : L2.St) : Prop := ∃ v3 v4 v5 v6 v7 v8 v9, σ = [some (.ref a), some (.ref b), some (.int LIM), v3, v4, v5, v6, v7, v8, v9]
theorem shaped2 (x y : Int) : SeqAt.shaped (.tuple [.int x, .int y]) = true := by rfl
theorem wr_int {x p q : Int} (W : WR x 1 p q) : p = x ∧ q = 1 := by
  have e := W.eq (by decide)
  exact low_uniq W.pos (by decide) W.low (by rw [show (1 : Int).natAbs = 1 from rfl]; exact Nat.gcd_one_right _) (by omega)
theorem wr_nought {b p q : Int} (W : WR 0 b p q) : p = 0 ∧ q = 1 := by
  by_cases hb : b = 0
  · exact W.z hb
  · have e := W.eq hb
    have hp : p = 0 := by
      rw [Int.zero_mul] at e
      rcases Int.mul_eq_zero.mp e with h | h
      · exact h
      · exact absurd h hb
    have l := W.low
    have p1 := W.pos
    rw [hp] at l
    simp at l
    exact ⟨hp, by omega⟩
theorem mid80 {x : Int} (h : x.natAbs < 10 ^ 80) : Mid29 x := Nat.lt_trans h (by decide +kernel)
theorem b80 {x : Int} (h : x.natAbs < 10 ^ 80) : x.natAbs < 2 ^ 700 := Nat.lt_trans h (by decide +kernel)
theorem b8000 {n m : Nat} (h : n < 2 ^ 1400) : n < 2 ^ 8000 := Nat.lt_trans h (by decide +kernel)
section
variable {P : Program} {w : World} {K : PySem.W.Frag} {mg : Str → Option Value} {base : Heap}
set_option maxHeartbeats 2000000 in
theorem ok_law {f fBa fD fO fLi fAm fSo fMa fNe fPa fW fFl fLa : Addr} {fd fdBa fdD fdO fdLi fdAm fdSo fdMa fdNe fdPa fdW fdFl fdLa : FuncData} (F : Fun K "law" "law" sLaw f fd)
    (Ba : Cal P w K mg base "_law_bag" 1 ["script"] (spBag K) fBa fdBa) (D : Cal P w K mg base "_law_draw" 1 ["bag", "size"] (spDraw K) fD fdD) (O : Cal P w K mg base "_law_of" 2 ["bag", "things"] (spOf K) fO fdO) (Li : Cal P w K mg base "_law_like" 3 ["told", "due"] (spLike K 2) fLi fdLi)
    (Am : Cal P w K mg base "_law_amount" 3 ["bag"] (spAmount K) fAm fdAm) (So : Cal P w K mg base "_law_so" 2 ["told", "over", "under"] (spSo K) fSo fdSo) (Ma : Cal P w K mg base "_law_made" 4 ["bag"] (spMade K) fMa fdMa) (Ne : Cal P w K mg base "_law_near" 3 ["bag", "limit"] (spNear K) fNe fdNe)
    (Pa : Cal P w K mg base "_law_pair_so" 4 ["x", "y"] (spPair K) fPa fdPa) (W : Cal P w K mg base "worth" 1 ["top", "bottom"] (spWorth K) fW fdW) (FW : FunW K fW fdW) (Fl : Cal P w K mg base "floor_of" 1 ["a"] (spFloor K) fFl fdFl) (La : Cal P w K mg base "is_large" 1 ["a"] (spLarge K) fLa fdLa)
    {tk : Tok} (g_LIMIT : mg "LIMIT" = some (.int LIM tk)) (b_range : mg "range" = none) (b_isinstance : mg "isinstance" = none) (b_int : mg "int" = none) (b_bool : mg "bool" = none) (b_abs : mg "abs" = none) :
    FnOk P w K mg base CX0 5 f fd ["script"] (spLaw K) := by
  refine F.ok scLaw (fun vs H Q E h => ?_) (fun cdv A outer s H vs Q E hr h => ?_)
  · obtain ⟨a, ns, rfl, _⟩ := h
    rfl
  · obtain ⟨a, ns, rfl, hS, hl, q⟩ := h
    have WK1 := bindK FW
    have WK2 := bindK2 FW
    obtain ⟨ds1, rW1, bW1⟩ := bind1 FW
    refine ⟨_, (pss_cons (ps_set (i := 1) scLaw.nd rfl (.inl rfl) (pe_call Ba.ok (hr.mono (by omega)) rfl Ba.g Ba.kp Ba.b .nil pass0 (pa_cons (pv 0) pa_nil)))
      (pss_cons (ps_set (i := 2) scLaw.nd rfl (.inl rfl) (pe_op op_powG (pe_op op_powG pe_int pe_int) pe_int))
      (pss_cons (ps_if (pt_not (pt_val (pe_call Li.ok (hr.mono (by omega)) rfl Li.g Li.kp Li.b .nil pass0 (pa_cons (pe_glob (v := .int LIM) rfl g_LIMIT ⟨_, rfl⟩) (pa_cons (pv 2) pa_nil))))) (pss_one (ps_ret pe_bl)) pss_nil)
      (pss_cons (ps_for PassesOwn.never rfl (pi_range1 rfl b_range (pa_cons pe_int pa_nil)) (pg_name (i := 3) scLaw.nd rfl (.inl rfl))
        (pss_cons (ps_par (i := 4) (j := 5) rfl scLaw.nd rfl rfl (by decide) rfl rfl (pa_cons (pe_call Am.ok (hr.mono (by omega)) rfl Am.g Am.kp Am.b .nil pass0 (pa_cons (pv 1) pa_nil)) (pa_cons (pe_call Am.ok (hr.mono (by omega)) rfl Am.g Am.kp Am.b .nil pass0 (pa_cons (pv 1) pa_nil)) pa_nil)) rfl)
        (pss_cons (ps_if (PW.pt (pw_or (pt_not (pt_val (pe_call So.ok (hr.mono (by omega)) rfl So.g So.kp So.b .nil pass0 (pa_cons (pe_call W.ok (hr.mono (by omega)) rfl W.g W.kp W.b .nil pass0 (pa_cons (pv 4) (pa_cons (pv 5) pa_nil))) (pa_cons (pv 4) (pa_cons (pv 5) pa_nil)))))) (pw_or1 (pt_not (pt_val (pe_call So.ok (hr.mono (by omega)) rfl So.g So.kp So.b .nil pass0 (pa_cons (pe_callN0 W.ok (hr.mono (by omega)) rfl W.g W.kp WK1 pass0 (pk_cons (pv 5) (pk_cons (pv 4) pk_nil))) (pa_cons (pv 4) (pa_cons (pv 5) pa_nil))))))))) (pss_one (ps_ret pe_bl)) pss_nil)
        (pss_cons (ps_if (pt_not (pt_val (pe_call Li.ok (hr.mono (by omega)) rfl Li.g Li.kp Li.b .nil pass0 (pa_cons (pe_lst (pa_cons (pe_call W.ok (hr.mono (by omega)) rfl W.g W.kp bW1 rW1 pass0 (pa_cons (pv 4) pa_nil)) (pa_cons (pe_callN0 W.ok (hr.mono (by omega)) rfl W.g W.kp WK2 pass0 (pk_cons (pv 4) (pk_cons pe_int pk_nil))) (pa_cons (pe_call W.ok (hr.mono (by omega)) rfl W.g W.kp W.b .nil pass0 (pa_cons pe_int (pa_cons (pv 5) pa_nil))) pa_nil)))) (pa_cons (pe_lst (pa_cons (pe_tup (pa_cons (pv 4) (pa_cons pe_int pa_nil))) (pa_cons (pe_tup (pa_cons pe_int (pa_cons pe_int pa_nil))) (pa_cons (pe_tup (pa_cons pe_int (pa_cons pe_int pa_nil))) pa_nil)))) pa_nil))))) (pss_one (ps_ret pe_bl)) pss_nil)
        (pss_cons (ps_set (i := 6) scLaw.nd rfl (.inl rfl) (pe_call O.ok (hr.mono (by omega)) rfl O.g O.kp O.b .nil pass0 (pa_cons (pv 1) (pa_cons (pe_lst (pa_cons pe_int (pa_cons (pe_op op_sub pe_int pe_int) (pa_cons (pe_op op_powG pe_int pe_int) pa_nil)))) pa_nil))))
        (pss_one (ps_if (PW.pt (pw_and (pt_cmpR op_ne (pv 5) pe_int (nomark _)) (pw_and1 (pt_cmpR (op_neD hr.units) (pe_call W.ok (hr.mono (by omega)) rfl W.g W.kp W.b .nil pass0 (pa_cons (pe_op op_mulG (pv 4) (pv 6)) (pa_cons (pe_op op_mulG (pv 5) (pv 6)) pa_nil))) (pe_call W.ok (hr.mono (by omega)) rfl W.g W.kp W.b .nil pass0 (pa_cons (pv 4) (pa_cons (pv 5) pa_nil))) (nomark _))))) (pss_one (ps_ret pe_bl)) pss_nil)))))))
      (pss_cons (ps_for PassesOwn.never rfl (pi_range1 rfl b_range (pa_cons pe_int pa_nil)) (pg_name (i := 3) scLaw.nd rfl (.inl rfl))
        (pss_cons (ps_par (i := 7) (j := 8) rfl scLaw.nd rfl rfl (by decide) rfl rfl (pa_cons (pe_call Ma.ok (hr.mono (by omega)) rfl Ma.g Ma.kp Ma.b .nil pass0 (pa_cons (pv 1) pa_nil)) (pa_cons (pe_call Ma.ok (hr.mono (by omega)) rfl Ma.g Ma.kp Ma.b .nil pass0 (pa_cons (pv 1) pa_nil)) pa_nil)) rfl)
        (C8.pss_cut (ps_if (pt_cmpR op_eq (pe_call D.ok (hr.mono (by omega)) rfl D.g D.kp D.b .nil pass0 (pa_cons (pv 1) (pa_cons pe_int pa_nil))) pe_int (nomark _)) (pss_one (ps_set (i := 8) scLaw.nd rfl (.inl rfl) (pe_call Ne.ok (hr.mono (by omega)) rfl Ne.g Ne.kp Ne.b .nil pass0 (pa_cons (pv 1) (pa_cons (pv 2) pa_nil))))) pss_nil)
        (pss_cons (ps_if (PW.pt (pw_or (pt_not (pt_val (pe_call Pa.ok (hr.mono (by omega)) rfl Pa.g Pa.kp Pa.b .nil pass0 (pa_cons (pv 7) (pa_cons (pv 8) pa_nil))))) (pw_or1 (pt_not (pt_val (pe_call Pa.ok (hr.mono (by omega)) rfl Pa.g Pa.kp Pa.b .nil pass0 (pa_cons (pv 8) (pa_cons (pv 7) pa_nil)))))))) (pss_one (ps_ret pe_bl)) pss_nil)
        (pss_cons (ps_set (i := 9) scLaw.nd rfl (.inl rfl) (pe_call Fl.ok (hr.mono (by omega)) rfl Fl.g Fl.kp Fl.b .nil pass0 (pa_cons (pv 7) pa_nil)))
        (pss_one (ps_if (PW.pt (pw_or (pt_not (pt_val (pe_callB call_isi rfl b_isinstance (by decide +kernel) (pa_cons (pv 9) (pa_cons (pe_ty "int" rfl b_int (by decide +kernel)) pa_nil))))) (pw_or (pt_val (pe_callB call_isi rfl b_isinstance (by decide +kernel) (pa_cons (pv 9) (pa_cons (pe_ty "bool" rfl b_bool (by decide +kernel)) pa_nil)))) (pw_or (pt_not (pt_cmpR op_le (pe_op op_mulG (pv 9) (pe_ix ix_tup (pv 7) pe_int (fun _ _ => rfl))) (pe_ix ix_tup (pv 7) pe_int (fun _ _ => rfl)) (nomark _))) (pw_or1 (pt_not (pt_cmpR op_lt (pe_ix ix_tup (pv 7) pe_int (fun _ _ => rfl)) (pe_op op_mulG (pe_op op_add (pv 9) pe_int) (pe_ix ix_tup (pv 7) pe_int (fun _ _ => rfl))) (nomark _)))))))) (pss_one (ps_ret pe_bl)) pss_nil)))))))
      (pss_cons (ps_for PassesOwn.never rfl (pi_range1 rfl b_range (pa_cons pe_int pa_nil)) (pg_name (i := 3) scLaw.nd rfl (.inl rfl))
        (pss_cons (ps_set (i := 7) scLaw.nd rfl (.inl rfl) (pe_ifExp (pt_cmpR op_gt (pe_call D.ok (hr.mono (by omega)) rfl D.g D.kp D.b .nil pass0 (pa_cons (pv 1) (pa_cons pe_int pa_nil))) pe_int (nomark _)) (pe_call Ne.ok (hr.mono (by omega)) rfl Ne.g Ne.kp Ne.b .nil pass0 (pa_cons (pv 1) (pa_cons (pv 2) pa_nil))) (pe_call Ma.ok (hr.mono (by omega)) rfl Ma.g Ma.kp Ma.b .nil pass0 (pa_cons (pv 1) pa_nil))))
        (pss_one (ps_if (pt_not (pt_val (pe_call Li.ok (hr.mono (by omega)) rfl Li.g Li.kp Li.b .nil pass0 (pa_cons (pe_call La.ok (hr.mono (by omega)) rfl La.g La.kp La.b .nil pass0 (pa_cons (pv 7) pa_nil)) (pa_cons (pe_or (pe_cmpR op_ge (pe_callB call_abs rfl b_abs (by decide +kernel) (pa_cons (pe_ix ix_tup (pv 7) pe_int (fun _ _ => rfl)) pa_nil)) (pv 2) (nomark _)) (pe_one (pe_cmpR op_ge (pe_ix ix_tup (pv 7) pe_int (fun _ _ => rfl)) (pv 2) (nomark _)))) pa_nil))))) (pss_one (ps_ret pe_bl)) pss_nil))))
      (pss_one (ps_ret pe_bl)))))))), ?_⟩
    -- bag, limit
    refine ⟨_, rfl, a, ns, rfl, hS, fun b H1 s1 B1 _ => ?_⟩
    have eL : ((10 : Int) ^ (50 : Int).toNat) ^ (4 : Int).toNat = LIM := by decide +kernel
    refine ⟨_, _, rfl, rfl, ⟨by decide, by decide +kernel⟩, _, _, rfl, rfl, ⟨by decide, by decide +kernel⟩, ?_⟩
    dsimp only
    rw [eL]
    refine ⟨_, rfl, _, _, rfl, .flat rfl trivial, fun H2 s2 => ⟨_, rfl, iteF ?_⟩⟩
    have B2 := B1.same s2
    -- the first loop
    refine ⟨4, rfl, by decide, by decide, for_range (n := 4) (fun i σ H' => LSt a b σ ∧ BagAt K H' b) ⟨⟨_, _, _, _, _, _, _, rfl⟩, B2⟩ ?_ ?_⟩
    · rintro i σ G0 hi ⟨⟨v3, v4, v5, v6, v7, v8, v9, rfl⟩, B0⟩
      refine ⟨_, rfl, b, rfl, B0, fun ov G1 ho C1 t1 => ⟨_, rfl, b, rfl, C1, fun un G2 hu C2 t2 => ⟨_, _, rfl, ?_⟩⟩⟩
      have mo := mid80 ho
      have mu := mid80 hu
      have bo := b80 ho
      have bu := b80 hu
      have bu8 : un.natAbs < 2 ^ 8000 := Nat.lt_trans bu (by decide +kernel)
      refine ⟨_, rfl, _, rfl, ov, un, rfl, bu8, fun r1 p0 p1 G3 W3 I3 t3 => ⟨_, rfl, _, rfl, r1, p0, p1, ov, un, rfl, I3, W3, mo, mu, fun G4 t4 => ⟨_, rfl, iteF ?_⟩⟩⟩
      refine ⟨_, rfl, _, rfl, rfl, rfl, ov, un, rfl, bu8, fun r1 p0 p1 G5 W5 I5 t5 => ⟨_, rfl, _, rfl, r1, p0, p1, ov, un, rfl, I5, W5, mo, mu, fun G6 t6 => ⟨_, rfl, iteF ?_⟩⟩⟩
      have C6 := (((C2.same t3).same t4).same t5).same t6
      refine ⟨_, rfl, ov, 1, rfl, by decide +kernel, fun r1 a0 a1 G7 W7 I7 t7 => ⟨_, rfl, rfl, rfl, ov, 0, rfl, by decide +kernel, fun r2 c0 c1 G8 W8 I8 t8 => ⟨_, rfl, 0, un, rfl, bu8, fun r3 e0 e1 G9 W9 I9 t9 => ⟨(by show 3 ≤ sizeLine; decide), fun l1 n1 => ?_⟩⟩⟩⟩
      have C9 := ((C6.same t7).same t8).same t9
      refine ⟨_, rfl, (by show 2 ≤ sizeLine; decide), fun q1 m1 => ⟨(by show 2 ≤ sizeLine; decide), fun q2 m2 => ⟨(by show 2 ≤ sizeLine; decide), fun q3 m3 => ⟨(by show 3 ≤ sizeLine; decide), fun l2 n2 => ?_⟩⟩⟩⟩
      have z1 := same_upd (o := .lst [r1, r2, r3]) n1
      have z2 := same_upd (o := .tup [.int ov, .int 1]) m1
      have z3 := same_upd (o := .tup [.int 0, .int 1]) m2
      have z4 := same_upd (o := .tup [.int 0, .int 1]) m3
      have z5 := same_upd (o := .lst [.ref q1, .ref q2, .ref q3]) n2
      refine ⟨.ref l1, .ref l2, rfl, .lst ((((z2.trans z3).trans z4).trans z5).seq (SqL.of upd_same)) (SqL.of upd_same) (by show 3 < 1000; decide)
        (.cons (.worth (I7.same (((((((t8.trans t9).trans z1).trans z2).trans z3).trans z4).trans z5))) ⟨q1, rfl, seqT_same ((z3.trans z4).trans z5) (SqT.of upd_same)⟩ (wr_int W7))
        (.cons (.worth (I8.same ((((((t9.trans z1).trans z2).trans z3).trans z4).trans z5))) ⟨q2, rfl, seqT_same (z4.trans z5) (SqT.of upd_same)⟩ (W8.z rfl))
        (.cons (.worth (I9.same (((((z1.trans z2).trans z3).trans z4).trans z5))) ⟨q3, rfl, seqT_same z5 (SqT.of upd_same)⟩ (wr_nought W9)) .nil))), fun G10 t10 => ⟨_, rfl, iteF ?_⟩⟩
      have C10 := C9.same (((((z1.trans z2).trans z3).trans z4).trans z5).trans t10)
      -- times
      refine ⟨_, rfl, _, _, rfl, rfl, _, _, rfl, rfl, ⟨by decide, by decide +kernel⟩, (by show 3 ≤ sizeLine; decide), fun l3 n3 => ?_⟩
      have z6 := same_upd (o := .lst [.int 2, .int (0 - 3), .int ((10 : Int) ^ (20 : Int).toNat)]) n3
      refine ⟨b, l3, _, rfl, C10.same z6, bag_ne C10 n3, SqL.of upd_same, (by show 0 < 3; decide), (by show 3 < 1000; decide), fun v G11 hv C11 t11 => ?_⟩
      obtain ⟨ti, rfl, ti0, tib⟩ : ∃ ti : Int, v = .int ti ∧ ti ≠ 0 ∧ ti.natAbs < 2 ^ 700 := by
        simp only [List.append_nil, List.mem_cons, List.not_mem_nil, or_false] at hv
        rcases hv with rfl | rfl | rfl
        · exact ⟨_, rfl, by decide, by decide +kernel⟩
        · exact ⟨_, rfl, by decide, by decide +kernel⟩
        · exact ⟨_, rfl, by decide +kernel, by decide +kernel⟩
      refine ⟨_, rfl, rfl, _, rfl, ite2 (fun c => ?_) (fun _ => ?_)⟩
      · have un0 : un ≠ 0 := fun z => by rw [z] at c; exact absurd c (by decide)
        refine ⟨_, rfl, _, rfl, _, _, rfl, rfl, mok7 bo tib, _, rfl, _, rfl, _, _, rfl, rfl, mok7 bu tib, _, _, rfl, Nat.lt_trans (m14 bu tib) (by decide +kernel), fun r1 p0 p1 G12 W12 I12 t12 => ?_⟩
        refine ⟨_, rfl, _, rfl, ov, un, rfl, bu8, fun r2 o0 o1 G13 W13 I13 t13 => ?_⟩
        obtain ⟨rfl, rfl⟩ := W12.uniq W13 (Int.mul_ne_zero un0 ti0) un0 (by grind)
        obtain ⟨a1, rfl, h1⟩ := I12.same t13
        obtain ⟨a2, rfl, h2⟩ := I13
        refine ⟨.tuple [.int p0, .int p1], .tuple [.int p0, .int p1], .tup h1 (.cons (.int _) (.cons (.int _) .nil)), .tup h2 (.cons (.int _) (.cons (.int _) .nil)), shaped2 _ _, shaped2 _ _, _, rfl, ?_⟩
        rw [SeqAt.eqv_refl _ (SeqAt.canLay_of_shaped (shaped2 p0 p1))]
        exact iteF ⟨⟨_, _, _, _, _, _, _, rfl⟩, (C11.same t12).same t13⟩
      · exact ⟨⟨_, _, _, _, _, _, _, rfl⟩, C11⟩
    · rintro σ G0 ⟨⟨v3, v4, v5, v6, v7, v8, v9, rfl⟩, B0⟩
      -- the second loop
      refine ⟨4, rfl, by decide, by decide, for_range (n := 4) (fun i σ H' => LSt a b σ ∧ BagAt K H' b) ⟨⟨_, _, _, _, _, _, _, rfl⟩, B0⟩ ?_ ?_⟩
      · rintro i σ G0 hi ⟨⟨v3, v4, v5, v6, v7, v8, v9, rfl⟩, B0⟩
        refine ⟨_, rfl, b, rfl, B0, fun vx x0 x1 G1 gx I1 C1 t1 => ⟨_, rfl, b, rfl, C1, fun vy y0 y1 G2 gy I2 C2 t2 => ⟨_, _, rfl, ?_⟩⟩⟩
        refine ⟨fun σ' H' => ∃ v3 v4 v5 v6 v9 vy' y0' y1', σ' = [some (.ref a), some (.ref b), some (.int LIM), v3, v4, v5, v6, some vx, some vy', v9] ∧ BagAt K H' b ∧ IsW K H' vx x0 x1 ∧ IsW K H' vy' y0' y1' ∧ Good y0' y1', ?_, ?_⟩
        · refine ⟨_, rfl, b, 6, rfl, C2, by decide, by decide, fun d G3 d0 d1 C3 t3 => ⟨rfl, _, rfl, ite2 (fun _ => ?_) (fun _ => ?_)⟩⟩
          · refine ⟨_, rfl, _, rfl, b, rfl, C3, fun vy' y0' y1' G4 gy' J2 C4 t4 => ?_⟩
            exact ⟨_, _, _, _, _, vy', y0', y1', rfl, C4, ((I1.but C1 t2).but C2 t3).but C3 t4, J2, gy'⟩
          · exact ⟨_, _, _, _, _, vy, y0, y1, rfl, C3, (I1.but C1 t2).but C2 t3, I2.but C2 t3, gy⟩
        · rintro σ' G3 ⟨v3, v4, v5, v6, v9, vy', y0', y1', rfl, C3, J1, J2, gy'⟩
          refine ⟨_, rfl, _, rfl, vx, vy', x0, x1, y0', y1', rfl, J1, J2, gx, gy', fun G4 t4 => ⟨_, rfl, iteF ?_⟩⟩
          refine ⟨_, rfl, _, rfl, vy', vx, y0', y1', x0, x1, rfl, J2.same t4, J1.same t4, gy', gx, fun G5 t5 => ⟨_, rfl, iteF ?_⟩⟩
          have K1 := (J1.same t4).same t5
          refine ⟨_, rfl, vx, x0, x1, rfl, K1, gx.pos, sml7 gx.by', ?_⟩
          obtain ⟨ax, rfl, hx⟩ := K1
          have lo := Int.ediv_mul_le x0 (b := x1) (by have := gx.pos; omega)
          have up := Int.lt_ediv_add_one_mul_self x0 (b := x1) (by have := gx.pos; omega)
          have lb := Nat.lt_of_le_of_lt (Int.natAbs_ediv_le_natAbs x0 x1) gx.bx
          have lb3 : (x0 / x1).natAbs < 2 ^ 3000 := sml7 lb
          have l13 : (x0 / x1 + 1).natAbs < 2 ^ 3000 := by
            have e : 2 ^ 700 + 1 < 2 ^ 3000 := by decide +kernel
            revert lb e
            generalize 2 ^ 700 = M
            generalize 2 ^ 3000 = N
            intro lb e
            omega
          have x13 : x1.natAbs < 2 ^ 3000 := sml7 gx.by'
          have C5 := (C3.same t4).same t5
          refine ⟨_, rfl, _, _, _, _, _, rfl, .ty _, .base (.int _), k1_ii, _, rfl, iteF ⟨_, rfl, _, _, _, _, _, rfl, .ty _, .base (.int _), k1_ib, _, rfl, iteF ?_⟩⟩
          refine ⟨_, rfl, _, rfl, ax, _, 1, _, rfl, rfl, hx, atI_nat (j := 1) rfl, _, _, rfl, rfl, mok lb3 x13, _, rfl, ax, _, 0, _, rfl, rfl, hx, atI_nat (j := 0) rfl, _, _, rfl, rfl, _, rfl, iteNS lo ?_⟩
          refine ⟨_, rfl, ax, _, 0, _, rfl, rfl, hx, atI_nat (j := 0) rfl, _, rfl, _, _, rfl, rfl, _, rfl, ax, _, 1, _, rfl, rfl, hx, atI_nat (j := 1) rfl, _, _, rfl, rfl, mok l13 x13, _, _, rfl, rfl, _, rfl, iteNS up ?_⟩
          exact ⟨⟨_, _, _, _, _, _, _, rfl⟩, C5⟩
      · rintro σ G0 ⟨⟨v3, v4, v5, v6, v7, v8, v9, rfl⟩, B0⟩
        -- the third loop
        refine ⟨4, rfl, by decide, by decide, for_range (n := 4) (fun i σ H' => LSt a b σ ∧ BagAt K H' b) ⟨⟨_, _, _, _, _, _, _, rfl⟩, B0⟩ ?_ ?_⟩
        · rintro i σ G0 hi ⟨⟨v3, v4, v5, v6, v7, v8, v9, rfl⟩, B0⟩
          refine ⟨_, rfl, b, 4, rfl, B0, by decide, by decide, fun d G1 d0 d1 C1 t1 => ⟨_, _, rfl, rfl, _, rfl, ite2 (fun _ => ?_) (fun _ => ?_)⟩⟩
          · refine ⟨_, rfl, _, rfl, b, rfl, C1, fun vx x0 x1 G2 gx I2 C2 t2 => ?_⟩
            obtain ⟨ax, rfl, hx⟩ := id I2
            refine ⟨_, rfl, _, x0, x1, rfl, I2, _, rfl, ax, _, 0, _, rfl, rfl, hx, atI_nat (j := 0) rfl, _, rfl, _, rfl, _, _, rfl, rfl, _, rfl, ite2 (fun c => ?_) (fun c => ?_)⟩
            · refine ⟨_, _, rfl, .flat (congrArg V.bl ?_) trivial, fun G3 t3 => ⟨_, rfl, iteF ?_⟩⟩
              · rw [c, Bool.true_or]
              · exact ⟨⟨_, _, _, _, _, _, _, rfl⟩, C2.same t3⟩
            · refine ⟨_, rfl, ax, _, 1, _, rfl, rfl, hx, atI_nat (j := 1) rfl, _, rfl, _, _, rfl, rfl, ?_⟩
              refine ⟨_, _, rfl, .flat (congrArg V.bl ?_) trivial, fun G3 t3 => ⟨_, rfl, iteF ?_⟩⟩
              · rw [Bool.eq_false_iff.mpr c, Bool.false_or]
              · exact ⟨⟨_, _, _, _, _, _, _, rfl⟩, C2.same t3⟩
          · refine ⟨_, rfl, b, rfl, C1, fun vx x0 x1 G2 gx I2 C2 t2 => ?_⟩
            obtain ⟨ax, rfl, hx⟩ := id I2
            refine ⟨_, rfl, _, x0, x1, rfl, I2, _, rfl, ax, _, 0, _, rfl, rfl, hx, atI_nat (j := 0) rfl, _, rfl, _, rfl, _, _, rfl, rfl, _, rfl, ite2 (fun c => ?_) (fun c => ?_)⟩
            · refine ⟨_, _, rfl, .flat (congrArg V.bl ?_) trivial, fun G3 t3 => ⟨_, rfl, iteF ?_⟩⟩
              · rw [c, Bool.true_or]
              · exact ⟨⟨_, _, _, _, _, _, _, rfl⟩, C2.same t3⟩
            · refine ⟨_, rfl, ax, _, 1, _, rfl, rfl, hx, atI_nat (j := 1) rfl, _, rfl, _, _, rfl, rfl, ?_⟩
              refine ⟨_, _, rfl, .flat (congrArg V.bl ?_) trivial, fun G3 t3 => ⟨_, rfl, iteF ?_⟩⟩
              · rw [Bool.eq_false_iff.mpr c, Bool.false_or]
              · exact ⟨⟨_, _, _, _, _, _, _, rfl⟩, C2.same t3⟩
        · rintro σ G0 ⟨⟨v3, v4, v5, v6, v7, v8, v9, rfl⟩, B0⟩
          exact q _
end
end My

set_option Elab.async false
set_option linter.all false
set_option maxRecDepth 100000
namespace My
open PySem PySem.Spec PyProof.Rows L2
theorem all_mk {l : PySem.W.OpenLaw} {w : World} {K : PySem.W.Frag} {h : Heap} {mg : Str → Option Value} {fa : Addr} (X : K.In h) (G : h.Ns mainGlobals mg) (hfa : mg "law" = some (.ref fa))
    {f0 : Addr} {od0 an0 : Option Addr} {sl0 : Array (Option Value)} {oc0 kV0 dc0 pm0 cd0 ct0 : Value}
    {f1 : Addr} {od1 an1 : Option Addr} {sl1 : Array (Option Value)} {oc1 kV1 dc1 pm1 cd1 ct1 : Value}
    {f2 : Addr} {od2 an2 : Option Addr} {sl2 : Array (Option Value)} {oc2 kV2 dc2 pm2 cd2 ct2 : Value}
    {f3 : Addr} {od3 an3 : Option Addr} {sl3 : Array (Option Value)} {oc3 kV3 dc3 pm3 cd3 ct3 : Value}
    {f4 : Addr} {od4 an4 : Option Addr} {sl4 : Array (Option Value)} {oc4 kV4 dc4 pm4 cd4 ct4 : Value}
    {f5 : Addr} {od5 an5 : Option Addr} {sl5 : Array (Option Value)} {oc5 kV5 dc5 pm5 cd5 ct5 : Value}
    {f6 : Addr} {od6 an6 : Option Addr} {sl6 : Array (Option Value)} {oc6 kV6 dc6 pm6 cd6 ct6 : Value}
    {f7 : Addr} {od7 an7 : Option Addr} {sl7 : Array (Option Value)} {oc7 kV7 dc7 pm7 cd7 ct7 : Value}
    {f8 : Addr} {od8 an8 : Option Addr} {sl8 : Array (Option Value)} {oc8 kV8 dc8 pm8 cd8 ct8 : Value}
    {f9 : Addr} {od9 an9 : Option Addr} {sl9 : Array (Option Value)} {oc9 kV9 dc9 pm9 cd9 ct9 : Value}
    {f10 : Addr} {od10 an10 : Option Addr} {sl10 : Array (Option Value)} {oc10 kV10 dc10 pm10 cd10 ct10 : Value}
    {f11 : Addr} {od11 an11 : Option Addr} {sl11 : Array (Option Value)} {oc11 kV11 dc11 pm11 cd11 ct11 : Value}
    {f12 : Addr} {od12 an12 : Option Addr} {sl12 : Array (Option Value)} {oc12 kV12 dc12 pm12 cd12 ct12 : Value}
    {f13 : Addr} {od13 an13 : Option Addr} {sl13 : Array (Option Value)} {oc13 kV13 dc13 pm13 cd13 ct13 : Value}
    {f14 : Addr} {od14 an14 : Option Addr} {sl14 : Array (Option Value)} {oc14 kV14 dc14 pm14 cd14 ct14 : Value}
    {f15 : Addr} {od15 an15 : Option Addr} {sl15 : Array (Option Value)} {oc15 kV15 dc15 pm15 cd15 ct15 : Value}
    {f16 : Addr} {od16 an16 : Option Addr} {sl16 : Array (Option Value)} {oc16 kV16 dc16 pm16 cd16 ct16 : Value}
    {f17 : Addr} {od17 an17 : Option Addr} {sl17 : Array (Option Value)} {oc17 kV17 dc17 pm17 cd17 ct17 : Value}
    {f18 : Addr} {od18 an18 : Option Addr} {sl18 : Array (Option Value)} {oc18 kV18 dc18 pm18 cd18 ct18 : Value}
    {Lv : Int} {tkL tz0 tz1 tt : Tok} {aZ aT : Addr} {odZ odT : Option Addr} {nZ nT : Nat} {slZ slT : Array (Option Value)} {ocT : Value}
    (a0 : PySem.W.nsIn K mainGlobals "worth" = some (some (.ref f0))) (l0 : K.lookup f0 = some ⟨oc0, od0, .func (PySem.W.fnOf "worth" "worth" (defArgs sWorth) (defBody sWorth) (defScope sWorth) (.ref aT) kV0 dc0 pm0 an0 cd0 ct0), sl0⟩) (c0 : PySem.W.codeIn K cd0 "worth" = true) (k0 : PySem.W.keepIn K (.ref f0) = true)
    (a1 : PySem.W.nsIn K mainGlobals "plus" = some (some (.ref f1))) (l1 : K.lookup f1 = some ⟨oc1, od1, .func (PySem.W.fnOf "plus" "plus" (defArgs sPlus) (defBody sPlus) (defScope sPlus) .none kV1 dc1 pm1 an1 cd1 ct1), sl1⟩) (c1 : PySem.W.codeIn K cd1 "plus" = true) (k1 : PySem.W.keepIn K (.ref f1) = true)
    (a2 : PySem.W.nsIn K mainGlobals "minus" = some (some (.ref f2))) (l2 : K.lookup f2 = some ⟨oc2, od2, .func (PySem.W.fnOf "minus" "minus" (defArgs sMinus) (defBody sMinus) (defScope sMinus) .none kV2 dc2 pm2 an2 cd2 ct2), sl2⟩) (c2 : PySem.W.codeIn K cd2 "minus" = true) (k2 : PySem.W.keepIn K (.ref f2) = true)
    (a3 : PySem.W.nsIn K mainGlobals "product" = some (some (.ref f3))) (l3 : K.lookup f3 = some ⟨oc3, od3, .func (PySem.W.fnOf "product" "product" (defArgs sProduct) (defBody sProduct) (defScope sProduct) .none kV3 dc3 pm3 an3 cd3 ct3), sl3⟩) (c3 : PySem.W.codeIn K cd3 "product" = true) (k3 : PySem.W.keepIn K (.ref f3) = true)
    (a4 : PySem.W.nsIn K mainGlobals "quotient" = some (some (.ref f4))) (l4 : K.lookup f4 = some ⟨oc4, od4, .func (PySem.W.fnOf "quotient" "quotient" (defArgs sQuotient) (defBody sQuotient) (defScope sQuotient) .none kV4 dc4 pm4 an4 cd4 ct4), sl4⟩) (c4 : PySem.W.codeIn K cd4 "quotient" = true) (k4 : PySem.W.keepIn K (.ref f4) = true)
    (a5 : PySem.W.nsIn K mainGlobals "is_less" = some (some (.ref f5))) (l5 : K.lookup f5 = some ⟨oc5, od5, .func (PySem.W.fnOf "is_less" "is_less" (defArgs sIsLess) (defBody sIsLess) (defScope sIsLess) .none kV5 dc5 pm5 an5 cd5 ct5), sl5⟩) (c5 : PySem.W.codeIn K cd5 "is_less" = true) (k5 : PySem.W.keepIn K (.ref f5) = true)
    (a6 : PySem.W.nsIn K mainGlobals "floor_of" = some (some (.ref f6))) (l6 : K.lookup f6 = some ⟨oc6, od6, .func (PySem.W.fnOf "floor_of" "floor_of" (defArgs sFloorOf) (defBody sFloorOf) (defScope sFloorOf) .none kV6 dc6 pm6 an6 cd6 ct6), sl6⟩) (c6 : PySem.W.codeIn K cd6 "floor_of" = true) (k6 : PySem.W.keepIn K (.ref f6) = true)
    (a7 : PySem.W.nsIn K mainGlobals "is_large" = some (some (.ref f7))) (l7 : K.lookup f7 = some ⟨oc7, od7, .func (PySem.W.fnOf "is_large" "is_large" (defArgs sIsLarge) (defBody sIsLarge) (defScope sIsLarge) .none kV7 dc7 pm7 an7 cd7 ct7), sl7⟩) (c7 : PySem.W.codeIn K cd7 "is_large" = true) (k7 : PySem.W.keepIn K (.ref f7) = true)
    (a8 : PySem.W.nsIn K mainGlobals "_law_bag" = some (some (.ref f8))) (l8 : K.lookup f8 = some ⟨oc8, od8, .func (PySem.W.fnOf "_law_bag" "_law_bag" (defArgs sLawBag) (defBody sLawBag) (defScope sLawBag) .none kV8 dc8 pm8 an8 cd8 ct8), sl8⟩) (c8 : PySem.W.codeIn K cd8 "_law_bag" = true) (k8 : PySem.W.keepIn K (.ref f8) = true)
    (a9 : PySem.W.nsIn K mainGlobals "_law_draw" = some (some (.ref f9))) (l9 : K.lookup f9 = some ⟨oc9, od9, .func (PySem.W.fnOf "_law_draw" "_law_draw" (defArgs sLawDraw) (defBody sLawDraw) (defScope sLawDraw) .none kV9 dc9 pm9 an9 cd9 ct9), sl9⟩) (c9 : PySem.W.codeIn K cd9 "_law_draw" = true) (k9 : PySem.W.keepIn K (.ref f9) = true)
    (a10 : PySem.W.nsIn K mainGlobals "_law_of" = some (some (.ref f10))) (l10 : K.lookup f10 = some ⟨oc10, od10, .func (PySem.W.fnOf "_law_of" "_law_of" (defArgs sLawOf) (defBody sLawOf) (defScope sLawOf) .none kV10 dc10 pm10 an10 cd10 ct10), sl10⟩) (c10 : PySem.W.codeIn K cd10 "_law_of" = true) (k10 : PySem.W.keepIn K (.ref f10) = true)
    (a11 : PySem.W.nsIn K mainGlobals "_law_like" = some (some (.ref f11))) (l11 : K.lookup f11 = some ⟨oc11, od11, .func (PySem.W.fnOf "_law_like" "_law_like" (defArgs sLawLike) (defBody sLawLike) (defScope sLawLike) .none kV11 dc11 pm11 an11 cd11 ct11), sl11⟩) (c11 : PySem.W.codeIn K cd11 "_law_like" = true) (k11 : PySem.W.keepIn K (.ref f11) = true)
    (a12 : PySem.W.nsIn K mainGlobals "_law_gcd" = some (some (.ref f12))) (l12 : K.lookup f12 = some ⟨oc12, od12, .func (PySem.W.fnOf "_law_gcd" "_law_gcd" (defArgs sLawGcd) (defBody sLawGcd) (defScope sLawGcd) .none kV12 dc12 pm12 an12 cd12 ct12), sl12⟩) (c12 : PySem.W.codeIn K cd12 "_law_gcd" = true) (k12 : PySem.W.keepIn K (.ref f12) = true)
    (a13 : PySem.W.nsIn K mainGlobals "_law_amount" = some (some (.ref f13))) (l13 : K.lookup f13 = some ⟨oc13, od13, .func (PySem.W.fnOf "_law_amount" "_law_amount" (defArgs sLawAmount) (defBody sLawAmount) (defScope sLawAmount) .none kV13 dc13 pm13 an13 cd13 ct13), sl13⟩) (c13 : PySem.W.codeIn K cd13 "_law_amount" = true) (k13 : PySem.W.keepIn K (.ref f13) = true)
    (a14 : PySem.W.nsIn K mainGlobals "_law_so" = some (some (.ref f14))) (l14 : K.lookup f14 = some ⟨oc14, od14, .func (PySem.W.fnOf "_law_so" "_law_so" (defArgs sLawSo) (defBody sLawSo) (defScope sLawSo) .none kV14 dc14 pm14 an14 cd14 ct14), sl14⟩) (c14 : PySem.W.codeIn K cd14 "_law_so" = true) (k14 : PySem.W.keepIn K (.ref f14) = true)
    (a15 : PySem.W.nsIn K mainGlobals "_law_made" = some (some (.ref f15))) (l15 : K.lookup f15 = some ⟨oc15, od15, .func (PySem.W.fnOf "_law_made" "_law_made" (defArgs sLawMade) (defBody sLawMade) (defScope sLawMade) .none kV15 dc15 pm15 an15 cd15 ct15), sl15⟩) (c15 : PySem.W.codeIn K cd15 "_law_made" = true) (k15 : PySem.W.keepIn K (.ref f15) = true)
    (a16 : PySem.W.nsIn K mainGlobals "_law_near" = some (some (.ref f16))) (l16 : K.lookup f16 = some ⟨oc16, od16, .func (PySem.W.fnOf "_law_near" "_law_near" (defArgs sLawNear) (defBody sLawNear) (defScope sLawNear) .none kV16 dc16 pm16 an16 cd16 ct16), sl16⟩) (c16 : PySem.W.codeIn K cd16 "_law_near" = true) (k16 : PySem.W.keepIn K (.ref f16) = true)
    (a17 : PySem.W.nsIn K mainGlobals "_law_pair_so" = some (some (.ref f17))) (l17 : K.lookup f17 = some ⟨oc17, od17, .func (PySem.W.fnOf "_law_pair_so" "_law_pair_so" (defArgs sLawPairSo) (defBody sLawPairSo) (defScope sLawPairSo) .none kV17 dc17 pm17 an17 cd17 ct17), sl17⟩) (c17 : PySem.W.codeIn K cd17 "_law_pair_so" = true) (k17 : PySem.W.keepIn K (.ref f17) = true)
    (a18 : PySem.W.nsIn K mainGlobals "law" = some (some (.ref f18))) (l18 : K.lookup f18 = some ⟨oc18, od18, .func (PySem.W.fnOf "law" "law" (defArgs sLaw) (defBody sLaw) (defScope sLaw) .none kV18 dc18 pm18 an18 cd18 ct18), sl18⟩) (c18 : PySem.W.codeIn K cd18 "law" = true) (k18 : PySem.W.keepIn K (.ref f18) = true)
    (b_int : PySem.W.nsIn K mainGlobals "int" = some none)
    (b_list : PySem.W.nsIn K mainGlobals "list" = some none)
    (b_len : PySem.W.nsIn K mainGlobals "len" = some none)
    (b_isinstance : PySem.W.nsIn K mainGlobals "isinstance" = some none)
    (b_tuple : PySem.W.nsIn K mainGlobals "tuple" = some none)
    (b_bool : PySem.W.nsIn K mainGlobals "bool" = some none)
    (b_str : PySem.W.nsIn K mainGlobals "str" = some none)
    (b_all : PySem.W.nsIn K mainGlobals "all" = some none)
    (b_zip : PySem.W.nsIn K mainGlobals "zip" = some none)
    (b_abs : PySem.W.nsIn K mainGlobals "abs" = some none)
    (b_range : PySem.W.nsIn K mainGlobals "range" = some none)
    (gG : PySem.W.nsIn K mainGlobals "gcd" = some (some (.builtin "math.gcd")))
    (gL : PySem.W.nsIn K mainGlobals "LIMIT" = some (some (.int Lv tkL))) (eL : Lv = LIM)
    (gZ : PySem.W.nsIn K mainGlobals "ZERO" = some (some (.ref aZ))) (lZ : K.lookup aZ = some ⟨.type "tuple", odZ, .seq #[.int 0 tz0, .int 1 tz1] nZ, slZ⟩)
    (lT : K.lookup aT = some ⟨ocT, odT, .seq #[.int 1 tt] nT, slT⟩) :
    ∃ fd : FuncData, (∀ (s : Shared) (v : Value), BindsTo s fd ⟨[v], []⟩ [("script", v)]) ∧ ∀ base : Heap, K.In base → base.Ns mainGlobals mg → FnOk l.prog w K mg base CX0 5 fa fd ["script"] (spLaw K) := by
  subst eL
  have e := hfa.symm.trans (PySem.W.mg_of X G a18)
  cases e
  have m_int := PySem.W.mg_none_of X G b_int
  have m_list := PySem.W.mg_none_of X G b_list
  have m_len := PySem.W.mg_none_of X G b_len
  have m_isinstance := PySem.W.mg_none_of X G b_isinstance
  have m_tuple := PySem.W.mg_none_of X G b_tuple
  have m_bool := PySem.W.mg_none_of X G b_bool
  have m_str := PySem.W.mg_none_of X G b_str
  have m_all := PySem.W.mg_none_of X G b_all
  have m_zip := PySem.W.mg_none_of X G b_zip
  have m_abs := PySem.W.mg_none_of X G b_abs
  have m_range := PySem.W.mg_none_of X G b_range
  have m_gcd := PySem.W.mg_of X G gG
  have m_LIMIT := PySem.W.mg_of X G gL
  have m_ZERO := PySem.W.mg_of X G gZ
  have hZ : ∀ H, SqT K H aZ [.int 0, .int 1] := fun H => .inr ⟨_, _, _, lZ, rfl, rfl, (by show 2 ≤ sizeLine; decide), .cons ⟨_, rfl⟩ (.cons ⟨_, rfl⟩ .nil)⟩
  have F0 : FunW K f0 _ := ⟨⟨_, _, _, _, _, _, _, _, _, _, rfl, l0, c0, .inr ⟨by simp, aT, _, [.int 1 tt], nT, rfl, lT, rfl, .cons ⟨_, rfl⟩ .nil⟩, .inl rfl⟩, k0⟩
  have F1 := fun_mk (st := sPlus) l1 c1 k1
  have B1 := F1.binds (ps := ["a", "b"]) fun _ _ _ _ _ _ us hl => match us, hl with | [_, _], _ => rfl
  have F2 := fun_mk (st := sMinus) l2 c2 k2
  have B2 := F2.binds (ps := ["a", "b"]) fun _ _ _ _ _ _ us hl => match us, hl with | [_, _], _ => rfl
  have F3 := fun_mk (st := sProduct) l3 c3 k3
  have B3 := F3.binds (ps := ["a", "b"]) fun _ _ _ _ _ _ us hl => match us, hl with | [_, _], _ => rfl
  have F4 := fun_mk (st := sQuotient) l4 c4 k4
  have B4 := F4.binds (ps := ["a", "b"]) fun _ _ _ _ _ _ us hl => match us, hl with | [_, _], _ => rfl
  have F5 := fun_mk (st := sIsLess) l5 c5 k5
  have B5 := F5.binds (ps := ["a", "b"]) fun _ _ _ _ _ _ us hl => match us, hl with | [_, _], _ => rfl
  have F6 := fun_mk (st := sFloorOf) l6 c6 k6
  have B6 := F6.binds (ps := ["a"]) fun _ _ _ _ _ _ us hl => match us, hl with | [_], _ => rfl
  have F7 := fun_mk (st := sIsLarge) l7 c7 k7
  have B7 := F7.binds (ps := ["a"]) fun _ _ _ _ _ _ us hl => match us, hl with | [_], _ => rfl
  have F8 := fun_mk (st := sLawBag) l8 c8 k8
  have B8 := F8.binds (ps := ["script"]) fun _ _ _ _ _ _ us hl => match us, hl with | [_], _ => rfl
  have F9 := fun_mk (st := sLawDraw) l9 c9 k9
  have B9 := F9.binds (ps := ["bag", "size"]) fun _ _ _ _ _ _ us hl => match us, hl with | [_, _], _ => rfl
  have F10 := fun_mk (st := sLawOf) l10 c10 k10
  have B10 := F10.binds (ps := ["bag", "things"]) fun _ _ _ _ _ _ us hl => match us, hl with | [_, _], _ => rfl
  have F11 := fun_mk (st := sLawLike) l11 c11 k11
  have B11 := F11.binds (ps := ["told", "due"]) fun _ _ _ _ _ _ us hl => match us, hl with | [_, _], _ => rfl
  have F12 := fun_mk (st := sLawGcd) l12 c12 k12
  have B12 := F12.binds (ps := ["x", "y"]) fun _ _ _ _ _ _ us hl => match us, hl with | [_, _], _ => rfl
  have F13 := fun_mk (st := sLawAmount) l13 c13 k13
  have B13 := F13.binds (ps := ["bag"]) fun _ _ _ _ _ _ us hl => match us, hl with | [_], _ => rfl
  have F14 := fun_mk (st := sLawSo) l14 c14 k14
  have B14 := F14.binds (ps := ["told", "over", "under"]) fun _ _ _ _ _ _ us hl => match us, hl with | [_, _, _], _ => rfl
  have F15 := fun_mk (st := sLawMade) l15 c15 k15
  have B15 := F15.binds (ps := ["bag"]) fun _ _ _ _ _ _ us hl => match us, hl with | [_], _ => rfl
  have F16 := fun_mk (st := sLawNear) l16 c16 k16
  have B16 := F16.binds (ps := ["bag", "limit"]) fun _ _ _ _ _ _ us hl => match us, hl with | [_, _], _ => rfl
  have F17 := fun_mk (st := sLawPairSo) l17 c17 k17
  have B17 := F17.binds (ps := ["x", "y"]) fun _ _ _ _ _ _ us hl => match us, hl with | [_, _], _ => rfl
  have F18 := fun_mk (st := sLaw) l18 c18 k18
  have B18 := F18.binds (ps := ["script"]) fun _ _ _ _ _ _ us hl => match us, hl with | [_], _ => rfl
  refine ⟨PySem.W.fnOf "law" "law" (defArgs sLaw) (defBody sLaw) (defScope sLaw) .none kV18 dc18 pm18 an18 cd18 ct18, fun s v => .of_eq rfl, fun base _ _ => ?_⟩
  have W : Cal l.prog w K mg base "worth" 1 ["top", "bottom"] (spWorth K) f0 _ := ⟨ok_worth (k := 0) F0 m_gcd m_ZERO hZ, PySem.W.mg_of X G a0, k0, bind2 F0⟩
  have Pl : Cal l.prog w K mg base "plus" 2 ["a", "b"] (spPlus K) f1 _ := ⟨ok_plus (k := 0) F1 W, PySem.W.mg_of X G a1, k1, B1⟩
  have Mi : Cal l.prog w K mg base "minus" 2 ["a", "b"] (spMinus K) f2 _ := ⟨ok_minus (k := 0) F2 W, PySem.W.mg_of X G a2, k2, B2⟩
  have Pr : Cal l.prog w K mg base "product" 2 ["a", "b"] (spProduct K) f3 _ := ⟨ok_product (k := 0) F3 W, PySem.W.mg_of X G a3, k3, B3⟩
  have Qu : Cal l.prog w K mg base "quotient" 2 ["a", "b"] (spQuotient K) f4 _ := ⟨ok_quotient (k := 0) F4 W, PySem.W.mg_of X G a4, k4, B4⟩
  have Le : Cal l.prog w K mg base "is_less" 1 ["a", "b"] (spLess K) f5 _ := ⟨ok_is_less (k := 0) F5, PySem.W.mg_of X G a5, k5, B5⟩
  have Fl : Cal l.prog w K mg base "floor_of" 1 ["a"] (spFloor K) f6 _ := ⟨ok_floor_of (k := 0) F6, PySem.W.mg_of X G a6, k6, B6⟩
  have La : Cal l.prog w K mg base "is_large" 1 ["a"] (spLarge K) f7 _ := ⟨ok_is_large (k := 0) F7 m_LIMIT, PySem.W.mg_of X G a7, k7, B7⟩
  have Ba : Cal l.prog w K mg base "_law_bag" 1 ["script"] (spBag K) f8 _ := ⟨ok_bag (k := 0) F8 m_int m_list, PySem.W.mg_of X G a8, k8, B8⟩
  have D : Cal l.prog w K mg base "_law_draw" 1 ["bag", "size"] (spDraw K) f9 _ := ⟨ok_draw (k := 0) F9 m_int m_len, PySem.W.mg_of X G a9, k9, B9⟩
  have O : Cal l.prog w K mg base "_law_of" 2 ["bag", "things"] (spOf K) f10 _ := ⟨ok_of (k := 0) F10 D m_len, PySem.W.mg_of X G a10, k10, B10⟩
  have Li : Cal l.prog w K mg base "_law_like" 3 ["told", "due"] (spLike K 2) f11 _ := ⟨ok_like F11 (PySem.W.mg_of X G a11) B11 m_isinstance m_list m_tuple m_bool m_str m_int m_len m_all m_zip 2, PySem.W.mg_of X G a11, k11, B11⟩
  have Gc : Cal l.prog w K mg base "_law_gcd" 1 ["x", "y"] spGcd f12 _ := ⟨ok_gcd (k := 0) F12 m_abs m_int, PySem.W.mg_of X G a12, k12, B12⟩
  have Am : Cal l.prog w K mg base "_law_amount" 3 ["bag"] (spAmount K) f13 _ := ⟨ok_amount (k := 0) F13 D O m_range, PySem.W.mg_of X G a13, k13, B13⟩
  have So : Cal l.prog w K mg base "_law_so" 2 ["told", "over", "under"] (spSo K) f14 _ := ⟨ok_so (k := 0) F14 Gc m_isinstance m_tuple m_len m_all m_int m_bool, PySem.W.mg_of X G a14, k14, B14⟩
  have Ma : Cal l.prog w K mg base "_law_made" 4 ["bag"] (spMade K) f15 _ := ⟨ok_made (k := 0) F15 D Am Gc m_abs, PySem.W.mg_of X G a15, k15, B15⟩
  have Ne : Cal l.prog w K mg base "_law_near" 3 ["bag", "limit"] (spNear K) f16 _ := ⟨ok_near (k := 0) F16 D O Gc m_abs, PySem.W.mg_of X G a16, k16, B16⟩
  have Pa : Cal l.prog w K mg base "_law_pair_so" 4 ["x", "y"] (spPair K) f17 _ := ⟨ok_pair_so F17 Pl Mi Pr Qu Le So Li, PySem.W.mg_of X G a17, k17, B17⟩
  exact ok_law F18 Ba D O Li Am So Ma Ne Pa W F0 Fl La m_LIMIT m_range m_isinstance m_int m_bool m_abs
end My
open PySem PySem.W PyProof.Rows
set_option maxRecDepth 100000 in
set_option maxHeartbeats 0 in
theorem PySem.Challenge.cw_soleheld_k02_worths_reckoned_holds : PySem.Challenge.rw_soleheld_k02_worths_reckoned.Holds := by
  w_on; o_law; k_head; (case hw => w_witness2)
  k_fill
  refine L2.walk_of (l := PySem.Challenge.rw_soleheld_k02_worths_reckoned) (n := 63) (k := 5) (x := "script") (CX := fun _ => L2.CX0) (sp := fun w => My.spLaw _) rfl (by decide) rfl ⟨rfl, by decide, by decide⟩ (fun w h Y => PySem.W.kIn_of Y) ?F (fun _ _ a ns hl _ hS => ⟨a, ns, rfl, hS, hl, fun _ => rfl⟩) (fun _ _ _ _ _ h => h)
  case F =>
    intro w mg fa h KX G hmg
    refine' My.all_mk KX G hmg ?a0 ?l0 ?c0 ?k0 ?a1 ?l1 ?c1 ?k1 ?a2 ?l2 ?c2 ?k2 ?a3 ?l3 ?c3 ?k3 ?a4 ?l4 ?c4 ?k4 ?a5 ?l5 ?c5 ?k5 ?a6 ?l6 ?c6 ?k6 ?a7 ?l7 ?c7 ?k7 ?a8 ?l8 ?c8 ?k8 ?a9 ?l9 ?c9 ?k9 ?a10 ?l10 ?c10 ?k10 ?a11 ?l11 ?c11 ?k11 ?a12 ?l12 ?c12 ?k12 ?a13 ?l13 ?c13 ?k13 ?a14 ?l14 ?c14 ?k14 ?a15 ?l15 ?c15 ?k15 ?a16 ?l16 ?c16 ?k16 ?a17 ?l17 ?c17 ?k17 ?a18 ?l18 ?c18 ?k18 ?b_int ?b_list ?b_len ?b_isinstance ?b_tuple ?b_bool ?b_str ?b_all ?b_zip ?b_abs ?b_range ?gG ?gL ?eL ?gZ ?lZ ?lT
    (case a0 => k_is)
    (case l0 => k_is)
    (case c0 => k_is)
    (case k0 => k_is)
    (case a1 => k_is)
    (case l1 => k_is)
    (case c1 => k_is)
    (case k1 => k_is)
    (case a2 => k_is)
    (case l2 => k_is)
    (case c2 => k_is)
    (case k2 => k_is)
    (case a3 => k_is)
    (case l3 => k_is)
    (case c3 => k_is)
    (case k3 => k_is)
    (case a4 => k_is)
    (case l4 => k_is)
    (case c4 => k_is)
    (case k4 => k_is)
    (case a5 => k_is)
    (case l5 => k_is)
    (case c5 => k_is)
    (case k5 => k_is)
    (case a6 => k_is)
    (case l6 => k_is)
    (case c6 => k_is)
    (case k6 => k_is)
    (case a7 => k_is)
    (case l7 => k_is)
    (case c7 => k_is)
    (case k7 => k_is)
    (case a8 => k_is)
    (case l8 => k_is)
    (case c8 => k_is)
    (case k8 => k_is)
    (case a9 => k_is)
    (case l9 => k_is)
    (case c9 => k_is)
    (case k9 => k_is)
    (case a10 => k_is)
    (case l10 => k_is)
    (case c10 => k_is)
    (case k10 => k_is)
    (case a11 => k_is)
    (case l11 => k_is)
    (case c11 => k_is)
    (case k11 => k_is)
    (case a12 => k_is)
    (case l12 => k_is)
    (case c12 => k_is)
    (case k12 => k_is)
    (case a13 => k_is)
    (case l13 => k_is)
    (case c13 => k_is)
    (case k13 => k_is)
    (case a14 => k_is)
    (case l14 => k_is)
    (case c14 => k_is)
    (case k14 => k_is)
    (case a15 => k_is)
    (case l15 => k_is)
    (case c15 => k_is)
    (case k15 => k_is)
    (case a16 => k_is)
    (case l16 => k_is)
    (case c16 => k_is)
    (case k16 => k_is)
    (case a17 => k_is)
    (case l17 => k_is)
    (case c17 => k_is)
    (case k17 => k_is)
    (case a18 => k_is)
    (case l18 => k_is)
    (case c18 => k_is)
    (case k18 => k_is)
    (case b_int => k_is)
    (case b_list => k_is)
    (case b_len => k_is)
    (case b_isinstance => k_is)
    (case b_tuple => k_is)
    (case b_bool => k_is)
    (case b_str => k_is)
    (case b_all => k_is)
    (case b_zip => k_is)
    (case b_abs => k_is)
    (case b_range => k_is)
    (case gG => k_is)
    (case gL => k_is)
    (case eL => decide +kernel)
    (case gZ => k_is)
    (case lZ => k_is)
    (case lT => k_is)
#print axioms PySem.Challenge.cw_soleheld_k02_worths_reckoned_holds

