import PyProof.Rows.All
import Wide.All
import OpenK.AllK
import Wide.FinOn
import HandS.ForMost
import HandS.FStr
import HandS.Wide
import HandS.Gcd
import HandS.IsInst
import HandS.Defaults
import HandS.Zip
import HandS.Walk
import HandS.Codes
import HandS.StrMore
import HandS.Style
import HandS.Evl
import PySem.Challenge.RW_soleheld_k03_texts_of_worths
set_option Elab.async false
set_option linter.all false
set_option maxRecDepth 100000
namespace My
open PySem PySem.Spec PyProof.Rows L2
/-! ### operators upon whole numbers of any size -/
section
variable {X : Cx}
theorem op_mulG : OpR X (binaryOp .Mult) (rI IntMulOk fun i j => .int (i * j)) := opI fun _ _ _ _ _ _ _ hc q => mul_int q hc
def CDivS (_ j : Int) : Prop := j ≠ 0 ∧ j.natAbs.log2 < 9000
theorem op_divS : OpR X (binaryOp .FloorDiv) (rI CDivS fun i j => .int (i.fdiv j)) := opI fun _ _ _ _ _ _ _ hc q => floordiv_int hc.1 q (.inl (PyProof.noPylong_of_log2 hc.2))
def CPowG (i j : Int) : Prop := 0 ≤ j ∧ (Builtin.Int.intBits i : Int) * j ≤ 2 ^ 27
theorem op_powG : OpR X (binaryOp .Pow) (rI CPowG fun i j => .int (i ^ j.toNat)) := opI fun _ _ _ _ _ _ _ hc q => pow_int hc.1 hc.2 q
end
/-- a def that stands at a module's name and keeps its promise -/
structure Cal (P : Program) (w : World) (K : PySem.W.Frag) (mg : Str → Option Value) (base : Heap) (x : Str) (k : Nat) (ps : List Str) (sp : Sp) (f : Addr) (fd : FuncData) : Prop where
  ok : FnOk P w K mg base CX0 k f fd ps sp
  g : mg x = some (.ref f)
  kp : PySem.W.keepIn K (.ref f) = true
  b : Binds K fd ps []
theorem same_upd {H : Hp} {p : Addr} {o : HO} (h : H p = none) : Same H (upd H p o) := fun b x e => by
  rw [upd_ne (ne_of_none e h)]
  exact e
/-! ### the bag -/
/-- a bag at b: its numbers at c, the rest bounded -/
structure BagIs (K : PySem.W.Frag) (H : Hp) (b c : Addr) (ns : List Int) (i : Nat) (g x n : Int) : Prop where
  ob : H b = some (.lst [.ref c, .int i, .int g, .int x, .int n])
  sq : SqL K H c (ns.map V.int)
  cb : c ≠ b
  hi : i ≤ ns.length
  x0 : 0 ≤ x
  x1 : x < 4294967296
def BagAt (K : PySem.W.Frag) (H : Hp) (b : Addr) : Prop := ∃ c ns i g x n, BagIs K H b c ns i g x n
/-- what stands stays, but for what stands at b -/
def But (b : Addr) (H H' : Hp) : Prop := ∀ p o, p ≠ b → H p = some o → H' p = some o
theorem But.refl {b : Addr} {H : Hp} : But b H H := fun _ _ _ h => h
theorem But.trans {b : Addr} {H H1 H2 : Hp} (x : But b H H1) (y : But b H1 H2) : But b H H2 := fun p o n h => y p o n (x p o n h)
theorem But.upd {b : Addr} {H : Hp} {o : HO} : But b H (upd H b o) := fun p u n h => by rw [upd_ne n]; exact h
theorem But.of {b : Addr} {H H' : Hp} (s : Same H H') : But b H H' := fun p o _ h => s p o h
theorem But.seq {K : PySem.W.Frag} {b p : Addr} {H H' : Hp} {xs : List V} (h : But b H H') (n : p ≠ b) (s : SqL K H p xs) : SqL K H' p xs := by
  rcases s with (s | ⟨o, s⟩) | s
  · exact .inl (.inl (h _ _ n s))
  · exact .inl (.inr ⟨o, h _ _ n s⟩)
  · exact .inr s
theorem But.seqT {K : PySem.W.Frag} {b p : Addr} {H H' : Hp} {xs : List V} (h : But b H H') (n : p ≠ b) (s : SqT K H p xs) : SqT K H' p xs := by
  rcases s with (s | ⟨o, s⟩) | s
  · exact .inl (.inl (h _ _ n s))
  · exact .inl (.inr ⟨o, h _ _ n s⟩)
  · exact .inr s
theorem BagIs.same {K : PySem.W.Frag} {H H' : Hp} {b c : Addr} {ns : List Int} {i : Nat} {g x n : Int} (B : BagIs K H b c ns i g x n) (s : Same H H') : BagIs K H' b c ns i g x n :=
  ⟨s _ _ B.ob, s.seq B.sq, B.cb, B.hi, B.x0, B.x1⟩
theorem BagAt.same {K : PySem.W.Frag} {H H' : Hp} {b : Addr} (B : BagAt K H b) (s : Same H H') : BagAt K H' b :=
  let ⟨c, ns, i, g, x, n, B⟩ := B; ⟨c, ns, i, g, x, n, B.same s⟩
theorem BagIs.put {K : PySem.W.Frag} {H : Hp} {b c : Addr} {ns : List Int} {i : Nat} {g x n : Int} (B : BagIs K H b c ns i g x n) {i' : Nat} {g' x' n' : Int} (hi : i' ≤ ns.length) (x0 : 0 ≤ x') (x1 : x' < 4294967296) :
    BagIs K (upd H b (.lst [.ref c, .int i', .int g', .int x', .int n'])) b c ns i' g' x' n' :=
  ⟨upd_same, (But.upd (H := H)).seq B.cb B.sq, B.cb, hi, x0, x1⟩
/-! ### promises -/
def spBag (K : PySem.W.Frag) : Sp := fun vs H Q _ => ∃ (a : Addr) (ns : List Int), vs = [.ref a] ∧ SqL K H a (ns.map V.int) ∧ ∀ b H', Same H H' → BagAt K H' b → H b = none → Q (.ref b) H'
def spDraw (K : PySem.W.Frag) : Sp := fun vs H Q _ => ∃ (b : Addr) (m : Int), vs = [.ref b, .int m] ∧ BagAt K H b ∧ 0 < m ∧ m < 1000000000000000000000000000000000000000 ∧ ∀ r H', 0 ≤ r → r < m → BagAt K H' b → But b H H' → Q (.int r) H'
def topS (i : Nat) : Stmt := PySem.Challenge.pw_soleheld_k03_texts_of_worths.main.body.getD i (.Pass ⟨0, 0, 0, 0⟩)
abbrev sLawBag : Stmt := topS 13
theorem scLawBag : FnScope ["script", "mixed", "piece"] ["script"] (defScope sLawBag) := ⟨rfl, rfl, rfl, by decide +kernel, rfl, by decide +kernel, by decide +kernel⟩
abbrev sLawDraw : Stmt := topS 14
theorem scLawDraw : FnScope ["bag", "size", "piece", "digit"] ["bag", "size"] (defScope sLawDraw) := ⟨rfl, rfl, rfl, by decide +kernel, rfl, by decide +kernel, by decide +kernel⟩
theorem mod_lo {a m : Int} (h : 0 < m) : 0 ≤ a % m := Int.emod_nonneg a (by omega)
theorem mod_hi {a m : Int} (h : 0 < m) : a % m < m := Int.emod_lt_of_pos a h
theorem mul_right {a : Int} {c : Int} (h : Builtin.Int.intBits c ≤ 64) : IntMulOk a c := IntMulOk.of_right h
section
variable {P : Program} {w : World} {K : PySem.W.Frag} {mg : Str → Option Value} {base : Heap}
theorem ok_bag {f : Addr} {fd : FuncData} {k : Nat} (F : Fun K "_law_bag" "_law_bag" sLawBag f fd) (b_int : mg "int" = none) (b_list : mg "list" = none) : FnOk P w K mg base CX0 (k + 1) f fd ["script"] (spBag K) := by
  refine F.ok scLawBag (fun vs H Q E h => ?_) (fun cdv A outer s H vs Q E hr h => ?_)
  · obtain ⟨a, ns, rfl, _⟩ := h
    rfl
  · obtain ⟨a, ns, rfl, hS, q⟩ := h
    refine ⟨_, (pss_cons (ps_set (i := 1) scLawBag.nd rfl (.inl rfl) pe_int)
      (pss_cons (ps_for PassesOwn.never rfl (pi_list (pe_slice sl_list (pv 0) po_none (po_some pe_int))) (pg_name (i := 2) scLawBag.nd rfl (.inl rfl))
        (pss_one (ps_set (i := 1) scLawBag.nd rfl (.inl rfl) (pe_op op_mod (pe_callTy call_int1 rfl b_int (by decide +kernel) (pa_cons (pe_op op_add (pe_op op_add (pe_op op_mulG (pv 1) pe_int) (pe_op op_mod (pe_callTy call_int1 rfl b_int (by decide +kernel) (pa_cons (pv 2) pa_nil)) pe_int)) pe_int) pa_nil)) pe_int))))
      (pss_one (ps_ret (pe_lst (pa_cons (pe_callTy call_list_of rfl b_list (by decide +kernel) (pa_cons (pe_slice sl_list (pv 0) po_none (po_some pe_int)) pa_nil)) (pa_cons pe_int (pa_cons pe_int (pa_cons (pv 1) (pa_cons pe_int pa_nil)))))))))), ?_⟩
    obtain ⟨ms, ec⟩ : ∃ ms : List Int, cutV (ns.map V.int) none (some 63) = ms.map V.int := ⟨(ns.drop _).take _, by
      unfold cutV
      rw [List.map_take, List.map_drop]⟩
    refine ⟨_, rfl, _, rfl, a, _, rfl, hS, fun c nc => ?_⟩
    rw [ec]
    have sc : Same H (upd H c (.lst (ms.map V.int))) := same_upd nc
    refine ⟨c, rfl, ⟨_, SqL.of upd_same⟩, for_list (K := K) (a := c) (xs := ms.map V.int) (fun i σ H2 => ∃ (m : Int) (v : Option V), σ = [some (.ref a), some (.int m), v] ∧ Same H H2 ∧ H2 c = some (.lst (ms.map V.int)) ∧ 0 ≤ m ∧ m < 4294967296)
      ⟨13964, none, rfl, sc, upd_same, by decide, by decide⟩ (fun i σ H2 _ ⟨_, _, _, _, e, _⟩ => SqL.of e) ?_ ?_⟩
    · rintro i y σ H2 hi ⟨m, v, rfl, s2, ce, m0, m1⟩
      obtain ⟨z, -, rfl⟩ : ∃ z, ms[i]? = some z ∧ y = .int z := by
        rw [List.getElem?_map] at hi
        cases e : ms[i]? with
        | none => rw [e] at hi; cases hi
        | some z => rw [e] at hi; exact ⟨z, rfl, (Option.some.inj hi).symm⟩
      refine ⟨_, rfl, _, _, rfl, rfl, mul_right (by decide +kernel), _, rfl, .inl ⟨_, rfl, _, _, rfl, rfl, (by show (0 : Int) < _; decide), _, _, rfl, rfl, _, _, rfl, rfl, .inl ⟨_, rfl, _, _, rfl, rfl, (by show (0 : Int) < _; decide), ?_⟩⟩⟩
      refine ⟨_, _, rfl, s2, ce, mod_lo (by decide), ?_⟩
      exact Int.lt_trans (mod_hi (by decide)) (by decide)
    · rintro σ H2 ⟨m, v, rfl, s2, ce, m0, m1⟩
      refine ⟨_, rfl, _, rfl, a, _, rfl, s2.seq hS, fun d nd => ?_⟩
      rw [ec]
      refine ⟨d, _, rfl, .inl (SqL.of upd_same), fun l nl => ⟨_, rfl, (by show 5 ≤ sizeLine; decide), fun b nb => ?_⟩⟩
      have s3 := (s2.trans (same_upd (o := .lst (ms.map V.int)) nd)).trans (same_upd (o := .lst (ms.map V.int)) nl)
      refine q b _ (s3.trans (same_upd nb)) ⟨l, ms, 0, 0, m, 0, upd_same, ?_, ?_, Nat.zero_le _, m0, m1⟩ (s3.free nb)
      · have e : l ≠ b := fun e => by rw [← e, upd_same] at nb; cases nb
        exact SqL.of (by rw [upd_ne e, upd_same])
      · exact fun e => by rw [← e, upd_same] at nb; cases nb
theorem ok_draw {f : Addr} {fd : FuncData} {k : Nat} (F : Fun K "_law_draw" "_law_draw" sLawDraw f fd) (b_int : mg "int" = none) (b_len : mg "len" = none) : FnOk P w K mg base CX0 (k + 1) f fd ["bag", "size"] (spDraw K) := by
  refine F.ok scLawDraw (fun vs H Q E h => ?_) (fun cdv A outer s H vs Q E hr h => ?_)
  · obtain ⟨b, m, rfl, _⟩ := h
    rfl
  · obtain ⟨b, m, rfl, ⟨c, ns, i, g, x, n, B⟩, m0, m1, q⟩ := h
    refine ⟨_, (pss_cons (ps_asg (pe_op op_add (pe_ix ix_list (pv 0) pe_int (fun _ _ => rfl)) pe_int) (pg_sub (pv 0) pe_int set_list))
      (C8.pss_cut (ps_if (PW.pt (pw_and (pt_cmpR op_eq (pe_ix ix_list (pv 0) pe_int (fun _ _ => rfl)) pe_int (nomark _)) (pw_and1 (pt_cmpR op_lt (pe_ix ix_list (pv 0) pe_int (fun _ _ => rfl)) (pe_callB call_len rfl b_len (by decide +kernel) (pa_cons (pe_ix ix_list (pv 0) pe_int (fun _ _ => rfl)) pa_nil)) (nomark _))))) (pss_cons (ps_set (i := 2) scLawDraw.nd rfl (.inl rfl) (pe_callTy call_int1 rfl b_int (by decide +kernel) (pa_cons (pe_ix ix_list (pe_ix ix_list (pv 0) pe_int (fun _ _ => rfl)) (pe_ix ix_list (pv 0) pe_int (fun _ _ => rfl)) (fun _ _ => rfl)) pa_nil)))
        (pss_cons (ps_asg (pe_op op_add (pe_ix ix_list (pv 0) pe_int (fun _ _ => rfl)) pe_int) (pg_sub (pv 0) pe_int set_list))
        (pss_one (ps_if (pt_cmpR op_ge (pv 2) (pe_op op_powG pe_int pe_int) (nomark _)) (pss_one (ps_asg (pv 2) (pg_sub (pv 0) pe_int set_list))) (pss_one (ps_asg (pe_op op_mod (pe_callTy call_int1 rfl b_int (by decide +kernel) (pa_cons (pe_op op_add (pe_op op_add (pe_op op_mulG (pe_ix ix_list (pv 0) pe_int (fun _ _ => rfl)) pe_int) (pe_op op_mulG (pe_op op_mod (pe_callTy call_int1 rfl b_int (by decide +kernel) (pa_cons (pv 2) pa_nil)) pe_int) pe_int)) pe_int) pa_nil)) pe_int) (pg_sub (pv 0) pe_int set_list))))))) pss_nil)
      (pss_cons (ps_if (pt_cmpR op_gt (pe_ix ix_list (pv 0) pe_int (fun _ _ => rfl)) pe_int (nomark _)) (pss_cons (ps_set (i := 3) scLawDraw.nd rfl (.inl rfl) (pe_op op_mod (pe_callTy call_int1 rfl b_int (by decide +kernel) (pa_cons (pe_ix ix_list (pv 0) pe_int (fun _ _ => rfl)) pa_nil)) (pv 1)))
        (pss_cons (ps_asg (pe_op op_fdivW (pe_ix ix_list (pv 0) pe_int (fun _ _ => rfl)) (pv 1)) (pg_sub (pv 0) pe_int set_list))
        (pss_one (ps_ret (pv 3))))) pss_nil)
      (pss_cons (ps_asg (pe_op op_mod (pe_callTy call_int1 rfl b_int (by decide +kernel) (pa_cons (pe_op op_add (pe_op op_add (pe_op op_powG (pe_ix ix_list (pv 0) pe_int (fun _ _ => rfl)) pe_int) (pe_op op_mulG (pe_ix ix_list (pv 0) pe_int (fun _ _ => rfl)) pe_int)) pe_int) pa_nil)) pe_int) (pg_sub (pv 0) pe_int set_list))
      (pss_one (ps_ret (pe_op op_mod (pe_callTy call_int1 rfl b_int (by decide +kernel) (pa_cons (pe_op op_add (pe_op op_fdivW (pe_ix ix_list (pv 0) pe_int (fun _ _ => rfl)) pe_int) (pe_op op_mulG (pe_op op_mod (pe_callTy call_int1 rfl b_int (by decide +kernel) (pa_cons (pe_ix ix_list (pv 0) pe_int (fun _ _ => rfl)) pa_nil)) pe_int) pe_int)) pa_nil)) (pv 1)))))))), ?_⟩
    -- bag[4] = bag[4] + 1
    refine ⟨.ref b, rfl, b, _, 4, _, rfl, rfl, SqL.of B.ob, (atI_nat (j := 4) rfl), _, _, rfl, rfl, .ref b, rfl, b, _, 4, 4, rfl, rfl, B.ob, rfl, ?_⟩
    have B1 : BagIs K (upd H b (.lst [.ref c, .int i, .int g, .int x, .int (n + 1)])) b c ns i g x (n + 1) := B.put B.hi B.x0 B.x1
    have t1 : But b H (upd H b (.lst [.ref c, .int i, .int g, .int x, .int (n + 1)])) := But.upd
    refine ⟨fun σ' H' => ∃ (v2 v3 : Option V) (i' : Nat) (g' x' n' : Int), σ' = [some (.ref b), some (.int m), v2, v3] ∧ BagIs K H' b c ns i' g' x' n' ∧ But b H H', ?_, ?_⟩
    · -- the if
      refine ⟨.ref b, rfl, b, _, 2, _, rfl, rfl, SqL.of B1.ob, (atI_nat (j := 2) rfl), rfl, _, rfl, ?_⟩
      refine ite2 (fun _ => ?_) (fun _ => ?_)
      · refine ⟨.ref b, rfl, b, _, 1, _, rfl, rfl, SqL.of B1.ob, (atI_nat (j := 1) rfl), .ref b, rfl, b, _, 0, _, rfl, rfl, SqL.of B1.ob, (atI_nat (j := 0) rfl), _, _, rfl, .inl ⟨_, B1.sq, rfl⟩, _, _, rfl, rfl, _, rfl, ?_⟩
        refine ite2 (fun e => ?_) (fun _ => ?_)
        · have hlt : i < ns.length := by
            have e2 := of_decide_eq_true e
            rw [List.length_map] at e2
            omega
          have gi : (ns.map V.int)[i]? = some (.int ns[i]) := by
            rw [List.getElem?_map, List.getElem?_eq_getElem hlt]
            rfl
          refine ⟨.ref b, rfl, b, _, 0, _, rfl, rfl, SqL.of B1.ob, (atI_nat (j := 0) rfl), .ref b, rfl, b, _, 1, _, rfl, rfl, SqL.of B1.ob, (atI_nat (j := 1) rfl), c, _, i, _, rfl, rfl, B1.sq, atI_nat gi, .inl ⟨_, rfl, ?_⟩⟩
          refine ⟨.ref b, rfl, b, _, 1, _, rfl, rfl, SqL.of B1.ob, (atI_nat (j := 1) rfl), _, _, rfl, rfl, .ref b, rfl, b, _, 1, 1, rfl, rfl, B1.ob, rfl, ?_⟩
          have B2 : BagIs K (upd (upd H b (.lst [.ref c, .int i, .int g, .int x, .int (n + 1)])) b (.lst [.ref c, .int ((i : Int) + 1), .int g, .int x, .int (n + 1)])) b c ns (i + 1) g x (n + 1) := B1.put (i' := i + 1) hlt B.x0 B.x1
          have t2 : But b H (upd (upd H b (.lst [.ref c, .int i, .int g, .int x, .int (n + 1)])) b (.lst [.ref c, .int ((i : Int) + 1), .int g, .int x, .int (n + 1)])) := t1.trans But.upd
          refine ⟨_, rfl, _, _, rfl, rfl, ⟨by decide, by decide +kernel⟩, _, _, rfl, rfl, _, rfl, ?_⟩
          refine ite2 (fun _ => ?_) (fun _ => ?_)
          · refine ⟨_, rfl, .ref b, rfl, b, _, 2, 2, rfl, rfl, B2.ob, rfl, ?_⟩
            exact ⟨_, _, i + 1, ns[i], x, n + 1, rfl, B2.put B2.hi B.x0 B.x1, t2.trans But.upd⟩
          · refine ⟨.ref b, rfl, b, _, 3, _, rfl, rfl, SqL.of B2.ob, (atI_nat (j := 3) rfl), _, _, rfl, rfl, mul_right (by decide +kernel), _, rfl, .inl ⟨_, rfl, _, _, rfl, rfl, (by show (0 : Int) < _; decide), _, _, rfl, rfl, mul_right (by decide +kernel), _, _, rfl, rfl, _, _, rfl, rfl, .inl ⟨_, rfl, _, _, rfl, rfl, (by show (0 : Int) < _; decide), ?_⟩⟩⟩
            refine ⟨.ref b, rfl, b, _, 3, 3, rfl, rfl, B2.ob, rfl, ?_⟩
            exact ⟨_, _, i + 1, g, _, n + 1, rfl, B2.put B2.hi (mod_lo (by decide)) (Int.lt_trans (mod_hi (by decide)) (by decide)), t2.trans But.upd⟩
        · exact ⟨_, _, i, g, x, n + 1, rfl, B1, t1⟩
      · exact ⟨_, _, i, g, x, n + 1, rfl, B1, t1⟩
    · rintro σ' H' ⟨v2, v3, i', g', x', n', rfl, B', t'⟩
      refine ⟨.ref b, rfl, b, _, 2, _, rfl, rfl, SqL.of B'.ob, (atI_nat (j := 2) rfl), _, _, rfl, rfl, _, rfl, ?_⟩
      have d1 : CDivW g' m := wide_div m0 (b := 130) (by omega) (by decide) (by decide)
      refine ite2 (fun _ => ?_) (fun _ => ?_)
      · refine ⟨.ref b, rfl, b, _, 2, _, rfl, rfl, SqL.of B'.ob, (atI_nat (j := 2) rfl), .inl ⟨_, rfl, _, rfl, _, _, rfl, rfl, m0, ?_⟩⟩
        refine ⟨.ref b, rfl, b, _, 2, _, rfl, rfl, SqL.of B'.ob, (atI_nat (j := 2) rfl), _, rfl, _, _, rfl, rfl, d1, .ref b, rfl, b, _, 2, 2, rfl, rfl, B'.ob, rfl, ?_⟩
        exact ⟨_, rfl, q _ _ (mod_lo m0) (mod_hi m0) ⟨c, ns, i', g' / m, x', n', B'.put B'.hi B'.x0 B'.x1⟩ (t'.trans But.upd)⟩
      · have hx : CPowG x' 3 := ⟨by decide, by
          have hb : Builtin.Int.intBits x' ≤ 64 := intBits_le_64 (by have := B'.x0; omega) (by have := B'.x1; omega)
          omega⟩
        refine ⟨.ref b, rfl, b, _, 3, _, rfl, rfl, SqL.of B'.ob, (atI_nat (j := 3) rfl), _, _, rfl, rfl, hx, .ref b, rfl, b, _, 4, _, rfl, rfl, SqL.of B'.ob, (atI_nat (j := 4) rfl), _, _, rfl, rfl, mul_right (by decide +kernel), _, _, rfl, rfl, _, _, rfl, rfl, .inl ⟨_, rfl, _, _, rfl, rfl, (by show (0 : Int) < _; decide), ?_⟩⟩
        refine ⟨.ref b, rfl, b, _, 3, 3, rfl, rfl, B'.ob, rfl, ?_⟩
        have B3 : BagIs K (upd H' b (.lst [.ref c, .int i', .int g', .int ((x' ^ (3 : Int).toNat + n' * 1299709 + 70001) % 2147483579), .int n'])) b c ns i' g' ((x' ^ (3 : Int).toNat + n' * 1299709 + 70001) % 2147483579) n' := B'.put B'.hi (mod_lo (by decide)) (Int.lt_trans (mod_hi (by decide)) (by decide))
        refine ⟨.ref b, rfl, b, _, 3, _, rfl, rfl, SqL.of B3.ob, (atI_nat (j := 3) rfl), _, _, rfl, rfl, wide_div (b := 10) (by decide) (by decide) (by decide) (by decide), .ref b, rfl, b, _, 3, _, rfl, rfl, SqL.of B3.ob, (atI_nat (j := 3) rfl), .inl ⟨_, rfl, _, _, rfl, rfl, (by show (0 : Int) < _; decide), _, _, rfl, rfl, mul_right (by decide +kernel), _, _, rfl, rfl, .inl ⟨_, rfl, _, rfl, _, _, rfl, rfl, m0, ?_⟩⟩⟩
        exact q _ _ (mod_lo m0) (mod_hi m0) ⟨c, ns, i', g', _, n', B3⟩ (t'.trans But.upd)
end
end My

set_option Elab.async false
set_option linter.all false
set_option maxRecDepth 100000
namespace My
open PySem PySem.Spec PyProof.Rows L2
abbrev sLawOf : Stmt := topS 15
theorem scLawOf : FnScope ["bag", "things"] ["bag", "things"] (defScope sLawOf) := ⟨rfl, rfl, rfl, by decide +kernel, rfl, by decide +kernel, by decide +kernel⟩
abbrev sLawLike : Stmt := topS 16
theorem scLawLike : FnScope ["told", "due", "a", "b"] ["told", "due"] (defScope sLawLike) := ⟨rfl, rfl, rfl, by decide +kernel, rfl, by decide +kernel, by decide +kernel⟩
/-- things are a list of whole numbers -/
def spOf (K : PySem.W.Frag) : Sp := fun vs H Q _ => ∃ (b a : Addr) (xs : List V), vs = [.ref b, .ref a] ∧ BagAt K H b ∧ a ≠ b ∧ SqL K H a xs ∧ 0 < xs.length ∧ xs.length < 1000 ∧ ∀ v H', v ∈ xs → BagAt K H' b → But b H H' → Q v H'
/-! ### data that are alike -/
def flat0 : V → Prop
  | .non => True
  | .bl _ => True
  | .int _ => True
  | .str _ => True
  | _ => False
def Lk (K : PySem.W.Frag) (H : Hp) : Nat → V → V → Prop
  | 0, v, w => v = w ∧ flat0 v
  | n + 1, v, w => (v = w ∧ flat0 v) ∨ ∃ a b xs ys, v = .ref a ∧ w = .ref b ∧ ((SqL K H a xs ∧ SqL K H b ys) ∨ (SqT K H a xs ∧ SqT K H b ys)) ∧ xs.length = ys.length ∧ xs.length < 1000 ∧ ∀ (i : Nat) x y, xs[i]? = some x → ys[i]? = some y → Lk K H n x y
theorem seqT_same {K : PySem.W.Frag} {H H' : Hp} {p : Addr} {xs : List V} (h : Same H H') (s : SqT K H p xs) : SqT K H' p xs := by
  rcases s with (s | ⟨o, s⟩) | s
  · exact .inl (.inl (h _ _ s))
  · exact .inl (.inr ⟨o, h _ _ s⟩)
  · exact .inr s
theorem Lk.same {K : PySem.W.Frag} {H H' : Hp} (s : Same H H') : ∀ {n : Nat} {v w : V}, Lk K H n v w → Lk K H' n v w
  | 0, _, _, h => h
  | n + 1, _, _, h => by
    rcases h with h | ⟨a, b, xs, ys, e1, e2, hs, hl, hb, hi⟩
    · exact .inl h
    · refine .inr ⟨a, b, xs, ys, e1, e2, ?_, hl, hb, fun i x y p q => (hi i x y p q).same s⟩
      rcases hs with ⟨p, q⟩ | ⟨p, q⟩
      · exact .inl ⟨s.seq p, s.seq q⟩
      · exact .inr ⟨seqT_same s p, seqT_same s q⟩
theorem Lk.flat {K : PySem.W.Frag} {H : Hp} {n : Nat} {v w : V} (e : v = w) (f : flat0 v) : Lk K H n v w := by
  cases n with
  | zero => exact ⟨e, f⟩
  | succ n => exact .inl ⟨e, f⟩
def spLike (K : PySem.W.Frag) (n : Nat) : Sp := fun vs H Q _ => ∃ v w, vs = [v, w] ∧ Lk K H n v w ∧ ∀ H', Same H H' → Q (.bl true) H'
theorem ty_list {K : PySem.W.Frag} {H : Hp} {a : Addr} {xs : List V} (h : SqL K H a xs) : TyX K H (.ref a) (.type "list") := by
  rcases h with (h | ⟨o, h⟩) | ⟨o, its, n, h, c, _⟩
  · exact .base (.lst h)
  · exact .base (.frz h)
  · exact .kList h c
theorem ty_tup {K : PySem.W.Frag} {H : Hp} {a : Addr} {xs : List V} (h : SqT K H a xs) : TyX K H (.ref a) (.type "tuple") := by
  rcases h with (h | ⟨o, h⟩) | ⟨o, its, n, h, c, _⟩
  · exact .base (.tup h)
  · exact .fTuple h
  · exact .kTuple h c
/-- the type of a flat value -/
def tyN : V → String
  | .non => "NoneType"
  | .bl _ => "bool"
  | .int _ => "int"
  | .str _ => "str"
  | _ => ""
theorem ty_flat {K : PySem.W.Frag} {H : Hp} {v : V} (h : flat0 v) : TyX K H v (.type (tyN v)) := by
  cases v with
  | non => exact .base .non
  | bl b => exact .base (.bl b)
  | int i => exact .base (.int i)
  | str x => exact .base (.str x)
  | _ => exact h.elim
theorem cls2 {a b : String} : Paired ClsV [.ty a, .ty b] [.type a, .type b] := .cons (.ty a) (.cons (.ty b) .nil)
section
variable {P : Program} {w : World} {K : PySem.W.Frag} {mg : Str → Option Value} {base : Heap}
theorem kit_ll : PySem.W.kitAny K (.type "list") [.type "list", .type "tuple"] = some true := by rfl
theorem kit_tl : PySem.W.kitAny K (.type "tuple") [.type "list", .type "tuple"] = some true := by rfl
theorem kit_flat {v : V} (h : flat0 v) : PySem.W.kitAny K (.type (tyN v)) [.type "list", .type "tuple"] = some false := by
  cases v <;> first | rfl | exact h.elim
theorem k1_ll : PySem.W.kitOne K (.type "list") (.type "list") = some true := by rfl
theorem k1_lt : PySem.W.kitOne K (.type "list") (.type "tuple") = some false := by rfl
theorem k1_tl : PySem.W.kitOne K (.type "tuple") (.type "list") = some false := by rfl
theorem k1_tt : PySem.W.kitOne K (.type "tuple") (.type "tuple") = some true := by rfl
theorem k1_flat {v : V} (h : flat0 v) (c : String) (hc : c = "bool" ∨ c = "str" ∨ c = "int") : ∃ b, PySem.W.kitOne K (.type (tyN v)) (.type c) = some b := by
  cases v <;> first | exact h.elim | (rcases hc with rfl | rfl | rfl <;> exact ⟨_, rfl⟩)
theorem pe_ty {X : Cx} (T : String) {x : Str} {pos : Pos} (hg : Gl X x) (hm : X.mg x = none) (hv : bootBuiltins x = some (.type T)) (hn : x ≠ "__name__" := by decide) (hd : (x == ("__debug__" : Str)) = false := by decide) : PE X (.Name x pos) (tC (.ty T)) := pe_bltn hg hm hv rfl hn hd
theorem walk_zipT {a b : Addr} {xs ys : List V} {n : Nat} (hn : n = min xs.length ys.length) : Walk (RZ.ItzT K a b) n (fun H => SqT K H a xs ∧ SqT K H b ys) (YPair (fun i => xs[i]?) (fun i => ys[i]?)) := by
  subst hn
  refine ⟨fun i _ hi q => ?_, fun _ q => ⟨xs, ys, q.1, q.2, by omega⟩, fun i H v H' _ q y => ?_⟩
  · have h1 : i < xs.length := by omega
    have h2 : i < ys.length := by omega
    exact ⟨xs, ys, xs[i], ys[i], q.1, q.2, by simp [h1], by simp [h2]⟩
  · obtain ⟨T, x, z, h1, h2, h3, h4, h5⟩ := y
    exact ⟨T, x, z, h1, h2, h3, h4 xs q.1, h5 ys q.2⟩
theorem ok_of {f fD : Addr} {fd fdD : FuncData} {k : Nat} (F : Fun K "_law_of" "_law_of" sLawOf f fd) (D : Cal P w K mg base "_law_draw" (k + 1) ["bag", "size"] (spDraw K) fD fdD) (b_len : mg "len" = none) : FnOk P w K mg base CX0 (k + 2) f fd ["bag", "things"] (spOf K) := by
  refine F.ok scLawOf (fun vs H Q E h => ?_) (fun cdv A outer s H vs Q E hr h => ?_)
  · obtain ⟨b, a, xs, rfl, _⟩ := h
    rfl
  · obtain ⟨b, a, xs, rfl, B, n, hs, h0, h1, q⟩ := h
    refine ⟨_, (pss_one (ps_ret (pe_ix ix_list (pv 1) (pe_call D.ok hr rfl D.g D.kp D.b .nil pass0 (pa_cons (pv 0) (pa_cons (pe_callB call_len rfl b_len (by decide +kernel) (pa_cons (pv 1) pa_nil)) pa_nil))) (fun _ _ => rfl)))), ?_⟩
    refine ⟨_, rfl, _, rfl, _, rfl, _, _, rfl, .inl ⟨_, hs, rfl⟩, b, _, rfl, B, by omega, by omega, fun r H' r0 r1 B' t => ?_⟩
    obtain ⟨j, rfl⟩ : ∃ j : Nat, r = (j : Int) := ⟨r.toNat, by omega⟩
    have hj : j < xs.length := by omega
    exact ⟨a, _, _, xs[j], rfl, rfl, t.seq n hs, atI_nat (List.getElem?_eq_getElem hj), q _ H' (List.getElem_mem hj) B' t⟩
theorem all_true : ∀ n : Nat, (List.replicate n true).all id = true := fun n => by
  induction n with
  | zero => rfl
  | succ n ih => rw [List.replicate_succ, List.all_cons, ih]; rfl
theorem FnOk.never {f : Addr} {fd : FuncData} {k : Nat} {ps : List Str} : FnOk P w K mg base CX0 k f fd ps (fun _ _ _ _ => False) := ⟨fun _ _ _ _ h => h.elim, fun _ _ _ _ _ _ _ _ _ _ _ _ _ h => h.elim⟩
def spLikeM (K : PySem.W.Frag) (M : Hp → V → V → Prop) : Sp := fun vs H Q _ => ∃ v w, vs = [v, w] ∧ ((v = w ∧ flat0 v) ∨ ∃ a b xs ys, v = .ref a ∧ w = .ref b ∧ ((SqL K H a xs ∧ SqL K H b ys) ∨ (SqT K H a xs ∧ SqT K H b ys)) ∧ xs.length = ys.length ∧ xs.length < 1000 ∧ ∀ (i : Nat) x y, xs[i]? = some x → ys[i]? = some y → M H x y) ∧ ∀ H', Same H H' → Q (.bl true) H'
theorem like_step {f : Addr} {fd : FuncData} {k : Nat} {R : Sp} {M : Hp → V → V → Prop} (F : Fun K "_law_like" "_law_like" sLawLike f fd) (g : mg "_law_like" = some (.ref f)) (b : Binds K fd ["told", "due"] [])
    (b_isinstance : mg "isinstance" = none) (b_list : mg "list" = none) (b_tuple : mg "tuple" = none) (b_bool : mg "bool" = none) (b_str : mg "str" = none) (b_int : mg "int" = none) (b_len : mg "len" = none) (b_all : mg "all" = none) (b_zip : mg "zip" = none)
    (G : FnOk P w K mg base CX0 k f fd ["told", "due"] R) (hM : ∀ v w H Q E, M H v w → (∀ H', Same H H' → Q (.bl true) H') → R [v, w] H Q E) (hS : ∀ H H' v w, Same H H' → M H v w → M H' v w) : FnOk P w K mg base CX0 (k + 1) f fd ["told", "due"] (spLikeM K M) := by
  refine F.ok scLawLike (fun vs H Q E h => ?_) (fun cdv A outer s H vs Q E hr h => ?_)
  · obtain ⟨v, w', rfl, _⟩ := h
    rfl
  · obtain ⟨v, w', rfl, L, q⟩ := h
    refine ⟨_, (pss_cons (ps_if (pt_val (pe_callB call_isiT rfl b_isinstance (by decide +kernel) (pa_cons (pv 1) (pa_cons (pe_tup (pa_cons (pe_ty "list" rfl b_list (by decide +kernel)) (pa_cons (pe_ty "tuple" rfl b_tuple (by decide +kernel)) pa_nil))) pa_nil)))) (pss_cons (ps_if (PW.pt (pw_or (pt_cmpR op_ne (pe_callB call_isi rfl b_isinstance (by decide +kernel) (pa_cons (pv 0) (pa_cons (pe_ty "list" rfl b_list (by decide +kernel)) pa_nil))) (pe_callB call_isi rfl b_isinstance (by decide +kernel) (pa_cons (pv 1) (pa_cons (pe_ty "list" rfl b_list (by decide +kernel)) pa_nil))) (nomark _)) (pw_or1 (pt_cmpR op_ne (pe_callB call_isi rfl b_isinstance (by decide +kernel) (pa_cons (pv 0) (pa_cons (pe_ty "tuple" rfl b_tuple (by decide +kernel)) pa_nil))) (pe_callB call_isi rfl b_isinstance (by decide +kernel) (pa_cons (pv 1) (pa_cons (pe_ty "tuple" rfl b_tuple (by decide +kernel)) pa_nil))) (nomark _))))) (pss_one (ps_ret pe_bl)) pss_nil)
      (pss_one (ps_ret (pe_and (pe_cmpR op_eq (pe_callB call_len rfl b_len (by decide +kernel) (pa_cons (pv 0) pa_nil)) (pe_callB call_len rfl b_len (by decide +kernel) (pa_cons (pv 1) pa_nil)) (nomark _)) (pe_one (pe_callB (cr_all rfl) rfl b_all (by decide +kernel) (pa_cons (pe_lc (own := [("a", 2), ("b", 3)]) (g := gTup K 2 (gCons (gName 2) (gCons (gName 3) gNil))) (tt := tYes) rfl scLawLike.nd (RZ.pi_zipA rfl b_zip (pa_cons (pv 0) (pa_cons (pv 1) pa_nil))) (blkOk_by (own := [("a", 2), ("b", 3)]) (N := ["told", "due", "a", "b"]) (sc := defScope sLawLike) (by decide +kernel)) (fun _ _ _ _ _ => (pg_tup rfl (pgs_cons (pg_name (i := 2) scLawLike.nd rfl (.inl rfl) (.inr rfl)) (pgs_cons (pg_name (i := 3) scLawLike.nd rfl (.inl rfl) (.inr rfl)) pgs_nil)))) (fun _ _ _ _ _ => pts_nil) (fun _ _ _ _ _ => (pe_call G hr rfl g F.kp b .nil pass0 (pa_cons (pv 2) (pa_cons (pv 3) pa_nil))))) pa_nil))))))) pss_nil)
    (pss_cons (ps_if (PW.pt (pw_or (pt_cmpR op_isN (pv 1) pe_non (nomark _)) (pw_or1 (pt_cmpR op_isN (pv 0) pe_non (nomark _))))) (pss_one (ps_ret (pe_and (pe_cmpR op_isN (pv 1) pe_non (nomark _)) (pe_one (pe_cmpR op_isN (pv 0) pe_non (nomark _)))))) pss_nil)
    (pss_cons (ps_if (PW.pt (pw_or (pt_val (pe_callB call_isiT rfl b_isinstance (by decide +kernel) (pa_cons (pv 0) (pa_cons (pe_tup (pa_cons (pe_ty "list" rfl b_list (by decide +kernel)) (pa_cons (pe_ty "tuple" rfl b_tuple (by decide +kernel)) pa_nil))) pa_nil)))) (pw_or1 (pt_cmpR op_ne (pe_callB call_isi rfl b_isinstance (by decide +kernel) (pa_cons (pv 0) (pa_cons (pe_ty "bool" rfl b_bool (by decide +kernel)) pa_nil))) (pe_callB call_isi rfl b_isinstance (by decide +kernel) (pa_cons (pv 1) (pa_cons (pe_ty "bool" rfl b_bool (by decide +kernel)) pa_nil))) (nomark _))))) (pss_one (ps_ret pe_bl)) pss_nil)
    (pss_cons (ps_if (PW.pt (pw_or (pt_cmpR op_ne (pe_callB call_isi rfl b_isinstance (by decide +kernel) (pa_cons (pv 0) (pa_cons (pe_ty "str" rfl b_str (by decide +kernel)) pa_nil))) (pe_callB call_isi rfl b_isinstance (by decide +kernel) (pa_cons (pv 1) (pa_cons (pe_ty "str" rfl b_str (by decide +kernel)) pa_nil))) (nomark _)) (pw_or1 (pt_cmpR op_ne (pe_callB call_isi rfl b_isinstance (by decide +kernel) (pa_cons (pv 0) (pa_cons (pe_ty "int" rfl b_int (by decide +kernel)) pa_nil))) (pe_callB call_isi rfl b_isinstance (by decide +kernel) (pa_cons (pv 1) (pa_cons (pe_ty "int" rfl b_int (by decide +kernel)) pa_nil))) (nomark _))))) (pss_one (ps_ret pe_bl)) pss_nil)
    (pss_one (ps_ret (pe_cmpR op_eq (pv 0) (pv 1) (nomark _)))))))), ?_⟩
    rcases L with ⟨rfl, fl⟩ | ⟨a, c, xs, ys, rfl, rfl, hs, hl, hb, hi⟩
    · have hf : flat0 v := fl
      refine ⟨_, rfl, (by show 2 ≤ sizeLine; decide), fun p np => ⟨_, p, _, _, _, _, rfl, upd_same, cls2, ty_flat hf, kit_flat hf, _, rfl, iteF ?_⟩⟩
      have s1 : Same H (upd H p (.tup [.ty "list", .ty "tuple"])) := same_upd np
      refine ⟨v, rfl, rfl, _, rfl, ite2 (fun e => iteT ?_) (fun e => ⟨v, rfl, rfl, _, rfl, ite2 (fun e' => absurd e' e) (fun _ => ?_)⟩)⟩
      · refine ⟨v, rfl, rfl, _, rfl, ?_⟩
        rw [e]
        refine iteT ⟨v, rfl, rfl, ?_⟩
        rw [e]
        exact q _ s1
      · refine ⟨_, rfl, (by show 2 ≤ sizeLine; decide), fun p2 np2 => ⟨_, p2, _, _, _, _, rfl, upd_same, cls2, ty_flat hf, kit_flat hf, _, rfl, iteF ?_⟩⟩
        have s2 : Same H (upd (upd H p (.tup [.ty "list", .ty "tuple"])) p2 (.tup [.ty "list", .ty "tuple"])) := s1.trans (same_upd np2)
        obtain ⟨k1, e1⟩ := k1_flat (K := K) hf "bool" (.inl rfl)
        obtain ⟨k2, e2⟩ := k1_flat (K := K) hf "str" (.inr (.inl rfl))
        obtain ⟨k3, e3⟩ := k1_flat (K := K) hf "int" (.inr (.inr rfl))
        refine ⟨_, rfl, _, _, _, _, _, rfl, .ty _, ty_flat hf, e1, _, rfl, _, _, _, _, _, rfl, .ty _, ty_flat hf, e1, rfl, _, rfl, ?_⟩
        rw [decide_eq_true rfl]
        refine iteF ⟨_, rfl, _, _, _, _, _, rfl, .ty _, ty_flat hf, e2, _, rfl, _, _, _, _, _, rfl, .ty _, ty_flat hf, e2, rfl, _, rfl, ?_⟩
        rw [decide_eq_true rfl]
        refine iteF ⟨_, rfl, _, _, _, _, _, rfl, .ty _, ty_flat hf, e3, _, rfl, _, _, _, _, _, rfl, .ty _, ty_flat hf, e3, rfl, _, rfl, ?_⟩
        rw [decide_eq_true rfl]
        refine iteF ⟨_, rfl, _, rfl, ?_, ?_⟩
        · cases v <;> first | rfl | exact hf.elim
        · rw [decide_eq_true rfl]
          exact q _ s2
    · -- lists or tuples
      have hr1 : ∀ (i : Nat) x y, xs[i]? = some x → ys[i]? = some y → M H x y := hi
      obtain ⟨T, kt, k1, k2, tya, tyc, hlen, hlen'⟩ : ∃ T, PySem.W.kitAny K (.type T) [.type "list", .type "tuple"] = some true ∧ (∃ k1, PySem.W.kitOne K (.type T) (.type "list") = some k1) ∧ (∃ k2, PySem.W.kitOne K (.type T) (.type "tuple") = some k2) ∧ (∀ H', Same H H' → TyX K H' (.ref a) (.type T)) ∧ (∀ H', Same H H' → TyX K H' (.ref c) (.type T)) ∧ (∀ H', Same H H' → LenV K (.ref a) H' xs.length) ∧ (∀ H', Same H H' → LenV K (.ref c) H' ys.length) := by
        rcases hs with ⟨p, q⟩ | ⟨p, q⟩
        · exact ⟨"list", kit_ll, ⟨_, k1_ll⟩, ⟨_, k1_lt⟩, fun _ s => ty_list (s.seq p), fun _ s => ty_list (s.seq q), fun _ s => .inl ⟨_, s.seq p, rfl⟩, fun _ s => .inl ⟨_, s.seq q, rfl⟩⟩
        · exact ⟨"tuple", kit_tl, ⟨_, k1_tl⟩, ⟨_, k1_tt⟩, fun _ s => ty_tup (seqT_same s p), fun _ s => ty_tup (seqT_same s q), fun _ s => .inr ⟨_, seqT_same s p, rfl⟩, fun _ s => .inr ⟨_, seqT_same s q, rfl⟩⟩
      obtain ⟨k1, e1⟩ := k1
      obtain ⟨k2, e2⟩ := k2
      refine ⟨_, rfl, (by show 2 ≤ sizeLine; decide), fun p0 np => ⟨_, p0, _, _, _, _, rfl, upd_same, cls2, tyc _ (same_upd np), kt, _, rfl, iteT ?_⟩⟩
      have s1 : Same H (upd H p0 (.tup [.ty "list", .ty "tuple"])) := same_upd np
      refine ⟨_, rfl, _, _, _, _, _, rfl, .ty _, tya _ s1, e1, _, rfl, _, _, _, _, _, rfl, .ty _, tyc _ s1, e1, rfl, _, rfl, ?_⟩
      rw [decide_eq_true rfl]
      refine iteF ⟨_, rfl, _, _, _, _, _, rfl, .ty _, tya _ s1, e2, _, rfl, _, _, _, _, _, rfl, .ty _, tyc _ s1, e2, rfl, _, rfl, ?_⟩
      rw [decide_eq_true rfl]
      refine iteF ⟨_, rfl, _, _, rfl, hlen _ s1, _, rfl, _, _, rfl, hlen' _ s1, rfl, _, rfl, ?_⟩
      rw [hl, decide_eq_true rfl]
      refine iteT ⟨_, rfl, _, rfl, a, c, xs, ys, rfl, ?_⟩
      rcases hs with ⟨p, q'⟩ | ⟨p, q'⟩
      ·
        refine .inl ⟨Same.seq s1 p, Same.seq s1 q', fun D nD => lc_it (walk_zip (K := K) (a := a) (b := c) (by omega : xs.length = min xs.length ys.length)) (fun i H2 => Same (upd H p0 (.tup [.ty "list", .ty "tuple"])) H2 ∧ H2 D = some (.lst ((List.replicate i true).map V.bl))) ⟨same_upd nD, upd_same⟩ (fun i H2 _ h => ⟨Same.seq (s1.trans h.1) p, Same.seq (s1.trans h.1) q'⟩) ?_ ?_⟩
        · rintro i z H2 H3 hlt ⟨s2, hD⟩ ⟨T, x, y, rfl, nT, rfl, hx, hy⟩
          have nTD : D ≠ T := ne_of_none hD nT
          refine ⟨T, [x, y], rfl, SqT.of upd_same, rfl, x, [y], rfl, y, [], rfl, rfl, rfl, ?_⟩
          unfold tYes
          refine iteT ?_
          refine ⟨x, rfl, y, rfl, hM x y _ _ _ (hS _ _ _ _ ((s1.trans s2).trans (same_upd nT)) (hr1 i x y hx hy)) fun H4 s4 => ?_⟩
          have hD4 : H4 D = some (.lst ((List.replicate i true).map V.bl)) := s4 _ _ (by rw [upd_ne nTD]; exact hD)
          refine ⟨_, hD4, ?_, ?_, ?_⟩
          · rw [List.length_map, List.length_replicate]
            exact small1000 (by omega)
          · intro p' o' h'
            have nq : p' ≠ D := ne_of_none h' nD
            rw [upd_ne nq]
            exact s4 _ _ (same_upd nT _ _ (s2 _ _ h'))
          · rw [upd_same, List.replicate_succ', List.map_append]
            rfl
        · rintro H2 ⟨s2, hD⟩
          refine ⟨D, _, rfl, SqL.of hD, ?_⟩
          rw [all_true]
          exact q _ (s1.trans s2)
      ·
        refine .inr ⟨seqT_same s1 p, seqT_same s1 q', fun D nD => lc_it (walk_zipT (K := K) (a := a) (b := c) (by omega : xs.length = min xs.length ys.length)) (fun i H2 => Same (upd H p0 (.tup [.ty "list", .ty "tuple"])) H2 ∧ H2 D = some (.lst ((List.replicate i true).map V.bl))) ⟨same_upd nD, upd_same⟩ (fun i H2 _ h => ⟨seqT_same (s1.trans h.1) p, seqT_same (s1.trans h.1) q'⟩) ?_ ?_⟩
        · rintro i z H2 H3 hlt ⟨s2, hD⟩ ⟨T, x, y, rfl, nT, rfl, hx, hy⟩
          have nTD : D ≠ T := ne_of_none hD nT
          refine ⟨T, [x, y], rfl, SqT.of upd_same, rfl, x, [y], rfl, y, [], rfl, rfl, rfl, ?_⟩
          unfold tYes
          refine iteT ?_
          refine ⟨x, rfl, y, rfl, hM x y _ _ _ (hS _ _ _ _ ((s1.trans s2).trans (same_upd nT)) (hr1 i x y hx hy)) fun H4 s4 => ?_⟩
          have hD4 : H4 D = some (.lst ((List.replicate i true).map V.bl)) := s4 _ _ (by rw [upd_ne nTD]; exact hD)
          refine ⟨_, hD4, ?_, ?_, ?_⟩
          · rw [List.length_map, List.length_replicate]
            exact small1000 (by omega)
          · intro p' o' h'
            have nq : p' ≠ D := ne_of_none h' nD
            rw [upd_ne nq]
            exact s4 _ _ (same_upd nT _ _ (s2 _ _ h'))
          · rw [upd_same, List.replicate_succ', List.map_append]
            rfl
        · rintro H2 ⟨s2, hD⟩
          refine ⟨D, _, rfl, SqL.of hD, ?_⟩
          rw [all_true]
          exact q _ (s1.trans s2)

theorem ok_like {f : Addr} {fd : FuncData} (F : Fun K "_law_like" "_law_like" sLawLike f fd) (g : mg "_law_like" = some (.ref f)) (b : Binds K fd ["told", "due"] [])
    (b_isinstance : mg "isinstance" = none) (b_list : mg "list" = none) (b_tuple : mg "tuple" = none) (b_bool : mg "bool" = none) (b_str : mg "str" = none) (b_int : mg "int" = none) (b_len : mg "len" = none) (b_all : mg "all" = none) (b_zip : mg "zip" = none) :
    ∀ n : Nat, FnOk P w K mg base CX0 (n + 1) f fd ["told", "due"] (spLike K n) := by
  intro n
  induction n with
  | zero =>
    exact (like_step (M := fun _ _ _ => False) (R := fun _ _ _ _ => False) F g b b_isinstance b_list b_tuple b_bool b_str b_int b_len b_all b_zip FnOk.never (fun _ _ _ _ _ h _ => h) (fun _ _ _ _ _ h => h)).imp
      fun vs H Q E ⟨v, w', e, L, q⟩ => ⟨v, w', e, .inl L, q⟩
  | succ n ih =>
    exact (like_step (M := fun H v w => Lk K H n v w) F g b b_isinstance b_list b_tuple b_bool b_str b_int b_len b_all b_zip ih (fun v w H Q E h q => ⟨v, w, rfl, h, q⟩) (fun _ _ _ _ s h => h.same s)).imp
      fun vs H Q E ⟨v, w', e, L, q⟩ => ⟨v, w', e, L, q⟩
end
end My

set_option Elab.async false
namespace My
/-- x / y is t / b in lowest terms; 0 / 1 where b is 0 -/
structure WR (t b x y : Int) : Prop where
  pos : 1 ≤ y
  low : Nat.gcd x.natAbs y.natAbs = 1
  eq : b ≠ 0 → x * b = t * y
  z : b = 0 → x = 0 ∧ y = 1
  lx : x.natAbs ≤ t.natAbs
  ly : y.natAbs ≤ b.natAbs + 1
theorem low_uniq {x y x' y' : Int} (p : 1 ≤ y) (p' : 1 ≤ y') (l : Nat.gcd x.natAbs y.natAbs = 1) (l' : Nat.gcd x'.natAbs y'.natAbs = 1) (h : x * y' = x' * y) : x = x' ∧ y = y' := by
  have h1 : x.natAbs * y'.natAbs = x'.natAbs * y.natAbs := by rw [← Int.natAbs_mul, ← Int.natAbs_mul, h]
  have d1 : y.natAbs ∣ y'.natAbs := by
    have : y.natAbs ∣ x.natAbs * y'.natAbs := by rw [h1]; exact Nat.dvd_mul_left _ _
    exact Nat.Coprime.dvd_of_dvd_mul_left (Nat.Coprime.symm l) this
  have d2 : y'.natAbs ∣ y.natAbs := by
    have : y'.natAbs ∣ x'.natAbs * y.natAbs := by rw [← h1]; exact Nat.dvd_mul_left _ _
    exact Nat.Coprime.dvd_of_dvd_mul_left (Nat.Coprime.symm l') this
  have e : y.natAbs = y'.natAbs := Nat.dvd_antisymm d1 d2
  have e2 : y = y' := by omega
  subst e2
  exact ⟨Int.eq_of_mul_eq_mul_right (by omega) h, rfl⟩
theorem WR.uniq {t b t' b' x y x' y' : Int} (W : WR t b x y) (W' : WR t' b' x' y') (hb : b ≠ 0) (hb' : b' ≠ 0) (h : t * b' = t' * b) : x = x' ∧ y = y' := by
  refine low_uniq W.pos W'.pos W.low W'.low ?_
  have e1 := W.eq hb
  have e2 := W'.eq hb'
  have : (x * y') * (b * b') = (x' * y) * (b * b') := by
    have a1 : (x * y') * (b * b') = (x * b) * (y' * b') := by grind
    have a2 : (x' * y) * (b * b') = (x' * b') * (y * b) := by grind
    rw [a1, a2, e1, e2]
    grind
  exact Int.eq_of_mul_eq_mul_right (Int.mul_ne_zero hb hb') this
/-- a pair in lowest terms is its own worth -/
theorem WR.self {x y : Int} (p : 1 ≤ y) (l : Nat.gcd x.natAbs y.natAbs = 1) : WR x y x y := ⟨p, l, fun _ => rfl, fun h => by omega, Nat.le_refl _, Nat.le_succ _⟩
theorem wr_zero {t : Int} : WR t 0 0 1 := ⟨by decide, by decide, fun h => absurd rfl h, fun _ => ⟨rfl, rfl⟩, Nat.zero_le _, by decide⟩
theorem wr_make {t b g : Int} (hb : b ≠ 0) (hg : g = ((Nat.gcd t.natAbs b.natAbs : Nat) : Int)) : 0 < g ∧ g.natAbs ≤ b.natAbs ∧ (b < 0 → WR t b (t.fdiv (-g)) (b.fdiv (-g))) ∧ (¬ b < 0 → WR t b (t.fdiv g) (b.fdiv g)) := by
  have hbn : 0 < b.natAbs := by omega
  have hgn : 0 < Nat.gcd t.natAbs b.natAbs := Nat.gcd_pos_of_pos_right _ hbn
  have hg0 : 0 < g := by omega
  have hgl : Nat.gcd t.natAbs b.natAbs ≤ b.natAbs := Nat.le_of_dvd hbn (Nat.gcd_dvd_right _ _)
  have dt : g ∣ t := by rw [hg]; exact Int.ofNat_dvd_left.mpr (Nat.gcd_dvd_left _ _)
  have db : g ∣ b := by rw [hg]; exact Int.ofNat_dvd_left.mpr (Nat.gcd_dvd_right _ _)
  obtain ⟨t', ht⟩ := dt
  obtain ⟨b', hb'⟩ := db
  have hgn2 : g.natAbs = Nat.gcd t.natAbs b.natAbs := by omega
  have co : Nat.gcd t'.natAbs b'.natAbs = 1 := by
    have e : Nat.gcd t.natAbs b.natAbs = g.natAbs * Nat.gcd t'.natAbs b'.natAbs := by
      rw [ht, hb', Int.natAbs_mul, Int.natAbs_mul, Nat.gcd_mul_left]
    rw [hgn2] at e
    exact Nat.eq_of_mul_eq_mul_left hgn (by omega)
  have lt : t'.natAbs ≤ t.natAbs := by rw [ht, Int.natAbs_mul]; exact Nat.le_mul_of_pos_left _ (by omega)
  have lb : b'.natAbs ≤ b.natAbs := by rw [hb', Int.natAbs_mul]; exact Nat.le_mul_of_pos_left _ (by omega)
  have hb0 : b' ≠ 0 := by rintro rfl; rw [Int.mul_zero] at hb'; exact hb hb'
  refine ⟨hg0, by omega, fun hn => ?_, fun hn => ?_⟩
  · have e1 : t.fdiv (-g) = -t' := by
      rw [ht, show g * t' = (-g) * (-t') by grind]
      exact Int.mul_fdiv_cancel_left _ (by omega)
    have e2 : b.fdiv (-g) = -b' := by
      rw [hb', show g * b' = (-g) * (-b') by grind]
      exact Int.mul_fdiv_cancel_left _ (by omega)
    have hb1 : b' < 0 := by
      rcases Int.lt_trichotomy b' 0 with h | h | h
      · exact h
      · exact absurd h hb0
      · have := Int.mul_pos hg0 h
        omega
    rw [e1, e2]
    exact ⟨by omega, by rw [Int.natAbs_neg, Int.natAbs_neg]; exact co, fun _ => by rw [hb', ht]; grind, fun h => absurd h hb, by rw [Int.natAbs_neg]; exact lt, by rw [Int.natAbs_neg]; omega⟩
  · have e1 : t.fdiv g = t' := by
      rw [ht]
      exact Int.mul_fdiv_cancel_left _ (by omega)
    have e2 : b.fdiv g = b' := by
      rw [hb']
      exact Int.mul_fdiv_cancel_left _ (by omega)
    have hb1 : 0 < b' := by
      rcases Int.lt_trichotomy b' 0 with h | h | h
      · have := Int.mul_neg_of_pos_of_neg hg0 h
        omega
      · exact absurd h hb0
      · exact h
    rw [e1, e2]
    exact ⟨by omega, co, fun _ => by rw [hb', ht]; grind, fun h => absurd h hb, lt, by omega⟩
/-- a sum less one part, a difference and one part -/
theorem wr_back {x0 x1 y0 y1 p0 p1 m0 m1 : Int} (hx : 1 ≤ x1) (hy : 1 ≤ y1) (lx : Nat.gcd x0.natAbs x1.natAbs = 1) (P : WR (x0 * y1 + y0 * x1) (x1 * y1) p0 p1) (M : WR (p0 * y1 - y0 * p1) (p1 * y1) m0 m1) : m0 = x0 ∧ m1 = x1 := by
  have hxy : x1 * y1 ≠ 0 := Int.mul_ne_zero (by omega) (by omega)
  have hp := P.pos
  have e := P.eq hxy
  refine M.uniq (WR.self hx lx) (Int.mul_ne_zero (by omega) (by omega)) (by omega) ?_
  have : ((p0 * y1 - y0 * p1) * x1) * y1 = (x0 * (p1 * y1)) * y1 := by grind
  exact Int.eq_of_mul_eq_mul_right (by omega) this
theorem wr_back' {x0 x1 y0 y1 p0 p1 m0 m1 : Int} (hx : 1 ≤ x1) (hy : 1 ≤ y1) (lx : Nat.gcd x0.natAbs x1.natAbs = 1) (P : WR (x0 * y1 - y0 * x1) (x1 * y1) p0 p1) (M : WR (p0 * y1 + y0 * p1) (p1 * y1) m0 m1) : m0 = x0 ∧ m1 = x1 := by
  have hxy : x1 * y1 ≠ 0 := Int.mul_ne_zero (by omega) (by omega)
  have hp := P.pos
  have e := P.eq hxy
  refine M.uniq (WR.self hx lx) (Int.mul_ne_zero (by omega) (by omega)) (by omega) ?_
  have : ((p0 * y1 + y0 * p1) * x1) * y1 = (x0 * (p1 * y1)) * y1 := by grind
  exact Int.eq_of_mul_eq_mul_right (by omega) this
theorem wr_back2 {x0 x1 y0 y1 p0 p1 m0 m1 : Int} (hx : 1 ≤ x1) (hy : 1 ≤ y1) (h0 : y0 ≠ 0) (lx : Nat.gcd x0.natAbs x1.natAbs = 1) (P : WR (x0 * y0) (x1 * y1) p0 p1) (M : WR (p0 * y1) (p1 * y0) m0 m1) : m0 = x0 ∧ m1 = x1 := by
  have hxy : x1 * y1 ≠ 0 := Int.mul_ne_zero (by omega) (by omega)
  have hp := P.pos
  have e := P.eq hxy
  refine M.uniq (WR.self hx lx) (Int.mul_ne_zero (by omega) h0) (by omega) ?_
  grind
theorem wr_back2' {x0 x1 y0 y1 p0 p1 m0 m1 : Int} (hx : 1 ≤ x1) (hy : 1 ≤ y1) (h0 : y0 ≠ 0) (lx : Nat.gcd x0.natAbs x1.natAbs = 1) (P : WR (x0 * y1) (x1 * y0) p0 p1) (M : WR (p0 * y0) (p1 * y1) m0 m1) : m0 = x0 ∧ m1 = x1 := by
  have hxy : x1 * y0 ≠ 0 := Int.mul_ne_zero (by omega) h0
  have hp := P.pos
  have e := P.eq hxy
  refine M.uniq (WR.self hx lx) (Int.mul_ne_zero (by omega) (by omega)) (by omega) ?_
  grind
end My

set_option Elab.async false
set_option linter.all false
set_option maxRecDepth 100000
namespace My
open PySem PySem.Spec PyProof.Rows L2
/-! ### a call by keywords alone -/
section
variable {X : Cx} {CX : CXT} {k : Nat} {f : Addr} {fd : FuncData} {ps ks : List Str} {sp : Sp} {E : XK} {x : Str} {p pos : Pos} {kws : List Keyword} {tk : TA} {g : List Value → List Value → List Value} {gV : List V → List V → List V}
theorem pe_callN0 (F : FnOk X.prog X.w X.K X.mg X.base CX k f fd ps sp) (hr : Room k X.A) (hg : Gl X x) (hm : X.mg x = some (.ref f)) (hk : PySem.W.keepIn X.K (.ref f) = true) (hb : KBn X.K fd ps 0 ks g gV) (hx : Passes CX X E)
    (hkw : PK X kws tk) (hall : (backToKw pos (keywordEach kws X.env)).all (·.1.isSome) = true := by rfl) (hks : (backToKw pos (keywordEach kws X.env)).filterMap (·.1) = ks := by rfl)
    (hdb : (x == ("__debug__" : Str)) = false := by decide)
    (hpl : ((backTo pos (starEach [] X.env)).any (·.1) || (backToKw pos (keywordEach kws X.env)).any (·.1.isNone)) = false := by rfl) :
    PE X (.Call (.Name x p) [] kws pos) (tCallN 0 ks.length sp gV E tNil tk) := by
  refine ⟨fun pins s σ H Q I h => ?_⟩
  refine wpAny_Call_Name_kw (ld_glob I hg hm ?_ hdb)
  refine PySem.W.callWith_KW0 (h₀ := X.base) I.ok.mod.kin hk hall ?_ hpl
  refine thn (hkw.run pos pins s σ H _ I h) fun ws s2 ⟨zs, H2, I2, rz, l1, l2, q2⟩ => ⟨I2.kIn, ?_⟩
  rw [hks]
  exact run_fnN F hr hb hx I2 .nil rz l1 l2 q2
end
abbrev sWorth : Stmt := topS 7
theorem scWorth : FnScope ["top", "bottom", "common"] ["top", "bottom"] (defScope sWorth) := ⟨rfl, rfl, rfl, by decide +kernel, rfl, by decide +kernel, by decide +kernel⟩
abbrev FunW (K : PySem.W.Frag) (f : Addr) (fd : FuncData) : Prop := FunD K "worth" "worth" (defArgs sWorth) (defBody sWorth) (defScope sWorth) [.int 1] [] f fd
/-- both by place -/
theorem bind2 {K : PySem.W.Frag} {f : Addr} {fd : FuncData} (F : FunW K f fd) : Binds K fd ["top", "bottom"] [] := by
  obtain ⟨ds, r, b⟩ := FunD.binds1 (ps := ["top", "bottom"]) F 2 1 (by simp) rfl (fun T kV doc pm an cdv ct us its h1 h2 => by
    match us, h1, its, h2 with
    | [a, c], _, [d], _ => exact ⟨_, rfl, rfl⟩)
  cases r
  exact b
theorem bind1 {K : PySem.W.Frag} {f : Addr} {fd : FuncData} (F : FunW K f fd) : ∃ ds, Vals [.int 1] ds ∧ Binds K fd ["top", "bottom"] ds :=
  FunD.binds1 (ps := ["top", "bottom"]) F 1 0 (by simp) rfl (fun T kV doc pm an cdv ct us its h1 h2 => by
    match us, h1, its, h2 with
    | [a], _, [d], _ => exact ⟨_, rfl, rfl⟩)
def swp {α : Type} (d : α) (ws : List α) : List α := [ws.getD 1 d, ws.getD 0 d]
theorem bindK {K : PySem.W.Frag} {f : Addr} {fd : FuncData} (F : FunW K f fd) : KBn K fd ["top", "bottom"] 0 ["bottom", "top"] (fun _ ws => ws.reverse) (fun _ zs => zs.reverse) := by
  obtain ⟨oc, od, dV, kV, doc, pm, an, cdv, ct, osl, rfl, lk, hcd, hD, hK⟩ := F.ex
  rcases hD with ⟨e, _⟩ | ⟨_, T, o, its, m, rfl, lT, oT, rT⟩
  · cases e
  · refine ⟨fun s us ws X l1 l2 => ?_, fun r1 r2 => ?_⟩
    · match us, l1, ws, l2, its, rT.length with
      | [], _, [w0, w1], _, [d], _ => exact BindsTo.of_looks fun M => looks_items X lT oT (.of_pure rfl)
    · have : ∀ {xs : List V} {us : List Value}, Vals xs us → Vals xs.reverse us.reverse := by
        intro xs us r
        induction r with
        | nil => exact .nil
        | cons h t ih =>
          rw [List.reverse_cons, List.reverse_cons]
          exact ih.append (.cons h .nil)
      exact this r2
def IsW (K : PySem.W.Frag) (H : Hp) (v : V) (x y : Int) : Prop := ∃ a, v = .ref a ∧ SqT K H a [.int x, .int y]
theorem IsW.same {K : PySem.W.Frag} {H H' : Hp} {v : V} {x y : Int} (s : Same H H') (h : IsW K H v x y) : IsW K H' v x y := let ⟨a, e, h⟩ := h; ⟨a, e, seqT_same s h⟩
def spWorth (K : PySem.W.Frag) : Sp := fun vs H Q _ => ∃ t b : Int, vs = [.int t, .int b] ∧ b.natAbs < 2 ^ 8000 ∧ ∀ v x y H', WR t b x y → IsW K H' v x y → Same H H' → Q v H'
section
variable {P : Program} {w : World} {K : PySem.W.Frag} {mg : Str → Option Value} {base : Heap}
theorem log_of {n : Nat} (h : n < 2 ^ 8000) : n.log2 < 9000 := Nat.lt_of_lt_of_le (PySem.Flt.log2_lt_of (by decide) h) (by decide)
theorem ok_worth {f aZ : Addr} {fd : FuncData} {k : Nat} (F : FunW K f fd) (b_gcd : mg "gcd" = some (.builtin "math.gcd")) (g_ZERO : mg "ZERO" = some (.ref aZ)) (hZ : ∀ H, SqT K H aZ [.int 0, .int 1]) : FnOk P w K mg base CX0 (k + 1) f fd ["top", "bottom"] (spWorth K) := by
  refine F.ok scWorth (fun vs H Q E h => ?_) (fun cdv A outer s H vs Q E hr h => ?_)
  · obtain ⟨t, b, rfl, _⟩ := h
    rfl
  · obtain ⟨t, b, rfl, hb9, q⟩ := h
    refine ⟨_, (pss_cons (ps_if (pt_cmpR op_eq (pv 1) pe_int (nomark _)) (pss_one (ps_ret (pe_glob (v := .ref aZ) rfl g_ZERO rfl))) pss_nil)
      (pss_cons (ps_set (i := 2) scWorth.nd rfl (.inl rfl) (pe_callBfun cr_gcd rfl b_gcd (pa_cons (pv 0) (pa_cons (pv 1) pa_nil))))
      (C8.pss_cut (ps_if (pt_cmpR op_lt (pv 1) pe_int (nomark _)) (pss_one (ps_set (i := 2) scWorth.nd rfl (.inl rfl) (pe_un un_neg (pv 2)))) pss_nil)
      (pss_one (ps_ret (pe_tup (pa_cons (pe_op op_divS (pv 0) (pv 2)) (pa_cons (pe_op op_divS (pv 1) (pv 2)) pa_nil)))))))), ?_⟩
    refine ⟨_, rfl, rfl, _, rfl, ite2 (fun e => ?_) (fun e => ?_)⟩
    · have e0 : b = 0 := V.int.inj (of_decide_eq_true e)
      subst e0
      exact q _ 0 1 H wr_zero ⟨aZ, rfl, hZ H⟩ (Same.refl H)
    · have hb0 : b ≠ 0 := fun z => e (decide_eq_true (by rw [z]))
      obtain ⟨g0, gl, wn, wp⟩ := wr_make (t := t) hb0 rfl
      refine ⟨_, rfl, _, rfl, t, b, rfl, ?_⟩
      revert g0 gl wn wp
      generalize ((Nat.gcd t.natAbs b.natAbs : Nat) : Int) = g
      intro g0 gl wn wp
      refine ⟨fun σ' H' => ∃ c : Int, σ' = [some (.int t), some (.int b), some (.int c)] ∧ H' = H ∧ c ≠ 0 ∧ c.natAbs < 2 ^ 8000 ∧ WR t b (t.fdiv c) (b.fdiv c), ?_, ?_⟩
      · refine ⟨_, rfl, _, _, rfl, rfl, _, rfl, ite2 (fun e => ?_) (fun e => ?_)⟩
        · exact ⟨_, rfl, g, rfl, _, rfl, rfl, by omega, by rw [Int.natAbs_neg]; exact Nat.lt_of_le_of_lt gl hb9, wn (of_decide_eq_true e)⟩
        · exact ⟨_, rfl, rfl, by omega, Nat.lt_of_le_of_lt gl hb9, wp (fun z => e (decide_eq_true z))⟩
      · rintro σ' H' ⟨c, rfl, rfl, c0, c9, W⟩
        have hc : ∀ i, CDivS i c := fun i => ⟨c0, log_of c9⟩
        refine ⟨_, rfl, _, rfl, _, _, rfl, rfl, hc _, _, rfl, _, rfl, _, _, rfl, rfl, hc _, (by show 2 ≤ sizeLine; decide), fun p np => ?_⟩
        exact q _ _ _ _ W ⟨p, rfl, SqT.of upd_same⟩ (same_upd np)
end
end My

set_option Elab.async false
set_option linter.all false
set_option maxRecDepth 100000
namespace My
open PySem PySem.Spec PyProof.Rows L2
abbrev sLawGcd : Stmt := topS 17
theorem scLawGcd : FnScope ["x", "y"] ["x", "y"] (defScope sLawGcd) := ⟨rfl, rfl, rfl, by decide +kernel, rfl, by decide +kernel, by decide +kernel⟩
abbrev sLawAmount : Stmt := topS 18
theorem scLawAmount : FnScope ["bag", "kind", "some", "k"] ["bag"] (defScope sLawAmount) := ⟨rfl, rfl, rfl, by decide +kernel, rfl, by decide +kernel, by decide +kernel⟩
def spGcd : Sp := fun vs H Q _ => ∃ x y : Int, vs = [.int x, .int y] ∧ Q (.int ((Nat.gcd x.natAbs y.natAbs : Nat) : Int)) H
def spAmount (K : PySem.W.Frag) : Sp := fun vs H Q _ => ∃ b, vs = [.ref b] ∧ BagAt K H b ∧ ∀ (n : Int) H', n.natAbs < 10 ^ 80 → BagAt K H' b → But b H H' → Q (.int n) H'
def muGcd : L2.St → Hp → Nat := fun σ _ => match σ with
  | [_, some (.int y)] => y.toNat
  | _ => 0
section
variable {P : Program} {w : World} {K : PySem.W.Frag} {mg : Str → Option Value} {base : Heap}
theorem abs_if (x : Int) : (if x < 0 then -x else x) = (x.natAbs : Int) := by split <;> omega
theorem ok_gcd {f : Addr} {fd : FuncData} {k : Nat} (F : Fun K "_law_gcd" "_law_gcd" sLawGcd f fd) (b_abs : mg "abs" = none) (b_int : mg "int" = none) : FnOk P w K mg base CX0 (k + 1) f fd ["x", "y"] spGcd := by
  refine F.ok scLawGcd (fun vs H Q E h => ?_) (fun cdv A outer s H vs Q E hr h => ?_)
  · obtain ⟨x, y, rfl, _⟩ := h
    rfl
  · obtain ⟨x, y, rfl, q⟩ := h
    refine ⟨_, (pss_cons (ps_par (i := 0) (j := 1) rfl scLawGcd.nd rfl rfl (by decide) rfl rfl (pa_cons (pe_callB call_abs rfl b_abs (by decide +kernel) (pa_cons (pv 0) pa_nil)) (pa_cons (pe_callB call_abs rfl b_abs (by decide +kernel) (pa_cons (pv 1) pa_nil)) pa_nil)) rfl)
      (pss_cons (ps_while PassesOwn.never (pt_cmpR op_gt (pv 1) pe_int (nomark _)) (pss_one (ps_par (i := 0) (j := 1) rfl scLawGcd.nd rfl rfl (by decide) rfl rfl (pa_cons (pv 1) (pa_cons (pe_op op_mod (pe_callTy call_int1 rfl b_int (by decide +kernel) (pa_cons (pv 0) pa_nil)) (pv 1)) pa_nil)) rfl)))
      (pss_one (ps_ret (pv 0))))), ?_⟩
    refine ⟨_, rfl, _, rfl, _, rfl, _, rfl, _, _, rfl, ?_⟩
    rw [abs_if, abs_if]
    refine while_by (fun σ H' => ∃ a b : Int, σ = [some (.int a), some (.int b)] ∧ H' = H ∧ 0 ≤ a ∧ 0 ≤ b ∧ Nat.gcd a.natAbs b.natAbs = Nat.gcd x.natAbs y.natAbs) muGcd ⟨_, _, rfl, rfl, Int.natCast_nonneg _, Int.natCast_nonneg _, rfl⟩ ?_ ?_
    · rintro σ H' ⟨a, b, rfl, rfl, a0, b0, e⟩
      refine ⟨_, rfl, _, _, rfl, rfl, _, rfl, ite2 (fun c => ?_) (fun c => ?_)⟩
      · have hb : 0 < b := of_decide_eq_true c
        refine ⟨_, rfl, _, rfl, .inl ⟨_, rfl, _, rfl, _, _, rfl, rfl, hb, _, _, rfl, ?_, ?_⟩⟩
        · refine ⟨_, _, rfl, rfl, b0, mod_lo hb, ?_⟩
          rw [← e]
          have h1 : (a % b).natAbs = a.natAbs % b.natAbs := by
            obtain ⟨a', rfl⟩ := Int.eq_ofNat_of_zero_le a0
            obtain ⟨b', rfl⟩ := Int.eq_ofNat_of_zero_le b0
            rfl
          rw [h1, Nat.gcd_comm a.natAbs, Nat.gcd_rec b.natAbs a.natAbs, Nat.gcd_comm]
        · have h2 := mod_hi (a := a) hb
          have h3 := mod_lo (a := a) hb
          show (a % b).toNat < b.toNat
          omega
      · have hb : b = 0 := by
          have : ¬ 0 < b := fun z => c (decide_eq_true z)
          omega
        subst hb
        refine ⟨_, rfl, ?_⟩
        have e2 : a = ((Nat.gcd x.natAbs y.natAbs : Nat) : Int) := by
          rw [← e]
          simp
          omega
        rw [e2]
        exact q
    · rintro σ H Q Q' hm ⟨v, e1, i, j, e3, e4, k, e5, z⟩
      exact ⟨v, e1, i, j, e3, e4, k, e5, hm _ _ z⟩
theorem small_of {n m : Nat} (h : n < 10 ^ 80) : n < 2 ^ 3000 := Nat.lt_trans h (by decide +kernel)
theorem ok_amount {f fD fO : Addr} {fd fdD fdO : FuncData} {k : Nat} (F : Fun K "_law_amount" "_law_amount" sLawAmount f fd) (D : Cal P w K mg base "_law_draw" (k + 1) ["bag", "size"] (spDraw K) fD fdD) (O : Cal P w K mg base "_law_of" (k + 2) ["bag", "things"] (spOf K) fO fdO) (b_range : mg "range" = none) :
    FnOk P w K mg base CX0 (k + 3) f fd ["bag"] (spAmount K) := by
  refine F.ok scLawAmount (fun vs H Q E h => ?_) (fun cdv A outer s H vs Q E hr h => ?_)
  · obtain ⟨b, rfl, _⟩ := h
    rfl
  · obtain ⟨b, rfl, B, q⟩ := h
    have hr1 : Room (k + 1) _ := hr.mono (by omega)
    refine ⟨_, (pss_cons (ps_set (i := 1) scLawAmount.nd rfl (.inl rfl) (pe_call D.ok hr1 rfl D.g D.kp D.b .nil pass0 (pa_cons (pv 0) (pa_cons pe_int pa_nil))))
      (C8.pss_cut (ps_if (pt_cmpR op_lt (pv 1) pe_int (nomark _)) (pss_one (ps_set (i := 2) scLawAmount.nd rfl (.inl rfl) (pe_call O.ok hr rfl O.g O.kp O.b .nil pass0 (pa_cons (pv 0) (pa_cons (pe_lst (pa_cons pe_int (pa_cons pe_int (pa_cons pe_int (pa_cons pe_int (pa_cons pe_int (pa_cons (pe_call D.ok hr1 rfl D.g D.kp D.b .nil pass0 (pa_cons (pv 0) (pa_cons pe_int pa_nil))) (pa_cons (pe_call D.ok hr1 rfl D.g D.kp D.b .nil pass0 (pa_cons (pv 0) (pa_cons pe_int pa_nil))) pa_nil)))))))) pa_nil))))) (pss_cons (ps_set (i := 2) scLawAmount.nd rfl (.inl rfl) pe_int)
        (pss_cons (ps_for PassesOwn.never rfl (pi_range1 rfl b_range (pa_cons (pe_op op_add pe_int (pe_call D.ok hr1 rfl D.g D.kp D.b .nil pass0 (pa_cons (pv 0) (pa_cons pe_int pa_nil)))) pa_nil)) (pg_name (i := 3) scLawAmount.nd rfl (.inl rfl))
          (pss_one (ps_set (i := 2) scLawAmount.nd rfl (.inl rfl) (pe_op op_add (pe_op op_mulG (pv 2) (pe_op op_powG pe_int pe_int)) (pe_call D.ok hr1 rfl D.g D.kp D.b .nil pass0 (pa_cons (pv 0) (pa_cons (pe_op op_powG pe_int pe_int) pa_nil)))))))
        (pss_one (ps_if (pt_cmpR op_eq (pv 1) pe_int (nomark _)) (pss_one (ps_set (i := 2) scLawAmount.nd rfl (.inl rfl) (pe_op op_add (pe_op op_mulG (pe_op op_powG pe_int pe_int) (pv 2)) (pe_call D.ok hr1 rfl D.g D.kp D.b .nil pass0 (pa_cons (pv 0) (pa_cons pe_int pa_nil)))))) pss_nil)))))
      (pss_one (ps_ret (pe_ifExp (pt_cmpR op_gt (pe_call D.ok hr1 rfl D.g D.kp D.b .nil pass0 (pa_cons (pv 0) (pa_cons pe_int pa_nil))) pe_int (nomark _)) (pv 2) (pe_op op_sub pe_int (pv 2))))))), ?_⟩
    refine ⟨_, rfl, b, 5, rfl, B, by decide, by decide, fun kd H1 k0 k1 B1 t1 => ?_⟩
    refine ⟨fun σ' H' => ∃ (v3 : Option V) (n : Int), σ' = [some (.ref b), some (.int kd), some (.int n), v3] ∧ n.natAbs < 10 ^ 80 ∧ BagAt K H' b ∧ But b H H', ?_, ?_⟩
    · refine ⟨_, rfl, _, _, rfl, rfl, _, rfl, ite2 (fun c => ?_) (fun c => ?_)⟩
      · refine ⟨_, rfl, _, rfl, b, 13, rfl, B1, by decide, by decide, fun r1 H2 r10 r11 B2 t2 => ⟨_, rfl, b, 1000, rfl, B2, by decide, by decide, fun r2 H3 r20 r21 B3 t3 => ⟨(by show 7 ≤ sizeLine; decide), fun p np => ?_⟩⟩⟩
        have B4 := B3.same (same_upd (o := .lst [.int 0, .int 1, .int 1, .int 2, .int 3, .int r1, .int r2]) np)
        have pb : p ≠ b := by
          obtain ⟨c, ns, i, g, x, n, B3'⟩ := B3
          exact (ne_of_none B3'.ob np).symm
        refine ⟨b, p, _, rfl, B4, pb, SqL.of upd_same, (by show 0 < 7; decide), (by show 7 < 1000; decide), fun v H5 hv B5 t5 => ?_⟩
        have tt : But b H H5 := (((t1.trans t2).trans t3).trans (But.of (same_upd np))).trans t5
        obtain ⟨n, rfl, hn⟩ : ∃ n : Int, v = .int n ∧ n.natAbs < 10 ^ 80 := by
          simp only [List.append_nil, List.mem_cons, List.not_mem_nil, or_false] at hv
          rcases hv with rfl | rfl | rfl | rfl | rfl | rfl | rfl <;> exact ⟨_, rfl, by omega⟩
        exact ⟨none, n, rfl, hn, B5, tt⟩
      · refine ⟨_, rfl, b, 6, rfl, B1, by decide, by decide, fun r H2 r0 r1 B2 t2 => ?_⟩
        refine ⟨_, _, rfl, rfl, _, rfl, by omega, by omega, for_range (n := (1 + r).toNat) (fun i σ H3 => ∃ (v3 : Option V) (n : Int), σ = [some (.ref b), some (.int kd), some (.int n), v3] ∧ i ≤ 6 ∧ 0 ≤ n ∧ n < (10000000000 : Int) ^ i ∧ BagAt K H3 b ∧ But b H H3) ⟨none, 0, rfl, Nat.zero_le _, by decide, by decide, B2, t1.trans t2⟩ ?_ ?_⟩
        · rintro i σ H3 hi ⟨v3, n, rfl, i6, n0, n1, B3, t3⟩
          refine ⟨_, rfl, _, _, rfl, rfl, ⟨by decide, by decide +kernel⟩, _, _, rfl, rfl, mul_right (by decide +kernel), _, rfl, _, _, rfl, rfl, ⟨by decide, by decide +kernel⟩, b, _, rfl, B3, by decide +kernel, by decide +kernel, fun d H4 d0 d1 B4 t4 => ?_⟩
          have e10 : (10 : Int) ^ (10 : Int).toNat = 10000000000 := by decide +kernel
          rw [e10] at d1
          refine ⟨_, _, rfl, rfl, _, _, rfl, by omega, ?_, ?_, B4, t3.trans t4⟩
          · rw [e10]; omega
          · rw [e10, Int.pow_succ]
            omega
        · rintro σ H3 ⟨v3, n, rfl, i6, n0, n1, B3, t3⟩
          have hn : n < 10 ^ 60 := by
            refine Int.lt_of_lt_of_le n1 ?_
            have : ∀ m : Nat, m ≤ 6 → (10000000000 : Int) ^ m ≤ 10 ^ 60 := by decide +kernel
            exact this _ i6
          refine ⟨_, rfl, rfl, _, rfl, ite2 (fun c => ?_) (fun c => ?_)⟩
          · refine ⟨_, _, rfl, rfl, ⟨by decide, by decide +kernel⟩, _, rfl, _, _, rfl, rfl, IntMulOk.of_left (by decide +kernel), _, rfl, b, 3, rfl, B3, by decide, by decide, fun d H4 d0 d1 B4 t4 => ?_⟩
            refine ⟨_, _, rfl, rfl, _, _, rfl, ?_, B4, t3.trans t4⟩
            have e12 : (10 : Int) ^ (12 : Int).toNat = 1000000000000 := by decide +kernel
            rw [e12]
            omega
          · exact ⟨_, n, rfl, by omega, B3, t3⟩
    · rintro σ' H' ⟨v3, n, rfl, hn, B', t'⟩
      refine ⟨_, rfl, b, 3, rfl, B', by decide, by decide, fun d H2 d0 d1 B2 t2 => ⟨_, _, rfl, rfl, _, rfl, ite2 (fun _ => ?_) (fun _ => ?_)⟩⟩
      · exact ⟨_, rfl, q n H2 hn B2 (t'.trans t2)⟩
      · exact ⟨_, rfl, _, _, rfl, rfl, q _ H2 (by omega) B2 (t'.trans t2)⟩
end
end My

set_option Elab.async false
set_option linter.all false
set_option maxRecDepth 100000
namespace My
open PySem PySem.Spec PyProof.Rows L2 SX
open PySem.NumText (AllDigits digitsVal)
/-! ### digits -/
/-- the last k digits of n -/
def dk : Nat → Nat → List Nat
  | 0, _ => []
  | k + 1, n => dk k (n / 10) ++ [48 + n % 10]
theorem dk_len : ∀ k n, (dk k n).length = k
  | 0, _ => rfl
  | k + 1, n => by rw [dk, List.length_append, dk_len k]; rfl
theorem numL_dk : ∀ (k n : Nat), 10 ^ k ≤ n → TL.numL n = TL.numL (n / 10 ^ k) ++ dk k n
  | 0, n, _ => by rw [Nat.pow_zero, Nat.div_one, dk, List.append_nil]
  | k + 1, n, h => by
    have p : 0 < 10 ^ k := Nat.pow_pos (by decide)
    have h1 : 10 ^ k * 10 ≤ n := by rw [← Nat.pow_succ]; exact h
    have h10 : 10 ≤ n := Nat.le_trans (by omega) h1
    rw [TL.numL_step h10, numL_dk k (n / 10) (by rw [Nat.le_div_iff_mul_le (by decide)]; exact h1), dk, Nat.div_div_eq_div_mul, Nat.pow_succ, Nat.mul_comm 10, List.append_assoc]
theorem dk_mod : ∀ (k n : Nat), dk k n = dk k (n % 10 ^ k)
  | 0, n => rfl
  | k + 1, n => by
    have e1 : n % 10 ^ (k + 1) % 10 = n % 10 := by
      rw [Nat.pow_succ, Nat.mod_mul_left_mod]
    have e2 : n % 10 ^ (k + 1) / 10 = n / 10 % 10 ^ k := by
      rw [Nat.pow_succ, Nat.mul_comm, Nat.mod_mul_right_div_self]
    rw [dk, dk, e1, e2, dk_mod k (n / 10)]
theorem dk_pad : ∀ (k n : Nat), n < 10 ^ (k + 1) → dk (k + 1) n = List.replicate (k + 1 - (TL.numL n).length) 48 ++ TL.numL n := by
  intro k
  induction k with
  | zero =>
    intro n h
    have h' : n < 10 := h
    rw [TL.numL_lt h']
    show dk 0 (n / 10) ++ [48 + n % 10] = _
    rw [Nat.mod_eq_of_lt h']
    rfl
  | succ k ih =>
    intro n h
    by_cases h10 : n < 10
    · rw [dk, ih (n / 10) (by rw [Nat.div_eq_of_lt h10]; exact Nat.pow_pos (by decide)), Nat.div_eq_of_lt h10, TL.numL_lt h10, TL.numL_lt (by decide : 0 < 10), Nat.mod_eq_of_lt h10]
      show List.replicate k 48 ++ [48] ++ [48 + n] = List.replicate (k + 1) 48 ++ [48 + n]
      rw [← List.replicate_succ']
    · rw [dk, ih (n / 10) (by rw [Nat.div_lt_iff_lt_mul (by decide), ← Nat.pow_succ]; exact h), TL.numL_step (n := n) (by omega), List.length_append, List.append_assoc]
      have e : k + 1 - (TL.numL (n / 10)).length = k + 1 + 1 - ((TL.numL (n / 10)).length + [48 + n % 10].length) := by
        show _ = k + 1 + 1 - ((TL.numL (n / 10)).length + 1)
        omega
      rw [e]
/-- digits that write a number as Python does -/
structure Can (l : List Nat) : Prop where
  ne : l ≠ []
  dg : AllDigits l
  z : l.head? = some 48 → l = [48]
theorem digitsVal_snoc (l : List Nat) (c : Nat) : digitsVal (l ++ [c]) = digitsVal l * 10 + (c - 48) := by
  unfold digitsVal
  rw [List.foldl_append]
  rfl
theorem fold_lt : ∀ (l : List Nat) (a : Nat), AllDigits l → l.foldl (fun acc c => acc * 10 + (c - 48)) a < (a + 1) * 10 ^ l.length
  | [], a, _ => by show a < (a + 1) * 1; omega
  | c :: l, a, h => by
    have h2 := h.head
    have h1 := fold_lt l (a * 10 + (c - 48)) h.tail
    rw [List.foldl_cons, List.length_cons, Nat.pow_succ]
    refine Nat.lt_of_lt_of_le h1 ?_
    have e : (a + 1) * (10 ^ l.length * 10) = ((a + 1) * 10) * 10 ^ l.length := by
      rw [Nat.mul_comm (10 ^ l.length), Nat.mul_assoc]
    rw [e]
    exact Nat.mul_le_mul_right _ (by omega)
theorem val_lt {l : List Nat} (h : AllDigits l) : digitsVal l < 10 ^ l.length := by
  have := fold_lt l 0 h
  rw [Nat.zero_add, Nat.one_mul] at this
  exact this
theorem fold_ge : ∀ (l : List Nat) (a : Nat), a ≤ l.foldl (fun acc c => acc * 10 + (c - 48)) a
  | [], a => Nat.le_refl a
  | c :: l, a => by
    have h1 := fold_ge l (a * 10 + (c - 48))
    rw [List.foldl_cons]
    omega
theorem val_pos {l : List Nat} (h : AllDigits l) (h0 : l ≠ []) (h1 : l.head? ≠ some 48) : 0 < digitsVal l := by
  cases l with
  | nil => exact absurd rfl h0
  | cons c l =>
    have h2 := h.head
    have h3 : c ≠ 48 := fun e => h1 (by rw [e]; rfl)
    have h4 := fold_ge l (0 * 10 + (c - 48))
    show 0 < l.foldl (fun acc c => acc * 10 + (c - 48)) (0 * 10 + (c - 48))
    omega
theorem numL_val' : ∀ (k : Nat) (l : List Nat), l.length = k → Can l → TL.numL (digitsVal l) = l := by
  intro k
  induction k with
  | zero => exact fun l h C => absurd (List.length_eq_zero_iff.mp h) C.ne
  | succ k ih =>
    intro l hl C
    obtain ⟨p, c, rfl⟩ : ∃ p c, l = p ++ [c] := ⟨l.dropLast, l.getLast C.ne, (List.dropLast_concat_getLast C.ne).symm⟩
    have hc := C.dg c (by simp)
    rw [digitsVal_snoc]
    by_cases hp : p = []
    · subst hp
      show TL.numL (0 * 10 + (c - 48)) = [c]
      rw [TL.numL_lt (by omega)]
      have : 48 + (0 * 10 + (c - 48)) = c := by omega
      rw [this]
    · have hh : (p ++ [c]).head? = p.head? := by
        cases p with
        | nil => exact absurd rfl hp
        | cons a p => rfl
      have h1 : p.head? ≠ some 48 := fun e => by
        have := C.z (hh.trans e)
        have l2 := congrArg List.length this
        rw [List.length_append] at l2
        exact hp (List.length_eq_zero_iff.mp (by simpa using l2))
      have dp : AllDigits p := fun d hd => C.dg d (List.mem_append.mpr (.inl hd))
      have h2 := val_pos dp hp h1
      have e := ih p (by rw [List.length_append] at hl; exact Nat.succ.inj hl) ⟨hp, dp, fun e => absurd e h1⟩
      rw [TL.numL_step (by omega)]
      have e1 : (digitsVal p * 10 + (c - 48)) / 10 = digitsVal p := by omega
      have e2 : 48 + (digitsVal p * 10 + (c - 48)) % 10 = c := by omega
      rw [e1, e2, e]
theorem Can.num {l : List Nat} (C : Can l) : TL.numL (digitsVal l) = l := numL_val' _ l rfl C
theorem can_num (n : Nat) : Can (TL.numL n) := by
  refine ⟨TL.numL_ne n, TL.numL_digits n, ?_⟩
  induction n using Nat.strongRecOn with
  | _ n ih =>
    intro h
    by_cases h10 : n < 10
    · rw [TL.numL_lt h10] at h ⊢
      have : 48 + n = 48 := Option.some.inj h
      rw [this]
    · rw [TL.numL_step (by omega)] at h
      have hh : (TL.numL (n / 10) ++ [48 + n % 10]).head? = (TL.numL (n / 10)).head? := by
        cases e : TL.numL (n / 10) with
        | nil => exact absurd e (TL.numL_ne _)
        | cons a p => rfl
      have := ih (n / 10) (by omega) (hh.symm.trans h)
      have z := TL.numL_inj (this.trans (TL.numL_lt (by decide : 0 < 10)).symm)
      omega
theorem num_short {n : Nat} : (TL.numL n).length ≤ 200 ↔ n < 10 ^ 200 := by
  constructor
  · intro h
    have := val_lt (TL.numL_digits n)
    rw [TL.numL_val] at this
    exact Nat.lt_of_lt_of_le this (Nat.pow_le_pow_right (by decide) h)
  · exact fun h => TL.numL_len (by decide) h
/-! ### the text of a worth -/
def sgn (x : Int) : List Nat := if x < 0 then [45] else []
def ntx (x : Int) : List Nat := sgn x ++ TL.numL x.natAbs
def wtx (x y : Int) : List Nat := if y = 1 then ntx x else ntx x ++ 47 :: ntx y
theorem int_text (x : Int) : Str.ofString (toString x) = S (ntx x) := by
  by_cases h : x < 0
  · obtain ⟨n, rfl⟩ : ∃ n : Nat, x = Int.negSucc n := ⟨(-x - 1).toNat, by omega⟩
    unfold ntx sgn
    rw [if_pos h]
    have e : toString (Int.negSucc n) = "-" ++ toString (((n + 1 : Nat) : Int)) := rfl
    rw [e]
    refine TL.ext_tl ?_
    have h1 : TL.tl (Str.ofString ("-" ++ toString (((n + 1 : Nat) : Int)))) = [45] ++ TL.tl (Str.ofString (toString (((n + 1 : Nat) : Int)))) := by
      unfold TL.tl
      rw [Str.ofString_eq_toList, Str.ofString_eq_toList]
      simp
    rw [h1, TL.tl_num]
    rfl
  · obtain ⟨n, rfl⟩ := Int.eq_ofNat_of_zero_le (by omega : 0 ≤ x)
    unfold ntx sgn
    rw [if_neg h]
    exact num_S n
/-- l without a minus ahead -/
def un (l : List Nat) : List Nat := if l.head? = some 45 then l.tail else l
theorem un_ntx (x : Int) (r : List Nat) : un (ntx x ++ r) = TL.numL x.natAbs ++ r := by
  unfold ntx sgn un
  split
  · simp
  · have h : (([] ++ TL.numL x.natAbs) ++ r).head? ≠ some 45 := by
      rw [List.nil_append]
      cases e : TL.numL x.natAbs with
      | nil => exact absurd e (TL.numL_ne _)
      | cons a p =>
        intro z
        have : a = 45 := Option.some.inj z
        have := TL.numL_digits x.natAbs a (by rw [e]; simp)
        omega
    rw [if_neg h, List.nil_append]
theorem head_ntx (x : Int) (r : List Nat) : (ntx x ++ r).head? = some 45 ↔ x < 0 := by
  unfold ntx sgn
  split
  · rename_i h
    exact ⟨fun _ => h, fun _ => rfl⟩
  · rename_i h
    refine ⟨fun z => ?_, fun z => absurd z h⟩
    rw [List.nil_append] at z
    cases e : TL.numL x.natAbs with
    | nil => exact absurd e (TL.numL_ne _)
    | cons a p =>
      rw [e] at z
      have : a = 45 := Option.some.inj z
      have := TL.numL_digits x.natAbs a (by rw [e]; simp)
      omega

/-- l is the text of the worth x / y -/
structure IsT (l : List Nat) (x y : Int) : Prop where
  pos : 1 ≤ y
  low : Nat.gcd x.natAbs y.natAbs = 1
  bx : x.natAbs < 10 ^ 200
  bY : y.natAbs < 10 ^ 200
  eq : l = wtx x y
/-- the two numbers of a text without its minus -/
def cutp (l : List Nat) : List Nat × List Nat := match TL.par [47] [] l with
  | some r => r
  | none => (l, [49])
theorem ntx_pos {y : Int} (h : 1 ≤ y) : ntx y = TL.numL y.natAbs := by
  unfold ntx sgn
  rw [if_neg (by omega), List.nil_append]
theorem unE0 {l : List Nat} {x y : Int} (pos : 1 ≤ y) (eq : l = wtx x y) : un l = if y = 1 then TL.numL x.natAbs else TL.numL x.natAbs ++ 47 :: TL.numL y.natAbs := by
  rw [eq]
  unfold wtx
  split
  · have := un_ntx x []
    rw [List.append_nil, List.append_nil] at this
    exact this
  · rw [ntx_pos pos]
    exact un_ntx x _
theorem head0 {l : List Nat} {x y : Int} (eq : l = wtx x y) : l.head? = some 45 ↔ x < 0 := by
  rw [eq]
  unfold wtx
  split
  · have := head_ntx x []
    rw [List.append_nil] at this
    exact this
  · exact head_ntx x _
theorem cut0 {l : List Nat} {x y : Int} (pos : 1 ≤ y) (eq : l = wtx x y) : cutp (un l) = (TL.numL x.natAbs, TL.numL y.natAbs) := by
  have fr : 47 ∉ TL.numL x.natAbs := TL.numL_free (by decide)
  rw [unE0 pos eq]
  unfold cutp
  by_cases h : y = 1
  · rw [if_pos h, par_head_none fr, h]
    rfl
  · rw [if_neg h, show TL.numL x.natAbs ++ 47 :: TL.numL y.natAbs = TL.numL x.natAbs ++ ([47] ++ TL.numL y.natAbs) from rfl, par_head _ fr]
theorem wtx_inj {x y x' y' : Int} (p : 1 ≤ y) (p' : 1 ≤ y') (eq : wtx x y = wtx x' y') : x = x' ∧ y = y' := by
  have e := (cut0 p rfl).symm.trans (cut0 p' eq)
  have e1 := TL.numL_inj (congrArg Prod.fst e)
  have e2 := TL.numL_inj (congrArg Prod.snd e)
  have h := head0 (l := wtx x y) rfl
  have h' := head0 eq
  constructor
  · by_cases hx : x < 0
    · have := h'.mp (h.mpr hx)
      omega
    · have : ¬ x' < 0 := fun z => hx (h.mp (h'.mpr z))
      omega
  · omega
theorem IsT.unE {l : List Nat} {x y : Int} (T : IsT l x y) : un l = if y = 1 then TL.numL x.natAbs else TL.numL x.natAbs ++ 47 :: TL.numL y.natAbs := unE0 T.pos T.eq
theorem IsT.head {l : List Nat} {x y : Int} (T : IsT l x y) : l.head? = some 45 ↔ x < 0 := head0 T.eq
theorem IsT.cut {l : List Nat} {x y : Int} (T : IsT l x y) : cutp (un l) = (TL.numL x.natAbs, TL.numL y.natAbs) := cut0 T.pos T.eq
theorem IsT.uniq {l : List Nat} {x y x' y' : Int} (T : IsT l x y) (T' : IsT l x' y') : x = x' ∧ y = y' := wtx_inj T.pos T'.pos (T.eq.symm.trans T'.eq)
/-- the parts between the strokes -/
abbrev cuts (l : List Nat) : List (List Nat) := TL.spl [47] 0 [] l
theorem cuts_one {l : List Nat} (h : 47 ∉ l) : cuts l = [l] := by
  show TL.spl [47] 0 [] l = [l]
  rw [TL.spl_last1 h, List.nil_append]
theorem cuts_two {p q : List Nat} (h : 47 ∉ p) : cuts (p ++ 47 :: q) = p :: cuts q := by
  show TL.spl [47] 0 [] (p ++ ([47] ++ q)) = _
  rw [TL.spl_part1 h, List.nil_append]
theorem cuts_cases (l : List Nat) : (47 ∉ l ∧ cuts l = [l]) ∨ ∃ p q, l = p ++ 47 :: q ∧ 47 ∉ p ∧ cuts l = p :: cuts q := by
  by_cases h : 47 ∈ l
  · obtain ⟨p, q, e, hp⟩ := List.eq_append_cons_of_mem h
    exact .inr ⟨p, q, e, hp, by rw [e, cuts_two hp]⟩
  · exact .inl ⟨h, cuts_one h⟩
theorem cuts_ne (l : List Nat) : cuts l ≠ [] := by
  rcases cuts_cases l with ⟨_, e⟩ | ⟨_, _, _, _, e⟩ <;> rw [e] <;> simp
theorem IsT.cutsE {l : List Nat} {x y : Int} (T : IsT l x y) : cuts (un l) = if y = 1 then [TL.numL x.natAbs] else [TL.numL x.natAbs, TL.numL y.natAbs] := by
  have fr : ∀ n, 47 ∉ TL.numL n := fun n => TL.numL_free (by decide)
  rw [T.unE]
  split
  · exact cuts_one (fr _)
  · rw [cuts_two (fr _), cuts_one (fr _)]
/-- a part that the law lets through -/
def Ok (l : List Nat) : Prop := Can l ∧ l.length ≤ 200
theorem Ok.num {n : Nat} (h : n < 10 ^ 200) : Ok (TL.numL n) := ⟨can_num n, num_short.mpr h⟩
theorem Ok.lt {l : List Nat} (h : Ok l) : digitsVal l < 10 ^ 200 := Nat.lt_of_lt_of_le (val_lt h.1.dg) (Nat.pow_le_pow_right (by decide) h.2)
theorem IsT.ok {l : List Nat} {x y : Int} (T : IsT l x y) : ∀ p ∈ cuts (un l), Ok p := by
  rw [T.cutsE]
  intro p hp
  split at hp
  · rw [List.mem_singleton.mp hp]
    exact .num T.bx
  · rcases List.mem_cons.mp hp with e | hp
    · rw [e]; exact .num T.bx
    · rw [List.mem_singleton.mp hp]
      exact .num T.bY
theorem un_back (l : List Nat) : l = if l.head? = some 45 then 45 :: un l else un l := by
  unfold un
  split
  · rename_i h
    cases l with
    | nil => cases h
    | cons a l =>
      have : a = 45 := Option.some.inj h
      rw [this]
      rfl
  · rfl
theorem sgn_back {l : List Nat} {n : Nat} {r : List Nat} (e : un l = TL.numL n ++ r) (h : ¬ (l.head? = some 45 ∧ n = 0)) : l = ntx (if l.head? = some 45 then -(n : Int) else n) ++ r := by
  have b := un_back l
  unfold ntx sgn
  by_cases hh : l.head? = some 45
  · rw [if_pos hh] at b ⊢
    have hn : n ≠ 0 := fun z => h ⟨hh, z⟩
    rw [if_pos (by omega), Int.natAbs_neg, Int.natAbs_natCast]
    rw [b, e]
    simp
  · rw [if_neg hh] at b ⊢
    rw [if_neg (by omega), Int.natAbs_natCast, List.nil_append]
    exact b.trans e
/-- what the law reads is a worth's text -/
theorem read_one {l p : List Nat} (h : cuts (un l) = [p]) (hp : Ok p) (hg : Nat.gcd (digitsVal p) 1 = 1) (hz : ¬ (l.head? = some 45 ∧ digitsVal p = 0)) : IsT l (if l.head? = some 45 then -(digitsVal p : Int) else digitsVal p) 1 := by
  have e : un l = p := by
    rcases cuts_cases (un l) with ⟨_, e⟩ | ⟨p', q, e1, h1, e2⟩
    · rw [e] at h
      exact (List.cons.inj h).1
    · rw [e2] at h
      exact absurd (List.cons.inj h).2 (cuts_ne q)
  have e' : un l = TL.numL (digitsVal p) ++ [] := by rw [List.append_nil, hp.1.num, e]
  refine ⟨by decide, ?_, ?_, by decide, ?_⟩
  · split <;> simp
  · have := hp.lt
    split
    · rw [Int.natAbs_neg]; exact this
    · exact this
  · have := sgn_back e' hz
    rw [List.append_nil] at this
    exact this
theorem read_two {l p q : List Nat} (h : cuts (un l) = [p, q]) (hp : Ok p) (hq : Ok q) (h2 : 2 ≤ digitsVal q) (hg : Nat.gcd (digitsVal p) (digitsVal q) = 1) (hz : ¬ (l.head? = some 45 ∧ digitsVal p = 0)) : IsT l (if l.head? = some 45 then -(digitsVal p : Int) else digitsVal p) (digitsVal q) := by
  have e : un l = p ++ 47 :: q := by
    rcases cuts_cases (un l) with ⟨_, e⟩ | ⟨p', q', e1, h1, e2⟩
    · rw [e] at h
      exact absurd (List.cons.inj h).2 (by simp)
    · rw [e2] at h
      obtain ⟨ep, h⟩ := List.cons.inj h
      rw [← ep]
      rcases cuts_cases q' with ⟨_, e⟩ | ⟨p3, q3, _, _, e3⟩
      · rw [e] at h
        rw [e1, (List.cons.inj h).1]
      · rw [e3] at h
        exact absurd (List.cons.inj h).2 (cuts_ne q3)
  have e' : un l = TL.numL (digitsVal p) ++ 47 :: q := by rw [hp.1.num, e]
  refine ⟨by omega, ?_, ?_, ?_, ?_⟩
  · split
    · rw [Int.natAbs_neg]; exact hg
    · exact hg
  · have := hp.lt
    split
    · rw [Int.natAbs_neg]; exact this
    · exact this
  · exact hq.lt
  · have := sgn_back e' hz
    unfold wtx
    have e1 : ((digitsVal q : Nat) : Int) ≠ 1 := by omega
    have e2 : ntx ((digitsVal q : Nat) : Int) = q := by
      rw [ntx_pos (by omega), Int.natAbs_natCast, hq.1.num]
    rw [if_neg e1, e2]
    exact this
/-! ### the words of the language for these lists -/
theorem sub_S (l : List Nat) : Builtin.Str.subAt (S l) (S [45]) 0 = decide (l.head? = some 45) := by
  unfold Builtin.Str.subAt
  cases l with
  | nil => rfl
  | cons a l =>
    rw [Bool.eq_iff_iff]
    simp [S, Str.length]
theorem pref_S (l : List Nat) : Txt.removeprefix (S l) (S [45]) = S (un l) := by
  unfold Txt.removeprefix un
  rw [sub_S]
  by_cases h : l.head? = some 45
  · rw [if_pos (decide_eq_true h), if_pos h]
    cases l with
    | nil => cases h
    | cons a l =>
      refine TL.ext_tl ?_
      unfold Txt.affix
      simp [S, Str.length, Builtin.Str.strSub, TL.tl]
  · rw [if_neg (by rw [decide_eq_false h]; decide), if_neg h]
    rfl
theorem starts_S (l : List Nat) : Txt.startswith (S l) (S [45]) = decide (l.head? = some 45) := by
  unfold Txt.startswith
  rw [sub_S]
  cases l with
  | nil => rfl
  | cons a l => simp [S, Str.length]
instance (l : List Nat) : Decidable (AllDigits l) := by unfold AllDigits; exact inferInstance
theorem digit_tab : ∀ c : Fin 128, Unicode.isDigit c.1 = decide (48 ≤ c.1 ∧ c.1 ≤ 57) := by decide +kernel
theorem figures_S (l : List Nat) : (Txt.isascii (S l) && Txt.isdigit (S l)) = decide (l ≠ [] ∧ AllDigits l) := by
  unfold Txt.isascii Txt.isdigit
  rw [Bool.eq_iff_iff, Bool.and_eq_true, Bool.and_eq_true, ← Array.all_toList, ← Array.all_toList, List.all_eq_true, List.all_eq_true, decide_eq_true_eq, decide_eq_true_eq]
  show (∀ x, x ∈ l → decide (x < 128) = true) ∧ l.toArray.size > 0 ∧ (∀ x, x ∈ l → Unicode.isDigit x = true) ↔ _
  constructor
  · rintro ⟨h1, h2, h3⟩
    refine ⟨fun e => by rw [e] at h2; exact absurd h2 (by decide), fun c hc => ?_⟩
    have lt := of_decide_eq_true (h1 c hc)
    have := digit_tab ⟨c, lt⟩
    rw [h3 c hc] at this
    exact of_decide_eq_true this.symm
  · rintro ⟨h1, h2⟩
    refine ⟨fun c hc => decide_eq_true (by have := h2 c hc; omega), ?_, fun c hc => ?_⟩
    · rw [List.size_toArray]
      exact List.length_pos_iff.mpr h1
    · have := h2 c hc
      have t := digit_tab ⟨c, by omega⟩
      rw [decide_eq_true this] at t
      exact t
/-- nothing is left of a text of figures -/
theorem strip_all (z y : Str) : Txt.stripChars z y = S [] ↔ ∀ c ∈ z.cps.toList, y.cps.contains c = true := by
  have h0 : (∀ c ∈ z.cps.toList, y.cps.contains c = true) ↔ ∀ k, k < z.length → y.cps.contains (z.cps.getD k 0) = true := by
    constructor
    · intro h k hk
      have hk' : k < z.cps.size := hk
      refine h _ ?_
      rw [show z.cps.getD k 0 = z.cps[k] by simp [Array.getD, hk']]
      simp
    · intro h c hc
      rw [Array.mem_toList_iff] at hc
      obtain ⟨k, hk, rfl⟩ := Array.mem_iff_getElem.mp hc
      have := h k hk
      rw [show z.cps.getD k 0 = z.cps[k] by simp [Array.getD, hk]] at this
      exact this
  rw [h0]
  unfold Txt.stripChars
  rw [stripBy_eq]
  obtain ⟨l1, l2, l3⟩ := lo_facts y.cps.contains z
  obtain ⟨h1, h2, h3, h4⟩ := hi_facts y.cps.contains z _ l1
  have hsz : ∀ a b : Nat, a ≤ b → b ≤ z.length → (Builtin.Str.strSub z a b = S [] ↔ a = b) := by
    intro a b ha hb
    have hb' : b ≤ z.cps.size := hb
    constructor
    · intro h
      have e := congrArg (fun s : Str => s.cps.size) h
      have e2 : (z.cps.extract a b).size = 0 := e
      rw [Array.size_extract] at e2
      omega
    · rintro rfl
      show (⟨z.cps.extract a a⟩ : Str) = S []
      have : z.cps.extract a a = #[] := Array.eq_empty_of_size_eq_zero (by rw [Array.size_extract]; omega)
      rw [this]
  rw [hsz _ _ h1 h2]
  constructor
  · intro e k hk
    by_cases hlt : k < stripLo y.cps.contains true z
    · exact l2 k hlt
    · exact h3 k (by omega) hk
  · intro h
    rcases l3 with e | e
    · omega
    · by_cases hlt : stripLo y.cps.contains true z < z.length
      · rw [h _ hlt] at e
        cases e
      · omega
theorem strip_S (l : List Nat) : Txt.stripChars (S l) (S [48, 49, 50, 51, 52, 53, 54, 55, 56, 57]) = S [] ↔ AllDigits l := by
  rw [strip_all]
  have : ∀ c : Nat, ((S [48, 49, 50, 51, 52, 53, 54, 55, 56, 57]).cps.contains c = true) ↔ (48 ≤ c ∧ c ≤ 57) := by
    intro c
    rw [Array.contains_iff]
    simp
    omega
  exact ⟨fun h c hc => (this c).mp (h c hc), fun h c hc => (this c).mpr (h c hc)⟩
theorem zfill_S {m : Nat} (h : m < 10 ^ 200) : Txt.zfill (S (TL.numL m)) 200 = S (dk 200 m) := by
  rw [dk_pad 199 m h]
  have hl := num_short.mpr h
  unfold Txt.zfill
  rw [S_len]
  by_cases h2 : (200 : Int) ≤ (TL.numL m).length
  · rw [if_pos h2]
    have : 199 + 1 - (TL.numL m).length = 0 := by omega
    rw [this]
    rfl
  · rw [if_neg h2]
    have e : (200 : Int).toNat - (TL.numL m).length = 199 + 1 - (TL.numL m).length := rfl
    rw [e]
    generalize 199 + 1 - (TL.numL m).length = n
    unfold zfilled
    have hd := TL.numL_digits m
    have hne := TL.numL_ne m
    revert hd hne
    generalize TL.numL m = l
    intro hd hne
    cases l with
    | nil => exact absurd rfl hne
    | cons a l =>
      have ha := hd.head
      split
      · rename_i e1
        have : a = 43 := by simpa [S] using e1
        omega
      · rename_i e1
        have : a = 45 := by simpa [S] using e1
        omega
      · refine TL.ext_tl ?_
        simp [Builtin.Str.padded, S, TL.tl]
end My

set_option Elab.async false
set_option linter.all false
set_option maxRecDepth 100000
namespace My
open PySem PySem.Spec PyProof.Rows L2 SX
open PySem.NumText (AllDigits digitsVal)
def LIM : Int := 10 ^ 200
abbrev sIsFigures : Stmt := topS 2
theorem scIsFigures : FnScope ["text"] ["text"] (defScope sIsFigures) := ⟨rfl, rfl, rfl, by decide +kernel, rfl, by decide +kernel, by decide +kernel⟩
abbrev sNumberText : Stmt := topS 8
theorem scNumberText : FnScope ["number", "pieces", "rest", "sign", "figures"] ["number"] (defScope sNumberText) := ⟨rfl, rfl, rfl, by decide +kernel, rfl, by decide +kernel, by decide +kernel⟩
abbrev sWorthText : Stmt := topS 9
theorem scWorthText : FnScope ["a"] ["a"] (defScope sWorthText) := ⟨rfl, rfl, rfl, by decide +kernel, rfl, by decide +kernel, by decide +kernel⟩
abbrev sIsShortNumber : Stmt := topS 10
theorem scIsShortNumber : FnScope ["text"] ["text"] (defScope sIsShortNumber) := ⟨rfl, rfl, rfl, by decide +kernel, rfl, by decide +kernel, by decide +kernel⟩
def spFig : Sp := fun vs H Q _ => ∃ l, vs = [.str (S l)] ∧ Q (.bl (decide (l ≠ [] ∧ AllDigits l))) H
def spShort : Sp := fun vs H Q _ => ∃ l : List Nat, vs = [.str (S l)] ∧ l.length ≤ 10000 ∧ Q (.bl (decide (l ≠ [] ∧ AllDigits l) && decide ((l.length : Int) ≤ 200))) H
def spNum (K : PySem.W.Frag) : Sp := fun vs H Q _ => ∃ x : Int, vs = [.int x] ∧ x.natAbs < 10 ^ 500 ∧ ∀ H', Same H H' → Q (.str (S (ntx x))) H'
def spWtx (K : PySem.W.Frag) : Sp := fun vs H Q _ => ∃ v x y, vs = [v] ∧ IsW K H v x y ∧ x.natAbs < 10 ^ 500 ∧ y.natAbs < 10 ^ 500 ∧ ∀ H', Same H H' → Q (.str (S (wtx x y))) H'
theorem line_of {n : Nat} (h : n ≤ 10000) : n ≤ sizeLine := Nat.le_trans h (by decide +kernel)
theorem ntx_len {x : Int} (h : x.natAbs < 10 ^ 500) : (ntx x).length ≤ 501 := by
  have := TL.numL_len (by decide) h
  unfold ntx sgn
  rw [List.length_append]
  split <;> simp <;> omega
theorem wtx_len {x y : Int} (h : x.natAbs < 10 ^ 500) (h' : y.natAbs < 10 ^ 500) : (wtx x y).length ≤ 1003 := by
  have := ntx_len h
  have := ntx_len h'
  unfold wtx
  split
  · omega
  · rw [List.length_append, List.length_cons]; omega
theorem log500 {n : Nat} (h : n < 10 ^ 500) : n.log2 < 1920 := by
  have h1 : n < 2 ^ 1700 := Nat.lt_trans h (by decide +kernel)
  have h2 := PySem.Flt.log2_lt_of (n := n) (k := 1700) (by decide) h1
  omega
theorem same_updF {H H' : Hp} {p : Addr} {o : HO} (np : H p = none) (s : Same H H') : Same H (upd H' p o) := fun b x e => by
  rw [upd_ne (ne_of_none e np)]
  exact s b x e
theorem flat_map_S (ls : List (List Nat)) : TL.joinL [] ls = ls.flatten := by
  induction ls with
  | nil => rfl
  | cons p r ih =>
    cases r with
    | nil => show p = _; simp
    | cons q r => show p ++ ([] ++ TL.joinL [] (q :: r)) = _; rw [ih]; simp
theorem lim_split {n : Nat} (h : 10 ^ 200 ≤ n) : TL.numL n = TL.numL (n / 10 ^ 200) ++ dk 200 (n % 10 ^ 200) := by
  rw [numL_dk 200 n h, dk_mod 200 n]
theorem nn (n : Nat) : (if (n : Int) < 0 then -(n : Int) else n).toNat = n := by split <;> omega
section
variable {P : Program} {w : World} {K : PySem.W.Frag} {mg : Str → Option Value} {base : Heap}
theorem ok_figures {f : Addr} {fd : FuncData} {k : Nat} (F : Fun K "is_figures" "is_figures" sIsFigures f fd) : FnOk P w K mg base CX0 (k + 1) f fd ["text"] spFig := by
  refine F.ok scIsFigures (fun vs H Q E h => ?_) (fun cdv A outer s H vs Q E hr h => ?_)
  · obtain ⟨z, rfl, _⟩ := h
    rfl
  · obtain ⟨l, rfl, q⟩ := h
    refine ⟨_, (pss_one (ps_ret (pe_and (pe_m0 PySem.F.slot_str_isascii PySem.F.type_str_isascii mt_isascii (pv 0)) (pe_one (pe_m0 PySem.F.slot_str_isdigit PySem.F.type_str_isdigit mt_isdigit (pv 0)))))), ?_⟩
    rw [← figures_S l] at q
    refine ⟨_, rfl, ⟨_, rfl⟩, _, rfl, rfl, trivial, _, rfl, ?_⟩
    cases e1 : Txt.isascii (S l) with
    | false =>
      rw [e1] at q
      exact iteF q
    | true =>
      rw [e1] at q
      exact iteT ⟨_, rfl, ⟨_, rfl⟩, _, rfl, rfl, trivial, q⟩
theorem ok_short {f fI : Addr} {fd fdI : FuncData} {k : Nat} {tk : Tok} (F : Fun K "is_short_number" "is_short_number" sIsShortNumber f fd) (If : Cal P w K mg base "is_figures" (k + 1) ["text"] spFig fI fdI) (b_len : mg "len" = none) (g_FIG : mg "LIMIT_FIGURES" = some (.int 200 tk)) :
    FnOk P w K mg base CX0 (k + 2) f fd ["text"] spShort := by
  refine F.ok scIsShortNumber (fun vs H Q E h => ?_) (fun cdv A outer s H vs Q E hr h => ?_)
  · obtain ⟨z, rfl, _⟩ := h
    rfl
  · obtain ⟨l, rfl, hl, q⟩ := h
    refine ⟨_, (pss_one (ps_ret (pe_and (pe_call If.ok hr rfl If.g If.kp If.b .nil pass0 (pa_cons (pv 0) pa_nil)) (pe_one (pe_cmpR op_le (pe_callB call_len rfl b_len (by decide +kernel) (pa_cons (pv 0) pa_nil)) (pe_glob (v := .int 200) rfl g_FIG ⟨_, rfl⟩) (nomark _)))))), ?_⟩
    refine ⟨_, rfl, l, rfl, _, rfl, ?_⟩
    cases e1 : decide (l ≠ [] ∧ AllDigits l) with
    | false =>
      rw [e1] at q
      exact iteF q
    | true =>
      rw [e1] at q
      refine iteT ⟨_, rfl, _, _, rfl, ⟨line_of (by rw [S_len]; exact hl), rfl⟩, _, _, rfl, rfl, ?_⟩
      rw [S_len]
      exact q
theorem ok_number {f : Addr} {fd : FuncData} {k : Nat} {tk tk2 : Tok} (F : Fun K "number_text" "number_text" sNumberText f fd) (b_abs : mg "abs" = none) (b_str : mg "str" = none) (g_LIMIT : mg "LIMIT" = some (.int LIM tk)) (g_FIG : mg "LIMIT_FIGURES" = some (.int 200 tk2)) :
    FnOk P w K mg base CX0 (k + 1) f fd ["number"] (spNum K) := by
  refine F.ok scNumberText (fun vs H Q E h => ?_) (fun cdv A outer s H vs Q E hr h => ?_)
  · obtain ⟨z, rfl, _⟩ := h
    rfl
  · obtain ⟨x, rfl, hx, q⟩ := h
    refine ⟨_, (pss_cons (ps_set (i := 1) scNumberText.nd rfl (.inl rfl) (pe_lst pa_nil))
      (pss_cons (ps_set (i := 2) scNumberText.nd rfl (.inl rfl) (pe_callB call_abs rfl b_abs (by decide +kernel) (pa_cons (pv 0) pa_nil)))
      (pss_cons (ps_while PassesOwn.never (pt_cmpR op_ge (pv 2) (pe_glob (v := .int LIM) rfl g_LIMIT ⟨_, rfl⟩) (nomark _)) (pss_cons (ps_expr (pe_bm PySem.F.plainAttrs_list PySem.F.slot_list_append PySem.F.type_list_append mt_append (pv 1) (pa_cons (pe_m1 PySem.F.slot_str_zfill PySem.F.type_str_zfill mt_zfill (pe_callTy call_str_int rfl b_str (by decide +kernel) (pa_cons (pe_op op_mod (pv 2) (pe_glob (v := .int LIM) rfl g_LIMIT ⟨_, rfl⟩)) pa_nil)) (pe_glob (v := .int 200) rfl g_FIG ⟨_, rfl⟩)) pa_nil)))
        (pss_one (ps_set (i := 2) scNumberText.nd rfl (.inl rfl) (pe_op op_divS (pv 2) (pe_glob (v := .int LIM) rfl g_LIMIT ⟨_, rfl⟩))))))
      (pss_cons (ps_set (i := 3) scNumberText.nd rfl (.inl rfl) (pe_ifExp (pt_cmpR op_lt (pv 0) pe_int (nomark _)) pe_str pe_str))
      (pss_cons (ps_set (i := 4) scNumberText.nd rfl (.inl rfl) (pe_join pe_str (pe_revL (pv 1))))
      (pss_one (ps_ret (pe_joined (PJ.cons (pe_fmt (pv 3)) (PJ.cons (pe_fmt (pv 2)) (PJ.cons (pe_fmt (pv 4)) PJ.nil))))))))))), ?_⟩
    have hL : (0 : Int) < LIM := by decide +kernel
    have hLn : LIM = ((10 ^ 200 : Nat) : Int) := by decide +kernel
    refine ⟨Nat.zero_le _, fun p np => ⟨_, rfl, _, rfl, ?_⟩⟩
    rw [abs_if]
    refine while_by (fun σ H' => ∃ (n : Nat) (ls : List (List Nat)), σ = [some (.int x), some (.ref p), some (.int (n : Int)), none, none] ∧ Same H H' ∧ H' p = some (.lst (ls.map fun l => V.str (S l))) ∧ TL.numL x.natAbs = TL.numL n ++ ls.reverse.flatten ∧ n * 10 ^ (200 * ls.length) ≤ x.natAbs) (fun σ _ => match σ with | [_, _, some (.int n), _, _] => n.toNat | _ => 0)
      ⟨_, [], rfl, same_upd np, upd_same, ?_, ?_⟩ ?_ ?_
    · simp
    · simp
    · rintro σ H' ⟨n, ls, rfl, s1, hp, e1, e2⟩
      refine ⟨_, rfl, _, _, rfl, rfl, _, rfl, ite2 (fun c => ?_) (fun c => ?_)⟩
      · have hc : LIM ≤ (n : Int) := of_decide_eq_true c
        have hn : 10 ^ 200 ≤ n := by rw [hLn] at hc; exact Int.ofNat_le.mp hc
        have lm : n % 10 ^ 200 < 10 ^ 200 := Nat.mod_lt _ (Nat.pow_pos (by decide))
        have em : (n : Int) % LIM = ((n % 10 ^ 200 : Nat) : Int) := by rw [hLn]; exact (Int.natCast_emod _ _).symm
        have ed : (n : Int).fdiv LIM = ((n / 10 ^ 200 : Nat) : Int) := by rw [hLn, Int.fdiv_eq_ediv_of_nonneg _ (Int.natCast_nonneg _)]; exact (Int.natCast_ediv _ _).symm
        have ez : Txt.zfill (Str.ofString (toString (((n % 10 ^ 200 : Nat) : Int)))) 200 = S (dk 200 (n % 10 ^ 200)) := by rw [num_S, zfill_S lm]
        have p2 : 0 < 10 ^ 200 := Nat.pow_pos (by decide)
        have e3 : n / 10 ^ 200 * 10 ^ (200 * (ls ++ [dk 200 (n % 10 ^ 200)]).length) ≤ x.natAbs := by
          refine Nat.le_trans ?_ e2
          rw [List.length_append, List.length_singleton, Nat.mul_add, Nat.mul_one, Nat.pow_add, Nat.mul_comm (10 ^ (200 * ls.length)), ← Nat.mul_assoc]
          exact Nat.mul_le_mul_right _ (Nat.div_mul_le_self _ _)
        have l3 : ls.length < 10 := by
          apply Classical.byContradiction
          intro h
          have h1 : 10 ^ 2000 ≤ x.natAbs := by
            refine Nat.le_trans ?_ e2
            refine Nat.le_trans ?_ (Nat.le_mul_of_pos_left _ (Nat.lt_of_lt_of_le p2 hn))
            exact Nat.pow_le_pow_right (by decide) (by omega)
          have h2 : 10 ^ 500 ≤ 10 ^ 2000 := Nat.pow_le_pow_right (by decide) (by decide)
          omega
        refine ⟨_, rfl, .inl ⟨rfl, _, SqL.of hp⟩, _, rfl, _, _, rfl, rfl, hL, _, rfl, ?_⟩
        dsimp only
        rw [em]
        refine ⟨log500 (Nat.lt_of_lt_of_le lm (Nat.pow_le_pow_right (by decide) (by decide))), ⟨_, rfl⟩, _, _, rfl, rfl, by decide +kernel, _, _, _, rfl, rfl, hp, ?_, ?_⟩
        · rw [List.length_map]
          exact Nat.lt_of_lt_of_le l3 (by decide +kernel)
        · refine ⟨_, rfl, _, _, rfl, rfl, ⟨by omega, by decide +kernel⟩, ⟨_, ls ++ [dk 200 (n % 10 ^ 200)], ?_, same_updF np s1, ?_, ?_, e3⟩, ?_⟩
          · dsimp only
            rw [ed]; rfl
          · rw [upd_same, List.map_append]
            show some (HO.lst (_ ++ [.str (Txt.zfill (Str.ofString (toString (((n % 10 ^ 200 : Nat) : Int)))) 200)])) = _
            rw [ez]
            rfl
          · rw [e1, lim_split hn, List.reverse_append, List.append_assoc]
            rfl
          · show ((n : Int).fdiv LIM).toNat < n
            rw [ed, Int.toNat_natCast]
            exact Nat.div_lt_self (Nat.lt_of_lt_of_le p2 hn) (by decide +kernel)
      · have hc : ¬ LIM ≤ (n : Int) := fun z => c (decide_eq_true z)
        have hn : n < 10 ^ 500 := by
          have : (n : Int) < ((10 ^ 200 : Nat) : Int) := by rw [← hLn]; omega
          exact Nat.lt_of_lt_of_le (Int.ofNat_lt.mp this) (Nat.pow_le_pow_right (by decide) (by decide))
        have sl : (ls.reverse.flatten).length ≤ 501 := by
          have := TL.numL_len (n := x.natAbs) (k := 500) (by decide) hx
          rw [e1, List.length_append] at this
          omega
        have nl : (TL.numL n).length ≤ 501 := by
          have := TL.numL_len (n := n) (k := 500) (by decide) hn
          omega
        have hz : ((ls.reverse.map S).map (·.length)).sum ≤ 501 := by
          rw [lens]
          have : (ls.reverse.map (·.length)).sum = ls.reverse.flatten.length := by rw [List.length_flatten]
          rw [this]; exact sl
        have er : (ls.map fun l => V.str (S l)).reverse = (ls.reverse.map S).map V.str := by rw [List.map_map, ← List.map_reverse]; rfl
        have l1 : (Str.ofString (toString (n : Int))).length ≤ 501 := by rw [num_S, S_len]; exact nl
        have l2 : (Txt.join "" ((ls.reverse).map S)).length ≤ 501 := by
          rw [show ("" : Str) = S [] from rfl, join_S, S_len, flat_map_S]; exact sl
        have fin : ∀ sg : Str, sg = S (sgn x) → sg.length ≤ 1 → ∀ p2, H' p2 = none → tJs [tFmt (tVar 3), tFmt (tVar 2), tFmt (tVar 4)] Str.empty [some (.int x), some (.ref p), some (.int (n : Int)), some (.str sg), some (.str (Txt.join "" ((ls.reverse).map S)))] (upd H' p2 (.lst (ls.map fun l => V.str (S l)).reverse)) fun out H1 => Q (.str out) H1 := by
          intro sg hsg l0 p2 np2
          have e5 : ((Str.empty ++ sg) ++ Str.ofString (toString (n : Int))) ++ Txt.join "" ((ls.reverse).map S) = S (ntx x) := by
            rw [show (Str.empty : Str) = S [] from rfl, hsg, num_S, S_cat, S_cat, show ("" : Str) = S [] from rfl, join_S, S_cat, flat_map_S, List.nil_append, List.append_assoc, ← e1]
            rfl
          have k0 : (Str.empty ++ sg).length ≤ 1 := by rw [Str.length_append]; exact Nat.le_trans (Nat.le_of_eq (Nat.zero_add _)) l0
          have k1 : ((Str.empty ++ sg) ++ Str.ofString (toString (n : Int))).length ≤ 502 := by rw [Str.length_append]; exact Nat.add_le_add k0 l1
          refine ⟨_, rfl, .inl ⟨_, rfl, line_of (Nat.le_trans l0 (by decide)), _, rfl, line_of (Nat.le_trans k0 (by decide)), _, rfl, .inr ⟨_, rfl, log500 (by rw [Int.natAbs_natCast]; exact hn), _, rfl, line_of (Nat.le_trans k1 (by decide)), _, rfl, .inl ⟨_, rfl, line_of (Nat.le_trans l2 (by decide)), _, rfl, ?_, ?_⟩⟩⟩⟩
          · rw [Str.length_append]
            exact line_of (Nat.le_trans (Nat.add_le_add k1 l2) (by decide))
          · show Q (.str (((Str.empty ++ sg) ++ Str.ofString (toString (n : Int))) ++ Txt.join "" ((ls.reverse).map S))) _
            rw [e5]
            exact q _ (s1.trans (same_upd np2))
        refine ⟨_, rfl, _, _, rfl, rfl, _, rfl, ite2 (fun c2 => ?_) (fun c2 => ?_)⟩
        · have hs : "-" = S (sgn x) := by
            have : x < 0 := of_decide_eq_true c2
            unfold sgn
            rw [if_pos this]
            decide +kernel
          refine ⟨⟨_, rfl⟩, _, rfl, _, _, rfl, SqL.of hp, fun p2 np2 => ⟨_, p2, ls.reverse.map S, rfl, rfl, .inl (SqL.of (by rw [upd_same, er])), ?_, fin _ hs (by decide +kernel) p2 np2⟩⟩
          have e0 : (Str.ofString "").length = 0 := rfl
          rw [e0, Nat.mul_zero, Nat.add_zero]
          exact Nat.le_trans hz (by decide)
        · have hs : "" = S (sgn x) := by
            have : ¬ x < 0 := fun z => c2 (decide_eq_true z)
            unfold sgn
            rw [if_neg this]
            decide +kernel
          refine ⟨⟨_, rfl⟩, _, rfl, _, _, rfl, SqL.of hp, fun p2 np2 => ⟨_, p2, ls.reverse.map S, rfl, rfl, .inl (SqL.of (by rw [upd_same, er])), ?_, fin _ hs (by decide +kernel) p2 np2⟩⟩
          have e0 : (Str.ofString "").length = 0 := rfl
          rw [e0, Nat.mul_zero, Nat.add_zero]
          exact Nat.le_trans hz (by decide)
    · rintro σ H Q Q' hm ⟨v, e1, i, j, e3, e4, k, e5, z⟩
      exact ⟨v, e1, i, j, e3, e4, k, e5, hm _ _ z⟩
theorem ok_wtext {f fN : Addr} {fd fdN : FuncData} {k : Nat} (F : Fun K "worth_text" "worth_text" sWorthText f fd) (Nt : Cal P w K mg base "number_text" (k + 1) ["number"] (spNum K) fN fdN) :
    FnOk P w K mg base CX0 (k + 2) f fd ["a"] (spWtx K) := by
  refine F.ok scWorthText (fun vs H Q E h => ?_) (fun cdv A outer s H vs Q E hr h => ?_)
  · obtain ⟨v, x, y, rfl, _⟩ := h
    rfl
  · obtain ⟨v, x, y, rfl, ⟨a, rfl, hA⟩, hx, hy, q⟩ := h
    refine ⟨_, (pss_cons (ps_if (pt_cmpR op_eq (pe_ix ix_tup (pv 0) pe_int (fun _ _ => rfl)) pe_int (nomark _)) (pss_one (ps_ret (pe_call Nt.ok hr rfl Nt.g Nt.kp Nt.b .nil pass0 (pa_cons (pe_ix ix_tup (pv 0) pe_int (fun _ _ => rfl)) pa_nil)))) pss_nil)
      (pss_one (ps_ret (pe_joined (PJ.cons (pe_fmt (pe_call Nt.ok hr rfl Nt.g Nt.kp Nt.b .nil pass0 (pa_cons (pe_ix ix_tup (pv 0) pe_int (fun _ _ => rfl)) pa_nil))) (PJ.cons pe_str (PJ.cons (pe_fmt (pe_call Nt.ok hr rfl Nt.g Nt.kp Nt.b .nil pass0 (pa_cons (pe_ix ix_tup (pv 0) pe_int (fun _ _ => rfl)) pa_nil))) PJ.nil))))))), ?_⟩
    refine ⟨_, rfl, a, _, 1, _, rfl, rfl, hA, atI_nat (j := 1) rfl, rfl, _, rfl, ite2 (fun c => ?_) (fun c => ?_)⟩
    · have hc : y = 1 := V.int.inj (of_decide_eq_true c)
      refine ⟨_, rfl, a, _, 0, _, rfl, rfl, hA, atI_nat (j := 0) rfl, x, rfl, hx, fun H1 s1 => ?_⟩
      have := q H1 s1
      unfold wtx at this
      rw [if_pos hc] at this
      exact this
    · have hc : y ≠ 1 := fun z => c (decide_eq_true (by rw [z]))
      have h1 := ntx_len hx
      have h2 := ntx_len hy
      have e0 : (Str.empty : Str) = S [] := rfl
      have es : Str.ofString "/" = S [47] := by decide +kernel
      refine ⟨_, rfl, a, _, 0, _, rfl, rfl, hA, atI_nat (j := 0) rfl, x, rfl, hx, fun H1 s1 => .inl ⟨_, rfl, line_of (by rw [S_len]; omega), _, rfl, ?_, _, rfl, ?_, ?_⟩⟩
      · rw [e0, S_cat, S_len]
        exact line_of (by simp; omega)
      · rw [e0, es, S_cat, S_cat, S_len]
        exact line_of (by simp; omega)
      · refine ⟨_, rfl, a, _, 1, _, rfl, rfl, seqT_same s1 hA, atI_nat (j := 1) rfl, y, rfl, hy, fun H2 s2 => .inl ⟨_, rfl, line_of (by rw [S_len]; omega), _, rfl, ?_, ?_⟩⟩
        · rw [e0, es, S_cat, S_cat, S_cat, S_len]
          exact line_of (by simp; omega)
        · have := q H2 (s1.trans s2)
          unfold wtx at this
          rw [if_neg hc] at this
          rw [e0, es, S_cat, S_cat, S_cat]
          show Q (.str (S (([] ++ ntx x ++ [47]) ++ ntx y))) H2
          simpa using this
end
end My

set_option Elab.async false
set_option linter.all false
set_option maxRecDepth 100000
namespace My
open PySem PySem.Spec PyProof.Rows L2 SX
open PySem.NumText (AllDigits digitsVal)
abbrev sReadWorth : Stmt := topS 11
theorem scReadWorth : FnScope ["text", "top", "line", "bottom", "sign", "found"] ["text"] (defScope sReadWorth) := ⟨rfl, rfl, rfl, by decide +kernel, rfl, by decide +kernel, by decide +kernel⟩
def NoStr (K : PySem.W.Frag) (H : Hp) (v : V) : Prop := ∃ t, TyX K H v t ∧ PySem.W.kitOne K t (.type "str") = some false
/-- what a reading of a worth's text tells -/
def ReadQ (K : PySem.W.Frag) (H : Hp) (l : List Nat) (Q : V → Hp → Prop) : Prop := (∀ x y v H', IsT l x y → IsW K H' v x y → Same H H' → Q v H') ∧ ((∀ x y, ¬ IsT l x y) → ∀ H', Same H H' → Q .non H')
def spRead (K : PySem.W.Frag) : Sp := fun vs H Q _ => ∃ v, vs = [v] ∧ ((NoStr K H v ∧ ∀ H', Same H H' → Q .non H') ∨ ∃ l : List Nat, v = .str (S l) ∧ l.length ≤ 5000 ∧ ReadQ K H l Q)
theorem cut_len (l : List Nat) : (cutp l).1.length ≤ l.length ∧ (cutp l).2.length ≤ l.length + 1 := by
  unfold cutp
  by_cases h : 47 ∈ l
  · obtain ⟨p, q, e, hp⟩ := List.eq_append_cons_of_mem h
    rw [e, show p ++ 47 :: q = p ++ ([47] ++ q) from rfl, par_head _ hp]
    simp
    omega
  · rw [par_head_none h]
    exact ⟨Nat.le_refl _, by show 1 ≤ _; omega⟩
theorem un_len (l : List Nat) : (un l).length ≤ l.length := by
  unfold un
  split
  · rw [List.length_tail]; omega
  · exact Nat.le_refl _
theorem wr_le {t b x y : Int} (W : WR t b x y) (h0 : 0 ≤ b) (hb : b.natAbs < 10 ^ 200) : y.natAbs < 10 ^ 200 := by
  by_cases h : b = 0
  · rw [(W.z h).2]
    decide +kernel
  · have e := W.eq h
    have d : y.natAbs ∣ b.natAbs := by
      have : y.natAbs ∣ x.natAbs * b.natAbs := by
        rw [← Int.natAbs_mul, e, Int.natAbs_mul]
        exact Nat.dvd_mul_left _ _
      exact Nat.Coprime.dvd_of_dvd_mul_left (Nat.Coprime.symm W.low) this
    exact Nat.lt_of_le_of_lt (Nat.le_of_dvd (by omega) d) hb
def sgi (l : List Nat) : Int := if l.head? = some 45 then -1 else 1
theorem sgi_mul {l : List Nat} {x y : Int} (T : IsT l x y) : sgi l * (x.natAbs : Int) = x := by
  unfold sgi
  by_cases h : x < 0
  · rw [if_pos (T.head.mpr h)]; omega
  · rw [if_neg (fun z => h (T.head.mp z))]; omega
theorem sgi_abs (l : List Nat) (n : Nat) : (sgi l * (n : Int)).natAbs = n := by
  unfold sgi
  split <;> omega
theorem sgi_bits (l : List Nat) : Builtin.Int.intBits (sgi l) ≤ 64 := by
  unfold sgi
  split <;> decide +kernel
theorem val_of {l : List Nat} (h : l ≠ [] ∧ AllDigits l) (h2 : l.length ≤ 200) : intText? (S l) = some ((digitsVal l : Nat) : Int) ∧ (S l).length ≤ 640 ∧ digitsVal l < 10 ^ 200 := by
  refine ⟨intText_digits (x := S l) h.2 h.1 (by rw [S_len]; omega), by rw [S_len]; omega, ?_⟩
  exact Nat.lt_of_lt_of_le (val_lt h.2) (Nat.pow_le_pow_right (by decide) h2)
section
variable {P : Program} {w : World} {K : PySem.W.Frag} {mg : Str → Option Value} {base : Heap}
theorem k1_ss : PySem.W.kitOne K (.type "str") (.type "str") = some true := by rfl
theorem part_S (l : List Nat) : ∃ ln bt : Str, Txt.partition (S l) "/" = (S (cutp l).1, ln, bt) ∧ ((ln = "" ∧ (cutp l).2 = [49]) ∨ (ln ≠ "" ∧ bt = S (cutp l).2)) := by
  have e47 : (Str.ofString "/") = S [47] := by decide +kernel
  unfold cutp
  rw [e47]
  cases e : TL.par [47] [] l with
  | none => exact ⟨_, _, partition_none (by decide) e, .inl ⟨rfl, rfl⟩⟩
  | some r =>
    obtain ⟨p, q⟩ := r
    exact ⟨_, _, partition_some (by decide) e, .inr ⟨by decide +kernel, rfl⟩⟩
theorem ok_read {f fI fW fT : Addr} {fd fdI fdW fdT : FuncData} {k : Nat} (F : Fun K "read_worth" "read_worth" sReadWorth f fd) (Is : Cal P w K mg base "is_short_number" (k + 2) ["text"] spShort fI fdI) (W : Cal P w K mg base "worth" (k + 1) ["top", "bottom"] (spWorth K) fW fdW) (Wt : Cal P w K mg base "worth_text" (k + 2) ["a"] (spWtx K) fT fdT)
    (b_isinstance : mg "isinstance" = none) (b_str : mg "str" = none) (b_int : mg "int" = none) : FnOk P w K mg base CX0 (k + 3) f fd ["text"] (spRead K) := by
  refine F.ok scReadWorth (fun vs H Q E h => ?_) (fun cdv A outer s H vs Q E hr h => ?_)
  · obtain ⟨v, rfl, _⟩ := h
    rfl
  · obtain ⟨v, rfl, h⟩ := h
    have hr1 : Room (k + 1) _ := hr.mono (by omega)
    refine ⟨_, (pss_cons (ps_if (pt_not (pt_val (pe_callB call_isi rfl b_isinstance (by decide +kernel) (pa_cons (pv 0) (pa_cons (pe_ty "str" rfl b_str (by decide +kernel)) pa_nil))))) (pss_one (ps_ret pe_non)) pss_nil)
      (pss_cons (ps_asg (pe_partition (pe_m1 PySem.F.slot_str_removeprefix PySem.F.type_str_removeprefix mt_removeprefix (pv 0) pe_str) pe_str) (pg_tup rfl (pgs_cons (pg_name (i := 1) scReadWorth.nd rfl (.inl rfl)) (pgs_cons (pg_name (i := 2) scReadWorth.nd rfl (.inl rfl)) (pgs_cons (pg_name (i := 3) scReadWorth.nd rfl (.inl rfl)) pgs_nil)))))
      (C8.pss_cut (ps_if (pt_cmpR op_eq (pv 2) pe_str (nomark _)) (pss_one (ps_set (i := 3) scReadWorth.nd rfl (.inl rfl) pe_str)) pss_nil)
      (pss_cons (ps_if (PW.pt (pw_or (pt_not (pt_val (pe_call Is.ok hr rfl Is.g Is.kp Is.b .nil pass0 (pa_cons (pv 1) pa_nil)))) (pw_or1 (pt_not (pt_val (pe_call Is.ok hr rfl Is.g Is.kp Is.b .nil pass0 (pa_cons (pv 3) pa_nil))))))) (pss_one (ps_ret pe_non)) pss_nil)
      (C8.pss_cut (ps_set (i := 4) scReadWorth.nd rfl (.inl rfl) (pe_ifExp (pt_val (pe_m1 PySem.F.slot_str_startswith PySem.F.type_str_startswith mt_startswith (pv 0) pe_str)) (pe_un un_neg pe_int) pe_int))
      (pss_cons (ps_set (i := 5) scReadWorth.nd rfl (.inl rfl) (pe_call W.ok hr1 rfl W.g W.kp W.b .nil pass0 (pa_cons (pe_op op_mulG (pv 4) (pe_callTy call_int_str rfl b_int (by decide +kernel) (pa_cons (pv 1) pa_nil))) (pa_cons (pe_callTy call_int_str rfl b_int (by decide +kernel) (pa_cons (pv 3) pa_nil)) pa_nil))))
      (pss_one (ps_ret (pe_ifExp (pt_cmpR op_eq (pe_call Wt.ok hr rfl Wt.g Wt.kp Wt.b .nil pass0 (pa_cons (pv 5) pa_nil)) (pv 0) (nomark _)) (pv 5) pe_non))))))))), ?_⟩
    rcases h with ⟨⟨t, ty, e⟩, q⟩ | ⟨l, rfl, hl, q1, q2⟩
    · refine ⟨_, rfl, _, _, _, _, _, rfl, .ty _, ty, e, _, rfl, iteT (q _ (Same.refl H))⟩
    · refine ⟨_, rfl, _, _, _, _, _, rfl, .ty _, .base (.str _), k1_ss, _, rfl, iteF ?_⟩
      refine ⟨_, rfl, ⟨_, rfl⟩, _, _, rfl, rfl, line_of (by rw [S_len]; omega), ⟨_, rfl⟩, ?_⟩
      rw [show Str.ofString "-" = S [45] by decide +kernel, pref_S]
      refine ⟨_, _, rfl, rfl, by decide +kernel, line_of (by rw [S_len]; have := un_len l; omega), fun p np => ?_⟩
      obtain ⟨ln, bt, ep, hb⟩ := part_S (un l)
      rw [ep]
      dsimp only
      have s1 := same_upd (o := .tup [.str (S (cutp (un l)).1), .str ln, .str bt]) np
      have l1 := un_len l
      obtain ⟨l2, l3⟩ := cut_len (un l)
      refine ⟨p, _, rfl, SqT.of upd_same, rfl, _, _, rfl, _, _, rfl, _, _, rfl, rfl, ?_⟩
      refine ⟨fun σ' H' => ∃ z, σ' = [some (.str (S l)), some (.str (S (cutp (un l)).1)), z, some (.str (S (cutp (un l)).2)), none, none] ∧ Same H H', ?_, ?_⟩
      · refine ⟨_, rfl, rfl, _, rfl, ite2 (fun c => ?_) (fun c => ?_)⟩
        · have hc : ln = "" := V.str.inj (of_decide_eq_true c)
          rcases hb with ⟨_, e⟩ | ⟨e, _⟩
          · rw [e]
            exact ⟨_, rfl, s1⟩
          · exact absurd hc e
        · rcases hb with ⟨e, _⟩ | ⟨_, rfl⟩
          · exact absurd (decide_eq_true (by rw [e])) c
          · exact ⟨_, rfl, s1⟩
      · rintro σ' H' ⟨z, rfl, s2⟩
        have shortT : ∀ x y, IsT l x y → (decide ((cutp (un l)).1 ≠ [] ∧ AllDigits (cutp (un l)).1) && decide (((cutp (un l)).1.length : Int) ≤ 200)) = true ∧ (decide ((cutp (un l)).2 ≠ [] ∧ AllDigits (cutp (un l)).2) && decide (((cutp (un l)).2.length : Int) ≤ 200)) = true := by
          intro x y T
          rw [T.cut]
          have h1 := num_short.mpr T.bx
          have h2 := num_short.mpr T.bY
          have g : ∀ l : List Nat, l ≠ [] → AllDigits l → l.length ≤ 200 → (decide (l ≠ [] ∧ AllDigits l) && decide ((l.length : Int) ≤ 200)) = true := fun l a b c => by
            rw [Bool.and_eq_true, decide_eq_true_eq, decide_eq_true_eq]
            exact ⟨⟨a, b⟩, by omega⟩
          exact ⟨g _ (TL.numL_ne _) (TL.numL_digits _) h1, g _ (TL.numL_ne _) (TL.numL_digits _) h2⟩
        have cutT : ∀ x y, IsT l x y → digitsVal (cutp (un l)).1 = x.natAbs ∧ digitsVal (cutp (un l)).2 = y.natAbs := by
          intro x y T
          rw [T.cut]
          exact ⟨TL.numL_val _, TL.numL_val _⟩
        revert shortT cutT l2 l3
        generalize (cutp (un l)).1 = p1
        generalize (cutp (un l)).2 = p2
        intro l2 l3 shortT cutT
        refine ⟨_, rfl, _, rfl, by omega, _, rfl, ?_⟩
        cases e1 : (decide (p1 ≠ [] ∧ AllDigits p1) && decide ((p1.length : Int) ≤ 200)) with
        | false => exact iteT (q2 (fun x y T => by rw [(shortT x y T).1] at e1; cases e1) _ s2)
        | true =>
          refine iteF ⟨_, rfl, _, rfl, by omega, _, rfl, ?_⟩
          cases e2 : (decide (p2 ≠ [] ∧ AllDigits p2) && decide ((p2.length : Int) ≤ 200)) with
          | false => exact iteT (q2 (fun x y T => by rw [(shortT x y T).2] at e2; cases e2) _ s2)
          | true =>
            rw [Bool.and_eq_true, decide_eq_true_eq, decide_eq_true_eq] at e1 e2
            obtain ⟨v1, w1, b1⟩ := val_of e1.1 (Int.ofNat_le.mp e1.2)
            obtain ⟨v2, w2, b2⟩ := val_of e2.1 (Int.ofNat_le.mp e2.2)
            refine iteF ⟨fun σ' H' => σ' = [some (.str (S l)), some (.str (S p1)), z, some (.str (S p2)), some (.int (sgi l)), none] ∧ Same H H', ?_, ?_⟩
            · refine ⟨_, rfl, ⟨_, rfl⟩, _, _, rfl, rfl, _, rfl, ?_⟩
              rw [starts_S]
              refine ite2 (fun c => ?_) (fun c => ?_)
              · have := of_decide_eq_true c
                refine ⟨_, rfl, ?_, s2⟩
                unfold sgi
                rw [if_pos this]
                rfl
              · have : ¬ l.head? = some 45 := fun z => c (decide_eq_true z)
                refine ⟨?_, s2⟩
                unfold sgi
                rw [if_neg this]
                rfl
            · rintro σ' H3 ⟨rfl, s3⟩
              refine ⟨_, rfl, _, rfl, _, _, rfl, v1, w1, _, _, rfl, rfl, IntMulOk.of_left (sgi_bits l), _, rfl, _, _, rfl, v2, w2, _, _, rfl, ?_, fun v x y H4 WW IW s4 => ?_⟩
              · exact Nat.lt_trans b2 (by decide +kernel)
              · have bx : x.natAbs < 10 ^ 200 := by
                  have := WW.lx
                  rw [sgi_abs] at this
                  exact Nat.lt_of_le_of_lt this b1
                have bY : y.natAbs < 10 ^ 200 := wr_le WW (Int.natCast_nonneg _) b2
                have big : ∀ n : Nat, n < 10 ^ 200 → n < 10 ^ 500 := fun n h => Nat.lt_of_lt_of_le h (Nat.pow_le_pow_right (by decide) (by decide))
                refine ⟨_, rfl, v, x, y, rfl, IW, big _ bx, big _ bY, fun H5 s5 => ⟨_, rfl, rfl, _, rfl, ite2 (fun c => ?_) (fun c => ?_)⟩⟩
                · have hc : wtx x y = l := S_inj (V.str.inj (of_decide_eq_true c))
                  exact ⟨_, rfl, q1 x y v H5 ⟨WW.pos, WW.low, bx, bY, hc.symm⟩ (IW.same s5) ((s3.trans s4).trans s5)⟩
                · refine q2 (fun x' y' T => ?_) _ ((s3.trans s4).trans s5)
                  obtain ⟨c1, c2⟩ := cutT x' y' T
                  have p' := T.pos
                  have e3 : ((digitsVal p2 : Nat) : Int) = y' := by rw [c2]; omega
                  have e4 : sgi l * ((digitsVal p1 : Nat) : Int) = x' := by rw [c1]; exact sgi_mul T
                  rw [e3, e4] at WW
                  obtain ⟨rfl, rfl⟩ := WW.uniq (WR.self T.pos T.low) (by omega) (by omega) rfl
                  exact c (decide_eq_true (by rw [T.eq.symm]))
end
end My

set_option Elab.async false
set_option linter.all false
set_option maxRecDepth 100000
namespace My
open PySem PySem.Spec PyProof.Rows L2 SX
abbrev sLawMade : Stmt := topS 19
theorem scLawMade : FnScope ["bag", "over", "under", "great", "part"] ["bag"] (defScope sLawMade) := ⟨rfl, rfl, rfl, by decide +kernel, rfl, by decide +kernel, by decide +kernel⟩
structure Good (x y : Int) : Prop where
  pos : 1 ≤ y
  low : Nat.gcd x.natAbs y.natAbs = 1
  bx : x.natAbs < 10 ^ 500
  by' : y.natAbs < 10 ^ 500
def spMade (K : PySem.W.Frag) : Sp := fun vs H Q _ => ∃ b, vs = [.ref b] ∧ BagAt K H b ∧ ∀ v x y H', Good x y → IsW K H' v x y → BagAt K H' b → But b H H' → Q v H'
theorem wr_good {t b x y : Int} (W : WR t b x y) (ht : t.natAbs < 10 ^ 300) (hb : b.natAbs < 10 ^ 300) : Good x y := by
  have e : 10 ^ 300 < 10 ^ 500 := by decide +kernel
  have h1 := W.lx
  have h2 := W.ly
  refine ⟨W.pos, W.low, ?_, ?_⟩
  · exact Nat.lt_trans (Nat.lt_of_le_of_lt h1 ht) e
  · exact Nat.lt_of_le_of_lt (Nat.le_trans h2 hb) e
section
variable {P : Program} {w : World} {K : PySem.W.Frag} {mg : Str → Option Value} {base : Heap}
theorem bag_ne {H : Hp} {b p : Addr} (B : BagAt K H b) (h : H p = none) : p ≠ b := by
  obtain ⟨c, ns, i, g, x, n, B⟩ := B
  exact (ne_of_none B.ob h).symm
theorem divs {i c : Int} (h0 : c ≠ 0) (h : c.natAbs < 2 ^ 8000) : CDivS i c := ⟨h0, log_of h⟩
theorem n300 {n : Nat} (h : n < 10 ^ 80) : n + 1 < 10 ^ 300 := Nat.lt_of_lt_of_le (Nat.succ_lt_succ h) (by decide +kernel)
theorem n300' {n : Int} (h : n.natAbs < 10 ^ 80) : (1 + (n.natAbs : Int)).natAbs < 10 ^ 300 := by
  have := n300 h
  omega
theorem ok_made {f fD fO fA fG : Addr} {fd fdD fdO fdA fdG : FuncData} {k : Nat} (F : Fun K "_law_made" "_law_made" sLawMade f fd) (D : Cal P w K mg base "_law_draw" (k + 1) ["bag", "size"] (spDraw K) fD fdD) (O : Cal P w K mg base "_law_of" (k + 2) ["bag", "things"] (spOf K) fO fdO) (Am : Cal P w K mg base "_law_amount" (k + 3) ["bag"] (spAmount K) fA fdA) (G : Cal P w K mg base "_law_gcd" (k + 1) ["x", "y"] spGcd fG fdG) (b_abs : mg "abs" = none) :
    FnOk P w K mg base CX0 (k + 4) f fd ["bag"] (spMade K) := by
  refine F.ok scLawMade (fun vs H Q E h => ?_) (fun cdv A outer s H vs Q E hr h => ?_)
  · obtain ⟨b, rfl, _⟩ := h
    rfl
  · obtain ⟨b, rfl, B, q⟩ := h
    refine ⟨_, (pss_cons (ps_par (i := 1) (j := 2) rfl scLawMade.nd rfl rfl (by decide) rfl rfl (pa_cons (pe_call Am.ok (hr.mono (by omega)) rfl Am.g Am.kp Am.b .nil pass0 (pa_cons (pv 0) pa_nil)) (pa_cons (pe_op op_add pe_int (pe_callB call_abs rfl b_abs (by decide +kernel) (pa_cons (pe_call Am.ok (hr.mono (by omega)) rfl Am.g Am.kp Am.b .nil pass0 (pa_cons (pv 0) pa_nil)) pa_nil))) pa_nil)) rfl)
      (C8.pss_cut (ps_if (pt_cmpR op_eq (pe_call D.ok (hr.mono (by omega)) rfl D.g D.kp D.b .nil pass0 (pa_cons (pv 0) (pa_cons pe_int pa_nil))) pe_int (nomark _)) (pss_cons (ps_set (i := 3) scLawMade.nd rfl (.inl rfl) (pe_op op_sub (pe_op op_mulG (pe_op op_divS (pe_op op_powG (pe_op op_powG pe_int pe_int) pe_int) (pe_call O.ok (hr.mono (by omega)) rfl O.g O.kp O.b .nil pass0 (pa_cons (pv 0) (pa_cons (pe_lst (pa_cons pe_int (pa_cons pe_int (pa_cons pe_int pa_nil)))) pa_nil)))) (pe_call O.ok (hr.mono (by omega)) rfl O.g O.kp O.b .nil pass0 (pa_cons (pv 0) (pa_cons (pe_lst (pa_cons pe_int (pa_cons pe_int (pa_cons pe_int pa_nil)))) pa_nil)))) (pe_call D.ok (hr.mono (by omega)) rfl D.g D.kp D.b .nil pass0 (pa_cons (pv 0) (pa_cons pe_int pa_nil)))))
        (pss_one (ps_if (pt_cmpR op_eq (pe_call D.ok (hr.mono (by omega)) rfl D.g D.kp D.b .nil pass0 (pa_cons (pv 0) (pa_cons pe_int pa_nil))) pe_int (nomark _)) (pss_one (ps_set (i := 1) scLawMade.nd rfl (.inl rfl) (pe_ifExp (pt_cmpR op_ge (pv 1) pe_int (nomark _)) (pv 3) (pe_op op_sub pe_int (pv 3))))) (pss_one (ps_set (i := 2) scLawMade.nd rfl (.inl rfl) (pv 3)))))) pss_nil)
      (C8.pss_cut (ps_if (pt_cmpR op_eq (pe_call D.ok (hr.mono (by omega)) rfl D.g D.kp D.b .nil pass0 (pa_cons (pv 0) (pa_cons pe_int pa_nil))) pe_int (nomark _)) (pss_one (ps_set (i := 2) scLawMade.nd rfl (.inl rfl) pe_int)) pss_nil)
      (pss_cons (ps_set (i := 4) scLawMade.nd rfl (.inl rfl) (pe_call G.ok (hr.mono (by omega)) rfl G.g G.kp G.b .nil pass0 (pa_cons (pv 1) (pa_cons (pv 2) pa_nil))))
      (pss_one (ps_ret (pe_tup (pa_cons (pe_op op_divS (pv 1) (pv 4)) (pa_cons (pe_op op_divS (pv 2) (pv 4)) pa_nil))))))))), ?_⟩
    refine ⟨_, rfl, b, rfl, B, fun ov H1 ho B1 t1 => ⟨_, rfl, b, rfl, B1, fun un H2 hu B2 t2 => ?_⟩⟩
    refine ⟨_, rfl, _, _, rfl, rfl, _, _, rfl, ?_⟩
    rw [abs_if]
    dsimp only
    refine ⟨fun σ' H' => ∃ (z3 z4 : Option V) (o u : Int), σ' = [some (.ref b), some (.int o), some (.int u), z3, z4] ∧ o.natAbs < 10 ^ 300 ∧ 1 ≤ u ∧ u.natAbs < 10 ^ 300 ∧ BagAt K H' b ∧ But b H H', ?_, ?_⟩
    · refine ⟨_, rfl, b, 4, rfl, B2, by decide, by decide, fun d H4 d0 d1 B4 t4 => ⟨rfl, _, rfl, ite2 (fun _ => ?_) (fun _ => ?_)⟩⟩
      · refine ⟨_, _, rfl, rfl, ⟨by decide, by decide +kernel⟩, _, _, rfl, rfl, ⟨by decide, by decide +kernel⟩, _, rfl, (by show 3 ≤ sizeLine; decide), fun p np => ?_⟩
        have B5 := B4.same (same_upd (o := .lst [.int 1, .int 10, .int 100]) np)
        refine ⟨b, p, _, rfl, B5, bag_ne B4 np, SqL.of upd_same, (by show 0 < 3; decide), (by show 3 < 1000; decide), fun v H6 hv B6 t6 => ?_⟩
        obtain ⟨m, rfl, m0, m1⟩ : ∃ m : Int, v = .int m ∧ 1 ≤ m ∧ m ≤ 100 := by
          simp only [List.append_nil, List.mem_cons, List.not_mem_nil, or_false] at hv
          rcases hv with rfl | rfl | rfl <;> exact ⟨_, rfl, by decide, by decide⟩
        refine ⟨_, _, rfl, rfl, divs (by omega) (Nat.lt_of_le_of_lt (show m.natAbs ≤ 100 by omega) (by decide +kernel)), _, rfl, (by show 3 ≤ sizeLine; decide), fun p2 np2 => ?_⟩
        have B7 := B6.same (same_upd (o := .lst [.int 1, .int 1, .int 10]) np2)
        refine ⟨b, p2, _, rfl, B7, bag_ne B6 np2, SqL.of upd_same, (by show 0 < 3; decide), (by show 3 < 1000; decide), fun v2 H8 hv2 B8 t8 => ?_⟩
        obtain ⟨j, rfl, j0, j1⟩ : ∃ j : Int, v2 = .int j ∧ 1 ≤ j ∧ j ≤ 10 := by
          simp only [List.append_nil, List.mem_cons, List.not_mem_nil, or_false] at hv2
          rcases hv2 with rfl | rfl | rfl <;> exact ⟨_, rfl, by decide, by decide⟩
        have bits : Builtin.Int.intBits j ≤ 64 := intBits_le_64 (by omega) (by omega)
        refine ⟨_, _, rfl, rfl, mul_right bits, _, rfl, b, 3, rfl, B8, by decide, by decide, fun r H9 r0 r1 B9 t9 => ⟨_, _, rfl, rfl, ?_⟩⟩
        have u9 : But b H H9 := (((((((t1.trans t2).trans t4).trans (But.of (same_upd np))).trans t6).trans (But.of (same_upd np2))).trans t8).trans t9)
        obtain ⟨gr, eg, gr1, gr2⟩ : ∃ gr : Int, ((10 ^ (50 : Int).toNat) ^ (4 : Int).toNat : Int).fdiv m * j - r = gr ∧ 1 ≤ gr ∧ gr.natAbs < 10 ^ 300 := by
          refine ⟨_, rfl, ?_⟩
          have e : ((10 ^ (50 : Int).toNat) ^ (4 : Int).toNat : Int) = 10 ^ 200 := by decide +kernel
          rw [e, Int.fdiv_eq_ediv_of_nonneg _ (by omega)]
          have h1 : (10 : Int) ^ 200 / 100 ≤ 10 ^ 200 / m := by
            refine Int.le_ediv_of_mul_le (by omega) ?_
            refine Int.le_trans (Int.mul_le_mul_of_nonneg_left m1 (by decide +kernel)) (by decide +kernel)
          have h2 : (10 : Int) ^ 200 / m ≤ 10 ^ 200 := Int.ediv_le_self _ (by decide +kernel)
          have h3 : (1000 : Int) ≤ 10 ^ 200 / 100 := by decide +kernel
          have h4 : (10 : Int) ^ 200 * 11 < 10 ^ 300 := by decide +kernel
          have h5 : ((10 : Nat) ^ 300 : Nat) = ((10 : Int) ^ 300).natAbs := by decide +kernel
          rw [h5]
          revert h1 h2 h3 h4
          generalize (10 : Int) ^ 200 / 100 = c1
          generalize (10 : Int) ^ 200 / m = c2
          generalize (10 : Int) ^ 200 = c3
          generalize (10 : Int) ^ 300 = c4
          intro h1 h2 h3 h4
          have h6 : c2 * 1 ≤ c2 * j := Int.mul_le_mul_of_nonneg_left j0 (by omega)
          have h7 : c2 * j ≤ c2 * 10 := Int.mul_le_mul_of_nonneg_left j1 (by omega)
          constructor <;> omega
        dsimp only
        rw [eg]
        refine ⟨_, rfl, b, 2, rfl, B9, by decide, by decide, fun r2 H10 r20 r21 B10 t10 => ⟨rfl, _, rfl, ite2 (fun _ => ?_) (fun _ => ?_)⟩⟩
        · refine ⟨_, rfl, _, _, rfl, rfl, _, rfl, ite2 (fun _ => ?_) (fun _ => ?_)⟩
          · exact ⟨_, rfl, _, _, gr, _, rfl, gr2, by omega, n300' hu, B10, u9.trans t10⟩
          · exact ⟨_, rfl, _, _, rfl, rfl, _, _, 0 - gr, _, rfl, by omega, by omega, n300' hu, B10, u9.trans t10⟩
        · exact ⟨_, rfl, _, _, ov, gr, rfl, Nat.lt_of_succ_lt (n300 ho), gr1, gr2, B10, u9.trans t10⟩
      · exact ⟨none, none, ov, _, rfl, Nat.lt_of_succ_lt (n300 ho), by omega, n300' hu, B4, (t1.trans t2).trans t4⟩
    · rintro σ' H' ⟨z3, z4, o, u, rfl, ho, u1, hu, B3, t3⟩
      refine ⟨fun σ' H' => ∃ (z3 z4 : Option V) (u : Int), σ' = [some (.ref b), some (.int o), some (.int u), z3, z4] ∧ 1 ≤ u ∧ u.natAbs < 10 ^ 300 ∧ BagAt K H' b ∧ But b H H', ?_, ?_⟩
      · refine ⟨_, rfl, b, 3, rfl, B3, by decide, by decide, fun d H4 d0 d1 B4 t4 => ⟨rfl, _, rfl, ite2 (fun _ => ?_) (fun _ => ?_)⟩⟩
        · exact ⟨_, _, 1, rfl, by decide, by decide +kernel, B4, t3.trans t4⟩
        · exact ⟨_, _, u, rfl, u1, hu, B4, t3.trans t4⟩
      · rintro σ' H' ⟨z3, z4, u, rfl, u1, hu, B3, t3⟩
        refine ⟨_, rfl, _, rfl, _, _, rfl, ?_⟩
        obtain ⟨g0, gl, wn, wp⟩ := wr_make (t := o) (b := u) (by omega) rfl
        revert g0 gl wn wp
        generalize ((Nat.gcd o.natAbs u.natAbs : Nat) : Int) = g
        intro g0 gl wn wp
        have hc : ∀ i, CDivS i g := fun i => divs (by omega) (Nat.lt_of_le_of_lt gl (Nat.lt_trans hu (by decide +kernel)))
        refine ⟨_, rfl, _, rfl, _, _, rfl, rfl, hc _, _, rfl, _, rfl, _, _, rfl, rfl, hc _, (by show 2 ≤ sizeLine; decide), fun p np => ?_⟩
        exact q _ _ _ _ (wr_good (wp (by omega)) ho hu) ⟨p, rfl, SqT.of upd_same⟩ (B3.same (same_upd np)) (t3.trans (But.of (same_upd np)))
end
end My

set_option Elab.async false
set_option linter.all false
set_option maxRecDepth 100000
namespace My
open PySem PySem.Spec PyProof.Rows L2 SX
open PySem.NumText (AllDigits digitsVal)
abbrev sLawRead : Stmt := topS 20
theorem scLawRead : FnScope ["thing", "parts", "part", "over", "under"] ["thing"] (defScope sLawRead) := ⟨rfl, rfl, rfl, by decide +kernel, rfl, by decide +kernel, by decide +kernel⟩
theorem head_take (l : List Nat) : (V.str (S (l.take 1)) = V.str (S [45])) ↔ l.head? = some 45 := by
  constructor
  · intro h
    have := S_inj (V.str.inj h)
    cases l with
    | nil => cases this
    | cons a l =>
      have : a = 45 := (List.cons.inj this).1
      rw [this]; rfl
  · intro h
    cases l with
    | nil => cases h
    | cons a l =>
      have : a = 45 := Option.some.inj h
      rw [this]; rfl
theorem un_drop {l : List Nat} (h : l.head? = some 45) : l.drop 1 = un l := by
  unfold un
  rw [if_pos h, List.drop_one]
theorem un_same {l : List Nat} (h : ¬ l.head? = some 45) : l = un l := by
  unfold un
  rw [if_neg h]
theorem cuts_len (l : List Nat) : (cuts l).length ≤ l.length + 1 := by
  suffices ∀ n, ∀ l : List Nat, l.length = n → (cuts l).length ≤ l.length + 1 from this _ l rfl
  intro n
  induction n using Nat.strongRecOn with
  | _ n ih =>
    intro l hl
    rcases cuts_cases l with ⟨_, e⟩ | ⟨p, q, e1, _, e2⟩
    · rw [e]; simp
    · rw [e2, List.length_cons]
      have hq : q.length < n := by rw [← hl, e1, List.length_append, List.length_cons]; omega
      have := ih _ hq q rfl
      rw [e1, List.length_append, List.length_cons]
      omega
theorem cuts_part : ∀ (l p : List Nat), p ∈ cuts l → p.length ≤ l.length := by
  intro l
  suffices ∀ n, ∀ l : List Nat, l.length = n → ∀ p, p ∈ cuts l → p.length ≤ l.length from this _ l rfl
  intro n
  induction n using Nat.strongRecOn with
  | _ n ih =>
    intro l hl p hp
    rcases cuts_cases l with ⟨_, e⟩ | ⟨p', q, e1, _, e2⟩
    · rw [e] at hp
      rw [List.mem_singleton.mp hp]
      exact Nat.le_refl _
    · rw [e2] at hp
      have hq : q.length < n := by rw [← hl, e1, List.length_append, List.length_cons]; omega
      rcases List.mem_cons.mp hp with e | h
      · rw [e, e1, List.length_append]; omega
      · have := ih _ hq q rfl p h
        rw [e1, List.length_append, List.length_cons]
        omega
theorem cuts_no {l p1 : List Nat} {x y : Int} (h : cuts (un l) = [p1]) (T : IsT l x y) : digitsVal p1 = x.natAbs ∧ y = 1 := by
  have e := T.cutsE
  rw [h] at e
  split at e
  · rename_i hy
    rw [(List.cons.inj e).1, TL.numL_val]
    exact ⟨rfl, hy⟩
  · exact absurd (List.cons.inj e).2 (by simp)
theorem cuts_no2 {l p1 p2 : List Nat} {x y : Int} (h : cuts (un l) = [p1, p2]) (T : IsT l x y) : digitsVal p1 = x.natAbs ∧ digitsVal p2 = y.natAbs ∧ y ≠ 1 := by
  have e := T.cutsE
  rw [h] at e
  split at e
  · exact absurd (List.cons.inj e).2 (by simp)
  · rename_i hy
    rw [(List.cons.inj e).1, (List.cons.inj (List.cons.inj e).2).1, TL.numL_val, TL.numL_val]
    exact ⟨rfl, rfl, hy⟩
def partsV (l : List Nat) : List V := (cuts (un l)).map fun p => V.str (S p)
section
variable {P : Program} {w : World} {K : PySem.W.Frag} {mg : Str → Option Value} {base : Heap}
theorem ok_law_read {f fG : Addr} {fd fdG : FuncData} {k : Nat} (F : Fun K "_law_read" "_law_read" sLawRead f fd) (G : Cal P w K mg base "_law_gcd" (k + 1) ["x", "y"] spGcd fG fdG)
    (b_isinstance : mg "isinstance" = none) (b_str : mg "str" = none) (b_int : mg "int" = none) (b_len : mg "len" = none) : FnOk P w K mg base CX0 (k + 2) f fd ["thing"] (spRead K) := by
  refine F.ok scLawRead (fun vs H Q E h => ?_) (fun cdv A outer s H vs Q E hr h => ?_)
  · obtain ⟨v, rfl, _⟩ := h
    rfl
  · obtain ⟨v, rfl, h⟩ := h
    refine ⟨_, (pss_cons (ps_if (pt_not (pt_val (pe_callB call_isi rfl b_isinstance (by decide +kernel) (pa_cons (pv 0) (pa_cons (pe_ty "str" rfl b_str (by decide +kernel)) pa_nil))))) (pss_one (ps_ret pe_non)) pss_nil)
      (C8.pss_cut (ps_set (i := 1) scLawRead.nd rfl (.inl rfl) (pe_ifExp (pt_cmpR op_eq (pe_slice C8.sl_txt (pv 0) po_none (po_some pe_int)) pe_str (nomark _)) (pe_m1 PySem.F.slot_str_split PySem.F.type_str_split mt_split (pe_slice C8.sl_txt (pv 0) (po_some pe_int) po_none) pe_str) (pe_m1 PySem.F.slot_str_split PySem.F.type_str_split mt_split (pv 0) pe_str)))
      (pss_cons (ps_for PassesOwn.never rfl (pi_list (pv 1)) (pg_name (i := 2) scLawRead.nd rfl (.inl rfl))
        (pss_one (ps_if (PW.pt (pw_or (pt_cmpR op_eq (pv 2) pe_str (nomark _)) (pw_or (pt_cmpR op_ne (pe_m1 PySem.F.slot_str_strip PySem.F.type_str_strip mt_stripChars (pv 2) pe_str) pe_str (nomark _)) (pw_or (pt_cmpR op_gt (pe_callB call_len rfl b_len (by decide +kernel) (pa_cons (pv 2) pa_nil)) pe_int (nomark _)) (pw_or1 (PW.pt (pw_and (pt_cmpR op_eq (pe_ix ix_str (pv 2) pe_int (fun _ _ => rfl)) pe_str (nomark _)) (pw_and1 (pt_cmpR op_ne (pv 2) pe_str (nomark _)))))))))) (pss_one (ps_ret pe_non)) pss_nil)))
      (pss_cons (ps_if (pt_cmpR op_gt (pe_callB call_len rfl b_len (by decide +kernel) (pa_cons (pv 1) pa_nil)) pe_int (nomark _)) (pss_one (ps_ret pe_non)) pss_nil)
      (C8.pss_cut (ps_par (i := 3) (j := 4) rfl scLawRead.nd rfl rfl (by decide) rfl rfl (pa_cons (pe_callTy call_int_str rfl b_int (by decide +kernel) (pa_cons (pe_ix ix_list (pv 1) pe_int (fun _ _ => rfl)) pa_nil)) (pa_cons (pe_ifExp (pt_cmpR op_eq (pe_callB call_len rfl b_len (by decide +kernel) (pa_cons (pv 1) pa_nil)) pe_int (nomark _)) (pe_callTy call_int_str rfl b_int (by decide +kernel) (pa_cons (pe_ix ix_list (pv 1) pe_int (fun _ _ => rfl)) pa_nil)) pe_int) pa_nil)) rfl)
      (pss_cons (ps_if (PW.pt (pw_or (PW.pt (pw_and (pt_cmpR op_eq (pe_callB call_len rfl b_len (by decide +kernel) (pa_cons (pv 1) pa_nil)) pe_int (nomark _)) (pw_and1 (pt_cmpR op_lt (pv 4) pe_int (nomark _))))) (pw_or (pt_cmpR op_ne (pe_call G.ok (hr.mono (by omega)) rfl G.g G.kp G.b .nil pass0 (pa_cons (pv 3) (pa_cons (pv 4) pa_nil))) pe_int (nomark _)) (pw_or1 (PW.pt (pw_and (pt_cmpR op_eq (pe_slice C8.sl_txt (pv 0) po_none (po_some pe_int)) pe_str (nomark _)) (pw_and1 (pt_cmpR op_eq (pv 3) pe_int (nomark _))))))))) (pss_one (ps_ret pe_non)) pss_nil)
      (pss_one (ps_ret (pe_tup (pa_cons (pe_ifExp (pt_cmpR op_eq (pe_slice C8.sl_txt (pv 0) po_none (po_some pe_int)) pe_str (nomark _)) (pe_op op_sub pe_int (pv 3)) (pv 3)) (pa_cons (pv 4) pa_nil))))))))))), ?_⟩
    rcases h with ⟨⟨t, ty, e⟩, q⟩ | ⟨l, rfl, hl, q1, q2⟩
    · refine ⟨_, rfl, _, _, _, _, _, rfl, .ty _, ty, e, _, rfl, iteT (q _ (Same.refl H))⟩
    · refine ⟨_, rfl, _, _, _, _, _, rfl, .ty _, .base (.str _), k1_ss, _, rfl, iteF ?_⟩
      have lS : (S l).length ≤ sizeLine := line_of (by rw [S_len]; omega)
      refine ⟨fun σ' H' => ∃ p, σ' = [some (.str (S l)), some (.ref p), none, none, none] ∧ H' p = some (.lst (partsV l)) ∧ Same H H', ?_, ?_⟩
      · refine ⟨_, rfl, _, rfl, _, rfl, lS, rfl, _, rfl, ?_⟩
        rw [slice_to (by decide), show (1 : Int).toNat = 1 from rfl, show Str.ofString "-" = S [45] by decide +kernel]
        have el : ∀ a : List Nat, a = un l → Txt.split (S a) (Str.ofString "/") = (cuts (un l)).map S := by
          intro a ha
          rw [ha, show Str.ofString "/" = S [47] by decide +kernel]
          exact split_S (by decide) (by decide)
        refine ite2 (fun c => ?_) (fun c => ?_)
        · have hc := (head_take l).mp (of_decide_eq_true c)
          refine ⟨_, rfl, _, rfl, _, rfl, lS, ⟨_, rfl⟩, _, _, rfl, rfl, by decide +kernel, ?_, fun p np => ?_⟩
          · rw [slice_from (by decide), S_len]
            exact line_of (by rw [List.length_drop]; omega)
          · rw [slice_from (by decide), show (Int.toNat 1) = 1 from rfl, el _ (un_drop hc)]
            exact ⟨p, rfl, by rw [upd_same, List.map_map]; rfl, same_upd np⟩
        · have hc : ¬ l.head? = some 45 := fun z => c (decide_eq_true ((head_take l).mpr z))
          refine ⟨_, rfl, ⟨_, rfl⟩, _, _, rfl, rfl, by decide +kernel, line_of (by rw [S_len]; omega), fun p np => ?_⟩
          rw [el _ (un_same hc)]
          exact ⟨p, rfl, by rw [upd_same, List.map_map]; rfl, same_upd np⟩
      · rintro σ' H1 ⟨p, rfl, hp, s1⟩
        have lc := cuts_len (un l)
        have lu := un_len l
        have eV : partsV l = (cuts (un l)).map fun p => V.str (S p) := rfl
        refine ⟨_, rfl, p, rfl, ⟨_, SqL.of hp⟩, for_list (K := K) (a := p) (xs := partsV l) (fun i σ H2 => ∃ v : Option V, σ = [some (.str (S l)), some (.ref p), v, none, none] ∧ H2 = H1 ∧ ∀ j, j < i → ∀ z, (cuts (un l))[j]? = some z → Ok z)
          ⟨none, rfl, rfl, fun j h => absurd h (by omega)⟩ (fun i σ H2 _ ⟨_, _, e, _⟩ => SqL.of (by rw [e]; exact hp)) ?_ ?_⟩
        · rintro i y σ H2 hi ⟨v, rfl, rfl, hok⟩
          obtain ⟨z, hz, rfl⟩ : ∃ z, (cuts (un l))[i]? = some z ∧ y = .str (S z) := by
            rw [eV, List.getElem?_map] at hi
            cases e : (cuts (un l))[i]? with
            | none => rw [e] at hi; cases hi
            | some z => rw [e] at hi; exact ⟨z, rfl, (Option.some.inj hi).symm⟩
          have mz : z ∈ cuts (un l) := List.mem_of_getElem? hz
          have lz := cuts_part _ _ mz
          have no : ¬ Ok z → Q .non H2 := fun h => q2 (fun x y T => h (T.ok z mz)) _ s1
          refine ⟨_, rfl, rfl, _, rfl, ite2 (fun c => ?_) (fun c => ?_)⟩
          · exact no fun h => h.1.ne (S_inj (V.str.inj (of_decide_eq_true c)))
          · have zne : z ≠ [] := fun e => c (decide_eq_true (by rw [e]; rfl))
            have lzl : (S z).length ≤ sizeLine := line_of (by rw [S_len]; omega)
            refine ⟨_, rfl, ⟨_, rfl⟩, _, _, rfl, rfl, lzl, rfl, _, rfl, ?_⟩
            rw [show Str.ofString "0123456789" = S [48, 49, 50, 51, 52, 53, 54, 55, 56, 57] by decide +kernel]
            by_cases hd : AllDigits z
            · rw [(strip_S z).mpr hd, decide_eq_true (show V.str (S []) = V.str "" from rfl)]
              refine iteF ⟨_, rfl, _, _, rfl, ⟨lzl, rfl⟩, _, _, rfl, rfl, _, rfl, ite2 (fun c2 => ?_) (fun c2 => ?_)⟩
              · have : 200 < (((S z).length : Nat) : Int) := of_decide_eq_true c2
                rw [S_len] at this
                exact no fun h => by have := h.2; omega
              · have h200 : z.length ≤ 200 := by
                  have : ¬ 200 < (((S z).length : Nat) : Int) := fun h => c2 (decide_eq_true h)
                  rw [S_len] at this
                  omega
                obtain ⟨a, r, rfl⟩ : ∃ a r, z = a :: r := by
                  cases z with
                  | nil => exact absurd rfl zne
                  | cons a r => exact ⟨a, r, rfl⟩
                have next : Ok (a :: r) → ∃ v : Option V, [some (.str (S l)), some (.ref p), some (.str (S (a :: r))), none, none] = [some (.str (S l)), some (.ref p), v, none, none] ∧ H2 = H2 ∧ ∀ j, j < i + 1 → ∀ z, (cuts (un l))[j]? = some z → Ok z := by
                  intro h
                  refine ⟨_, rfl, rfl, fun j hj z' hz' => ?_⟩
                  by_cases hji : j = i
                  · rw [hji, hz] at hz'
                    rw [← Option.some.inj hz']
                    exact h
                  · exact hok j (by omega) z' hz'
                refine ⟨_, rfl, _, 0, a, rfl, rfl, lzl, atI_nat (j := 0) rfl, rfl, _, rfl, ite2 (fun c3 => ?_) (fun c3 => ?_)⟩
                · have ha : a = 48 := by
                    have : S [a] = S [48] := V.str.inj (of_decide_eq_true c3)
                    exact (List.cons.inj (S_inj this)).1
                  refine ⟨_, rfl, rfl, _, rfl, ?_⟩
                  by_cases h0 : S (a :: r) = S [48]
                  · rw [decide_eq_true (show V.str (S (a :: r)) = V.str "0" by rw [h0]; rfl)]
                    exact iteF (next ⟨⟨zne, hd, fun _ => S_inj h0⟩, h200⟩)
                  · rw [decide_eq_false (show ¬ V.str (S (a :: r)) = V.str "0" from fun e => h0 (V.str.inj e))]
                    exact iteT (no fun h => h0 (congrArg S (h.1.z (by rw [ha]; rfl))))
                · refine next ⟨⟨zne, hd, fun e => absurd (decide_eq_true ?_) c3⟩, h200⟩
                  have : a = 48 := Option.some.inj e
                  rw [this]
                  rfl
            · rw [decide_eq_false (show ¬ V.str (Txt.stripChars (S z) (S [48, 49, 50, 51, 52, 53, 54, 55, 56, 57])) = V.str "" from fun e => hd ((strip_S z).mp (V.str.inj e)))]
              exact iteT (no fun h => hd h.1.dg)
        · rintro σ H2 ⟨v, rfl, rfl, hok⟩
          have hlen : (partsV l).length = (cuts (un l)).length := by rw [eV, List.length_map]
          refine ⟨_, rfl, _, _, rfl, .inl ⟨_, SqL.of hp, rfl⟩, _, _, rfl, rfl, _, rfl, ite2 (fun c => ?_) (fun c => ?_)⟩
          · have h2 : (2 : Int) < (((partsV l).length : Nat) : Int) := of_decide_eq_true c
            rw [hlen] at h2
            refine q2 (fun x y T => ?_) _ s1
            have e := T.cutsE
            rw [e] at h2
            split at h2 <;> exact absurd h2 (by simp)
          · have h2 : (cuts (un l)).length ≤ 2 := by
              have : ¬ (2 : Int) < (((partsV l).length : Nat) : Int) := fun h => c (decide_eq_true h)
              rw [hlen] at this
              omega
            refine ⟨fun σ' H' => H' = H2 ∧ ∃ (p1 : List Nat) (u : Nat), σ' = [some (.str (S l)), some (.ref p), v, some (.int (digitsVal p1 : Int)), some (.int (u : Int))] ∧ Ok p1 ∧ ((cuts (un l) = [p1] ∧ u = 1) ∨ ∃ p2, cuts (un l) = [p1, p2] ∧ Ok p2 ∧ u = digitsVal p2), ?_, ?_⟩
            · have vo : ∀ z, Ok z → intText? (S z) = some ((digitsVal z : Nat) : Int) ∧ (S z).length ≤ 640 := fun z h => ⟨(val_of ⟨h.1.ne, h.1.dg⟩ h.2).1, (val_of ⟨h.1.ne, h.1.dg⟩ h.2).2.1⟩
              cases hc : cuts (un l) with
              | nil => exact absurd hc (cuts_ne _)
              | cons p1 r =>
                rw [hc] at hok h2
                have o1 : Ok p1 := hok 0 (by rw [hlen, hc]; simp) p1 rfl
                obtain ⟨i1, l1⟩ := vo p1 o1
                cases r with
                | nil =>
                  have ep : partsV l = [.str (S p1)] := by rw [eV, hc]; rfl
                  rw [ep] at hp
                  refine ⟨_, rfl, p, _, 0, _, rfl, rfl, SqL.of hp, atI_nat (j := 0) rfl, _, _, rfl, i1, l1, _, rfl, _, _, rfl, .inl ⟨_, SqL.of hp, rfl⟩, rfl, _, rfl, iteF ?_⟩
                  exact ⟨_, _, rfl, rfl, p1, 1, rfl, o1, .inl ⟨rfl, rfl⟩⟩
                | cons p2 r =>
                  cases r with
                  | cons _ _ => exact absurd h2 (by simp)
                  | nil =>
                    have o2 : Ok p2 := hok 1 (by rw [hlen, hc]; simp) p2 rfl
                    obtain ⟨i2, l2⟩ := vo p2 o2
                    have ep : partsV l = [.str (S p1), .str (S p2)] := by rw [eV, hc]; rfl
                    rw [ep] at hp
                    refine ⟨_, rfl, p, _, 0, _, rfl, rfl, SqL.of hp, atI_nat (j := 0) rfl, _, _, rfl, i1, l1, _, rfl, _, _, rfl, .inl ⟨_, SqL.of hp, rfl⟩, rfl, _, rfl, iteT ?_⟩
                    refine ⟨_, rfl, p, _, 1, _, rfl, rfl, SqL.of hp, atI_nat (j := 1) rfl, _, _, rfl, i2, l2, _, _, rfl, ?_⟩
                    exact ⟨rfl, p1, _, rfl, o1, .inr ⟨p2, rfl, o2, rfl⟩⟩
            · rintro σ' H3 ⟨rfl, p1, u, rfl, o1, hcu⟩
              have lS' : (S l).length ≤ sizeLine := lS
              have hlen2 : (partsV l).length = 2 ↔ ∃ p2, cuts (un l) = [p1, p2] := by
                rw [hlen]
                rcases hcu with ⟨e, _⟩ | ⟨p2, e, _⟩
                · rw [e]
                  simp
                · rw [e]
                  exact ⟨fun _ => ⟨p2, rfl⟩, fun _ => rfl⟩
              -- the first part of the test
              have tail : (∀ x y, IsT l x y → Nat.gcd (digitsVal p1) u = 1 ∧ (l.head? = some 45 → digitsVal p1 ≠ 0)) ∧ (Nat.gcd (digitsVal p1) u = 1 → ¬ (l.head? = some 45 ∧ digitsVal p1 = 0) → (∃ p2, cuts (un l) = [p1, p2] ∧ u < 2) ∨ IsT l (if l.head? = some 45 then -(digitsVal p1 : Int) else digitsVal p1) u) := by
                constructor
                · intro x y T
                  have hz : l.head? = some 45 → x.natAbs ≠ 0 := fun h => by have := T.head.mp h; omega
                  rcases hcu with ⟨e, rfl⟩ | ⟨p2, e, o2, rfl⟩
                  · obtain ⟨a1, a2⟩ := cuts_no e T
                    rw [a1]
                    exact ⟨Nat.gcd_one_right _, hz⟩
                  · obtain ⟨a1, a2, a3⟩ := cuts_no2 e T
                    rw [a1, a2]
                    exact ⟨T.low, hz⟩
                · intro g z
                  rcases hcu with ⟨e, rfl⟩ | ⟨p2, e, o2, rfl⟩
                  · exact .inr (read_one e o1 g z)
                  · by_cases h2 : digitsVal p2 < 2
                    · exact .inl ⟨p2, e, h2⟩
                    · exact .inr (read_two e o1 o2 (by omega) g z)
              have notT : (∃ p2, cuts (un l) = [p1, p2]) → u < 2 → ∀ x y, ¬ IsT l x y := by
                rintro ⟨p2, e⟩ hu x y T
                obtain ⟨a1, a2, a3⟩ := cuts_no2 e T
                have := T.pos
                rcases hcu with ⟨e', _⟩ | ⟨p2', e', _, rfl⟩
                · rw [e'] at e; exact absurd (List.cons.inj e).2 (by simp)
                · rw [e'] at e
                  rw [(List.cons.inj (List.cons.inj e).2).1, a2] at hu
                  omega
              refine ⟨_, rfl, _, _, rfl, .inl ⟨_, SqL.of hp, rfl⟩, rfl, _, rfl, ite2 (fun c3 => ?_) (fun c3 => ?_)⟩
              · have e2 : (partsV l).length = 2 := Int.ofNat.inj (V.int.inj (of_decide_eq_true c3))
                have he := hlen2.mp e2
                refine ⟨_, rfl, _, _, rfl, rfl, _, rfl, ite2 (fun c4 => ?_) (fun c4 => ?_)⟩
                · have : (u : Int) < 2 := of_decide_eq_true c4
                  exact q2 (notT he (by omega)) _ s1
                · have hu : ¬ u < 2 := fun z => c4 (decide_eq_true (by omega))
                  have fst : ¬ ∃ p2, cuts (un l) = [p1, p2] ∧ u < 2 := fun ⟨_, _, h⟩ => hu h
                  refine ⟨_, rfl, _, rfl, _, _, rfl, rfl, _, rfl, ?_⟩
                  by_cases hg : Nat.gcd (digitsVal p1) u = 1
                  · rw [decide_eq_true (show V.int ((Nat.gcd ((digitsVal p1 : Nat) : Int).natAbs ((u : Nat) : Int).natAbs : Nat) : Int) = V.int 1 by rw [Int.natAbs_natCast, Int.natAbs_natCast, hg]; rfl)]
                    refine iteF ⟨_, rfl, _, rfl, _, rfl, lS, rfl, _, rfl, ?_⟩
                    rw [slice_to (by decide), show (1 : Int).toNat = 1 from rfl, show Str.ofString "-" = S [45] by decide +kernel]
                    refine ite2 (fun c5 => ?_) (fun c5 => ?_)
                    · have h45 := (head_take l).mp (of_decide_eq_true c5)
                      refine ⟨_, rfl, rfl, _, rfl, ite2 (fun c6 => ?_) (fun c6 => ?_)⟩
                      · have h0 : ((digitsVal p1 : Nat) : Int) = 0 := V.int.inj (of_decide_eq_true c6)
                        exact q2 (fun x y T => (tail.1 x y T).2 h45 (by omega)) _ s1
                      · have h0 : digitsVal p1 ≠ 0 := fun z => c6 (decide_eq_true (by rw [z]; rfl))
                        have hT := (tail.2 hg (fun z => h0 z.2)).resolve_left fst
                        refine ⟨_, rfl, _, rfl, _, rfl, lS, rfl, _, rfl, ?_⟩
                        rw [slice_to (by decide), show (1 : Int).toNat = 1 from rfl]
                        refine ite2 (fun c7 => ?_) (fun c7 => ?_)
                        · have hc := (head_take l).mp (of_decide_eq_true c7)
                          rw [if_pos hc] at hT
                          refine ⟨_, rfl, _, _, rfl, rfl, _, rfl, (by show 2 ≤ sizeLine; decide), fun r nr => ?_⟩
                          refine q1 _ _ _ _ hT ⟨r, rfl, SqT.of ?_⟩ (s1.trans (same_upd nr))
                          rw [upd_same, ← Int.zero_sub]
                        · have hc : ¬ l.head? = some 45 := fun z => c7 (decide_eq_true ((head_take l).mpr z))
                          rw [if_neg hc] at hT
                          exact ⟨_, rfl, _, rfl, (by show 2 ≤ sizeLine; decide), fun r nr => q1 _ _ _ _ hT ⟨r, rfl, SqT.of upd_same⟩ (s1.trans (same_upd nr))⟩
                    · have h45 : ¬ l.head? = some 45 := fun z => c5 (decide_eq_true ((head_take l).mpr z))
                      have hT := (tail.2 hg (fun z => h45 z.1)).resolve_left fst
                      refine ⟨_, rfl, _, rfl, _, rfl, lS, rfl, _, rfl, ?_⟩
                      rw [slice_to (by decide), show (1 : Int).toNat = 1 from rfl]
                      refine ite2 (fun c7 => ?_) (fun c7 => ?_)
                      · have hc := (head_take l).mp (of_decide_eq_true c7)
                        rw [if_pos hc] at hT
                        refine ⟨_, rfl, _, _, rfl, rfl, _, rfl, (by show 2 ≤ sizeLine; decide), fun r nr => ?_⟩
                        refine q1 _ _ _ _ hT ⟨r, rfl, SqT.of ?_⟩ (s1.trans (same_upd nr))
                        rw [upd_same, ← Int.zero_sub]
                      · have hc : ¬ l.head? = some 45 := fun z => c7 (decide_eq_true ((head_take l).mpr z))
                        rw [if_neg hc] at hT
                        exact ⟨_, rfl, _, rfl, (by show 2 ≤ sizeLine; decide), fun r nr => q1 _ _ _ _ hT ⟨r, rfl, SqT.of upd_same⟩ (s1.trans (same_upd nr))⟩
                  · rw [decide_eq_false (show ¬ V.int ((Nat.gcd ((digitsVal p1 : Nat) : Int).natAbs ((u : Nat) : Int).natAbs : Nat) : Int) = V.int 1 from fun e => hg (by have := V.int.inj e; rw [Int.natAbs_natCast, Int.natAbs_natCast] at this; omega))]
                    exact iteT (q2 (fun x y T => hg (tail.1 x y T).1) _ s1)
              · have fst : ¬ ∃ p2, cuts (un l) = [p1, p2] ∧ u < 2 := fun ⟨p2, e, _⟩ => c3 (decide_eq_true (by rw [hlen2.mpr ⟨p2, e⟩]; rfl))
                refine ⟨_, rfl, _, rfl, _, _, rfl, rfl, _, rfl, ?_⟩
                by_cases hg : Nat.gcd (digitsVal p1) u = 1
                · rw [decide_eq_true (show V.int ((Nat.gcd ((digitsVal p1 : Nat) : Int).natAbs ((u : Nat) : Int).natAbs : Nat) : Int) = V.int 1 by rw [Int.natAbs_natCast, Int.natAbs_natCast, hg]; rfl)]
                  refine iteF ⟨_, rfl, _, rfl, _, rfl, lS, rfl, _, rfl, ?_⟩
                  rw [slice_to (by decide), show (1 : Int).toNat = 1 from rfl, show Str.ofString "-" = S [45] by decide +kernel]
                  refine ite2 (fun c5 => ?_) (fun c5 => ?_)
                  · have h45 := (head_take l).mp (of_decide_eq_true c5)
                    refine ⟨_, rfl, rfl, _, rfl, ite2 (fun c6 => ?_) (fun c6 => ?_)⟩
                    · have h0 : ((digitsVal p1 : Nat) : Int) = 0 := V.int.inj (of_decide_eq_true c6)
                      exact q2 (fun x y T => (tail.1 x y T).2 h45 (by omega)) _ s1
                    · have h0 : digitsVal p1 ≠ 0 := fun z => c6 (decide_eq_true (by rw [z]; rfl))
                      have hT := (tail.2 hg (fun z => h0 z.2)).resolve_left fst
                      refine ⟨_, rfl, _, rfl, _, rfl, lS, rfl, _, rfl, ?_⟩
                      rw [slice_to (by decide), show (1 : Int).toNat = 1 from rfl]
                      refine ite2 (fun c7 => ?_) (fun c7 => ?_)
                      · have hc := (head_take l).mp (of_decide_eq_true c7)
                        rw [if_pos hc] at hT
                        refine ⟨_, rfl, _, _, rfl, rfl, _, rfl, (by show 2 ≤ sizeLine; decide), fun r nr => ?_⟩
                        refine q1 _ _ _ _ hT ⟨r, rfl, SqT.of ?_⟩ (s1.trans (same_upd nr))
                        rw [upd_same, ← Int.zero_sub]
                      · have hc : ¬ l.head? = some 45 := fun z => c7 (decide_eq_true ((head_take l).mpr z))
                        rw [if_neg hc] at hT
                        exact ⟨_, rfl, _, rfl, (by show 2 ≤ sizeLine; decide), fun r nr => q1 _ _ _ _ hT ⟨r, rfl, SqT.of upd_same⟩ (s1.trans (same_upd nr))⟩
                  · have h45 : ¬ l.head? = some 45 := fun z => c5 (decide_eq_true ((head_take l).mpr z))
                    have hT := (tail.2 hg (fun z => h45 z.1)).resolve_left fst
                    refine ⟨_, rfl, _, rfl, _, rfl, lS, rfl, _, rfl, ?_⟩
                    rw [slice_to (by decide), show (1 : Int).toNat = 1 from rfl]
                    refine ite2 (fun c7 => ?_) (fun c7 => ?_)
                    · have hc := (head_take l).mp (of_decide_eq_true c7)
                      rw [if_pos hc] at hT
                      refine ⟨_, rfl, _, _, rfl, rfl, _, rfl, (by show 2 ≤ sizeLine; decide), fun r nr => ?_⟩
                      refine q1 _ _ _ _ hT ⟨r, rfl, SqT.of ?_⟩ (s1.trans (same_upd nr))
                      rw [upd_same, ← Int.zero_sub]
                    · have hc : ¬ l.head? = some 45 := fun z => c7 (decide_eq_true ((head_take l).mpr z))
                      rw [if_neg hc] at hT
                      exact ⟨_, rfl, _, rfl, (by show 2 ≤ sizeLine; decide), fun r nr => q1 _ _ _ _ hT ⟨r, rfl, SqT.of upd_same⟩ (s1.trans (same_upd nr))⟩
                · rw [decide_eq_false (show ¬ V.int ((Nat.gcd ((digitsVal p1 : Nat) : Int).natAbs ((u : Nat) : Int).natAbs : Nat) : Int) = V.int 1 from fun e => hg (by have := V.int.inj e; rw [Int.natAbs_natCast, Int.natAbs_natCast] at this; omega))]
                  exact iteT (q2 (fun x y T => hg (tail.1 x y T).1) _ s1)
end
end My

set_option Elab.async false
set_option linter.all false
set_option maxRecDepth 100000
namespace My
open PySem PySem.Spec PyProof.Rows L2 SX
abbrev sLawBent : Stmt := topS 21
theorem scLawBent : FnScope ["bag", "told", "spot", "sign", "some"] ["bag", "told"] (defScope sLawBent) := ⟨rfl, rfl, rfl, by decide +kernel, rfl, by decide +kernel, by decide +kernel⟩
def spOfS (K : PySem.W.Frag) : Sp := fun vs H Q _ => ∃ (b : Addr) (z : Str), vs = [.ref b, .str z] ∧ BagAt K H b ∧ 0 < z.length ∧ z.length < 1000 ∧ ∀ y H', y.length = 1 → BagAt K H' b → But b H H' → Q (.str y) H'
def spBent (K : PySem.W.Frag) : Sp := fun vs H Q _ => ∃ (b : Addr) (z : Str), vs = [.ref b, .str z] ∧ BagAt K H b ∧ z.length ≤ 2100 ∧ ∀ (y : Str) H', y.length ≤ 2 * z.length + 3 → BagAt K H' b → But b H H' → Q (.str y) H'
section
variable {P : Program} {w : World} {K : PySem.W.Frag} {mg : Str → Option Value} {base : Heap}
theorem ok_ofS {f fD : Addr} {fd fdD : FuncData} {k : Nat} (F : Fun K "_law_of" "_law_of" sLawOf f fd) (D : Cal P w K mg base "_law_draw" (k + 1) ["bag", "size"] (spDraw K) fD fdD) (b_len : mg "len" = none) : FnOk P w K mg base CX0 (k + 2) f fd ["bag", "things"] (spOfS K) := by
  refine F.ok scLawOf (fun vs H Q E h => ?_) (fun cdv A outer s H vs Q E hr h => ?_)
  · obtain ⟨b, z, rfl, _⟩ := h
    rfl
  · obtain ⟨b, z, rfl, B, h0, h1, q⟩ := h
    refine ⟨_, (pss_one (ps_ret (pe_ix ix_str (pv 1) (pe_call D.ok hr rfl D.g D.kp D.b .nil pass0 (pa_cons (pv 0) (pa_cons (pe_callB call_len rfl b_len (by decide +kernel) (pa_cons (pv 1) pa_nil)) pa_nil))) (fun _ _ => rfl)))), ?_⟩
    have hz : z.length ≤ sizeLine := Nat.le_of_lt (small1000 (by omega))
    refine ⟨_, rfl, _, rfl, _, rfl, _, _, rfl, ⟨hz, rfl⟩, b, _, rfl, B, by omega, by omega, fun r H' r0 r1 B' t => ?_⟩
    obtain ⟨j, rfl⟩ : ∃ j : Nat, r = (j : Int) := ⟨r.toNat, by omega⟩
    have hj : j < z.cps.toList.length := by
      rw [Array.length_toList]
      show j < z.length
      omega
    exact ⟨z, _, z.cps.toList[j], rfl, rfl, hz, atI_nat (List.getElem?_eq_getElem hj), q _ H' rfl B' t⟩
theorem ok_bent {f fD fO fS : Addr} {fd fdD fdO fdS : FuncData} {k : Nat} (F : Fun K "_law_bent" "_law_bent" sLawBent f fd) (D : Cal P w K mg base "_law_draw" (k + 1) ["bag", "size"] (spDraw K) fD fdD) (O : Cal P w K mg base "_law_of" (k + 2) ["bag", "things"] (spOf K) fO fdO) (OS : Cal P w K mg base "_law_of" (k + 2) ["bag", "things"] (spOfS K) fS fdS) (b_len : mg "len" = none) :
    FnOk P w K mg base CX0 (k + 3) f fd ["bag", "told"] (spBent K) := by
  refine F.ok scLawBent (fun vs H Q E h => ?_) (fun cdv A outer s H vs Q E hr h => ?_)
  · obtain ⟨b, z, rfl, _⟩ := h
    rfl
  · obtain ⟨b, z, rfl, B, hz, q⟩ := h
    refine ⟨_, (pss_cons (ps_set (i := 2) scLawBent.nd rfl (.inl rfl) (pe_call D.ok (hr.mono (by omega)) rfl D.g D.kp D.b .nil pass0 (pa_cons (pv 0) (pa_cons (pe_op op_add (pe_callB call_len rfl b_len (by decide +kernel) (pa_cons (pv 1) pa_nil)) pe_int) pa_nil))))
      (C8.pss_cut (ps_set (i := 3) scLawBent.nd rfl (.inl rfl) (pe_ifExp (pt_cmpR op_eq (pe_call D.ok (hr.mono (by omega)) rfl D.g D.kp D.b .nil pass0 (pa_cons (pv 0) (pa_cons pe_int pa_nil))) pe_int (nomark _)) (pe_call OS.ok (hr.mono (by omega)) rfl OS.g OS.kp OS.b .nil pass0 (pa_cons (pv 0) (pa_cons pe_str pa_nil))) (pe_call OS.ok (hr.mono (by omega)) rfl OS.g OS.kp OS.b .nil pass0 (pa_cons (pv 0) (pa_cons pe_str pa_nil)))))
      (pss_cons (ps_set (i := 4) scLawBent.nd rfl (.inl rfl) (pe_lst (pa_cons (pe_op op_add_str (pe_op op_add_str (pe_slice sl_str (pv 1) po_none (po_some (pv 2))) (pv 3)) (pe_slice sl_str (pv 1) (po_some (pv 2)) po_none)) (pa_cons (pe_op op_add_str (pe_slice sl_str (pv 1) po_none (po_some (pv 2))) (pe_slice sl_str (pv 1) (po_some (pe_op op_add (pv 2) pe_int)) po_none)) (pa_cons (pe_op op_add_str (pe_op op_add_str (pe_slice sl_str (pv 1) po_none (po_some (pv 2))) (pv 3)) (pe_slice sl_str (pv 1) (po_some (pe_op op_add (pv 2) pe_int)) po_none)) pa_nil)))))
      (pss_cons (ps_expr (pe_bm PySem.F.plainAttrs_list PySem.F.slot_list_extend PySem.F.type_list_extend mt_extend (pv 4) (pa_cons (pe_lst (pa_cons (pe_op op_add_str (pv 1) pe_str) (pa_cons (pe_op op_add_str (pv 1) pe_str) (pa_cons (pe_op op_add_str pe_str (pv 1)) (pa_cons (pe_op op_add_str (pe_op op_add_str (pv 1) pe_str) (pv 3)) (pa_cons (pe_op op_add_str pe_str (pv 1)) (pa_cons (pe_op op_add_str (pv 1) pe_str) (pa_cons (pe_op op_add_str pe_str (pv 1)) (pa_cons (pv 3) pa_nil))))))))) pa_nil)))
      (pss_one (ps_ret (pe_call O.ok (hr.mono (by omega)) rfl O.g O.kp O.b .nil pass0 (pa_cons (pv 0) (pa_cons (pv 4) pa_nil))))))))), ?_⟩
    have lz : z.length ≤ sizeLine := line_of (by omega)
    have li : ∀ n : Nat, n ≤ 10000 → n ≤ sizeLine := fun n h => line_of h
    have lS : 10000 ≤ sizeLine := line_of (Nat.le_refl _)
    refine ⟨_, rfl, _, rfl, _, _, rfl, ⟨lz, rfl⟩, _, _, rfl, rfl, b, _, rfl, B, by omega, by omega, fun sp H1 p0 p1 B1 t1 => ?_⟩
    refine ⟨fun σ' H' => ∃ y : Str, σ' = [some (.ref b), some (.str z), some (.int sp), some (.str y), none] ∧ y.length = 1 ∧ BagAt K H' b ∧ But b H H', ?_, ?_⟩
    · refine ⟨_, rfl, b, 2, rfl, B1, by decide, by decide, fun d H2 d0 d1 B2 t2 => ⟨rfl, _, rfl, ite2 (fun _ => ?_) (fun _ => ?_)⟩⟩
      · exact ⟨_, rfl, b, _, rfl, B2, by decide +kernel, by decide +kernel, fun y H3 hy B3 t3 => ⟨y, rfl, hy, B3, (t1.trans t2).trans t3⟩⟩
      · exact ⟨_, rfl, b, _, rfl, B2, by decide +kernel, by decide +kernel, fun y H3 hy B3 t3 => ⟨y, rfl, hy, B3, (t1.trans t2).trans t3⟩⟩
    · rintro σ' H3 ⟨y, rfl, hy, B3, t3⟩
      have c1 : ∀ lo hi, (cutS z lo hi).length ≤ z.length := fun lo hi => cutS_length z lo hi
      have a1 : ∀ a b : Str, (a ++ b).length = a.length + b.length := fun a b => Str.length_append a b
      have fits : ∀ (a b : Str) n m, a.length ≤ n → b.length ≤ m → n + m ≤ 10000 → a.length + b.length ≤ sizeLine := fun a b n m h1 h2 h3 => by omega
      have y1 : y.length ≤ 1 := by omega
      have two : ∀ lo hi, (cutS z lo hi).length ≤ 2100 := fun lo hi => Nat.le_trans (c1 lo hi) hz
      refine ⟨_, rfl, _, rfl, _, rfl, _, rfl, lz, _, rfl, _, _, rfl, rfl, (by first | exact li _ (by rw [a1]; have := two none (some sp); have := two (some sp) none; have := two (some (sp + 1)) none; omega) | exact li _ (by have := two none (some sp); have := two (some sp) none; have := two (some (sp + 1)) none; omega) | exact li _ (by rw [a1]; have := (show (Str.ofString "/").length = 1 by decide +kernel); omega) | exact Nat.le_trans (Nat.add_le_add (Nat.le_refl _) (show _ ≤ 10 by decide +kernel)) (li _ (by omega)) | exact Nat.le_trans (Nat.add_le_add (show _ ≤ 10 by decide +kernel) (Nat.le_refl _)) (li _ (by omega))), _, rfl, _, rfl, _, rfl, _, rfl, lz, _, _, rfl, rfl, (by first | exact li _ (by rw [a1]; have := two none (some sp); have := two (some sp) none; have := two (some (sp + 1)) none; omega) | exact li _ (by have := two none (some sp); have := two (some sp) none; have := two (some (sp + 1)) none; omega) | exact li _ (by rw [a1]; have := (show (Str.ofString "/").length = 1 by decide +kernel); omega) | exact Nat.le_trans (Nat.add_le_add (Nat.le_refl _) (show _ ≤ 10 by decide +kernel)) (li _ (by omega)) | exact Nat.le_trans (Nat.add_le_add (show _ ≤ 10 by decide +kernel) (Nat.le_refl _)) (li _ (by omega))), _, rfl, _, rfl, _, rfl, _, rfl, lz, _, rfl, _, rfl, _, _, rfl, rfl, _, rfl, _, rfl, lz, _, _, rfl, rfl, (by first | exact li _ (by rw [a1]; have := two none (some sp); have := two (some sp) none; have := two (some (sp + 1)) none; omega) | exact li _ (by have := two none (some sp); have := two (some sp) none; have := two (some (sp + 1)) none; omega) | exact li _ (by rw [a1]; have := (show (Str.ofString "/").length = 1 by decide +kernel); omega) | exact Nat.le_trans (Nat.add_le_add (Nat.le_refl _) (show _ ≤ 10 by decide +kernel)) (li _ (by omega)) | exact Nat.le_trans (Nat.add_le_add (show _ ≤ 10 by decide +kernel) (Nat.le_refl _)) (li _ (by omega))), _, rfl, _, rfl, _, rfl, _, rfl, lz, _, rfl, _, _, rfl, rfl, (by first | exact li _ (by rw [a1]; have := two none (some sp); have := two (some sp) none; have := two (some (sp + 1)) none; omega) | exact li _ (by have := two none (some sp); have := two (some sp) none; have := two (some (sp + 1)) none; omega) | exact li _ (by rw [a1]; have := (show (Str.ofString "/").length = 1 by decide +kernel); omega) | exact Nat.le_trans (Nat.add_le_add (Nat.le_refl _) (show _ ≤ 10 by decide +kernel)) (li _ (by omega)) | exact Nat.le_trans (Nat.add_le_add (show _ ≤ 10 by decide +kernel) (Nat.le_refl _)) (li _ (by omega))), _, rfl, _, rfl, _, _, rfl, rfl, _, rfl, _, rfl, lz, _, _, rfl, rfl, (by first | exact li _ (by rw [a1]; have := two none (some sp); have := two (some sp) none; have := two (some (sp + 1)) none; omega) | exact li _ (by have := two none (some sp); have := two (some sp) none; have := two (some (sp + 1)) none; omega) | exact li _ (by rw [a1]; have := (show (Str.ofString "/").length = 1 by decide +kernel); omega) | exact Nat.le_trans (Nat.add_le_add (Nat.le_refl _) (show _ ≤ 10 by decide +kernel)) (li _ (by omega)) | exact Nat.le_trans (Nat.add_le_add (show _ ≤ 10 by decide +kernel) (Nat.le_refl _)) (li _ (by omega))), (by show 3 ≤ sizeLine; decide), fun p np => ?_⟩
      have Bp := B3.same (same_upd (o := .lst [.str (cutS z none (some sp) ++ y ++ cutS z (some sp) none), .str (cutS z none (some sp) ++ cutS z (some (sp + 1)) none), .str (cutS z none (some sp) ++ y ++ cutS z (some (sp + 1)) none)]) np)
      refine ⟨_, rfl, .inl ⟨rfl, _, SqL.of upd_same⟩, _, rfl, _, _, rfl, rfl, (by first | exact li _ (by rw [a1]; have := two none (some sp); have := two (some sp) none; have := two (some (sp + 1)) none; omega) | exact li _ (by have := two none (some sp); have := two (some sp) none; have := two (some (sp + 1)) none; omega) | exact li _ (by rw [a1]; have := (show (Str.ofString "/").length = 1 by decide +kernel); omega) | exact Nat.le_trans (Nat.add_le_add (Nat.le_refl _) (show _ ≤ 10 by decide +kernel)) (li _ (by omega)) | exact Nat.le_trans (Nat.add_le_add (show _ ≤ 10 by decide +kernel) (Nat.le_refl _)) (li _ (by omega))), _, rfl, _, _, rfl, rfl, (by first | exact li _ (by rw [a1]; have := two none (some sp); have := two (some sp) none; have := two (some (sp + 1)) none; omega) | exact li _ (by have := two none (some sp); have := two (some sp) none; have := two (some (sp + 1)) none; omega) | exact li _ (by rw [a1]; have := (show (Str.ofString "/").length = 1 by decide +kernel); omega) | exact Nat.le_trans (Nat.add_le_add (Nat.le_refl _) (show _ ≤ 10 by decide +kernel)) (li _ (by omega)) | exact Nat.le_trans (Nat.add_le_add (show _ ≤ 10 by decide +kernel) (Nat.le_refl _)) (li _ (by omega))), _, rfl, _, _, rfl, rfl, (by first | exact li _ (by rw [a1]; have := two none (some sp); have := two (some sp) none; have := two (some (sp + 1)) none; omega) | exact li _ (by have := two none (some sp); have := two (some sp) none; have := two (some (sp + 1)) none; omega) | exact li _ (by rw [a1]; have := (show (Str.ofString "/").length = 1 by decide +kernel); omega) | exact Nat.le_trans (Nat.add_le_add (Nat.le_refl _) (show _ ≤ 10 by decide +kernel)) (li _ (by omega)) | exact Nat.le_trans (Nat.add_le_add (show _ ≤ 10 by decide +kernel) (Nat.le_refl _)) (li _ (by omega))), _, rfl, _, _, rfl, rfl, (by first | exact li _ (by rw [a1]; have := two none (some sp); have := two (some sp) none; have := two (some (sp + 1)) none; omega) | exact li _ (by have := two none (some sp); have := two (some sp) none; have := two (some (sp + 1)) none; omega) | exact li _ (by rw [a1]; have := (show (Str.ofString "/").length = 1 by decide +kernel); omega) | exact Nat.le_trans (Nat.add_le_add (Nat.le_refl _) (show _ ≤ 10 by decide +kernel)) (li _ (by omega)) | exact Nat.le_trans (Nat.add_le_add (show _ ≤ 10 by decide +kernel) (Nat.le_refl _)) (li _ (by omega))), _, rfl, _, _, rfl, rfl, (by first | exact li _ (by rw [a1]; have := two none (some sp); have := two (some sp) none; have := two (some (sp + 1)) none; omega) | exact li _ (by have := two none (some sp); have := two (some sp) none; have := two (some (sp + 1)) none; omega) | exact li _ (by rw [a1]; have := (show (Str.ofString "/").length = 1 by decide +kernel); omega) | exact Nat.le_trans (Nat.add_le_add (Nat.le_refl _) (show _ ≤ 10 by decide +kernel)) (li _ (by omega)) | exact Nat.le_trans (Nat.add_le_add (show _ ≤ 10 by decide +kernel) (Nat.le_refl _)) (li _ (by omega))), _, rfl, _, _, rfl, rfl, (by first | exact li _ (by rw [a1]; have := two none (some sp); have := two (some sp) none; have := two (some (sp + 1)) none; omega) | exact li _ (by have := two none (some sp); have := two (some sp) none; have := two (some (sp + 1)) none; omega) | exact li _ (by rw [a1]; have := (show (Str.ofString "/").length = 1 by decide +kernel); omega) | exact Nat.le_trans (Nat.add_le_add (Nat.le_refl _) (show _ ≤ 10 by decide +kernel)) (li _ (by omega)) | exact Nat.le_trans (Nat.add_le_add (show _ ≤ 10 by decide +kernel) (Nat.le_refl _)) (li _ (by omega))), _, rfl, _, _, rfl, rfl, (by first | exact li _ (by rw [a1]; have := two none (some sp); have := two (some sp) none; have := two (some (sp + 1)) none; omega) | exact li _ (by have := two none (some sp); have := two (some sp) none; have := two (some (sp + 1)) none; omega) | exact li _ (by rw [a1]; have := (show (Str.ofString "/").length = 1 by decide +kernel); omega) | exact Nat.le_trans (Nat.add_le_add (Nat.le_refl _) (show _ ≤ 10 by decide +kernel)) (li _ (by omega)) | exact Nat.le_trans (Nat.add_le_add (show _ ≤ 10 by decide +kernel) (Nat.le_refl _)) (li _ (by omega))), _, rfl, _, _, rfl, rfl, (by first | exact li _ (by rw [a1]; have := two none (some sp); have := two (some sp) none; have := two (some (sp + 1)) none; omega) | exact li _ (by have := two none (some sp); have := two (some sp) none; have := two (some (sp + 1)) none; omega) | exact li _ (by rw [a1]; have := (show (Str.ofString "/").length = 1 by decide +kernel); omega) | exact Nat.le_trans (Nat.add_le_add (Nat.le_refl _) (show _ ≤ 10 by decide +kernel)) (li _ (by omega)) | exact Nat.le_trans (Nat.add_le_add (show _ ≤ 10 by decide +kernel) (Nat.le_refl _)) (li _ (by omega))), _, rfl, (by show 8 ≤ sizeLine; decide), fun p2 np2 => ?_⟩
      have n2 : p2 ≠ p := (ne_of_none upd_same np2).symm
      refine ⟨p, p2, _, _, rfl, rfl, (by rw [upd_ne n2.symm, upd_same]), upd_same, (by show 3 + 8 ≤ sizeLine; decide), ?_⟩
      have s5 := fun o => same_updF (o := o) np ((same_upd (o := .lst [.str (cutS z none (some sp) ++ y ++ cutS z (some sp) none), .str (cutS z none (some sp) ++ cutS z (some (sp + 1)) none), .str (cutS z none (some sp) ++ y ++ cutS z (some (sp + 1)) none)]) np).trans (same_upd (o := .lst [.str (z ++ "/1"), .str (z ++ "/0"), .str ("-" ++ z), .str (z ++ "/" ++ y), .str ("0" ++ z), .str (z ++ " "), .str ("+" ++ z), .str y]) np2))
      have pb := bag_ne B3 np
      refine ⟨_, rfl, _, rfl, b, p, _, rfl, B3.same (s5 _), pb, SqL.of upd_same, (by show 0 < 11; decide), (by show 11 < 1000; decide), fun v H5 hv B5 t5 => ?_⟩
      have tt : But b H H5 := (t3.trans (But.of (s5 _))).trans t5
      obtain ⟨r, rfl, hr2⟩ : ∃ r : Str, v = .str r ∧ r.length ≤ 2 * z.length + 3 := by
        have k1 := c1 none (some sp)
        have k2 := c1 (some sp) none
        have k3 := c1 (some (sp + 1)) none
        have l1 : (Str.ofString "/").length = 1 := by decide +kernel
        have l2 : (Str.ofString "/1").length = 2 := by decide +kernel
        have l3 : (Str.ofString "/0").length = 2 := by decide +kernel
        have l4 : (Str.ofString "-").length = 1 := by decide +kernel
        have l5 : (Str.ofString "0").length = 1 := by decide +kernel
        have l6 : (Str.ofString " ").length = 1 := by decide +kernel
        have l7 : (Str.ofString "+").length = 1 := by decide +kernel
        simp only [List.append_nil, List.cons_append, List.nil_append, List.mem_cons, List.not_mem_nil, or_false] at hv
        rcases hv with rfl | rfl | rfl | rfl | rfl | rfl | rfl | rfl | rfl | rfl | rfl <;> refine ⟨_, rfl, ?_⟩ <;> (try rw [a1]) <;> (try rw [a1]) <;> omega
      exact q r H5 hr2 B5 tt
end
end My

set_option Elab.async false
set_option pp.maxSteps 400
set_option linter.all false
set_option maxRecDepth 100000
namespace My
open PySem PySem.Spec PyProof.Rows L2 SX
abbrev sLaw : Stmt := topS 22
theorem scLaw : FnScope ["script", "bag", "lap", "x", "due", "told", "back", "n", "d", "odd", "things", "thing"] ["script"] (defScope sLaw) := ⟨rfl, rfl, rfl, by decide +kernel, rfl, by decide +kernel, by decide +kernel⟩
def spLaw (K : PySem.W.Frag) : Sp := fun vs H Q _ => ∃ (a : Addr) (ns : List Int), vs = [.ref a] ∧ SqL K H a (ns.map V.int) ∧ ns.length ≤ 63 ∧ ∀ H', Q (.bl true) H'
theorem paired_get {α β : Type} {F : α → β → Prop} {xs : List α} {ys : List β} (p : Paired F xs ys) : ∀ (i : Nat) x y, xs[i]? = some x → ys[i]? = some y → F x y := by
  induction p with
  | nil => intro i x y h _; simp at h
  | cons h t ih =>
    intro i x y h1 h2
    cases i with
    | zero =>
      cases h1
      cases h2
      exact h
    | succ i => exact ih i x y h1 h2
theorem Lk.lst {K : PySem.W.Frag} {H : Hp} {n : Nat} {a b : Addr} {xs ys : List V} (hx : SqL K H a xs) (hy : SqL K H b ys) (hb : xs.length < 1000) (p : Paired (Lk K H n) xs ys) : Lk K H (n + 1) (.ref a) (.ref b) :=
  .inr ⟨a, b, xs, ys, rfl, rfl, .inl ⟨hx, hy⟩, p.length, hb, paired_get p⟩
theorem Lk.tup {K : PySem.W.Frag} {H : Hp} {n : Nat} {a b : Addr} {xs ys : List V} (hx : SqT K H a xs) (hy : SqT K H b ys) (hb : xs.length < 1000) (p : Paired (Lk K H n) xs ys) : Lk K H (n + 1) (.ref a) (.ref b) :=
  .inr ⟨a, b, xs, ys, rfl, rfl, .inr ⟨hx, hy⟩, p.length, hb, paired_get p⟩
theorem Lk.worth {K : PySem.W.Frag} {H : Hp} {n : Nat} {v w : V} {x y x' y' : Int} (h : IsW K H v x y) (h' : IsW K H w x' y') (e : x = x' ∧ y = y') : Lk K H (n + 1) v w := by
  obtain ⟨rfl, rfl⟩ := e
  obtain ⟨a, rfl, h⟩ := h
  obtain ⟨b, rfl, h'⟩ := h'
  exact .tup h h' (by show 2 < 1000; decide) (.cons (.flat rfl trivial) (.cons (.flat rfl trivial) .nil))
theorem TyX.keep {K : PySem.W.Frag} {H H' : Hp} {v : V} {t : Value} (k : ∀ a o, v = .ref a → H a = some o → H' a = some o) (h : TyX K H v t) : TyX K H' v t := by
  cases h with
  | base h =>
    cases h with
    | non => exact .base .non
    | bl b => exact .base (.bl b)
    | int i => exact .base (.int i)
    | str z => exact .base (.str z)
    | flt z => exact .base (.flt z)
    | lst e => exact .base (.lst (k _ _ rfl e))
    | frz e => exact .base (.frz (k _ _ rfl e))
    | tup e => exact .base (.tup (k _ _ rfl e))
    | dK e => exact .base (.dK (k _ _ rfl e))
    | dT e => exact .base (.dT (k _ _ rfl e))
    | ins e cl ha hn htk hm => exact .base (.ins (k _ _ rfl e) cl ha hn htk hm)
  | byt b => exact .byt b
  | set e => exact .set (k _ _ rfl e)
  | kList e c => exact .kList e c
  | kTuple e c => exact .kTuple e c
  | kDict e c => exact .kDict e c
  | fTuple e => exact .fTuple (k _ _ rfl e)
  | fDict e => exact .fDict (k _ _ rfl e)
theorem IsW.but {K : PySem.W.Frag} {H H' : Hp} {v : V} {x y : Int} {b : Addr} (h : IsW K H v x y) (B : BagAt K H b) (t : But b H H') : IsW K H' v x y := by
  obtain ⟨a, rfl, h⟩ := h
  obtain ⟨c, ns, i, g, x', n, B⟩ := B
  refine ⟨a, rfl, ?_⟩
  rcases h with (h | ⟨o, h⟩) | h
  · exact .inl (.inl (t _ _ (ne_of h B.ob (by intro z; cases z)) h))
  · exact .inl (.inr ⟨o, t _ _ (ne_of h B.ob (by intro z; cases z)) h⟩)
  · exact .inr h
/-- the same, not unfolded by itself -/
@[irreducible] def spReadI (K : PySem.W.Frag) : Sp := spRead K
theorem spReadI_eq {K : PySem.W.Frag} : spReadI K = spRead K := by unfold spReadI; rfl
def ThingK (K : PySem.W.Frag) (H : Hp) (v : V) : Prop := NoStr K H v ∨ ∃ z : Str, v = .str z ∧ z.length ≤ 5000
theorem ThingK.same {K : PySem.W.Frag} {H H' : Hp} {v : V} (s : Same H H') (h : ThingK K H v) : ThingK K H' v := by
  rcases h with ⟨t, h, e⟩ | h
  · exact .inl ⟨t, My.TyX.keep (fun _ _ _ e => s _ _ e) h, e⟩
  · exact .inr h
theorem reads {K : PySem.W.Frag} {H : Hp} {v : V} (h : ThingK K H v) :
    (∃ x y, ∀ Q E H', Same H H' → (∀ r H'', IsW K H'' r x y → Same H' H'' → Q r H'') → spReadI K [v] H' Q E) ∨ (∀ Q E H', Same H H' → (∀ H'', Same H' H'' → Q .non H'') → spReadI K [v] H' Q E) := by
  rw [spReadI_eq]
  rcases h with ⟨t, h, e⟩ | ⟨z, rfl, hz⟩
  · exact .inr fun Q E H' s q => ⟨v, rfl, .inl ⟨⟨t, My.TyX.keep (fun _ _ _ e => s _ _ e) h, e⟩, q⟩⟩
  · have ez : z = S z.cps.toList := (S_tl z).symm
    have lz : z.cps.toList.length ≤ 5000 := by rw [Array.length_toList]; exact hz
    by_cases hT : ∃ x y, IsT z.cps.toList x y
    · obtain ⟨x, y, T⟩ := hT
      refine .inl ⟨x, y, fun Q E H' s q => ⟨_, rfl, .inr ⟨z.cps.toList, congrArg V.str ez, lz, fun x' y' r H'' T' I s' => ?_, fun h => absurd T (h x y)⟩⟩⟩
      obtain ⟨rfl, rfl⟩ := T.uniq T'
      exact q r H'' I s'
    · exact .inr fun Q E H' s q => ⟨_, rfl, .inr ⟨z.cps.toList, congrArg V.str ez, lz, fun x' y' r H'' T' => absurd ⟨x', y', T'⟩ hT, fun _ => q⟩⟩
theorem reads_wtx {K : PySem.W.Frag} {x y : Int} (G : Good x y) :
    (x.natAbs < 10 ^ 200 ∧ y.natAbs < 10 ^ 200 ∧ ∀ Q E H', (∀ r H'', IsW K H'' r x y → Same H' H'' → Q r H'') → spReadI K [.str (S (wtx x y))] H' Q E) ∨ (¬ (x.natAbs < 10 ^ 200 ∧ y.natAbs < 10 ^ 200) ∧ ∀ Q E H', (∀ H'', Same H' H'' → Q .non H'') → spReadI K [.str (S (wtx x y))] H' Q E) := by
  rw [spReadI_eq]
  have lz : (wtx x y).length ≤ 5000 := Nat.le_trans (wtx_len G.bx G.by') (by decide)
  by_cases h : x.natAbs < 10 ^ 200 ∧ y.natAbs < 10 ^ 200
  · refine .inl ⟨h.1, h.2, fun Q E H' q => ⟨_, rfl, .inr ⟨_, rfl, lz, fun x' y' r H'' T' I s' => ?_, fun hn => absurd ⟨G.pos, G.low, h.1, h.2, rfl⟩ (hn x y)⟩⟩⟩
    obtain ⟨rfl, rfl⟩ := wtx_inj G.pos T'.pos T'.eq
    exact q r H'' I s'
  · refine .inr ⟨h, fun Q E H' q => ⟨_, rfl, .inr ⟨_, rfl, lz, fun x' y' r H'' T' => ?_, fun _ => q⟩⟩⟩
    obtain ⟨rfl, rfl⟩ := wtx_inj G.pos T'.pos T'.eq
    exact absurd ⟨T'.bx, T'.bY⟩ h
theorem len_ntx {y : Int} (h : 0 ≤ y) : (Str.ofString (toString y)).length ≤ 200 ↔ y.natAbs < 10 ^ 200 := by
  have e : y = ((y.natAbs : Nat) : Int) := by omega
  rw [e, num_S, S_len, Int.natAbs_natCast]
  exact num_short
section
variable {P : Program} {w : World} {K : PySem.W.Frag} {mg : Str → Option Value} {base : Heap}
set_option maxHeartbeats 2000000 in
theorem ok_law {f fBa fD fO fLi fMa fBe fWt fRw fRd : Addr} {fd fdBa fdD fdO fdLi fdMa fdBe fdWt fdRw fdRd : FuncData} (F : Fun K "law" "law" sLaw f fd)
    (Ba : Cal P w K mg base "_law_bag" 1 ["script"] (spBag K) fBa fdBa) (D : Cal P w K mg base "_law_draw" 1 ["bag", "size"] (spDraw K) fD fdD) (O : Cal P w K mg base "_law_of" 2 ["bag", "things"] (spOf K) fO fdO) (Li : Cal P w K mg base "_law_like" 3 ["told", "due"] (spLike K 2) fLi fdLi)
    (Ma : Cal P w K mg base "_law_made" 4 ["bag"] (spMade K) fMa fdMa) (Be : Cal P w K mg base "_law_bent" 3 ["bag", "told"] (spBent K) fBe fdBe) (Wt : Cal P w K mg base "worth_text" 2 ["a"] (spWtx K) fWt fdWt) (Rw : Cal P w K mg base "read_worth" 3 ["text"] (spReadI K) fRw fdRw) (Rd : Cal P w K mg base "_law_read" 2 ["thing"] (spReadI K) fRd fdRd)
    (b_range : mg "range" = none) (b_str : mg "str" = none) (b_len : mg "len" = none) (b_abs : mg "abs" = none) :
    FnOk P w K mg base CX0 5 f fd ["script"] (spLaw K) := by
  refine F.ok scLaw (fun vs H Q E h => ?_) (fun cdv A outer s H vs Q E hr h => ?_)
  · obtain ⟨a, ns, rfl, _⟩ := h
    rfl
  · obtain ⟨a, ns, rfl, hS, hl, q⟩ := h
    refine ⟨_, (pss_cons (ps_set (i := 1) scLaw.nd rfl (.inl rfl) (pe_call Ba.ok (hr.mono (by omega)) rfl Ba.g Ba.kp Ba.b .nil pass0 (pa_cons (pv 0) pa_nil)))
      (pss_cons (ps_for PassesOwn.never rfl (pi_range1 rfl b_range (pa_cons pe_int pa_nil)) (pg_name (i := 2) scLaw.nd rfl (.inl rfl))
        (pss_cons (ps_set (i := 3) scLaw.nd rfl (.inl rfl) (pe_call Ma.ok (hr.mono (by omega)) rfl Ma.g Ma.kp Ma.b .nil pass0 (pa_cons (pv 1) pa_nil)))
        (C8.pss_cut (ps_set (i := 4) scLaw.nd rfl (.inl rfl) (pe_ifExp (pt_cmpR op_eq (pe_ix ix_tup (pv 3) pe_int (fun _ _ => rfl)) pe_int (nomark _)) (pe_callTy call_str_int rfl b_str (by decide +kernel) (pa_cons (pe_ix ix_tup (pv 3) pe_int (fun _ _ => rfl)) pa_nil)) (pe_op op_add_str (pe_op op_add_str (pe_callTy call_str_int rfl b_str (by decide +kernel) (pa_cons (pe_ix ix_tup (pv 3) pe_int (fun _ _ => rfl)) pa_nil)) pe_str) (pe_callTy call_str_int rfl b_str (by decide +kernel) (pa_cons (pe_ix ix_tup (pv 3) pe_int (fun _ _ => rfl)) pa_nil)))))
        (pss_cons (ps_set (i := 5) scLaw.nd rfl (.inl rfl) (pe_call Wt.ok (hr.mono (by omega)) rfl Wt.g Wt.kp Wt.b .nil pass0 (pa_cons (pv 3) pa_nil)))
        (pss_cons (ps_if (pt_not (pt_val (pe_call Li.ok (hr.mono (by omega)) rfl Li.g Li.kp Li.b .nil pass0 (pa_cons (pv 5) (pa_cons (pv 4) pa_nil))))) (pss_one (ps_ret pe_bl)) pss_nil)
        (C8.pss_cut (ps_set (i := 6) scLaw.nd rfl (.inl rfl) (pe_ifExp (PW.pt (pw_and (pt_cmpR op_le (pe_callB call_len rfl b_len (by decide +kernel) (pa_cons (pe_callTy call_str_int rfl b_str (by decide +kernel) (pa_cons (pe_callB call_abs rfl b_abs (by decide +kernel) (pa_cons (pe_ix ix_tup (pv 3) pe_int (fun _ _ => rfl)) pa_nil)) pa_nil)) pa_nil)) pe_int (nomark _)) (pw_and1 (pt_cmpR op_le (pe_callB call_len rfl b_len (by decide +kernel) (pa_cons (pe_callTy call_str_int rfl b_str (by decide +kernel) (pa_cons (pe_ix ix_tup (pv 3) pe_int (fun _ _ => rfl)) pa_nil)) pa_nil)) pe_int (nomark _))))) (pv 3) pe_non))
        (pss_cons (ps_if (PW.pt (pw_or (pt_not (pt_val (pe_call Li.ok (hr.mono (by omega)) rfl Li.g Li.kp Li.b .nil pass0 (pa_cons (pe_lst (pa_cons (pe_call Rw.ok (hr.mono (by omega)) rfl Rw.g Rw.kp Rw.b .nil pass0 (pa_cons (pv 5) pa_nil)) (pa_cons (pe_call Rw.ok (hr.mono (by omega)) rfl Rw.g Rw.kp Rw.b .nil pass0 (pa_cons (pv 4) pa_nil)) pa_nil))) (pa_cons (pe_lst (pa_cons (pv 6) (pa_cons (pv 6) pa_nil))) pa_nil))))) (pw_or1 (pt_not (pt_val (pe_call Li.ok (hr.mono (by omega)) rfl Li.g Li.kp Li.b .nil pass0 (pa_cons (pe_call Rd.ok (hr.mono (by omega)) rfl Rd.g Rd.kp Rd.b .nil pass0 (pa_cons (pv 4) pa_nil)) (pa_cons (pv 6) pa_nil)))))))) (pss_one (ps_ret pe_bl)) pss_nil)
        (C8.pss_cut (ps_par (i := 7) (j := 8) rfl scLaw.nd rfl rfl (by decide) rfl rfl (pa_cons (pe_call O.ok (hr.mono (by omega)) rfl O.g O.kp O.b .nil pass0 (pa_cons (pv 1) (pa_cons (pe_lst (pa_cons pe_int (pa_cons pe_int (pa_cons pe_int (pa_cons pe_int (pa_cons pe_int (pa_cons pe_int (pa_cons pe_int pa_nil)))))))) pa_nil))) (pa_cons (pe_call O.ok (hr.mono (by omega)) rfl O.g O.kp O.b .nil pass0 (pa_cons (pv 1) (pa_cons (pe_lst (pa_cons pe_int (pa_cons pe_int (pa_cons pe_int (pa_cons pe_int (pa_cons pe_int (pa_cons pe_int (pa_cons pe_int pa_nil)))))))) pa_nil))) pa_nil)) rfl)
        (pss_cons (ps_set (i := 9) scLaw.nd rfl (.inl rfl) (pe_lst (pa_cons pe_non (pa_cons pe_bl (pa_cons (pv 3) (pa_cons (pe_ix ix_tup (pv 3) pe_int (fun _ _ => rfl)) (pa_cons (pe_lst (pa_cons (pv 4) pa_nil)) (pa_cons pe_str (pa_cons pe_str (pa_cons pe_str (pa_cons pe_str (pa_cons pe_str (pa_cons pe_str (pa_cons pe_str (pa_cons pe_str (pa_cons (pe_op op_add_str (pe_op op_add_str (pe_callTy call_str_int rfl b_str (by decide +kernel) (pa_cons (pv 7) pa_nil)) pe_str) (pe_callTy call_str_int rfl b_str (by decide +kernel) (pa_cons (pv 8) pa_nil))) (pa_cons (pe_tup (pa_cons pe_int (pa_cons pe_int pa_nil))) pa_nil)))))))))))))))))
        (pss_cons (ps_set (i := 10) scLaw.nd rfl (.inl rfl) (pe_lst (pa_cons (pe_call Be.ok (hr.mono (by omega)) rfl Be.g Be.kp Be.b .nil pass0 (pa_cons (pv 1) (pa_cons (pv 4) pa_nil))) (pa_cons (pe_call Be.ok (hr.mono (by omega)) rfl Be.g Be.kp Be.b .nil pass0 (pa_cons (pv 1) (pa_cons (pe_call Be.ok (hr.mono (by omega)) rfl Be.g Be.kp Be.b .nil pass0 (pa_cons (pv 1) (pa_cons (pv 4) pa_nil))) pa_nil))) (pa_cons (pe_call O.ok (hr.mono (by omega)) rfl O.g O.kp O.b .nil pass0 (pa_cons (pv 1) (pa_cons (pv 9) pa_nil))) (pa_cons (pe_op op_add_str (pe_op op_add_str (pe_callTy call_str_int rfl b_str (by decide +kernel) (pa_cons (pv 7) pa_nil)) pe_str) (pe_callTy call_str_int rfl b_str (by decide +kernel) (pa_cons (pv 8) pa_nil))) pa_nil))))))
        (pss_one (ps_for PassesOwn.never rfl (pi_list (pv 10)) (pg_name (i := 11) scLaw.nd rfl (.inl rfl))
          (pss_one (ps_if (pt_not (pt_val (pe_call Li.ok (hr.mono (by omega)) rfl Li.g Li.kp Li.b .nil pass0 (pa_cons (pe_call Rw.ok (hr.mono (by omega)) rfl Rw.g Rw.kp Rw.b .nil pass0 (pa_cons (pv 11) pa_nil)) (pa_cons (pe_call Rd.ok (hr.mono (by omega)) rfl Rd.g Rd.kp Rd.b .nil pass0 (pa_cons (pv 11) pa_nil)) pa_nil))))) (pss_one (ps_ret pe_bl)) pss_nil))))))))))))))
      (pss_one (ps_ret pe_bl)))), ?_⟩
    refine ⟨_, rfl, a, ns, rfl, hS, fun b H1 s1 B1 _ => ?_⟩
    refine ⟨6, rfl, by decide, by decide, for_range (n := 6) (fun i σ H' => ∃ v2 v3 v4 v5 v6 v7 v8 v9 v10 v11, σ = [some (.ref a), some (.ref b), v2, v3, v4, v5, v6, v7, v8, v9, v10, v11] ∧ BagAt K H' b) ⟨_, _, _, _, _, _, _, _, _, _, rfl, B1⟩ ?_ ?_⟩
    · rintro i σ G0 hi ⟨v2, v3, v4, v5, v6, v7, v8, v9, v10, v11, rfl, B0⟩
      refine ⟨_, rfl, b, rfl, B0, fun vx x y G1 gx I1 C1 t1 => ?_⟩
      obtain ⟨ax, rfl, hX⟩ := id I1
      -- due
      refine ⟨fun σ' H' => H' = G1 ∧ ∃ v2 v5 v6 v7 v8 v9 v10 v11, σ' = [some (.ref a), some (.ref b), v2, some (.ref ax), some (.str (S (wtx x y))), v5, v6, v7, v8, v9, v10, v11], ?_, ?_⟩
      · refine ⟨_, rfl, ax, _, 1, _, rfl, rfl, hX, atI_nat (j := 1) rfl, rfl, _, rfl, ite2 (fun c => ?_) (fun c => ?_)⟩
        · have hy : y = 1 := V.int.inj (of_decide_eq_true c)
          refine ⟨_, rfl, ax, _, 0, _, rfl, rfl, hX, atI_nat (j := 0) rfl, x, rfl, log500 gx.bx, ?_⟩
          rw [int_text]
          have e : ntx x = wtx x y := by unfold wtx; rw [if_pos hy]
          rw [e]
          exact ⟨rfl, _, _, _, _, _, _, _, _, rfl⟩
        · have hy : ¬ y = 1 := fun z => c (decide_eq_true (by rw [z]))
          refine ⟨_, rfl, ax, _, 0, _, rfl, rfl, hX, atI_nat (j := 0) rfl, x, rfl, log500 gx.bx, ?_⟩
          rw [int_text]
          have l1 := ntx_len gx.bx
          have l2 := ntx_len gx.by'
          refine ⟨_, _, rfl, rfl, line_of (by rw [S_len]; exact Nat.le_trans (Nat.add_le_add l1 (show _ ≤ 1 by decide +kernel)) (by decide)), _, rfl, ax, _, 1, _, rfl, rfl, hX, atI_nat (j := 1) rfl, y, rfl, log500 gx.by', ?_⟩
          rw [int_text]
          refine ⟨_, _, rfl, rfl, line_of (by rw [Str.length_append, S_len, S_len]; exact Nat.le_trans (Nat.add_le_add (Nat.add_le_add l1 (show _ ≤ 1 by decide +kernel)) l2) (by decide)), ?_⟩
          have e : S (ntx x) ++ Str.ofString "/" ++ S (ntx y) = S (wtx x y) := by
            unfold wtx
            rw [if_neg hy, show Str.ofString "/" = S [47] by decide +kernel, S_cat, S_cat, List.append_assoc]
            rfl
          rw [e]
          exact ⟨rfl, _, _, _, _, _, _, _, _, rfl⟩
      · rintro σ' H' ⟨rfl, v2, v5, v6, v7, v8, v9, v10, v11, rfl⟩
        -- told
        refine ⟨_, rfl, .ref ax, x, y, rfl, I1, gx.bx, gx.by', fun G2 s2 => ?_⟩
        refine ⟨_, rfl, _, rfl, _, _, rfl, .flat rfl trivial, fun G3 s3 => ⟨_, rfl, iteF ?_⟩⟩
        have s23 := s2.trans s3
        have C3 := C1.same s23
        have I3 := I1.same s23
        have hX3 : SqT K G3 ax [.int x, .int y] := seqT_same s23 hX
        -- back
        refine ⟨fun σ' H' => H' = G3 ∧ ∃ v2 vb v7 v8 v9 v10 v11, σ' = [some (.ref a), some (.ref b), v2, some (.ref ax), some (.str (S (wtx x y))), some (.str (S (wtx x y))), some vb, v7, v8, v9, v10, v11] ∧ ((x.natAbs < 10 ^ 200 ∧ y.natAbs < 10 ^ 200 ∧ vb = .ref ax) ∨ (¬ (x.natAbs < 10 ^ 200 ∧ y.natAbs < 10 ^ 200) ∧ vb = .non)), ?_, ?_⟩
        · have lx : (Str.ofString (toString ((x.natAbs : Nat) : Int))).length ≤ 10000 := by
            rw [num_S, S_len]
            exact Nat.le_trans (TL.numL_len (by decide) gx.bx) (by decide)
          have ly : (Str.ofString (toString y)).length ≤ 10000 := by
            rw [int_text, S_len]
            exact Nat.le_trans (ntx_len gx.by') (by decide)
          have ex := len_ntx (y := ((x.natAbs : Nat) : Int)) (Int.natCast_nonneg _)
          rw [Int.natAbs_natCast] at ex
          have ey := len_ntx (y := y) (by have := gx.pos; omega)
          refine ⟨_, rfl, ax, _, 0, _, rfl, rfl, hX3, atI_nat (j := 0) rfl, _, rfl, ?_⟩
          rw [abs_if]
          refine ⟨_, rfl, log500 gx.bx, _, _, rfl, ⟨line_of lx, rfl⟩, _, _, rfl, rfl, _, rfl, ite2 (fun c => ?_) (fun c => ?_)⟩
          · have c1 : (((Str.ofString (toString ((x.natAbs : Nat) : Int))).length : Nat) : Int) ≤ 200 := of_decide_eq_true c
            refine ⟨_, rfl, ax, _, 1, _, rfl, rfl, hX3, atI_nat (j := 1) rfl, _, rfl, log500 gx.by', _, _, rfl, ⟨line_of ly, rfl⟩, _, _, rfl, rfl, _, rfl, ite2 (fun c2 => ?_) (fun c2 => ?_)⟩
            · have c3 : (((Str.ofString (toString y)).length : Nat) : Int) ≤ 200 := of_decide_eq_true c2
              exact ⟨_, rfl, rfl, _, _, _, _, _, _, _, rfl, .inl ⟨ex.mp (by omega), ey.mp (by omega), rfl⟩⟩
            · have c3 : ¬ (((Str.ofString (toString y)).length : Nat) : Int) ≤ 200 := fun z => c2 (decide_eq_true z)
              exact ⟨rfl, _, _, _, _, _, _, _, rfl, .inr ⟨fun z => c3 (by have := ey.mpr z.2; omega), rfl⟩⟩
          · have c1 : ¬ (((Str.ofString (toString ((x.natAbs : Nat) : Int))).length : Nat) : Int) ≤ 200 := fun z => c (decide_eq_true z)
            exact ⟨rfl, _, _, _, _, _, _, _, rfl, .inr ⟨fun z => c1 (by have := ex.mpr z.1; omega), rfl⟩⟩
        · rintro σ' H' ⟨rfl, v2, vb, v7, v8, v9, v10, v11, rfl, hb⟩
          -- the readings of both texts
          have rd : ∃ Rel : Hp → V → Prop, (∀ H H' r, Same H H' → Rel H r → Rel H' r) ∧ (∀ H r n, Same H' H → Rel H r → Lk K H (n + 1) r vb) ∧ (∀ (Q : VK) (E : XK) H, (∀ r H'', Rel H'' r → Same H H'' → Q r H'') → spReadI K [.str (S (wtx x y))] H Q E) := by
            rcases hb with ⟨b1, b2, rfl⟩ | ⟨nb, rfl⟩
            · rcases reads_wtx (K := K) gx with ⟨_, _, hq⟩ | ⟨no, _⟩
              · exact ⟨fun H r => IsW K H r x y, fun _ _ _ s h => h.same s, fun H r n s h => .worth h (I3.same s) ⟨rfl, rfl⟩, fun Q E H q => hq Q E H q⟩
              · exact absurd ⟨b1, b2⟩ no
            · rcases reads_wtx (K := K) gx with ⟨b1, b2, _⟩ | ⟨_, hq⟩
              · exact absurd ⟨b1, b2⟩ nb
              · exact ⟨fun H r => r = .non, fun _ _ _ s h => h, fun H r n s h => .flat h (by rw [h]; trivial), fun Q E H q => hq Q E H fun H'' s => q _ _ rfl s⟩
          obtain ⟨Rel, mono, lk, rq⟩ := rd
          refine ⟨_, rfl, ?_⟩
          refine rq _ _ _ ?_
          intro r1 G4 R1 s4
          refine ⟨_, rfl, ?_⟩
          refine rq _ _ _ ?_
          intro r2 G5 R2 s5
          refine ⟨(by show 2 ≤ sizeLine; decide), fun p1 np1 => ?_⟩
          refine ⟨_, rfl, _, rfl, (by show 2 ≤ sizeLine; decide), fun p2 np2 => ?_⟩
          have z1 := same_upd (o := .lst [r1, r2]) np1
          have z2 := same_upd (o := .lst [vb, vb]) np2
          have s5' := (s4.trans s5).trans (z1.trans z2)
          refine ⟨.ref p1, .ref p2, rfl, .lst (z2.seq (SqL.of upd_same)) (SqL.of upd_same) (by show 2 < 1000; decide) (.cons (lk _ _ _ s5' (mono _ _ _ (s5.trans (z1.trans z2)) R1)) (.cons (lk _ _ _ s5' (mono _ _ _ (z1.trans z2) R2)) .nil)), fun G6 s6 => ⟨_, rfl, iteF ?_⟩⟩
          refine ⟨_, rfl, ?_⟩
          refine rq _ _ _ ?_
          intro r3 G7 R3 s7
          refine ⟨_, rfl, r3, vb, rfl, ?_, fun G8 s8 => ⟨_, rfl, iteF ?_⟩⟩
          · exact lk _ _ _ ((s5'.trans s6).trans s7) R3
          have u8 := ((s5'.trans s6).trans s7).trans s8
          have C8' := C3.same u8
          have hX8 := seqT_same u8 hX3
          clear rq lk mono R1 R2 R3
          -- n, d
          refine ⟨fun σ' H' => BagAt K H' b ∧ SqT K H' ax [.int x, .int y] ∧ ∃ (n d : Int) (v2 vb v9 v10 v11 : Option V), σ' = [some (.ref a), some (.ref b), v2, some (.ref ax), some (.str (S (wtx x y))), some (.str (S (wtx x y))), vb, some (.int n), some (.int d), v9, v10, v11] ∧ n.natAbs < 10 ^ 500 ∧ d.natAbs < 10 ^ 500, ?_, ?_⟩
          · refine ⟨_, rfl, (by show 7 ≤ sizeLine; decide), fun p np => ?_⟩
            refine ⟨b, p, _, rfl, C8'.same (same_upd np), bag_ne C8' np, SqL.of upd_same, (by show 0 < 7; decide), (by show 7 < 1000; decide), fun v H9 hv B9 t9 => ?_⟩
            obtain ⟨n, rfl, hn⟩ : ∃ n : Int, v = .int n ∧ n.natAbs < 10 ^ 500 := by
              simp only [List.append_nil, List.mem_cons, List.not_mem_nil, or_false] at hv
              rcases hv with rfl | rfl | rfl | rfl | rfl | rfl | rfl <;> exact ⟨_, rfl, by decide +kernel⟩
            refine ⟨_, rfl, (by show 7 ≤ sizeLine; decide), fun p' np' => ?_⟩
            refine ⟨b, p', _, rfl, B9.same (same_upd np'), bag_ne B9 np', SqL.of upd_same, (by show 0 < 7; decide), (by show 7 < 1000; decide), fun v' H10 hv' B10 t10 => ?_⟩
            obtain ⟨d, rfl, hd⟩ : ∃ n : Int, v' = .int n ∧ n.natAbs < 10 ^ 500 := by
              simp only [List.append_nil, List.mem_cons, List.not_mem_nil, or_false] at hv'
              rcases hv' with rfl | rfl | rfl | rfl | rfl | rfl | rfl <;> exact ⟨_, rfl, by decide +kernel⟩
            refine ⟨_, _, rfl, B10, ?_, n, d, _, _, _, _, _, rfl, hn, hd⟩
            have w0 : IsW K G8 (.ref ax) x y := ⟨ax, rfl, hX8⟩
            have w2 := IsW.but (w0.same (same_upd np)) (C8'.same (same_upd np)) t9
            have w := IsW.but (w2.same (same_upd np')) (B9.same (same_upd np')) t10
            obtain ⟨a', e, h⟩ := w
            cases e
            exact h
          · rintro σ' G9 ⟨B9, hX9, n, d, v2, vb, v9, v10, v11, rfl, hn, hd⟩
            have ln := ntx_len hn
            have ld := ntx_len hd
            have lw := wtx_len gx.bx gx.by'
            have ln' : (Str.ofString (toString n)).length ≤ 501 := by rw [int_text, S_len]; exact ln
            have ld' : (Str.ofString (toString d)).length ≤ 501 := by rw [int_text, S_len]; exact ld
            have ls : (Str.ofString "/").length ≤ 1 := by decide +kernel
            have f1 : (Str.ofString (toString n)).length + (Str.ofString "/").length ≤ sizeLine := line_of (Nat.le_trans (Nat.add_le_add ln' ls) (by decide))
            have f0 : (Str.ofString (toString n) ++ Str.ofString "/").length ≤ 502 := by rw [Str.length_append]; exact Nat.le_trans (Nat.add_le_add ln' ls) (by decide)
            have f2 : (Str.ofString (toString n) ++ Str.ofString "/").length + (Str.ofString (toString d)).length ≤ sizeLine := line_of (Nat.le_trans (Nat.add_le_add f0 ld') (by decide))
            have fw : (S (wtx x y)).length ≤ 1003 := by rw [S_len]; exact lw
            -- odd
            refine ⟨_, rfl, _, rfl, ax, _, 0, _, rfl, rfl, hX9, atI_nat (j := 0) rfl, _, rfl, (by show 1 ≤ sizeLine; decide), fun p1 np1 => ⟨_, rfl, n, rfl, log500 hn, _, _, rfl, rfl, f1, _, rfl, d, rfl, log500 hd, _, _, rfl, rfl, f2, (by show 2 ≤ sizeLine; decide), fun p2 np2 => ⟨(by show 15 ≤ sizeLine; decide), fun p3 np3 => ?_⟩⟩⟩
            have z1 := same_upd (o := .lst [.str (S (wtx x y))]) np1
            have z2 := same_upd (o := .tup [.int 1, .int 1]) np2
            have z3 := same_upd (o := .lst [.non, .bl true, .ref ax, .int x, .ref p1, .str "", .str "-", .str "/", .str "-0", .str "0", .str "0/1", .str "1/-2", .str "--1", .str (Str.ofString (toString n) ++ Str.ofString "/" ++ Str.ofString (toString d)), .ref p2]) np3
            have B10 := ((B9.same z1).same z2).same z3
            have b1 : p1 ≠ b := bag_ne B9 np1
            have b2 : p2 ≠ b := bag_ne (B9.same z1) np2
            have b3 : p3 ≠ b := bag_ne ((B9.same z1).same z2) np3
            have h1 : SqL K _ p1 [.str (S (wtx x y))] := (z2.trans z3).seq (SqL.of upd_same)
            have h2 : SqT K _ p2 [.int 1, .int 1] := seqT_same z3 (SqT.of upd_same)
            have wX : IsW K _ (.ref ax) x y := (⟨ax, rfl, seqT_same ((z1.trans z2).trans z3) hX9⟩ : ∃ a, V.ref ax = .ref a ∧ SqT K _ a [.int x, .int y])
            -- things
            refine ⟨_, rfl, _, rfl, b, _, rfl, B10, Nat.le_trans fw (by decide), fun y1 G10 hy1 B11 t1' => ?_⟩
            refine ⟨_, rfl, _, rfl, _, rfl, b, _, rfl, B11, Nat.le_trans fw (by decide), fun y2 G11 hy2 B12 t2' => ?_⟩
            refine ⟨b, _, rfl, B12, by omega, fun y3 G12 hy3 B13 t3' => ?_⟩
            have tt := (t1'.trans t2').trans t3'
            refine ⟨_, rfl, _, rfl, b, p3, _, rfl, B13, b3, tt.seq b3 (SqL.of upd_same), (by show 0 < 15; decide), (by show 15 < 1000; decide), fun vo G13 hvo B14 t4' => ?_⟩
            have t5' := tt.trans t4'
            have h1' := t5'.seq b1 h1
            have h2' := t5'.seqT b2 h2
            have wX' := wX.but B10 t5'
            refine ⟨_, rfl, n, rfl, log500 hn, _, _, rfl, rfl, f1, _, rfl, d, rfl, log500 hd, _, _, rfl, rfl, f2, (by show 4 ≤ sizeLine; decide), fun p4 np4 => ?_⟩
            have z4 := same_upd (o := .lst [.str y1, .str y3, vo, .str (Str.ofString (toString n) ++ Str.ofString "/" ++ Str.ofString (toString d))]) np4
            have TH : ∀ v ∈ [V.str y1, .str y3, vo, .str (Str.ofString (toString n) ++ Str.ofString "/" ++ Str.ofString (toString d))], ThingK K G13 v := by
              have f3 : (Str.ofString (toString n) ++ Str.ofString "/" ++ Str.ofString (toString d)).length ≤ 5000 := by
                rw [Str.length_append]; exact Nat.le_trans (Nat.add_le_add f0 ld') (by decide)
              intro v hv
              simp only [List.mem_cons, List.not_mem_nil, or_false] at hv
              rcases hv with rfl | rfl | rfl | rfl
              · exact .inr ⟨_, rfl, by omega⟩
              · exact .inr ⟨_, rfl, by omega⟩
              · simp only [List.append_nil, List.mem_cons, List.not_mem_nil, or_false] at hvo
                have st : ∀ z : Str, z.length ≤ 5000 → ThingK K G13 (.str z) := fun z h => .inr ⟨z, rfl, h⟩
                rcases hvo with rfl | rfl | rfl | rfl | rfl | rfl | rfl | rfl | rfl | rfl | rfl | rfl | rfl | rfl | rfl
                · exact .inl ⟨_, .base .non, rfl⟩
                · exact .inl ⟨_, .base (.bl true), rfl⟩
                · obtain ⟨a', e, h⟩ := wX'
                  rw [e]
                  exact .inl ⟨_, ty_tup h, rfl⟩
                · exact .inl ⟨_, .base (.int x), rfl⟩
                · exact .inl ⟨_, ty_list h1', rfl⟩
                · exact st _ (by decide +kernel)
                · exact st _ (by decide +kernel)
                · exact st _ (by decide +kernel)
                · exact st _ (by decide +kernel)
                · exact st _ (by decide +kernel)
                · exact st _ (by decide +kernel)
                · exact st _ (by decide +kernel)
                · exact st _ (by decide +kernel)
                · exact st _ f3
                · exact .inl ⟨_, ty_tup h2', rfl⟩
              · exact .inr ⟨_, rfl, f3⟩
            refine ⟨_, rfl, p4, rfl, ⟨_, SqL.of upd_same⟩, for_list (K := K) (a := p4) (xs := [.str y1, .str y3, vo, .str (Str.ofString (toString n) ++ Str.ofString "/" ++ Str.ofString (toString d))]) (fun i σ H' => ∃ v2 v3 v4 v5 v6 v7 v8 v9 v11, σ = [some (.ref a), some (.ref b), v2, v3, v4, v5, v6, v7, v8, v9, some (.ref p4), v11] ∧ Same (upd G13 p4 (.lst [.str y1, .str y3, vo, .str (Str.ofString (toString n) ++ Str.ofString "/" ++ Str.ofString (toString d))])) H')
              ⟨_, _, _, _, _, _, _, _, _, rfl, Same.refl _⟩ (fun i σ H2 _ ⟨_, _, _, _, _, _, _, _, _, _, s⟩ => s.seq (SqL.of upd_same)) ?_ ?_⟩
            · rintro i v σ H' hi ⟨v2, v3, v4, v5, v6, v7, v8, v9, v11, rfl, s⟩
              have T := ((TH v (List.mem_of_getElem? hi)).same z4).same s
              rcases reads T with ⟨x', y', hq⟩ | hq
              · refine ⟨_, rfl, ?_⟩
                refine hq _ _ _ (Same.refl _) ?_
                intro r1 K1 I1 s1
                refine ⟨_, rfl, ?_⟩
                refine hq _ _ _ s1 ?_
                intro r2 K2 I2 s2
                refine ⟨r1, r2, rfl, .worth (I1.same s2) I2 ⟨rfl, rfl⟩, fun K3 s3 => ⟨_, rfl, iteF ?_⟩⟩
                exact ⟨_, _, _, _, _, _, _, _, _, rfl, ((s.trans s1).trans s2).trans s3⟩
              · refine ⟨_, rfl, ?_⟩
                refine hq _ _ _ (Same.refl _) ?_
                intro K1 s1
                refine ⟨_, rfl, ?_⟩
                refine hq _ _ _ s1 ?_
                intro K2 s2
                refine ⟨.non, .non, rfl, .flat rfl trivial, fun K3 s3 => ⟨_, rfl, iteF ?_⟩⟩
                exact ⟨_, _, _, _, _, _, _, _, _, rfl, ((s.trans s1).trans s2).trans s3⟩
            · rintro σ H' ⟨v2, v3, v4, v5, v6, v7, v8, v9, v11, rfl, s⟩
              exact ⟨_, _, _, _, _, _, _, _, _, _, rfl, (B14.same z4).same s⟩
    · rintro σ G0 ⟨v2, v3, v4, v5, v6, v7, v8, v9, v10, v11, rfl, B0⟩
      exact q _
end
end My

set_option Elab.async false
set_option linter.all false
set_option maxRecDepth 100000
namespace My
open PySem PySem.Spec PyProof.Rows L2
theorem all_mk {l : PySem.W.OpenLaw} {w : World} {K : PySem.W.Frag} {h : Heap} {mg : Str → Option Value} {fa : Addr} (X : K.In h) (G : h.Ns mainGlobals mg) (hfa : mg "law" = some (.ref fa))
    {f0 : Addr} {od0 an0 : Option Addr} {sl0 : Array (Option Value)} {oc0 kV0 dc0 pm0 cd0 ct0 : Value}
    {f1 : Addr} {od1 an1 : Option Addr} {sl1 : Array (Option Value)} {oc1 kV1 dc1 pm1 cd1 ct1 : Value}
    {f2 : Addr} {od2 an2 : Option Addr} {sl2 : Array (Option Value)} {oc2 kV2 dc2 pm2 cd2 ct2 : Value}
    {f3 : Addr} {od3 an3 : Option Addr} {sl3 : Array (Option Value)} {oc3 kV3 dc3 pm3 cd3 ct3 : Value}
    {f4 : Addr} {od4 an4 : Option Addr} {sl4 : Array (Option Value)} {oc4 kV4 dc4 pm4 cd4 ct4 : Value}
    {f5 : Addr} {od5 an5 : Option Addr} {sl5 : Array (Option Value)} {oc5 kV5 dc5 pm5 cd5 ct5 : Value}
    {f6 : Addr} {od6 an6 : Option Addr} {sl6 : Array (Option Value)} {oc6 kV6 dc6 pm6 cd6 ct6 : Value}
    {f7 : Addr} {od7 an7 : Option Addr} {sl7 : Array (Option Value)} {oc7 kV7 dc7 pm7 cd7 ct7 : Value}
    {f8 : Addr} {od8 an8 : Option Addr} {sl8 : Array (Option Value)} {oc8 kV8 dc8 pm8 cd8 ct8 : Value}
    {f9 : Addr} {od9 an9 : Option Addr} {sl9 : Array (Option Value)} {oc9 kV9 dc9 pm9 cd9 ct9 : Value}
    {f10 : Addr} {od10 an10 : Option Addr} {sl10 : Array (Option Value)} {oc10 kV10 dc10 pm10 cd10 ct10 : Value}
    {f11 : Addr} {od11 an11 : Option Addr} {sl11 : Array (Option Value)} {oc11 kV11 dc11 pm11 cd11 ct11 : Value}
    {f12 : Addr} {od12 an12 : Option Addr} {sl12 : Array (Option Value)} {oc12 kV12 dc12 pm12 cd12 ct12 : Value}
    {f13 : Addr} {od13 an13 : Option Addr} {sl13 : Array (Option Value)} {oc13 kV13 dc13 pm13 cd13 ct13 : Value}
    {f14 : Addr} {od14 an14 : Option Addr} {sl14 : Array (Option Value)} {oc14 kV14 dc14 pm14 cd14 ct14 : Value}
    {f15 : Addr} {od15 an15 : Option Addr} {sl15 : Array (Option Value)} {oc15 kV15 dc15 pm15 cd15 ct15 : Value}
    {Lv : Int} {tkL tz0 tz1 tt tkF : Tok} {aZ aT : Addr} {odZ odT : Option Addr} {nZ nT : Nat} {slZ slT : Array (Option Value)} {ocT : Value}
    (a0 : PySem.W.nsIn K mainGlobals "is_figures" = some (some (.ref f0)))
    (l0 : K.lookup f0 = some ⟨oc0, od0, .func (PySem.W.fnOf "is_figures" "is_figures" (defArgs sIsFigures) (defBody sIsFigures) (defScope sIsFigures) .none kV0 dc0 pm0 an0 cd0 ct0), sl0⟩) (c0 : PySem.W.codeIn K cd0 "is_figures" = true) (k0 : PySem.W.keepIn K (.ref f0) = true)
    (a1 : PySem.W.nsIn K mainGlobals "worth" = some (some (.ref f1)))
    (l1 : K.lookup f1 = some ⟨oc1, od1, .func (PySem.W.fnOf "worth" "worth" (defArgs sWorth) (defBody sWorth) (defScope sWorth) (.ref aT) kV1 dc1 pm1 an1 cd1 ct1), sl1⟩) (c1 : PySem.W.codeIn K cd1 "worth" = true) (k1 : PySem.W.keepIn K (.ref f1) = true)
    (a2 : PySem.W.nsIn K mainGlobals "number_text" = some (some (.ref f2)))
    (l2 : K.lookup f2 = some ⟨oc2, od2, .func (PySem.W.fnOf "number_text" "number_text" (defArgs sNumberText) (defBody sNumberText) (defScope sNumberText) .none kV2 dc2 pm2 an2 cd2 ct2), sl2⟩) (c2 : PySem.W.codeIn K cd2 "number_text" = true) (k2 : PySem.W.keepIn K (.ref f2) = true)
    (a3 : PySem.W.nsIn K mainGlobals "worth_text" = some (some (.ref f3)))
    (l3 : K.lookup f3 = some ⟨oc3, od3, .func (PySem.W.fnOf "worth_text" "worth_text" (defArgs sWorthText) (defBody sWorthText) (defScope sWorthText) .none kV3 dc3 pm3 an3 cd3 ct3), sl3⟩) (c3 : PySem.W.codeIn K cd3 "worth_text" = true) (k3 : PySem.W.keepIn K (.ref f3) = true)
    (a4 : PySem.W.nsIn K mainGlobals "is_short_number" = some (some (.ref f4)))
    (l4 : K.lookup f4 = some ⟨oc4, od4, .func (PySem.W.fnOf "is_short_number" "is_short_number" (defArgs sIsShortNumber) (defBody sIsShortNumber) (defScope sIsShortNumber) .none kV4 dc4 pm4 an4 cd4 ct4), sl4⟩) (c4 : PySem.W.codeIn K cd4 "is_short_number" = true) (k4 : PySem.W.keepIn K (.ref f4) = true)
    (a5 : PySem.W.nsIn K mainGlobals "read_worth" = some (some (.ref f5)))
    (l5 : K.lookup f5 = some ⟨oc5, od5, .func (PySem.W.fnOf "read_worth" "read_worth" (defArgs sReadWorth) (defBody sReadWorth) (defScope sReadWorth) .none kV5 dc5 pm5 an5 cd5 ct5), sl5⟩) (c5 : PySem.W.codeIn K cd5 "read_worth" = true) (k5 : PySem.W.keepIn K (.ref f5) = true)
    (a6 : PySem.W.nsIn K mainGlobals "_law_bag" = some (some (.ref f6)))
    (l6 : K.lookup f6 = some ⟨oc6, od6, .func (PySem.W.fnOf "_law_bag" "_law_bag" (defArgs sLawBag) (defBody sLawBag) (defScope sLawBag) .none kV6 dc6 pm6 an6 cd6 ct6), sl6⟩) (c6 : PySem.W.codeIn K cd6 "_law_bag" = true) (k6 : PySem.W.keepIn K (.ref f6) = true)
    (a7 : PySem.W.nsIn K mainGlobals "_law_draw" = some (some (.ref f7)))
    (l7 : K.lookup f7 = some ⟨oc7, od7, .func (PySem.W.fnOf "_law_draw" "_law_draw" (defArgs sLawDraw) (defBody sLawDraw) (defScope sLawDraw) .none kV7 dc7 pm7 an7 cd7 ct7), sl7⟩) (c7 : PySem.W.codeIn K cd7 "_law_draw" = true) (k7 : PySem.W.keepIn K (.ref f7) = true)
    (a8 : PySem.W.nsIn K mainGlobals "_law_of" = some (some (.ref f8)))
    (l8 : K.lookup f8 = some ⟨oc8, od8, .func (PySem.W.fnOf "_law_of" "_law_of" (defArgs sLawOf) (defBody sLawOf) (defScope sLawOf) .none kV8 dc8 pm8 an8 cd8 ct8), sl8⟩) (c8 : PySem.W.codeIn K cd8 "_law_of" = true) (k8 : PySem.W.keepIn K (.ref f8) = true)
    (a9 : PySem.W.nsIn K mainGlobals "_law_like" = some (some (.ref f9)))
    (l9 : K.lookup f9 = some ⟨oc9, od9, .func (PySem.W.fnOf "_law_like" "_law_like" (defArgs sLawLike) (defBody sLawLike) (defScope sLawLike) .none kV9 dc9 pm9 an9 cd9 ct9), sl9⟩) (c9 : PySem.W.codeIn K cd9 "_law_like" = true) (k9 : PySem.W.keepIn K (.ref f9) = true)
    (a10 : PySem.W.nsIn K mainGlobals "_law_gcd" = some (some (.ref f10)))
    (l10 : K.lookup f10 = some ⟨oc10, od10, .func (PySem.W.fnOf "_law_gcd" "_law_gcd" (defArgs sLawGcd) (defBody sLawGcd) (defScope sLawGcd) .none kV10 dc10 pm10 an10 cd10 ct10), sl10⟩) (c10 : PySem.W.codeIn K cd10 "_law_gcd" = true) (k10 : PySem.W.keepIn K (.ref f10) = true)
    (a11 : PySem.W.nsIn K mainGlobals "_law_amount" = some (some (.ref f11)))
    (l11 : K.lookup f11 = some ⟨oc11, od11, .func (PySem.W.fnOf "_law_amount" "_law_amount" (defArgs sLawAmount) (defBody sLawAmount) (defScope sLawAmount) .none kV11 dc11 pm11 an11 cd11 ct11), sl11⟩) (c11 : PySem.W.codeIn K cd11 "_law_amount" = true) (k11 : PySem.W.keepIn K (.ref f11) = true)
    (a12 : PySem.W.nsIn K mainGlobals "_law_made" = some (some (.ref f12)))
    (l12 : K.lookup f12 = some ⟨oc12, od12, .func (PySem.W.fnOf "_law_made" "_law_made" (defArgs sLawMade) (defBody sLawMade) (defScope sLawMade) .none kV12 dc12 pm12 an12 cd12 ct12), sl12⟩) (c12 : PySem.W.codeIn K cd12 "_law_made" = true) (k12 : PySem.W.keepIn K (.ref f12) = true)
    (a13 : PySem.W.nsIn K mainGlobals "_law_read" = some (some (.ref f13)))
    (l13 : K.lookup f13 = some ⟨oc13, od13, .func (PySem.W.fnOf "_law_read" "_law_read" (defArgs sLawRead) (defBody sLawRead) (defScope sLawRead) .none kV13 dc13 pm13 an13 cd13 ct13), sl13⟩) (c13 : PySem.W.codeIn K cd13 "_law_read" = true) (k13 : PySem.W.keepIn K (.ref f13) = true)
    (a14 : PySem.W.nsIn K mainGlobals "_law_bent" = some (some (.ref f14)))
    (l14 : K.lookup f14 = some ⟨oc14, od14, .func (PySem.W.fnOf "_law_bent" "_law_bent" (defArgs sLawBent) (defBody sLawBent) (defScope sLawBent) .none kV14 dc14 pm14 an14 cd14 ct14), sl14⟩) (c14 : PySem.W.codeIn K cd14 "_law_bent" = true) (k14 : PySem.W.keepIn K (.ref f14) = true)
    (a15 : PySem.W.nsIn K mainGlobals "law" = some (some (.ref f15)))
    (l15 : K.lookup f15 = some ⟨oc15, od15, .func (PySem.W.fnOf "law" "law" (defArgs sLaw) (defBody sLaw) (defScope sLaw) .none kV15 dc15 pm15 an15 cd15 ct15), sl15⟩) (c15 : PySem.W.codeIn K cd15 "law" = true) (k15 : PySem.W.keepIn K (.ref f15) = true)
    (b_int : PySem.W.nsIn K mainGlobals "int" = some none)
    (b_list : PySem.W.nsIn K mainGlobals "list" = some none)
    (b_len : PySem.W.nsIn K mainGlobals "len" = some none)
    (b_isinstance : PySem.W.nsIn K mainGlobals "isinstance" = some none)
    (b_tuple : PySem.W.nsIn K mainGlobals "tuple" = some none)
    (b_bool : PySem.W.nsIn K mainGlobals "bool" = some none)
    (b_str : PySem.W.nsIn K mainGlobals "str" = some none)
    (b_all : PySem.W.nsIn K mainGlobals "all" = some none)
    (b_zip : PySem.W.nsIn K mainGlobals "zip" = some none)
    (b_abs : PySem.W.nsIn K mainGlobals "abs" = some none)
    (b_range : PySem.W.nsIn K mainGlobals "range" = some none)
    (gG : PySem.W.nsIn K mainGlobals "gcd" = some (some (.builtin "math.gcd")))
    (gL : PySem.W.nsIn K mainGlobals "LIMIT" = some (some (.int Lv tkL))) (eL : Lv = LIM)
    (gF : PySem.W.nsIn K mainGlobals "LIMIT_FIGURES" = some (some (.int 200 tkF)))
    (gZ : PySem.W.nsIn K mainGlobals "ZERO" = some (some (.ref aZ))) (lZ : K.lookup aZ = some ⟨.type "tuple", odZ, .seq #[.int 0 tz0, .int 1 tz1] nZ, slZ⟩)
    (lT : K.lookup aT = some ⟨ocT, odT, .seq #[.int 1 tt] nT, slT⟩) :
    ∃ fd : FuncData, (∀ (s : Shared) (v : Value), BindsTo s fd ⟨[v], []⟩ [("script", v)]) ∧ ∀ base : Heap, K.In base → base.Ns mainGlobals mg → FnOk l.prog w K mg base CX0 5 fa fd ["script"] (spLaw K) := by
  have e := hfa.symm.trans (PySem.W.mg_of X G a15)
  cases e
  have F0 := fun_mk (st := sIsFigures) l0 c0 k0
  have B0 := F0.binds (ps := ["text"]) fun _ _ _ _ _ _ us hl => match us, hl with | [_], _ => rfl
  have F2 := fun_mk (st := sNumberText) l2 c2 k2
  have B2 := F2.binds (ps := ["number"]) fun _ _ _ _ _ _ us hl => match us, hl with | [_], _ => rfl
  have F3 := fun_mk (st := sWorthText) l3 c3 k3
  have B3 := F3.binds (ps := ["a"]) fun _ _ _ _ _ _ us hl => match us, hl with | [_], _ => rfl
  have F4 := fun_mk (st := sIsShortNumber) l4 c4 k4
  have B4 := F4.binds (ps := ["text"]) fun _ _ _ _ _ _ us hl => match us, hl with | [_], _ => rfl
  have F5 := fun_mk (st := sReadWorth) l5 c5 k5
  have B5 := F5.binds (ps := ["text"]) fun _ _ _ _ _ _ us hl => match us, hl with | [_], _ => rfl
  have F6 := fun_mk (st := sLawBag) l6 c6 k6
  have B6 := F6.binds (ps := ["script"]) fun _ _ _ _ _ _ us hl => match us, hl with | [_], _ => rfl
  have F7 := fun_mk (st := sLawDraw) l7 c7 k7
  have B7 := F7.binds (ps := ["bag", "size"]) fun _ _ _ _ _ _ us hl => match us, hl with | [_, _], _ => rfl
  have F8 := fun_mk (st := sLawOf) l8 c8 k8
  have B8 := F8.binds (ps := ["bag", "things"]) fun _ _ _ _ _ _ us hl => match us, hl with | [_, _], _ => rfl
  have F9 := fun_mk (st := sLawLike) l9 c9 k9
  have B9 := F9.binds (ps := ["told", "due"]) fun _ _ _ _ _ _ us hl => match us, hl with | [_, _], _ => rfl
  have F10 := fun_mk (st := sLawGcd) l10 c10 k10
  have B10 := F10.binds (ps := ["x", "y"]) fun _ _ _ _ _ _ us hl => match us, hl with | [_, _], _ => rfl
  have F11 := fun_mk (st := sLawAmount) l11 c11 k11
  have B11 := F11.binds (ps := ["bag"]) fun _ _ _ _ _ _ us hl => match us, hl with | [_], _ => rfl
  have F12 := fun_mk (st := sLawMade) l12 c12 k12
  have B12 := F12.binds (ps := ["bag"]) fun _ _ _ _ _ _ us hl => match us, hl with | [_], _ => rfl
  have F13 := fun_mk (st := sLawRead) l13 c13 k13
  have B13 := F13.binds (ps := ["thing"]) fun _ _ _ _ _ _ us hl => match us, hl with | [_], _ => rfl
  have F14 := fun_mk (st := sLawBent) l14 c14 k14
  have B14 := F14.binds (ps := ["bag", "told"]) fun _ _ _ _ _ _ us hl => match us, hl with | [_, _], _ => rfl
  have F15 := fun_mk (st := sLaw) l15 c15 k15
  have B15 := F15.binds (ps := ["script"]) fun _ _ _ _ _ _ us hl => match us, hl with | [_], _ => rfl
  have m_int := PySem.W.mg_none_of X G b_int
  have m_list := PySem.W.mg_none_of X G b_list
  have m_len := PySem.W.mg_none_of X G b_len
  have m_isinstance := PySem.W.mg_none_of X G b_isinstance
  have m_tuple := PySem.W.mg_none_of X G b_tuple
  have m_bool := PySem.W.mg_none_of X G b_bool
  have m_str := PySem.W.mg_none_of X G b_str
  have m_all := PySem.W.mg_none_of X G b_all
  have m_zip := PySem.W.mg_none_of X G b_zip
  have m_abs := PySem.W.mg_none_of X G b_abs
  have m_range := PySem.W.mg_none_of X G b_range
  have F1 : FunW K f1 _ := ⟨⟨_, _, _, _, _, _, _, _, _, _, rfl, l1, c1, .inr ⟨by simp, aT, _, [.int 1 tt], nT, rfl, lT, rfl, .cons ⟨_, rfl⟩ .nil⟩, .inl rfl⟩, k1⟩
  refine ⟨PySem.W.fnOf "law" "law" (defArgs sLaw) (defBody sLaw) (defScope sLaw) .none kV15 dc15 pm15 an15 cd15 ct15, fun s v => .of_eq rfl, fun base _ _ => ?_⟩
  subst eL
  have hZ : ∀ H, SqT K H aZ [.int 0, .int 1] := fun H => .inr ⟨_, _, _, lZ, rfl, rfl, (by show 2 ≤ sizeLine; decide), .cons ⟨_, rfl⟩ (.cons ⟨_, rfl⟩ .nil)⟩
  have If : Cal l.prog w K mg base "is_figures" 1 ["text"] spFig f0 _ := ⟨ok_figures (k := 0) F0, PySem.W.mg_of X G a0, k0, B0⟩
  have W : Cal l.prog w K mg base "worth" 1 ["top", "bottom"] (spWorth K) f1 _ := ⟨ok_worth (k := 0) F1 (PySem.W.mg_of X G gG) (PySem.W.mg_of X G gZ) hZ, PySem.W.mg_of X G a1, k1, bind2 F1⟩
  have Nt : Cal l.prog w K mg base "number_text" 1 ["number"] (spNum K) f2 _ := ⟨ok_number (k := 0) F2 m_abs m_str (PySem.W.mg_of X G gL) (PySem.W.mg_of X G gF), PySem.W.mg_of X G a2, k2, B2⟩
  have Wt : Cal l.prog w K mg base "worth_text" 2 ["a"] (spWtx K) f3 _ := ⟨ok_wtext (k := 0) F3 Nt, PySem.W.mg_of X G a3, k3, B3⟩
  have Is : Cal l.prog w K mg base "is_short_number" 2 ["text"] spShort f4 _ := ⟨ok_short (k := 0) F4 If m_len (PySem.W.mg_of X G gF), PySem.W.mg_of X G a4, k4, B4⟩
  have Rw : Cal l.prog w K mg base "read_worth" 3 ["text"] (spReadI K) f5 _ := ⟨spReadI_eq ▸ ok_read (k := 0) F5 Is W Wt m_isinstance m_str m_int, PySem.W.mg_of X G a5, k5, B5⟩
  have Ba : Cal l.prog w K mg base "_law_bag" 1 ["script"] (spBag K) f6 _ := ⟨ok_bag (k := 0) F6 m_int m_list, PySem.W.mg_of X G a6, k6, B6⟩
  have D : Cal l.prog w K mg base "_law_draw" 1 ["bag", "size"] (spDraw K) f7 _ := ⟨ok_draw (k := 0) F7 m_int m_len, PySem.W.mg_of X G a7, k7, B7⟩
  have O : Cal l.prog w K mg base "_law_of" 2 ["bag", "things"] (spOf K) f8 _ := ⟨ok_of (k := 0) F8 D m_len, PySem.W.mg_of X G a8, k8, B8⟩
  have OS : Cal l.prog w K mg base "_law_of" 2 ["bag", "things"] (spOfS K) f8 _ := ⟨ok_ofS (k := 0) F8 D m_len, PySem.W.mg_of X G a8, k8, B8⟩
  have Li : Cal l.prog w K mg base "_law_like" 3 ["told", "due"] (spLike K 2) f9 _ := ⟨ok_like F9 (PySem.W.mg_of X G a9) B9 m_isinstance m_list m_tuple m_bool m_str m_int m_len m_all m_zip 2, PySem.W.mg_of X G a9, k9, B9⟩
  have Gc : Cal l.prog w K mg base "_law_gcd" 1 ["x", "y"] spGcd f10 _ := ⟨ok_gcd (k := 0) F10 m_abs m_int, PySem.W.mg_of X G a10, k10, B10⟩
  have Am : Cal l.prog w K mg base "_law_amount" 3 ["bag"] (spAmount K) f11 _ := ⟨ok_amount (k := 0) F11 D O m_range, PySem.W.mg_of X G a11, k11, B11⟩
  have Ma : Cal l.prog w K mg base "_law_made" 4 ["bag"] (spMade K) f12 _ := ⟨ok_made (k := 0) F12 D O Am Gc m_abs, PySem.W.mg_of X G a12, k12, B12⟩
  have Rd : Cal l.prog w K mg base "_law_read" 2 ["thing"] (spReadI K) f13 _ := ⟨spReadI_eq ▸ ok_law_read (k := 0) F13 Gc m_isinstance m_str m_int m_len, PySem.W.mg_of X G a13, k13, B13⟩
  have Be : Cal l.prog w K mg base "_law_bent" 3 ["bag", "told"] (spBent K) f14 _ := ⟨ok_bent (k := 0) F14 D O OS m_len, PySem.W.mg_of X G a14, k14, B14⟩
  exact ok_law F15 Ba D O Li Ma Be Wt Rw Rd m_range m_str m_len m_abs
end My
open PySem PySem.W PyProof.Rows
set_option maxRecDepth 100000 in
set_option maxHeartbeats 0 in
theorem PySem.Challenge.cw_soleheld_k03_texts_of_worths_holds : PySem.Challenge.rw_soleheld_k03_texts_of_worths.Holds := by
  w_on; o_law; k_head; (case hw => w_witness2)
  k_fill
  refine L2.walk_of (l := PySem.Challenge.rw_soleheld_k03_texts_of_worths) (n := 63) (k := 5) (x := "script") (CX := fun _ => L2.CX0) (sp := fun w => My.spLaw _) rfl (by decide) rfl ⟨rfl, by decide, by decide⟩ (fun w h Y => PySem.W.kIn_of Y) ?F (fun _ _ a ns hl _ hS => ⟨a, ns, rfl, hS, hl, fun _ => rfl⟩) (fun _ _ _ _ _ h => h)
  case F =>
    intro w mg fa h KX G hmg
    refine' My.all_mk KX G hmg ?a0 ?l0 ?c0 ?k0 ?a1 ?l1 ?c1 ?k1 ?a2 ?l2 ?c2 ?k2 ?a3 ?l3 ?c3 ?k3 ?a4 ?l4 ?c4 ?k4 ?a5 ?l5 ?c5 ?k5 ?a6 ?l6 ?c6 ?k6 ?a7 ?l7 ?c7 ?k7 ?a8 ?l8 ?c8 ?k8 ?a9 ?l9 ?c9 ?k9 ?a10 ?l10 ?c10 ?k10 ?a11 ?l11 ?c11 ?k11 ?a12 ?l12 ?c12 ?k12 ?a13 ?l13 ?c13 ?k13 ?a14 ?l14 ?c14 ?k14 ?a15 ?l15 ?c15 ?k15 ?b_int ?b_list ?b_len ?b_isinstance ?b_tuple ?b_bool ?b_str ?b_all ?b_zip ?b_abs ?b_range ?gG ?gL ?eL ?gF ?gZ ?lZ ?lT
    (case a0 => k_is)
    (case l0 => k_is)
    (case c0 => k_is)
    (case k0 => k_is)
    (case a1 => k_is)
    (case l1 => k_is)
    (case c1 => k_is)
    (case k1 => k_is)
    (case a2 => k_is)
    (case l2 => k_is)
    (case c2 => k_is)
    (case k2 => k_is)
    (case a3 => k_is)
    (case l3 => k_is)
    (case c3 => k_is)
    (case k3 => k_is)
    (case a4 => k_is)
    (case l4 => k_is)
    (case c4 => k_is)
    (case k4 => k_is)
    (case a5 => k_is)
    (case l5 => k_is)
    (case c5 => k_is)
    (case k5 => k_is)
    (case a6 => k_is)
    (case l6 => k_is)
    (case c6 => k_is)
    (case k6 => k_is)
    (case a7 => k_is)
    (case l7 => k_is)
    (case c7 => k_is)
    (case k7 => k_is)
    (case a8 => k_is)
    (case l8 => k_is)
    (case c8 => k_is)
    (case k8 => k_is)
    (case a9 => k_is)
    (case l9 => k_is)
    (case c9 => k_is)
    (case k9 => k_is)
    (case a10 => k_is)
    (case l10 => k_is)
    (case c10 => k_is)
    (case k10 => k_is)
    (case a11 => k_is)
    (case l11 => k_is)
    (case c11 => k_is)
    (case k11 => k_is)
    (case a12 => k_is)
    (case l12 => k_is)
    (case c12 => k_is)
    (case k12 => k_is)
    (case a13 => k_is)
    (case l13 => k_is)
    (case c13 => k_is)
    (case k13 => k_is)
    (case a14 => k_is)
    (case l14 => k_is)
    (case c14 => k_is)
    (case k14 => k_is)
    (case a15 => k_is)
    (case l15 => k_is)
    (case c15 => k_is)
    (case k15 => k_is)
    (case b_int => k_is)
    (case b_list => k_is)
    (case b_len => k_is)
    (case b_isinstance => k_is)
    (case b_tuple => k_is)
    (case b_bool => k_is)
    (case b_str => k_is)
    (case b_all => k_is)
    (case b_zip => k_is)
    (case b_abs => k_is)
    (case b_range => k_is)
    (case gG => k_is)
    (case gL => k_is)
    (case eL => decide +kernel)
    (case gF => k_is)
    (case gZ => k_is)
    (case lZ => k_is)
    (case lT => k_is)
#print axioms PySem.Challenge.cw_soleheld_k03_texts_of_worths_holds

