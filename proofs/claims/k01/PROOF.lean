import PyProof.Rows.All
import Wide.All
import OpenK.AllK
import Wide.FinOn
import HandS.ForMost
import HandS.Wide
import HandS.Gcd
import HandS.IsInst
import HandS.Defaults
import HandS.Zip
import HandS.Walk
import HandS.Codes
import HandS.Evl
import PySem.Challenge.RW_soleheld_k01_words_judged
import HandS.StrMore
import HandS.ForDict
set_option Elab.async false
set_option linter.all false
set_option maxRecDepth 100000
namespace My
open PySem PySem.Spec PyProof.Rows L2
/-! ### operators upon whole numbers of any size -/
section
variable {X : Cx}
theorem op_mulG : OpR X (binaryOp .Mult) (rI IntMulOk fun i j => .int (i * j)) := opI fun _ _ _ _ _ _ _ hc q => mul_int q hc
def CDivS (_ j : Int) : Prop := j ≠ 0 ∧ j.natAbs.log2 < 9000
theorem op_divS : OpR X (binaryOp .FloorDiv) (rI CDivS fun i j => .int (i.fdiv j)) := opI fun _ _ _ _ _ _ _ hc q => floordiv_int hc.1 q (.inl (PyProof.noPylong_of_log2 hc.2))
def CPowG (i j : Int) : Prop := 0 ≤ j ∧ (Builtin.Int.intBits i : Int) * j ≤ 2 ^ 27
theorem op_powG : OpR X (binaryOp .Pow) (rI CPowG fun i j => .int (i ^ j.toNat)) := opI fun _ _ _ _ _ _ _ hc q => pow_int hc.1 hc.2 q
end
/-- a def that stands at a module's name and keeps its promise -/
structure Cal (P : Program) (w : World) (K : PySem.W.Frag) (mg : Str → Option Value) (base : Heap) (x : Str) (k : Nat) (ps : List Str) (sp : Sp) (f : Addr) (fd : FuncData) : Prop where
  ok : FnOk P w K mg base CX0 k f fd ps sp
  g : mg x = some (.ref f)
  kp : PySem.W.keepIn K (.ref f) = true
  b : Binds K fd ps []
theorem same_upd {H : Hp} {p : Addr} {o : HO} (h : H p = none) : Same H (upd H p o) := fun b x e => by
  rw [upd_ne (ne_of_none e h)]
  exact e
/-! ### the bag -/
/-- a bag at b: its numbers at c, the rest bounded -/
structure BagIs (K : PySem.W.Frag) (H : Hp) (b c : Addr) (ns : List Int) (i : Nat) (g x n : Int) : Prop where
  ob : H b = some (.lst [.ref c, .int i, .int g, .int x, .int n])
  sq : SqL K H c (ns.map V.int)
  cb : c ≠ b
  hi : i ≤ ns.length
  x0 : 0 ≤ x
  x1 : x < 4294967296
def BagC (K : PySem.W.Frag) (H : Hp) (b c : Addr) (ns : List Int) : Prop := ∃ i g x n, BagIs K H b c ns i g x n
def BagAt (K : PySem.W.Frag) (H : Hp) (b : Addr) : Prop := ∃ c ns i g x n, BagIs K H b c ns i g x n
theorem BagC.at {K : PySem.W.Frag} {H : Hp} {b c : Addr} {ns : List Int} (h : BagC K H b c ns) : BagAt K H b := ⟨c, ns, h⟩
/-- what stands stays, but for what stands at b -/
def But (b : Addr) (H H' : Hp) : Prop := ∀ p o, p ≠ b → H p = some o → H' p = some o
theorem But.refl {b : Addr} {H : Hp} : But b H H := fun _ _ _ h => h
theorem But.trans {b : Addr} {H H1 H2 : Hp} (x : But b H H1) (y : But b H1 H2) : But b H H2 := fun p o n h => y p o n (x p o n h)
theorem But.upd {b : Addr} {H : Hp} {o : HO} : But b H (upd H b o) := fun p u n h => by rw [upd_ne n]; exact h
theorem But.of {b : Addr} {H H' : Hp} (s : Same H H') : But b H H' := fun p o _ h => s p o h
theorem But.seq {K : PySem.W.Frag} {b p : Addr} {H H' : Hp} {xs : List V} (h : But b H H') (n : p ≠ b) (s : SqL K H p xs) : SqL K H' p xs := by
  rcases s with (s | ⟨o, s⟩) | s
  · exact .inl (.inl (h _ _ n s))
  · exact .inl (.inr ⟨o, h _ _ n s⟩)
  · exact .inr s
theorem But.seqT {K : PySem.W.Frag} {b p : Addr} {H H' : Hp} {xs : List V} (h : But b H H') (n : p ≠ b) (s : SqT K H p xs) : SqT K H' p xs := by
  rcases s with (s | ⟨o, s⟩) | s
  · exact .inl (.inl (h _ _ n s))
  · exact .inl (.inr ⟨o, h _ _ n s⟩)
  · exact .inr s
theorem BagIs.same {K : PySem.W.Frag} {H H' : Hp} {b c : Addr} {ns : List Int} {i : Nat} {g x n : Int} (B : BagIs K H b c ns i g x n) (s : Same H H') : BagIs K H' b c ns i g x n :=
  ⟨s _ _ B.ob, s.seq B.sq, B.cb, B.hi, B.x0, B.x1⟩
theorem BagAt.same {K : PySem.W.Frag} {H H' : Hp} {b : Addr} (B : BagAt K H b) (s : Same H H') : BagAt K H' b :=
  let ⟨c, ns, i, g, x, n, B⟩ := B; ⟨c, ns, i, g, x, n, B.same s⟩
theorem BagIs.put {K : PySem.W.Frag} {H : Hp} {b c : Addr} {ns : List Int} {i : Nat} {g x n : Int} (B : BagIs K H b c ns i g x n) {i' : Nat} {g' x' n' : Int} (hi : i' ≤ ns.length) (x0 : 0 ≤ x') (x1 : x' < 4294967296) :
    BagIs K (upd H b (.lst [.ref c, .int i', .int g', .int x', .int n'])) b c ns i' g' x' n' :=
  ⟨upd_same, (But.upd (H := H)).seq B.cb B.sq, B.cb, hi, x0, x1⟩
/-! ### promises -/
def spBag (K : PySem.W.Frag) : Sp := fun vs H Q _ => ∃ (a : Addr) (ns : List Int), vs = [.ref a] ∧ SqL K H a (ns.map V.int) ∧ ∀ b H', Same H H' → BagAt K H' b → H b = none → Q (.ref b) H'
def spDraw (K : PySem.W.Frag) : Sp := fun vs H Q _ => ∃ (b : Addr) (m : Int), vs = [.ref b, .int m] ∧ BagAt K H b ∧ 0 < m ∧ m < 1000000000000000000000000000000000000000 ∧ ∀ r H', 0 ≤ r → r < m → BagAt K H' b → But b H H' → Q (.int r) H'
def spDrawC (K : PySem.W.Frag) : Sp := fun vs H Q _ => ∃ (b : Addr) (m : Int) (c : Addr) (ns : List Int), vs = [.ref b, .int m] ∧ BagC K H b c ns ∧ 0 < m ∧ m < 1000000000000000000000000000000000000000 ∧ ∀ r H', 0 ≤ r → r < m → BagC K H' b c ns → But b H H' → Q (.int r) H'
/-- the bag's numbers are not the list at L, or stand in the written part -/
def Off (K : PySem.W.Frag) (L c : Addr) (ns : List Int) : Prop := c ≠ L ∨ ∃ (o : Obj) (its : Array Value) (n : Nat), K.lookup c = some o ∧ o.cls = .type "list" ∧ o.dict = none ∧ o.data = .seq its n ∧ its.size ≤ sizeLine ∧ Vals (ns.map V.int) its.toList
theorem BagC.off {K : PySem.W.Frag} {H : Hp} {b c L : Addr} {ns : List Int} (h : BagC K H b c ns) (n : H L = none) : Off K L c ns := by
  obtain ⟨i, g, x, m, B⟩ := h
  rcases B.sq with (s | ⟨o, s⟩) | s
  · exact .inl (ne_of_none s n)
  · exact .inl (ne_of_none s n)
  · exact .inr s
theorem BagC.upd {K : PySem.W.Frag} {H : Hp} {b c L : Addr} {ns : List Int} {o : HO} (h : BagC K H b c ns) (f : Off K L c ns) (n : L ≠ b) : BagC K (upd H L o) b c ns := by
  obtain ⟨i, g, x, m, B⟩ := h
  refine ⟨i, g, x, m, by rw [upd_ne n.symm]; exact B.ob, ?_, B.cb, B.hi, B.x0, B.x1⟩
  rcases f with f | f
  · exact (But.upd (b := L)).seq f B.sq
  · exact .inr f
theorem BagC.same {K : PySem.W.Frag} {H H' : Hp} {b c : Addr} {ns : List Int} (h : BagC K H b c ns) (s : Same H H') : BagC K H' b c ns := by
  obtain ⟨i, g, x, m, B⟩ := h
  exact ⟨i, g, x, m, B.same s⟩
def topS (i : Nat) : Stmt := PySem.Challenge.pw_soleheld_k01_words_judged.main.body.getD i (.Pass ⟨0, 0, 0, 0⟩)
abbrev sLawBag : Stmt := topS 23
theorem scLawBag : FnScope ["script", "mixed", "piece"] ["script"] (defScope sLawBag) := ⟨rfl, rfl, rfl, by decide +kernel, rfl, by decide +kernel, by decide +kernel⟩
abbrev sLawDraw : Stmt := topS 24
theorem scLawDraw : FnScope ["bag", "size", "piece", "digit"] ["bag", "size"] (defScope sLawDraw) := ⟨rfl, rfl, rfl, by decide +kernel, rfl, by decide +kernel, by decide +kernel⟩
theorem mod_lo {a m : Int} (h : 0 < m) : 0 ≤ a % m := Int.emod_nonneg a (by omega)
theorem mod_hi {a m : Int} (h : 0 < m) : a % m < m := Int.emod_lt_of_pos a h
theorem mul_right {a : Int} {c : Int} (h : Builtin.Int.intBits c ≤ 64) : IntMulOk a c := IntMulOk.of_right h
section
variable {P : Program} {w : World} {K : PySem.W.Frag} {mg : Str → Option Value} {base : Heap}
theorem ok_bag {f : Addr} {fd : FuncData} {k : Nat} (F : Fun K "_law_bag" "_law_bag" sLawBag f fd) (b_int : mg "int" = none) (b_list : mg "list" = none) : FnOk P w K mg base CX0 (k + 1) f fd ["script"] (spBag K) := by
  refine F.ok scLawBag (fun vs H Q E h => ?_) (fun cdv A outer s H vs Q E hr h => ?_)
  · obtain ⟨a, ns, rfl, _⟩ := h
    rfl
  · obtain ⟨a, ns, rfl, hS, q⟩ := h
    refine ⟨_, (pss_cons (ps_set (i := 1) scLawBag.nd rfl (.inl rfl) pe_int)
      (pss_cons (ps_for PassesOwn.never rfl (pi_list (pe_slice sl_list (pv 0) po_none (po_some pe_int))) (pg_name (i := 2) scLawBag.nd rfl (.inl rfl))
        (pss_one (ps_set (i := 1) scLawBag.nd rfl (.inl rfl) (pe_op op_mod (pe_callTy call_int1 rfl b_int (by decide +kernel) (pa_cons (pe_op op_add (pe_op op_add (pe_op op_mulG (pv 1) pe_int) (pe_op op_mod (pe_callTy call_int1 rfl b_int (by decide +kernel) (pa_cons (pv 2) pa_nil)) pe_int)) pe_int) pa_nil)) pe_int))))
      (pss_one (ps_ret (pe_lst (pa_cons (pe_callTy call_list_of rfl b_list (by decide +kernel) (pa_cons (pe_slice sl_list (pv 0) po_none (po_some pe_int)) pa_nil)) (pa_cons pe_int (pa_cons pe_int (pa_cons (pv 1) (pa_cons pe_int pa_nil)))))))))), ?_⟩
    obtain ⟨ms, ec⟩ : ∃ ms : List Int, cutV (ns.map V.int) none (some 63) = ms.map V.int := ⟨(ns.drop _).take _, by
      unfold cutV
      rw [List.map_take, List.map_drop]⟩
    refine ⟨_, rfl, _, rfl, a, _, rfl, hS, fun c nc => ?_⟩
    rw [ec]
    have sc : Same H (upd H c (.lst (ms.map V.int))) := same_upd nc
    refine ⟨c, rfl, ⟨_, SqL.of upd_same⟩, for_list (K := K) (a := c) (xs := ms.map V.int) (fun i σ H2 => ∃ (m : Int) (v : Option V), σ = [some (.ref a), some (.int m), v] ∧ Same H H2 ∧ H2 c = some (.lst (ms.map V.int)) ∧ 0 ≤ m ∧ m < 4294967296)
      ⟨13964, none, rfl, sc, upd_same, by decide, by decide⟩ (fun i σ H2 _ ⟨_, _, _, _, e, _⟩ => SqL.of e) ?_ ?_⟩
    · rintro i y σ H2 hi ⟨m, v, rfl, s2, ce, m0, m1⟩
      obtain ⟨z, -, rfl⟩ : ∃ z, ms[i]? = some z ∧ y = .int z := by
        rw [List.getElem?_map] at hi
        cases e : ms[i]? with
        | none => rw [e] at hi; cases hi
        | some z => rw [e] at hi; exact ⟨z, rfl, (Option.some.inj hi).symm⟩
      refine ⟨_, rfl, _, _, rfl, rfl, mul_right (by decide +kernel), _, rfl, .inl ⟨_, rfl, _, _, rfl, rfl, (by show (0 : Int) < _; decide), _, _, rfl, rfl, _, _, rfl, rfl, .inl ⟨_, rfl, _, _, rfl, rfl, (by show (0 : Int) < _; decide), ?_⟩⟩⟩
      refine ⟨_, _, rfl, s2, ce, mod_lo (by decide), ?_⟩
      exact Int.lt_trans (mod_hi (by decide)) (by decide)
    · rintro σ H2 ⟨m, v, rfl, s2, ce, m0, m1⟩
      refine ⟨_, rfl, _, rfl, a, _, rfl, s2.seq hS, fun d nd => ?_⟩
      rw [ec]
      refine ⟨d, _, rfl, .inl (SqL.of upd_same), fun l nl => ⟨_, rfl, (by show 5 ≤ sizeLine; decide), fun b nb => ?_⟩⟩
      have s3 := (s2.trans (same_upd (o := .lst (ms.map V.int)) nd)).trans (same_upd (o := .lst (ms.map V.int)) nl)
      refine q b _ (s3.trans (same_upd nb)) ⟨l, ms, 0, 0, m, 0, upd_same, ?_, ?_, Nat.zero_le _, m0, m1⟩ (s3.free nb)
      · have e : l ≠ b := fun e => by rw [← e, upd_same] at nb; cases nb
        exact SqL.of (by rw [upd_ne e, upd_same])
      · exact fun e => by rw [← e, upd_same] at nb; cases nb
theorem ok_drawC {f : Addr} {fd : FuncData} {k : Nat} (F : Fun K "_law_draw" "_law_draw" sLawDraw f fd) (b_int : mg "int" = none) (b_len : mg "len" = none) : FnOk P w K mg base CX0 (k + 1) f fd ["bag", "size"] (spDrawC K) := by
  refine F.ok scLawDraw (fun vs H Q E h => ?_) (fun cdv A outer s H vs Q E hr h => ?_)
  · obtain ⟨b, m, c, ns, rfl, _⟩ := h
    rfl
  · obtain ⟨b, m, c, ns, rfl, ⟨i, g, x, n, B⟩, m0, m1, q⟩ := h
    refine ⟨_, (pss_cons (ps_asg (pe_op op_add (pe_ix ix_list (pv 0) pe_int (fun _ _ => rfl)) pe_int) (pg_sub (pv 0) pe_int set_list))
      (C8.pss_cut (ps_if (PW.pt (pw_and (pt_cmpR op_eq (pe_ix ix_list (pv 0) pe_int (fun _ _ => rfl)) pe_int (nomark _)) (pw_and1 (pt_cmpR op_lt (pe_ix ix_list (pv 0) pe_int (fun _ _ => rfl)) (pe_callB call_len rfl b_len (by decide +kernel) (pa_cons (pe_ix ix_list (pv 0) pe_int (fun _ _ => rfl)) pa_nil)) (nomark _))))) (pss_cons (ps_set (i := 2) scLawDraw.nd rfl (.inl rfl) (pe_callTy call_int1 rfl b_int (by decide +kernel) (pa_cons (pe_ix ix_list (pe_ix ix_list (pv 0) pe_int (fun _ _ => rfl)) (pe_ix ix_list (pv 0) pe_int (fun _ _ => rfl)) (fun _ _ => rfl)) pa_nil)))
        (pss_cons (ps_asg (pe_op op_add (pe_ix ix_list (pv 0) pe_int (fun _ _ => rfl)) pe_int) (pg_sub (pv 0) pe_int set_list))
        (pss_one (ps_if (pt_cmpR op_ge (pv 2) (pe_op op_powG pe_int pe_int) (nomark _)) (pss_one (ps_asg (pv 2) (pg_sub (pv 0) pe_int set_list))) (pss_one (ps_asg (pe_op op_mod (pe_callTy call_int1 rfl b_int (by decide +kernel) (pa_cons (pe_op op_add (pe_op op_add (pe_op op_mulG (pe_ix ix_list (pv 0) pe_int (fun _ _ => rfl)) pe_int) (pe_op op_mulG (pe_op op_mod (pe_callTy call_int1 rfl b_int (by decide +kernel) (pa_cons (pv 2) pa_nil)) pe_int) pe_int)) pe_int) pa_nil)) pe_int) (pg_sub (pv 0) pe_int set_list))))))) pss_nil)
      (pss_cons (ps_if (pt_cmpR op_gt (pe_ix ix_list (pv 0) pe_int (fun _ _ => rfl)) pe_int (nomark _)) (pss_cons (ps_set (i := 3) scLawDraw.nd rfl (.inl rfl) (pe_op op_mod (pe_callTy call_int1 rfl b_int (by decide +kernel) (pa_cons (pe_ix ix_list (pv 0) pe_int (fun _ _ => rfl)) pa_nil)) (pv 1)))
        (pss_cons (ps_asg (pe_op op_fdivW (pe_ix ix_list (pv 0) pe_int (fun _ _ => rfl)) (pv 1)) (pg_sub (pv 0) pe_int set_list))
        (pss_one (ps_ret (pv 3))))) pss_nil)
      (pss_cons (ps_asg (pe_op op_mod (pe_callTy call_int1 rfl b_int (by decide +kernel) (pa_cons (pe_op op_add (pe_op op_add (pe_op op_powG (pe_ix ix_list (pv 0) pe_int (fun _ _ => rfl)) pe_int) (pe_op op_mulG (pe_ix ix_list (pv 0) pe_int (fun _ _ => rfl)) pe_int)) pe_int) pa_nil)) pe_int) (pg_sub (pv 0) pe_int set_list))
      (pss_one (ps_ret (pe_op op_mod (pe_callTy call_int1 rfl b_int (by decide +kernel) (pa_cons (pe_op op_add (pe_op op_fdivW (pe_ix ix_list (pv 0) pe_int (fun _ _ => rfl)) pe_int) (pe_op op_mulG (pe_op op_mod (pe_callTy call_int1 rfl b_int (by decide +kernel) (pa_cons (pe_ix ix_list (pv 0) pe_int (fun _ _ => rfl)) pa_nil)) pe_int) pe_int)) pa_nil)) (pv 1)))))))), ?_⟩
    -- bag[4] = bag[4] + 1
    refine ⟨.ref b, rfl, b, _, 4, _, rfl, rfl, SqL.of B.ob, (atI_nat (j := 4) rfl), _, _, rfl, rfl, .ref b, rfl, b, _, 4, 4, rfl, rfl, B.ob, rfl, ?_⟩
    have B1 : BagIs K (upd H b (.lst [.ref c, .int i, .int g, .int x, .int (n + 1)])) b c ns i g x (n + 1) := B.put B.hi B.x0 B.x1
    have t1 : But b H (upd H b (.lst [.ref c, .int i, .int g, .int x, .int (n + 1)])) := But.upd
    refine ⟨fun σ' H' => ∃ (v2 v3 : Option V) (i' : Nat) (g' x' n' : Int), σ' = [some (.ref b), some (.int m), v2, v3] ∧ BagIs K H' b c ns i' g' x' n' ∧ But b H H', ?_, ?_⟩
    · -- the if
      refine ⟨.ref b, rfl, b, _, 2, _, rfl, rfl, SqL.of B1.ob, (atI_nat (j := 2) rfl), rfl, _, rfl, ?_⟩
      refine ite2 (fun _ => ?_) (fun _ => ?_)
      · refine ⟨.ref b, rfl, b, _, 1, _, rfl, rfl, SqL.of B1.ob, (atI_nat (j := 1) rfl), .ref b, rfl, b, _, 0, _, rfl, rfl, SqL.of B1.ob, (atI_nat (j := 0) rfl), _, _, rfl, .inl ⟨_, B1.sq, rfl⟩, _, _, rfl, rfl, _, rfl, ?_⟩
        refine ite2 (fun e => ?_) (fun _ => ?_)
        · have hlt : i < ns.length := by
            have e2 := of_decide_eq_true e
            rw [List.length_map] at e2
            omega
          have gi : (ns.map V.int)[i]? = some (.int ns[i]) := by
            rw [List.getElem?_map, List.getElem?_eq_getElem hlt]
            rfl
          refine ⟨.ref b, rfl, b, _, 0, _, rfl, rfl, SqL.of B1.ob, (atI_nat (j := 0) rfl), .ref b, rfl, b, _, 1, _, rfl, rfl, SqL.of B1.ob, (atI_nat (j := 1) rfl), c, _, i, _, rfl, rfl, B1.sq, atI_nat gi, .inl ⟨_, rfl, ?_⟩⟩
          refine ⟨.ref b, rfl, b, _, 1, _, rfl, rfl, SqL.of B1.ob, (atI_nat (j := 1) rfl), _, _, rfl, rfl, .ref b, rfl, b, _, 1, 1, rfl, rfl, B1.ob, rfl, ?_⟩
          have B2 : BagIs K (upd (upd H b (.lst [.ref c, .int i, .int g, .int x, .int (n + 1)])) b (.lst [.ref c, .int ((i : Int) + 1), .int g, .int x, .int (n + 1)])) b c ns (i + 1) g x (n + 1) := B1.put (i' := i + 1) hlt B.x0 B.x1
          have t2 : But b H (upd (upd H b (.lst [.ref c, .int i, .int g, .int x, .int (n + 1)])) b (.lst [.ref c, .int ((i : Int) + 1), .int g, .int x, .int (n + 1)])) := t1.trans But.upd
          refine ⟨_, rfl, _, _, rfl, rfl, ⟨by decide, by decide +kernel⟩, _, _, rfl, rfl, _, rfl, ?_⟩
          refine ite2 (fun _ => ?_) (fun _ => ?_)
          · refine ⟨_, rfl, .ref b, rfl, b, _, 2, 2, rfl, rfl, B2.ob, rfl, ?_⟩
            exact ⟨_, _, i + 1, ns[i], x, n + 1, rfl, B2.put B2.hi B.x0 B.x1, t2.trans But.upd⟩
          · refine ⟨.ref b, rfl, b, _, 3, _, rfl, rfl, SqL.of B2.ob, (atI_nat (j := 3) rfl), _, _, rfl, rfl, mul_right (by decide +kernel), _, rfl, .inl ⟨_, rfl, _, _, rfl, rfl, (by show (0 : Int) < _; decide), _, _, rfl, rfl, mul_right (by decide +kernel), _, _, rfl, rfl, _, _, rfl, rfl, .inl ⟨_, rfl, _, _, rfl, rfl, (by show (0 : Int) < _; decide), ?_⟩⟩⟩
            refine ⟨.ref b, rfl, b, _, 3, 3, rfl, rfl, B2.ob, rfl, ?_⟩
            exact ⟨_, _, i + 1, g, _, n + 1, rfl, B2.put B2.hi (mod_lo (by decide)) (Int.lt_trans (mod_hi (by decide)) (by decide)), t2.trans But.upd⟩
        · exact ⟨_, _, i, g, x, n + 1, rfl, B1, t1⟩
      · exact ⟨_, _, i, g, x, n + 1, rfl, B1, t1⟩
    · rintro σ' H' ⟨v2, v3, i', g', x', n', rfl, B', t'⟩
      refine ⟨.ref b, rfl, b, _, 2, _, rfl, rfl, SqL.of B'.ob, (atI_nat (j := 2) rfl), _, _, rfl, rfl, _, rfl, ?_⟩
      have d1 : CDivW g' m := wide_div m0 (b := 130) (by omega) (by decide) (by decide)
      refine ite2 (fun _ => ?_) (fun _ => ?_)
      · refine ⟨.ref b, rfl, b, _, 2, _, rfl, rfl, SqL.of B'.ob, (atI_nat (j := 2) rfl), .inl ⟨_, rfl, _, rfl, _, _, rfl, rfl, m0, ?_⟩⟩
        refine ⟨.ref b, rfl, b, _, 2, _, rfl, rfl, SqL.of B'.ob, (atI_nat (j := 2) rfl), _, rfl, _, _, rfl, rfl, d1, .ref b, rfl, b, _, 2, 2, rfl, rfl, B'.ob, rfl, ?_⟩
        exact ⟨_, rfl, q _ _ (mod_lo m0) (mod_hi m0) ⟨i', g' / m, x', n', B'.put B'.hi B'.x0 B'.x1⟩ (t'.trans But.upd)⟩
      · have hx : CPowG x' 3 := ⟨by decide, by
          have hb : Builtin.Int.intBits x' ≤ 64 := intBits_le_64 (by have := B'.x0; omega) (by have := B'.x1; omega)
          omega⟩
        refine ⟨.ref b, rfl, b, _, 3, _, rfl, rfl, SqL.of B'.ob, (atI_nat (j := 3) rfl), _, _, rfl, rfl, hx, .ref b, rfl, b, _, 4, _, rfl, rfl, SqL.of B'.ob, (atI_nat (j := 4) rfl), _, _, rfl, rfl, mul_right (by decide +kernel), _, _, rfl, rfl, _, _, rfl, rfl, .inl ⟨_, rfl, _, _, rfl, rfl, (by show (0 : Int) < _; decide), ?_⟩⟩
        refine ⟨.ref b, rfl, b, _, 3, 3, rfl, rfl, B'.ob, rfl, ?_⟩
        have B3 : BagIs K (upd H' b (.lst [.ref c, .int i', .int g', .int ((x' ^ (3 : Int).toNat + n' * 1299709 + 70001) % 2147483579), .int n'])) b c ns i' g' ((x' ^ (3 : Int).toNat + n' * 1299709 + 70001) % 2147483579) n' := B'.put B'.hi (mod_lo (by decide)) (Int.lt_trans (mod_hi (by decide)) (by decide))
        refine ⟨.ref b, rfl, b, _, 3, _, rfl, rfl, SqL.of B3.ob, (atI_nat (j := 3) rfl), _, _, rfl, rfl, wide_div (b := 10) (by decide) (by decide) (by decide) (by decide), .ref b, rfl, b, _, 3, _, rfl, rfl, SqL.of B3.ob, (atI_nat (j := 3) rfl), .inl ⟨_, rfl, _, _, rfl, rfl, (by show (0 : Int) < _; decide), _, _, rfl, rfl, mul_right (by decide +kernel), _, _, rfl, rfl, .inl ⟨_, rfl, _, rfl, _, _, rfl, rfl, m0, ?_⟩⟩⟩
        exact q _ _ (mod_lo m0) (mod_hi m0) ⟨i', g', _, n', B3⟩ (t'.trans But.upd)
theorem ok_draw {f : Addr} {fd : FuncData} {k : Nat} (F : Fun K "_law_draw" "_law_draw" sLawDraw f fd) (b_int : mg "int" = none) (b_len : mg "len" = none) : FnOk P w K mg base CX0 (k + 1) f fd ["bag", "size"] (spDraw K) :=
  (ok_drawC F b_int b_len).imp fun vs H Q E ⟨b, m, e, ⟨c, ns, B⟩, m0, m1, q⟩ => ⟨b, m, c, ns, e, B, m0, m1, fun r H' r0 r1 B' t => q r H' r0 r1 B'.at t⟩
end
end My

set_option Elab.async false
set_option linter.all false
set_option maxRecDepth 100000
namespace My
open PySem PySem.Spec PyProof.Rows L2
abbrev sLawOf : Stmt := topS 25
theorem scLawOf : FnScope ["bag", "things"] ["bag", "things"] (defScope sLawOf) := ⟨rfl, rfl, rfl, by decide +kernel, rfl, by decide +kernel, by decide +kernel⟩
abbrev sLawLike : Stmt := topS 26
theorem scLawLike : FnScope ["told", "due", "a", "b"] ["told", "due"] (defScope sLawLike) := ⟨rfl, rfl, rfl, by decide +kernel, rfl, by decide +kernel, by decide +kernel⟩
/-- things are a list of whole numbers -/
def spOf (K : PySem.W.Frag) : Sp := fun vs H Q _ => ∃ (b a : Addr) (xs : List V), vs = [.ref b, .ref a] ∧ BagAt K H b ∧ a ≠ b ∧ SqL K H a xs ∧ 0 < xs.length ∧ xs.length < 1000 ∧ ∀ v H', v ∈ xs → BagAt K H' b → But b H H' → Q v H'
/-! ### data that are alike -/
def flat0 : V → Prop
  | .non => True
  | .bl _ => True
  | .int _ => True
  | .str _ => True
  | _ => False
def Lk (K : PySem.W.Frag) (H : Hp) : Nat → V → V → Prop
  | 0, v, w => v = w ∧ flat0 v
  | n + 1, v, w => (v = w ∧ flat0 v) ∨ ∃ a b xs ys, v = .ref a ∧ w = .ref b ∧ ((SqL K H a xs ∧ SqL K H b ys) ∨ (SqT K H a xs ∧ SqT K H b ys)) ∧ xs.length = ys.length ∧ xs.length < 1000 ∧ ∀ (i : Nat) x y, xs[i]? = some x → ys[i]? = some y → Lk K H n x y
theorem seqT_same {K : PySem.W.Frag} {H H' : Hp} {p : Addr} {xs : List V} (h : Same H H') (s : SqT K H p xs) : SqT K H' p xs := by
  rcases s with (s | ⟨o, s⟩) | s
  · exact .inl (.inl (h _ _ s))
  · exact .inl (.inr ⟨o, h _ _ s⟩)
  · exact .inr s
theorem Lk.same {K : PySem.W.Frag} {H H' : Hp} (s : Same H H') : ∀ {n : Nat} {v w : V}, Lk K H n v w → Lk K H' n v w
  | 0, _, _, h => h
  | n + 1, _, _, h => by
    rcases h with h | ⟨a, b, xs, ys, e1, e2, hs, hl, hb, hi⟩
    · exact .inl h
    · refine .inr ⟨a, b, xs, ys, e1, e2, ?_, hl, hb, fun i x y p q => (hi i x y p q).same s⟩
      rcases hs with ⟨p, q⟩ | ⟨p, q⟩
      · exact .inl ⟨s.seq p, s.seq q⟩
      · exact .inr ⟨seqT_same s p, seqT_same s q⟩
theorem Lk.flat {K : PySem.W.Frag} {H : Hp} {n : Nat} {v w : V} (e : v = w) (f : flat0 v) : Lk K H n v w := by
  cases n with
  | zero => exact ⟨e, f⟩
  | succ n => exact .inl ⟨e, f⟩
def spLike (K : PySem.W.Frag) (n : Nat) : Sp := fun vs H Q _ => ∃ v w, vs = [v, w] ∧ Lk K H n v w ∧ ∀ H', Same H H' → Q (.bl true) H'
theorem ty_list {K : PySem.W.Frag} {H : Hp} {a : Addr} {xs : List V} (h : SqL K H a xs) : TyX K H (.ref a) (.type "list") := by
  rcases h with (h | ⟨o, h⟩) | ⟨o, its, n, h, c, _⟩
  · exact .base (.lst h)
  · exact .base (.frz h)
  · exact .kList h c
theorem ty_tup {K : PySem.W.Frag} {H : Hp} {a : Addr} {xs : List V} (h : SqT K H a xs) : TyX K H (.ref a) (.type "tuple") := by
  rcases h with (h | ⟨o, h⟩) | ⟨o, its, n, h, c, _⟩
  · exact .base (.tup h)
  · exact .fTuple h
  · exact .kTuple h c
/-- the type of a flat value -/
def tyN : V → String
  | .non => "NoneType"
  | .bl _ => "bool"
  | .int _ => "int"
  | .str _ => "str"
  | _ => ""
theorem ty_flat {K : PySem.W.Frag} {H : Hp} {v : V} (h : flat0 v) : TyX K H v (.type (tyN v)) := by
  cases v with
  | non => exact .base .non
  | bl b => exact .base (.bl b)
  | int i => exact .base (.int i)
  | str x => exact .base (.str x)
  | _ => exact h.elim
theorem cls2 {a b : String} : Paired ClsV [.ty a, .ty b] [.type a, .type b] := .cons (.ty a) (.cons (.ty b) .nil)
section
variable {P : Program} {w : World} {K : PySem.W.Frag} {mg : Str → Option Value} {base : Heap}
theorem kit_ll : PySem.W.kitAny K (.type "list") [.type "list", .type "tuple"] = some true := by rfl
theorem kit_tl : PySem.W.kitAny K (.type "tuple") [.type "list", .type "tuple"] = some true := by rfl
theorem kit_flat {v : V} (h : flat0 v) : PySem.W.kitAny K (.type (tyN v)) [.type "list", .type "tuple"] = some false := by
  cases v <;> first | rfl | exact h.elim
theorem k1_ll : PySem.W.kitOne K (.type "list") (.type "list") = some true := by rfl
theorem k1_lt : PySem.W.kitOne K (.type "list") (.type "tuple") = some false := by rfl
theorem k1_tl : PySem.W.kitOne K (.type "tuple") (.type "list") = some false := by rfl
theorem k1_tt : PySem.W.kitOne K (.type "tuple") (.type "tuple") = some true := by rfl
theorem k1_flat {v : V} (h : flat0 v) (c : String) (hc : c = "bool" ∨ c = "str" ∨ c = "int") : ∃ b, PySem.W.kitOne K (.type (tyN v)) (.type c) = some b := by
  cases v <;> first | exact h.elim | (rcases hc with rfl | rfl | rfl <;> exact ⟨_, rfl⟩)
theorem pe_ty {X : Cx} (T : String) {x : Str} {pos : Pos} (hg : Gl X x) (hm : X.mg x = none) (hv : bootBuiltins x = some (.type T)) (hn : x ≠ "__name__" := by decide) (hd : (x == ("__debug__" : Str)) = false := by decide) : PE X (.Name x pos) (tC (.ty T)) := pe_bltn hg hm hv rfl hn hd
theorem walk_zipT {a b : Addr} {xs ys : List V} {n : Nat} (hn : n = min xs.length ys.length) : Walk (RZ.ItzT K a b) n (fun H => SqT K H a xs ∧ SqT K H b ys) (YPair (fun i => xs[i]?) (fun i => ys[i]?)) := by
  subst hn
  refine ⟨fun i _ hi q => ?_, fun _ q => ⟨xs, ys, q.1, q.2, by omega⟩, fun i H v H' _ q y => ?_⟩
  · have h1 : i < xs.length := by omega
    have h2 : i < ys.length := by omega
    exact ⟨xs, ys, xs[i], ys[i], q.1, q.2, by simp [h1], by simp [h2]⟩
  · obtain ⟨T, x, z, h1, h2, h3, h4, h5⟩ := y
    exact ⟨T, x, z, h1, h2, h3, h4 xs q.1, h5 ys q.2⟩
theorem ok_of {f fD : Addr} {fd fdD : FuncData} {k : Nat} (F : Fun K "_law_of" "_law_of" sLawOf f fd) (D : Cal P w K mg base "_law_draw" (k + 1) ["bag", "size"] (spDraw K) fD fdD) (b_len : mg "len" = none) : FnOk P w K mg base CX0 (k + 2) f fd ["bag", "things"] (spOf K) := by
  refine F.ok scLawOf (fun vs H Q E h => ?_) (fun cdv A outer s H vs Q E hr h => ?_)
  · obtain ⟨b, a, xs, rfl, _⟩ := h
    rfl
  · obtain ⟨b, a, xs, rfl, B, n, hs, h0, h1, q⟩ := h
    refine ⟨_, (pss_one (ps_ret (pe_ix ix_list (pv 1) (pe_call D.ok hr rfl D.g D.kp D.b .nil pass0 (pa_cons (pv 0) (pa_cons (pe_callB call_len rfl b_len (by decide +kernel) (pa_cons (pv 1) pa_nil)) pa_nil))) (fun _ _ => rfl)))), ?_⟩
    refine ⟨_, rfl, _, rfl, _, rfl, _, _, rfl, .inl ⟨_, hs, rfl⟩, b, _, rfl, B, by omega, by omega, fun r H' r0 r1 B' t => ?_⟩
    obtain ⟨j, rfl⟩ : ∃ j : Nat, r = (j : Int) := ⟨r.toNat, by omega⟩
    have hj : j < xs.length := by omega
    exact ⟨a, _, _, xs[j], rfl, rfl, t.seq n hs, atI_nat (List.getElem?_eq_getElem hj), q _ H' (List.getElem_mem hj) B' t⟩
theorem all_true : ∀ n : Nat, (List.replicate n true).all id = true := fun n => by
  induction n with
  | zero => rfl
  | succ n ih => rw [List.replicate_succ, List.all_cons, ih]; rfl
theorem FnOk.never {f : Addr} {fd : FuncData} {k : Nat} {ps : List Str} : FnOk P w K mg base CX0 k f fd ps (fun _ _ _ _ => False) := ⟨fun _ _ _ _ h => h.elim, fun _ _ _ _ _ _ _ _ _ _ _ _ _ h => h.elim⟩
def spLikeM (K : PySem.W.Frag) (M : Hp → V → V → Prop) : Sp := fun vs H Q _ => ∃ v w, vs = [v, w] ∧ ((v = w ∧ flat0 v) ∨ ∃ a b xs ys, v = .ref a ∧ w = .ref b ∧ ((SqL K H a xs ∧ SqL K H b ys) ∨ (SqT K H a xs ∧ SqT K H b ys)) ∧ xs.length = ys.length ∧ xs.length < 1000 ∧ ∀ (i : Nat) x y, xs[i]? = some x → ys[i]? = some y → M H x y) ∧ ∀ H', Same H H' → Q (.bl true) H'
theorem like_step {f : Addr} {fd : FuncData} {k : Nat} {R : Sp} {M : Hp → V → V → Prop} (F : Fun K "_law_like" "_law_like" sLawLike f fd) (g : mg "_law_like" = some (.ref f)) (b : Binds K fd ["told", "due"] [])
    (b_isinstance : mg "isinstance" = none) (b_list : mg "list" = none) (b_tuple : mg "tuple" = none) (b_bool : mg "bool" = none) (b_str : mg "str" = none) (b_int : mg "int" = none) (b_len : mg "len" = none) (b_all : mg "all" = none) (b_zip : mg "zip" = none)
    (G : FnOk P w K mg base CX0 k f fd ["told", "due"] R) (hM : ∀ v w H Q E, M H v w → (∀ H', Same H H' → Q (.bl true) H') → R [v, w] H Q E) (hS : ∀ H H' v w, Same H H' → M H v w → M H' v w) : FnOk P w K mg base CX0 (k + 1) f fd ["told", "due"] (spLikeM K M) := by
  refine F.ok scLawLike (fun vs H Q E h => ?_) (fun cdv A outer s H vs Q E hr h => ?_)
  · obtain ⟨v, w', rfl, _⟩ := h
    rfl
  · obtain ⟨v, w', rfl, L, q⟩ := h
    refine ⟨_, (pss_cons (ps_if (pt_val (pe_callB call_isiT rfl b_isinstance (by decide +kernel) (pa_cons (pv 1) (pa_cons (pe_tup (pa_cons (pe_ty "list" rfl b_list (by decide +kernel)) (pa_cons (pe_ty "tuple" rfl b_tuple (by decide +kernel)) pa_nil))) pa_nil)))) (pss_cons (ps_if (PW.pt (pw_or (pt_cmpR op_ne (pe_callB call_isi rfl b_isinstance (by decide +kernel) (pa_cons (pv 0) (pa_cons (pe_ty "list" rfl b_list (by decide +kernel)) pa_nil))) (pe_callB call_isi rfl b_isinstance (by decide +kernel) (pa_cons (pv 1) (pa_cons (pe_ty "list" rfl b_list (by decide +kernel)) pa_nil))) (nomark _)) (pw_or1 (pt_cmpR op_ne (pe_callB call_isi rfl b_isinstance (by decide +kernel) (pa_cons (pv 0) (pa_cons (pe_ty "tuple" rfl b_tuple (by decide +kernel)) pa_nil))) (pe_callB call_isi rfl b_isinstance (by decide +kernel) (pa_cons (pv 1) (pa_cons (pe_ty "tuple" rfl b_tuple (by decide +kernel)) pa_nil))) (nomark _))))) (pss_one (ps_ret pe_bl)) pss_nil)
      (pss_one (ps_ret (pe_and (pe_cmpR op_eq (pe_callB call_len rfl b_len (by decide +kernel) (pa_cons (pv 0) pa_nil)) (pe_callB call_len rfl b_len (by decide +kernel) (pa_cons (pv 1) pa_nil)) (nomark _)) (pe_one (pe_callB (cr_all rfl) rfl b_all (by decide +kernel) (pa_cons (pe_lc (own := [("a", 2), ("b", 3)]) (g := gTup K 2 (gCons (gName 2) (gCons (gName 3) gNil))) (tt := tYes) rfl scLawLike.nd (RZ.pi_zipA rfl b_zip (pa_cons (pv 0) (pa_cons (pv 1) pa_nil))) (blkOk_by (own := [("a", 2), ("b", 3)]) (N := ["told", "due", "a", "b"]) (sc := defScope sLawLike) (by decide +kernel)) (fun _ _ _ _ _ => (pg_tup rfl (pgs_cons (pg_name (i := 2) scLawLike.nd rfl (.inl rfl) (.inr rfl)) (pgs_cons (pg_name (i := 3) scLawLike.nd rfl (.inl rfl) (.inr rfl)) pgs_nil)))) (fun _ _ _ _ _ => pts_nil) (fun _ _ _ _ _ => (pe_call G hr rfl g F.kp b .nil pass0 (pa_cons (pv 2) (pa_cons (pv 3) pa_nil))))) pa_nil))))))) pss_nil)
    (pss_cons (ps_if (PW.pt (pw_or (pt_cmpR op_isN (pv 1) pe_non (nomark _)) (pw_or1 (pt_cmpR op_isN (pv 0) pe_non (nomark _))))) (pss_one (ps_ret (pe_and (pe_cmpR op_isN (pv 1) pe_non (nomark _)) (pe_one (pe_cmpR op_isN (pv 0) pe_non (nomark _)))))) pss_nil)
    (pss_cons (ps_if (PW.pt (pw_or (pt_val (pe_callB call_isiT rfl b_isinstance (by decide +kernel) (pa_cons (pv 0) (pa_cons (pe_tup (pa_cons (pe_ty "list" rfl b_list (by decide +kernel)) (pa_cons (pe_ty "tuple" rfl b_tuple (by decide +kernel)) pa_nil))) pa_nil)))) (pw_or1 (pt_cmpR op_ne (pe_callB call_isi rfl b_isinstance (by decide +kernel) (pa_cons (pv 0) (pa_cons (pe_ty "bool" rfl b_bool (by decide +kernel)) pa_nil))) (pe_callB call_isi rfl b_isinstance (by decide +kernel) (pa_cons (pv 1) (pa_cons (pe_ty "bool" rfl b_bool (by decide +kernel)) pa_nil))) (nomark _))))) (pss_one (ps_ret pe_bl)) pss_nil)
    (pss_cons (ps_if (PW.pt (pw_or (pt_cmpR op_ne (pe_callB call_isi rfl b_isinstance (by decide +kernel) (pa_cons (pv 0) (pa_cons (pe_ty "str" rfl b_str (by decide +kernel)) pa_nil))) (pe_callB call_isi rfl b_isinstance (by decide +kernel) (pa_cons (pv 1) (pa_cons (pe_ty "str" rfl b_str (by decide +kernel)) pa_nil))) (nomark _)) (pw_or1 (pt_cmpR op_ne (pe_callB call_isi rfl b_isinstance (by decide +kernel) (pa_cons (pv 0) (pa_cons (pe_ty "int" rfl b_int (by decide +kernel)) pa_nil))) (pe_callB call_isi rfl b_isinstance (by decide +kernel) (pa_cons (pv 1) (pa_cons (pe_ty "int" rfl b_int (by decide +kernel)) pa_nil))) (nomark _))))) (pss_one (ps_ret pe_bl)) pss_nil)
    (pss_one (ps_ret (pe_cmpR op_eq (pv 0) (pv 1) (nomark _)))))))), ?_⟩
    rcases L with ⟨rfl, fl⟩ | ⟨a, c, xs, ys, rfl, rfl, hs, hl, hb, hi⟩
    · have hf : flat0 v := fl
      refine ⟨_, rfl, (by show 2 ≤ sizeLine; decide), fun p np => ⟨_, p, _, _, _, _, rfl, upd_same, cls2, ty_flat hf, kit_flat hf, _, rfl, iteF ?_⟩⟩
      have s1 : Same H (upd H p (.tup [.ty "list", .ty "tuple"])) := same_upd np
      refine ⟨v, rfl, rfl, _, rfl, ite2 (fun e => iteT ?_) (fun e => ⟨v, rfl, rfl, _, rfl, ite2 (fun e' => absurd e' e) (fun _ => ?_)⟩)⟩
      · refine ⟨v, rfl, rfl, _, rfl, ?_⟩
        rw [e]
        refine iteT ⟨v, rfl, rfl, ?_⟩
        rw [e]
        exact q _ s1
      · refine ⟨_, rfl, (by show 2 ≤ sizeLine; decide), fun p2 np2 => ⟨_, p2, _, _, _, _, rfl, upd_same, cls2, ty_flat hf, kit_flat hf, _, rfl, iteF ?_⟩⟩
        have s2 : Same H (upd (upd H p (.tup [.ty "list", .ty "tuple"])) p2 (.tup [.ty "list", .ty "tuple"])) := s1.trans (same_upd np2)
        obtain ⟨k1, e1⟩ := k1_flat (K := K) hf "bool" (.inl rfl)
        obtain ⟨k2, e2⟩ := k1_flat (K := K) hf "str" (.inr (.inl rfl))
        obtain ⟨k3, e3⟩ := k1_flat (K := K) hf "int" (.inr (.inr rfl))
        refine ⟨_, rfl, _, _, _, _, _, rfl, .ty _, ty_flat hf, e1, _, rfl, _, _, _, _, _, rfl, .ty _, ty_flat hf, e1, rfl, _, rfl, ?_⟩
        rw [decide_eq_true rfl]
        refine iteF ⟨_, rfl, _, _, _, _, _, rfl, .ty _, ty_flat hf, e2, _, rfl, _, _, _, _, _, rfl, .ty _, ty_flat hf, e2, rfl, _, rfl, ?_⟩
        rw [decide_eq_true rfl]
        refine iteF ⟨_, rfl, _, _, _, _, _, rfl, .ty _, ty_flat hf, e3, _, rfl, _, _, _, _, _, rfl, .ty _, ty_flat hf, e3, rfl, _, rfl, ?_⟩
        rw [decide_eq_true rfl]
        refine iteF ⟨_, rfl, _, rfl, ?_, ?_⟩
        · cases v <;> first | rfl | exact hf.elim
        · rw [decide_eq_true rfl]
          exact q _ s2
    · -- lists or tuples
      have hr1 : ∀ (i : Nat) x y, xs[i]? = some x → ys[i]? = some y → M H x y := hi
      obtain ⟨T, kt, k1, k2, tya, tyc, hlen, hlen'⟩ : ∃ T, PySem.W.kitAny K (.type T) [.type "list", .type "tuple"] = some true ∧ (∃ k1, PySem.W.kitOne K (.type T) (.type "list") = some k1) ∧ (∃ k2, PySem.W.kitOne K (.type T) (.type "tuple") = some k2) ∧ (∀ H', Same H H' → TyX K H' (.ref a) (.type T)) ∧ (∀ H', Same H H' → TyX K H' (.ref c) (.type T)) ∧ (∀ H', Same H H' → LenV K (.ref a) H' xs.length) ∧ (∀ H', Same H H' → LenV K (.ref c) H' ys.length) := by
        rcases hs with ⟨p, q⟩ | ⟨p, q⟩
        · exact ⟨"list", kit_ll, ⟨_, k1_ll⟩, ⟨_, k1_lt⟩, fun _ s => ty_list (s.seq p), fun _ s => ty_list (s.seq q), fun _ s => .inl ⟨_, s.seq p, rfl⟩, fun _ s => .inl ⟨_, s.seq q, rfl⟩⟩
        · exact ⟨"tuple", kit_tl, ⟨_, k1_tl⟩, ⟨_, k1_tt⟩, fun _ s => ty_tup (seqT_same s p), fun _ s => ty_tup (seqT_same s q), fun _ s => .inr ⟨_, seqT_same s p, rfl⟩, fun _ s => .inr ⟨_, seqT_same s q, rfl⟩⟩
      obtain ⟨k1, e1⟩ := k1
      obtain ⟨k2, e2⟩ := k2
      refine ⟨_, rfl, (by show 2 ≤ sizeLine; decide), fun p0 np => ⟨_, p0, _, _, _, _, rfl, upd_same, cls2, tyc _ (same_upd np), kt, _, rfl, iteT ?_⟩⟩
      have s1 : Same H (upd H p0 (.tup [.ty "list", .ty "tuple"])) := same_upd np
      refine ⟨_, rfl, _, _, _, _, _, rfl, .ty _, tya _ s1, e1, _, rfl, _, _, _, _, _, rfl, .ty _, tyc _ s1, e1, rfl, _, rfl, ?_⟩
      rw [decide_eq_true rfl]
      refine iteF ⟨_, rfl, _, _, _, _, _, rfl, .ty _, tya _ s1, e2, _, rfl, _, _, _, _, _, rfl, .ty _, tyc _ s1, e2, rfl, _, rfl, ?_⟩
      rw [decide_eq_true rfl]
      refine iteF ⟨_, rfl, _, _, rfl, hlen _ s1, _, rfl, _, _, rfl, hlen' _ s1, rfl, _, rfl, ?_⟩
      rw [hl, decide_eq_true rfl]
      refine iteT ⟨_, rfl, _, rfl, a, c, xs, ys, rfl, ?_⟩
      rcases hs with ⟨p, q'⟩ | ⟨p, q'⟩
      ·
        refine .inl ⟨Same.seq s1 p, Same.seq s1 q', fun D nD => lc_it (walk_zip (K := K) (a := a) (b := c) (by omega : xs.length = min xs.length ys.length)) (fun i H2 => Same (upd H p0 (.tup [.ty "list", .ty "tuple"])) H2 ∧ H2 D = some (.lst ((List.replicate i true).map V.bl))) ⟨same_upd nD, upd_same⟩ (fun i H2 _ h => ⟨Same.seq (s1.trans h.1) p, Same.seq (s1.trans h.1) q'⟩) ?_ ?_⟩
        · rintro i z H2 H3 hlt ⟨s2, hD⟩ ⟨T, x, y, rfl, nT, rfl, hx, hy⟩
          have nTD : D ≠ T := ne_of_none hD nT
          refine ⟨T, [x, y], rfl, SqT.of upd_same, rfl, x, [y], rfl, y, [], rfl, rfl, rfl, ?_⟩
          unfold tYes
          refine iteT ?_
          refine ⟨x, rfl, y, rfl, hM x y _ _ _ (hS _ _ _ _ ((s1.trans s2).trans (same_upd nT)) (hr1 i x y hx hy)) fun H4 s4 => ?_⟩
          have hD4 : H4 D = some (.lst ((List.replicate i true).map V.bl)) := s4 _ _ (by rw [upd_ne nTD]; exact hD)
          refine ⟨_, hD4, ?_, ?_, ?_⟩
          · rw [List.length_map, List.length_replicate]
            exact small1000 (by omega)
          · intro p' o' h'
            have nq : p' ≠ D := ne_of_none h' nD
            rw [upd_ne nq]
            exact s4 _ _ (same_upd nT _ _ (s2 _ _ h'))
          · rw [upd_same, List.replicate_succ', List.map_append]
            rfl
        · rintro H2 ⟨s2, hD⟩
          refine ⟨D, _, rfl, SqL.of hD, ?_⟩
          rw [all_true]
          exact q _ (s1.trans s2)
      ·
        refine .inr ⟨seqT_same s1 p, seqT_same s1 q', fun D nD => lc_it (walk_zipT (K := K) (a := a) (b := c) (by omega : xs.length = min xs.length ys.length)) (fun i H2 => Same (upd H p0 (.tup [.ty "list", .ty "tuple"])) H2 ∧ H2 D = some (.lst ((List.replicate i true).map V.bl))) ⟨same_upd nD, upd_same⟩ (fun i H2 _ h => ⟨seqT_same (s1.trans h.1) p, seqT_same (s1.trans h.1) q'⟩) ?_ ?_⟩
        · rintro i z H2 H3 hlt ⟨s2, hD⟩ ⟨T, x, y, rfl, nT, rfl, hx, hy⟩
          have nTD : D ≠ T := ne_of_none hD nT
          refine ⟨T, [x, y], rfl, SqT.of upd_same, rfl, x, [y], rfl, y, [], rfl, rfl, rfl, ?_⟩
          unfold tYes
          refine iteT ?_
          refine ⟨x, rfl, y, rfl, hM x y _ _ _ (hS _ _ _ _ ((s1.trans s2).trans (same_upd nT)) (hr1 i x y hx hy)) fun H4 s4 => ?_⟩
          have hD4 : H4 D = some (.lst ((List.replicate i true).map V.bl)) := s4 _ _ (by rw [upd_ne nTD]; exact hD)
          refine ⟨_, hD4, ?_, ?_, ?_⟩
          · rw [List.length_map, List.length_replicate]
            exact small1000 (by omega)
          · intro p' o' h'
            have nq : p' ≠ D := ne_of_none h' nD
            rw [upd_ne nq]
            exact s4 _ _ (same_upd nT _ _ (s2 _ _ h'))
          · rw [upd_same, List.replicate_succ', List.map_append]
            rfl
        · rintro H2 ⟨s2, hD⟩
          refine ⟨D, _, rfl, SqL.of hD, ?_⟩
          rw [all_true]
          exact q _ (s1.trans s2)

theorem ok_like {f : Addr} {fd : FuncData} (F : Fun K "_law_like" "_law_like" sLawLike f fd) (g : mg "_law_like" = some (.ref f)) (b : Binds K fd ["told", "due"] [])
    (b_isinstance : mg "isinstance" = none) (b_list : mg "list" = none) (b_tuple : mg "tuple" = none) (b_bool : mg "bool" = none) (b_str : mg "str" = none) (b_int : mg "int" = none) (b_len : mg "len" = none) (b_all : mg "all" = none) (b_zip : mg "zip" = none) :
    ∀ n : Nat, FnOk P w K mg base CX0 (n + 1) f fd ["told", "due"] (spLike K n) := by
  intro n
  induction n with
  | zero =>
    exact (like_step (M := fun _ _ _ => False) (R := fun _ _ _ _ => False) F g b b_isinstance b_list b_tuple b_bool b_str b_int b_len b_all b_zip FnOk.never (fun _ _ _ _ _ h _ => h) (fun _ _ _ _ _ h => h)).imp
      fun vs H Q E ⟨v, w', e, L, q⟩ => ⟨v, w', e, .inl L, q⟩
  | succ n ih =>
    exact (like_step (M := fun H v w => Lk K H n v w) F g b b_isinstance b_list b_tuple b_bool b_str b_int b_len b_all b_zip ih (fun v w H Q E h q => ⟨v, w, rfl, h, q⟩) (fun _ _ _ _ s h => h.same s)).imp
      fun vs H Q E ⟨v, w', e, L, q⟩ => ⟨v, w', e, L, q⟩
end
end My

set_option Elab.async false
set_option linter.all false
set_option maxRecDepth 100000
namespace My
open PySem PySem.Spec PyProof.Rows L2
def abc : Str := "abcdefghijklmnopqrstuvwxyz"
def low (c : Nat) : Bool := 97 ≤ c && c ≤ 122
def TB (c : Nat) : Prop := (abc.cps.contains c = low c) ∧ (Unicode.isLower c = low c) ∧ ((Unicode.isUpper c || Unicode.isTitle c) = (65 ≤ c && c ≤ 90 : Bool)) ∧ (Unicode.isAlpha c = (low c || (65 ≤ c && c ≤ 90 : Bool)))
instance (c : Nat) : Decidable (TB c) := by unfold TB; exact inferInstance
theorem tabs : ∀ c : Fin 128, TB c.1 := by decide +kernel
--(abc.cps.contains c.1 = low c.1) ∧ (Unicode.isLower c.1 = low c.1) ∧ ((Unicode.isUpper c.1 || Unicode.isTitle c.1) = (65 ≤ c.1 && c.1 ≤ 90 : Bool)) ∧ (Unicode.isAlpha c.1 = (low c.1 || (65 ≤ c.1 && c.1 ≤ 90 : Bool))) := by decide +kernel
theorem get_of {z : Str} {k : Nat} (hk : k < z.length) (p : Nat → Bool) (h : z.cps.all p = true) : p (z.cps.getD k 0) = true := by
  rw [Array.all_eq_true] at h
  have hk' : k < z.cps.size := hk
  have := h k hk'
  simp [Array.getD, hk', this]
theorem all_of {z : Str} (p : Nat → Bool) (h : ∀ k, k < z.length → p (z.cps.getD k 0) = true) : z.cps.all p = true := by
  rw [Array.all_eq_true]
  intro k hk
  have := h k hk
  simpa [Array.getD, hk] using this
theorem any_iff {z : Str} (p : Nat → Bool) : z.cps.any p = true ↔ ∃ k, k < z.length ∧ p (z.cps.getD k 0) = true := by
  rw [Array.any_eq_true]
  constructor
  · rintro ⟨k, hk, h⟩
    exact ⟨k, hk, by simpa [Array.getD, hk] using h⟩
  · rintro ⟨k, hk, h⟩
    have hk' : k < z.cps.size := hk
    exact ⟨k, hk', by simpa [Array.getD, hk'] using h⟩
theorem strip_iff (z : Str) : Txt.stripChars z abc = "" ↔ ∀ k, k < z.length → abc.cps.contains (z.cps.getD k 0) = true := by
  unfold Txt.stripChars
  rw [stripBy_eq]
  obtain ⟨l1, l2, l3⟩ := lo_facts abc.cps.contains z
  obtain ⟨h1, h2, h3, h4⟩ := hi_facts abc.cps.contains z _ l1
  have hsz : ∀ a b : Nat, a ≤ b → b ≤ z.length → (Builtin.Str.strSub z a b = "" ↔ a = b) := by
    intro a b ha hb
    have hb' : b ≤ z.cps.size := hb
    constructor
    · intro h
      have e := congrArg (fun s : Str => s.cps.size) h
      have e2 : (z.cps.extract a b).size = 0 := e
      rw [Array.size_extract] at e2
      omega
    · rintro rfl
      show (⟨z.cps.extract a a⟩ : Str) = ""
      have : z.cps.extract a a = #[] := Array.eq_empty_of_size_eq_zero (by rw [Array.size_extract]; omega)
      rw [this]
      rfl
  rw [hsz _ _ h1 h2]
  constructor
  · intro e k hk
    by_cases hlt : k < stripLo abc.cps.contains true z
    · exact l2 k hlt
    · exact h3 k (by omega) hk
  · intro h
    rcases l3 with e | e
    · omega
    · by_cases hlt : stripLo abc.cps.contains true z < z.length
      · rw [h _ hlt] at e
        cases e
      · omega
theorem word_eq (z : Str) (hz : z.cps.all (· < 128) = true) (h0 : 0 < z.length) : (Txt.isalpha z && Txt.islower z) = decide (Txt.stripChars z abc = "") := by
  have lt : ∀ k, k < z.length → z.cps.getD k 0 < 128 := fun k hk => of_decide_eq_true (get_of hk _ hz)
  have tb : ∀ k, k < z.length → TB (z.cps.getD k 0) := fun k hk => tabs ⟨z.cps.getD k 0, lt k hk⟩
  rw [Bool.eq_iff_iff, Bool.and_eq_true, decide_eq_true_eq, strip_iff]
  unfold Txt.isalpha Txt.islower
  rw [Bool.and_eq_true, Bool.and_eq_true]
  constructor
  · rintro ⟨⟨_, ha⟩, _, hu⟩ k hk
    obtain ⟨t1, t2, t3, t4⟩ := tb k hk
    rw [t1]
    have a1 := get_of hk _ ha
    rw [t4] at a1
    have u1 : ¬ (65 ≤ z.cps.getD k 0 && z.cps.getD k 0 ≤ 90 : Bool) = true := by
      intro q
      rw [← t3] at q
      have : (z.cps.any fun c => Unicode.isUpper c || Unicode.isTitle c) = true := (any_iff _).mpr ⟨k, hk, q⟩
      rw [this] at hu
      cases hu
    rcases Bool.or_eq_true _ _ ▸ a1 with q | q
    · exact q
    · exact absurd q u1
  · intro h
    refine ⟨⟨by simpa using h0, all_of _ fun k hk => ?_⟩, (any_iff _).mpr ⟨0, h0, ?_⟩, ?_⟩
    · obtain ⟨t1, t2, t3, t4⟩ := tb k hk
      rw [t4, ← t1, h k hk, Bool.true_or]
    · obtain ⟨t1, t2, t3, t4⟩ := tb 0 h0
      rw [t2, ← t1, h 0 h0]
    · rw [Bool.not_eq_true']
      rw [Bool.eq_false_iff]
      intro q
      obtain ⟨k, hk, q⟩ := (any_iff _).mp q
      obtain ⟨t1, t2, t3, t4⟩ := tb k hk
      rw [t3] at q
      have a1 := h k hk
      rw [t1] at a1
      unfold low at a1
      simp only [Bool.and_eq_true, decide_eq_true_eq] at a1 q
      omega
theorem word_empty : (Txt.isascii "" && Txt.isalpha "" && Txt.islower "") = false := by decide +kernel
end My

set_option Elab.async false
set_option linter.all false
set_option maxRecDepth 100000
namespace My
open PySem PySem.Spec PyProof.Rows L2
/-! ### a call by keywords alone -/
section
variable {X : Cx} {CX : CXT} {k : Nat} {f : Addr} {fd : FuncData} {ps ks : List Str} {sp : Sp} {E : XK} {x : Str} {p pos : Pos} {kws : List Keyword} {tk : TA} {g : List Value → List Value → List Value} {gV : List V → List V → List V}
theorem pe_callN0 (F : FnOk X.prog X.w X.K X.mg X.base CX k f fd ps sp) (hr : Room k X.A) (hg : Gl X x) (hm : X.mg x = some (.ref f)) (hk : PySem.W.keepIn X.K (.ref f) = true) (hb : KBn X.K fd ps 0 ks g gV) (hx : Passes CX X E)
    (hkw : PK X kws tk) (hall : (backToKw pos (keywordEach kws X.env)).all (·.1.isSome) = true := by rfl) (hks : (backToKw pos (keywordEach kws X.env)).filterMap (·.1) = ks := by rfl)
    (hdb : (x == ("__debug__" : Str)) = false := by decide)
    (hpl : ((backTo pos (starEach [] X.env)).any (·.1) || (backToKw pos (keywordEach kws X.env)).any (·.1.isNone)) = false := by rfl) :
    PE X (.Call (.Name x p) [] kws pos) (tCallN 0 ks.length sp gV E tNil tk) := by
  refine ⟨fun pins s σ H Q I h => ?_⟩
  refine wpAny_Call_Name_kw (ld_glob I hg hm ?_ hdb)
  refine PySem.W.callWith_KW0 (h₀ := X.base) I.ok.mod.kin hk hall ?_ hpl
  refine thn (hkw.run pos pins s σ H _ I h) fun ws s2 ⟨zs, H2, I2, rz, l1, l2, q2⟩ => ⟨I2.kIn, ?_⟩
  rw [hks]
  exact run_fnN F hr hb hx I2 .nil rz l1 l2 q2
theorem op_mulS : OpR X (binaryOp .Mult) (fun x y H Q => ∃ z n, x = .str z ∧ y = .int n ∧ MulOk z n ∧ Q (.str (Txt.mul z n)) H) := by
  intro pins s σ H x y v u Q I rx ry h
  obtain ⟨i, j, rfl, rfl, hz, q⟩ := h
  obtain ⟨t, rfl⟩ := rx
  obtain ⟨t', rfl⟩ := ry
  exact SB.mul hz (fun t' tk => ⟨.str (Txt.mul i j), H, I.tok _, ⟨_, rfl⟩, q⟩)
end
abbrev sIsWord : Stmt := topS 4
theorem scIsWord : FnScope ["text"] ["text"] (defScope sIsWord) := ⟨rfl, rfl, rfl, by decide +kernel, rfl, by decide +kernel, by decide +kernel⟩
abbrev sIsName : Stmt := topS 5
theorem scIsName : FnScope ["value"] ["value"] (defScope sIsName) := ⟨rfl, rfl, rfl, by decide +kernel, rfl, by decide +kernel, by decide +kernel⟩
abbrev sIsInteger : Stmt := topS 6
theorem scIsInteger : FnScope ["value"] ["value"] (defScope sIsInteger) := ⟨rfl, rfl, rfl, by decide +kernel, rfl, by decide +kernel, by decide +kernel⟩
abbrev sIsNumber : Stmt := topS 7
theorem scIsNumber : FnScope ["value", "least", "most"] ["value", "least", "most"] (defScope sIsNumber) := ⟨rfl, rfl, rfl, by decide +kernel, rfl, by decide +kernel, by decide +kernel⟩
abbrev sOneInit : Stmt := inClass (topS 17) 0
theorem scOneInit : FnScope ["self"] ["self"] (defScope sOneInit) := ⟨rfl, rfl, rfl, by decide +kernel, rfl, by decide +kernel, by decide +kernel⟩
abbrev sLawListed : Stmt := topS 27
theorem scLawListed : FnScope ["first", "second"] [] (defScope sLawListed) := ⟨rfl, rfl, rfl, by decide +kernel, rfl, by decide +kernel, by decide +kernel⟩
abbrev sLawNamed : Stmt := topS 30
theorem scLawNamed : FnScope ["thing"] ["thing"] (defScope sLawNamed) := ⟨rfl, rfl, rfl, by decide +kernel, rfl, by decide +kernel, by decide +kernel⟩
/-! ### kinds of values -/
theorem TyX.keep {K : PySem.W.Frag} {H H' : Hp} {v : V} {t : Value} (k : ∀ a o, v = .ref a → H a = some o → H' a = some o) (h : TyX K H v t) : TyX K H' v t := by
  cases h with
  | base h =>
    cases h with
    | non => exact .base .non
    | bl b => exact .base (.bl b)
    | int i => exact .base (.int i)
    | str z => exact .base (.str z)
    | flt z => exact .base (.flt z)
    | lst e => exact .base (.lst (k _ _ rfl e))
    | frz e => exact .base (.frz (k _ _ rfl e))
    | tup e => exact .base (.tup (k _ _ rfl e))
    | dK e => exact .base (.dK (k _ _ rfl e))
    | dT e => exact .base (.dT (k _ _ rfl e))
    | ins e cl ha hn htk hm => exact .base (.ins (k _ _ rfl e) cl ha hn htk hm)
  | byt b => exact .byt b
  | set e => exact .set (k _ _ rfl e)
  | kList e c => exact .kList e c
  | kTuple e c => exact .kTuple e c
  | kDict e c => exact .kDict e c
  | fTuple e => exact .fTuple (k _ _ rfl e)
  | fDict e => exact .fDict (k _ _ rfl e)
/-- no number (a truth value may be one for isinstance) -/
def NoInt (K : PySem.W.Frag) (H : Hp) (v : V) : Prop := ∃ t b1 b2, TyX K H v t ∧ PySem.W.kitOne K t (.type "int") = some b1 ∧ PySem.W.kitOne K t (.type "bool") = some b2 ∧ (b1 = true → b2 = true)
def NoStr (K : PySem.W.Frag) (H : Hp) (v : V) : Prop := ∃ t, TyX K H v t ∧ PySem.W.kitOne K t (.type "str") = some false
def word (z : Str) : Bool := Txt.isascii z && (Txt.isalpha z && Txt.islower z)
def nameB (z : Str) : Bool := decide ((z.length : Int) ≤ 8) && word z
def namedB (z : Str) : Bool := !decide (V.str z = V.str "") && (decide ((z.length : Int) ≤ 8) && decide (V.str (Txt.stripChars z abc) = V.str ""))
theorem name_eq (z : Str) (hz : z.cps.all (· < 128) = true) : nameB z = namedB z := by
  unfold nameB namedB word
  by_cases h : z = ""
  · subst h
    decide +kernel
  · have h0 : 0 < z.length := by
      rcases Nat.eq_zero_or_pos z.length with e | e
      · exact absurd (show z = "" by
          have : z.cps = #[] := Array.eq_empty_of_size_eq_zero e
          show z = ⟨#[]⟩
          rw [← this]) h
      · exact e
    have e1 : decide (V.str z = V.str "") = false := decide_eq_false fun q => h (V.str.inj q)
    have e2 : Txt.isascii z = true := hz
    rw [e1, e2, word_eq z hz h0, Bool.true_and]
    have e3 : decide (V.str (Txt.stripChars z abc) = V.str "") = decide (Txt.stripChars z abc = "") := decide_eq_decide.mpr ⟨fun q => V.str.inj q, fun q => by rw [q]⟩
    rw [e3]
    rfl
def spWord : Sp := fun vs H Q _ => ∃ z, vs = [.str z] ∧ Q (.bl (word z)) H
def spName (K : PySem.W.Frag) : Sp := fun vs H Q _ => ∃ v, vs = [v] ∧ ((∃ z, v = .str z ∧ z.length ≤ sizeLine ∧ Q (.bl (nameB z)) H) ∨ (NoStr K H v ∧ Q (.bl false) H))
def spNamed (K : PySem.W.Frag) : Sp := fun vs H Q _ => ∃ v, vs = [v] ∧ ((∃ z, v = .str z ∧ z.length ≤ sizeLine ∧ Q (.bl (namedB z)) H) ∨ (NoStr K H v ∧ Q (.bl false) H))
def spInteger (K : PySem.W.Frag) : Sp := fun vs H Q _ => ∃ v, vs = [v] ∧ ((∃ n, v = .int n ∧ Q (.bl true) H) ∨ (NoInt K H v ∧ Q (.bl false) H))
def numB (n lo hi : Int) : Bool := decide (lo ≤ n) && decide (n ≤ hi)
def spNumber (K : PySem.W.Frag) : Sp := fun vs H Q _ => ∃ v lo hi, vs = [v, .int lo, .int hi] ∧ ((∃ n, v = .int n ∧ Q (.bl (numB n lo hi)) H) ∨ (NoInt K H v ∧ Q (.bl false) H))
theorem and_if {a b : Bool} {Q : Bool → Prop} (h : Q (a && b)) : if a = true then Q b else Q false := by
  cases a <;> exact h
section
variable {P : Program} {w : World} {K : PySem.W.Frag} {mg : Str → Option Value} {base : Heap}
theorem k1_ss : PySem.W.kitOne K (.type "str") (.type "str") = some true := by rfl
theorem k1_ii : PySem.W.kitOne K (.type "int") (.type "int") = some true := by rfl
theorem k1_ib : PySem.W.kitOne K (.type "int") (.type "bool") = some false := by rfl
theorem ok_is_word {f : Addr} {fd : FuncData} {k : Nat} (F : Fun K "is_word" "is_word" sIsWord f fd) : FnOk P w K mg base CX0 (k + 1) f fd ["text"] spWord := by
  refine F.ok scIsWord (fun vs H Q E h => ?_) (fun cdv A outer s H vs Q E hr h => ?_)
  · obtain ⟨z, rfl, _⟩ := h
    rfl
  · obtain ⟨z, rfl, q⟩ := h
    refine ⟨_, (pss_one (ps_ret (pe_and (pe_m0 PySem.F.slot_str_isascii PySem.F.type_str_isascii mt_isascii (pv 0)) (pe_and (pe_m0 PySem.F.slot_str_isalpha PySem.F.type_str_isalpha mt_isalpha (pv 0)) (pe_one (pe_m0 PySem.F.slot_str_islower PySem.F.type_str_islower mt_islower (pv 0))))))), ?_⟩
    refine ⟨_, rfl, ⟨_, rfl⟩, z, rfl, rfl, trivial, _, rfl, ?_⟩
    unfold word at q
    cases e1 : Txt.isascii z with
    | false =>
      rw [e1] at q
      exact iteF q
    | true =>
      rw [e1] at q
      refine iteT ⟨_, rfl, ⟨_, rfl⟩, z, rfl, rfl, trivial, _, rfl, ?_⟩
      cases e2 : Txt.isalpha z with
      | false =>
        rw [e2] at q
        exact iteF q
      | true =>
        rw [e2] at q
        exact iteT ⟨_, rfl, ⟨_, rfl⟩, z, rfl, rfl, trivial, q⟩
theorem ok_is_name {f fW : Addr} {fd fdW : FuncData} {k : Nat} {tk : Tok} (F : Fun K "is_name" "is_name" sIsName f fd) (W : Cal P w K mg base "is_word" (k + 1) ["text"] spWord fW fdW) (b_isinstance : mg "isinstance" = none) (b_str : mg "str" = none) (b_len : mg "len" = none) (g8 : mg "LONGEST_NAME" = some (.int 8 tk)) :
    FnOk P w K mg base CX0 (k + 2) f fd ["value"] (spName K) := by
  refine F.ok scIsName (fun vs H Q E h => ?_) (fun cdv A outer s H vs Q E hr h => ?_)
  · obtain ⟨v, rfl, _⟩ := h
    rfl
  · obtain ⟨v, rfl, h⟩ := h
    refine ⟨_, (pss_one (ps_ret (pe_and (pe_callB call_isi rfl b_isinstance (by decide +kernel) (pa_cons (pv 0) (pa_cons (pe_ty "str" rfl b_str (by decide +kernel)) pa_nil))) (pe_and (pe_cmpR op_le (pe_callB call_len rfl b_len (by decide +kernel) (pa_cons (pv 0) pa_nil)) (pe_glob (v := .int 8) rfl g8 ⟨_, rfl⟩) (nomark _)) (pe_one (pe_call W.ok hr rfl W.g W.kp W.b .nil pass0 (pa_cons (pv 0) pa_nil))))))), ?_⟩
    rcases h with ⟨z, rfl, hz, q⟩ | ⟨⟨t, ty, e⟩, q⟩
    · refine ⟨_, rfl, _, _, _, _, _, rfl, .ty _, .base (.str z), k1_ss, _, rfl, iteT ⟨_, rfl, _, _, rfl, ⟨hz, rfl⟩, _, _, rfl, rfl, _, rfl, ?_⟩⟩
      unfold nameB at q
      refine ite2 (fun c => ?_) (fun c => ?_)
      · rw [c] at q
        exact ⟨_, rfl, z, rfl, q⟩
      · rw [Bool.eq_false_iff.mpr c] at q
        exact q
    · exact ⟨_, rfl, _, _, _, _, _, rfl, .ty _, ty, e, _, rfl, iteF q⟩
theorem ok_is_integer {f : Addr} {fd : FuncData} {k : Nat} (F : Fun K "is_integer" "is_integer" sIsInteger f fd) (b_isinstance : mg "isinstance" = none) (b_int : mg "int" = none) (b_bool : mg "bool" = none) : FnOk P w K mg base CX0 (k + 1) f fd ["value"] (spInteger K) := by
  refine F.ok scIsInteger (fun vs H Q E h => ?_) (fun cdv A outer s H vs Q E hr h => ?_)
  · obtain ⟨v, rfl, _⟩ := h
    rfl
  · obtain ⟨v, rfl, h⟩ := h
    refine ⟨_, (pss_one (ps_ret (pe_and (pe_callB call_isi rfl b_isinstance (by decide +kernel) (pa_cons (pv 0) (pa_cons (pe_ty "int" rfl b_int (by decide +kernel)) pa_nil))) (pe_one (pe_not (pe_callB call_isi rfl b_isinstance (by decide +kernel) (pa_cons (pv 0) (pa_cons (pe_ty "bool" rfl b_bool (by decide +kernel)) pa_nil)))))))), ?_⟩
    rcases h with ⟨n, rfl, q⟩ | ⟨⟨t, b1, b2, ty, e1, e2, e3⟩, q⟩
    · exact ⟨_, rfl, _, _, _, _, _, rfl, .ty _, .base (.int n), k1_ii, _, rfl, iteT ⟨_, rfl, _, _, _, _, _, rfl, .ty _, .base (.int n), k1_ib, _, rfl, q⟩⟩
    · cases b1 with
      | false => exact ⟨_, rfl, _, _, _, _, _, rfl, .ty _, ty, e1, _, rfl, iteF q⟩
      | true =>
        rw [e3 rfl] at e2
        exact ⟨_, rfl, _, _, _, _, _, rfl, .ty _, ty, e1, _, rfl, iteT ⟨_, rfl, _, _, _, _, _, rfl, .ty _, ty, e2, _, rfl, q⟩⟩
theorem ok_is_number {f fI : Addr} {fd fdI : FuncData} {k : Nat} (F : Fun K "is_number" "is_number" sIsNumber f fd) (I : Cal P w K mg base "is_integer" (k + 1) ["value"] (spInteger K) fI fdI) : FnOk P w K mg base CX0 (k + 2) f fd ["value", "least", "most"] (spNumber K) := by
  refine F.ok scIsNumber (fun vs H Q E h => ?_) (fun cdv A outer s H vs Q E hr h => ?_)
  · obtain ⟨v, lo, hi, rfl, _⟩ := h
    rfl
  · obtain ⟨v, lo, hi, rfl, h⟩ := h
    refine ⟨_, (pss_one (ps_ret (pe_and (pe_call I.ok hr rfl I.g I.kp I.b .nil pass0 (pa_cons (pv 0) pa_nil)) (pe_one (pe_chain op_le op_le (pv 1) (pv 0) (pv 2)))))), ?_⟩
    rcases h with ⟨n, rfl, q⟩ | ⟨e, q⟩
    · refine ⟨_, rfl, _, rfl, .inl ⟨n, rfl, _, rfl, iteT ⟨_, rfl, _, rfl, _, _, rfl, rfl, _, rfl, ?_⟩⟩⟩
      unfold numB at q
      refine ite2 (fun c => ?_) (fun c => ?_)
      · rw [c] at q
        exact ⟨_, rfl, _, _, rfl, rfl, q⟩
      · rw [Bool.eq_false_iff.mpr c] at q
        exact q
    · exact ⟨_, rfl, _, rfl, .inr ⟨e, _, rfl, iteF q⟩⟩
theorem ok_named {f : Addr} {fd : FuncData} {k : Nat} (F : Fun K "_law_named" "_law_named" sLawNamed f fd) (b_isinstance : mg "isinstance" = none) (b_str : mg "str" = none) (b_len : mg "len" = none) : FnOk P w K mg base CX0 (k + 1) f fd ["thing"] (spNamed K) := by
  refine F.ok scLawNamed (fun vs H Q E h => ?_) (fun cdv A outer s H vs Q E hr h => ?_)
  · obtain ⟨v, rfl, _⟩ := h
    rfl
  · obtain ⟨v, rfl, h⟩ := h
    refine ⟨_, (pss_cons (ps_if (pt_not (pt_val (pe_callB call_isi rfl b_isinstance (by decide +kernel) (pa_cons (pv 0) (pa_cons (pe_ty "str" rfl b_str (by decide +kernel)) pa_nil))))) (pss_one (ps_ret pe_bl)) pss_nil)
      (pss_one (ps_ret (pe_and (pe_cmpR op_ne (pv 0) pe_str (nomark _)) (pe_and (pe_cmpR op_le (pe_callB call_len rfl b_len (by decide +kernel) (pa_cons (pv 0) pa_nil)) pe_int (nomark _)) (pe_one (pe_cmpR op_eq (pe_m1 PySem.F.slot_str_strip PySem.F.type_str_strip mt_stripChars (pv 0) pe_str) pe_str (nomark _)))))))), ?_⟩
    rcases h with ⟨z, rfl, hz, q⟩ | ⟨⟨t, ty, e⟩, q⟩
    · refine ⟨_, rfl, _, _, _, _, _, rfl, .ty _, .base (.str z), k1_ss, _, rfl, iteF ⟨_, rfl, rfl, _, rfl, ?_⟩⟩
      unfold namedB at q
      refine ite2 (fun c => ?_) (fun c => ?_)
      · rw [c, Bool.true_and] at q
        refine ⟨_, rfl, _, _, rfl, ⟨hz, rfl⟩, _, _, rfl, rfl, _, rfl, ite2 (fun c2 => ?_) (fun c2 => ?_)⟩
        · rw [c2, Bool.true_and] at q
          exact ⟨_, rfl, ⟨_, rfl⟩, z, _, rfl, rfl, hz, rfl, q⟩
        · rw [Bool.eq_false_iff.mpr c2] at q
          exact q
      · rw [Bool.eq_false_iff.mpr c] at q
        exact q
    · exact ⟨_, rfl, _, _, _, _, _, rfl, .ty _, ty, e, _, rfl, iteT q⟩
end
end My

set_option Elab.async false
set_option linter.all false
set_option maxRecDepth 100000
namespace My
open PySem PySem.Spec PyProof.Rows L2
abbrev sLawOdd : Stmt := topS 28
theorem scLawOdd : FnScope ["bag", "some"] ["bag"] (defScope sLawOdd) := ⟨rfl, rfl, rfl, by decide +kernel, rfl, by decide +kernel, by decide +kernel⟩
abbrev sLawString : Stmt := topS 29
theorem scLawString : FnScope ["bag", "signs", "pick", "size", "k", "word", "spot"] ["bag"] (defScope sLawString) := ⟨rfl, rfl, rfl, by decide +kernel, rfl, by decide +kernel, by decide +kernel⟩
abbrev sLawAmount : Stmt := topS 31
theorem scLawAmount : FnScope ["bag", "size", "some"] ["bag"] (defScope sLawAmount) := ⟨rfl, rfl, rfl, by decide +kernel, rfl, by decide +kernel, by decide +kernel⟩
/-! ### texts of small signs -/
def Sm (z : Str) : Prop := z.cps.all (· < 128) = true
instance (z : Str) : Decidable (Sm z) := by unfold Sm; exact inferInstance
theorem sm_app {x y : Str} (hx : Sm x) (hy : Sm y) : Sm (x ++ y) := by
  show (x.cps ++ y.cps).all (· < 128) = true
  rw [Array.all_append, show x.cps.all (· < 128) = true from hx, show y.cps.all (· < 128) = true from hy]
  rfl
theorem sm_cut {z : Str} (h : Sm z) (lo hi : Option Int) : Sm (cutS z lo hi) := by
  unfold cutS Sm
  rw [← Array.all_toList] at *
  have h' : z.cps.toList.all (· < 128) = true := by
    have := h
    unfold Sm at this
    rw [← Array.all_toList] at this
    exact this
  rw [List.all_eq_true] at h' ⊢
  intro c hc
  have hc' : c ∈ (z.cps.toList.drop (HT.sIx z.length 0 lo)).take (HT.sIx z.length z.length hi - HT.sIx z.length 0 lo) := by simpa using hc
  exact h' c (List.mem_of_mem_drop (List.mem_of_mem_take hc'))
theorem cut_len (z : Str) (lo hi : Option Int) : (cutS z lo hi).length ≤ z.length := by
  unfold cutS
  show (((z.cps.toList.drop _).take _).toArray).size ≤ z.cps.size
  rw [List.size_toArray, List.length_take, List.length_drop, Array.length_toList]
  omega
theorem sm_join : ∀ ys : List Str, (∀ y ∈ ys, Sm y) → Sm (Str.join "" ys)
  | [], _ => by decide +kernel
  | [x], h => h x (by simp)
  | x :: y :: r, h => by
    show Sm (x ++ "" ++ Str.join "" (y :: r))
    exact sm_app (sm_app (h x (by simp)) (by decide +kernel)) (sm_join (y :: r) fun z hz => h z (List.mem_cons_of_mem _ hz))
theorem sum_ones : ∀ ys : List Str, (∀ y ∈ ys, y.length = 1) → (ys.map (·.length)).sum = ys.length
  | [], _ => rfl
  | y :: r, h => by
    rw [List.map_cons, List.sum_cons, sum_ones r fun z hz => h z (List.mem_cons_of_mem _ hz), h y (by simp), List.length_cons]
    omega
theorem joined {ys : List Str} (h : ∀ y ∈ ys, Sm y ∧ y.length = 1) : Sm (Txt.join "" ys) ∧ (Txt.join "" ys).length ≤ ys.length := by
  have e : Txt.join "" ys = Str.join "" ys := StrLaws.glued_eq_join "" ys
  rw [e]
  refine ⟨sm_join ys fun y hy => (h y hy).1, ?_⟩
  have l := StrLaws.join_length_le "" ys
  rw [sum_ones ys fun y hy => (h y hy).2] at l
  have : ("" : Str).length = 0 := rfl
  rw [this] at l
  omega
def signsA : Str := match defBody sLawString with
  | .Assign _ (.BinOp (.BinOp (.Constant (.str s1) _ _) _ (.Constant (.str s2) _ _) _) _ (.Constant (.str s3) _ _) _) _ :: _ => s1 ++ s2 ++ s3
  | _ => Str.empty
def lowA : Str := cutS signsA none (some 26)
def restA : Str := cutS signsA (some 26) none ++ Txt.mul "\n" 12
theorem facts_signs : Sm signsA ∧ 0 < signsA.length ∧ signsA.length < 1000 := by decide +kernel
theorem facts_low : Sm lowA ∧ 0 < lowA.length ∧ lowA.length < 1000 := by decide +kernel
theorem facts_rest : Sm restA ∧ 0 < restA.length ∧ restA.length < 1000 := by decide +kernel
theorem mul12 : MulOk "\n" 12 := ⟨by decide +kernel, by decide +kernel, by decide +kernel⟩
def spOfS (K : PySem.W.Frag) : Sp := fun vs H Q _ => ∃ (b : Addr) (z : Str) (c : Addr) (ns : List Int), vs = [.ref b, .str z] ∧ BagC K H b c ns ∧ (Sm z ∧ 0 < z.length ∧ z.length < 1000) ∧ ∀ y H', Sm y → y.length = 1 → BagC K H' b c ns → But b H H' → Q (.str y) H'
def spString (K : PySem.W.Frag) : Sp := fun vs H Q _ => ∃ b, vs = [.ref b] ∧ BagAt K H b ∧ ∀ z H', Sm z → z.length ≤ 100 → BagAt K H' b → But b H H' → Q (.str z) H'
def spAmount (K : PySem.W.Frag) : Sp := fun vs H Q _ => ∃ b, vs = [.ref b] ∧ BagAt K H b ∧ ∀ (n : Int) H', n.natAbs < 10 ^ 50 → BagAt K H' b → But b H H' → Q (.int n) H'
theorem bag_ne {K : PySem.W.Frag} {H : Hp} {b p : Addr} (B : BagAt K H b) (h : H p = none) : p ≠ b := by
  obtain ⟨c, ns, i, g, x, n, B⟩ := B
  exact (ne_of_none B.ob h).symm
section
variable {P : Program} {w : World} {K : PySem.W.Frag} {mg : Str → Option Value} {base : Heap}
theorem ok_ofS {f fD : Addr} {fd fdD : FuncData} {k : Nat} (F : Fun K "_law_of" "_law_of" sLawOf f fd) (D : Cal P w K mg base "_law_draw" (k + 1) ["bag", "size"] (spDrawC K) fD fdD) (b_len : mg "len" = none) : FnOk P w K mg base CX0 (k + 2) f fd ["bag", "things"] (spOfS K) := by
  refine F.ok scLawOf (fun vs H Q E h => ?_) (fun cdv A outer s H vs Q E hr h => ?_)
  · obtain ⟨b, z, c, ns, rfl, _⟩ := h
    rfl
  · obtain ⟨b, z, c, ns, rfl, B, ⟨hs, h0, h1⟩, q⟩ := h
    refine ⟨_, (pss_one (ps_ret (pe_ix ix_str (pv 1) (pe_call D.ok hr rfl D.g D.kp D.b .nil pass0 (pa_cons (pv 0) (pa_cons (pe_callB call_len rfl b_len (by decide +kernel) (pa_cons (pv 1) pa_nil)) pa_nil))) (fun _ _ => rfl)))), ?_⟩
    have hz : z.length ≤ sizeLine := Nat.le_of_lt (small1000 (by omega))
    refine ⟨_, rfl, _, rfl, _, rfl, _, _, rfl, ⟨hz, rfl⟩, b, _, c, ns, rfl, B, by omega, by omega, fun r H' r0 r1 B' t => ?_⟩
    obtain ⟨j, rfl⟩ : ∃ j : Nat, r = (j : Int) := ⟨r.toNat, by omega⟩
    have hj : j < z.cps.toList.length := by
      rw [Array.length_toList]
      show j < z.length
      omega
    refine ⟨z, _, z.cps.toList[j], rfl, rfl, hz, atI_nat (List.getElem?_eq_getElem hj), q _ H' ?_ rfl B' t⟩
    have h' : z.cps.toList.all (· < 128) = true := by
      have := hs
      unfold Sm at this
      rw [← Array.all_toList] at this
      exact this
    rw [List.all_eq_true] at h'
    have := h' _ (List.getElem_mem hj)
    show (#[z.cps.toList[j]] : Array Nat).all (· < 128) = true
    simpa using this
theorem ok_amount {f fD fO : Addr} {fd fdD fdO : FuncData} {k : Nat} (F : Fun K "_law_amount" "_law_amount" sLawAmount f fd) (D : Cal P w K mg base "_law_draw" (k + 1) ["bag", "size"] (spDraw K) fD fdD) (O : Cal P w K mg base "_law_of" (k + 2) ["bag", "things"] (spOf K) fO fdO) :
    FnOk P w K mg base CX0 (k + 3) f fd ["bag"] (spAmount K) := by
  refine F.ok scLawAmount (fun vs H Q E h => ?_) (fun cdv A outer s H vs Q E hr h => ?_)
  · obtain ⟨b, rfl, _⟩ := h
    rfl
  · obtain ⟨b, rfl, B, q⟩ := h
    have hr1 : Room (k + 1) _ := hr.mono (by omega)
    refine ⟨_, (pss_cons (ps_set (i := 1) scLawAmount.nd rfl (.inl rfl) (pe_call O.ok hr rfl O.g O.kp O.b .nil pass0 (pa_cons (pv 0) (pa_cons (pe_lst (pa_cons pe_int (pa_cons pe_int (pa_cons pe_int (pa_cons (pe_op op_powG pe_int pe_int) pa_nil))))) pa_nil))))
      (pss_cons (ps_set (i := 2) scLawAmount.nd rfl (.inl rfl) (pe_op op_add (pe_op op_mulG (pe_call D.ok hr1 rfl D.g D.kp D.b .nil pass0 (pa_cons (pv 0) (pa_cons (pv 1) pa_nil))) (pe_call O.ok hr rfl O.g O.kp O.b .nil pass0 (pa_cons (pv 0) (pa_cons (pe_lst (pa_cons pe_int (pa_cons pe_int (pa_cons (pe_op op_add (pe_op op_powG pe_int pe_int) pe_int) (pa_cons (pe_op op_add (pe_op op_powG pe_int pe_int) pe_int) pa_nil))))) pa_nil)))) (pe_call D.ok hr1 rfl D.g D.kp D.b .nil pass0 (pa_cons (pv 0) (pa_cons (pv 1) pa_nil)))))
      (pss_one (ps_ret (pe_ifExp (pt_cmpR op_gt (pe_call D.ok hr1 rfl D.g D.kp D.b .nil pass0 (pa_cons (pv 0) (pa_cons pe_int pa_nil))) pe_int (nomark _)) (pv 2) (pe_op op_sub pe_int (pv 2))))))), ?_⟩
    refine ⟨_, rfl, _, _, rfl, rfl, ⟨by decide, by decide +kernel⟩, (by show 4 ≤ sizeLine; decide), fun p np => ?_⟩
    have B1 := B.same (same_upd (o := .lst [.int 2, .int 5, .int 100, .int ((10 : Int) ^ (9 : Int).toNat)]) np)
    refine ⟨b, p, _, rfl, B1, bag_ne B np, SqL.of upd_same, (by show 0 < 4; decide), (by show 4 < 1000; decide), fun v H2 hv B2 t2 => ?_⟩
    have u2 : But b H H2 := (But.of (same_upd np)).trans t2
    obtain ⟨m, rfl, m0, m1⟩ : ∃ m : Int, v = .int m ∧ 0 < m ∧ m ≤ 1000000000 := by
      simp only [List.append_nil, List.mem_cons, List.not_mem_nil, or_false] at hv
      rcases hv with rfl | rfl | rfl | rfl <;> exact ⟨_, rfl, by decide +kernel, by decide +kernel⟩
    refine ⟨_, rfl, _, rfl, b, m, rfl, B2, m0, by omega, fun d H3 d0 d1 B3 t3 => ?_⟩
    refine ⟨_, rfl, _, _, rfl, rfl, ⟨by decide, by decide +kernel⟩, _, _, rfl, rfl, _, _, rfl, rfl, ⟨by decide, by decide +kernel⟩, _, _, rfl, rfl, (by show 4 ≤ sizeLine; decide), fun p2 np2 => ?_⟩
    have B4 := B3.same (same_upd (o := .lst [.int 1, .int 1, .int ((10 : Int) ^ (9 : Int).toNat + 7), .int ((10 : Int) ^ (31 : Int).toNat + 3)]) np2)
    refine ⟨b, p2, _, rfl, B4, bag_ne B3 np2, SqL.of upd_same, (by show 0 < 4; decide), (by show 4 < 1000; decide), fun v H5 hv B5 t5 => ?_⟩
    obtain ⟨m2, rfl, n0, n1⟩ : ∃ m : Int, v = .int m ∧ 0 < m ∧ m ≤ 10000000000000000000000000000000003 := by
      simp only [List.append_nil, List.mem_cons, List.not_mem_nil, or_false] at hv
      rcases hv with rfl | rfl | rfl | rfl <;> exact ⟨_, rfl, by decide +kernel, by decide +kernel⟩
    have hd : d.natAbs < 2 ^ 200 := by omega
    have hm2 : m2.natAbs < 2 ^ 200 := by omega
    refine ⟨_, _, rfl, rfl, (wide_mul hd hm2 (by decide) (by decide) (by decide)).ok, _, rfl, _, rfl, b, m, rfl, B5, m0, by omega, fun e H6 e0 e1 B6 t6 => ⟨_, _, rfl, rfl, ?_⟩⟩
    have hp : (d * m2).natAbs ≤ 1000000000 * 10000000000000000000000000000000003 := by
      rw [Int.natAbs_mul]
      exact Nat.mul_le_mul (by omega) (by omega)
    have hn : (d * m2 + e).natAbs < 10 ^ 50 := by
      revert hp
      generalize d * m2 = x
      intro hp
      omega
    have u6 : But b H H6 := (((u2.trans t3).trans (But.of (same_upd np2))).trans t5).trans t6
    refine ⟨_, rfl, b, 3, rfl, B6, by decide, by decide, fun g H7 g0 g1 B7 t7 => ⟨_, _, rfl, rfl, _, rfl, ite2 (fun _ => ?_) (fun _ => ?_)⟩⟩
    · exact ⟨_, rfl, q _ H7 hn B7 (u6.trans t7)⟩
    · exact ⟨_, rfl, _, _, rfl, rfl, q _ H7 (by revert hn; generalize d * m2 + e = x; intro hn; omega) B7 (u6.trans t7)⟩
end
end My

set_option Elab.async false
set_option linter.all false
set_option maxRecDepth 100000
namespace My
open PySem PySem.Spec PyProof.Rows L2
section
variable {P : Program} {w : World} {K : PySem.W.Frag} {mg : Str → Option Value} {base : Heap}
theorem ok_string {f fD fO fS : Addr} {fd fdD fdO fdS : FuncData} {k : Nat} (F : Fun K "_law_string" "_law_string" sLawString f fd) (D : Cal P w K mg base "_law_draw" (k + 1) ["bag", "size"] (spDraw K) fD fdD) (O : Cal P w K mg base "_law_of" (k + 2) ["bag", "things"] (spOf K) fO fdO) (S : Cal P w K mg base "_law_of" (k + 2) ["bag", "things"] (spOfS K) fS fdS) (b_range : mg "range" = none) :
    FnOk P w K mg base CX0 (k + 3) f fd ["bag"] (spString K) := by
  refine F.ok scLawString (fun vs H Q E h => ?_) (fun cdv A outer s H vs Q E hr h => ?_)
  · obtain ⟨b, rfl, _⟩ := h
    rfl
  · obtain ⟨b, rfl, B, q⟩ := h
    have hr1 : Room (k + 1) _ := hr.mono (by omega)
    refine ⟨_, (pss_cons (ps_set (i := 1) scLawString.nd rfl (.inr rfl) (pe_op op_add_str (pe_op op_add_str pe_str pe_str) pe_str))
      (pss_cons (ps_set (i := 2) scLawString.nd rfl (.inl rfl) (pe_call D.ok hr1 rfl D.g D.kp D.b .nil pass0 (pa_cons (pv 0) (pa_cons pe_int pa_nil))))
      (pss_cons (ps_set (i := 3) scLawString.nd rfl (.inl rfl) (pe_call O.ok hr rfl O.g O.kp O.b .nil pass0 (pa_cons (pv 0) (pa_cons (pe_lst (pa_cons pe_int (pa_cons pe_int (pa_cons pe_int (pa_cons (pe_call D.ok hr1 rfl D.g D.kp D.b .nil pass0 (pa_cons (pv 0) (pa_cons pe_int pa_nil))) pa_nil))))) pa_nil))))
      (pss_cons (ps_if (pt_cmpR op_eq (pv 2) pe_int (nomark _)) (pss_one (ps_ret (pe_join pe_str (pe_lc (own := [("k", 4)]) (g := gName 4) (tt := tYes) rfl scLawString.nd (pi_range1 rfl b_range (pa_cons (pv 3) pa_nil)) (blkOk_by (own := [("k", 4)]) (N := ["bag", "signs", "pick", "size", "k", "word", "spot"]) (sc := defScope sLawString) (by decide +kernel)) (fun _ _ _ _ _ => (pg_name (i := 4) scLawString.nd rfl (.inl rfl) (.inr rfl))) (fun _ _ _ _ _ => pts_nil) (fun _ _ _ _ _ => (pe_call S.ok hr rfl S.g S.kp S.b .nil pass0 (pa_cons (pv 0) (pa_cons (pv 1) pa_nil)))))))) pss_nil)
      (pss_cons (ps_set (i := 5) scLawString.nd rfl (.inl rfl) (pe_join pe_str (pe_lc (own := [("k", 4)]) (g := gName 4) (tt := tYes) rfl scLawString.nd (pi_range1 rfl b_range (pa_cons (pv 3) pa_nil)) (blkOk_by (own := [("k", 4)]) (N := ["bag", "signs", "pick", "size", "k", "word", "spot"]) (sc := defScope sLawString) (by decide +kernel)) (fun _ _ _ _ _ => (pg_name (i := 4) scLawString.nd rfl (.inl rfl) (.inr rfl))) (fun _ _ _ _ _ => pts_nil) (fun _ _ _ _ _ => (pe_call S.ok hr rfl S.g S.kp S.b .nil pass0 (pa_cons (pv 0) (pa_cons (pe_slice sl_str (pv 1) po_none (po_some pe_int)) pa_nil)))))))
      (pss_cons (ps_if (pt_cmpR op_lt (pv 2) pe_int (nomark _)) (pss_one (ps_ret (pv 5))) pss_nil)
      (pss_cons (ps_set (i := 6) scLawString.nd rfl (.inl rfl) (pe_call D.ok hr1 rfl D.g D.kp D.b .nil pass0 (pa_cons (pv 0) (pa_cons (pe_op op_add (pv 3) pe_int) pa_nil))))
      (pss_one (ps_ret (pe_op op_add_str (pe_op op_add_str (pe_slice sl_str (pv 5) po_none (po_some (pv 6))) (pe_call S.ok hr rfl S.g S.kp S.b .nil pass0 (pa_cons (pv 0) (pa_cons (pe_op op_add_str (pe_slice sl_str (pv 1) (po_some pe_int) po_none) (pe_op op_mulS pe_str pe_int)) pa_nil)))) (pe_slice sl_str (pv 5) (po_some (pe_op op_add (pv 6) (pe_call D.ok hr1 rfl D.g D.kp D.b .nil pass0 (pa_cons (pv 0) (pa_cons pe_int pa_nil))))) po_none))))))))))), ?_⟩
    have zs : ∀ z : Str, z.length < 1000 → z.length ≤ sizeLine := fun z h => Nat.le_of_lt (small1000 (by omega))
    have hz1000 : 1000 ≤ sizeLine := by decide +kernel
    -- signs
    refine ⟨_, _, rfl, rfl, (by decide +kernel), _, _, rfl, rfl, (by decide +kernel), ?_⟩
    -- pick, size
    refine ⟨_, rfl, b, 6, rfl, B, by decide, by decide, fun pick H1 p0 p1 B1 t1 => ?_⟩
    refine ⟨_, rfl, _, rfl, b, 11, rfl, B1, by decide, by decide, fun r H2 r0 r1 B2 t2 => ⟨(by show 4 ≤ sizeLine; decide), fun p np => ?_⟩⟩
    have B3 := B2.same (same_upd (o := .lst [.int 1, .int 8, .int 9, .int r]) np)
    refine ⟨b, p, _, rfl, B3, bag_ne B2 np, SqL.of upd_same, (by show 0 < 4; decide), (by show 4 < 1000; decide), fun v H3 hv B4 t4 => ?_⟩
    have u4 : But b H H3 := ((t1.trans t2).trans (But.of (same_upd np))).trans t4
    obtain ⟨m, rfl, m0, m1⟩ : ∃ m : Int, v = .int m ∧ 0 ≤ m ∧ m ≤ 10 := by
      simp only [List.append_nil, List.mem_cons, List.not_mem_nil, or_false] at hv
      rcases hv with rfl | rfl | rfl | rfl <;> exact ⟨_, rfl, by omega, by omega⟩
    -- the letters of a comprehension
    obtain ⟨c, ns, B4⟩ := id B4
    have B4 : BagC K H3 b c ns := B4
    refine ⟨_, rfl, rfl, _, rfl, ite2 (fun _ => ?_) (fun _ => ?_)⟩
    · refine ⟨⟨_, rfl⟩, _, rfl, m, rfl, by omega, by omega, fun L nL => lc_it (walk_range (lo := 0) (n := m.toNat)) (fun i G => ∃ ys : List Str, ys.length = i ∧ (∀ y ∈ ys, Sm y ∧ y.length = 1) ∧ G L = some (.lst (ys.map V.str)) ∧ BagC K G b c ns ∧ But b H G) ⟨[], rfl, (fun y hy => absurd hy (by simp)), upd_same, B4.same (same_upd nL), u4.trans (But.of (same_upd nL))⟩ (fun _ _ _ _ => trivial) ?_ ?_⟩
      · rintro i x G G' hi ⟨ys, hl, hy, hL, BG, uG⟩ ⟨rfl, rfl⟩
        refine ⟨rfl, ?_⟩
        unfold tYes
        have Lb : L ≠ b := bag_ne B4.at nL
        refine iteT ⟨_, rfl, _, rfl, b, _, c, ns, rfl, BG, facts_signs, fun y G2 s1 l1 B2 t2 => ?_⟩
        refine ⟨_, t2 _ _ Lb hL, ?_, ys ++ [y], ?_, ?_, ?_, B2.upd (B4.off nL) Lb, ?_⟩
        · rw [List.length_map]
          exact small1000 (by omega)
        · rw [List.length_append, hl]
          rfl
        · intro z hz
          rcases List.mem_append.mp hz with h | h
          · exact hy z h
          · have : z = y := by simpa using h
            rw [this]
            exact ⟨s1, l1⟩
        · rw [upd_same, List.map_append]
          rfl
        · intro a o n h
          rw [upd_ne (ne_of_none (u4 _ _ n h) nL)]
          exact t2 _ _ n (uG _ _ n h)
      · rintro G ⟨ys, hl, hy, hL, BG, uG⟩
        have hn : ys.length ≤ 10 := by omega
        obtain ⟨j1, j2⟩ := joined hy
        refine ⟨_, L, ys, rfl, rfl, .inl (SqL.of hL), ?_, ?_⟩
        · rw [sum_ones ys fun y hy' => (hy y hy').2]
          show ys.length + ys.length * 0 ≤ 16777216
          omega
        exact q _ G j1 (by omega) BG.at uG
    · refine ⟨⟨_, rfl⟩, _, rfl, m, rfl, by omega, by omega, fun L nL => lc_it (walk_range (lo := 0) (n := m.toNat)) (fun i G => ∃ ys : List Str, ys.length = i ∧ (∀ y ∈ ys, Sm y ∧ y.length = 1) ∧ G L = some (.lst (ys.map V.str)) ∧ BagC K G b c ns ∧ But b H G) ⟨[], rfl, (fun y hy => absurd hy (by simp)), upd_same, B4.same (same_upd nL), u4.trans (But.of (same_upd nL))⟩ (fun _ _ _ _ => trivial) ?_ ?_⟩
      · rintro i x G G' hi ⟨ys, hl, hy, hL, BG, uG⟩ ⟨rfl, rfl⟩
        refine ⟨rfl, ?_⟩
        unfold tYes
        have Lb : L ≠ b := bag_ne B4.at nL
        refine iteT ⟨_, rfl, _, rfl, _, rfl, _, rfl, zs _ facts_signs.2.2, b, lowA, c, ns, rfl, BG, facts_low, fun y G2 s1 l1 B2 t2 => ?_⟩
        refine ⟨_, t2 _ _ Lb hL, ?_, ys ++ [y], ?_, ?_, ?_, B2.upd (B4.off nL) Lb, ?_⟩
        · rw [List.length_map]
          exact small1000 (by omega)
        · rw [List.length_append, hl]
          rfl
        · intro z hz
          rcases List.mem_append.mp hz with h | h
          · exact hy z h
          · have : z = y := by simpa using h
            rw [this]
            exact ⟨s1, l1⟩
        · rw [upd_same, List.map_append]
          rfl
        · intro a o n h
          rw [upd_ne (ne_of_none (u4 _ _ n h) nL)]
          exact t2 _ _ n (uG _ _ n h)
      · rintro G ⟨ys, hl, hy, hL, BG, uG⟩
        have hn : ys.length ≤ 10 := by omega
        obtain ⟨j1, j2⟩ := joined hy
        refine ⟨_, L, ys, rfl, rfl, .inl (SqL.of hL), ?_, ?_⟩
        · rw [sum_ones ys fun y hy' => (hy y hy').2]
          show ys.length + ys.length * 0 ≤ 16777216
          omega
        generalize hW : Txt.join "" ys = W at j1 j2
        -- word
        refine ⟨_, rfl, _, _, rfl, rfl, _, rfl, ite2 (fun _ => ?_) (fun _ => ?_)⟩
        · exact ⟨_, rfl, q _ G j1 (by omega) BG.at uG⟩
        · have hW1 : W.length ≤ sizeLine := zs _ (by omega)
          refine ⟨_, rfl, _, rfl, _, _, rfl, rfl, b, _, rfl, BG.at, by omega, by omega, fun spot G1 s0 s1 C1 v1 => ?_⟩
          obtain ⟨c', ns', C1'⟩ := id C1
          have C1' : BagC K G1 b c' ns' := C1'
          refine ⟨_, rfl, _, rfl, _, rfl, W, rfl, hW1, ?_⟩
          refine ⟨_, rfl, _, rfl, _, rfl, _, rfl, zs _ facts_signs.2.2, "\n", 12, rfl, rfl, mul12, _, _, rfl, rfl, (by decide +kernel), b, restA, c', ns', rfl, C1', facts_rest, fun y G2 s2 l2 C2 v2 => ?_⟩
          have la : (cutS W none (some spot)).length ≤ W.length := cut_len _ _ _
          refine ⟨_, _, rfl, rfl, (by rw [l2]; omega), ?_⟩
          refine ⟨_, rfl, _, rfl, _, rfl, b, 2, rfl, C2.at, by decide, by decide, fun d G3 d0 d1 C3 v3 => ⟨_, _, rfl, rfl, _, rfl, W, rfl, hW1, ?_⟩⟩
          have lb : (cutS W (some (spot + d)) none).length ≤ W.length := cut_len _ _ _
          have lab : (cutS W none (some spot) ++ y).length = (cutS W none (some spot)).length + 1 := by rw [Str.length_append, l2]
          refine ⟨_, _, rfl, rfl, (by rw [lab]; omega), ?_⟩
          refine q _ G3 (sm_app (sm_app (sm_cut j1 _ _) s2) (sm_cut j1 _ _)) ?_ C3 (((uG.trans v1).trans v2).trans v3)
          rw [Str.length_append, lab]
          omega
end
end My

set_option Elab.async false
set_option linter.all false
set_option maxRecDepth 100000
namespace My
open PySem PySem.Spec PyProof.Rows L2
/-- the class One as the top leaves it -/
structure OneT (K : PySem.W.Frag) (mg : Str → Option Value) (C : Addr) : Prop where
  cl : Cls K C
  nW : NoAttr K C "word"
  nN : NoAttr K C "number"
  mgC : mg "One" = some (.ref C)
  ha : PySem.W.findIn K (.ref C) "__class__" = some (some (.builtin "object.__class__"))
  hn : PySem.W.specialIn K (.builtin "object.__class__") "__get__" = some (some (.builtin "getset_descriptor.__get__"))
  htk : PySem.W.takesIn K (.builtin "object.__class__") = some true
  hm : PySem.W.mroIn K C (.type "object") = some true
  ks : PySem.W.kitOne K (.ref C) (.type "str") = some false
  ki : PySem.W.kitOne K (.ref C) (.type "int") = some false
  kb : PySem.W.kitOne K (.ref C) (.type "bool") = some false
def spOneInit (C : Addr) : Sp := fun vs H Q _ => ∃ (p dx : Addr), vs = [.ref p] ∧ H p = some (.ins C dx []) ∧ ∀ (H' : Hp) (fs : List (Str × V)), H' p = some (.ins C dx fs) → (∀ b o, H b = some o → b ≠ p → H' b = some o) → Q .non H'
def spOdd (K : PySem.W.Frag) : Sp := fun vs H Q _ => ∃ b, vs = [.ref b] ∧ BagAt K H b ∧ ∀ v H', NoInt K H' v → NoStr K H' v → (∀ a, v = .ref a → a ≠ b) → BagAt K H' b → But b H H' → Q v H'
def Odd (K : PySem.W.Frag) (H : Hp) (v : V) : Prop := ∃ t, TyX K H v t ∧ PySem.W.kitOne K t (.type "str") = some false ∧ (PySem.W.kitOne K t (.type "int") = some false ∨ PySem.W.kitOne K t (.type "int") = some true) ∧ (∃ b2, PySem.W.kitOne K t (.type "bool") = some b2 ∧ (PySem.W.kitOne K t (.type "int") = some true → b2 = true))
theorem Odd.noStr {K : PySem.W.Frag} {H : Hp} {v : V} (h : Odd K H v) : NoStr K H v := let ⟨t, ty, s, _⟩ := h; ⟨t, ty, s⟩
theorem Odd.noInt {K : PySem.W.Frag} {H : Hp} {v : V} (h : Odd K H v) : NoInt K H v := by
  obtain ⟨t, ty, s, i, b2, e, f⟩ := h
  rcases i with i | i
  · exact ⟨t, false, b2, ty, i, e, fun z => by cases z⟩
  · exact ⟨t, true, b2, ty, i, e, fun _ => f i⟩
theorem Odd.keep {K : PySem.W.Frag} {H H' : Hp} {v : V} (k : ∀ a o, v = .ref a → H a = some o → H' a = some o) (h : Odd K H v) : Odd K H' v := let ⟨t, ty, r⟩ := h; ⟨t, My.TyX.keep k ty, r⟩
theorem odd_non {K : PySem.W.Frag} {H : Hp} : Odd K H .non := ⟨_, .base .non, by rfl, .inl (by rfl), _, by rfl, fun z => by cases z⟩
theorem odd_bl {K : PySem.W.Frag} {H : Hp} (b : Bool) : Odd K H (.bl b) := ⟨_, .base (.bl b), by rfl, .inr (by rfl), true, by rfl, fun _ => rfl⟩
theorem odd_tup {K : PySem.W.Frag} {H : Hp} {a : Addr} {xs : List V} (h : H a = some (.tup xs)) : Odd K H (.ref a) := ⟨_, .base (.tup h), by rfl, .inl (by rfl), _, by rfl, fun z => by cases z⟩
theorem odd_lst {K : PySem.W.Frag} {H : Hp} {a : Addr} {xs : List V} (h : H a = some (.lst xs)) : Odd K H (.ref a) := ⟨_, .base (.lst h), by rfl, .inl (by rfl), _, by rfl, fun z => by cases z⟩
theorem odd_one {K : PySem.W.Frag} {mg : Str → Option Value} {C : Addr} {H : Hp} {a dx : Addr} {fs : List (Str × V)} (T : OneT K mg C) (h : H a = some (.ins C dx fs)) : Odd K H (.ref a) :=
  ⟨_, .base (.ins h T.cl T.ha T.hn T.htk T.hm), T.ks, .inl T.ki, false, T.kb, fun z => by rw [T.ki] at z; cases z⟩
section
variable {P : Program} {w : World} {K : PySem.W.Frag} {mg : Str → Option Value} {base : Heap}
theorem ok_one {f C : Addr} {fd : FuncData} {k : Nat} (F : Fun K "__init__" "One.__init__" sOneInit f fd) (T : OneT K mg C) : FnOk P w K mg base CX0 (k + 1) f fd ["self"] (spOneInit C) := by
  refine F.ok scOneInit (fun vs H Q E h => ?_) (fun cdv A outer s H vs Q E hr h => ?_)
  · obtain ⟨p, dx, rfl, _⟩ := h
    rfl
  · obtain ⟨p, dx, rfl, hp, q⟩ := h
    refine ⟨_, pss_cons (ps_fld (pv 0) pe_str rfl) (pss_one (ps_fld (pv 0) pe_int rfl)), ?_⟩
    refine ⟨_, rfl, p, C, dx, [], rfl, hp, T.cl, T.nW, (by show 0 < 1000; decide), _, rfl, p, C, dx, _, rfl, upd_same, T.cl, T.nN, (by show 1 < 1000; decide), ?_⟩
    refine q _ _ upd_same fun b o e hb => ?_
    rw [upd_ne hb, upd_ne hb]
    exact e
theorem ok_odd {f fD f1 C : Addr} {fd fdD fd1 : FuncData} {k : Nat} (F : Fun K "_law_odd" "_law_odd" sLawOdd f fd) (D : Cal P w K mg base "_law_draw" 1 ["bag", "size"] (spDraw K) fD fdD) (M : Mk K C f1) (T : OneT K mg C) (G1 : FnOk P w K mg base CX0 1 f1 fd1 ["self"] (spOneInit C)) (b1 : Binds K fd1 ["self"] []) (b_len : mg "len" = none) :
    FnOk P w K mg base CX0 3 f fd ["bag"] (spOdd K) := by
  refine F.ok scLawOdd (fun vs H Q E h => ?_) (fun cdv A outer s H vs Q E hr h => ?_)
  · obtain ⟨b, rfl, _⟩ := h
    rfl
  · obtain ⟨b, rfl, B, q⟩ := h
    have hr1 : Room 1 _ := hr.mono (by omega)
    refine ⟨_, (pss_cons (ps_set (i := 1) scLawOdd.nd rfl (.inl rfl) (pe_lst (pa_cons pe_non (pa_cons pe_bl (pa_cons pe_bl (pa_cons (pe_tup (pa_cons pe_str pa_nil)) (pa_cons (pe_lst (pa_cons pe_str pa_nil)) (pa_cons (pe_tup pa_nil) (pa_cons (pe_lst pa_nil) (pa_cons (pe_make0 M G1 hr rfl T.mgC b1 .nil pass0) (pa_cons (pe_tup (pa_cons pe_str (pa_cons pe_int pa_nil))) (pa_cons (pe_lst (pa_cons (pe_lst (pa_cons pe_int pa_nil)) pa_nil)) (pa_cons (pe_tup (pa_cons pe_bl (pa_cons pe_non pa_nil))) pa_nil)))))))))))))
      (pss_one (ps_ret (pe_ix ix_list (pv 1) (pe_call D.ok hr1 rfl D.g D.kp D.b .nil pass0 (pa_cons (pv 0) (pa_cons (pe_callB call_len rfl b_len (by decide +kernel) (pa_cons (pv 1) pa_nil)) pa_nil))) (fun _ _ => rfl))))), ?_⟩
    refine ⟨(by show 1 ≤ sizeLine; decide), fun p1 n1 => ⟨(by show 1 ≤ sizeLine; decide), fun p2 n2 => ⟨Nat.zero_le _, fun p3 n3 => ⟨Nat.zero_le _, fun p4 n4 => fun x dx nx ndx nex => ⟨x, dx, rfl, upd_same, fun H5 fs e5 kp => ⟨rfl, ?_⟩⟩⟩⟩⟩⟩
    refine ⟨(by show 2 ≤ sizeLine; decide), fun p5 n5 => ⟨(by show 1 ≤ sizeLine; decide), fun p6 n6 => ⟨(by show 1 ≤ sizeLine; decide), fun p7 n7 => ⟨(by show 2 ≤ sizeLine; decide), fun p8 n8 => ⟨(by show 11 ≤ sizeLine; decide), fun l nl => ?_⟩⟩⟩⟩⟩
    have s1 := same_upd (o := .tup [.str "a"]) n1
    have s2 := same_upd (o := .lst [.str "a"]) n2
    have s3 := same_upd (o := .tup []) n3
    have s4 := same_upd (o := .lst []) n4
    have r4 := ((s1.trans s2).trans s3).trans s4
    have s5 : Same (upd (upd (upd (upd H p1 (.tup [.str "a"])) p2 (.lst [.str "a"])) p3 (.tup [])) p4 (.lst [])) H5 := fun a o e => kp a o (by rw [upd_ne (ne_of_none e nx), upd_ne (ne_of_none e ndx)]; exact e) (ne_of_none e nx)
    have s6 := same_upd (o := .tup [.str "ann", .int 1]) n5
    have s7 := same_upd (o := .lst [.int 1]) n6
    have s8 := same_upd (o := .lst [.ref p6]) n7
    have s9 := same_upd (o := .tup [.bl true, .non]) n8
    have s10 := same_upd (o := .lst [.non, .bl true, .bl false, .ref p1, .ref p2, .ref p3, .ref p4, .ref x, .ref p5, .ref p7, .ref p8]) nl
    have a10 := s10
    have a9 := s9.trans a10
    have a8 := s8.trans a9
    have a7 := s7.trans a8
    have a6 := s6.trans a7
    have a5 := s5.trans a6
    have a4 := s4.trans a5
    have a3 := s3.trans a4
    have a2 := s2.trans a3
    have a1 := s1.trans a2
    have B10 := B.same a1
    have nb : ∀ {p : Addr} {o : HO} {G : Hp}, Same G (upd (upd (upd (upd (upd H5 p5 (.tup [.str "ann", .int 1])) p6 (.lst [.int 1])) p7 (.lst [.ref p6])) p8 (.tup [.bl true, .non])) l (.lst [.non, .bl true, .bl false, .ref p1, .ref p2, .ref p3, .ref p4, .ref x, .ref p5, .ref p7, .ref p8])) → BagAt K G b → G p = none → p ≠ b := fun _ B' n => bag_ne B' n
    refine ⟨_, rfl, _, rfl, _, rfl, _, _, rfl, .inl ⟨_, SqL.of upd_same, rfl⟩, b, _, rfl, B10, (by show (0 : Int) < 11; decide), (by show (11 : Int) < _; decide), fun r G r0 r1 BG tG => ?_⟩
    obtain ⟨j, rfl⟩ : ∃ j : Nat, r = (j : Int) := ⟨r.toNat, by omega⟩
    have lb : l ≠ b := by
      have B9 := ((((((((B.same s1).same s2).same s3).same s4).same s5).same s6).same s7).same s8).same s9
      exact bag_ne B9 nl
    have hj : j < [V.non, .bl true, .bl false, .ref p1, .ref p2, .ref p3, .ref p4, .ref x, .ref p5, .ref p7, .ref p8].length := by
      have : (j : Int) < 11 := r1
      show j < 11
      omega
    have main : ∀ v ∈ [V.non, .bl true, .bl false, .ref p1, .ref p2, .ref p3, .ref p4, .ref x, .ref p5, .ref p7, .ref p8], Odd K (upd (upd (upd (upd (upd H5 p5 (.tup [.str "ann", .int 1])) p6 (.lst [.int 1])) p7 (.lst [.ref p6])) p8 (.tup [.bl true, .non])) l (.lst [.non, .bl true, .bl false, .ref p1, .ref p2, .ref p3, .ref p4, .ref x, .ref p5, .ref p7, .ref p8])) v ∧ ∀ a, v = .ref a → a ≠ b := by
      have B1 := B.same s1
      have B2 := B1.same s2
      have B3 := B2.same s3
      have B4 := B3.same s4
      have B5 := B4.same s5
      have B6 := B5.same s6
      have B7 := B6.same s7
      have B8 := B7.same s8
      intro v hv
      simp only [List.mem_cons, List.not_mem_nil, or_false] at hv
      rcases hv with rfl | rfl | rfl | rfl | rfl | rfl | rfl | rfl | rfl | rfl | rfl
      · exact ⟨odd_non, fun a e => by cases e⟩
      · exact ⟨odd_bl _, fun a e => by cases e⟩
      · exact ⟨odd_bl _, fun a e => by cases e⟩
      · exact ⟨odd_tup (a2 _ _ upd_same), fun a e => by cases e; exact bag_ne B n1⟩
      · exact ⟨odd_lst (a3 _ _ upd_same), fun a e => by cases e; exact bag_ne B1 n2⟩
      · exact ⟨odd_tup (a4 _ _ upd_same), fun a e => by cases e; exact bag_ne B2 n3⟩
      · exact ⟨odd_lst (a5 _ _ upd_same), fun a e => by cases e; exact bag_ne B3 n4⟩
      · exact ⟨odd_one T (a6 _ _ e5), fun a e => by cases e; exact bag_ne B4 nx⟩
      · exact ⟨odd_tup (a7 _ _ upd_same), fun a e => by cases e; exact bag_ne B5 n5⟩
      · exact ⟨odd_lst (a9 _ _ upd_same), fun a e => by cases e; exact bag_ne B7 n7⟩
      · exact ⟨odd_tup (a10 _ _ upd_same), fun a e => by cases e; exact bag_ne B8 n8⟩
    obtain ⟨o1, o2⟩ := main _ (List.getElem_mem hj)
    have o3 : Odd K G [V.non, .bl true, .bl false, .ref p1, .ref p2, .ref p3, .ref p4, .ref x, .ref p5, .ref p7, .ref p8][j] := o1.keep fun a o e h => tG a o (o2 a e) h
    exact ⟨l, _, _, _, rfl, rfl, SqL.of (tG _ _ lb upd_same), atI_nat (List.getElem?_eq_getElem hj), q _ G o3.noInt o3.noStr o2 BG ((But.of a1).trans tG)⟩
end
end My

set_option Elab.async false
set_option linter.all false
set_option maxRecDepth 100000
namespace My
open PySem PySem.Spec PyProof.Rows L2
abbrev sLaw : Stmt := topS 32
theorem scLaw : FnScope ["script", "bag", "lap", "thing", "due", "low", "high", "near", "answers", "word"] ["script"] (defScope sLaw) := ⟨rfl, rfl, rfl, by decide +kernel, rfl, by decide +kernel, by decide +kernel⟩
def spLaw (K : PySem.W.Frag) : Sp := fun vs H Q _ => ∃ (a : Addr) (ns : List Int), vs = [.ref a] ∧ SqL K H a (ns.map V.int) ∧ ns.length ≤ 63 ∧ ∀ H', Q (.bl true) H'
def ownS : List Str := ["rule", "form", "seats", "row", "num", "begin", "let", "be", "if", "else", "end", "each", "times", "leave", "ask", "where", "tally", "sum", "weigh", "by", "seat", "tell", "lot", "votes", "names", "seated", "and", "or", "not", "floor", "min", "max", "top", "mark", "from", "over"].map Str.ofString
def ownV : List V := ownS.map V.str
theorem own_ok : ∀ z ∈ ownS, nameB z = true ∧ z.length ≤ 1000 := by decide +kernel
def spListed (K : PySem.W.Frag) : Sp := fun vs H Q _ => vs = [] ∧ ∀ p H', Same H H' → SqT K H' p ownV → Q (.ref p) H'
theorem paired_get {α β : Type} {F : α → β → Prop} {xs : List α} {ys : List β} (p : Paired F xs ys) : ∀ (i : Nat) x y, xs[i]? = some x → ys[i]? = some y → F x y := by
  induction p with
  | nil => intro i x y h _; simp at h
  | cons h t ih =>
    intro i x y h1 h2
    cases i with
    | zero =>
      cases h1
      cases h2
      exact h
    | succ i => exact ih i x y h1 h2
theorem Lk.lst {K : PySem.W.Frag} {H : Hp} {n : Nat} {a b : Addr} {xs ys : List V} (hx : SqL K H a xs) (hy : SqL K H b ys) (hb : xs.length < 1000) (p : Paired (Lk K H n) xs ys) : Lk K H (n + 1) (.ref a) (.ref b) :=
  .inr ⟨a, b, xs, ys, rfl, rfl, .inl ⟨hx, hy⟩, p.length, hb, paired_get p⟩
theorem Lk.lst2 {K : PySem.W.Frag} {H : Hp} {n : Nat} {a b : Addr} {x y : Bool} (hx : SqL K H a [.bl x, .bl x]) (hy : SqL K H b [.bl y, .bl y]) (e : x = y) : Lk K H (n + 1) (.ref a) (.ref b) :=
  .lst hx hy (by show 2 < 1000; decide) (.cons (.flat (by rw [e]) trivial) (.cons (.flat (by rw [e]) trivial) .nil))
theorem bindN {K : PySem.W.Frag} {f : Addr} {fd : FuncData} (F : Fun K "is_name" "is_name" sIsName f fd) : KBn K fd ["value"] 0 ["value"] (fun _ ws => ws) (fun _ zs => zs) := by
  obtain ⟨oc, od, kV, doc, pm, an, cdv, ct, osl, rfl, lk, hcd⟩ := F.ex
  refine ⟨fun s us ws X l1 l2 => ?_, fun r1 r2 => r2⟩
  match us, l1, ws, l2 with
  | [], _, [w0], _ => exact .of_eq rfl
def sw3 {α : Type} : List α → List α
  | [a, b, c] => [a, c, b]
  | l => l
theorem bindU {K : PySem.W.Frag} {f : Addr} {fd : FuncData} (F : Fun K "is_number" "is_number" sIsNumber f fd) : KBn K fd ["value", "least", "most"] 0 ["value", "most", "least"] (fun _ ws => sw3 ws) (fun _ zs => sw3 zs) := by
  obtain ⟨oc, od, kV, doc, pm, an, cdv, ct, osl, rfl, lk, hcd⟩ := F.ex
  refine ⟨fun s us ws X l1 l2 => ?_, fun r1 r2 => ?_⟩
  · match us, l1, ws, l2 with
    | [], _, [w0, w1, w2], _ => exact .of_eq rfl
  · cases r2 with
    | nil => exact .nil
    | cons a r => cases r with
      | nil => exact .cons a .nil
      | cons b r => cases r with
        | nil => exact .cons a (.cons b .nil)
        | cons c r => cases r with
          | nil => exact .cons a (.cons c (.cons b .nil))
          | cons d r => exact .cons a (.cons b (.cons c (.cons d r)))
theorem bag_updS {K : PySem.W.Frag} {H : Hp} {b N : Addr} {xs : List V} {z : Str} {o : HO} (B : BagAt K H b) (h : H N = some (.lst xs)) (hz : V.str z ∈ xs) (n : N ≠ b) : BagAt K (upd H N o) b := by
  obtain ⟨c, ns, i, g, x, m, B⟩ := B
  refine ⟨c, ns, i, g, x, m, by rw [upd_ne n.symm]; exact B.ob, ?_, B.cb, B.hi, B.x0, B.x1⟩
  by_cases hc : c = N
  · subst hc
    rcases B.sq with (s | ⟨o, s⟩) | s
    · rw [h] at s
      have e : xs = ns.map V.int := by injection s with s; injection s
      rw [e] at hz
      obtain ⟨k, _, e2⟩ := List.mem_map.mp hz
      cases e2
    · rw [h] at s
      cases s
    · exact .inr s
  · exact (But.upd (b := N)).seq hc B.sq
theorem NoInt.keep {K : PySem.W.Frag} {H H' : Hp} {v : V} (k : ∀ a o, v = .ref a → H a = some o → H' a = some o) (h : NoInt K H v) : NoInt K H' v := let ⟨t, b1, b2, ty, r⟩ := h; ⟨t, b1, b2, My.TyX.keep k ty, r⟩
theorem noInt_str {K : PySem.W.Frag} {H : Hp} (z : Str) : NoInt K H (.str z) := ⟨_, false, false, .base (.str z), by rfl, by rfl, fun z => by cases z⟩
theorem str_log {n : Int} (h : n.natAbs < 10 ^ 50) : n.natAbs.log2 < 1920 := Nat.lt_of_lt_of_le (PySem.Flt.log2_lt_of (by decide) (Nat.lt_trans h (by decide +kernel : 10 ^ 50 < 2 ^ 200))) (by decide)
section
variable {P : Program} {w : World} {K : PySem.W.Frag} {mg : Str → Option Value} {base : Heap}
theorem ok_listed {f : Addr} {fd : FuncData} {k : Nat} (F : Fun K "_law_listed" "_law_listed" sLawListed f fd) : FnOk P w K mg base CX0 (k + 1) f fd [] (spListed K) := by
  refine F.ok scLawListed (fun vs H Q E h => ?_) (fun cdv A outer s H vs Q E hr h => ?_)
  · obtain ⟨rfl, _⟩ := h
    rfl
  · obtain ⟨rfl, q⟩ := h
    refine ⟨_, (pss_cons (ps_set (i := 0) scLawListed.nd rfl (.inl rfl) (pe_tup (pa_cons pe_str (pa_cons pe_str (pa_cons pe_str (pa_cons pe_str (pa_cons pe_str (pa_cons pe_str (pa_cons pe_str (pa_cons pe_str (pa_cons pe_str (pa_cons pe_str (pa_cons pe_str (pa_cons pe_str (pa_cons pe_str pa_nil)))))))))))))))
      (pss_cons (ps_set (i := 1) scLawListed.nd rfl (.inl rfl) (pe_tup (pa_cons pe_str (pa_cons pe_str (pa_cons pe_str (pa_cons pe_str (pa_cons pe_str (pa_cons pe_str (pa_cons pe_str (pa_cons pe_str (pa_cons pe_str (pa_cons pe_str (pa_cons pe_str (pa_cons pe_str (pa_cons pe_str pa_nil)))))))))))))))
      (pss_one (ps_ret (pe_op op_catT (pe_op op_catT (pv 0) (pv 1)) (pe_tup (pa_cons pe_str (pa_cons pe_str (pa_cons pe_str (pa_cons pe_str (pa_cons pe_str (pa_cons pe_str (pa_cons pe_str (pa_cons pe_str (pa_cons pe_str (pa_cons pe_str pa_nil)))))))))))))))), ?_⟩
    refine ⟨(by show 13 ≤ sizeLine; decide), fun p1 n1 => ⟨(by show 13 ≤ sizeLine; decide), fun p2 n2 => ?_⟩⟩
    have s1 := fun xs => same_upd (o := .tup xs) n1
    refine ⟨_, rfl, _, rfl, p1, p2, _, _, rfl, rfl, seqT_same (same_upd n2) (SqT.of upd_same), SqT.of upd_same, by simp, (by show 26 ≤ sizeLine; decide), (fun h => by cases h), fun _ p3 n3 => ⟨(by show 10 ≤ sizeLine; decide), fun p4 n4 => ⟨p3, p4, _, _, rfl, rfl, seqT_same (same_upd n4) (SqT.of upd_same), SqT.of upd_same, by simp, (by show 36 ≤ sizeLine; decide), (fun h => by cases h), fun _ p5 n5 => ?_⟩⟩⟩
    exact q p5 _ ((((same_upd n1).trans (same_upd n2)).trans (same_upd n3)).trans ((same_upd n4).trans (same_upd n5))) (SqT.of upd_same)
set_option maxHeartbeats 2000000 in
theorem ok_law {f fBa fD fLi fOd fSt fNd fAm fLs fNa fNu aO : Addr} {fd fdBa fdD fdLi fdOd fdSt fdNd fdAm fdLs fdNa fdNu : FuncData} (F : Fun K "law" "law" sLaw f fd)
    (Ba : Cal P w K mg base "_law_bag" 1 ["script"] (spBag K) fBa fdBa) (D : Cal P w K mg base "_law_draw" 1 ["bag", "size"] (spDraw K) fD fdD) (Li : Cal P w K mg base "_law_like" 2 ["told", "due"] (spLike K 1) fLi fdLi)
    (Od : Cal P w K mg base "_law_odd" 3 ["bag"] (spOdd K) fOd fdOd) (St : Cal P w K mg base "_law_string" 3 ["bag"] (spString K) fSt fdSt) (Nd : Cal P w K mg base "_law_named" 1 ["thing"] (spNamed K) fNd fdNd) (Am : Cal P w K mg base "_law_amount" 3 ["bag"] (spAmount K) fAm fdAm)
    (Ls : Cal P w K mg base "_law_listed" 1 [] (spListed K) fLs fdLs) (Na : Cal P w K mg base "is_name" 2 ["value"] (spName K) fNa fdNa) (Nu : Cal P w K mg base "is_number" 2 ["value", "least", "most"] (spNumber K) fNu fdNu)
    (KN : KBn K fdNa ["value"] 0 ["value"] (fun _ ws => ws) (fun _ zs => zs)) (KU : KBn K fdNu ["value", "least", "most"] 0 ["value", "most", "least"] (fun _ ws => sw3 ws) (fun _ zs => sw3 zs))
    (g_OWN : mg "OWN" = some (.ref aO)) (hO : ∀ H, SqT K H aO ownV) (b_range : mg "range" = none) (b_isinstance : mg "isinstance" = none) (b_int : mg "int" = none) (b_bool : mg "bool" = none) (b_min : mg "min" = none) (b_max : mg "max" = none) (b_str : mg "str" = none) (b_len : mg "len" = none) :
    FnOk P w K mg base CX0 4 f fd ["script"] (spLaw K) := by
  refine F.ok scLaw (fun vs H Q E h => ?_) (fun cdv A outer s H vs Q E hr h => ?_)
  · obtain ⟨a, ns, rfl, _⟩ := h
    rfl
  · obtain ⟨a, ns, rfl, hS, hl, q⟩ := h
    refine ⟨_, (pss_cons (ps_set (i := 1) scLaw.nd rfl (.inl rfl) (pe_call Ba.ok (hr.mono (by omega)) rfl Ba.g Ba.kp Ba.b .nil pass0 (pa_cons (pv 0) pa_nil)))
      (pss_cons (ps_for PassesOwn.never rfl (pi_range1 rfl b_range (pa_cons pe_int pa_nil)) (pg_name (i := 2) scLaw.nd rfl (.inl rfl))
        (pss_cons (ps_set (i := 3) scLaw.nd rfl (.inl rfl) (pe_ifExp (pt_cmpR op_gt (pe_call D.ok (hr.mono (by omega)) rfl D.g D.kp D.b .nil pass0 (pa_cons (pv 1) (pa_cons pe_int pa_nil))) pe_int (nomark _)) (pe_call St.ok (hr.mono (by omega)) rfl St.g St.kp St.b .nil pass0 (pa_cons (pv 1) pa_nil)) (pe_call Od.ok (hr.mono (by omega)) rfl Od.g Od.kp Od.b .nil pass0 (pa_cons (pv 1) pa_nil))))
        (pss_cons (ps_set (i := 4) scLaw.nd rfl (.inl rfl) (pe_call Nd.ok (hr.mono (by omega)) rfl Nd.g Nd.kp Nd.b .nil pass0 (pa_cons (pv 3) pa_nil)))
        (pss_one (ps_if (pt_not (pt_val (pe_call Li.ok (hr.mono (by omega)) rfl Li.g Li.kp Li.b .nil pass0 (pa_cons (pe_lst (pa_cons (pe_call Na.ok (hr.mono (by omega)) rfl Na.g Na.kp Na.b .nil pass0 (pa_cons (pv 3) pa_nil)) (pa_cons (pe_callN0 Na.ok (hr.mono (by omega)) rfl Na.g Na.kp KN pass0 (pk_cons (pv 3) pk_nil)) pa_nil))) (pa_cons (pe_lst (pa_cons (pv 4) (pa_cons (pv 4) pa_nil))) pa_nil))))) (pss_one (ps_ret pe_bl)) pss_nil)))))
      (pss_cons (ps_for PassesOwn.never rfl (pi_range1 rfl b_range (pa_cons pe_int pa_nil)) (pg_name (i := 2) scLaw.nd rfl (.inl rfl))
        (pss_cons (ps_par (i := 5) (j := 6) rfl scLaw.nd rfl rfl (by decide) rfl rfl (pa_cons (pe_call Am.ok (hr.mono (by omega)) rfl Am.g Am.kp Am.b .nil pass0 (pa_cons (pv 1) pa_nil)) (pa_cons (pe_call Am.ok (hr.mono (by omega)) rfl Am.g Am.kp Am.b .nil pass0 (pa_cons (pv 1) pa_nil)) pa_nil)) rfl)
        (C8.pss_cut (ps_if (pt_cmpR op_gt (pe_call D.ok (hr.mono (by omega)) rfl D.g D.kp D.b .nil pass0 (pa_cons (pv 1) (pa_cons pe_int pa_nil))) pe_int (nomark _)) (pss_one (ps_par (i := 5) (j := 6) rfl scLaw.nd rfl rfl (by decide) rfl rfl (pa_cons (pe_callB (call_min2 rfl) rfl b_min (by decide +kernel) (pa_cons (pv 5) (pa_cons (pv 6) pa_nil))) (pa_cons (pe_callB (call_max2 rfl) rfl b_max (by decide +kernel) (pa_cons (pv 5) (pa_cons (pv 6) pa_nil))) pa_nil)) rfl)) pss_nil)
        (pss_cons (ps_set (i := 7) scLaw.nd rfl (.inl rfl) (pe_lst (pa_cons (pv 5) (pa_cons (pv 6) (pa_cons (pe_op op_sub (pv 5) pe_int) (pa_cons (pe_op op_add (pv 6) pe_int) (pa_cons (pe_op op_fdivW (pe_op op_add (pv 5) (pv 6)) pe_int) (pa_cons pe_int (pa_cons pe_int (pa_cons (pe_call Am.ok (hr.mono (by omega)) rfl Am.g Am.kp Am.b .nil pass0 (pa_cons (pv 1) pa_nil)) (pa_cons (pe_callTy call_str_int rfl b_str (by decide +kernel) (pa_cons (pv 5) pa_nil)) (pa_cons (pe_tup (pa_cons (pv 5) pa_nil)) pa_nil))))))))))))
        (pss_cons (ps_expr (pe_bm PySem.F.plainAttrs_list PySem.F.slot_list_append PySem.F.type_list_append mt_append (pv 7) (pa_cons (pe_call Od.ok (hr.mono (by omega)) rfl Od.g Od.kp Od.b .nil pass0 (pa_cons (pv 1) pa_nil)) pa_nil)))
        (pss_cons (ps_set (i := 3) scLaw.nd rfl (.inl rfl) (pe_ix ix_list (pv 7) (pe_call D.ok (hr.mono (by omega)) rfl D.g D.kp D.b .nil pass0 (pa_cons (pv 1) (pa_cons (pe_callB call_len rfl b_len (by decide +kernel) (pa_cons (pv 7) pa_nil)) pa_nil))) (fun _ _ => rfl)))
        (C8.pss_cut (ps_set (i := 4) scLaw.nd rfl (.inl rfl) (pe_and (pe_callB call_isi rfl b_isinstance (by decide +kernel) (pa_cons (pv 3) (pa_cons (pe_ty "int" rfl b_int (by decide +kernel)) pa_nil))) (pe_and (pe_not (pe_callB call_isi rfl b_isinstance (by decide +kernel) (pa_cons (pv 3) (pa_cons (pe_ty "bool" rfl b_bool (by decide +kernel)) pa_nil)))) (pe_and (pe_cmpR op_le (pv 5) (pv 3) (nomark _)) (pe_one (pe_cmpR op_le (pv 3) (pv 6) (nomark _)))))))
        (pss_cons (ps_set (i := 8) scLaw.nd rfl (.inl rfl) (pe_lst (pa_cons (pe_call Nu.ok (hr.mono (by omega)) rfl Nu.g Nu.kp Nu.b .nil pass0 (pa_cons (pv 3) (pa_cons (pv 5) (pa_cons (pv 6) pa_nil)))) (pa_cons (pe_callN0 Nu.ok (hr.mono (by omega)) rfl Nu.g Nu.kp KU pass0 (pk_cons (pv 3) (pk_cons (pv 6) (pk_cons (pv 5) pk_nil)))) pa_nil))))
        (pss_one (ps_if (pt_not (pt_val (pe_call Li.ok (hr.mono (by omega)) rfl Li.g Li.kp Li.b .nil pass0 (pa_cons (pv 8) (pa_cons (pe_lst (pa_cons (pv 4) (pa_cons (pv 4) pa_nil))) pa_nil))))) (pss_one (ps_ret pe_bl)) pss_nil))))))))))
      (pss_cons (ps_if (pt_not (pt_val (pe_call Li.ok (hr.mono (by omega)) rfl Li.g Li.kp Li.b .nil pass0 (pa_cons (pe_lst (pa_cons (pe_call Nu.ok (hr.mono (by omega)) rfl Nu.g Nu.kp Nu.b .nil pass0 (pa_cons pe_bl (pa_cons pe_int (pa_cons pe_int pa_nil)))) (pa_cons (pe_call Nu.ok (hr.mono (by omega)) rfl Nu.g Nu.kp Nu.b .nil pass0 (pa_cons pe_int (pa_cons pe_int (pa_cons pe_int pa_nil)))) (pa_cons (pe_call Nu.ok (hr.mono (by omega)) rfl Nu.g Nu.kp Nu.b .nil pass0 (pa_cons pe_bl (pa_cons pe_int (pa_cons pe_int pa_nil)))) pa_nil)))) (pa_cons (pe_lst (pa_cons pe_bl (pa_cons pe_bl (pa_cons pe_bl pa_nil)))) pa_nil))))) (pss_one (ps_ret pe_bl)) pss_nil)
      (pss_cons (ps_if (pt_not (pt_val (pe_call Li.ok (hr.mono (by omega)) rfl Li.g Li.kp Li.b .nil pass0 (pa_cons (pe_glob (v := .ref aO) rfl g_OWN rfl) (pa_cons (pe_call0 Ls.ok (hr.mono (by omega)) rfl Ls.g Ls.kp Ls.b .nil pass0) pa_nil))))) (pss_one (ps_ret pe_bl)) pss_nil)
      (pss_one (ps_ret (pe_call Li.ok (hr.mono (by omega)) rfl Li.g Li.kp Li.b .nil pass0 (pa_cons (pe_lc (own := [("word", 9)]) (g := gName 9) (tt := tYes) rfl scLaw.nd (pi_tup (pe_glob (v := .ref aO) rfl g_OWN rfl)) (blkOk_by (own := [("word", 9)]) (N := ["script", "bag", "lap", "thing", "due", "low", "high", "near", "answers", "word"]) (sc := defScope sLaw) (by decide +kernel)) (fun _ _ _ _ _ => (pg_name (i := 9) scLaw.nd rfl (.inl rfl) (.inr rfl))) (fun _ _ _ _ _ => pts_nil) (fun _ _ _ _ _ => (pe_call Na.ok (hr.mono (by omega)) rfl Na.g Na.kp Na.b .nil pass0 (pa_cons (pv 9) pa_nil)))) (pa_cons (pe_op op_rep (pe_lst (pa_cons pe_bl pa_nil)) pe_int) pa_nil)))))))))), ?_⟩
    have zs : ∀ z : Str, z.length < 1000 → z.length ≤ sizeLine := fun z h => Nat.le_of_lt (small1000 (by omega))
    refine ⟨_, rfl, a, ns, rfl, hS, fun b H1 s1 B1 _ => ?_⟩
    -- the first loop
    refine ⟨12, rfl, by decide, by decide, for_range (n := 12) (fun i σ H' => (∃ v2 v3 v4 v5 v6 v7 v8 v9, σ = [some (.ref a), some (.ref b), v2, v3, v4, v5, v6, v7, v8, v9]) ∧ BagAt K H' b) ⟨⟨_, _, _, _, _, _, _, _, rfl⟩, B1⟩ ?_ ?_⟩
    · rintro i σ G0 hi ⟨⟨v2, v3, v4, v5, v6, v7, v8, v9, rfl⟩, B0⟩
      refine ⟨_, rfl, b, 5, rfl, B0, by decide, by decide, fun d G1 d0 d1 C1 t1 => ⟨_, _, rfl, rfl, _, rfl, ite2 (fun _ => ?_) (fun _ => ?_)⟩⟩
      · refine ⟨_, rfl, b, rfl, C1, fun z G2 sz lz C2 t2 => ?_⟩
        have hz : z.length ≤ sizeLine := zs z (by omega)
        refine ⟨_, rfl, _, rfl, .inl ⟨z, rfl, hz, ?_⟩⟩
        refine ⟨_, rfl, _, rfl, .inl ⟨z, rfl, hz, _, rfl, rfl, rfl, _, rfl, .inl ⟨z, rfl, hz, (by show 2 ≤ sizeLine; decide), fun l1 n1 => ⟨_, rfl, _, rfl, (by show 2 ≤ sizeLine; decide), fun l2 n2 => ?_⟩⟩⟩⟩
        have w1 := same_upd (o := .lst [.bl (nameB z), .bl (nameB z)]) n1
        have w2 := same_upd (o := .lst [.bl (namedB z), .bl (namedB z)]) n2
        refine ⟨_, _, rfl, .lst2 (w2.seq (SqL.of upd_same)) (SqL.of upd_same) (name_eq z sz), fun G3 t3 => ⟨_, rfl, iteF ?_⟩⟩
        exact ⟨⟨_, _, _, _, _, _, _, _, rfl⟩, ((C2.same w1).same w2).same t3⟩
      · refine ⟨_, rfl, b, rfl, C1, fun v G2 ni nst vb C2 t2 => ?_⟩
        refine ⟨_, rfl, _, rfl, .inr ⟨nst, ?_⟩⟩
        refine ⟨_, rfl, _, rfl, .inr ⟨nst, _, rfl, rfl, rfl, _, rfl, .inr ⟨nst, (by show 2 ≤ sizeLine; decide), fun l1 n1 => ⟨_, rfl, _, rfl, (by show 2 ≤ sizeLine; decide), fun l2 n2 => ?_⟩⟩⟩⟩
        have w1 := same_upd (o := .lst [.bl false, .bl false]) n1
        have w2 := same_upd (o := .lst [.bl false, .bl false]) n2
        refine ⟨_, _, rfl, .lst2 (w2.seq (SqL.of upd_same)) (SqL.of upd_same) rfl, fun G3 t3 => ⟨_, rfl, iteF ?_⟩⟩
        exact ⟨⟨_, _, _, _, _, _, _, _, rfl⟩, ((C2.same w1).same w2).same t3⟩
    · rintro σ G0 ⟨⟨v2, v3, v4, v5, v6, v7, v8, v9, rfl⟩, B0⟩
      -- the second loop
      refine ⟨12, rfl, by decide, by decide, for_range (n := 12) (fun i σ H' => (∃ v2 v3 v4 v5 v6 v7 v8 v9, σ = [some (.ref a), some (.ref b), v2, v3, v4, v5, v6, v7, v8, v9]) ∧ BagAt K H' b) ⟨⟨_, _, _, _, _, _, _, _, rfl⟩, B0⟩ ?_ ?_⟩
      · rintro i σ G0 hi ⟨⟨v2, v3, v4, v5, v6, v7, v8, v9, rfl⟩, B0⟩
        refine ⟨_, rfl, b, rfl, B0, fun x1 G1 h1 C1 t1 => ⟨_, rfl, b, rfl, C1, fun x2 G2 h2 C2 t2 => ⟨_, _, rfl, ?_⟩⟩⟩
        refine ⟨fun σ' H' => ∃ v2 v3 v4 v7 v8 v9 lo hi, σ' = [some (.ref a), some (.ref b), v2, v3, v4, some (.int lo), some (.int hi), v7, v8, v9] ∧ lo.natAbs < 10 ^ 50 ∧ hi.natAbs < 10 ^ 50 ∧ BagAt K H' b, ?_, ?_⟩
        · refine ⟨_, rfl, b, 5, rfl, C2, by decide, by decide, fun d G3 d0 d1 C3 t3 => ⟨_, _, rfl, rfl, _, rfl, ite2 (fun _ => ?_) (fun _ => ?_)⟩⟩
          · refine ⟨_, rfl, _, rfl, _, _, rfl, _, rfl, _, rfl, _, _, rfl, _, _, rfl, _, _, _, _, _, _, _, _, rfl, ?_, ?_, C3⟩
            · split <;> assumption
            · split <;> assumption
          · exact ⟨_, _, _, _, _, _, x1, x2, rfl, h1, h2, C3⟩
        · rintro σ' G3 ⟨v2, v3, v4, v7, v8, v9, lo, hi, rfl, hlo, hhi, C3⟩
          refine ⟨_, rfl, _, rfl, _, rfl, _, _, rfl, rfl, _, rfl, _, _, rfl, rfl, _, rfl, _, rfl, _, _, rfl, rfl, _, _, rfl, rfl, wide_div (b := 10) (by decide) (by decide) (by decide) (by decide), _, rfl, b, rfl, C3, fun am G4 ha C4 t4 => ?_⟩
          refine ⟨_, rfl, lo, rfl, str_log hlo, _, rfl, (by show 1 ≤ sizeLine; decide), fun pt np => ⟨(by show 10 ≤ sizeLine; decide), fun N nN => ?_⟩⟩
          have w1 := same_upd (o := .tup [.int lo]) np
          have C5 := C4.same w1
          have w2 := same_upd (o := .lst [.int lo, .int hi, .int (lo - 1), .int (hi + 1), .int ((lo + hi) / 2), .int 0, .int 1, .int am, .str (toString lo), .ref pt]) nN
          have C6 := C5.same w2
          have Nb : N ≠ b := bag_ne C5 nN
          have ptb : pt ≠ b := bag_ne C4 np
          have ptN : pt ≠ N := ne_of_none upd_same nN
          -- near.append
          refine ⟨_, rfl, .inl ⟨rfl, _, SqL.of upd_same⟩, _, rfl, b, rfl, C6, fun v G5 ni nst vb C7 t7 => ?_⟩
          have eN := t7 N _ Nb upd_same
          refine ⟨N, _, _, rfl, rfl, eN, small1000 (by show 10 ≤ 1000; decide), ?_⟩
          have C8 := bag_updS (o := .lst ([.int lo, .int hi, .int (lo - 1), .int (hi + 1), .int ((lo + hi) / 2), .int 0, .int 1, .int am, .str (toString lo), .ref pt] ++ [v])) C7 eN (z := toString lo) (by simp) Nb
          have ept : (upd G5 N (.lst ([.int lo, .int hi, .int (lo - 1), .int (hi + 1), .int ((lo + hi) / 2), .int 0, .int 1, .int am, .str (toString lo), .ref pt] ++ [v]))) pt = some (.tup [.int lo]) := by
            rw [upd_ne ptN]
            exact t7 pt _ ptb (w2 _ _ upd_same)
          have main : ∀ u ∈ ([.int lo, .int hi, .int (lo - 1), .int (hi + 1), .int ((lo + hi) / 2), .int 0, .int 1, .int am, .str (toString lo), .ref pt] ++ [v] : List V), (∃ n, u = .int n) ∨ (NoInt K (upd G5 N (.lst ([.int lo, .int hi, .int (lo - 1), .int (hi + 1), .int ((lo + hi) / 2), .int 0, .int 1, .int am, .str (toString lo), .ref pt] ++ [v]))) u ∧ ∀ a, u = .ref a → a ≠ b) := by
            intro u hu
            simp only [List.cons_append, List.nil_append, List.mem_cons, List.not_mem_nil, or_false] at hu
            rcases hu with rfl | rfl | rfl | rfl | rfl | rfl | rfl | rfl | rfl | rfl | rfl
            · exact .inl ⟨_, rfl⟩
            · exact .inl ⟨_, rfl⟩
            · exact .inl ⟨_, rfl⟩
            · exact .inl ⟨_, rfl⟩
            · exact .inl ⟨_, rfl⟩
            · exact .inl ⟨_, rfl⟩
            · exact .inl ⟨_, rfl⟩
            · exact .inl ⟨_, rfl⟩
            · exact .inr ⟨noInt_str _, fun a e => by cases e⟩
            · exact .inr ⟨(odd_tup ept).noInt, fun a e => by cases e; exact ptb⟩
            · refine .inr ⟨?_, vb⟩
              by_cases e : u = .ref N
              · rw [e]
                exact (odd_lst upd_same).noInt
              · refine NoInt.keep (fun a' o e' h' => ?_) ni
                rw [upd_ne (fun z => e (by rw [e', z]))]
                exact h'
          -- thing
          refine ⟨_, rfl, _, rfl, _, rfl, _, _, rfl, .inl ⟨_, SqL.of upd_same, rfl⟩, b, _, rfl, C8, (by show (0 : Int) < 11; decide), (by show (11 : Int) < _; decide), fun r G6 r0 r1 C9 t9 => ?_⟩
          obtain ⟨j, rfl⟩ : ∃ j : Nat, r = (j : Int) := ⟨r.toNat, by omega⟩
          have hj : j < ([.int lo, .int hi, .int (lo - 1), .int (hi + 1), .int ((lo + hi) / 2), .int 0, .int 1, .int am, .str (toString lo), .ref pt] ++ [v] : List V).length := by
            have : (j : Int) < 11 := r1
            show j < 11
            omega
          have hu := main _ (List.getElem_mem hj)
          refine ⟨N, _, _, _, rfl, rfl, SqL.of (t9 _ _ Nb upd_same), atI_nat (List.getElem?_eq_getElem hj), ?_⟩
          revert hu
          generalize ([.int lo, .int hi, .int (lo - 1), .int (hi + 1), .int ((lo + hi) / 2), .int 0, .int 1, .int am, .str (toString lo), .ref pt] ++ [v] : List V)[j] = u
          intro hu
          have hu6 : (∃ n, u = .int n) ∨ NoInt K G6 u := hu.imp id fun h => h.1.keep fun a o e h' => t9 a o (h.2 a e) h'
          -- due
          refine ⟨fun σ' H' => ∃ (D : Bool) (v2 v8 v9 : Option V), σ' = [some (.ref a), some (.ref b), v2, some u, some (.bl D), some (.int lo), some (.int hi), some (.ref N), v8, v9] ∧ H' = G6 ∧ ((∃ n, u = .int n ∧ D = numB n lo hi) ∨ (NoInt K G6 u ∧ D = false)), ?_, ?_⟩
          · rcases hu6 with ⟨n, rfl⟩ | ⟨t, b1, b2, ty, e1, e2, e3⟩
            · refine ⟨_, rfl, _, _, _, _, _, rfl, .ty _, .base (.int n), k1_ii, _, rfl, iteT ⟨_, rfl, _, _, _, _, _, rfl, .ty _, .base (.int n), k1_ib, _, rfl, _, rfl, iteT ⟨_, rfl, _, rfl, _, _, rfl, rfl, _, rfl, ite2 (fun c => ?_) (fun c => ?_)⟩⟩⟩
              · refine ⟨_, rfl, _, rfl, _, _, rfl, rfl, _, _, _, _, rfl, rfl, .inl ⟨n, rfl, ?_⟩⟩
                unfold numB
                rw [c, Bool.true_and]
              · refine ⟨_, _, _, _, rfl, rfl, .inl ⟨n, rfl, ?_⟩⟩
                unfold numB
                rw [Bool.eq_false_iff.mpr c, Bool.false_and]
            · cases b1 with
              | false => exact ⟨_, rfl, _, _, _, _, _, rfl, .ty _, ty, e1, _, rfl, iteF ⟨_, _, _, _, rfl, rfl, .inr ⟨⟨t, false, b2, ty, e1, e2, e3⟩, rfl⟩⟩⟩
              | true =>
                have e4 := e2
                rw [e3 rfl] at e4
                exact ⟨_, rfl, _, _, _, _, _, rfl, .ty _, ty, e1, _, rfl, iteT ⟨_, rfl, _, _, _, _, _, rfl, .ty _, ty, e4, _, rfl, _, rfl, iteF ⟨_, _, _, _, rfl, rfl, .inr ⟨⟨t, true, b2, ty, e1, e2, e3⟩, rfl⟩⟩⟩⟩
          · rintro σ' H' ⟨D, v2, v8, v9, rfl, rfl, hD⟩
            rcases hD with ⟨n, rfl, rfl⟩ | ⟨ni6, rfl⟩
            · refine ⟨_, rfl, _, rfl, _, rfl, _, lo, hi, rfl, .inl ⟨n, rfl, _, rfl, _, rfl, _, rfl, rfl, rfl, _, lo, hi, rfl, .inl ⟨n, rfl, (by show 2 ≤ sizeLine; decide), fun l1 n1 => ?_⟩⟩⟩
              refine ⟨_, rfl, _, rfl, _, rfl, (by show 2 ≤ sizeLine; decide), fun l2 n2 => ?_⟩
              have y1 := same_upd (o := .lst [.bl (numB n lo hi), .bl (numB n lo hi)]) n1
              have y2 := same_upd (o := .lst [.bl (numB n lo hi), .bl (numB n lo hi)]) n2
              refine ⟨_, _, rfl, .lst2 (y2.seq (SqL.of upd_same)) (SqL.of upd_same) rfl, fun G8 t8 => ⟨_, rfl, iteF ?_⟩⟩
              exact ⟨⟨_, _, _, _, _, _, _, _, rfl⟩, ((C9.same y1).same y2).same t8⟩
            · refine ⟨_, rfl, _, rfl, _, rfl, _, lo, hi, rfl, .inr ⟨ni6, _, rfl, _, rfl, _, rfl, rfl, rfl, _, lo, hi, rfl, .inr ⟨ni6, (by show 2 ≤ sizeLine; decide), fun l1 n1 => ?_⟩⟩⟩
              refine ⟨_, rfl, _, rfl, _, rfl, (by show 2 ≤ sizeLine; decide), fun l2 n2 => ?_⟩
              have y1 := same_upd (o := .lst [.bl false, .bl false]) n1
              have y2 := same_upd (o := .lst [.bl false, .bl false]) n2
              refine ⟨_, _, rfl, .lst2 (y2.seq (SqL.of upd_same)) (SqL.of upd_same) rfl, fun G8 t8 => ⟨_, rfl, iteF ?_⟩⟩
              exact ⟨⟨_, _, _, _, _, _, _, _, rfl⟩, ((C9.same y1).same y2).same t8⟩
      · rintro σ G0 ⟨⟨v2, v3, v4, v5, v6, v7, v8, v9, rfl⟩, B0⟩
        -- truth values
        refine ⟨.bl true, 0, 1, rfl, .inr ⟨(odd_bl _).noInt, .int 1, 1, 1, rfl, .inl ⟨1, rfl, .bl false, 0, 0, rfl, .inr ⟨(odd_bl _).noInt, (by show 3 ≤ sizeLine; decide), fun l1 n1 => ⟨(by show 3 ≤ sizeLine; decide), fun l2 n2 => ?_⟩⟩⟩⟩⟩
        have w1 := same_upd (o := .lst [.bl false, .bl (numB 1 1 1), .bl false]) n1
        have w2 := same_upd (o := .lst [.bl false, .bl true, .bl false]) n2
        refine ⟨_, _, rfl, .lst (w2.seq (SqL.of upd_same)) (SqL.of upd_same) (by show 3 < 1000; decide) (.cons (.flat rfl trivial) (.cons (.flat (congrArg V.bl (by decide)) trivial) (.cons (.flat rfl trivial) .nil))), fun G1 t1 => ⟨_, rfl, iteF ?_⟩⟩
        -- the own words
        refine ⟨rfl, fun p G2 s2 hp => ?_⟩
        refine ⟨.ref aO, .ref p, rfl, .inr ⟨aO, p, ownV, ownV, rfl, rfl, .inr ⟨hO _, hp⟩, rfl, by decide +kernel, fun i x y hx hy => ?_⟩, fun G3 t3 => ⟨_, rfl, iteF ?_⟩⟩
        · have e : x = y := Option.some.inj (hx.symm.trans hy)
          refine ⟨e, ?_⟩
          obtain ⟨z, _, rfl⟩ := List.mem_map.mp (List.mem_of_getElem? hx)
          trivial
        -- each of them is a name
        have hl36 : ownV.length = 36 := by decide +kernel
        refine ⟨aO, rfl, ⟨_, hO _⟩, fun L nL => lc_it (walk_tup (K := K) (a := aO) (xs := ownV)) (fun i G => G L = some (.lst ((List.replicate i true).map V.bl))) upd_same (fun i G _ _ => hO G) ?_ ?_⟩
        · rintro i x G G' hi' hL ⟨rfl, hx⟩
          obtain ⟨z, hz, rfl⟩ := List.mem_map.mp (List.mem_of_getElem? hx)
          obtain ⟨z1, z2⟩ := own_ok z hz
          refine ⟨rfl, ?_⟩
          unfold tYes
          refine iteT ⟨_, rfl, _, rfl, .inl ⟨z, rfl, Nat.le_of_lt (small1000 z2), ?_⟩⟩
          rw [z1]
          refine ⟨_, hL, ?_, ?_⟩
          · rw [List.length_map, List.length_replicate]
            exact small1000 (by omega)
          · rw [upd_same, List.replicate_succ', List.map_append]
            rfl
        · intro G hL
          refine ⟨(by show 1 ≤ sizeLine; decide), fun l nl => ⟨l, 36, _, rfl, rfl, upd_same, by decide, by decide, (by show 36 ≤ sizeLine; decide), fun p np => ?_⟩⟩
          have y1 := same_upd (o := .lst [.bl true]) nl
          have y2 := same_upd (o := .lst (List.replicate (36 : Int).toNat [V.bl true]).flatten) np
          have hL2 := y2 _ _ (y1 _ _ hL)
          rw [hl36] at hL2
          refine ⟨.ref L, .ref p, rfl, .inr ⟨L, p, _, _, rfl, rfl, .inl ⟨SqL.of hL2, SqL.of upd_same⟩, by decide +kernel, by decide +kernel, fun i x y hx hy => ?_⟩, fun G3 t3 => q _⟩
          have e : (List.replicate 36 true).map V.bl = (List.replicate (36 : Int).toNat [V.bl true]).flatten := by rfl
          rw [← e] at hy
          have e2 : x = y := Option.some.inj (hx.symm.trans hy)
          refine ⟨e2, ?_⟩
          obtain ⟨z, _, rfl⟩ := List.mem_map.mp (List.mem_of_getElem? hx)
          trivial
end
end My

set_option Elab.async false
set_option linter.all false
set_option maxRecDepth 100000
namespace My
open PySem PySem.Spec PyProof.Rows L2
theorem kit_own {K : PySem.W.Frag} {C : Addr} {T : String} (h : PySem.W.mroIn K C (.type T) = some false) (m : PySem.W.kitMeta T = true) : PySem.W.kitOne K (.ref C) (.type T) = some false := by
  unfold PySem.W.kitOne
  rw [if_neg (by intro z; cases z)]
  unfold PySem.W.kitCls
  simp only [m, if_true]
  exact h
theorem all_mk {l : PySem.W.OpenLaw} {w : World} {K : PySem.W.Frag} {h : Heap} {mg : Str → Option Value} {fa : Addr} (X : K.In h) (G : h.Ns mainGlobals mg) (hfa : mg "law" = some (.ref fa))
    {COne : Addr}
    {f0 : Addr} {od0 an0 : Option Addr} {sl0 : Array (Option Value)} {oc0 kV0 dc0 pm0 cd0 ct0 : Value}
    {f1 : Addr} {od1 an1 : Option Addr} {sl1 : Array (Option Value)} {oc1 kV1 dc1 pm1 cd1 ct1 : Value}
    {f2 : Addr} {od2 an2 : Option Addr} {sl2 : Array (Option Value)} {oc2 kV2 dc2 pm2 cd2 ct2 : Value}
    {f3 : Addr} {od3 an3 : Option Addr} {sl3 : Array (Option Value)} {oc3 kV3 dc3 pm3 cd3 ct3 : Value}
    {f4 : Addr} {od4 an4 : Option Addr} {sl4 : Array (Option Value)} {oc4 kV4 dc4 pm4 cd4 ct4 : Value}
    {f5 : Addr} {od5 an5 : Option Addr} {sl5 : Array (Option Value)} {oc5 kV5 dc5 pm5 cd5 ct5 : Value}
    {f6 : Addr} {od6 an6 : Option Addr} {sl6 : Array (Option Value)} {oc6 kV6 dc6 pm6 cd6 ct6 : Value}
    {f7 : Addr} {od7 an7 : Option Addr} {sl7 : Array (Option Value)} {oc7 kV7 dc7 pm7 cd7 ct7 : Value}
    {f8 : Addr} {od8 an8 : Option Addr} {sl8 : Array (Option Value)} {oc8 kV8 dc8 pm8 cd8 ct8 : Value}
    {f9 : Addr} {od9 an9 : Option Addr} {sl9 : Array (Option Value)} {oc9 kV9 dc9 pm9 cd9 ct9 : Value}
    {f10 : Addr} {od10 an10 : Option Addr} {sl10 : Array (Option Value)} {oc10 kV10 dc10 pm10 cd10 ct10 : Value}
    {f11 : Addr} {od11 an11 : Option Addr} {sl11 : Array (Option Value)} {oc11 kV11 dc11 pm11 cd11 ct11 : Value}
    {f12 : Addr} {od12 an12 : Option Addr} {sl12 : Array (Option Value)} {oc12 kV12 dc12 pm12 cd12 ct12 : Value}
    {f13 : Addr} {od13 an13 : Option Addr} {sl13 : Array (Option Value)} {oc13 kV13 dc13 pm13 cd13 ct13 : Value}
    {f14 : Addr} {od14 an14 : Option Addr} {sl14 : Array (Option Value)} {oc14 kV14 dc14 pm14 cd14 ct14 : Value}
    {tk8 : Tok} {aO : Addr} {odO : Option Addr} {itsO : Array Value} {nO : Nat} {slO : Array (Option Value)}
    (a0 : PySem.W.nsIn K mainGlobals "is_word" = some (some (.ref f0)))
    (l0 : K.lookup f0 = some ⟨oc0, od0, .func (PySem.W.fnOf "is_word" "is_word" (defArgs sIsWord) (defBody sIsWord) (defScope sIsWord) .none kV0 dc0 pm0 an0 cd0 ct0), sl0⟩) (c0 : PySem.W.codeIn K cd0 "is_word" = true) (k0 : PySem.W.keepIn K (.ref f0) = true)
    (a1 : PySem.W.nsIn K mainGlobals "is_name" = some (some (.ref f1)))
    (l1 : K.lookup f1 = some ⟨oc1, od1, .func (PySem.W.fnOf "is_name" "is_name" (defArgs sIsName) (defBody sIsName) (defScope sIsName) .none kV1 dc1 pm1 an1 cd1 ct1), sl1⟩) (c1 : PySem.W.codeIn K cd1 "is_name" = true) (k1 : PySem.W.keepIn K (.ref f1) = true)
    (a2 : PySem.W.nsIn K mainGlobals "is_integer" = some (some (.ref f2)))
    (l2 : K.lookup f2 = some ⟨oc2, od2, .func (PySem.W.fnOf "is_integer" "is_integer" (defArgs sIsInteger) (defBody sIsInteger) (defScope sIsInteger) .none kV2 dc2 pm2 an2 cd2 ct2), sl2⟩) (c2 : PySem.W.codeIn K cd2 "is_integer" = true) (k2 : PySem.W.keepIn K (.ref f2) = true)
    (a3 : PySem.W.nsIn K mainGlobals "is_number" = some (some (.ref f3)))
    (l3 : K.lookup f3 = some ⟨oc3, od3, .func (PySem.W.fnOf "is_number" "is_number" (defArgs sIsNumber) (defBody sIsNumber) (defScope sIsNumber) .none kV3 dc3 pm3 an3 cd3 ct3), sl3⟩) (c3 : PySem.W.codeIn K cd3 "is_number" = true) (k3 : PySem.W.keepIn K (.ref f3) = true)
    (a4 : PySem.W.nsIn K mainGlobals "_law_bag" = some (some (.ref f4)))
    (l4 : K.lookup f4 = some ⟨oc4, od4, .func (PySem.W.fnOf "_law_bag" "_law_bag" (defArgs sLawBag) (defBody sLawBag) (defScope sLawBag) .none kV4 dc4 pm4 an4 cd4 ct4), sl4⟩) (c4 : PySem.W.codeIn K cd4 "_law_bag" = true) (k4 : PySem.W.keepIn K (.ref f4) = true)
    (a5 : PySem.W.nsIn K mainGlobals "_law_draw" = some (some (.ref f5)))
    (l5 : K.lookup f5 = some ⟨oc5, od5, .func (PySem.W.fnOf "_law_draw" "_law_draw" (defArgs sLawDraw) (defBody sLawDraw) (defScope sLawDraw) .none kV5 dc5 pm5 an5 cd5 ct5), sl5⟩) (c5 : PySem.W.codeIn K cd5 "_law_draw" = true) (k5 : PySem.W.keepIn K (.ref f5) = true)
    (a6 : PySem.W.nsIn K mainGlobals "_law_of" = some (some (.ref f6)))
    (l6 : K.lookup f6 = some ⟨oc6, od6, .func (PySem.W.fnOf "_law_of" "_law_of" (defArgs sLawOf) (defBody sLawOf) (defScope sLawOf) .none kV6 dc6 pm6 an6 cd6 ct6), sl6⟩) (c6 : PySem.W.codeIn K cd6 "_law_of" = true) (k6 : PySem.W.keepIn K (.ref f6) = true)
    (a7 : PySem.W.nsIn K mainGlobals "_law_like" = some (some (.ref f7)))
    (l7 : K.lookup f7 = some ⟨oc7, od7, .func (PySem.W.fnOf "_law_like" "_law_like" (defArgs sLawLike) (defBody sLawLike) (defScope sLawLike) .none kV7 dc7 pm7 an7 cd7 ct7), sl7⟩) (c7 : PySem.W.codeIn K cd7 "_law_like" = true) (k7 : PySem.W.keepIn K (.ref f7) = true)
    (a8 : PySem.W.nsIn K mainGlobals "_law_listed" = some (some (.ref f8)))
    (l8 : K.lookup f8 = some ⟨oc8, od8, .func (PySem.W.fnOf "_law_listed" "_law_listed" (defArgs sLawListed) (defBody sLawListed) (defScope sLawListed) .none kV8 dc8 pm8 an8 cd8 ct8), sl8⟩) (c8 : PySem.W.codeIn K cd8 "_law_listed" = true) (k8 : PySem.W.keepIn K (.ref f8) = true)
    (a9 : PySem.W.nsIn K mainGlobals "_law_odd" = some (some (.ref f9)))
    (l9 : K.lookup f9 = some ⟨oc9, od9, .func (PySem.W.fnOf "_law_odd" "_law_odd" (defArgs sLawOdd) (defBody sLawOdd) (defScope sLawOdd) .none kV9 dc9 pm9 an9 cd9 ct9), sl9⟩) (c9 : PySem.W.codeIn K cd9 "_law_odd" = true) (k9 : PySem.W.keepIn K (.ref f9) = true)
    (a10 : PySem.W.nsIn K mainGlobals "_law_string" = some (some (.ref f10)))
    (l10 : K.lookup f10 = some ⟨oc10, od10, .func (PySem.W.fnOf "_law_string" "_law_string" (defArgs sLawString) (defBody sLawString) (defScope sLawString) .none kV10 dc10 pm10 an10 cd10 ct10), sl10⟩) (c10 : PySem.W.codeIn K cd10 "_law_string" = true) (k10 : PySem.W.keepIn K (.ref f10) = true)
    (a11 : PySem.W.nsIn K mainGlobals "_law_named" = some (some (.ref f11)))
    (l11 : K.lookup f11 = some ⟨oc11, od11, .func (PySem.W.fnOf "_law_named" "_law_named" (defArgs sLawNamed) (defBody sLawNamed) (defScope sLawNamed) .none kV11 dc11 pm11 an11 cd11 ct11), sl11⟩) (c11 : PySem.W.codeIn K cd11 "_law_named" = true) (k11 : PySem.W.keepIn K (.ref f11) = true)
    (a12 : PySem.W.nsIn K mainGlobals "_law_amount" = some (some (.ref f12)))
    (l12 : K.lookup f12 = some ⟨oc12, od12, .func (PySem.W.fnOf "_law_amount" "_law_amount" (defArgs sLawAmount) (defBody sLawAmount) (defScope sLawAmount) .none kV12 dc12 pm12 an12 cd12 ct12), sl12⟩) (c12 : PySem.W.codeIn K cd12 "_law_amount" = true) (k12 : PySem.W.keepIn K (.ref f12) = true)
    (a13 : PySem.W.nsIn K mainGlobals "law" = some (some (.ref f13)))
    (l13 : K.lookup f13 = some ⟨oc13, od13, .func (PySem.W.fnOf "law" "law" (defArgs sLaw) (defBody sLaw) (defScope sLaw) .none kV13 dc13 pm13 an13 cd13 ct13), sl13⟩) (c13 : PySem.W.codeIn K cd13 "law" = true) (k13 : PySem.W.keepIn K (.ref f13) = true)
    (aC : PySem.W.nsIn K mainGlobals "One" = some (some (.ref COne)))
    (a14 : PySem.W.findIn K (.ref COne) "__init__" = some (some (.ref f14))) (i14 : PySem.W.isFn K (.ref f14) = true)
    (l14 : K.lookup f14 = some ⟨oc14, od14, .func (PySem.W.fnOf "__init__" "One.__init__" (defArgs sOneInit) (defBody sOneInit) (defScope sOneInit) .none kV14 dc14 pm14 an14 cd14 ct14), sl14⟩) (c14 : PySem.W.codeIn K cd14 "One.__init__" = true) (k14 : PySem.W.keepIn K (.ref f14) = true)
    (b_int : PySem.W.nsIn K mainGlobals "int" = some none)
    (b_list : PySem.W.nsIn K mainGlobals "list" = some none)
    (b_len : PySem.W.nsIn K mainGlobals "len" = some none)
    (b_isinstance : PySem.W.nsIn K mainGlobals "isinstance" = some none)
    (b_tuple : PySem.W.nsIn K mainGlobals "tuple" = some none)
    (b_bool : PySem.W.nsIn K mainGlobals "bool" = some none)
    (b_str : PySem.W.nsIn K mainGlobals "str" = some none)
    (b_all : PySem.W.nsIn K mainGlobals "all" = some none)
    (b_zip : PySem.W.nsIn K mainGlobals "zip" = some none)
    (b_range : PySem.W.nsIn K mainGlobals "range" = some none)
    (b_min : PySem.W.nsIn K mainGlobals "min" = some none)
    (b_max : PySem.W.nsIn K mainGlobals "max" = some none)
    (g8 : PySem.W.nsIn K mainGlobals "LONGEST_NAME" = some (some (.int 8 tk8)))
    (gO : PySem.W.nsIn K mainGlobals "OWN" = some (some (.ref aO))) (lO : K.lookup aO = some ⟨.type "tuple", odO, .seq itsO nO, slO⟩) (hO1 : itsO.size ≤ sizeLine) (hO2 : Vals ownV itsO.toList)
    (pg : PySem.W.plainGet K COne Str.empty = true) (hd : PySem.W.hasDictIn K COne = true) (po : PySem.W.plainOver K COne = true) (sa : PySem.W.findIn K (.ref COne) "__setattr__" = some (some (.builtin "object.__setattr__"))) (mk : PySem.W.makesIn K COne = true) (kc : PySem.W.keepIn K (.ref COne) = true)
    (nW : PySem.W.findIn K (.ref COne) "word" = some none) (nN : PySem.W.findIn K (.ref COne) "number" = some none)
    (ha : PySem.W.findIn K (.ref COne) "__class__" = some (some (.builtin "object.__class__"))) (hn : PySem.W.specialIn K (.builtin "object.__class__") "__get__" = some (some (.builtin "getset_descriptor.__get__"))) (htk : PySem.W.takesIn K (.builtin "object.__class__") = some true) (hm : PySem.W.mroIn K COne (.type "object") = some true)
    (ks : PySem.W.mroIn K COne (.type "str") = some false) (ki : PySem.W.mroIn K COne (.type "int") = some false) (kb : PySem.W.mroIn K COne (.type "bool") = some false) :
    ∃ fd : FuncData, (∀ (s : Shared) (v : Value), BindsTo s fd ⟨[v], []⟩ [("script", v)]) ∧ ∀ base : Heap, K.In base → base.Ns mainGlobals mg → FnOk l.prog w K mg base CX0 4 fa fd ["script"] (spLaw K) := by
  have e := hfa.symm.trans (PySem.W.mg_of X G a13)
  cases e
  have F0 := fun_mk (st := sIsWord) l0 c0 k0
  have B0 := F0.binds (ps := ["text"]) fun _ _ _ _ _ _ us hl => match us, hl with | [_], _ => rfl
  have F1 := fun_mk (st := sIsName) l1 c1 k1
  have B1 := F1.binds (ps := ["value"]) fun _ _ _ _ _ _ us hl => match us, hl with | [_], _ => rfl
  have F2 := fun_mk (st := sIsInteger) l2 c2 k2
  have B2 := F2.binds (ps := ["value"]) fun _ _ _ _ _ _ us hl => match us, hl with | [_], _ => rfl
  have F3 := fun_mk (st := sIsNumber) l3 c3 k3
  have B3 := F3.binds (ps := ["value", "least", "most"]) fun _ _ _ _ _ _ us hl => match us, hl with | [_, _, _], _ => rfl
  have F4 := fun_mk (st := sLawBag) l4 c4 k4
  have B4 := F4.binds (ps := ["script"]) fun _ _ _ _ _ _ us hl => match us, hl with | [_], _ => rfl
  have F5 := fun_mk (st := sLawDraw) l5 c5 k5
  have B5 := F5.binds (ps := ["bag", "size"]) fun _ _ _ _ _ _ us hl => match us, hl with | [_, _], _ => rfl
  have F6 := fun_mk (st := sLawOf) l6 c6 k6
  have B6 := F6.binds (ps := ["bag", "things"]) fun _ _ _ _ _ _ us hl => match us, hl with | [_, _], _ => rfl
  have F7 := fun_mk (st := sLawLike) l7 c7 k7
  have B7 := F7.binds (ps := ["told", "due"]) fun _ _ _ _ _ _ us hl => match us, hl with | [_, _], _ => rfl
  have F8 := fun_mk (st := sLawListed) l8 c8 k8
  have B8 := F8.binds (ps := []) fun _ _ _ _ _ _ us hl => match us, hl with | [], _ => rfl
  have F9 := fun_mk (st := sLawOdd) l9 c9 k9
  have B9 := F9.binds (ps := ["bag"]) fun _ _ _ _ _ _ us hl => match us, hl with | [_], _ => rfl
  have F10 := fun_mk (st := sLawString) l10 c10 k10
  have B10 := F10.binds (ps := ["bag"]) fun _ _ _ _ _ _ us hl => match us, hl with | [_], _ => rfl
  have F11 := fun_mk (st := sLawNamed) l11 c11 k11
  have B11 := F11.binds (ps := ["thing"]) fun _ _ _ _ _ _ us hl => match us, hl with | [_], _ => rfl
  have F12 := fun_mk (st := sLawAmount) l12 c12 k12
  have B12 := F12.binds (ps := ["bag"]) fun _ _ _ _ _ _ us hl => match us, hl with | [_], _ => rfl
  have F13 := fun_mk (st := sLaw) l13 c13 k13
  have B13 := F13.binds (ps := ["script"]) fun _ _ _ _ _ _ us hl => match us, hl with | [_], _ => rfl
  have F14 := fun_mk (st := sOneInit) l14 c14 k14
  have B14 := F14.binds (ps := ["self"]) fun _ _ _ _ _ _ us hl => match us, hl with | [_], _ => rfl
  have m_int := PySem.W.mg_none_of X G b_int
  have m_list := PySem.W.mg_none_of X G b_list
  have m_len := PySem.W.mg_none_of X G b_len
  have m_isinstance := PySem.W.mg_none_of X G b_isinstance
  have m_tuple := PySem.W.mg_none_of X G b_tuple
  have m_bool := PySem.W.mg_none_of X G b_bool
  have m_str := PySem.W.mg_none_of X G b_str
  have m_all := PySem.W.mg_none_of X G b_all
  have m_zip := PySem.W.mg_none_of X G b_zip
  have m_range := PySem.W.mg_none_of X G b_range
  have m_min := PySem.W.mg_none_of X G b_min
  have m_max := PySem.W.mg_none_of X G b_max
  refine ⟨PySem.W.fnOf "law" "law" (defArgs sLaw) (defBody sLaw) (defScope sLaw) .none kV13 dc13 pm13 an13 cd13 ct13, fun s v => .of_eq rfl, fun base _ _ => ?_⟩
  have T : OneT K mg COne := ⟨⟨pg, hd, po, sa⟩, nW, nN, PySem.W.mg_of X G aC, ha, hn, htk, hm, kit_own ks (by decide +kernel), kit_own ki (by decide +kernel), kit_own kb (by decide +kernel)⟩
  have M : Mk K COne f14 := ⟨mk, a14, i14, kc⟩
  have G1 : FnOk l.prog w K mg base CX0 1 f14 _ ["self"] (spOneInit COne) := ok_one (k := 0) F14 T
  have hO : ∀ H, SqT K H aO ownV := fun H => .inr ⟨_, itsO, nO, lO, rfl, rfl, hO1, hO2⟩
  have W : Cal l.prog w K mg base "is_word" 1 ["text"] spWord f0 _ := ⟨ok_is_word (k := 0) F0, PySem.W.mg_of X G a0, k0, B0⟩
  have Na : Cal l.prog w K mg base "is_name" 2 ["value"] (spName K) f1 _ := ⟨ok_is_name (k := 0) F1 W m_isinstance m_str m_len (PySem.W.mg_of X G g8), PySem.W.mg_of X G a1, k1, B1⟩
  have I : Cal l.prog w K mg base "is_integer" 1 ["value"] (spInteger K) f2 _ := ⟨ok_is_integer (k := 0) F2 m_isinstance m_int m_bool, PySem.W.mg_of X G a2, k2, B2⟩
  have Nu : Cal l.prog w K mg base "is_number" 2 ["value", "least", "most"] (spNumber K) f3 _ := ⟨ok_is_number (k := 0) F3 I, PySem.W.mg_of X G a3, k3, B3⟩
  have Ba : Cal l.prog w K mg base "_law_bag" 1 ["script"] (spBag K) f4 _ := ⟨ok_bag (k := 0) F4 m_int m_list, PySem.W.mg_of X G a4, k4, B4⟩
  have D : Cal l.prog w K mg base "_law_draw" 1 ["bag", "size"] (spDraw K) f5 _ := ⟨ok_draw (k := 0) F5 m_int m_len, PySem.W.mg_of X G a5, k5, B5⟩
  have DC : Cal l.prog w K mg base "_law_draw" 1 ["bag", "size"] (spDrawC K) f5 _ := ⟨ok_drawC (k := 0) F5 m_int m_len, PySem.W.mg_of X G a5, k5, B5⟩
  have O : Cal l.prog w K mg base "_law_of" 2 ["bag", "things"] (spOf K) f6 _ := ⟨ok_of (k := 0) F6 D m_len, PySem.W.mg_of X G a6, k6, B6⟩
  have S : Cal l.prog w K mg base "_law_of" 2 ["bag", "things"] (spOfS K) f6 _ := ⟨ok_ofS (k := 0) F6 DC m_len, PySem.W.mg_of X G a6, k6, B6⟩
  have Li : Cal l.prog w K mg base "_law_like" 2 ["told", "due"] (spLike K 1) f7 _ := ⟨ok_like F7 (PySem.W.mg_of X G a7) B7 m_isinstance m_list m_tuple m_bool m_str m_int m_len m_all m_zip 1, PySem.W.mg_of X G a7, k7, B7⟩
  have Ls : Cal l.prog w K mg base "_law_listed" 1 [] (spListed K) f8 _ := ⟨ok_listed (k := 0) F8, PySem.W.mg_of X G a8, k8, B8⟩
  have Od : Cal l.prog w K mg base "_law_odd" 3 ["bag"] (spOdd K) f9 _ := ⟨ok_odd (k := 0) F9 D M T G1 B14 m_len, PySem.W.mg_of X G a9, k9, B9⟩
  have St : Cal l.prog w K mg base "_law_string" 3 ["bag"] (spString K) f10 _ := ⟨ok_string (k := 0) F10 D O S m_range, PySem.W.mg_of X G a10, k10, B10⟩
  have Nd : Cal l.prog w K mg base "_law_named" 1 ["thing"] (spNamed K) f11 _ := ⟨ok_named (k := 0) F11 m_isinstance m_str m_len, PySem.W.mg_of X G a11, k11, B11⟩
  have Am : Cal l.prog w K mg base "_law_amount" 3 ["bag"] (spAmount K) f12 _ := ⟨ok_amount (k := 0) F12 D O, PySem.W.mg_of X G a12, k12, B12⟩
  exact ok_law F13 Ba D Li Od St Nd Am Ls Na Nu (bindN F1) (bindU F3) (PySem.W.mg_of X G gO) hO m_range m_isinstance m_int m_bool m_min m_max m_str m_len
end My
open PySem PySem.W PyProof.Rows
set_option maxRecDepth 100000 in
set_option maxHeartbeats 0 in
theorem PySem.Challenge.cw_soleheld_k01_words_judged_holds : PySem.Challenge.rw_soleheld_k01_words_judged.Holds := by
  w_on; o_law; k_head; (case hw => w_witness2)
  k_fill
  refine L2.walk_of (l := PySem.Challenge.rw_soleheld_k01_words_judged) (n := 63) (k := 4) (x := "script") (CX := fun _ => L2.CX0) (sp := fun w => My.spLaw _) rfl (by decide) rfl ⟨rfl, by decide, by decide⟩ (fun w h Y => PySem.W.kIn_of Y) ?F (fun _ _ a ns hl _ hS => ⟨a, ns, rfl, hS, hl, fun _ => rfl⟩) (fun _ _ _ _ _ h => h)
  case F =>
    intro w mg fa h KX G hmg
    refine' My.all_mk KX G hmg ?a0 ?l0 ?c0 ?k0 ?a1 ?l1 ?c1 ?k1 ?a2 ?l2 ?c2 ?k2 ?a3 ?l3 ?c3 ?k3 ?a4 ?l4 ?c4 ?k4 ?a5 ?l5 ?c5 ?k5 ?a6 ?l6 ?c6 ?k6 ?a7 ?l7 ?c7 ?k7 ?a8 ?l8 ?c8 ?k8 ?a9 ?l9 ?c9 ?k9 ?a10 ?l10 ?c10 ?k10 ?a11 ?l11 ?c11 ?k11 ?a12 ?l12 ?c12 ?k12 ?a13 ?l13 ?c13 ?k13 ?aC ?a14 ?i14 ?l14 ?c14 ?k14 ?b_int ?b_list ?b_len ?b_isinstance ?b_tuple ?b_bool ?b_str ?b_all ?b_zip ?b_range ?b_min ?b_max ?g8 ?gO ?lO ?hO1 ?hO2 ?pg ?hd ?po ?sa ?mk ?kc ?nW ?nN ?ha ?hn ?htk ?hm ?ks ?ki ?kb
    (case a0 => k_is)
    (case l0 => k_is)
    (case c0 => k_is)
    (case k0 => k_is)
    (case a1 => k_is)
    (case l1 => k_is)
    (case c1 => k_is)
    (case k1 => k_is)
    (case a2 => k_is)
    (case l2 => k_is)
    (case c2 => k_is)
    (case k2 => k_is)
    (case a3 => k_is)
    (case l3 => k_is)
    (case c3 => k_is)
    (case k3 => k_is)
    (case a4 => k_is)
    (case l4 => k_is)
    (case c4 => k_is)
    (case k4 => k_is)
    (case a5 => k_is)
    (case l5 => k_is)
    (case c5 => k_is)
    (case k5 => k_is)
    (case a6 => k_is)
    (case l6 => k_is)
    (case c6 => k_is)
    (case k6 => k_is)
    (case a7 => k_is)
    (case l7 => k_is)
    (case c7 => k_is)
    (case k7 => k_is)
    (case a8 => k_is)
    (case l8 => k_is)
    (case c8 => k_is)
    (case k8 => k_is)
    (case a9 => k_is)
    (case l9 => k_is)
    (case c9 => k_is)
    (case k9 => k_is)
    (case a10 => k_is)
    (case l10 => k_is)
    (case c10 => k_is)
    (case k10 => k_is)
    (case a11 => k_is)
    (case l11 => k_is)
    (case c11 => k_is)
    (case k11 => k_is)
    (case a12 => k_is)
    (case l12 => k_is)
    (case c12 => k_is)
    (case k12 => k_is)
    (case a13 => k_is)
    (case l13 => k_is)
    (case c13 => k_is)
    (case k13 => k_is)
    (case aC => k_is)
    (case a14 => k_is)
    (case i14 => k_is)
    (case l14 => k_is)
    (case c14 => k_is)
    (case k14 => k_is)
    (case b_int => k_is)
    (case b_list => k_is)
    (case b_len => k_is)
    (case b_isinstance => k_is)
    (case b_tuple => k_is)
    (case b_bool => k_is)
    (case b_str => k_is)
    (case b_all => k_is)
    (case b_zip => k_is)
    (case b_range => k_is)
    (case b_min => k_is)
    (case b_max => k_is)
    (case g8 => k_is)
    (case gO => k_is)
    (case lO => k_is)
    (case hO1 => decide +kernel)
    (case hO2 => repeat (first | exact .nil | refine .cons ⟨_, rfl⟩ ?_))
    (case pg => k_is)
    (case hd => k_is)
    (case po => k_is)
    (case sa => k_is)
    (case mk => k_is)
    (case kc => k_is)
    (case nW => k_is)
    (case nN => k_is)
    (case ha => k_is)
    (case hn => k_is)
    (case htk => k_is)
    (case hm => k_is)
    (case ks => k_is)
    (case ki => k_is)
    (case kb => k_is)
#print axioms PySem.Challenge.cw_soleheld_k01_words_judged_holds

