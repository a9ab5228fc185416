import PyProof.Rows.All
import Wide.All
import OpenK.AllK
import Wide.FinOn
import HandS.ForMost
import HandS.Wide
import HandS.Gcd
import HandS.IsInst
import HandS.Defaults
import HandS.Zip
import HandS.Walk
import HandS.Codes
import HandS.Evl
import HandS.SortInts
import PySem.Challenge.RW_soleheld_k18_blocks_split
import HandS.SetFor
import HandS.SortOrd
import KE.GoesNew
set_option Elab.async false
set_option linter.all false
set_option maxRecDepth 100000
namespace My
open PySem PySem.Spec PyProof.Rows L2
/-! ### operators upon whole numbers of any size -/
section
variable {X : Cx}
theorem op_mulG : OpR X (binaryOp .Mult) (rI IntMulOk fun i j => .int (i * j)) := opI fun _ _ _ _ _ _ _ hc q => mul_int q hc
def CDivS (_ j : Int) : Prop := j ≠ 0 ∧ j.natAbs.log2 < 9000
theorem op_divS : OpR X (binaryOp .FloorDiv) (rI CDivS fun i j => .int (i.fdiv j)) := opI fun _ _ _ _ _ _ _ hc q => floordiv_int hc.1 q (.inl (PyProof.noPylong_of_log2 hc.2))
def CPowG (i j : Int) : Prop := 0 ≤ j ∧ (Builtin.Int.intBits i : Int) * j ≤ 2 ^ 27
theorem op_powG : OpR X (binaryOp .Pow) (rI CPowG fun i j => .int (i ^ j.toNat)) := opI fun _ _ _ _ _ _ _ hc q => pow_int hc.1 hc.2 q
end
/-- a def that stands at a module's name and keeps its promise -/
structure Cal (P : Program) (w : World) (K : PySem.W.Frag) (mg : Str → Option Value) (base : Heap) (x : Str) (k : Nat) (ps : List Str) (sp : Sp) (f : Addr) (fd : FuncData) : Prop where
  ok : FnOk P w K mg base CX0 k f fd ps sp
  g : mg x = some (.ref f)
  kp : PySem.W.keepIn K (.ref f) = true
  b : Binds K fd ps []
theorem same_upd {H : Hp} {p : Addr} {o : HO} (h : H p = none) : Same H (upd H p o) := fun b x e => by
  rw [upd_ne (ne_of_none e h)]
  exact e
/-! ### the bag -/
/-- a bag at b: its numbers at c, the rest bounded -/
structure BagIs (K : PySem.W.Frag) (H : Hp) (b c : Addr) (ns : List Int) (i : Nat) (g x n : Int) : Prop where
  ob : H b = some (.lst [.ref c, .int i, .int g, .int x, .int n])
  sq : SqL K H c (ns.map V.int)
  cb : c ≠ b
  hi : i ≤ ns.length
  x0 : 0 ≤ x
  x1 : x < 4294967296
def BagC (K : PySem.W.Frag) (H : Hp) (b c : Addr) (ns : List Int) : Prop := ∃ i g x n, BagIs K H b c ns i g x n
def BagAt (K : PySem.W.Frag) (H : Hp) (b : Addr) : Prop := ∃ c ns i g x n, BagIs K H b c ns i g x n
theorem BagC.at {K : PySem.W.Frag} {H : Hp} {b c : Addr} {ns : List Int} (h : BagC K H b c ns) : BagAt K H b := ⟨c, ns, h⟩
/-- what stands stays, but for what stands at b -/
def But (b : Addr) (H H' : Hp) : Prop := ∀ p o, p ≠ b → H p = some o → H' p = some o
theorem But.refl {b : Addr} {H : Hp} : But b H H := fun _ _ _ h => h
theorem But.trans {b : Addr} {H H1 H2 : Hp} (x : But b H H1) (y : But b H1 H2) : But b H H2 := fun p o n h => y p o n (x p o n h)
theorem But.upd {b : Addr} {H : Hp} {o : HO} : But b H (upd H b o) := fun p u n h => by rw [upd_ne n]; exact h
theorem But.of {b : Addr} {H H' : Hp} (s : Same H H') : But b H H' := fun p o _ h => s p o h
theorem But.seq {K : PySem.W.Frag} {b p : Addr} {H H' : Hp} {xs : List V} (h : But b H H') (n : p ≠ b) (s : SqL K H p xs) : SqL K H' p xs := by
  rcases s with (s | ⟨o, s⟩) | s
  · exact .inl (.inl (h _ _ n s))
  · exact .inl (.inr ⟨o, h _ _ n s⟩)
  · exact .inr s
theorem But.seqT {K : PySem.W.Frag} {b p : Addr} {H H' : Hp} {xs : List V} (h : But b H H') (n : p ≠ b) (s : SqT K H p xs) : SqT K H' p xs := by
  rcases s with (s | ⟨o, s⟩) | s
  · exact .inl (.inl (h _ _ n s))
  · exact .inl (.inr ⟨o, h _ _ n s⟩)
  · exact .inr s
theorem BagIs.same {K : PySem.W.Frag} {H H' : Hp} {b c : Addr} {ns : List Int} {i : Nat} {g x n : Int} (B : BagIs K H b c ns i g x n) (s : Same H H') : BagIs K H' b c ns i g x n :=
  ⟨s _ _ B.ob, s.seq B.sq, B.cb, B.hi, B.x0, B.x1⟩
theorem BagAt.same {K : PySem.W.Frag} {H H' : Hp} {b : Addr} (B : BagAt K H b) (s : Same H H') : BagAt K H' b :=
  let ⟨c, ns, i, g, x, n, B⟩ := B; ⟨c, ns, i, g, x, n, B.same s⟩
theorem BagIs.put {K : PySem.W.Frag} {H : Hp} {b c : Addr} {ns : List Int} {i : Nat} {g x n : Int} (B : BagIs K H b c ns i g x n) {i' : Nat} {g' x' n' : Int} (hi : i' ≤ ns.length) (x0 : 0 ≤ x') (x1 : x' < 4294967296) :
    BagIs K (upd H b (.lst [.ref c, .int i', .int g', .int x', .int n'])) b c ns i' g' x' n' :=
  ⟨upd_same, (But.upd (H := H)).seq B.cb B.sq, B.cb, hi, x0, x1⟩
/-! ### promises -/
def spBag (K : PySem.W.Frag) : Sp := fun vs H Q _ => ∃ (a : Addr) (ns : List Int), vs = [.ref a] ∧ SqL K H a (ns.map V.int) ∧ ∀ b H', Same H H' → BagAt K H' b → H b = none → Q (.ref b) H'
def spDraw (K : PySem.W.Frag) : Sp := fun vs H Q _ => ∃ (b : Addr) (m : Int), vs = [.ref b, .int m] ∧ BagAt K H b ∧ 0 < m ∧ m < 1000000000000000000000000000000000000000 ∧ ∀ r H', 0 ≤ r → r < m → BagAt K H' b → But b H H' → Q (.int r) H'
def spDrawC (K : PySem.W.Frag) : Sp := fun vs H Q _ => ∃ (b : Addr) (m : Int) (c : Addr) (ns : List Int), vs = [.ref b, .int m] ∧ BagC K H b c ns ∧ 0 < m ∧ m < 1000000000000000000000000000000000000000 ∧ ∀ r H', 0 ≤ r → r < m → BagC K H' b c ns → But b H H' → Q (.int r) H'
/-- the bag's numbers are not the list at L, or stand in the written part -/
def Off (K : PySem.W.Frag) (L c : Addr) (ns : List Int) : Prop := c ≠ L ∨ ∃ (o : Obj) (its : Array Value) (n : Nat), K.lookup c = some o ∧ o.cls = .type "list" ∧ o.dict = none ∧ o.data = .seq its n ∧ its.size ≤ sizeLine ∧ Vals (ns.map V.int) its.toList
theorem BagC.off {K : PySem.W.Frag} {H : Hp} {b c L : Addr} {ns : List Int} (h : BagC K H b c ns) (n : H L = none) : Off K L c ns := by
  obtain ⟨i, g, x, m, B⟩ := h
  rcases B.sq with (s | ⟨o, s⟩) | s
  · exact .inl (ne_of_none s n)
  · exact .inl (ne_of_none s n)
  · exact .inr s
theorem BagC.upd {K : PySem.W.Frag} {H : Hp} {b c L : Addr} {ns : List Int} {o : HO} (h : BagC K H b c ns) (f : Off K L c ns) (n : L ≠ b) : BagC K (upd H L o) b c ns := by
  obtain ⟨i, g, x, m, B⟩ := h
  refine ⟨i, g, x, m, by rw [upd_ne n.symm]; exact B.ob, ?_, B.cb, B.hi, B.x0, B.x1⟩
  rcases f with f | f
  · exact (But.upd (b := L)).seq f B.sq
  · exact .inr f
theorem BagC.same {K : PySem.W.Frag} {H H' : Hp} {b c : Addr} {ns : List Int} (h : BagC K H b c ns) (s : Same H H') : BagC K H' b c ns := by
  obtain ⟨i, g, x, m, B⟩ := h
  exact ⟨i, g, x, m, B.same s⟩
def topS (i : Nat) : Stmt := PySem.Challenge.pw_soleheld_k18_blocks_split.main.body.getD i (.Pass ⟨0, 0, 0, 0⟩)
abbrev sLawBag : Stmt := topS 3
theorem scLawBag : FnScope ["script", "first", "cell"] ["script"] (defScope sLawBag) := ⟨rfl, rfl, rfl, by decide +kernel, rfl, by decide +kernel, by decide +kernel⟩
abbrev sLawPull : Stmt := topS 4
theorem scLawPull : FnScope ["bag", "many", "cell", "digit", "twice"] ["bag", "many"] (defScope sLawPull) := ⟨rfl, rfl, rfl, by decide +kernel, rfl, by decide +kernel, by decide +kernel⟩
theorem mod_lo {a m : Int} (h : 0 < m) : 0 ≤ a % m := Int.emod_nonneg a (by omega)
theorem mod_hi {a m : Int} (h : 0 < m) : a % m < m := Int.emod_lt_of_pos a h
theorem mul_right {a : Int} {c : Int} (h : Builtin.Int.intBits c ≤ 64) : IntMulOk a c := IntMulOk.of_right h
section
variable {P : Program} {w : World} {K : PySem.W.Frag} {mg : Str → Option Value} {base : Heap}
theorem ok_bag {f : Addr} {fd : FuncData} {k : Nat} (F : Fun K "_law_bag" "_law_bag" sLawBag f fd) (b_int : mg "int" = none) (b_list : mg "list" = none) (b_len : mg "len" = none) (b_sum : mg "sum" = none) : FnOk P w K mg base CX0 (k + 1) f fd ["script"] (spBag K) := by
  refine F.ok scLawBag (fun vs H Q E h => ?_) (fun cdv A outer s H vs Q E hr h => ?_)
  · obtain ⟨a, ns, rfl, _⟩ := h
    rfl
  · obtain ⟨a, ns, rfl, hS, q⟩ := h
    refine ⟨_, (pss_cons (ps_set (i := 1) scLawBag.nd rfl (.inl rfl) (pe_op op_add (pe_op op_add pe_int (pe_op op_mulG pe_int (pe_callB call_len rfl b_len (by decide +kernel) (pa_cons (pe_slice sl_list (pv 0) po_none (po_some pe_int)) pa_nil)))) (pe_callB (cr_sum rfl) rfl b_sum (by decide +kernel) (pa_cons (pe_lc (g := gName 2) (tt := tYes) (te := tOp (rI (fun _ j => 0 < j) fun i j => .int (i % j)) (tCB (fun xs H Q => (∃ i, xs = [.int i] ∧ Q (.int i) H) ∨ ∃ k, xs = [.bl k] ∧ Q (.int (if k then 1 else 0)) H) (tCons (tVar 2) tNil)) (tC (.int 1000003))) (own := [("cell", 2)]) rfl scLawBag.nd (pi_list (pe_slice sl_list (pv 0) po_none (po_some pe_int))) (blkOk_by (own := [("cell", 2)]) (N := ["script", "first", "cell"]) (sc := defScope sLawBag) (by decide +kernel)) (fun _ _ _ _ _ => (pg_name (i := 2) scLawBag.nd rfl (.inl rfl) (.inr rfl))) (fun _ _ _ _ _ => pts_nil) (fun _ _ _ _ _ => (pe_op op_mod (pe_callTy call_int1 rfl b_int (by decide +kernel) (pa_cons (pv 2) pa_nil)) pe_int))) pa_nil))))
      (pss_one (ps_ret (pe_lst (pa_cons (pe_callTy call_list_of rfl b_list (by decide +kernel) (pa_cons (pe_slice sl_list (pv 0) po_none (po_some pe_int)) pa_nil)) (pa_cons pe_int (pa_cons pe_int (pa_cons (pv 1) (pa_cons pe_int pa_nil))))))))), ?_⟩
    obtain ⟨ms, ec, hms⟩ : ∃ ms : List Int, cutV (ns.map V.int) none (some 63) = ms.map V.int ∧ ms.length ≤ 63 := by
      have e0 : HT.sIx (ns.map V.int).length 0 none = 0 := HT.sIx_none _ _
      have e1 : HT.sIx (ns.map V.int).length (ns.map V.int).length (some 63) = min 63 (ns.map V.int).length := HT.sIx_nat _ _ 63
      refine ⟨(ns.drop 0).take (min 63 ns.length), ?_, ?_⟩
      · unfold cutV
        rw [e0, e1, List.map_take, List.map_drop, List.length_map, Nat.sub_zero]
      · rw [List.length_take]
        omega
    refine ⟨_, rfl, _, rfl, a, _, rfl, hS, fun c nc => ?_⟩
    rw [ec]
    refine ⟨_, _, rfl, .inl ⟨_, SqL.of upd_same, rfl⟩, _, _, rfl, rfl, IntMulOk.of_left (by decide +kernel), _, _, rfl, rfl, ?_⟩
    have s1 := same_upd (o := .lst (ms.map V.int)) nc
    refine ⟨_, rfl, _, rfl, a, _, rfl, s1.seq hS, fun c2 nc2 => ?_⟩
    rw [ec]
    have s2 := s1.trans (same_upd (o := .lst (ms.map V.int)) nc2)
    refine ⟨c2, rfl, ⟨_, SqL.of upd_same⟩, fun D nD => lc_list (K := K) (a := c2) (xs := ms.map V.int) (fun i G => ∃ zs : List Int, zs.length = i ∧ (∀ z ∈ zs, 0 ≤ z ∧ z < 1000003) ∧ Same H G ∧ G c2 = some (.lst (ms.map V.int)) ∧ G D = some (.lst (zs.map V.int))) ⟨[], rfl, (fun z hz => absurd hz (by simp)), s2.trans (same_upd nD), same_upd nD _ _ upd_same, upd_same⟩ (fun i G _ ⟨_, _, _, _, e, _⟩ => SqL.of e) ?_ ?_⟩
    · rintro i y G hi ⟨zs, hz1, hz2, sG, ec2, eD⟩
      obtain ⟨z, -, rfl⟩ : ∃ z, ms[i]? = some z ∧ y = .int z := by
        rw [List.getElem?_map] at hi
        cases e : ms[i]? with
        | none => rw [e] at hi; cases hi
        | some z => rw [e] at hi; exact ⟨z, rfl, (Option.some.inj hi).symm⟩
      have hil : i < 63 := by
        have := (List.getElem?_eq_some_iff.mp hi).1
        rw [List.length_map] at this
        omega
      refine ⟨rfl, ?_⟩
      unfold tYes
      refine iteT ⟨_, rfl, .inl ⟨_, rfl, _, _, rfl, rfl, (by show (0 : Int) < _; decide), _, eD, ?_, zs ++ [z % 1000003], ?_, ?_, ?_, ?_, ?_⟩⟩
      · rw [List.length_map]
        exact small1000 (by omega)
      · rw [List.length_append, hz1]
        rfl
      · intro x hx
        rcases List.mem_append.mp hx with h | h
        · exact hz2 x h
        · have : x = z % 1000003 := by simpa using h
          rw [this]
          exact ⟨mod_lo (by decide), mod_hi (by decide)⟩
      · intro p o h
        have hD : H D = none := s2.free nD
        rw [upd_ne (ne_of_none h hD)]
        exact sG p o h
      · rw [upd_ne (ne_of_none upd_same nD)]
        exact ec2
      · rw [upd_same, List.map_append]
        rfl
    · rintro G ⟨zs, hz1, hz2, sG, ec2, eD⟩
      rw [List.length_map] at hz1
      have hsum : ∀ l : List Int, (∀ z ∈ l, 0 ≤ z ∧ z < 1000003) → 0 ≤ l.sum ∧ l.sum ≤ l.length * 1000003 := by
        intro l
        induction l with
        | nil => intro _; exact ⟨by decide, by decide⟩
        | cons x l ih =>
          intro h
          obtain ⟨h1, h2⟩ := ih fun z hz => h z (List.mem_cons_of_mem _ hz)
          obtain ⟨h3, h4⟩ := h x (by simp)
          rw [List.sum_cons, List.length_cons]
          omega
      obtain ⟨u1, u2⟩ := hsum zs hz2
      refine ⟨D, zs, rfl, SqL.of eD, _, _, rfl, rfl, ?_⟩
      refine ⟨_, rfl, _, rfl, a, _, rfl, sG.seq hS, fun d nd => ?_⟩
      rw [ec]
      refine ⟨d, _, rfl, .inl (SqL.of upd_same), fun l nl => ⟨_, rfl, (by show 5 ≤ sizeLine; decide), fun b nb => ?_⟩⟩
      have s3 := (sG.trans (same_upd (o := .lst (ms.map V.int)) nd)).trans (same_upd (o := .lst (ms.map V.int)) nl)
      refine q b _ (s3.trans (same_upd nb)) ⟨l, ms, 0, 0, _, 0, upd_same, ?_, ?_, Nat.zero_le _, ?_, ?_⟩ (s3.free nb)
      · have e : l ≠ b := fun e => by rw [← e, upd_same] at nb; cases nb
        exact SqL.of (by rw [upd_ne e, upd_same])
      · exact fun e => by rw [← e, upd_same] at nb; cases nb
      · rw [List.length_map]
        omega
      · rw [List.length_map]
        omega
theorem ok_pullC {f : Addr} {fd : FuncData} {k : Nat} (F : Fun K "_law_pull" "_law_pull" sLawPull f fd) (b_int : mg "int" = none) (b_len : mg "len" = none) (b_abs : mg "abs" = none) : FnOk P w K mg base CX0 (k + 1) f fd ["bag", "many"] (spDrawC K) := by
  refine F.ok scLawPull (fun vs H Q E h => ?_) (fun cdv A outer s H vs Q E hr h => ?_)
  · obtain ⟨b, m, c, ns, rfl, _⟩ := h
    rfl
  · obtain ⟨b, m, c, ns, rfl, ⟨i, g, x, n, B⟩, m0, m1, q⟩ := h
    refine ⟨_, (C8.pss_cut (ps_if (PW.pt (pw_and (pt_cmpR op_eq (pe_ix ix_list (pv 0) pe_int (fun _ _ => rfl)) pe_int (nomark _)) (pw_and1 (pt_cmpR op_lt (pe_ix ix_list (pv 0) pe_int (fun _ _ => rfl)) (pe_callB call_len rfl b_len (by decide +kernel) (pa_cons (pe_ix ix_list (pv 0) pe_int (fun _ _ => rfl)) pa_nil)) (nomark _))))) (pss_cons (ps_set (i := 2) scLawPull.nd rfl (.inl rfl) (pe_callTy call_int1 rfl b_int (by decide +kernel) (pa_cons (pe_ix ix_list (pe_ix ix_list (pv 0) pe_int (fun _ _ => rfl)) (pe_ix ix_list (pv 0) pe_int (fun _ _ => rfl)) (fun _ _ => rfl)) pa_nil)))
        (pss_cons (ps_asg (pe_op op_add (pe_ix ix_list (pv 0) pe_int (fun _ _ => rfl)) pe_int) (pg_sub (pv 0) pe_int set_list))
        (pss_one (ps_if (pt_cmpR op_ge (pe_callB call_abs rfl b_abs (by decide +kernel) (pa_cons (pv 2) pa_nil)) (pe_op op_powG pe_int pe_int) (nomark _)) (pss_one (ps_asg (pe_callB call_abs rfl b_abs (by decide +kernel) (pa_cons (pv 2) pa_nil)) (pg_sub (pv 0) pe_int set_list))) (pss_one (ps_asg (pe_op op_mod (pe_callTy call_int1 rfl b_int (by decide +kernel) (pa_cons (pe_op op_add (pe_op op_add (pe_op op_mulG (pe_ix ix_list (pv 0) pe_int (fun _ _ => rfl)) pe_int) (pe_op op_mulG (pe_op op_mod (pe_callTy call_int1 rfl b_int (by decide +kernel) (pa_cons (pv 2) pa_nil)) pe_int) pe_int)) pe_int) pa_nil)) pe_int) (pg_sub (pv 0) pe_int set_list))))))) pss_nil)
      (pss_cons (ps_if (pt_cmpR op_gt (pe_ix ix_list (pv 0) pe_int (fun _ _ => rfl)) pe_int (nomark _)) (pss_cons (ps_set (i := 3) scLawPull.nd rfl (.inl rfl) (pe_op op_mod (pe_callTy call_int1 rfl b_int (by decide +kernel) (pa_cons (pe_ix ix_list (pv 0) pe_int (fun _ _ => rfl)) pa_nil)) (pv 1)))
        (pss_cons (ps_asg (pe_op op_fdivW (pe_ix ix_list (pv 0) pe_int (fun _ _ => rfl)) (pv 1)) (pg_sub (pv 0) pe_int set_list))
        (pss_one (ps_ret (pv 3))))) pss_nil)
      (pss_cons (ps_asg (pe_op op_add (pe_ix ix_list (pv 0) pe_int (fun _ _ => rfl)) pe_int) (pg_sub (pv 0) pe_int set_list))
      (pss_cons (ps_set (i := 4) scLawPull.nd rfl (.inl rfl) (pe_op op_mod (pe_callTy call_int1 rfl b_int (by decide +kernel) (pa_cons (pe_op op_add (pe_op op_mulG (pe_ix ix_list (pv 0) pe_int (fun _ _ => rfl)) (pe_ix ix_list (pv 0) pe_int (fun _ _ => rfl))) (pe_op op_mulG (pe_ix ix_list (pv 0) pe_int (fun _ _ => rfl)) pe_int)) pa_nil)) pe_int))
      (pss_cons (ps_asg (pe_op op_mod (pe_callTy call_int1 rfl b_int (by decide +kernel) (pa_cons (pe_op op_add (pe_op op_add (pe_op op_mulG (pv 4) pe_int) (pe_op op_mulG (pe_ix ix_list (pv 0) pe_int (fun _ _ => rfl)) pe_int)) pe_int) pa_nil)) pe_int) (pg_sub (pv 0) pe_int set_list))
      (pss_one (ps_ret (pe_op op_mod (pe_callTy call_int1 rfl b_int (by decide +kernel) (pa_cons (pe_op op_fdivW (pe_ix ix_list (pv 0) pe_int (fun _ _ => rfl)) pe_int) pa_nil)) (pv 1))))))))), ?_⟩
    refine ⟨fun σ' H' => ∃ (v2 v3 v4 : Option V) (i' : Nat) (g' x' n' : Int), σ' = [some (.ref b), some (.int m), v2, v3, v4] ∧ BagIs K H' b c ns i' g' x' n' ∧ But b H H', ?_, ?_⟩
    · refine ⟨.ref b, rfl, b, _, 2, _, rfl, rfl, SqL.of B.ob, (atI_nat (j := 2) rfl), rfl, _, rfl, ?_⟩
      refine ite2 (fun _ => ?_) (fun _ => ?_)
      · refine ⟨.ref b, rfl, b, _, 1, _, rfl, rfl, SqL.of B.ob, (atI_nat (j := 1) rfl), .ref b, rfl, b, _, 0, _, rfl, rfl, SqL.of B.ob, (atI_nat (j := 0) rfl), _, _, rfl, .inl ⟨_, B.sq, rfl⟩, _, _, rfl, rfl, _, rfl, ?_⟩
        refine ite2 (fun e => ?_) (fun _ => ?_)
        · have hlt : i < ns.length := by
            have e2 := of_decide_eq_true e
            rw [List.length_map] at e2
            omega
          have gi : (ns.map V.int)[i]? = some (.int ns[i]) := by
            rw [List.getElem?_map, List.getElem?_eq_getElem hlt]
            rfl
          refine ⟨.ref b, rfl, b, _, 0, _, rfl, rfl, SqL.of B.ob, (atI_nat (j := 0) rfl), .ref b, rfl, b, _, 1, _, rfl, rfl, SqL.of B.ob, (atI_nat (j := 1) rfl), c, _, i, _, rfl, rfl, B.sq, atI_nat gi, .inl ⟨_, rfl, ?_⟩⟩
          refine ⟨.ref b, rfl, b, _, 1, _, rfl, rfl, SqL.of B.ob, (atI_nat (j := 1) rfl), _, _, rfl, rfl, .ref b, rfl, b, _, 1, 1, rfl, rfl, B.ob, rfl, ?_⟩
          have B2 : BagIs K (upd H b (.lst [.ref c, .int ((i : Int) + 1), .int g, .int x, .int n])) b c ns (i + 1) g x n := B.put (i' := i + 1) hlt B.x0 B.x1
          have t2 : But b H (upd H b (.lst [.ref c, .int ((i : Int) + 1), .int g, .int x, .int n])) := But.upd
          refine ⟨_, rfl, _, rfl, _, _, rfl, rfl, ⟨by decide, by decide +kernel⟩, _, _, rfl, rfl, _, rfl, ?_⟩
          refine ite2 (fun _ => ?_) (fun _ => ?_)
          · refine ⟨_, rfl, _, rfl, .ref b, rfl, b, _, 2, 2, rfl, rfl, B2.ob, rfl, ?_⟩
            exact ⟨_, _, _, i + 1, _, x, n, rfl, B2.put B2.hi B.x0 B.x1, t2.trans But.upd⟩
          · refine ⟨.ref b, rfl, b, _, 3, _, rfl, rfl, SqL.of B2.ob, (atI_nat (j := 3) rfl), _, _, rfl, rfl, mul_right (by decide +kernel), _, rfl, .inl ⟨_, rfl, _, _, rfl, rfl, (by show (0 : Int) < _; decide), _, _, rfl, rfl, mul_right (by decide +kernel), _, _, rfl, rfl, _, _, rfl, rfl, .inl ⟨_, rfl, _, _, rfl, rfl, (by show (0 : Int) < _; decide), ?_⟩⟩⟩
            refine ⟨.ref b, rfl, b, _, 3, 3, rfl, rfl, B2.ob, rfl, ?_⟩
            exact ⟨_, _, _, i + 1, g, _, n, rfl, B2.put B2.hi (mod_lo (by decide)) (Int.lt_trans (mod_hi (by decide)) (by decide)), t2.trans But.upd⟩
        · exact ⟨_, _, _, i, g, x, n, rfl, B, But.refl⟩
      · exact ⟨_, _, _, i, g, x, n, rfl, B, But.refl⟩
    · rintro σ' H' ⟨v2, v3, v4, i', g', x', n', rfl, B', t'⟩
      refine ⟨.ref b, rfl, b, _, 2, _, rfl, rfl, SqL.of B'.ob, (atI_nat (j := 2) rfl), _, _, rfl, rfl, _, rfl, ?_⟩
      have d1 : CDivW g' m := wide_div m0 (b := 130) (by omega) (by decide) (by decide)
      refine ite2 (fun _ => ?_) (fun _ => ?_)
      · refine ⟨.ref b, rfl, b, _, 2, _, rfl, rfl, SqL.of B'.ob, (atI_nat (j := 2) rfl), .inl ⟨_, rfl, _, rfl, _, _, rfl, rfl, m0, ?_⟩⟩
        refine ⟨.ref b, rfl, b, _, 2, _, rfl, rfl, SqL.of B'.ob, (atI_nat (j := 2) rfl), _, rfl, _, _, rfl, rfl, d1, .ref b, rfl, b, _, 2, 2, rfl, rfl, B'.ob, rfl, ?_⟩
        exact ⟨_, rfl, q _ _ (mod_lo m0) (mod_hi m0) ⟨i', g' / m, x', n', B'.put B'.hi B'.x0 B'.x1⟩ (t'.trans But.upd)⟩
      · refine ⟨.ref b, rfl, b, _, 4, _, rfl, rfl, SqL.of B'.ob, (atI_nat (j := 4) rfl), _, _, rfl, rfl, .ref b, rfl, b, _, 4, 4, rfl, rfl, B'.ob, rfl, ?_⟩
        have B3 : BagIs K (upd H' b (.lst [.ref c, .int i', .int g', .int x', .int (n' + 1)])) b c ns i' g' x' (n' + 1) := B'.put B'.hi B'.x0 B'.x1
        have hx : IntMulOk x' x' := IntMulOk.of_left (intBits_le_64 (by have := B'.x0; omega) (by have := B'.x1; omega))
        refine ⟨.ref b, rfl, b, _, 3, _, rfl, rfl, SqL.of B3.ob, (atI_nat (j := 3) rfl), .ref b, rfl, b, _, 3, _, rfl, rfl, SqL.of B3.ob, (atI_nat (j := 3) rfl), _, _, rfl, rfl, hx, .ref b, rfl, b, _, 4, _, rfl, rfl, SqL.of B3.ob, (atI_nat (j := 4) rfl), _, _, rfl, rfl, mul_right (by decide +kernel), _, _, rfl, rfl, .inl ⟨_, rfl, _, _, rfl, rfl, (by show (0 : Int) < _; decide), ?_⟩⟩
        refine ⟨_, rfl, _, _, rfl, rfl, mul_right (by decide +kernel), .ref b, rfl, b, _, 3, _, rfl, rfl, SqL.of B3.ob, (atI_nat (j := 3) rfl), _, _, rfl, rfl, mul_right (by decide +kernel), _, _, rfl, rfl, _, _, rfl, rfl, .inl ⟨_, rfl, _, _, rfl, rfl, (by show (0 : Int) < _; decide), .ref b, rfl, b, _, 3, 3, rfl, rfl, B3.ob, rfl, ?_⟩⟩
        obtain ⟨y, hy, y0, y1⟩ : ∃ y : Int, y = ((x' * x' + (n' + 1) * 8111) % 2147483543 * 16417 + x' * 60107 + 54323) % 2147483587 ∧ 0 ≤ y ∧ y < 4294967296 := ⟨_, rfl, mod_lo (by decide), Int.lt_trans (mod_hi (by decide)) (by decide)⟩
        have B4 : BagIs K (upd (upd H' b (.lst [.ref c, .int i', .int g', .int x', .int (n' + 1)])) b (.lst [.ref c, .int i', .int g', .int (((x' * x' + (n' + 1) * 8111) % 2147483543 * 16417 + x' * 60107 + 54323) % 2147483587), .int (n' + 1)])) b c ns i' g' (((x' * x' + (n' + 1) * 8111) % 2147483543 * 16417 + x' * 60107 + 54323) % 2147483587) (n' + 1) := B3.put B3.hi (hy ▸ y0) (hy ▸ y1)
        refine ⟨.ref b, rfl, b, _, 3, _, rfl, rfl, SqL.of B4.ob, (atI_nat (j := 3) rfl), _, _, rfl, rfl, wide_div (b := 10) (by decide) (by decide) (by decide) (by decide), .inl ⟨_, rfl, _, rfl, _, _, rfl, rfl, m0, ?_⟩⟩
        exact q _ _ (mod_lo m0) (mod_hi m0) ⟨i', g', _, n' + 1, B4⟩ ((t'.trans But.upd).trans But.upd)
theorem ok_pull {f : Addr} {fd : FuncData} {k : Nat} (F : Fun K "_law_pull" "_law_pull" sLawPull f fd) (b_int : mg "int" = none) (b_len : mg "len" = none) (b_abs : mg "abs" = none) : FnOk P w K mg base CX0 (k + 1) f fd ["bag", "many"] (spDraw K) :=
  (ok_pullC F b_int b_len b_abs).imp fun vs H Q E ⟨b, m, e, ⟨c, ns, B⟩, m0, m1, q⟩ => ⟨b, m, c, ns, e, B, m0, m1, fun r H' r0 r1 B' t => q r H' r0 r1 B'.at t⟩
end
end My

set_option Elab.async false
set_option linter.all false
set_option maxRecDepth 100000
namespace My
open PySem PySem.Spec PyProof.Rows L2
abbrev sLawOf : Stmt := topS 5
theorem scLawOf : FnScope ["bag", "some"] ["bag", "some"] (defScope sLawOf) := ⟨rfl, rfl, rfl, by decide +kernel, rfl, by decide +kernel, by decide +kernel⟩
abbrev sLawLike : Stmt := topS 6
theorem scLawLike : FnScope ["found", "due", "a", "b"] ["found", "due"] (defScope sLawLike) := ⟨rfl, rfl, rfl, by decide +kernel, rfl, by decide +kernel, by decide +kernel⟩
/-- things are a list of whole numbers -/
def spOf (K : PySem.W.Frag) : Sp := fun vs H Q _ => ∃ (b a : Addr) (xs : List V), vs = [.ref b, .ref a] ∧ BagAt K H b ∧ a ≠ b ∧ SqL K H a xs ∧ 0 < xs.length ∧ xs.length < 1000 ∧ ∀ v H', v ∈ xs → BagAt K H' b → But b H H' → Q v H'
/-! ### data that are alike -/
def flat0 : V → Prop
  | .non => True
  | .bl _ => True
  | .int _ => True
  | .str _ => True
  | _ => False
def Lk (K : PySem.W.Frag) (H : Hp) : Nat → V → V → Prop
  | 0, v, w => v = w ∧ flat0 v
  | n + 1, v, w => (v = w ∧ flat0 v) ∨ ∃ a b xs ys, v = .ref a ∧ w = .ref b ∧ ((SqL K H a xs ∧ SqL K H b ys) ∨ (SqT K H a xs ∧ SqT K H b ys)) ∧ xs.length = ys.length ∧ xs.length < 1000 ∧ ∀ (i : Nat) x y, xs[i]? = some x → ys[i]? = some y → Lk K H n x y
theorem seqT_same {K : PySem.W.Frag} {H H' : Hp} {p : Addr} {xs : List V} (h : Same H H') (s : SqT K H p xs) : SqT K H' p xs := by
  rcases s with (s | ⟨o, s⟩) | s
  · exact .inl (.inl (h _ _ s))
  · exact .inl (.inr ⟨o, h _ _ s⟩)
  · exact .inr s
theorem Lk.same {K : PySem.W.Frag} {H H' : Hp} (s : Same H H') : ∀ {n : Nat} {v w : V}, Lk K H n v w → Lk K H' n v w
  | 0, _, _, h => h
  | n + 1, _, _, h => by
    rcases h with h | ⟨a, b, xs, ys, e1, e2, hs, hl, hb, hi⟩
    · exact .inl h
    · refine .inr ⟨a, b, xs, ys, e1, e2, ?_, hl, hb, fun i x y p q => (hi i x y p q).same s⟩
      rcases hs with ⟨p, q⟩ | ⟨p, q⟩
      · exact .inl ⟨s.seq p, s.seq q⟩
      · exact .inr ⟨seqT_same s p, seqT_same s q⟩
theorem Lk.flat {K : PySem.W.Frag} {H : Hp} {n : Nat} {v w : V} (e : v = w) (f : flat0 v) : Lk K H n v w := by
  cases n with
  | zero => exact ⟨e, f⟩
  | succ n => exact .inl ⟨e, f⟩
def spLike (K : PySem.W.Frag) (n : Nat) : Sp := fun vs H Q _ => ∃ v w, vs = [v, w] ∧ Lk K H n v w ∧ ∀ H', Same H H' → Q (.bl true) H'
theorem ty_list {K : PySem.W.Frag} {H : Hp} {a : Addr} {xs : List V} (h : SqL K H a xs) : TyX K H (.ref a) (.type "list") := by
  rcases h with (h | ⟨o, h⟩) | ⟨o, its, n, h, c, _⟩
  · exact .base (.lst h)
  · exact .base (.frz h)
  · exact .kList h c
theorem ty_tup {K : PySem.W.Frag} {H : Hp} {a : Addr} {xs : List V} (h : SqT K H a xs) : TyX K H (.ref a) (.type "tuple") := by
  rcases h with (h | ⟨o, h⟩) | ⟨o, its, n, h, c, _⟩
  · exact .base (.tup h)
  · exact .fTuple h
  · exact .kTuple h c
/-- the type of a flat value -/
def tyN : V → String
  | .non => "NoneType"
  | .bl _ => "bool"
  | .int _ => "int"
  | .str _ => "str"
  | _ => ""
theorem ty_flat {K : PySem.W.Frag} {H : Hp} {v : V} (h : flat0 v) : TyX K H v (.type (tyN v)) := by
  cases v with
  | non => exact .base .non
  | bl b => exact .base (.bl b)
  | int i => exact .base (.int i)
  | str x => exact .base (.str x)
  | _ => exact h.elim
theorem cls2 {a b : String} : Paired ClsV [.ty a, .ty b] [.type a, .type b] := .cons (.ty a) (.cons (.ty b) .nil)
section
variable {P : Program} {w : World} {K : PySem.W.Frag} {mg : Str → Option Value} {base : Heap}
theorem kit_ll : PySem.W.kitAny K (.type "list") [.type "list", .type "tuple"] = some true := by rfl
theorem kit_tl : PySem.W.kitAny K (.type "tuple") [.type "list", .type "tuple"] = some true := by rfl
theorem kit_flat {v : V} (h : flat0 v) : PySem.W.kitAny K (.type (tyN v)) [.type "list", .type "tuple"] = some false := by
  cases v <;> first | rfl | exact h.elim
theorem k1_ll : PySem.W.kitOne K (.type "list") (.type "list") = some true := by rfl
theorem k1_lt : PySem.W.kitOne K (.type "list") (.type "tuple") = some false := by rfl
theorem k1_tl : PySem.W.kitOne K (.type "tuple") (.type "list") = some false := by rfl
theorem k1_tt : PySem.W.kitOne K (.type "tuple") (.type "tuple") = some true := by rfl
theorem k1_flat {v : V} (h : flat0 v) (c : String) (hc : c = "bool" ∨ c = "str" ∨ c = "int") : ∃ b, PySem.W.kitOne K (.type (tyN v)) (.type c) = some b := by
  cases v <;> first | exact h.elim | (rcases hc with rfl | rfl | rfl <;> exact ⟨_, rfl⟩)
theorem pe_ty {X : Cx} (T : String) {x : Str} {pos : Pos} (hg : Gl X x) (hm : X.mg x = none) (hv : bootBuiltins x = some (.type T)) (hn : x ≠ "__name__" := by decide) (hd : (x == ("__debug__" : Str)) = false := by decide) : PE X (.Name x pos) (tC (.ty T)) := pe_bltn hg hm hv rfl hn hd
theorem walk_zipT {a b : Addr} {xs ys : List V} {n : Nat} (hn : n = min xs.length ys.length) : Walk (RZ.ItzT K a b) n (fun H => SqT K H a xs ∧ SqT K H b ys) (YPair (fun i => xs[i]?) (fun i => ys[i]?)) := by
  subst hn
  refine ⟨fun i _ hi q => ?_, fun _ q => ⟨xs, ys, q.1, q.2, by omega⟩, fun i H v H' _ q y => ?_⟩
  · have h1 : i < xs.length := by omega
    have h2 : i < ys.length := by omega
    exact ⟨xs, ys, xs[i], ys[i], q.1, q.2, by simp [h1], by simp [h2]⟩
  · obtain ⟨T, x, z, h1, h2, h3, h4, h5⟩ := y
    exact ⟨T, x, z, h1, h2, h3, h4 xs q.1, h5 ys q.2⟩
theorem ok_of {f fD : Addr} {fd fdD : FuncData} {k : Nat} (F : Fun K "_law_of" "_law_of" sLawOf f fd) (D : Cal P w K mg base "_law_pull" (k + 1) ["bag", "many"] (spDraw K) fD fdD) (b_len : mg "len" = none) : FnOk P w K mg base CX0 (k + 2) f fd ["bag", "some"] (spOf K) := by
  refine F.ok scLawOf (fun vs H Q E h => ?_) (fun cdv A outer s H vs Q E hr h => ?_)
  · obtain ⟨b, a, xs, rfl, _⟩ := h
    rfl
  · obtain ⟨b, a, xs, rfl, B, n, hs, h0, h1, q⟩ := h
    refine ⟨_, (pss_one (ps_ret (pe_ix ix_list (pv 1) (pe_call D.ok hr rfl D.g D.kp D.b .nil pass0 (pa_cons (pv 0) (pa_cons (pe_callB call_len rfl b_len (by decide +kernel) (pa_cons (pv 1) pa_nil)) pa_nil))) (fun _ _ => rfl)))), ?_⟩
    refine ⟨_, rfl, _, rfl, _, rfl, _, _, rfl, .inl ⟨_, hs, rfl⟩, b, _, rfl, B, by omega, by omega, fun r H' r0 r1 B' t => ?_⟩
    obtain ⟨j, rfl⟩ : ∃ j : Nat, r = (j : Int) := ⟨r.toNat, by omega⟩
    have hj : j < xs.length := by omega
    exact ⟨a, _, _, xs[j], rfl, rfl, t.seq n hs, atI_nat (List.getElem?_eq_getElem hj), q _ H' (List.getElem_mem hj) B' t⟩
theorem all_true : ∀ n : Nat, (List.replicate n true).all id = true := fun n => by
  induction n with
  | zero => rfl
  | succ n ih => rw [List.replicate_succ, List.all_cons, ih]; rfl
theorem FnOk.never {f : Addr} {fd : FuncData} {k : Nat} {ps : List Str} : FnOk P w K mg base CX0 k f fd ps (fun _ _ _ _ => False) := ⟨fun _ _ _ _ h => h.elim, fun _ _ _ _ _ _ _ _ _ _ _ _ _ h => h.elim⟩
def spLikeM (K : PySem.W.Frag) (M : Hp → V → V → Prop) : Sp := fun vs H Q _ => ∃ v w, vs = [v, w] ∧ ((v = w ∧ flat0 v) ∨ ∃ a b xs ys, v = .ref a ∧ w = .ref b ∧ ((SqL K H a xs ∧ SqL K H b ys) ∨ (SqT K H a xs ∧ SqT K H b ys)) ∧ xs.length = ys.length ∧ xs.length < 1000 ∧ ∀ (i : Nat) x y, xs[i]? = some x → ys[i]? = some y → M H x y) ∧ ∀ H', Same H H' → Q (.bl true) H'
theorem like_step {f : Addr} {fd : FuncData} {k : Nat} {R : Sp} {M : Hp → V → V → Prop} (F : Fun K "_law_like" "_law_like" sLawLike f fd) (g : mg "_law_like" = some (.ref f)) (b : Binds K fd ["found", "due"] [])
    (b_isinstance : mg "isinstance" = none) (b_list : mg "list" = none) (b_tuple : mg "tuple" = none) (b_bool : mg "bool" = none) (b_str : mg "str" = none) (b_int : mg "int" = none) (b_len : mg "len" = none) (b_all : mg "all" = none) (b_zip : mg "zip" = none)
    (G : FnOk P w K mg base CX0 k f fd ["found", "due"] R) (hM : ∀ v w H Q E, M H v w → (∀ H', Same H H' → Q (.bl true) H') → R [v, w] H Q E) (hS : ∀ H H' v w, Same H H' → M H v w → M H' v w) : FnOk P w K mg base CX0 (k + 1) f fd ["found", "due"] (spLikeM K M) := by
  refine F.ok scLawLike (fun vs H Q E h => ?_) (fun cdv A outer s H vs Q E hr h => ?_)
  · obtain ⟨v, w', rfl, _⟩ := h
    rfl
  · obtain ⟨v, w', rfl, L, q⟩ := h
    refine ⟨_, (pss_cons (ps_if (PW.pt (pw_or (pt_cmpR op_isN (pv 1) pe_non (nomark _)) (pw_or1 (pt_cmpR op_isN (pv 0) pe_non (nomark _))))) (pss_one (ps_ret (pe_and (pe_cmpR op_isN (pv 1) pe_non (nomark _)) (pe_one (pe_cmpR op_isN (pv 0) pe_non (nomark _)))))) pss_nil)
      (pss_cons (ps_if (pt_val (pe_callB call_isiT rfl b_isinstance (by decide +kernel) (pa_cons (pv 1) (pa_cons (pe_tup (pa_cons (pe_ty "list" rfl b_list (by decide +kernel)) (pa_cons (pe_ty "tuple" rfl b_tuple (by decide +kernel)) pa_nil))) pa_nil)))) (pss_cons (ps_if (PW.pt (pw_or (pt_cmpR op_ne (pe_callB call_isi rfl b_isinstance (by decide +kernel) (pa_cons (pv 0) (pa_cons (pe_ty "list" rfl b_list (by decide +kernel)) pa_nil))) (pe_callB call_isi rfl b_isinstance (by decide +kernel) (pa_cons (pv 1) (pa_cons (pe_ty "list" rfl b_list (by decide +kernel)) pa_nil))) (nomark _)) (pw_or1 (pt_cmpR op_ne (pe_callB call_isi rfl b_isinstance (by decide +kernel) (pa_cons (pv 0) (pa_cons (pe_ty "tuple" rfl b_tuple (by decide +kernel)) pa_nil))) (pe_callB call_isi rfl b_isinstance (by decide +kernel) (pa_cons (pv 1) (pa_cons (pe_ty "tuple" rfl b_tuple (by decide +kernel)) pa_nil))) (nomark _))))) (pss_one (ps_ret pe_bl)) pss_nil)
        (pss_one (ps_ret (pe_and (pe_cmpR op_eq (pe_callB call_len rfl b_len (by decide +kernel) (pa_cons (pv 0) pa_nil)) (pe_callB call_len rfl b_len (by decide +kernel) (pa_cons (pv 1) pa_nil)) (nomark _)) (pe_one (pe_callB (cr_all rfl) rfl b_all (by decide +kernel) (pa_cons (pe_lc (own := [("a", 2), ("b", 3)]) (g := gTup K 2 (gCons (gName 2) (gCons (gName 3) gNil))) (tt := tYes) rfl scLawLike.nd (RZ.pi_zipA rfl b_zip (pa_cons (pv 0) (pa_cons (pv 1) pa_nil))) (blkOk_by (own := [("a", 2), ("b", 3)]) (N := ["found", "due", "a", "b"]) (sc := defScope sLawLike) (by decide +kernel)) (fun _ _ _ _ _ => (pg_tup rfl (pgs_cons (pg_name (i := 2) scLawLike.nd rfl (.inl rfl) (.inr rfl)) (pgs_cons (pg_name (i := 3) scLawLike.nd rfl (.inl rfl) (.inr rfl)) pgs_nil)))) (fun _ _ _ _ _ => pts_nil) (fun _ _ _ _ _ => (pe_call G hr rfl g F.kp b .nil pass0 (pa_cons (pv 2) (pa_cons (pv 3) pa_nil))))) pa_nil))))))) pss_nil)
      (pss_cons (ps_if (PW.pt (pw_or (pt_cmpR op_ne (pe_callB call_isi rfl b_isinstance (by decide +kernel) (pa_cons (pv 1) (pa_cons (pe_ty "bool" rfl b_bool (by decide +kernel)) pa_nil))) (pe_callB call_isi rfl b_isinstance (by decide +kernel) (pa_cons (pv 0) (pa_cons (pe_ty "bool" rfl b_bool (by decide +kernel)) pa_nil))) (nomark _)) (pw_or1 (pt_cmpR op_ne (pe_callB call_isi rfl b_isinstance (by decide +kernel) (pa_cons (pv 1) (pa_cons (pe_ty "int" rfl b_int (by decide +kernel)) pa_nil))) (pe_callB call_isi rfl b_isinstance (by decide +kernel) (pa_cons (pv 0) (pa_cons (pe_ty "int" rfl b_int (by decide +kernel)) pa_nil))) (nomark _))))) (pss_one (ps_ret pe_bl)) pss_nil)
      (pss_one (ps_ret (pe_and (pe_cmpR op_eq (pe_callB call_isi rfl b_isinstance (by decide +kernel) (pa_cons (pv 0) (pa_cons (pe_ty "str" rfl b_str (by decide +kernel)) pa_nil))) (pe_callB call_isi rfl b_isinstance (by decide +kernel) (pa_cons (pv 1) (pa_cons (pe_ty "str" rfl b_str (by decide +kernel)) pa_nil))) (nomark _)) (pe_one (pe_cmpR op_eq (pv 0) (pv 1) (nomark _))))))))), ?_⟩
    rcases L with ⟨rfl, fl⟩ | ⟨a, c, xs, ys, rfl, rfl, hs, hl, hb, hi⟩
    · have hf : flat0 v := fl
      refine ⟨v, rfl, rfl, _, rfl, ite2 (fun e => iteT ?_) (fun e => ⟨v, rfl, rfl, _, rfl, ite2 (fun e' => absurd e' e) (fun _ => ?_)⟩)⟩
      · refine ⟨v, rfl, rfl, _, rfl, ?_⟩
        rw [e]
        refine iteT ⟨v, rfl, rfl, ?_⟩
        rw [e]
        exact q _ (Same.refl H)
      · refine ⟨_, rfl, (by show 2 ≤ sizeLine; decide), fun p np => ⟨_, p, _, _, _, _, rfl, upd_same, cls2, ty_flat hf, kit_flat hf, _, rfl, iteF ?_⟩⟩
        have s1 := same_upd (o := .tup [.ty "list", .ty "tuple"]) np
        obtain ⟨k1, e1⟩ := k1_flat (K := K) hf "bool" (.inl rfl)
        obtain ⟨k2, e2⟩ := k1_flat (K := K) hf "str" (.inr (.inl rfl))
        obtain ⟨k3, e3⟩ := k1_flat (K := K) hf "int" (.inr (.inr rfl))
        refine ⟨_, rfl, _, _, _, _, _, rfl, .ty _, ty_flat hf, e1, _, rfl, _, _, _, _, _, rfl, .ty _, ty_flat hf, e1, rfl, _, rfl, ?_⟩
        rw [decide_eq_true rfl]
        refine iteF ⟨_, rfl, _, _, _, _, _, rfl, .ty _, ty_flat hf, e3, _, rfl, _, _, _, _, _, rfl, .ty _, ty_flat hf, e3, rfl, _, rfl, ?_⟩
        rw [decide_eq_true rfl]
        refine iteF ⟨_, rfl, _, _, _, _, _, rfl, .ty _, ty_flat hf, e2, _, rfl, _, _, _, _, _, rfl, .ty _, ty_flat hf, e2, rfl, _, rfl, ?_⟩
        rw [decide_eq_true rfl]
        refine iteT ⟨_, rfl, _, rfl, ?_, ?_⟩
        · cases v <;> first | rfl | exact hf.elim
        · rw [decide_eq_true rfl]
          exact q _ s1
    · -- lists or tuples
      have hr1 : ∀ (i : Nat) x y, xs[i]? = some x → ys[i]? = some y → M H x y := hi
      obtain ⟨T, kt, k1, k2, tya, tyc, hlen, hlen'⟩ : ∃ T, PySem.W.kitAny K (.type T) [.type "list", .type "tuple"] = some true ∧ (∃ k1, PySem.W.kitOne K (.type T) (.type "list") = some k1) ∧ (∃ k2, PySem.W.kitOne K (.type T) (.type "tuple") = some k2) ∧ (∀ H', Same H H' → TyX K H' (.ref a) (.type T)) ∧ (∀ H', Same H H' → TyX K H' (.ref c) (.type T)) ∧ (∀ H', Same H H' → LenV K (.ref a) H' xs.length) ∧ (∀ H', Same H H' → LenV K (.ref c) H' ys.length) := by
        rcases hs with ⟨p, q⟩ | ⟨p, q⟩
        · exact ⟨"list", kit_ll, ⟨_, k1_ll⟩, ⟨_, k1_lt⟩, fun _ s => ty_list (s.seq p), fun _ s => ty_list (s.seq q), fun _ s => .inl ⟨_, s.seq p, rfl⟩, fun _ s => .inl ⟨_, s.seq q, rfl⟩⟩
        · exact ⟨"tuple", kit_tl, ⟨_, k1_tl⟩, ⟨_, k1_tt⟩, fun _ s => ty_tup (seqT_same s p), fun _ s => ty_tup (seqT_same s q), fun _ s => .inr ⟨_, seqT_same s p, rfl⟩, fun _ s => .inr ⟨_, seqT_same s q, rfl⟩⟩
      obtain ⟨k1, e1⟩ := k1
      obtain ⟨k2, e2⟩ := k2
      refine ⟨_, rfl, rfl, _, rfl, ite2 (fun e => absurd (of_decide_eq_true e) (fun z => by cases z)) (fun _ => ⟨_, rfl, rfl, _, rfl, ite2 (fun e => absurd (of_decide_eq_true e) (fun z => by cases z)) (fun _ => ?_)⟩)⟩
      refine ⟨_, rfl, (by show 2 ≤ sizeLine; decide), fun p0 np => ⟨_, p0, _, _, _, _, rfl, upd_same, cls2, tyc _ (same_upd np), kt, _, rfl, iteT ?_⟩⟩
      have s1 : Same H (upd H p0 (.tup [.ty "list", .ty "tuple"])) := same_upd np
      refine ⟨_, rfl, _, _, _, _, _, rfl, .ty _, tya _ s1, e1, _, rfl, _, _, _, _, _, rfl, .ty _, tyc _ s1, e1, rfl, _, rfl, ?_⟩
      rw [decide_eq_true rfl]
      refine iteF ⟨_, rfl, _, _, _, _, _, rfl, .ty _, tya _ s1, e2, _, rfl, _, _, _, _, _, rfl, .ty _, tyc _ s1, e2, rfl, _, rfl, ?_⟩
      rw [decide_eq_true rfl]
      refine iteF ⟨_, rfl, _, _, rfl, hlen _ s1, _, rfl, _, _, rfl, hlen' _ s1, rfl, _, rfl, ?_⟩
      rw [hl, decide_eq_true rfl]
      refine iteT ⟨_, rfl, _, rfl, a, c, xs, ys, rfl, ?_⟩
      rcases hs with ⟨p, q'⟩ | ⟨p, q'⟩
      ·
        refine .inl ⟨Same.seq s1 p, Same.seq s1 q', fun D nD => lc_it (walk_zip (K := K) (a := a) (b := c) (by omega : xs.length = min xs.length ys.length)) (fun i H2 => Same (upd H p0 (.tup [.ty "list", .ty "tuple"])) H2 ∧ H2 D = some (.lst ((List.replicate i true).map V.bl))) ⟨same_upd nD, upd_same⟩ (fun i H2 _ h => ⟨Same.seq (s1.trans h.1) p, Same.seq (s1.trans h.1) q'⟩) ?_ ?_⟩
        · rintro i z H2 H3 hlt ⟨s2, hD⟩ ⟨T, x, y, rfl, nT, rfl, hx, hy⟩
          have nTD : D ≠ T := ne_of_none hD nT
          refine ⟨T, [x, y], rfl, SqT.of upd_same, rfl, x, [y], rfl, y, [], rfl, rfl, rfl, ?_⟩
          unfold tYes
          refine iteT ?_
          refine ⟨x, rfl, y, rfl, hM x y _ _ _ (hS _ _ _ _ ((s1.trans s2).trans (same_upd nT)) (hr1 i x y hx hy)) fun H4 s4 => ?_⟩
          have hD4 : H4 D = some (.lst ((List.replicate i true).map V.bl)) := s4 _ _ (by rw [upd_ne nTD]; exact hD)
          refine ⟨_, hD4, ?_, ?_, ?_⟩
          · rw [List.length_map, List.length_replicate]
            exact small1000 (by omega)
          · intro p' o' h'
            have nq : p' ≠ D := ne_of_none h' nD
            rw [upd_ne nq]
            exact s4 _ _ (same_upd nT _ _ (s2 _ _ h'))
          · rw [upd_same, List.replicate_succ', List.map_append]
            rfl
        · rintro H2 ⟨s2, hD⟩
          refine ⟨D, _, rfl, SqL.of hD, ?_⟩
          rw [all_true]
          exact q _ (s1.trans s2)
      ·
        refine .inr ⟨seqT_same s1 p, seqT_same s1 q', fun D nD => lc_it (walk_zipT (K := K) (a := a) (b := c) (by omega : xs.length = min xs.length ys.length)) (fun i H2 => Same (upd H p0 (.tup [.ty "list", .ty "tuple"])) H2 ∧ H2 D = some (.lst ((List.replicate i true).map V.bl))) ⟨same_upd nD, upd_same⟩ (fun i H2 _ h => ⟨seqT_same (s1.trans h.1) p, seqT_same (s1.trans h.1) q'⟩) ?_ ?_⟩
        · rintro i z H2 H3 hlt ⟨s2, hD⟩ ⟨T, x, y, rfl, nT, rfl, hx, hy⟩
          have nTD : D ≠ T := ne_of_none hD nT
          refine ⟨T, [x, y], rfl, SqT.of upd_same, rfl, x, [y], rfl, y, [], rfl, rfl, rfl, ?_⟩
          unfold tYes
          refine iteT ?_
          refine ⟨x, rfl, y, rfl, hM x y _ _ _ (hS _ _ _ _ ((s1.trans s2).trans (same_upd nT)) (hr1 i x y hx hy)) fun H4 s4 => ?_⟩
          have hD4 : H4 D = some (.lst ((List.replicate i true).map V.bl)) := s4 _ _ (by rw [upd_ne nTD]; exact hD)
          refine ⟨_, hD4, ?_, ?_, ?_⟩
          · rw [List.length_map, List.length_replicate]
            exact small1000 (by omega)
          · intro p' o' h'
            have nq : p' ≠ D := ne_of_none h' nD
            rw [upd_ne nq]
            exact s4 _ _ (same_upd nT _ _ (s2 _ _ h'))
          · rw [upd_same, List.replicate_succ', List.map_append]
            rfl
        · rintro H2 ⟨s2, hD⟩
          refine ⟨D, _, rfl, SqL.of hD, ?_⟩
          rw [all_true]
          exact q _ (s1.trans s2)

theorem ok_like {f : Addr} {fd : FuncData} (F : Fun K "_law_like" "_law_like" sLawLike f fd) (g : mg "_law_like" = some (.ref f)) (b : Binds K fd ["found", "due"] [])
    (b_isinstance : mg "isinstance" = none) (b_list : mg "list" = none) (b_tuple : mg "tuple" = none) (b_bool : mg "bool" = none) (b_str : mg "str" = none) (b_int : mg "int" = none) (b_len : mg "len" = none) (b_all : mg "all" = none) (b_zip : mg "zip" = none) :
    ∀ n : Nat, FnOk P w K mg base CX0 (n + 1) f fd ["found", "due"] (spLike K n) := by
  intro n
  induction n with
  | zero =>
    exact (like_step (M := fun _ _ _ => False) (R := fun _ _ _ _ => False) F g b b_isinstance b_list b_tuple b_bool b_str b_int b_len b_all b_zip FnOk.never (fun _ _ _ _ _ h _ => h) (fun _ _ _ _ _ h => h)).imp
      fun vs H Q E ⟨v, w', e, L, q⟩ => ⟨v, w', e, .inl L, q⟩
  | succ n ih =>
    exact (like_step (M := fun H v w => Lk K H n v w) F g b b_isinstance b_list b_tuple b_bool b_str b_int b_len b_all b_zip ih (fun v w H Q E h q => ⟨v, w, rfl, h, q⟩) (fun _ _ _ _ s h => h.same s)).imp
      fun vs H Q E ⟨v, w', e, L, q⟩ => ⟨v, w', e, L, q⟩
end
end My

set_option Elab.async false
set_option linter.all false
set_option maxRecDepth 100000
namespace L2
open PySem PySem.Spec PyProof.Rows
/-- an empty set as it is made -/
abbrev eset (w : World) : Obj := { cls := .type "set", dict := none, data := .set #[] 0 (.fresh 0 0 (!w.params.followText "set-order")) }
section
variable {P : Program} {w : World} {A : Around} {E : Value → Shared → Prop} {s : Shared}
set_option maxHeartbeats 3200000 in
/-- set(xs), xs a list of whole numbers: what is in it, and that its order may be walked -/
theorem my_set_list {l : Addr} {zs : Array Value} (ns : List Int) {Q : Value → Shared → Prop} (hA : A.handled = none) (hl : s.heap.IsList l zs) (hz : IntsAre zs.toList ns) (few : ns.length + 1 < scanBound)
    (fin : ∀ (g : Heap) (tk c : Nat), SetR w g s.heap.objs.size (fun j => decide (j ∈ ns)) c → c ≤ ns.length → (∀ b o, s.heap.get? b = some o → g.get? b = some o) → Q (.ref s.heap.objs.size) { s with heap := g, toks := tk }) :
    wpAny (model P w) A (call (.type "set") [.ref l]) Q E s := by
  have nz : zs.size = ns.length := by have e := IntsAre.length hz; rw [Array.length_toList] at e; exact e
  obtain ⟨cm, tm, em⟩ := F.called_set.mro
  have f1 := F.called_set.made; have f2 := F.called_set.sub
  refine wpAny_call (codeAny_of_tree (show wpAny _ _ (callAny (.type "set") _) _ _ _ from wpAny_pure ⟨Code.quiet_builtin _ (by decide +kernel), codeAny_builtin F.entry_type_call ?_⟩))
  rw [show _ = _ from Around.under_plain (weight_type_call_type "set" [.ref l] []) rfl]
  have f3 := F.called_set.notType; have f4 := F.called_set.canCreate; have f5 := F.typeCall_set_1 (.ref l)
  repeat any_goals first | assumption | wp_step
  refine codeAny_mono (code_set_led1 (.ref l) (E := E) (Q₁ := fun v s1 => v = .ref s.heap.objs.size ∧ s1 = { s with heap := s.heap.push (eset w) }) ⟨rfl, rfl⟩) fun r s1 got => ?_
  cases r with
  | error e => exact got
  | ok fl => cases fl with
    | next => exact got.elim
    | brk => exact got.elim
    | cont => exact got.elim
    | ret v =>
      obtain ⟨rfl, rfl⟩ := got
      have at0 : (s.heap.push (eset w)).get? s.heap.objs.size = some (eset w) := Heap.get?_push_size _ rfl
      have ty0 : Shared.TypeIs { s with heap := s.heap.push (eset w) } (.ref s.heap.objs.size) "set" := ⟨_, at0, rfl⟩
      have f6 := F.called_set.init.lookup; have f7 := F.called_set.init.bind (.ref s.heap.objs.size)
      repeat any_goals first | assumption | wp_step
      refine codeAny_mono (codeAny_call_builtin (R := wants (fun r s2 => r = .none ∧ ∃ g tk c, s2 = { s with heap := g, toks := tk } ∧ SetR w g s.heap.objs.size (fun j => decide (j ∈ ns)) c ∧ c ≤ ns.length ∧ (∀ b o, s.heap.get? b = some o → g.get? b = some o)) E) F.called_set.init.plain F.entry_set_init (check_set_init_1 ty0 ?_)) fun r2 s2 got2 => ?_
      · obtain ⟨⟨oc, od, odt, osl⟩, ho, ec, n0, ed⟩ := hl
        dsimp only at ec ed; subst ec ed
        have ho1 := Heap.get?_push_of_some (eset w) ho
        have f8 := F.sub_list_set; have f9 := F.sub_list_frozenset
        have f10 : (Value.type "list" == Value.type "dict") = false := by decide
        have il : (s.heap.push (eset w)).IsList l zs := ⟨_, ho1, rfl, n0, rfl⟩
        unfold Builtin.«set.__init__» noKeywords Builtin.Frozenset.updateFrom
        generalize eP : pyIter = PI; wp_walk; subst eP
        refine wpAny_pyIter_list il (wpAny_bind (wpAny_runValue ?_))
        have lt0 := Heap.lt_size ho
        have sz1 : (s.heap.push (eset w)).objs.size = s.heap.objs.size + 1 := Heap.size_push ..
        have ne1 : l ≠ (s.heap.push (eset w)).objs.size := fun e => Nat.lt_irrefl _ (Nat.lt_of_lt_of_le lt0 (by rw [e, sz1]; exact Nat.le_succ _))
        have out1 : s.heap.objs.size ∉ [(s.heap.push (eset w)).objs.size, l] := fun e => by
          rw [sz1] at e
          rcases List.mem_cons.mp e with e | e
          · exact Nat.succ_ne_self _ e.symm
          · exact Nat.ne_of_gt lt0 (List.mem_singleton.mp e)
        refine set_update_ints ((Walks.list (A := A.in1.in1.in1) (by simp [hA]) _ l ne1 zs).toS) s.heap.objs.size out1 ns nz few (fun i v hv => ?_) (zs.size - 0) 0 _ (by omega) (Nat.zero_le _) ⟨⟨_, Heap.get?_push_size _ rfl, rfl, rfl⟩, il.push _⟩ ⟨0, Nat.le_refl 0, setR_new_at (Heap.get?_push_of_some _ at0)⟩ (fun s' c' mv lc R => ?_)
        · have hi : i < ns.length := by rw [← nz]; exact (Array.getElem?_eq_some_iff.mp hv).1
          obtain ⟨t, e⟩ := IntsAre.int_at hz i v (by rw [Array.getElem?_toList]; exact hv)
          exact ⟨ns[i], t, List.getElem?_eq_getElem hi, by rw [e, List.getD_eq_getElem?_getD, List.getElem?_eq_getElem hi]; rfl⟩
        · obtain ⟨g, gg, dd, tk, oo⟩ := s'
          have q1 : gg = s.gens := mv.gens; have q2 : dd = s.drawn := mv.drawn; have q3 : oo = s.os := mv.os
          subst q1 q2 q3
          refine wpAny_pure (show wpAny _ _ (ret Value.none) _ _ _ from wpAny_pure ⟨rfl, g, tk, c', rfl, R, nz ▸ lc, fun b o e => ?_⟩)
          have lb := Heap.lt_size e
          refine mv.heap b o (fun e2 => ?_) (Heap.get?_push_of_some _ (Heap.get?_push_of_some _ e))
          rw [sz1] at e2
          rcases List.mem_cons.mp e2 with e2 | e2
          · exact Nat.ne_of_lt lb e2
          · exact Nat.ne_of_lt (Nat.lt_succ_of_lt lb) (List.mem_singleton.mp e2)
      · cases r2 with
        | error e => exact got2
        | ok fl2 => cases fl2 with
          | next => exact got2.elim
          | brk => exact got2.elim
          | cont => exact got2.elim
          | ret v2 =>
            obtain ⟨rfl, g, tk, c', rfl, R, lc, kp⟩ := got2
            repeat any_goals first | assumption | wp_step
            exact fin g tk c' R lc kp
set_option maxHeartbeats 1600000 in
/-- sorted(a set that may be walked), of any size -/
theorem my_sorted_set {a : Addr} {S : Int → Bool} {n : Nat} {Q : Value → Shared → Prop} (R : SetR w s.heap a S n) (hA : A.handled = none)
    (fin : ∀ s' p (out : Array Value) (c : Nat) (ms : List Int), (∀ b o, s.heap.get? b = some o → s'.heap.get? b = some o) → s'.gens = s.gens → s'.os = s.os → s.heap.objs.size ≤ p → s'.heap.get? p = some (seqObj "list" out c) →
      IntsAre out.toList ms → ms.Pairwise (· < ·) → (∀ k, k ∈ ms ↔ S k = true) → ms.length = n → Q (.ref p) s') : wpAny (model P w) A (call (.builtin "sorted") [.ref a]) Q E s := by
  obtain ⟨o, es, ep, t, ho, ex, ed, good, nod, mem, few, fits, en, ris, led⟩ := R
  refine Calls.call_function_entry kind_sorted plain_sorted entry_sorted (args_sorted1 _) ?first
  unfold Builtin.«sorted»
  refine wpAny_bind (m := checkCount "sorted" 1 1 _) (wpAny_pure ?second)
  refine wpAny_bind (collect_set (A := A.in1) hA ⟨o, ho, ex.1, ed⟩ fits few ris led fun s1 us k1 le1 g1 o1 pm => ?third)
  have iu : IntsAre us (us.map Builtin.Re.reRawOf) := ints_of us fun u hu => by
    obtain ⟨e, he, rfl⟩ := List.mem_map.mp (pm.mem_iff.mp hu)
    obtain ⟨k, tk, q, _⟩ := good e he
    exact ⟨k, tk, q⟩
  have pk : (us.map Builtin.Re.reRawOf).Perm (es.toList.map keyOf) := by have q := pm.map Builtin.Re.reRawOf; rw [List.map_map] at q; exact q
  have lu : us.length ≤ sizeLine := by rw [pm.length_eq, List.length_map, Array.length_toList]; exact fits_of_scanBound few
  refine wpAny_bind (wpAny_newList ?fourth lu)
  have hl0 : (s1.heap.push (seqObj "list" us.toArray 0)).get? s1.heap.objs.size = some (seqObj "list" us.toArray 0) := Heap.get?_push_size _ rfl
  refine wpAny_bind (wpAny_holding (wpAny_call_entry slot_list_sort ⟨_, hl0, rfl⟩ entry_list_sort (SrtO.list_sort_ord SrtO.swo_int hl0 lu (fun h2 => SrtO.ints_sortable iu h2) fun out so st => ⟨_, rfl, ?fifth⟩) (args_list_sort _)))
  obtain ⟨w1, w2, w3⟩ := SrtO.ints_out iu so st
  obtain ⟨c, hc⟩ := sortedHeap_at (vs := us) (out := out.toArray) hl0
  have pn := w2.trans pk
  refine wpAny_pure ⟨_, rfl, fin _ s1.heap.objs.size out.toArray c (out.map SrtO.iv) (fun b u e => ?_) g1 o1 le1 hc w1 (lt_of_le_nodup _ w3 (pn.nodup_iff.mpr nod)) (fun k => by rw [pn.mem_iff, ← mem k]) (by rw [pn.length_eq, List.length_map, Array.length_toList]; exact en)⟩
  have q := k1 b u e
  have lt1 := Heap.lt_size q
  exact (sortedHeap_old (Nat.ne_of_lt lt1) (by rw [size_push']; exact Nat.lt_succ_of_lt lt1)).trans (Heap.get?_push_of_some _ q)
end
def tSS (K : PySem.W.Frag) (ta : TE) : TE := fun σ H Q => ta σ H fun x H1 => ∃ (l : Addr) (ns : List Int), x = .ref l ∧ (SqL K H1 l (ns.map V.int) ∨ SqT K H1 l (ns.map V.int)) ∧ ns.length ≤ 1000 ∧
  ∀ (ms : List Int) (p : Addr), ms.Pairwise (· < ·) → (∀ k, k ∈ ms ↔ k ∈ ns) → H1 p = none → Q (.ref p) (upd H1 p (.lst (ms.map V.int)))
/-- sorted(set(a)), a list or a tuple of whole numbers -/
theorem pe_sortedset {X : Cx} {a : Expr} {ta : TE} {p p2 q pos : Pos} (hc : X.calm = true) (hg : Gl X "sorted") (hm : X.mg "sorted" = none) (hg2 : Gl X "set") (hm2 : X.mg "set" = none) (ha : PE X a ta)
    (na : starEach [a] X.env = (false, eval a X.env) :: starEach [] X.env := by rfl) : PE X (.Call (.Name "sorted" p) [.Call (.Name "set" p2) [a] [] q] [] pos) (tSS X.K ta) := by
  refine ⟨fun pins s σ H Q I h => Call_ (ld_blt I hg hm (u := .builtin "sorted") (by decide +kernel) (callWith_builtin1 (args_cons (Call_ (ld_blt I hg2 hm2 PyProof.Rows.boot_set (callWith_type1 (args_cons (thn (ha.run pins s σ H _ I h) fun v s1 ⟨x, H1, I1, r1, q1⟩ => args_nil ?_) na) na rfl))) rfl) rfl rfl))⟩
  obtain ⟨l, ns, rfl, hq, few, q1⟩ := q1
  cases r1
  have hd := I1.ok.hd hc
  have go : ∀ (g : Heap) (tk c : Nat), SetR X.w g s1.heap.objs.size (fun j => decide (j ∈ ns)) c → c ≤ ns.length → (∀ b o, s1.heap.get? b = some o → g.get? b = some o) →
      wpAny (model X.prog X.w) X.A (call (.builtin "sorted") [.ref s1.heap.objs.size]) (EP X pins σ Q) X.xe { s1 with heap := g, toks := tk } := fun g tk c R lc kp => by
    have I2 : Inv X pins σ H1 { s1 with heap := g, toks := tk } := I1.kept kp
    refine my_sorted_set R hd fun s' p out c2 ms k gn os hp hg' hi hs hmm ln => ?_
    have mm : ∀ j, j ∈ ms ↔ j ∈ ns := fun j => (hmm j).trans decide_eq_true_iff
    have len : (ms.map V.int).length ≤ sizeLine := by rw [List.length_map]; exact Nat.le_of_lt (small1000 (by omega))
    have hn : H1 p = none := I2.hok.fresh hp
    have J : Inv X pins σ (upd H1 p (.lst (ms.map V.int))) { ({ s1 with heap := g, toks := tk } : Shared) with heap := s'.heap, gens := s'.gens, drawn := s'.drawn, toks := s'.toks } :=
      I2.call (ch := []) (Un.laid k hp hn) (I2.hok.laid k hp ⟨len, out.toList, c2, vals_of_ints hi, hg'⟩) (by rw [gn]; exact I2.bare) (fun _ z => nomatch z)
    have es : s' = { s1 with heap := s'.heap, gens := s'.gens, drawn := s'.drawn, toks := s'.toks } := by cases s'; cases s1; cases os; rfl
    rw [es]
    exact ⟨.ref p, _, J, rfl, q1 ms p hs mm hn⟩
  rcases hq with hq | hq
  · obtain ⟨its, r, pl, hz⟩ := I1.list hq
    exact my_set_list ns hd pl.isList (by simpa using r.ints) (by unfold scanBound; omega) fun g tk c R lc kp => args_nil (go g tk c R lc kp)
  · obtain ⟨its, r, pt, hz⟩ := I1.tuple hq
    exact call_set_tupI ns hd (show s1.heap.IsTuple l its.toArray from pt) (by simpa using ints_of_vals r) (by unfold scanBound; omega) fun g tk c R lc kp => args_nil (go g tk c R lc kp)
end L2

set_option Elab.async false
set_option linter.all false
set_option maxRecDepth 100000
namespace L2
open PySem PySem.Spec PyProof.Rows
/-- the tuple at a and the list at b, item by item in new pairs -/
def ItzM (K : PySem.W.Frag) (a b : Addr) : It :=
  ⟨fun i H => ∃ (xs ys : List V) (x y : V), SqT K H a xs ∧ SqL K H b ys ∧ xs[i]? = some x ∧ ys[i]? = some y,
    fun i H v H' => ∃ T x y, v = .ref T ∧ H T = none ∧ H' = upd H T (.tup [x, y]) ∧ (∀ xs, SqT K H a xs → xs[i]? = some x) ∧ ∀ ys, SqL K H b ys → ys[i]? = some y,
    fun i H => ∃ xs ys : List V, SqT K H a xs ∧ SqL K H b ys ∧ xs.length = i ∧ ys.length = i⟩
def tnM (z TI TO i1 i2 a b : Addr) (i : Nat) (h : Heap) : Prop := IsZip h z TI TO .none ∧ IsTupOf2 h TI (.ref i1) (.ref i2) ∧ (∃ u v, IsTupOf2 h TO u v) ∧ h.IsTupleIter i1 a i ∧ h.IsListIter i2 b i
theorem turn_zipM {P : Program} {w : World} {K : PySem.W.Frag} {elts : List Expr} {kk : Nat} {tpos : Pos} {z TI TO i1 i2 a b : Addr} (S : ZipSep2 z TI TO i1 i2 [i1, a] [i2, b]) (na : a ≠ i1) (nb : b ≠ i2) :
    Turn P w K (.Tuple elts kk tpos) (ItzM K a b) [z, TI, TO, i1, i2] z (tnM z TI TO i1 i2 a b) where
  mem := by simp
  obj := fun i h st c hc => by
    obtain ⟨hz, ht, ⟨u, v, ho⟩, h1, h2⟩ := st
    have e' : c = z ∨ c = TI ∨ c = TO ∨ c = i1 ∨ c = i2 := by simpa using hc
    rcases e' with rfl | rfl | rfl | rfl | rfl
    · exact ⟨_, hz, fun v q => nomatch q⟩
    · exact ⟨_, ht, fun v q => nomatch q⟩
    · exact ⟨_, ho, fun v q => nomatch q⟩
    · obtain ⟨o1, e1, _, d1⟩ := h1
      exact ⟨o1, e1, fun v q => by rw [d1] at q; cases q⟩
    · obtain ⟨o2, e2, _, d2⟩ := h2
      exact ⟨o2, e2, fun v q => by rw [d2] at q; cases q⟩
  keep := fun i h h' st k => by
    obtain ⟨hz, ht, ⟨u, v, ho⟩, h1, h2⟩ := st
    exact ⟨k z (by simp) _ hz, k TI (by simp) _ ht, ⟨u, v, k TO (by simp) _ ho⟩, h1.at fun o q => k i1 (by simp) o q, h2.at fun o q => k i2 (by simp) o q⟩
  item := by
    intro X hP hw hK hc i pins s σ H E I hf st hg
    subst hP hw hK
    obtain ⟨hz, ht, ho, h1, h2⟩ := st
    obtain ⟨xs, ys, x, y, qx, qy, ex, ey⟩ := hg
    obtain ⟨us, rx, px, _⟩ := I.tuple qx
    obtain ⟨vs, ry, py, _⟩ := I.list qy
    obtain ⟨u, eu, ru⟩ := rx.get ex
    obtain ⟨v, ev, rv⟩ := ry.get ey
    have hd : X.A.in1.handled = none := by simp [I.ok.hd hc]
    have lx : i < us.toArray.size := by rw [List.size_toArray]; exact (List.getElem?_eq_some_iff.mp eu).1
    have ly : i < vs.toArray.size := by rw [List.size_toArray]; exact (List.getElem?_eq_some_iff.mp ev).1
    have W := GoesN.zip2 (prog := X.prog) (w := X.w) (A := X.A) (elts := elts) (x1 := kk) (pos := tpos) S (Draws.tuple hd i1 a na us.toArray) (Draws.list hd i2 b nb vs.toArray)
    refine W.goes i s _ E (by omega) ⟨hz, ht, ho, ⟨h1, px⟩, ⟨h2, py.isList⟩⟩ fun v' h' tk hy st' kp tkl => ?_
    obtain ⟨T, u', w', rfl, hT, p1, p2, it⟩ := hy
    have eu' : u' = u := by
      have p1' : us[i]? = some u' := by simpa using p1
      exact Option.some.inj (p1'.symm.trans eu)
    have ev' : w' = v := by
      have p2' : vs[i]? = some w' := by simpa using p2
      exact Option.some.inj (p2'.symm.trans ev)
    subst eu' ev'
    obtain ⟨gz, gt, go, ⟨g1, _⟩, ⟨g2, _⟩⟩ := st'
    have new : ObjOk X.prog X.w (upd H T (.tup [x, y])) h' T (.tup [x, y]) := ⟨by show 2 ≤ sizeLine; decide, [u', w'], .cons ru (.cons rv .nil), it⟩
    have hn : H T = none := I.hok.fresh hT
    have I1 : Inv X pins σ (upd H T (.tup [x, y])) { s with heap := h', toks := tk } :=
      I.turnedNew (t' := tk) (ch := [z, TO, i1, i2]) (fun c o hb q => kp c o hb q) (fun c hc' => hf c (by
        have e' : c = z ∨ c = TO ∨ c = i1 ∨ c = i2 := by simpa using hc'
        rcases e' with rfl | rfl | rfl | rfl <;> simp)) hT new
    refine ⟨.ref T, _, I1, rfl, ⟨T, x, y, rfl, hn, rfl, fun l hl => by rw [I.tuple_inj hl qx]; exact ex, fun l hl => by rw [I.list_inj hl qy]; exact ey⟩, ⟨gz, gt, go, g1, g2⟩, fun c hcm => ?_⟩
    obtain ⟨oc, eo, _⟩ : ∃ o, s.heap.get? c = some o ∧ ∀ v, o.data ≠ .cell v := by
      obtain ⟨u0, v0, ho⟩ := ho
      have e' : c = z ∨ c = TI ∨ c = TO ∨ c = i1 ∨ c = i2 := by simpa using hcm
      rcases e' with rfl | rfl | rfl | rfl | rfl
      · exact ⟨_, hz, fun v q => nomatch q⟩
      · exact ⟨_, ht, fun v q => nomatch q⟩
      · exact ⟨_, ho, fun v q => nomatch q⟩
      · obtain ⟨o1, e1, _, d1⟩ := h1
        exact ⟨o1, e1, fun v q => by rw [d1] at q; cases q⟩
      · obtain ⟨o2, e2, _, d2⟩ := h2
        exact ⟨o2, e2, fun v q => by rw [d2] at q; cases q⟩
    have lt1 := Heap.lt_size eo
    rw [upd_ne (Nat.ne_of_lt (Nat.lt_of_lt_of_le lt1 hT))]
    exact (hf c hcm).1
  done := by
    intro X hP hw hK hc i pins s σ H E I hf st hg
    subst hP hw hK
    obtain ⟨hz, ht, ho, h1, h2⟩ := st
    obtain ⟨xs, ys, qx, qy, ex, ey⟩ := hg
    obtain ⟨us, rx, px, _⟩ := I.tuple qx
    obtain ⟨vs, ry, py, _⟩ := I.list qy
    have hd : X.A.in1.handled = none := by simp [I.ok.hd hc]
    have lx : us.toArray.size = i := by rw [List.size_toArray, ← rx.length]; exact ex
    have ly : vs.toArray.size = i := by rw [List.size_toArray, ← ry.length]; exact ey
    have W := GoesN.zip2 (prog := X.prog) (w := X.w) (A := X.A) (elts := elts) (x1 := kk) (pos := tpos) S (Draws.tuple hd i1 a na us.toArray) (Draws.list hd i2 b nb vs.toArray)
    have em : min us.toArray.size vs.toArray.size = i := by omega
    rw [em] at W
    refine W.stops s _ E ⟨hz, ht, ho, ⟨h1, px⟩, ⟨h2, py.isList⟩⟩ fun h' tk kp tkl => ?_
    exact I.turnedL (t' := tk) (ch := [z, TO, i1, i2]) (fun c o hb q => kp c o hb q) (fun c hc' => hf c (by
        have e' : c = z ∨ c = TO ∨ c = i1 ∨ c = i2 := by simpa using hc'
        rcases e' with rfl | rfl | rfl | rfl <;> simp))
  self := fun A i s Q E st h => wpAny_pyIter_zip st.1 h
def iZipM (K : PySem.W.Frag) (ta : TA) : L2.TI := fun σ H R => ta σ H fun vs H1 => ∃ a b xs ys, vs = [.ref a, .ref b] ∧ SqT K H1 a xs ∧ SqL K H1 b ys ∧ R (ItzM K a b) H1
/-- zip of a tuple and a list -/
theorem pi_zipM {X : Cx} {e e2 : Expr} {ta : TA} {p pos tpos : Pos} {elts : List Expr} {kk : Nat} (hg : Gl X "zip") (hm : X.mg "zip" = none) (ha : PA X [e, e2] ta)
    (hs : starEach [e, e2] X.env = (false, eval e X.env) :: starEach [e2] X.env := by rfl) (hpl : (backTo pos (starEach [e2] X.env)).any (·.1) = false := by rfl) :
    PI X (.Tuple elts kk tpos) (.Call (.Name "zip" p) [e, e2] [] pos) (iZipM X.K ta) := by
  refine ⟨fun pins s σ H R I h => Call_ (ld_blt I hg hm PyProof.Rows.boot_zip (callWith_type1 (thn (ha.run pos pins s σ H _ I h) fun us s1 ⟨vs, H1, I1, r1, q1⟩ => ?_) hs hpl))⟩
  obtain ⟨a, b, xs, ys, ex, qx, qy, q⟩ := q1
  subst ex
  cases r1 with
  | cons r rr => cases rr with
    | cons r' rr =>
      cases rr; cases r; cases r'
      obtain ⟨us, rx, px, _⟩ := I1.tuple qx
      obtain ⟨ws, ry, py, _⟩ := I1.list qy
      have la : a < s1.heap.objs.size := by obtain ⟨o, e, _⟩ := px; exact Heap.lt_size e
      have lb : b < s1.heap.objs.size := by obtain ⟨o, e, _⟩ := py.isList; exact Heap.lt_size e
      refine zip_begins2 (begins_tuple a us.toArray) (begins_list b ws.toArray) px py.isList fun g hz ht ho g1 g2 sz kp => wpAny_pyIter_zip hz ?_
      have I2 : Inv X pins σ H1 { s1 with heap := g } := I1.kept (t' := s1.toks) kp
      refine ⟨_, [s1.heap.objs.size + 4, s1.heap.objs.size + 2, s1.heap.objs.size + 3, s1.heap.objs.size, s1.heap.objs.size + 1], _, _, H1, rfl, I2, turn_zipM (a := a) (b := b) (zip_sep2 (N := s1.heap.objs.size) (fp1 := [a]) (fp2 := [b]) (fun c hc => by rw [List.mem_singleton.mp hc]; exact la) (fun c hc => by rw [List.mem_singleton.mp hc]; exact lb)) (Nat.ne_of_lt la) (Nat.ne_of_lt (Nat.lt_succ_of_lt lb)), ⟨hz, ht, ⟨_, _, ho⟩, ⟨_, g1, rfl, rfl⟩, ⟨_, g2, rfl, rfl⟩⟩, fun c hc => ?_, q⟩
      have le : s1.heap.objs.size ≤ c := by
        have e' : c = s1.heap.objs.size + 4 ∨ c = s1.heap.objs.size + 2 ∨ c = s1.heap.objs.size + 3 ∨ c = s1.heap.objs.size ∨ c = s1.heap.objs.size + 1 := by simpa using hc
        rcases e' with z | z | z | z | z
        · rw [z]; exact Nat.le_add_right _ _
        · rw [z]; exact Nat.le_add_right _ _
        · rw [z]; exact Nat.le_add_right _ _
        · rw [z]; exact Nat.le_refl _
        · rw [z]; exact Nat.le_add_right _ _
      exact I1.fpOk le (I1.hok.fresh le)
theorem walk_zipM {K : PySem.W.Frag} {a b : Addr} {xs ys : List V} {n : Nat} (hx : xs.length = n) (hy : ys.length = n) : Walk (ItzM K a b) n (fun H => SqT K H a xs ∧ SqL K H b ys) (YPair (fun i => xs[i]?) (fun i => ys[i]?)) := by
  subst hx
  refine ⟨fun i _ hi q => ?_, fun _ q => ⟨xs, ys, q.1, q.2, rfl, hy⟩, fun i H v H' _ q y => ?_⟩
  · have h2 : i < ys.length := by omega
    exact ⟨xs, ys, xs[i], ys[i], q.1, q.2, by simp [hi], by simp [h2]⟩
  · obtain ⟨T, x, z, h1, h2, h3, h4, h5⟩ := y
    exact ⟨T, x, z, h1, h2, h3, h4 xs q.1, h5 ys q.2⟩
end L2

set_option Elab.async false
set_option linter.all false
set_option maxRecDepth 100000
namespace My
open PySem PySem.Spec PyProof.Rows L2
abbrev sSplitBlock : Stmt := topS 1
theorem scSplitBlock : FnScope ["markings", "labels", "found", "label", "number", "given"] ["markings", "labels"] (defScope sSplitBlock) := ⟨rfl, rfl, rfl, by decide +kernel, rfl, by decide +kernel, by decide +kernel⟩
/-! ### the mathematics of splitting -/
def sel (L : Int) (zs : List (Int × Int)) : List Int := (zs.filter fun p => decide (p.2 = L)).map (·.1)
def parts (ms : List Int) (zs : List (Int × Int)) : List (Int × List Int) := ms.map fun L => (L, sel L zs)
def Asc (ms ls : List Int) : Prop := ms.Pairwise (· < ·) ∧ ∀ k, k ∈ ms ↔ k ∈ ls
def PairV (K : PySem.W.Frag) (H : Hp) (v : V) (r : Int × List Int) : Prop := ∃ u t, v = .ref u ∧ SqT K H u [.int r.1, .ref t] ∧ SqT K H t (r.2.map V.int)
theorem PairV.same {K : PySem.W.Frag} {H H' : Hp} {v : V} {r : Int × List Int} (s : Same H H') (h : PairV K H v r) : PairV K H' v r := let ⟨u, t, e, h1, h2⟩ := h; ⟨u, t, e, seqT_same s h1, seqT_same s h2⟩
theorem sqT_upd {K : PySem.W.Frag} {H : Hp} {f p : Addr} {xs ys : List V} {o : HO} (hf : H f = some (.lst ys)) (h : SqT K H p xs) : SqT K (upd H f o) p xs := by
  rcases h with (h | ⟨q, h⟩) | h
  · exact .inl (.inl (by rw [upd_ne (ne_of h hf (by intro z; cases z))]; exact h))
  · exact .inl (.inr ⟨q, by rw [upd_ne (ne_of h hf (by intro z; cases z))]; exact h⟩)
  · exact .inr h
theorem PairV.upd {K : PySem.W.Frag} {H : Hp} {f : Addr} {ys : List V} {o : HO} {v : V} {r : Int × List Int} (hf : H f = some (.lst ys)) (h : PairV K H v r) : PairV K (upd H f o) v r := let ⟨u, t, e, h1, h2⟩ := h; ⟨u, t, e, sqT_upd hf h1, sqT_upd hf h2⟩
theorem paired_mono {α β : Type} {F G : α → β → Prop} (m : ∀ a b, F a b → G a b) {xs : List α} {ys : List β} (h : Paired F xs ys) : Paired G xs ys := L2.Paired.mapP h m
theorem paired_snoc {α β : Type} {F : α → β → Prop} {a : α} {b : β} {xs : List α} {ys : List β} (h : Paired F xs ys) (r : F a b) : Paired F (xs ++ [a]) (ys ++ [b]) := h.snoc r
theorem sel_take {L : Int} {zs : List (Int × Int)} {i : Nat} {p : Int × Int} (h : zs[i]? = some p) : sel L (zs.take (i + 1)) = sel L (zs.take i) ++ (if p.2 = L then [p.1] else []) := by
  unfold sel
  rw [List.take_add_one, h, List.filter_append, List.map_append]
  show _ ++ ((([p] : List (Int × Int)).filter fun p => decide (p.2 = L)).map (·.1)) = _
  by_cases e : p.2 = L
  · rw [if_pos e, List.filter_cons_of_pos (by simpa using e)]
    rfl
  · rw [if_neg e, List.filter_cons_of_neg (by simpa using e)]
    rfl
theorem sel_len (L : Int) (zs : List (Int × Int)) : (sel L zs).length ≤ zs.length := by
  unfold sel
  rw [List.length_map]
  exact List.length_filter_le _ _
theorem zip_at {ns ls : List Int} {i : Nat} {x y : V} (hx : (ns.map V.int)[i]? = some x) (hy : (ls.map V.int)[i]? = some y) : ∃ n l, x = .int n ∧ y = .int l ∧ (ns.zip ls)[i]? = some (n, l) := by
  rw [List.getElem?_map] at hx hy
  cases e1 : ns[i]? with
  | none => rw [e1] at hx; cases hx
  | some n =>
    cases e2 : ls[i]? with
    | none => rw [e2] at hy; cases hy
    | some l =>
      rw [e1] at hx
      rw [e2] at hy
      refine ⟨n, l, (Option.some.inj hx).symm, (Option.some.inj hy).symm, ?_⟩
      rw [List.getElem?_zip_eq_some]
      exact ⟨e1, e2⟩
def spSb (K : PySem.W.Frag) (W : Hp → Addr → List V → Prop) : Sp := fun vs H Q _ => ∃ (a b : Addr) (ns ls : List Int), vs = [.ref a, .ref b] ∧ SqT K H a (ns.map V.int) ∧ W H b (ls.map V.int) ∧ ns.length = ls.length ∧ ls.length ≤ 500 ∧
  ∀ (ms : List Int) (xs : List V) (p : Addr) (H' : Hp), Same H H' → Asc ms ls → H p = none → H' p = some (.lst xs) → Paired (PairV K H') xs (parts ms (ns.zip ls)) → Q (.ref p) H'
section
variable {P : Program} {w : World} {K : PySem.W.Frag} {mg : Str → Option Value} {base : Heap}
theorem asc_len {ms ls : List Int} (h : Asc ms ls) : ms.length ≤ ls.length := by
  obtain ⟨h1, h2⟩ := h
  have nd : ms.Nodup := h1.imp fun {x y} q => Int.ne_of_lt q
  induction ms generalizing ls with
  | nil => exact Nat.zero_le _
  | cons x ms ih =>
    obtain ⟨p1, p2⟩ := List.pairwise_cons.mp h1
    obtain ⟨n1, n2⟩ := List.nodup_cons.mp nd
    have hx : x ∈ ls := (h2 x).mp (by simp)
    have hlen : (ls.filter fun k => decide (k ≠ x)).length < ls.length := by
      have e : (ls.filter fun k => decide (k ≠ x)).length + (ls.filter fun k => !decide (k ≠ x)).length = ls.length := by
        rw [← List.countP_eq_length_filter, ← List.countP_eq_length_filter]
        have := List.length_eq_countP_add_countP (fun k => decide (k ≠ x)) (l := ls)
        simpa using this.symm
      have p : 0 < (ls.filter fun k => !decide (k ≠ x)).length := List.length_pos_of_mem (a := x) (List.mem_filter.mpr ⟨hx, by simp⟩)
      omega
    have := ih (ls := ls.filter fun k => decide (k ≠ x)) p2 (fun k => by
      rw [List.mem_filter, ← h2 k]
      constructor
      · intro hk
        exact ⟨List.mem_cons_of_mem _ hk, by simpa using (fun (e : k = x) => n1 (e ▸ hk))⟩
      · rintro ⟨hk, hn⟩
        rcases List.mem_cons.mp hk with e | hk
        · exact absurd e (by simpa using hn)
        · exact hk) n2
    rw [List.length_cons]
    omega
theorem ok_sbM {f : Addr} {fd : FuncData} {k : Nat} (F : Fun K "split_block" "split_block" sSplitBlock f fd) (b_sorted : mg "sorted" = none) (b_set : mg "set" = none) (b_tuple : mg "tuple" = none) (b_zip : mg "zip" = none) : FnOk P w K mg base CX0 (k + 1) f fd ["markings", "labels"] (spSb K (SqL K)) := by
  refine F.ok scSplitBlock (fun vs H Q E h => ?_) (fun cdv A outer s H vs Q E hr h => ?_)
  · obtain ⟨a, b, ns, ls, rfl, _⟩ := h
    rfl
  · obtain ⟨a, b, ns, ls, rfl, hA, hB, hl, few, q⟩ := h
    refine ⟨_, (pss_cons (ps_set (i := 2) scSplitBlock.nd rfl (.inl rfl) (pe_lst pa_nil))
      (pss_cons (ps_for PassesOwn.never rfl (pi_list (pe_sortedset rfl rfl b_sorted rfl b_set (pv 1))) (pg_name (i := 3) scSplitBlock.nd rfl (.inr rfl))
        (pss_one (ps_expr (pe_bm PySem.F.plainAttrs_list PySem.F.slot_list_append PySem.F.type_list_append mt_append (pv 2) (pa_cons (pe_tup (pa_cons (pv 3) (pa_cons (pe_callTy call_tuple_of rfl b_tuple (by decide +kernel) (pa_cons (pe_lc (own := [("number", 4), ("given", 5)]) (g := gTup K 2 (gCons (gName 4) (gCons (gName 5) gNil))) rfl scSplitBlock.nd (pi_zipM rfl b_zip (pa_cons (pv 0) (pa_cons (pv 1) pa_nil))) (blkOk_by (own := [("number", 4), ("given", 5)]) (N := ["markings", "labels", "found", "label", "number", "given"]) (sc := defScope sSplitBlock) (by decide +kernel)) (fun _ _ _ _ _ => (pg_tup rfl (pgs_cons (pg_name (i := 4) scSplitBlock.nd rfl (.inl rfl) (.inr rfl)) (pgs_cons (pg_name (i := 5) scSplitBlock.nd rfl (.inl rfl) (.inr rfl)) pgs_nil)))) (fun _ _ _ _ _ => (pts_one (pt_cmpR op_eq (pv 5) (pv 3) (nomark _)))) (fun _ _ _ _ _ => (pv 4))) pa_nil)) pa_nil))) pa_nil)))))
      (pss_one (ps_ret (pv 2))))), ?_⟩
    refine ⟨Nat.zero_le _, fun f nf => ?_⟩
    have sf := same_upd (o := .lst []) nf
    refine ⟨_, rfl, b, ls, rfl, .inl (Same.seq sf hB), by omega, fun ms p hasc hmem np => ?_⟩
    have asc : Asc ms ls := ⟨hasc, hmem⟩
    have sp := same_upd (o := .lst (ms.map V.int)) np
    have pf : p ≠ f := (ne_of_none (H := upd H f (.lst [])) upd_same np).symm
    have ml := asc_len asc
    refine ⟨p, rfl, ⟨_, SqL.of upd_same⟩, for_list (K := K) (a := p) (xs := ms.map V.int) (fun i σ G => ∃ (xs : List V) (v3 v4 v5 : Option V), σ = [some (.ref a), some (.ref b), some (.ref f), v3, v4, v5] ∧ Same H G ∧ G p = some (.lst (ms.map V.int)) ∧ G f = some (.lst xs) ∧ xs.length = i ∧ Paired (PairV K G) xs (parts (ms.take i) (ns.zip ls)))
      ⟨[], none, none, none, rfl, sf.trans sp, upd_same, sp _ _ upd_same, rfl, .nil⟩ (fun i σ G _ ⟨_, _, _, _, _, _, e, _⟩ => SqL.of e) ?_ ?_⟩
    · rintro i y σ G hi ⟨xs, v3, v4, v5, rfl, sG, eP, eF, hxl, hP⟩
      obtain ⟨L, eL, rfl⟩ : ∃ L, ms[i]? = some L ∧ y = .int L := by
        rw [List.getElem?_map] at hi
        cases e : ms[i]? with
        | none => rw [e] at hi; cases hi
        | some z => rw [e] at hi; exact ⟨z, rfl, (Option.some.inj hi).symm⟩
      have him : i < ms.length := (List.getElem?_eq_some_iff.mp eL).1
      refine ⟨_, rfl, .inl ⟨rfl, _, SqL.of eF⟩, _, rfl, _, rfl, _, rfl, a, b, _, _, rfl, seqT_same sG hA, Same.seq sG hB, fun D nD => lc_it (walk_zipM (K := K) (a := a) (b := b) (xs := ns.map V.int) (ys := ls.map V.int) (n := ns.length) (by rw [List.length_map]) (by rw [List.length_map]; omega)) (fun j G2 => Same G G2 ∧ G2 D = some (.lst ((sel L ((ns.zip ls).take j)).map V.int))) ⟨same_upd nD, upd_same⟩ (fun j G2 _ h => ⟨seqT_same (sG.trans h.1) hA, Same.seq (sG.trans h.1) hB⟩) ?_ ?_⟩
      · rintro j z G2 G3 hlt ⟨s2, hD⟩ ⟨T, x, y, rfl, nT, rfl, hx, hy⟩
        obtain ⟨n, l, rfl, rfl, hz⟩ := zip_at hx hy
        have nTD : D ≠ T := ne_of_none hD nT
        have hD3 : (upd G2 T (.tup [.int n, .int l])) D = some (.lst ((sel L ((ns.zip ls).take j)).map V.int)) := by rw [upd_ne nTD]; exact hD
        have s3 := s2.trans (same_upd (o := .tup [.int n, .int l]) nT)
        refine ⟨T, _, rfl, SqT.of upd_same, rfl, _, _, rfl, _, _, rfl, rfl, rfl, _, rfl, _, rfl, rfl, _, rfl, ite2 (fun c => ?_) (fun c => ?_)⟩
        · have e : l = L := V.int.inj (of_decide_eq_true c)
          refine ⟨_, rfl, _, hD3, ?_, ?_, ?_⟩
          · rw [List.length_map]
            have := sel_len L ((ns.zip ls).take j)
            rw [List.length_take, List.length_zip] at this
            exact small1000 (by omega)
          · intro p' o' h'
            rw [upd_ne (ne_of_none h' nD)]
            exact s3 _ _ h'
          · rw [upd_same, sel_take hz, if_pos e, List.map_append]
            rfl
        · have e : ¬ l = L := fun z => c (decide_eq_true (by rw [z]))
          refine ⟨s3, ?_⟩
          rw [hD3, sel_take hz, if_neg e, List.append_nil]
      · rintro G2 ⟨s2, hD⟩
        have et : (ns.zip ls).take ns.length = ns.zip ls := List.take_of_length_le (by rw [List.length_zip]; omega)
        rw [et] at hD
        refine ⟨D, _, rfl, .inl ⟨SqL.of hD, fun t nt => ⟨(by show 2 ≤ sizeLine; decide), fun u nu => ?_⟩⟩⟩
        have s4 := s2.trans (same_upd (o := .tup ((sel L (ns.zip ls)).map V.int)) nt)
        have s5 := s4.trans (same_upd (o := .tup [.int L, .ref t]) nu)
        have eF5 := s5 _ _ eF
        refine ⟨f, _, _, rfl, rfl, eF5, small1000 (by omega), ?_⟩
        refine ⟨_, _, _, _, rfl, ?_, ?_, upd_same, ?_, ?_⟩
        · intro p' o' h'
          rw [upd_ne (ne_of_none h' nf)]
          exact s5 _ _ (sG _ _ h')
        · rw [upd_ne pf]
          exact s5 _ _ eP
        · rw [List.length_append, hxl]
          rfl
        · have e1 : parts (ms.take (i + 1)) (ns.zip ls) = parts (ms.take i) (ns.zip ls) ++ [(L, sel L (ns.zip ls))] := by
            unfold parts
            rw [List.take_add_one, eL, List.map_append]
            rfl
          rw [e1]
          refine paired_snoc (paired_mono (fun v r h => (h.same s5).upd eF5) hP) ?_
          exact PairV.upd eF5 ⟨u, t, rfl, SqT.of upd_same, seqT_same (same_upd nu) (SqT.of upd_same)⟩
    · rintro σ G ⟨xs, v3, v4, v5, rfl, sG, eP, eF, hxl, hP⟩
      rw [List.length_map, List.take_length] at hP
      exact ⟨_, rfl, q ms xs f G sG asc nf eF hP⟩
theorem ok_sbT {f : Addr} {fd : FuncData} {k : Nat} (F : Fun K "split_block" "split_block" sSplitBlock f fd) (b_sorted : mg "sorted" = none) (b_set : mg "set" = none) (b_tuple : mg "tuple" = none) (b_zip : mg "zip" = none) : FnOk P w K mg base CX0 (k + 1) f fd ["markings", "labels"] (spSb K (SqT K)) := by
  refine F.ok scSplitBlock (fun vs H Q E h => ?_) (fun cdv A outer s H vs Q E hr h => ?_)
  · obtain ⟨a, b, ns, ls, rfl, _⟩ := h
    rfl
  · obtain ⟨a, b, ns, ls, rfl, hA, hB, hl, few, q⟩ := h
    refine ⟨_, (pss_cons (ps_set (i := 2) scSplitBlock.nd rfl (.inl rfl) (pe_lst pa_nil))
      (pss_cons (ps_for PassesOwn.never rfl (pi_list (pe_sortedset rfl rfl b_sorted rfl b_set (pv 1))) (pg_name (i := 3) scSplitBlock.nd rfl (.inr rfl))
        (pss_one (ps_expr (pe_bm PySem.F.plainAttrs_list PySem.F.slot_list_append PySem.F.type_list_append mt_append (pv 2) (pa_cons (pe_tup (pa_cons (pv 3) (pa_cons (pe_callTy call_tuple_of rfl b_tuple (by decide +kernel) (pa_cons (pe_lc (own := [("number", 4), ("given", 5)]) (g := gTup K 2 (gCons (gName 4) (gCons (gName 5) gNil))) rfl scSplitBlock.nd (RZ.pi_zipA rfl b_zip (pa_cons (pv 0) (pa_cons (pv 1) pa_nil))) (blkOk_by (own := [("number", 4), ("given", 5)]) (N := ["markings", "labels", "found", "label", "number", "given"]) (sc := defScope sSplitBlock) (by decide +kernel)) (fun _ _ _ _ _ => (pg_tup rfl (pgs_cons (pg_name (i := 4) scSplitBlock.nd rfl (.inl rfl) (.inr rfl)) (pgs_cons (pg_name (i := 5) scSplitBlock.nd rfl (.inl rfl) (.inr rfl)) pgs_nil)))) (fun _ _ _ _ _ => (pts_one (pt_cmpR op_eq (pv 5) (pv 3) (nomark _)))) (fun _ _ _ _ _ => (pv 4))) pa_nil)) pa_nil))) pa_nil)))))
      (pss_one (ps_ret (pv 2))))), ?_⟩
    refine ⟨Nat.zero_le _, fun f nf => ?_⟩
    have sf := same_upd (o := .lst []) nf
    refine ⟨_, rfl, b, ls, rfl, .inr (seqT_same sf hB), by omega, fun ms p hasc hmem np => ?_⟩
    have asc : Asc ms ls := ⟨hasc, hmem⟩
    have sp := same_upd (o := .lst (ms.map V.int)) np
    have pf : p ≠ f := (ne_of_none (H := upd H f (.lst [])) upd_same np).symm
    have ml := asc_len asc
    refine ⟨p, rfl, ⟨_, SqL.of upd_same⟩, for_list (K := K) (a := p) (xs := ms.map V.int) (fun i σ G => ∃ (xs : List V) (v3 v4 v5 : Option V), σ = [some (.ref a), some (.ref b), some (.ref f), v3, v4, v5] ∧ Same H G ∧ G p = some (.lst (ms.map V.int)) ∧ G f = some (.lst xs) ∧ xs.length = i ∧ Paired (PairV K G) xs (parts (ms.take i) (ns.zip ls)))
      ⟨[], none, none, none, rfl, sf.trans sp, upd_same, sp _ _ upd_same, rfl, .nil⟩ (fun i σ G _ ⟨_, _, _, _, _, _, e, _⟩ => SqL.of e) ?_ ?_⟩
    · rintro i y σ G hi ⟨xs, v3, v4, v5, rfl, sG, eP, eF, hxl, hP⟩
      obtain ⟨L, eL, rfl⟩ : ∃ L, ms[i]? = some L ∧ y = .int L := by
        rw [List.getElem?_map] at hi
        cases e : ms[i]? with
        | none => rw [e] at hi; cases hi
        | some z => rw [e] at hi; exact ⟨z, rfl, (Option.some.inj hi).symm⟩
      have him : i < ms.length := (List.getElem?_eq_some_iff.mp eL).1
      refine ⟨_, rfl, .inl ⟨rfl, _, SqL.of eF⟩, _, rfl, _, rfl, _, rfl, a, b, _, _, rfl, .inr ⟨seqT_same sG hA, seqT_same sG hB, fun D nD => lc_it (walk_zipT (K := K) (a := a) (b := b) (xs := ns.map V.int) (ys := ls.map V.int) (n := ns.length) (by rw [List.length_map, List.length_map]; omega)) (fun j G2 => Same G G2 ∧ G2 D = some (.lst ((sel L ((ns.zip ls).take j)).map V.int))) ⟨same_upd nD, upd_same⟩ (fun j G2 _ h => ⟨seqT_same (sG.trans h.1) hA, seqT_same (sG.trans h.1) hB⟩) ?_ ?_⟩⟩
      · rintro j z G2 G3 hlt ⟨s2, hD⟩ ⟨T, x, y, rfl, nT, rfl, hx, hy⟩
        obtain ⟨n, l, rfl, rfl, hz⟩ := zip_at hx hy
        have nTD : D ≠ T := ne_of_none hD nT
        have hD3 : (upd G2 T (.tup [.int n, .int l])) D = some (.lst ((sel L ((ns.zip ls).take j)).map V.int)) := by rw [upd_ne nTD]; exact hD
        have s3 := s2.trans (same_upd (o := .tup [.int n, .int l]) nT)
        refine ⟨T, _, rfl, SqT.of upd_same, rfl, _, _, rfl, _, _, rfl, rfl, rfl, _, rfl, _, rfl, rfl, _, rfl, ite2 (fun c => ?_) (fun c => ?_)⟩
        · have e : l = L := V.int.inj (of_decide_eq_true c)
          refine ⟨_, rfl, _, hD3, ?_, ?_, ?_⟩
          · rw [List.length_map]
            have := sel_len L ((ns.zip ls).take j)
            rw [List.length_take, List.length_zip] at this
            exact small1000 (by omega)
          · intro p' o' h'
            rw [upd_ne (ne_of_none h' nD)]
            exact s3 _ _ h'
          · rw [upd_same, sel_take hz, if_pos e, List.map_append]
            rfl
        · have e : ¬ l = L := fun z => c (decide_eq_true (by rw [z]))
          refine ⟨s3, ?_⟩
          rw [hD3, sel_take hz, if_neg e, List.append_nil]
      · rintro G2 ⟨s2, hD⟩
        have et : (ns.zip ls).take ns.length = ns.zip ls := List.take_of_length_le (by rw [List.length_zip]; omega)
        rw [et] at hD
        refine ⟨D, _, rfl, .inl ⟨SqL.of hD, fun t nt => ⟨(by show 2 ≤ sizeLine; decide), fun u nu => ?_⟩⟩⟩
        have s4 := s2.trans (same_upd (o := .tup ((sel L (ns.zip ls)).map V.int)) nt)
        have s5 := s4.trans (same_upd (o := .tup [.int L, .ref t]) nu)
        have eF5 := s5 _ _ eF
        refine ⟨f, _, _, rfl, rfl, eF5, small1000 (by omega), ?_⟩
        refine ⟨_, _, _, _, rfl, ?_, ?_, upd_same, ?_, ?_⟩
        · intro p' o' h'
          rw [upd_ne (ne_of_none h' nf)]
          exact s5 _ _ (sG _ _ h')
        · rw [upd_ne pf]
          exact s5 _ _ eP
        · rw [List.length_append, hxl]
          rfl
        · have e1 : parts (ms.take (i + 1)) (ns.zip ls) = parts (ms.take i) (ns.zip ls) ++ [(L, sel L (ns.zip ls))] := by
            unfold parts
            rw [List.take_add_one, eL, List.map_append]
            rfl
          rw [e1]
          refine paired_snoc (paired_mono (fun v r h => (h.same s5).upd eF5) hP) ?_
          exact PairV.upd eF5 ⟨u, t, rfl, SqT.of upd_same, seqT_same (same_upd nu) (SqT.of upd_same)⟩
    · rintro σ G ⟨xs, v3, v4, v5, rfl, sG, eP, eF, hxl, hP⟩
      rw [List.length_map, List.take_length] at hP
      exact ⟨_, rfl, q ms xs f G sG asc nf eF hP⟩
end
end My

set_option Elab.async false
set_option linter.all false
set_option maxRecDepth 100000
namespace My
open PySem PySem.Spec PyProof.Rows L2
theorem srt_unique : ∀ {ms ms' : List Int}, ms.Pairwise (· < ·) → ms'.Pairwise (· < ·) → (∀ k, k ∈ ms ↔ k ∈ ms') → ms = ms'
  | [], [], _, _, _ => rfl
  | [], y :: ys, _, _, h => absurd ((h y).mpr (by simp)) (by simp)
  | x :: xs, [], _, _, h => absurd ((h x).mp (by simp)) (by simp)
  | x :: xs, y :: ys, p, q, h => by
    obtain ⟨p1, p2⟩ := List.pairwise_cons.mp p
    obtain ⟨q1, q2⟩ := List.pairwise_cons.mp q
    have e : x = y := by
      rcases List.mem_cons.mp ((h x).mp (by simp)) with a | a
      · exact a
      · rcases List.mem_cons.mp ((h y).mpr (by simp)) with b | b
        · exact b.symm
        · have := q1 _ a
          have := p1 _ b
          omega
    subst e
    rw [srt_unique p2 q2 (fun k => ?_)]
    constructor
    · intro hk
      rcases List.mem_cons.mp ((h k).mp (List.mem_cons_of_mem _ hk)) with a | a
      · have := p1 _ hk
        omega
      · exact a
    · intro hk
      rcases List.mem_cons.mp ((h k).mpr (List.mem_cons_of_mem _ hk)) with a | a
      · have := q1 _ hk
        omega
      · exact a
theorem asc_unique {ms ms' ls : List Int} (h : Asc ms ls) (h' : Asc ms' ls) : ms = ms' := srt_unique h.1 h'.1 fun k => (h.2 k).trans (h'.2 k).symm
def ins (x : Int) : List Int → List Int
  | [] => [x]
  | y :: ys => if x < y then x :: y :: ys else if x = y then y :: ys else y :: ins x ys
theorem mem_ins {x k : Int} : ∀ {l : List Int}, k ∈ ins x l ↔ k = x ∨ k ∈ l
  | [] => by simp [ins]
  | y :: ys => by
    unfold ins
    by_cases h1 : x < y
    · rw [if_pos h1]
      simp
    · rw [if_neg h1]
      by_cases h2 : x = y
      · rw [if_pos h2, h2]
        simp
      · rw [if_neg h2]
        simp only [List.mem_cons, mem_ins (l := ys)]
        constructor
        · rintro (a | a | a) <;> simp [a]
        · rintro (a | a | a) <;> simp [a]
theorem srt_ins {x : Int} : ∀ {l : List Int}, l.Pairwise (· < ·) → (ins x l).Pairwise (· < ·)
  | [], _ => by simp [ins]
  | y :: ys, h => by
    obtain ⟨h1, h2⟩ := List.pairwise_cons.mp h
    unfold ins
    by_cases c1 : x < y
    · rw [if_pos c1]
      refine List.pairwise_cons.mpr ⟨fun z hz => ?_, h⟩
      rcases List.mem_cons.mp hz with rfl | hz
      · exact c1
      · have := h1 _ hz
        omega
    · rw [if_neg c1]
      by_cases c2 : x = y
      · rw [if_pos c2]
        exact h
      · rw [if_neg c2]
        refine List.pairwise_cons.mpr ⟨fun z hz => ?_, srt_ins h2⟩
        rcases mem_ins.mp hz with rfl | hz
        · omega
        · exact h1 _ hz
def canon (ls : List Int) : List Int := ls.foldr ins []
theorem canon_asc : ∀ ls : List Int, Asc (canon ls) ls
  | [] => ⟨.nil, fun k => Iff.rfl⟩
  | x :: ls => ⟨srt_ins (canon_asc ls).1, fun k => by
      show k ∈ ins x (canon ls) ↔ _
      rw [mem_ins, (canon_asc ls).2, List.mem_cons]⟩
theorem canon_eq {ms ls : List Int} (h : Asc ms ls) : ms = canon ls := asc_unique h (canon_asc ls)
def splitM (ns ls : List Int) : List (Int × List Int) := parts (canon ls) (ns.zip ls)
theorem mem_sel {L n : Int} {zs : List (Int × Int)} : n ∈ sel L zs ↔ (n, L) ∈ zs := by
  unfold sel
  rw [List.mem_map]
  constructor
  · rintro ⟨⟨a, b⟩, h, rfl⟩
    rw [List.mem_filter] at h
    have e : b = L := by simpa using h.2
    rw [← e]
    exact h.1
  · intro h
    exact ⟨(n, L), List.mem_filter.mpr ⟨h, by simp⟩, rfl⟩
theorem sum_ite {x : Int} : ∀ {ms : List Int}, ms.Nodup → ((ms.map fun L => if x = L then 1 else 0).sum : Nat) = if x ∈ ms then 1 else 0
  | [], _ => rfl
  | y :: ys, h => by
    obtain ⟨h1, h2⟩ := List.nodup_cons.mp h
    rw [List.map_cons, List.sum_cons, sum_ite h2]
    by_cases e : x = y
    · subst e
      rw [if_pos rfl, if_neg h1, if_pos (by simp)]
    · rw [if_neg e]
      by_cases hm : x ∈ ys
      · rw [if_pos hm, if_pos (List.mem_cons_of_mem _ hm)]
      · rw [if_neg hm, if_neg (by simp [e, hm])]
theorem sum_add {α : Type} (f g : α → Nat) : ∀ l : List α, (l.map fun a => f a + g a).sum = (l.map f).sum + (l.map g).sum
  | [] => rfl
  | a :: l => by
    rw [List.map_cons, List.sum_cons, sum_add f g l, List.map_cons, List.sum_cons, List.map_cons, List.sum_cons]
    omega
theorem sel_cons {L : Int} {p : Int × Int} {zs : List (Int × Int)} : (sel L (p :: zs)).length = (if p.2 = L then 1 else 0) + (sel L zs).length := by
  unfold sel
  by_cases e : p.2 = L
  · rw [if_pos e, List.filter_cons_of_pos (by simpa using e), List.map_cons, List.length_cons]
    omega
  · rw [if_neg e, List.filter_cons_of_neg (by simpa using e)]
    omega
theorem sum_sel {ms : List Int} (nd : ms.Nodup) : ∀ {zs : List (Int × Int)}, (∀ p ∈ zs, p.2 ∈ ms) → (ms.map fun L => (sel L zs).length).sum = zs.length
  | [], _ => by
    have : ∀ l : List Int, (l.map fun L => (sel L []).length).sum = 0 := fun l => by
      induction l with
      | nil => rfl
      | cons a l ih => rw [List.map_cons, List.sum_cons, ih]; rfl
    exact this ms
  | p :: zs, h => by
    have e : (ms.map fun L => (sel L (p :: zs)).length) = ms.map fun L => (if p.2 = L then 1 else 0) + (sel L zs).length := List.map_congr_left fun L _ => sel_cons
    rw [e, sum_add, sum_ite nd, sum_sel nd (fun q hq => h q (List.mem_cons_of_mem _ hq)), if_pos (h p (by simp)), List.length_cons]
    omega
theorem asc_nodup {ms ls : List Int} (h : Asc ms ls) : ms.Nodup := h.1.imp fun {x y} q => Int.ne_of_lt q
theorem zip_snd {ns ls : List Int} {p : Int × Int} (h : p ∈ ns.zip ls) : p.2 ∈ ls := (List.of_mem_zip (a := p.1) (b := p.2) h).2
/-- the lengths of the parts add up -/
theorem split_sum {ns ls : List Int} (e : ns.length = ls.length) : ((splitM ns ls).map fun r => r.2.length).sum = ns.length := by
  unfold splitM parts
  rw [List.map_map]
  show ((canon ls).map fun L => (sel L (ns.zip ls)).length).sum = _
  rw [sum_sel (asc_nodup (canon_asc ls)) (fun p hp => ((canon_asc ls).2 _).mpr (zip_snd hp)), List.length_zip]
  omega
theorem mem_zip_of {ns ls : List Int} (e : ns.length = ls.length) {i : Nat} {n : Int} (h : ns[i]? = some n) : ∃ L, ls[i]? = some L ∧ (n, L) ∈ ns.zip ls := by
  obtain ⟨hi, he⟩ := List.getElem?_eq_some_iff.mp h
  have hl : i < ls.length := by omega
  refine ⟨ls[i], List.getElem?_eq_getElem hl, ?_⟩
  refine List.mem_of_getElem? (i := i) ?_
  rw [List.getElem?_zip_eq_some]
  exact ⟨h, List.getElem?_eq_getElem hl⟩
/-- no part is empty -/
theorem split_pos {ns ls : List Int} (e : ns.length = ls.length) {r : Int × List Int} (h : r ∈ splitM ns ls) : 0 < r.2.length := by
  obtain ⟨L, hL, rfl⟩ := List.mem_map.mp h
  have hl := ((canon_asc ls).2 L).mp hL
  obtain ⟨i, hi⟩ := List.mem_iff_getElem?.mp hl
  have hlt : i < ns.length := by have := (List.getElem?_eq_some_iff.mp hi).1; omega
  obtain ⟨L', h1, h2⟩ := mem_zip_of e (List.getElem?_eq_getElem hlt)
  rw [hi] at h1
  cases h1
  exact List.length_pos_of_mem (mem_sel.mpr h2)
/-- each number is in some part -/
theorem split_all {ns ls : List Int} (e : ns.length = ls.length) {n : Int} (h : n ∈ ns) : ∃ r ∈ splitM ns ls, n ∈ r.2 := by
  obtain ⟨i, hi⟩ := List.mem_iff_getElem?.mp h
  obtain ⟨L, h1, h2⟩ := mem_zip_of e hi
  exact ⟨(L, sel L (ns.zip ls)), List.mem_map.mpr ⟨L, ((canon_asc ls).2 L).mpr (List.mem_of_getElem? h1), rfl⟩, mem_sel.mpr h2⟩
theorem split_len {ns ls : List Int} : (splitM ns ls).length ≤ ls.length := by
  unfold splitM parts
  rw [List.length_map]
  exact asc_len (canon_asc ls)
theorem part_len {ns ls : List Int} {r : Int × List Int} (h : r ∈ splitM ns ls) : r.2.length ≤ ns.length := by
  obtain ⟨L, hL, rfl⟩ := List.mem_map.mp h
  have := sel_len L (ns.zip ls)
  rw [List.length_zip] at this
  show (sel L _).length ≤ _
  omega
theorem part_sub {ns ls : List Int} {r : Int × List Int} (h : r ∈ splitM ns ls) : r.1 ∈ ls := by
  obtain ⟨L, hL, rfl⟩ := List.mem_map.mp h
  exact ((canon_asc ls).2 L).mp hL
/-- one label for all -/
theorem split_const {ns : List Int} {c : Int} (h : 0 < ns.length) : splitM ns (ns.map fun _ => c) = [(c, ns)] := by
  have hc : canon (ns.map fun _ => c) = [c] := by
    refine (canon_eq ⟨by simp, fun k => ?_⟩).symm
    rw [List.mem_singleton, List.mem_map]
    constructor
    · rintro rfl
      obtain ⟨x, hx⟩ := List.exists_mem_of_length_pos h
      exact ⟨x, hx, rfl⟩
    · rintro ⟨_, _, rfl⟩
      rfl
  unfold splitM
  rw [hc]
  show [(c, sel c _)] = _
  have : sel c (ns.zip (ns.map fun _ => c)) = ns := by
    unfold sel
    have e : ns.zip (ns.map fun _ => c) = ns.map fun n => (n, c) := by
      have := (List.zip_map' : (ns.map fun n : Int => n).zip (ns.map fun _ : Int => c) = ns.map fun n => (n, c))
      rwa [List.map_id'] at this
    rw [e, List.filter_eq_self.mpr (fun p hp => by obtain ⟨n, _, rfl⟩ := List.mem_map.mp hp; simp), List.map_map]
    exact List.map_id' ns
  rw [this]
/-! ### two labels at once -/
abbrev T3 := Int × Int × Int
theorem triples : ∀ {ns ls qs : List Int}, ns.length = ls.length → ns.length = qs.length → ∃ ts : List T3, ns = ts.map (·.1) ∧ ls = ts.map (·.2.1) ∧ qs = ts.map (·.2.2)
  | [], [], [], _, _ => ⟨[], rfl, rfl, rfl⟩
  | n :: ns, l :: ls, q :: qs, h1, h2 => by
    obtain ⟨ts, rfl, rfl, rfl⟩ := triples (ns := ns) (ls := ls) (qs := qs) (by simpa using h1) (by simpa using h2)
    exact ⟨(n, l, q) :: ts, rfl, rfl, rfl⟩
  | [], l :: ls, _, h, _ => by simp at h
  | [], [], q :: qs, _, h => by simp at h
  | n :: ns, [], _, h, _ => by simp at h
  | n :: ns, l :: ls, [], _, h => by simp at h
def subT (ts : List T3) (L : Int) : List T3 := ts.filter fun t => decide (t.2.1 = L)
theorem sel_map {ts : List T3} {f g : T3 → Int} {L : Int} : sel L ((ts.map f).zip (ts.map g)) = (ts.filter fun t => decide (g t = L)).map f := by
  unfold sel
  rw [List.zip_map', List.filter_map, List.map_map]
  rfl
def late (ts : List T3) (L : Int) : List Int := (subT ts L).map (·.2.2)
theorem sel_sub {ts : List T3} {L : Int} : sel L ((ts.map (·.1)).zip (ts.map (·.2.1))) = (subT ts L).map (·.1) := sel_map
def both (L : Int) (r : Int × List Int) : Int × List Int := (16 * L + r.1, r.2)
def stepAt (ts : List T3) (L : Int) : List (Int × List Int) := (splitM ((subT ts L).map (·.1)) (late ts L)).map (both L)
def step (ts : List T3) (ms : List Int) : List (Int × List Int) := ms.flatMap (stepAt ts)
theorem step_eq {ts : List T3} (hq : ∀ t ∈ ts, 0 ≤ t.2.2 ∧ t.2.2 < 10) : splitM (ts.map (·.1)) (ts.map fun t => 16 * t.2.1 + t.2.2) = step ts (canon (ts.map (·.2.1))) := by
  have hqL : ∀ L, ∀ s ∈ canon (late ts L), 0 ≤ s ∧ s < 10 := fun L s hs => by
    obtain ⟨t, ht, rfl⟩ := List.mem_map.mp (((canon_asc (late ts L)).2 s).mp hs)
    exact hq t (List.mem_filter.mp ht).1
  have asc : Asc ((canon (ts.map (·.2.1))).flatMap fun L => (canon (late ts L)).map fun s => 16 * L + s) (ts.map fun t => 16 * t.2.1 + t.2.2) := by
    constructor
    · have : ∀ ms : List Int, ms.Pairwise (· < ·) → (ms.flatMap fun L => (canon (late ts L)).map fun s => 16 * L + s).Pairwise (· < ·) := fun ms hm => by
        induction ms with
        | nil => exact .nil
        | cons L ms ih =>
          obtain ⟨h1, h2⟩ := List.pairwise_cons.mp hm
          rw [List.flatMap_cons, List.pairwise_append]
          refine ⟨List.pairwise_map.mpr ((canon_asc (late ts L)).1.imp fun {x y} h => by omega), ih h2, fun a ha b hb => ?_⟩
          obtain ⟨s, hs, rfl⟩ := List.mem_map.mp ha
          obtain ⟨L', hL', hb⟩ := List.mem_flatMap.mp hb
          obtain ⟨s', hs', rfl⟩ := List.mem_map.mp hb
          have := h1 _ hL'
          have := hqL _ _ hs
          have := hqL _ _ hs'
          omega
      exact this _ (canon_asc _).1
    · intro k
      rw [List.mem_flatMap, List.mem_map]
      constructor
      · rintro ⟨L, hL, hk⟩
        obtain ⟨s, hs, rfl⟩ := List.mem_map.mp hk
        obtain ⟨t, ht, rfl⟩ := List.mem_map.mp (((canon_asc (late ts L)).2 s).mp hs)
        obtain ⟨h1, h2⟩ := List.mem_filter.mp ht
        have e : t.2.1 = L := by simpa using h2
        exact ⟨t, h1, by rw [e]⟩
      · rintro ⟨t, ht, rfl⟩
        exact ⟨t.2.1, ((canon_asc _).2 _).mpr (List.mem_map.mpr ⟨t, ht, rfl⟩), List.mem_map.mpr ⟨t.2.2, ((canon_asc _).2 _).mpr (List.mem_map.mpr ⟨t, List.mem_filter.mpr ⟨ht, by simp⟩, rfl⟩), rfl⟩⟩
  unfold splitM step
  rw [← canon_eq asc]
  unfold parts
  rw [List.map_flatMap]
  refine congrArg (fun f => List.flatMap f _) (funext fun L => ?_)
  unfold stepAt splitM parts both
  rw [List.map_map, List.map_map]
  refine List.map_congr_left fun s hs => ?_
  show (16 * L + s, sel (16 * L + s) ((ts.map (·.1)).zip (ts.map fun t => 16 * t.2.1 + t.2.2))) = (16 * L + s, sel s (((subT ts L).map (·.1)).zip ((subT ts L).map (·.2.2))))
  rw [sel_map, sel_map]
  unfold subT
  rw [List.filter_filter]
  have hs' := hqL L s hs
  congr 2
  refine List.filter_congr fun t ht => ?_
  have := hq t ht
  rw [Bool.eq_iff_iff]
  simp
  omega
theorem step_len {ts : List T3} (hq : ∀ t ∈ ts, 0 ≤ t.2.2 ∧ t.2.2 < 10) : (step ts (canon (ts.map (·.2.1)))).length ≤ ts.length := by
  rw [← step_eq hq]
  refine Nat.le_trans split_len ?_
  rw [List.length_map]
  exact Nat.le_refl _
end My

set_option Elab.async false
set_option linter.all false
set_option maxRecDepth 100000
namespace My
open PySem PySem.Spec PyProof.Rows L2
abbrev sLawSplit : Stmt := topS 8
theorem scLawSplit : FnScope ["numbers", "labels", "every", "n", "one", "label"] ["numbers", "labels"] (defScope sLawSplit) := ⟨rfl, rfl, rfl, by decide +kernel, rfl, by decide +kernel, by decide +kernel⟩
def rTupOf (K : PySem.W.Frag) : List V → Hp → VK → Prop := fun xs H Q => ∃ p ys, xs = [.ref p] ∧ ((SqL K H p ys ∧ ∀ l, H l = none → Q (.ref l) (upd H l (.tup ys))) ∨ (SqT K H p ys ∧ Q (.ref p) H))
def spSplit (K : PySem.W.Frag) : Sp := fun vs H Q _ => ∃ (a b : Addr) (ns ls : List Int), vs = [.ref a, .ref b] ∧ SqL K H a (ns.map V.int) ∧ SqL K H b (ls.map V.int) ∧ ns.length = ls.length ∧ ls.length ≤ 500 ∧
  ∀ (xs : List V) (p : Addr) (H' : Hp), Same H H' → H p = none → H' p = some (.lst xs) → Paired (PairV K H') xs (splitM ns ls) → Q (.ref p) H'
section
variable {P : Program} {w : World} {K : PySem.W.Frag} {mg : Str → Option Value} {base : Heap}
theorem ok_split {f : Addr} {fd : FuncData} {k : Nat} (F : Fun K "_law_split" "_law_split" sLawSplit f fd) (b_sorted : mg "sorted" = none) (b_set : mg "set" = none) (b_tuple : mg "tuple" = none) (b_zip : mg "zip" = none) : FnOk P w K mg base CX0 (k + 1) f fd ["numbers", "labels"] (spSplit K) := by
  refine F.ok scLawSplit (fun vs H Q E h => ?_) (fun cdv A outer s H vs Q E hr h => ?_)
  · obtain ⟨a, b, ns, ls, rfl, _⟩ := h
    rfl
  · obtain ⟨a, b, ns, ls, rfl, hA, hB, hl, few, q⟩ := h
    refine ⟨_, (pss_cons (ps_set (i := 2) scLawSplit.nd rfl (.inl rfl) (pe_sortedset rfl rfl b_sorted rfl b_set (pv 1)))
      (pss_one (ps_ret (pe_lc (own := [("label", 5)]) (g := gName 5) (tt := tYes) (te := tTup (tCons (tVar 5) (tCons (tCB (rTupOf K) (tCons (tLc (RZ.iZipA K (tCons (tVar 0) (tCons (tVar 1) tNil))) (gTup K 2 (gCons (gName 3) (gCons (gName 4) gNil))) (tTest (tOp rEq (tVar 4) (tVar 5))) (tVar 3) [3, 4]) tNil)) tNil))) rfl scLawSplit.nd (pi_list (pv 2)) (blkOk_by (own := [("label", 5)]) (N := ["numbers", "labels", "every", "n", "one", "label"]) (sc := defScope sLawSplit) (by decide +kernel)) (fun _ _ _ _ _ => (pg_name (i := 5) scLawSplit.nd rfl (.inr rfl) (.inl rfl))) (fun _ _ _ _ _ => pts_nil) (fun _ _ _ _ _ => (pe_tup (pa_cons (pv 5) (pa_cons (pe_callTy call_tuple_of rfl b_tuple (by decide +kernel) (pa_cons (pe_lc (own := [("n", 3), ("one", 4)]) (g := gTup K 2 (gCons (gName 3) (gCons (gName 4) gNil))) rfl scLawSplit.nd (RZ.pi_zipA rfl b_zip (pa_cons (pv 0) (pa_cons (pv 1) pa_nil))) (blkOk_by (own := [("n", 3), ("one", 4)]) (N := ["numbers", "labels", "every", "n", "one", "label"]) rfl) (fun _ _ _ _ _ => (pg_tup rfl (pgs_cons (pg_name (i := 3) scLawSplit.nd rfl (.inl rfl) (.inr rfl)) (pgs_cons (pg_name (i := 4) scLawSplit.nd rfl (.inl rfl) (.inr rfl)) pgs_nil)))) (fun _ _ _ _ _ => (pts_one (pt_cmpR op_eq (pv 4) (pv 5) (nomark _)))) (fun _ _ _ _ _ => (pv 3))) pa_nil)) pa_nil)))))))), ?_⟩
    refine ⟨_, rfl, b, ls, rfl, .inl hB, by omega, fun ms p hasc hmem np => ?_⟩
    obtain rfl := canon_eq (show Asc ms ls from ⟨hasc, hmem⟩)
    have ml := asc_len (canon_asc ls)
    have sp := same_upd (o := .lst ((canon ls).map V.int)) np
    refine ⟨_, rfl, p, rfl, ⟨_, SqL.of upd_same⟩, fun D nD => lc_list (K := K) (a := p) (xs := (canon ls).map V.int) (fun i G => ∃ xs : List V, Same H G ∧ G p = some (.lst ((canon ls).map V.int)) ∧ G D = some (.lst xs) ∧ xs.length = i ∧ Paired (PairV K G) xs (parts ((canon ls).take i) (ns.zip ls))) ⟨[], sp.trans (same_upd nD), same_upd nD _ _ upd_same, upd_same, rfl, .nil⟩ (fun i G _ ⟨_, _, e, _⟩ => SqL.of e) ?_ ?_⟩
    · rintro i y G hi ⟨xs, sG, eP, eF, hxl, hP⟩
      obtain ⟨L, eL, rfl⟩ : ∃ L, (canon ls)[i]? = some L ∧ y = .int L := by
        rw [List.getElem?_map] at hi
        cases e : (canon ls)[i]? with
        | none => rw [e] at hi; cases hi
        | some z => rw [e] at hi; exact ⟨z, rfl, (Option.some.inj hi).symm⟩
      have him : i < (canon ls).length := (List.getElem?_eq_some_iff.mp eL).1
      refine ⟨rfl, ?_⟩
      unfold tYes
      refine iteT ?_
      refine ⟨_, rfl, _, rfl, _, rfl, a, b, _, _, rfl, .inl ⟨sG.seq hA, sG.seq hB, fun D2 nD2 => lc_it (walk_zip (K := K) (a := a) (b := b) (xs := ns.map V.int) (ys := ls.map V.int) (n := ns.length) (by rw [List.length_map, List.length_map]; omega)) (fun j G2 => Same G G2 ∧ G2 D2 = some (.lst ((sel L ((ns.zip ls).take j)).map V.int))) ⟨same_upd nD2, upd_same⟩ (fun j G2 _ h => ⟨(sG.trans h.1).seq hA, (sG.trans h.1).seq hB⟩) ?_ ?_⟩⟩
      · rintro j z G2 G3 hlt ⟨s2, hD⟩ ⟨T, x, y, rfl, nT, rfl, hx, hy⟩
        obtain ⟨n, l, rfl, rfl, hz⟩ := zip_at hx hy
        have nTD : D2 ≠ T := ne_of_none hD nT
        have hD3 : (upd G2 T (.tup [.int n, .int l])) D2 = some (.lst ((sel L ((ns.zip ls).take j)).map V.int)) := by rw [upd_ne nTD]; exact hD
        have s3 := s2.trans (same_upd (o := .tup [.int n, .int l]) nT)
        refine ⟨T, _, rfl, SqT.of upd_same, rfl, _, _, rfl, _, _, rfl, rfl, rfl, _, rfl, _, rfl, rfl, _, rfl, ite2 (fun c => ?_) (fun c => ?_)⟩
        · have e : l = L := V.int.inj (of_decide_eq_true c)
          refine ⟨_, rfl, _, hD3, ?_, ?_, ?_⟩
          · rw [List.length_map]
            have := sel_len L ((ns.zip ls).take j)
            rw [List.length_take, List.length_zip] at this
            exact small1000 (by omega)
          · intro p' o' h'
            rw [upd_ne (ne_of_none h' nD2)]
            exact s3 _ _ h'
          · rw [upd_same, sel_take hz, if_pos e, List.map_append]
            rfl
        · have e : ¬ l = L := fun z => c (decide_eq_true (by rw [z]))
          refine ⟨s3, ?_⟩
          rw [hD3, sel_take hz, if_neg e, List.append_nil]
      · rintro G2 ⟨s2, hD⟩
        have et : (ns.zip ls).take ns.length = ns.zip ls := List.take_of_length_le (by rw [List.length_zip]; omega)
        rw [et] at hD
        refine ⟨D2, _, rfl, .inl ⟨SqL.of hD, fun t nt => ⟨(by show 2 ≤ sizeLine; decide), fun u nu => ?_⟩⟩⟩
        have s4 := s2.trans (same_upd (o := .tup ((sel L (ns.zip ls)).map V.int)) nt)
        have s5 := s4.trans (same_upd (o := .tup [.int L, .ref t]) nu)
        have eF5 := s5 _ _ eF
        refine ⟨_, eF5, small1000 (by omega), xs ++ [.ref u], ?_, ?_, upd_same, ?_, ?_⟩
        · intro p' o' h'
          by_cases e : p' = D
          · subst e
            rw [sp _ _ h'] at nD
            cases nD
          · rw [upd_ne e]
            exact s5 _ _ (sG _ _ h')
        · rw [upd_ne (ne_of_none (H := upd H p (.lst ((canon ls).map V.int))) upd_same nD)]
          exact s5 _ _ eP
        · rw [List.length_append, hxl]
          rfl
        · have e1 : parts ((canon ls).take (i + 1)) (ns.zip ls) = parts ((canon ls).take i) (ns.zip ls) ++ [(L, sel L (ns.zip ls))] := by
            unfold parts
            rw [List.take_add_one, eL, List.map_append]
            rfl
          rw [e1]
          refine paired_snoc (paired_mono (fun v r h => (h.same s5).upd eF5) hP) ?_
          exact PairV.upd eF5 ⟨u, t, rfl, SqT.of upd_same, seqT_same (same_upd nu) (SqT.of upd_same)⟩
    · rintro G ⟨xs, sG, eP, eF, hxl, hP⟩
      rw [List.length_map, List.take_length] at hP
      exact q xs D G sG (by
        cases e : H D with
        | none => rfl
        | some o => rw [sp _ _ e] at nD; cases nD) eF hP
end
end My

set_option Elab.async false
set_option linter.all false
set_option maxRecDepth 100000
namespace My
open PySem PySem.Spec PyProof.Rows L2
abbrev sLawCase : Stmt := topS 7
theorem scLawCase : FnScope ["bag", "many", "found", "k", "last", "menu"] ["bag"] (defScope sLawCase) := ⟨rfl, rfl, rfl, by decide +kernel, rfl, by decide +kernel, by decide +kernel⟩
def spOfC (K : PySem.W.Frag) : Sp := fun vs H Q _ => ∃ (b a : Addr) (xs : List V) (c : Addr) (ns : List Int), vs = [.ref b, .ref a] ∧ BagC K H b c ns ∧ a ≠ b ∧ SqL K H a xs ∧ 0 < xs.length ∧ xs.length < 1000 ∧ ∀ v H', v ∈ xs → BagC K H' b c ns → But b H H' → Q v H'
def spCase (K : PySem.W.Frag) : Sp := fun vs H Q _ => ∃ (b c : Addr) (ns0 : List Int), vs = [.ref b] ∧ BagC K H b c ns0 ∧ ∀ (t f m : Addr) (ns ls : List Int) (H' : Hp), BagC K H' b c ns0 → But b H H' → SqT K H' t [.ref f, .ref m] → SqL K H' f (ns.map V.int) → SqL K H' m (ls.map V.int) → ns.Pairwise (· < ·) → ns.length = ls.length → 0 < ns.length → ns.length ≤ 65 → (∀ l ∈ ls, l.natAbs ≤ 1000000000000) → f ≠ b → m ≠ b → Q (.ref t) H'
/-- a list of labels to draw from -/
def Menu (K : PySem.W.Frag) (b : Addr) (G : Hp) (p : Addr) : Prop := ∃ ls : List Int, SqL K G p (ls.map V.int) ∧ 0 < ls.length ∧ ls.length ≤ 65 ∧ (∀ l ∈ ls, l.natAbs ≤ 1000000000000) ∧ p ≠ b
theorem Menu.but {K : PySem.W.Frag} {b p : Addr} {G G' : Hp} (h : Menu K b G p) (t : But b G G') : Menu K b G' p := let ⟨ls, h1, h2, h3, h4, h5⟩ := h; ⟨ls, t.seq h5 h1, h2, h3, h4, h5⟩
theorem Menu.same {K : PySem.W.Frag} {b p : Addr} {G G' : Hp} (h : Menu K b G p) (t : Same G G') : Menu K b G' p := h.but (.of t)
theorem BagC.ne {K : PySem.W.Frag} {H : Hp} {b c p : Addr} {ns : List Int} (B : BagC K H b c ns) (h : H p = none) : p ≠ b := by
  obtain ⟨i, g, x, n, B⟩ := B
  exact (ne_of_none B.ob h).symm
theorem BagC.fresh {K : PySem.W.Frag} {H : Hp} {b c p : Addr} {ns : List Int} {o : HO} (B : BagC K H b c ns) (h : H p = none) : BagC K (L2.upd H p o) b c ns := B.same (same_upd h)
theorem menu_new {K : PySem.W.Frag} {b p : Addr} {G : Hp} {ls : List Int} (np : p ≠ b) (h0 : 0 < ls.length) (h1 : ls.length ≤ 65) (h2 : ∀ l ∈ ls, l.natAbs ≤ 1000000000000) : Menu K b (upd G p (.lst (ls.map V.int))) p := ⟨ls, SqL.of upd_same, h0, h1, h2, np⟩
theorem grown (ns : List Int) (z : Int) : some (HO.lst (ns.map V.int ++ [V.int z])) = some (HO.lst ((ns ++ [z]).map V.int)) := by
  rw [List.map_append]
  rfl
theorem dp_ints {K : PySem.W.Frag} {H : Hp} : ∀ ns : List Int, DpAll K H (ns.map V.int) (ns.map PyData.int)
  | [] => .nil
  | n :: ns => .cons (.int n) (dp_ints ns)
theorem lay_ints : ∀ ns : List Int, PyData.canLayAll0 (ns.map PyData.int) = true ∧ PyData.depthAll (ns.map PyData.int) = 0
  | [] => ⟨by simp [PyData.canLayAll0], by simp [PyData.depthAll]⟩
  | n :: ns => by
    obtain ⟨h1, h2⟩ := lay_ints ns
    exact ⟨by simp [PyData.canLayAll0, PyData.canLay0, h1], by simp [PyData.depthAll, PyData.depth, h2]⟩
theorem shaped_ints (ns : List Int) : SeqAt.shaped (.list (ns.map PyData.int)) = true := by
  obtain ⟨h1, h2⟩ := lay_ints ns
  unfold SeqAt.shaped
  simp [PyData.canLay0, PyData.depth, h1, h2]
theorem eqv_ints : ∀ ns : List Int, PyData.eqvAll (ns.map PyData.int) (ns.map PyData.int) = true
  | [] => by simp [PyData.eqvAll]
  | n :: ns => by simp [PyData.eqvAll, PyData.eqv, eqv_ints ns]
theorem pair_snoc {ns : List Int} {y : Int} (h : ns.Pairwise (· < ·)) (hy : ∀ x ∈ ns, x < y) : (ns ++ [y]).Pairwise (· < ·) := List.pairwise_append.mpr ⟨h, by simp, fun a ha b hb => by
  have : b = y := by simpa using hb
  rw [this]
  exact hy a ha⟩
theorem last_or (ns : List Int) : ns = [] ∨ ∃ pre l, ns = pre ++ [l] := by
  rcases List.eq_nil_or_concat ns with h | ⟨pre, l, h⟩
  · exact .inl h
  · exact .inr ⟨pre, l, by simpa using h⟩
section
variable {P : Program} {w : World} {K : PySem.W.Frag} {mg : Str → Option Value} {base : Heap}
theorem ok_ofC {f fD : Addr} {fd fdD : FuncData} {k : Nat} (F : Fun K "_law_of" "_law_of" sLawOf f fd) (D : Cal P w K mg base "_law_pull" (k + 1) ["bag", "many"] (spDrawC K) fD fdD) (b_len : mg "len" = none) : FnOk P w K mg base CX0 (k + 2) f fd ["bag", "some"] (spOfC K) := by
  refine F.ok scLawOf (fun vs H Q E h => ?_) (fun cdv A outer s H vs Q E hr h => ?_)
  · obtain ⟨b, a, xs, c, ns, rfl, _⟩ := h
    rfl
  · obtain ⟨b, a, xs, c, ns, rfl, B, n, hs, h0, h1, q⟩ := h
    refine ⟨_, (pss_one (ps_ret (pe_ix ix_list (pv 1) (pe_call D.ok hr rfl D.g D.kp D.b .nil pass0 (pa_cons (pv 0) (pa_cons (pe_callB call_len rfl b_len (by decide +kernel) (pa_cons (pv 1) pa_nil)) pa_nil))) (fun _ _ => rfl)))), ?_⟩
    refine ⟨_, rfl, _, rfl, _, rfl, _, _, rfl, .inl ⟨_, hs, rfl⟩, b, _, c, ns, rfl, B, by omega, by omega, fun r H' r0 r1 B' t => ?_⟩
    obtain ⟨j, rfl⟩ : ∃ j : Nat, r = (j : Int) := ⟨r.toNat, by omega⟩
    have hj : j < xs.length := by omega
    exact ⟨a, _, _, xs[j], rfl, rfl, t.seq n hs, atI_nat (List.getElem?_eq_getElem hj), q _ H' (List.getElem_mem hj) B' t⟩
set_option maxHeartbeats 1000000 in
theorem ok_case {f fD fO : Addr} {fd fdD fdO : FuncData} {k : Nat} (F : Fun K "_law_case" "_law_case" sLawCase f fd) (D : Cal P w K mg base "_law_pull" (k + 1) ["bag", "many"] (spDrawC K) fD fdD) (O : Cal P w K mg base "_law_of" (k + 2) ["bag", "some"] (spOfC K) fO fdO) (b_len : mg "len" = none) (b_range : mg "range" = none) :
    FnOk P w K mg base CX0 (k + 3) f fd ["bag"] (spCase K) := by
  refine F.ok scLawCase (fun vs H Q E h => ?_) (fun cdv A outer s H vs Q E hr h => ?_)
  · obtain ⟨b, c, ns0, rfl, _⟩ := h
    rfl
  · obtain ⟨b, c, ns0, rfl, B, q⟩ := h
    have hr1 : Room (k + 1) _ := hr.mono (by omega)
    refine ⟨_, (pss_cons (ps_par (i := 1) (j := 2) rfl scLawCase.nd rfl rfl (by decide) rfl rfl (pa_cons (pe_call O.ok hr rfl O.g O.kp O.b .nil pass0 (pa_cons (pv 0) (pa_cons (pe_lst (pa_cons pe_int (pa_cons pe_int (pa_cons pe_int (pa_cons pe_int (pa_cons pe_int (pa_cons pe_int (pa_cons pe_int (pa_cons pe_int (pa_cons pe_int pa_nil)))))))))) pa_nil))) (pa_cons (pe_lst pa_nil) pa_nil)) rfl)
      (pss_cons (ps_for PassesOwn.never rfl (pi_range1 rfl b_range (pa_cons (pv 1) pa_nil)) (pg_name (i := 3) scLawCase.nd rfl (.inl rfl))
        (pss_cons (ps_set (i := 4) scLawCase.nd rfl (.inl rfl) (pe_ifExp (pt_cmpR (op_neD hr.units) (pv 2) (pe_lst pa_nil) (nomark _)) (pe_ix ix_list (pv 2) (pe_op op_sub (pe_callB call_len rfl b_len (by decide +kernel) (pa_cons (pv 2) pa_nil)) pe_int) (fun _ _ => rfl)) (pe_un un_neg pe_int)))
        (pss_one (ps_expr (pe_bm PySem.F.plainAttrs_list PySem.F.slot_list_append PySem.F.type_list_append mt_append (pv 2) (pa_cons (pe_op op_add (pe_op op_add (pv 4) pe_int) (pe_call O.ok hr rfl O.g O.kp O.b .nil pass0 (pa_cons (pv 0) (pa_cons (pe_lst (pa_cons pe_int (pa_cons pe_int (pa_cons pe_int (pa_cons (pe_call D.ok hr1 rfl D.g D.kp D.b .nil pass0 (pa_cons (pv 0) (pa_cons pe_int pa_nil))) pa_nil))))) pa_nil)))) pa_nil))))))
      (pss_cons (ps_set (i := 5) scLawCase.nd rfl (.inr rfl) (pe_call O.ok hr rfl O.g O.kp O.b .nil pass0 (pa_cons (pv 0) (pa_cons (pe_lst (pa_cons (pe_lst (pa_cons (pe_un un_neg pe_int) (pa_cons pe_int (pa_cons pe_int (pa_cons pe_int (pa_cons pe_int (pa_cons pe_int pa_nil))))))) (pa_cons (pe_lst (pa_cons pe_int (pa_cons pe_int pa_nil))) (pa_cons (pe_lst (pa_cons pe_int (pa_cons pe_int (pa_cons (pe_un un_neg pe_int) pa_nil)))) (pa_cons (pe_lst (pa_cons (pe_op op_sub (pe_call D.ok hr1 rfl D.g D.kp D.b .nil pass0 (pa_cons (pv 0) (pa_cons pe_int pa_nil))) pe_int) pa_nil)) (pa_cons (pe_lc (own := [("k", 3)]) (g := gName 3) (tt := tYes) rfl scLawCase.nd (pi_range1 rfl b_range (pa_cons (pv 1) pa_nil)) (blkOk_by (own := [("k", 3)]) (N := ["bag", "many", "found", "k", "last", "menu"]) (sc := defScope sLawCase) (by decide +kernel)) (fun _ _ _ _ _ => (pg_name (i := 3) scLawCase.nd rfl (.inl rfl) (.inr rfl))) (fun _ _ _ _ _ => pts_nil) (fun _ _ _ _ _ => (pe_op op_sub pe_int (pv 3)))) (pa_cons (pe_lst (pa_cons (pe_op op_powG pe_int pe_int) (pa_cons (pe_un un_neg pe_int) (pa_cons pe_int (pa_cons pe_int (pa_cons pe_int (pa_cons (pe_call D.ok hr1 rfl D.g D.kp D.b .nil pass0 (pa_cons (pv 0) (pa_cons (pe_op op_powG pe_int pe_int) pa_nil))) pa_nil))))))) pa_nil))))))) pa_nil))))
      (pss_cons (ps_if (PW.pt (pw_and (pt_cmpR op_eq (pe_callB call_len rfl b_len (by decide +kernel) (pa_cons (pv 5) pa_nil)) (pv 1) (nomark _)) (pw_and1 (pt_cmpR op_eq (pe_call D.ok hr1 rfl D.g D.kp D.b .nil pass0 (pa_cons (pv 0) (pa_cons pe_int pa_nil))) pe_int (nomark _))))) (pss_one (ps_ret (pe_tup (pa_cons (pv 2) (pa_cons (pv 5) pa_nil))))) pss_nil)
      (pss_one (ps_ret (pe_tup (pa_cons (pv 2) (pa_cons (pe_lc (own := [("k", 3)]) (g := gName 3) (tt := tYes) rfl scLawCase.nd (pi_list (pv 2)) (blkOk_by (own := [("k", 3)]) (N := ["bag", "many", "found", "k", "last", "menu"]) (sc := defScope sLawCase) (by decide +kernel)) (fun _ _ _ _ _ => (pg_name (i := 3) scLawCase.nd rfl (.inl rfl) (.inr rfl))) (fun _ _ _ _ _ => pts_nil) (fun _ _ _ _ _ => (pe_call O.ok hr rfl O.g O.kp O.b .nil pass0 (pa_cons (pv 0) (pa_cons (pv 5) pa_nil))))) pa_nil))))))))), ?_⟩
    -- many, found
    refine ⟨_, rfl, (by show 9 ≤ sizeLine; decide), fun p np => ?_⟩
    refine ⟨b, p, _, c, ns0, rfl, B.fresh np, B.ne np, SqL.of upd_same, (by show 0 < 9; decide), (by show 9 < 1000; decide), fun v H1 hv B1 t1 => ?_⟩
    obtain ⟨many, rfl, m0, m1⟩ : ∃ m : Nat, v = .int m ∧ 0 < m ∧ m ≤ 65 := by
      simp only [List.append_nil, List.mem_cons, List.not_mem_nil, or_false] at hv
      rcases hv with rfl | rfl | rfl | rfl | rfl | rfl | rfl | rfl | rfl
      · exact ⟨1, rfl, by decide, by decide⟩
      · exact ⟨2, rfl, by decide, by decide⟩
      · exact ⟨3, rfl, by decide, by decide⟩
      · exact ⟨4, rfl, by decide, by decide⟩
      · exact ⟨5, rfl, by decide, by decide⟩
      · exact ⟨6, rfl, by decide, by decide⟩
      · exact ⟨9, rfl, by decide, by decide⟩
      · exact ⟨12, rfl, by decide, by decide⟩
      · exact ⟨65, rfl, by decide, by decide⟩
    have u1 : But b H H1 := (But.of (same_upd np)).trans t1
    refine ⟨Nat.zero_le _, fun f nf => ?_⟩
    have fb := B1.ne nf
    have B2 := B1.fresh (o := .lst []) nf
    have u2 := u1.trans (But.of (same_upd (o := .lst []) nf))
    have nfH : H f = none := by
      cases e : H f with
      | none => rfl
      | some o => rw [u1 _ _ fb e] at nf; cases nf
    refine ⟨_, _, rfl, _, rfl, (many : Int), rfl, by omega, by omega, ?_⟩
    have off := B1.off (L := f) nf
    refine for_range (n := many) (fun i σ G => ∃ (ns : List Int) (v3 v4 v5 : Option V), σ = [some (.ref b), some (.int many), some (.ref f), v3, v4, v5] ∧ G f = some (.lst (ns.map V.int)) ∧ ns.length = i ∧ ns.Pairwise (· < ·) ∧ BagC K G b c ns0 ∧ But b H G) ⟨[], none, none, none, rfl, upd_same, rfl, .nil, B2, u2⟩ ?_ ?_
    · rintro i σ G hi ⟨ns, v3, v4, v5, rfl, eF, hl, hp, BG, uG⟩
      refine ⟨_, rfl, Nat.zero_le _, fun e ne => ?_⟩
      have se := same_upd (o := .lst []) ne
      have eF1 := se _ _ eF
      have B3 := BG.same se
      have u3 := uG.trans (But.of se)
      refine ⟨_, _, .lst (SqL.of eF1) (dp_ints ns), .lst (SqL.of upd_same) .nil, shaped_ints ns, shaped_ints [], _, rfl, ?_⟩
      rcases last_or ns with rfl | ⟨pre, l, rfl⟩
      · rw [show (!PyData.eqv (.list (([] : List Int).map PyData.int)) (.list [])) = false from by simp [PyData.eqv, PyData.eqvAll]]
        refine iteF ⟨_, rfl, ?_⟩
        refine ⟨_, rfl, .inl ⟨rfl, _, SqL.of eF1⟩, _, rfl, _, _, rfl, rfl, _, rfl, _, rfl, b, 5, c, ns0, rfl, B3, by decide, by decide, fun r H2 r0 r1 B4 t4 => ⟨(by show 4 ≤ sizeLine; decide), fun p2 np2 => ?_⟩⟩
        refine ⟨b, p2, _, c, ns0, rfl, B4.fresh np2, B4.ne np2, SqL.of upd_same, (by show 0 < 4; decide), (by show 4 < 1000; decide), fun v H5 hv B5 t5 => ?_⟩
        obtain ⟨d, rfl, d0⟩ : ∃ d : Int, v = .int d ∧ 0 ≤ d := by
          simp only [List.append_nil, List.mem_cons, List.not_mem_nil, or_false] at hv
          rcases hv with rfl | rfl | rfl | rfl <;> exact ⟨_, rfl, by omega⟩
        have e5 := t5 _ _ fb (same_upd (o := .lst [.int 0, .int 0, .int 1, .int r]) np2 _ _ (t4 _ _ fb eF1))
        refine ⟨_, _, rfl, rfl, f, _, _, rfl, rfl, e5, small1000 (by rw [List.length_map]; omega), ?_⟩
        refine ⟨([] : List Int) ++ [-1 + 1 + d], _, _, _, rfl, by rw [upd_same]; exact grown _ _, by rw [List.length_append, hl]; rfl, pair_snoc hp (fun x hx => ?_), B5.upd off fb, fun a o n h => ?_⟩
        · cases hx
        · rw [upd_ne (ne_of_none h nfH)]
          exact t5 _ _ n (same_upd np2 _ _ (t4 _ _ n (u3 _ _ n h)))
      · rw [show (!PyData.eqv (.list ((pre ++ [l]).map PyData.int)) (.list [])) = true from by cases pre <;> simp [PyData.eqv, PyData.eqvAll]]
        refine iteT ?_
        refine ⟨_, rfl, _, rfl, _, _, rfl, .inl ⟨_, SqL.of eF1, rfl⟩, _, _, rfl, rfl, f, _, _, .int l, rfl, rfl, SqL.of eF1, ?_, ?_⟩
        · have ei : (((List.map V.int (pre ++ [l])).length : Nat) : Int) - 1 = ((pre.length : Nat) : Int) := by
            rw [List.length_map, List.length_append, List.length_singleton]
            omega
          rw [ei]
          exact atI_nat (by rw [List.map_append, List.getElem?_append_right (by rw [List.length_map]; exact Nat.le_refl _), List.length_map, Nat.sub_self]; rfl)
        refine ⟨_, rfl, .inl ⟨rfl, _, SqL.of eF1⟩, _, rfl, _, _, rfl, rfl, _, rfl, _, rfl, b, 5, c, ns0, rfl, B3, by decide, by decide, fun r H2 r0 r1 B4 t4 => ⟨(by show 4 ≤ sizeLine; decide), fun p2 np2 => ?_⟩⟩
        refine ⟨b, p2, _, c, ns0, rfl, B4.fresh np2, B4.ne np2, SqL.of upd_same, (by show 0 < 4; decide), (by show 4 < 1000; decide), fun v H5 hv B5 t5 => ?_⟩
        obtain ⟨d, rfl, d0⟩ : ∃ d : Int, v = .int d ∧ 0 ≤ d := by
          simp only [List.append_nil, List.mem_cons, List.not_mem_nil, or_false] at hv
          rcases hv with rfl | rfl | rfl | rfl <;> exact ⟨_, rfl, by omega⟩
        have e5 := t5 _ _ fb (same_upd (o := .lst [.int 0, .int 0, .int 1, .int r]) np2 _ _ (t4 _ _ fb eF1))
        refine ⟨_, _, rfl, rfl, f, _, _, rfl, rfl, e5, small1000 (by rw [List.length_map]; omega), ?_⟩
        refine ⟨(pre ++ [l]) ++ [l + 1 + d], _, _, _, rfl, by rw [upd_same]; exact grown _ _, by rw [List.length_append, hl]; rfl, pair_snoc hp (fun x hx => ?_), B5.upd off fb, fun a o n h => ?_⟩
        · rcases List.mem_append.mp hx with hx | hx
          · have := (List.pairwise_append.mp hp).2.2 x hx l (by simp)
            omega
          · have : x = l := by simpa using hx
            omega
        · rw [upd_ne (ne_of_none h nfH)]
          exact t5 _ _ n (same_upd np2 _ _ (t4 _ _ n (u3 _ _ n h)))
    · rintro σ G ⟨ns, v3, v4, v5, rfl, eF, hl, hp, BG, uG⟩
      refine ⟨_, rfl, _, rfl, (by show 6 ≤ sizeLine; decide), fun p1 n1 => ⟨(by show 2 ≤ sizeLine; decide), fun p2 n2 => ⟨_, rfl, (by show 3 ≤ sizeLine; decide), fun p3 n3 => ?_⟩⟩⟩
      have M1 : Menu K b (upd G p1 (.lst ([-1, 0, 1, 2, 3, 4].map V.int))) p1 := menu_new (BG.ne n1) (by decide) (by decide) (by decide)
      have B1' : BagC K (upd G p1 (.lst ([-1, 0, 1, 2, 3, 4].map V.int))) b c ns0 := BG.fresh n1
      have M2 : Menu K b (upd (upd G p1 (.lst ([-1, 0, 1, 2, 3, 4].map V.int))) p2 (.lst ([0, 1].map V.int))) p2 := menu_new (B1'.ne n2) (by decide) (by decide) (by decide)
      have B2' : BagC K (upd (upd G p1 (.lst ([-1, 0, 1, 2, 3, 4].map V.int))) p2 (.lst ([0, 1].map V.int))) b c ns0 := B1'.fresh n2
      have M3 : Menu K b (upd (upd (upd G p1 (.lst ([-1, 0, 1, 2, 3, 4].map V.int))) p2 (.lst ([0, 1].map V.int))) p3 (.lst ([1, 0, -1].map V.int))) p3 := menu_new (B2'.ne n3) (by decide) (by decide) (by decide)
      have B3' : BagC K (upd (upd (upd G p1 (.lst ([-1, 0, 1, 2, 3, 4].map V.int))) p2 (.lst ([0, 1].map V.int))) p3 (.lst ([1, 0, -1].map V.int))) b c ns0 := B2'.fresh n3
      have M2 := M2.same (same_upd (o := .lst ([1, 0, -1].map V.int)) n3)
      have M1 := (M1.same (same_upd (o := .lst ([0, 1].map V.int)) n2)).same (same_upd (o := .lst ([1, 0, -1].map V.int)) n3)
      have u3 := uG.trans (But.of (((same_upd (o := .lst ([-1, 0, 1, 2, 3, 4].map V.int)) n1).trans (same_upd (o := .lst ([0, 1].map V.int)) n2)).trans (same_upd (o := .lst ([1, 0, -1].map V.int)) n3)))
      have eF3 := ((same_upd (o := .lst ([-1, 0, 1, 2, 3, 4].map V.int)) n1).trans (same_upd (o := .lst ([0, 1].map V.int)) n2)).trans (same_upd (o := .lst ([1, 0, -1].map V.int)) n3) _ _ eF
      refine ⟨_, rfl, b, 6, c, ns0, rfl, B3', by decide, by decide, fun r H4 r0 r1 B4 t4 => ⟨_, _, rfl, rfl, (by show 1 ≤ sizeLine; decide), fun p4 n4 => ?_⟩⟩
      have M4 : Menu K b (upd H4 p4 (.lst ([r - 2].map V.int))) p4 := menu_new (B4.ne n4) (by simp) (by simp) (fun l hl => by
        have : l = r - 2 := by simpa using hl
        omega)
      have s4 := same_upd (o := .lst ([r - 2].map V.int)) n4
      have B4' : BagC K (upd H4 p4 (.lst ([r - 2].map V.int))) b c ns0 := B4.fresh n4
      have w4 := t4.trans (But.of s4)
      have M1 := M1.but w4
      have M2 := M2.but w4
      have M3 := M3.but w4
      have u4 := u3.trans w4
      have eF4 := w4 _ _ fb eF3
      refine ⟨_, rfl, many, rfl, by omega, by omega, fun D nD => lc_it (walk_range (lo := 0) (n := many)) (fun i G' => Same (upd H4 p4 (.lst ([r - 2].map V.int))) G' ∧ ∃ zs : List Int, zs.length = i ∧ (∀ z ∈ zs, z.natAbs ≤ 1000000000000) ∧ G' D = some (.lst (zs.map V.int))) ⟨same_upd nD, [], rfl, (fun z hz => by cases hz), upd_same⟩ (fun _ _ _ _ => trivial) ?_ ?_⟩
      · rintro i x G' G'' hi ⟨sG, zs, hzl, hzb, hD⟩ ⟨rfl, rfl⟩
        refine ⟨rfl, ?_⟩
        unfold tYes
        refine iteT ⟨_, rfl, _, _, rfl, rfl, _, hD, small1000 (by rw [List.length_map]; omega), fun p' o' h' => ?_, zs ++ [2 - (0 + (i : Int))], by rw [List.length_append, hzl]; rfl, fun x hx => ?_, by rw [upd_same]; exact grown _ _⟩
        · rw [upd_ne (ne_of_none h' nD)]
          exact sG _ _ h'
        · rcases List.mem_append.mp hx with hx | hx
          · exact hzb x hx
          · have : x = 2 - (0 + (i : Int)) := by simpa using hx
            omega
      · rintro G5 ⟨sG, zs, hzl, hzb, hD⟩
        have B5 := B4'.same sG
        have M5 : Menu K b G5 D := ⟨zs, SqL.of hD, by omega, by omega, hzb, B4'.ne nD⟩
        have M1 := M1.same sG
        have M2 := M2.same sG
        have M3 := M3.same sG
        have M4 := M4.same sG
        have u5 := u4.trans (But.of sG)
        have eF5 := sG _ _ eF4
        refine ⟨_, _, rfl, rfl, ⟨by decide, by decide +kernel⟩, _, rfl, _, rfl, _, _, rfl, rfl, ⟨by decide, by decide +kernel⟩, b, _, c, ns0, rfl, B5, by decide +kernel, by decide +kernel, fun r6 H6 r60 r61 B6 t6 => ⟨(by show 6 ≤ sizeLine; decide), fun p6 n6 => ⟨(by show 6 ≤ sizeLine; decide), fun p7 n7 => ?_⟩⟩⟩
        have M6 : Menu K b (upd H6 p6 (.lst ([(10 : Int) ^ (9 : Int).toNat, -2, 10, 9, 100, r6].map V.int))) p6 := menu_new (B6.ne n6) (by simp) (by simp) (fun l hl => by
          have h12 : (10 : Int) ^ (12 : Int).toNat = 1000000000000 := by decide +kernel
          have h9 : (10 : Int) ^ (9 : Int).toNat = 1000000000 := by decide +kernel
          rw [h12] at r61
          simp only [List.mem_cons, List.not_mem_nil, or_false] at hl
          rcases hl with rfl | rfl | rfl | rfl | rfl | rfl
          · rw [h9]
            decide
          all_goals omega)
        have s6 := same_upd (o := .lst ([(10 : Int) ^ (9 : Int).toNat, -2, 10, 9, 100, r6].map V.int)) n6
        have B6' : BagC K (upd H6 p6 (.lst ([(10 : Int) ^ (9 : Int).toNat, -2, 10, 9, 100, r6].map V.int))) b c ns0 := B6.fresh n6
        have s7 := same_upd (o := .lst [.ref p1, .ref p2, .ref p3, .ref p4, .ref D, .ref p6]) n7
        have w7 := (t6.trans (But.of s6)).trans (But.of s7)
        refine ⟨b, p7, _, c, ns0, rfl, B6'.fresh n7, B6'.ne n7, SqL.of upd_same, (by show 0 < 6; decide), (by show 6 < 1000; decide), fun v H8 hv B8 t8 => ?_⟩
        have w8 := w7.trans t8
        have u8 := u5.trans w8
        have eF8 := w8 _ _ fb eF5
        obtain ⟨p, rfl, ls, hs, h0, h1, hm, pb⟩ : ∃ p, v = .ref p ∧ Menu K b H8 p := by
          simp only [List.append_nil, List.mem_cons, List.not_mem_nil, or_false] at hv
          rcases hv with rfl | rfl | rfl | rfl | rfl | rfl
          · exact ⟨p1, rfl, M1.but w8⟩
          · exact ⟨p2, rfl, M2.but w8⟩
          · exact ⟨p3, rfl, M3.but w8⟩
          · exact ⟨p4, rfl, M4.but w8⟩
          · exact ⟨D, rfl, M5.but w8⟩
          · exact ⟨p6, rfl, (M6.same s7).but t8⟩
        refine ⟨_, rfl, _, _, rfl, .inl ⟨_, hs, rfl⟩, _, rfl, rfl, _, rfl, ite2 (fun cc => ?_) (fun cc => ?_)⟩
        · have el : ls.length = many := by
            have := V.int.inj (of_decide_eq_true cc)
            rw [List.length_map] at this
            omega
          refine ⟨_, rfl, b, 2, c, ns0, rfl, B8, by decide, by decide, fun r9 H9 _ _ B9 t9 => ⟨rfl, _, rfl, ite2 (fun _ => ?_) (fun _ => ?_)⟩⟩
          · refine ⟨_, rfl, _, rfl, (by show 2 ≤ sizeLine; decide), fun t nt => ?_⟩
            have st := same_upd (o := .tup [.ref f, .ref p]) nt
            exact q t f p ns ls _ (B9.same st) ((u8.trans t9).trans (But.of st)) (SqT.of upd_same) (SqL.of (st _ _ (t9 _ _ fb eF8))) (st.seq (t9.seq pb hs)) hp (by omega) (by omega) (by omega) hm fb pb
          · skip
            have eF9 := t9 _ _ fb eF8
            have hs9 := t9.seq pb hs
            refine ⟨_, rfl, _, rfl, f, rfl, ⟨_, SqL.of eF9⟩, fun D nD => ?_⟩
            have Db := B9.ne nD
            refine lc_list (K := K) (a := f) (xs := ns.map V.int) (fun i G' => ∃ zs : List Int, zs.length = i ∧ (∀ z ∈ zs, z.natAbs ≤ 1000000000000) ∧ G' D = some (.lst (zs.map V.int)) ∧ BagC K G' b c ns0 ∧ But b H9 G') ⟨[], rfl, (fun z hz => by cases hz), upd_same, B9.fresh nD, But.of (same_upd nD)⟩ (fun i G' _ ⟨_, _, _, _, _, u⟩ => SqL.of (u _ _ fb eF9)) ?_ ?_
            · rintro i y G' hi ⟨zs, hzl, hzb, hD, BG', uG'⟩
              have hil : i < ns.length := by
                have := (List.getElem?_eq_some_iff.mp hi).1
                rwa [List.length_map] at this
              refine ⟨rfl, ?_⟩
              unfold tYes
              refine iteT ⟨_, rfl, _, rfl, b, p, _, c, ns0, rfl, BG', pb, uG'.seq pb hs9, by rw [List.length_map]; exact h0, by rw [List.length_map]; omega, fun v G2 hv B2' t2' => ?_⟩
              obtain ⟨z, hz, rfl⟩ := List.mem_map.mp hv
              refine ⟨_, t2' _ _ Db hD, small1000 (by rw [List.length_map]; omega), zs ++ [z], by rw [List.length_append, hzl]; rfl, fun x hx => ?_, by rw [upd_same]; exact grown _ _, B2'.upd (B9.off nD) Db, fun a o n h => ?_⟩
              · rcases List.mem_append.mp hx with hx | hx
                · exact hzb x hx
                · have : x = z := by simpa using hx
                  rw [this]
                  exact hm z hz
              · rw [upd_ne (ne_of_none h nD)]
                exact t2' _ _ n (uG' _ _ n h)
            · rintro G' ⟨zs, hzl, hzb, hD, BG', uG'⟩
              rw [List.length_map] at hzl
              refine ⟨(by show 2 ≤ sizeLine; decide), fun t nt => ?_⟩
              have st := same_upd (o := .tup [.ref f, .ref D]) nt
              exact q t f D ns zs _ (BG'.same st) ((((u8.trans t9).trans uG')).trans (But.of st)) (SqT.of upd_same) (SqL.of (st _ _ (uG' _ _ fb eF9))) (SqL.of (st _ _ hD)) hp hzl.symm (by omega) (by omega) hzb fb Db
        · refine iteF ?_
          have eF9 := (But.refl (b := b) (H := H8)) _ _ fb eF8
          have hs9 := (But.refl (b := b) (H := H8)).seq pb hs
          refine ⟨_, rfl, _, rfl, f, rfl, ⟨_, SqL.of eF9⟩, fun D nD => ?_⟩
          have Db := B8.ne nD
          refine lc_list (K := K) (a := f) (xs := ns.map V.int) (fun i G' => ∃ zs : List Int, zs.length = i ∧ (∀ z ∈ zs, z.natAbs ≤ 1000000000000) ∧ G' D = some (.lst (zs.map V.int)) ∧ BagC K G' b c ns0 ∧ But b H8 G') ⟨[], rfl, (fun z hz => by cases hz), upd_same, B8.fresh nD, But.of (same_upd nD)⟩ (fun i G' _ ⟨_, _, _, _, _, u⟩ => SqL.of (u _ _ fb eF9)) ?_ ?_
          · rintro i y G' hi ⟨zs, hzl, hzb, hD, BG', uG'⟩
            have hil : i < ns.length := by
              have := (List.getElem?_eq_some_iff.mp hi).1
              rwa [List.length_map] at this
            refine ⟨rfl, ?_⟩
            unfold tYes
            refine iteT ⟨_, rfl, _, rfl, b, p, _, c, ns0, rfl, BG', pb, uG'.seq pb hs9, by rw [List.length_map]; exact h0, by rw [List.length_map]; omega, fun v G2 hv B2' t2' => ?_⟩
            obtain ⟨z, hz, rfl⟩ := List.mem_map.mp hv
            refine ⟨_, t2' _ _ Db hD, small1000 (by rw [List.length_map]; omega), zs ++ [z], by rw [List.length_append, hzl]; rfl, fun x hx => ?_, by rw [upd_same]; exact grown _ _, B2'.upd (B8.off nD) Db, fun a o n h => ?_⟩
            · rcases List.mem_append.mp hx with hx | hx
              · exact hzb x hx
              · have : x = z := by simpa using hx
                rw [this]
                exact hm z hz
            · rw [upd_ne (ne_of_none h nD)]
              exact t2' _ _ n (uG' _ _ n h)
          · rintro G' ⟨zs, hzl, hzb, hD, BG', uG'⟩
            rw [List.length_map] at hzl
            refine ⟨(by show 2 ≤ sizeLine; decide), fun t nt => ?_⟩
            have st := same_upd (o := .tup [.ref f, .ref D]) nt
            exact q t f D ns zs _ (BG'.same st) ((((u8.trans (But.refl (b := b) (H := H8))).trans uG')).trans (But.of st)) (SqT.of upd_same) (SqL.of (st _ _ (uG' _ _ fb eF9))) (SqL.of (st _ _ hD)) hp hzl.symm (by omega) (by omega) hzb fb Db
end
end My

set_option Elab.async false
set_option linter.all false
set_option maxRecDepth 100000
namespace My
open PySem PySem.Spec PyProof.Rows L2
abbrev sLaw : Stmt := topS 9
theorem scLaw : FnScope ["script", "bag", "turn", "numbers", "labels", "kept", "due", "told", "n", "label", "sub", "second", "both", "one", "other", "step", "late", "part", "a", "b"] ["script"] (defScope sLaw) := ⟨rfl, rfl, rfl, by decide +kernel, rfl, by decide +kernel, by decide +kernel⟩
def spLaw (K : PySem.W.Frag) : Sp := fun vs H Q _ => ∃ (a : Addr) (ns : List Int), vs = [.ref a] ∧ SqL K H a (ns.map V.int) ∧ ns.length ≤ 63 ∧ ∀ H', Q (.bl true) H'
def rLen (K : PySem.W.Frag) : List V → Hp → VK → Prop := fun xs H Q => ∃ x n, xs = [x] ∧ LenV K x H n ∧ Q (.int n) H
theorem paired_get {α β : Type} {F : α → β → Prop} {xs : List α} {ys : List β} (p : Paired F xs ys) : ∀ (i : Nat) x y, xs[i]? = some x → ys[i]? = some y → F x y := by
  induction p with
  | nil => intro i x y h _; simp at h
  | cons h t ih =>
    intro i x y h1 h2
    cases i with
    | zero =>
      cases h1
      cases h2
      exact h
    | succ i => exact ih i x y h1 h2
theorem paired_at {α β : Type} {F : α → β → Prop} {xs : List α} {ys : List β} (p : Paired F xs ys) {i : Nat} {x : α} (h : xs[i]? = some x) : ∃ y, ys[i]? = some y ∧ F x y := by
  have hi := (List.getElem?_eq_some_iff.mp h).1
  have hl := p.length
  have hj : i < ys.length := by omega
  exact ⟨ys[i], List.getElem?_eq_getElem hj, paired_get p i x _ h (List.getElem?_eq_getElem hj)⟩
theorem like_ints {K : PySem.W.Frag} {H : Hp} {a b : Addr} {n : Nat} {ns : List Int} (hx : SqL K H a (ns.map V.int)) (hy : SqL K H b (ns.map V.int)) (few : ns.length < 1000) : Lk K H (n + 1) (.ref a) (.ref b) := by
  refine .inr ⟨a, b, _, _, rfl, rfl, .inl ⟨hx, hy⟩, rfl, by rw [List.length_map]; exact few, fun i x y e1 e2 => ?_⟩
  rw [e1] at e2
  cases e2
  rw [List.getElem?_map] at e1
  cases e : ns[i]? with
  | none => rw [e] at e1; cases e1
  | some z => rw [e] at e1; cases e1; exact .flat rfl trivial
theorem like_pair {K : PySem.W.Frag} {H : Hp} {x y : V} {r : Int × List Int} (hx : PairV K H x r) (hy : PairV K H y r) (few : r.2.length < 1000) : Lk K H 2 x y := by
  obtain ⟨u, t, rfl, h1, h2⟩ := hx
  obtain ⟨u', t', rfl, h1', h2'⟩ := hy
  refine .inr ⟨u, u', _, _, rfl, rfl, .inr ⟨h1, h1'⟩, rfl, (by show 2 < 1000; decide), fun i x y e1 e2 => ?_⟩
  match i, e1, e2 with
  | 0, e1, e2 =>
    cases e1
    cases e2
    exact .flat rfl trivial
  | 1, e1, e2 =>
    cases e1
    cases e2
    refine .inr ⟨t, t', _, _, rfl, rfl, .inr ⟨h2, h2'⟩, rfl, by rw [List.length_map]; exact few, fun i x y e1 e2 => ?_⟩
    rw [e1] at e2
    cases e2
    rw [List.getElem?_map] at e1
    cases e : r.2[i]? with
    | none => rw [e] at e1; cases e1
    | some z => rw [e] at e1; cases e1; exact .flat rfl trivial
  | i + 2, e1, e2 => simp at e1
theorem like_parts {K : PySem.W.Frag} {H : Hp} {a b : Addr} {xs ys : List V} {rs : List (Int × List Int)} (hx : SqL K H a xs) (hy : SqL K H b ys) (px : Paired (PairV K H) xs rs) (py : Paired (PairV K H) ys rs) (few : rs.length < 1000) (each : ∀ r ∈ rs, r.2.length < 1000) : Lk K H 3 (.ref a) (.ref b) := by
  have l1 := px.length
  have l2 := py.length
  refine .inr ⟨a, b, xs, ys, rfl, rfl, .inl ⟨hx, hy⟩, by omega, by omega, fun i x y e1 e2 => ?_⟩
  obtain ⟨r, er, h1⟩ := paired_at px e1
  exact like_pair h1 (paired_get py i y r e2 er) (each r (List.mem_of_getElem? er))
theorem sorted_same {ns ns' : List Int} (h : ns.Pairwise (· < ·)) (hp : ns'.Perm ns) (hs : ns'.Pairwise (· ≤ ·)) : ns' = ns := by
  have nd : ns.Nodup := h.imp fun {x y} q => Int.ne_of_lt q
  have nd' : ns'.Nodup := hp.symm.nodup nd
  refine srt_unique ?_ h fun k => hp.mem_iff
  exact (List.Pairwise.and hs nd').imp fun {x y} q => by
    have := q.1
    have := q.2
    omega
theorem inV_ints {n : Int} {l : List Int} (h : n ∈ l) : inV (.int n) (l.map V.int) = true := by
  unfold inV
  rw [List.any_eq_true]
  exact ⟨.int n, List.mem_map.mpr ⟨n, h, rfl⟩, by simp [eqV]⟩
theorem flat_ints (l : List Int) : (l.map V.int).all flatV = true := by
  rw [List.all_eq_true]
  intro v hv
  obtain ⟨z, _, rfl⟩ := List.mem_map.mp hv
  rfl
theorem grownB (ns : List Bool) (z : Bool) : some (HO.lst (ns.map V.bl ++ [V.bl z])) = some (HO.lst ((ns ++ [z]).map V.bl)) := by
  rw [List.map_append]
  rfl
theorem take_snoc {α : Type} {l : List α} {i : Nat} {x : α} (h : l[i]? = some x) : l.take (i + 1) = l.take i ++ [x] := by
  rw [List.take_add_one, h]
  rfl
theorem int_at {ns : List Int} {i : Nat} {y : V} (h : (ns.map V.int)[i]? = some y) : ∃ n, ns[i]? = some n ∧ y = .int n := by
  rw [List.getElem?_map] at h
  cases e : ns[i]? with
  | none => rw [e] at h; cases h
  | some z => rw [e] at h; exact ⟨z, rfl, (Option.some.inj h).symm⟩
theorem sum_cast {α : Type} (f : α → Nat) : ∀ l : List α, (l.map fun r => ((f r : Nat) : Int)).sum = (((l.map f).sum : Nat) : Int)
  | [] => rfl
  | a :: l => by
    rw [List.map_cons, List.sum_cons, sum_cast f l, List.map_cons, List.sum_cons]
    omega
theorem sqT_but {K : PySem.W.Frag} {H G : Hp} {b p : Addr} {xs ys : List V} (hb : H b = some (.lst ys)) (u : But b H G) (h : SqT K H p xs) : SqT K G p xs := by
  rcases h with (h | ⟨q, h⟩) | h
  · exact .inl (.inl (u _ _ (ne_of h hb (by intro z; cases z)) h))
  · exact .inl (.inr ⟨q, u _ _ (ne_of h hb (by intro z; cases z)) h⟩)
  · exact .inr h
theorem PairV.but {K : PySem.W.Frag} {H G : Hp} {b : Addr} {ys : List V} {v : V} {r : Int × List Int} (hb : H b = some (.lst ys)) (u : But b H G) (h : PairV K H v r) : PairV K G v r := let ⟨x, t, e, h1, h2⟩ := h; ⟨x, t, e, sqT_but hb u h1, sqT_but hb u h2⟩
theorem paired_app {α β : Type} {F : α → β → Prop} {xs ys : List α} {us vs : List β} (h : Paired F xs us) (k : Paired F ys vs) : Paired F (xs ++ ys) (us ++ vs) := by
  induction h with
  | nil => exact k
  | cons a _ ih => exact .cons a ih
theorem pw_at {l : List Int} (h : l.Pairwise (· < ·)) {i j : Nat} {x y : Int} (hi : l[i]? = some x) (hj : l[j]? = some y) (lt : i < j) : x < y := by
  obtain ⟨h1, rfl⟩ := List.getElem?_eq_some_iff.mp hi
  obtain ⟨h2, rfl⟩ := List.getElem?_eq_some_iff.mp hj
  exact List.pairwise_iff_getElem.mp h i j h1 h2 lt
theorem step_snoc {ts : List T3} {ms : List Int} {L : Int} : step ts (ms ++ [L]) = step ts ms ++ stepAt ts L := by
  unfold step
  rw [List.flatMap_append]
  simp
theorem late_len {ts : List T3} {L : Int} : (late ts L).length ≤ ts.length := by
  unfold late subT
  rw [List.length_map]
  exact List.length_filter_le _ _
theorem step_le {ts : List T3} : ∀ ms : List Int, (step ts ms).length ≤ ts.length * ms.length
  | [] => by simp [step]
  | L :: ms => by
    have e : step ts (L :: ms) = stepAt ts L ++ step ts ms := List.flatMap_cons
    have h1 : (stepAt ts L).length ≤ ts.length := by
      unfold stepAt
      rw [List.length_map]
      exact Nat.le_trans split_len late_len
    have h2 := step_le (ts := ts) ms
    rw [e, List.length_append, List.length_cons, Nat.mul_succ]
    omega
def comb (t : T3) : Int := 16 * t.2.1 + t.2.2
theorem ts_at {ts : List T3} {f : T3 → Int} {i : Nat} {x : V} (h : ((ts.map f).map V.int)[i]? = some x) : ∃ t, ts[i]? = some t ∧ x = .int (f t) := by
  rw [List.getElem?_map, List.getElem?_map] at h
  cases e : ts[i]? with
  | none => rw [e] at h; cases h
  | some t => rw [e] at h; exact ⟨t, rfl, (Option.some.inj h).symm⟩
theorem ts_get {ts : List T3} {f : T3 → Int} {i : Nat} {t : T3} (h : ts[i]? = some t) : ((ts.map f).map V.int)[i]? = some (.int (f t)) := by
  rw [List.getElem?_map, List.getElem?_map, h]
  rfl
theorem same_new {H G : Hp} {p : Addr} {o : HO} (s : Same H G) (n : H p = none) : Same H (upd G p o) := fun q u h => by
  rw [upd_ne (ne_of_none h n)]
  exact s _ _ h
section
variable {P : Program} {w : World} {K : PySem.W.Frag} {mg : Str → Option Value} {base : Heap}
set_option maxHeartbeats 2000000 in
theorem ok_law {f fBa fD fLi fCa fSp fSb : Addr} {fd fdBa fdD fdLi fdCa fdSp fdSb : FuncData} (F : Fun K "law" "law" sLaw f fd)
    (Ba : Cal P w K mg base "_law_bag" 1 ["script"] (spBag K) fBa fdBa) (D : Cal P w K mg base "_law_pull" 1 ["bag", "many"] (spDrawC K) fD fdD) (Li : Cal P w K mg base "_law_like" 4 ["found", "due"] (spLike K 3) fLi fdLi)
    (Ca : Cal P w K mg base "_law_case" 3 ["bag"] (spCase K) fCa fdCa) (Sp : Cal P w K mg base "_law_split" 1 ["numbers", "labels"] (spSplit K) fSp fdSp)
    (Sm : Cal P w K mg base "split_block" 1 ["markings", "labels"] (spSb K (SqL K)) fSb fdSb) (St : Cal P w K mg base "split_block" 1 ["markings", "labels"] (spSb K (SqT K)) fSb fdSb)
    (b_range : mg "range" = none) (b_list : mg "list" = none) (b_tuple : mg "tuple" = none) (b_sorted : mg "sorted" = none) (b_any : mg "any" = none) (b_all : mg "all" = none) (b_sum : mg "sum" = none) (b_len : mg "len" = none) (b_zip : mg "zip" = none) :
    FnOk P w K mg base CX0 5 f fd ["script"] (spLaw K) := by
  refine F.ok scLaw (fun vs H Q E h => ?_) (fun cdv A outer s H vs Q E hr h => ?_)
  · obtain ⟨a, ns, rfl, _⟩ := h
    rfl
  · obtain ⟨a, ns, rfl, hS, hl, q⟩ := h
    refine ⟨_, (pss_cons (ps_set (i := 1) scLaw.nd rfl (.inr rfl) (pe_call Ba.ok (hr.mono (by omega)) rfl Ba.g Ba.kp Ba.b .nil pass0 (pa_cons (pv 0) pa_nil)))
      (pss_cons (ps_for PassesOwn.never rfl (pi_range1 rfl b_range (pa_cons (pe_op op_add pe_int (pe_call D.ok (hr.mono (by omega)) rfl D.g D.kp D.b .nil pass0 (pa_cons (pv 1) (pa_cons pe_int pa_nil)))) pa_nil)) (pg_name (i := 2) scLaw.nd rfl (.inl rfl))
        (pss_cons (ps_asg (pe_call Ca.ok (hr.mono (by omega)) rfl Ca.g Ca.kp Ca.b .nil pass0 (pa_cons (pv 1) pa_nil)) (pg_tup rfl (pgs_cons (pg_name (i := 3) scLaw.nd rfl (.inr rfl)) (pgs_cons (pg_name (i := 4) scLaw.nd rfl (.inl rfl)) pgs_nil))))
        (pss_cons (ps_asg (pe_tup (pa_cons (pe_callTy call_list_of rfl b_list (by decide +kernel) (pa_cons (pv 4) pa_nil)) (pa_cons (pe_call Sp.ok (hr.mono (by omega)) rfl Sp.g Sp.kp Sp.b .nil pass0 (pa_cons (pv 3) (pa_cons (pv 4) pa_nil))) pa_nil))) (pg_tup rfl (pgs_cons (pg_name (i := 5) scLaw.nd rfl (.inr rfl)) (pgs_cons (pg_name (i := 6) scLaw.nd rfl (.inl rfl)) pgs_nil))))
        (pss_cons (ps_set (i := 7) scLaw.nd rfl (.inr rfl) (pe_call Sm.ok (hr.mono (by omega)) rfl Sm.g Sm.kp Sm.b .nil pass0 (pa_cons (pe_callTy call_tuple_of rfl b_tuple (by decide +kernel) (pa_cons (pv 3) pa_nil)) (pa_cons (pv 4) pa_nil))))
        (pss_cons (ps_if (PW.pt (pw_or (pt_not (pt_val (pe_call Li.ok (hr.mono (by omega)) rfl Li.g Li.kp Li.b .nil pass0 (pa_cons (pv 7) (pa_cons (pv 6) pa_nil))))) (pw_or1 (pt_not (pt_val (pe_call Li.ok (hr.mono (by omega)) rfl Li.g Li.kp Li.b .nil pass0 (pa_cons (pv 4) (pa_cons (pv 5) pa_nil)))))))) (pss_one (ps_ret pe_bl)) pss_nil)
        (pss_cons (ps_if (pt_cmpR (op_neD hr.units) (pe_callB cr_sortedI rfl b_sorted (by decide +kernel) (pa_cons (pe_lc (own := [("n", 8)]) (g := gName 8) (tt := (tB (tCB (rAny K) (tCons (tLc (iList K (tVar 7)) (gTup K 2 (gCons (gName 9) (gCons (gName 10) gNil))) tYes (tOp (rIn K false) (tVar 8) (tVar 10)) [9, 10]) tNil)))) (te := (tVar 8)) rfl scLaw.nd (pi_list (pv 3)) (blkOk_by (own := [("n", 8)]) (N := ["script", "bag", "turn", "numbers", "labels", "kept", "due", "told", "n", "label", "sub", "second", "both", "one", "other", "step", "late", "part", "a", "b"]) (sc := defScope sLaw) (by decide +kernel)) (fun _ _ _ _ _ => (pg_name (i := 8) scLaw.nd rfl (.inr rfl) (.inl rfl))) (fun _ _ _ _ _ => (pts_one (pt_val (pe_callB (cr_any rfl) rfl b_any (by decide +kernel) (pa_cons (pe_lc (own := [("label", 9), ("sub", 10)]) (g := (gTup K 2 (gCons (gName 9) (gCons (gName 10) gNil)))) (tt := tYes) (te := (tOp (rIn K false) (tVar 8) (tVar 10))) rfl scLaw.nd (pi_list (pv 7)) (blkOk_by (own := [("label", 9), ("sub", 10)]) (N := ["script", "bag", "turn", "numbers", "labels", "kept", "due", "told", "n", "label", "sub", "second", "both", "one", "other", "step", "late", "part", "a", "b"]) rfl) (fun _ _ _ _ _ => (pg_tup rfl (pgs_cons (pg_name (i := 9) scLaw.nd rfl (.inl rfl) (.inr rfl)) (pgs_cons (pg_name (i := 10) scLaw.nd rfl (.inl rfl) (.inr rfl)) pgs_nil)))) (fun _ _ _ _ _ => pts_nil) (fun _ _ _ _ _ => (pe_cmpR op_in_seq (pv 8) (pv 10) (by rfl)))) pa_nil))))) (fun _ _ _ _ _ => (pv 8))) pa_nil)) (pv 3) (nomark _)) (pss_one (ps_ret pe_bl)) pss_nil)
        (pss_cons (ps_if (PW.pt (pw_or (pt_cmpR op_ne (pe_callB (cr_sum rfl) rfl b_sum (by decide +kernel) (pa_cons (pe_lc (own := [("label", 9), ("sub", 10)]) (g := (gTup K 2 (gCons (gName 9) (gCons (gName 10) gNil)))) (tt := tYes) (te := (tCB (rLen K) (tCons (tVar 10) tNil))) rfl scLaw.nd (pi_list (pv 7)) (blkOk_by (own := [("label", 9), ("sub", 10)]) (N := ["script", "bag", "turn", "numbers", "labels", "kept", "due", "told", "n", "label", "sub", "second", "both", "one", "other", "step", "late", "part", "a", "b"]) (sc := defScope sLaw) (by decide +kernel)) (fun _ _ _ _ _ => (pg_tup rfl (pgs_cons (pg_name (i := 9) scLaw.nd rfl (.inl rfl) (.inr rfl)) (pgs_cons (pg_name (i := 10) scLaw.nd rfl (.inl rfl) (.inr rfl)) pgs_nil)))) (fun _ _ _ _ _ => pts_nil) (fun _ _ _ _ _ => (pe_callB call_len rfl b_len (by decide +kernel) (pa_cons (pv 10) pa_nil)))) pa_nil)) (pe_callB call_len rfl b_len (by decide +kernel) (pa_cons (pv 3) pa_nil)) (nomark _)) (pw_or1 (pt_not (pt_val (pe_callB (cr_all rfl) rfl b_all (by decide +kernel) (pa_cons (pe_lc (own := [("label", 9), ("sub", 10)]) (g := (gTup K 2 (gCons (gName 9) (gCons (gName 10) gNil)))) (tt := tYes) (te := (tOp (rI0 fun i j => .bl (decide (j < i))) (tCB (rLen K) (tCons (tVar 10) tNil)) (tC (.int 0)))) rfl scLaw.nd (pi_list (pv 7)) (blkOk_by (own := [("label", 9), ("sub", 10)]) (N := ["script", "bag", "turn", "numbers", "labels", "kept", "due", "told", "n", "label", "sub", "second", "both", "one", "other", "step", "late", "part", "a", "b"]) (sc := defScope sLaw) (by decide +kernel)) (fun _ _ _ _ _ => (pg_tup rfl (pgs_cons (pg_name (i := 9) scLaw.nd rfl (.inl rfl) (.inr rfl)) (pgs_cons (pg_name (i := 10) scLaw.nd rfl (.inl rfl) (.inr rfl)) pgs_nil)))) (fun _ _ _ _ _ => pts_nil) (fun _ _ _ _ _ => (pe_cmpR op_gt (pe_callB call_len rfl b_len (by decide +kernel) (pa_cons (pv 10) pa_nil)) pe_int (nomark _)))) pa_nil))))))) (pss_one (ps_ret pe_bl)) pss_nil)
        (pss_cons (ps_expr (pe_bm PySem.F.plainAttrs_list PySem.F.slot_list_append PySem.F.type_list_append mt_append (pv 7) (pa_cons (pe_tup (pa_cons pe_int (pa_cons (pe_tup (pa_cons pe_int pa_nil)) pa_nil))) pa_nil)))
        (pss_cons (ps_expr (pe_bm0 PySem.F.plainAttrs_list PySem.F.slot_list_reverse PySem.F.type_list_reverse mt_reverse (pv 7)))
        (pss_cons (ps_if (pt_not (pt_val (pe_call Li.ok (hr.mono (by omega)) rfl Li.g Li.kp Li.b .nil pass0 (pa_cons (pe_call St.ok (hr.mono (by omega)) rfl St.g St.kp St.b .nil pass0 (pa_cons (pe_callTy call_tuple_of rfl b_tuple (by decide +kernel) (pa_cons (pv 3) pa_nil)) (pa_cons (pe_callTy call_tuple_of rfl b_tuple (by decide +kernel) (pa_cons (pv 5) pa_nil)) pa_nil))) (pa_cons (pv 6) pa_nil))))) (pss_one (ps_ret pe_bl)) pss_nil)
        (pss_cons (ps_set (i := 11) scLaw.nd rfl (.inr rfl) (pe_lc (own := [("n", 8)]) (g := gName 8) (tt := tYes) rfl scLaw.nd (pi_list (pv 3)) (blkOk_by (own := [("n", 8)]) (N := ["script", "bag", "turn", "numbers", "labels", "kept", "due", "told", "n", "label", "sub", "second", "both", "one", "other", "step", "late", "part", "a", "b"]) (sc := defScope sLaw) (by decide +kernel)) (fun _ _ _ _ _ => (pg_name (i := 8) scLaw.nd rfl (.inl rfl) (.inr rfl))) (fun _ _ _ _ _ => pts_nil) (fun _ _ _ _ _ => (pe_call D.ok (hr.mono (by omega)) rfl D.g D.kp D.b .nil pass0 (pa_cons (pv 1) (pa_cons pe_int pa_nil))))))
        (pss_cons (ps_set (i := 12) scLaw.nd rfl (.inl rfl) (pe_call Sm.ok (hr.mono (by omega)) rfl Sm.g Sm.kp Sm.b .nil pass0 (pa_cons (pe_callTy call_tuple_of rfl b_tuple (by decide +kernel) (pa_cons (pv 3) pa_nil)) (pa_cons (pe_lc (own := [("one", 13), ("other", 14)]) (g := (gTup K 2 (gCons (gName 13) (gCons (gName 14) gNil)))) (tt := tYes) rfl scLaw.nd (RZ.pi_zipA rfl b_zip (pa_cons (pv 5) (pa_cons (pv 11) pa_nil))) (blkOk_by (own := [("one", 13), ("other", 14)]) (N := ["script", "bag", "turn", "numbers", "labels", "kept", "due", "told", "n", "label", "sub", "second", "both", "one", "other", "step", "late", "part", "a", "b"]) (sc := defScope sLaw) (by decide +kernel)) (fun _ _ _ _ _ => (pg_tup rfl (pgs_cons (pg_name (i := 13) scLaw.nd rfl (.inl rfl) (.inr rfl)) (pgs_cons (pg_name (i := 14) scLaw.nd rfl (.inl rfl) (.inr rfl)) pgs_nil)))) (fun _ _ _ _ _ => pts_nil) (fun _ _ _ _ _ => (pe_op op_add (pe_op op_mulG pe_int (pv 13)) (pv 14)))) pa_nil))))
        (pss_cons (ps_set (i := 15) scLaw.nd rfl (.inl rfl) (pe_lst pa_nil))
        (pss_cons (ps_for PassesOwn.never rfl (pi_list (pv 6)) (pg_tup rfl (pgs_cons (pg_name (i := 9) scLaw.nd rfl (.inr rfl)) (pgs_cons (pg_name (i := 10) scLaw.nd rfl (.inl rfl)) pgs_nil)))
          (pss_cons (ps_setLc (i := 16) (own := [("n", 8)]) (g := gName 8) (tt := tYes) (te := (tOp (rIxL K) (tVar 11) (tBM K "list" (rIndex K) (tVar 3) (tCons (tVar 8) tNil)))) rfl scLaw.nd rfl rfl (sw_true rfl rfl rfl (by decide +kernel)) (pi_tup (pv 10)) (blkOk_by (own := [("n", 8)]) (N := ["script", "bag", "turn", "numbers", "labels", "kept", "due", "told", "n", "label", "sub", "second", "both", "one", "other", "step", "late", "part", "a", "b"]) (sc := defScope sLaw) (by decide +kernel)) (fun _ _ _ _ _ => (pg_name (i := 8) scLaw.nd rfl (.inl rfl) (.inr rfl))) (fun _ _ _ _ _ => pts_nil) (fun _ _ _ _ _ => (pe_ix ix_list (pv 11) (pe_bm PySem.F.plainAttrs_list PySem.F.slot_list_index PySem.F.type_list_index mt_index (pv 3) (pa_cons (pv 8) pa_nil)) (fun _ _ => rfl))))
          (pss_one (ps_expr (pe_bm PySem.F.plainAttrs_list PySem.F.slot_list_extend PySem.F.type_list_extend mt_extend (pv 15) (pa_cons (pe_lc (own := [("part", 17)]) (g := gName 17) (tt := tYes) (te := (tTup (tCons (tOp (rI0 fun i j => .int (i + j)) (tOp (rI IntMulOk fun i j => .int (i * j)) (tC (.int 16)) (tVar 9)) (tOp (rIxT K) (tVar 17) (tC (.int 0)))) (tCons (tOp (rIxT K) (tVar 17) (tC (.int 1))) tNil)))) rfl scLaw.nd (pi_list (pe_call Sm.ok (hr.mono (by omega)) rfl Sm.g Sm.kp Sm.b .nil pass0 (pa_cons (pv 10) (pa_cons (pv 16) pa_nil)))) (blkOk_by (own := [("part", 17)]) (N := ["script", "bag", "turn", "numbers", "labels", "kept", "due", "told", "n", "label", "sub", "second", "both", "one", "other", "step", "late", "part", "a", "b"]) (sc := defScope sLaw) (by decide +kernel)) (fun _ _ _ _ _ => (pg_name (i := 17) scLaw.nd rfl (.inl rfl) (.inr rfl))) (fun _ _ _ _ _ => pts_nil) (fun _ _ _ _ _ => (pe_tup (pa_cons (pe_op op_add (pe_op op_mulG pe_int (pv 9)) (pe_ix ix_tup (pv 17) pe_int (fun _ _ => rfl))) (pa_cons (pe_ix ix_tup (pv 17) pe_int (fun _ _ => rfl)) pa_nil))))) pa_nil))))))
        (pss_cons (ps_if (PW.pt (pw_or (pt_not (pt_val (pe_call Li.ok (hr.mono (by omega)) rfl Li.g Li.kp Li.b .nil pass0 (pa_cons (pv 12) (pa_cons (pv 15) pa_nil))))) (pw_or1 (pt_not (pt_val (pe_call Li.ok (hr.mono (by omega)) rfl Li.g Li.kp Li.b .nil pass0 (pa_cons (pv 12) (pa_cons (pe_call Sp.ok (hr.mono (by omega)) rfl Sp.g Sp.kp Sp.b .nil pass0 (pa_cons (pv 3) (pa_cons (pe_lc (own := [("a", 18), ("b", 19)]) (g := (gTup K 2 (gCons (gName 18) (gCons (gName 19) gNil)))) (tt := tYes) rfl scLaw.nd (RZ.pi_zipA rfl b_zip (pa_cons (pv 5) (pa_cons (pv 11) pa_nil))) (blkOk_by (own := [("a", 18), ("b", 19)]) (N := ["script", "bag", "turn", "numbers", "labels", "kept", "due", "told", "n", "label", "sub", "second", "both", "one", "other", "step", "late", "part", "a", "b"]) (sc := defScope sLaw) (by decide +kernel)) (fun _ _ _ _ _ => (pg_tup rfl (pgs_cons (pg_name (i := 18) scLaw.nd rfl (.inl rfl) (.inr rfl)) (pgs_cons (pg_name (i := 19) scLaw.nd rfl (.inl rfl) (.inr rfl)) pgs_nil)))) (fun _ _ _ _ _ => pts_nil) (fun _ _ _ _ _ => (pe_op op_add (pe_op op_mulG pe_int (pv 18)) (pv 19)))) pa_nil))) pa_nil)))))))) (pss_one (ps_ret pe_bl)) pss_nil)
        (pss_one (ps_if (pt_not (pt_val (pe_call Li.ok (hr.mono (by omega)) rfl Li.g Li.kp Li.b .nil pass0 (pa_cons (pe_call Sm.ok (hr.mono (by omega)) rfl Sm.g Sm.kp Sm.b .nil pass0 (pa_cons (pe_callTy call_tuple_of rfl b_tuple (by decide +kernel) (pa_cons (pv 3) pa_nil)) (pa_cons (pe_lc (own := [("n", 8)]) (g := gName 8) (tt := tYes) (te := (tOp (rIxL K) (tVar 5) (tC (.int 0)))) rfl scLaw.nd (pi_list (pv 3)) (blkOk_by (own := [("n", 8)]) (N := ["script", "bag", "turn", "numbers", "labels", "kept", "due", "told", "n", "label", "sub", "second", "both", "one", "other", "step", "late", "part", "a", "b"]) (sc := defScope sLaw) (by decide +kernel)) (fun _ _ _ _ _ => (pg_name (i := 8) scLaw.nd rfl (.inl rfl) (.inr rfl))) (fun _ _ _ _ _ => pts_nil) (fun _ _ _ _ _ => (pe_ix ix_list (pv 5) pe_int (fun _ _ => rfl)))) pa_nil))) (pa_cons (pe_lst (pa_cons (pe_tup (pa_cons (pe_ix ix_list (pv 5) pe_int (fun _ _ => rfl)) (pa_cons (pe_callTy call_tuple_of rfl b_tuple (by decide +kernel) (pa_cons (pv 3) pa_nil)) pa_nil))) pa_nil)) pa_nil))))) (pss_one (ps_ret pe_bl)) pss_nil)))))))))))))))))
      (pss_one (ps_ret pe_bl)))), ?_⟩
    refine ⟨_, rfl, a, ns, rfl, hS, fun b H1 s1 B1 _ => ?_⟩
    obtain ⟨c, ns0, B1⟩ := id B1
    have B1 : BagC K H1 b c ns0 := B1
    refine ⟨_, rfl, b, 5, c, ns0, rfl, B1, by decide, by decide, fun r H2 r0 r1 B2 t2 => ⟨_, _, rfl, rfl, 1 + r, rfl, by omega, by omega, for_range (n := (1 + r).toNat) (fun i σ G => (∃ v2 v3 v4 v5 v6 v7 v8 v9 v10 v11 v12 v13 v14 v15 v16 v17 v18 v19, σ = [some (.ref a), some (.ref b), v2, v3, v4, v5, v6, v7, v8, v9, v10, v11, v12, v13, v14, v15, v16, v17, v18, v19]) ∧ BagC K G b c ns0) ⟨⟨_, _, _, _, _, _, _, _, _, _, _, _, _, _, _, _, _, _, rfl⟩, B2⟩ ?_ ?_⟩⟩
    · rintro i σ G hi ⟨⟨v2, v3, v4, v5, v6, v7, v8, v9, v10, v11, v12, v13, v14, v15, v16, v17, v18, v19, rfl⟩, BG⟩
      refine ⟨_, rfl, b, c, ns0, rfl, BG, fun t f m nums labs H3 B3 u3 hT hf hm asc hlen h0 h65 hlb fb mb => ?_⟩
      refine ⟨t, _, rfl, hT, rfl, _, _, rfl, _, _, rfl, rfl, ?_⟩
      -- kept, due
      refine ⟨_, rfl, m, _, rfl, .inl hm, fun kp nkp => ?_⟩
      have sk := same_upd (o := .lst (labs.map V.int)) nkp
      refine ⟨_, rfl, _, rfl, f, m, nums, labs, rfl, sk.seq hf, sk.seq hm, hlen, by omega, fun xsd dp H4 s4 ndp hd hPd => ⟨(by show 2 ≤ sizeLine; decide), fun tt ntt => ?_⟩⟩
      refine ⟨tt, _, rfl, SqT.of upd_same, rfl, _, _, rfl, _, _, rfl, rfl, ?_⟩
      have S4 := (sk.trans s4).trans (same_upd (o := .tup [.ref kp, .ref dp]) ntt)
      have hk4 := (s4.trans (same_upd (o := .tup [.ref kp, .ref dp]) ntt)) kp (.lst (labs.map V.int)) upd_same
      have hd4 := same_upd (o := .tup [.ref kp, .ref dp]) ntt _ _ hd
      have hPd4 := paired_mono (fun v r h => PairV.same (same_upd (o := .tup [.ref kp, .ref dp]) ntt) h) hPd
      -- told
      refine ⟨_, rfl, f, _, rfl, .inl ⟨S4.seq hf, fun tn ntn => ?_⟩⟩
      have sn := same_upd (o := .tup (nums.map V.int)) ntn
      refine ⟨_, rfl, tn, m, nums, labs, rfl, SqT.of upd_same, (S4.trans sn).seq hm, hlen, by omega, fun ms xst tp H5 s5 as5 ntp htp hPt => ?_⟩
      obtain rfl := canon_eq as5
      have hPt : Paired (PairV K H5) xst (splitM nums labs) := hPt
      have few := split_len (ns := nums) (ls := labs)
      have each : ∀ r ∈ splitM nums labs, r.2.length < 1000 := fun r hr => by
        have := part_len hr
        omega
      have S5 := sn.trans s5
      have B5 := B3.same (S4.trans S5)
      refine ⟨_, rfl, _, rfl, _, _, rfl, like_parts (rs := splitM nums labs) (SqL.of htp) (SqL.of (S5 _ _ hd4)) hPt (paired_mono (fun v r h => PairV.same S5 h) hPd4) (by omega) each, fun H6 s6 => ⟨_, rfl, iteF ?_⟩⟩
      refine ⟨_, rfl, _, rfl, _, _, rfl, like_ints (((S4.trans S5).trans s6).seq hm) (SqL.of (s6 _ _ (S5 _ _ hk4))) (by omega), fun H7 s7 => ⟨_, rfl, iteF ?_⟩⟩
      have S57 := s6.trans s7
      have S7 := S5.trans S57
      have hf7 := (S4.trans S7).seq hf
      have hm7 := (S4.trans S7).seq hm
      have htp7 := S57 _ _ htp
      have hPt7 := paired_mono (fun v r h => PairV.same S57 h) hPt
      have lrs := hPt7.length
      -- all the numbers are in the parts
      refine ⟨_, rfl, f, rfl, ⟨_, hf7⟩, fun D nD => lc_list (K := K) (a := f) (xs := nums.map V.int) (fun i G' => Same H7 G' ∧ G' D = some (.lst ((nums.take i).map V.int))) ⟨same_upd nD, upd_same⟩ (fun i G' _ h => h.1.seq hf7) ?_ ?_⟩
      · rintro i y G' hi ⟨sG, hD⟩
        obtain ⟨n, en, rfl⟩ := int_at hi
        have hin := (List.getElem?_eq_some_iff.mp en).1
        refine ⟨rfl, ?_⟩
        refine ⟨_, rfl, tp, rfl, ⟨_, SqL.of (sG _ _ htp7)⟩, fun D2 nD2 => lc_list (K := K) (a := tp) (xs := xst) (fun j G2 => Same G' G2 ∧ G2 D2 = some (.lst ((((splitM nums labs).take j).map fun r => inV (.int n) (r.2.map V.int)).map V.bl))) ⟨same_upd nD2, upd_same⟩ (fun i G2 _ h => SqL.of ((sG.trans h.1) _ _ htp7)) ?_ ?_⟩
        · rintro j x G2 hj ⟨s2, hD2⟩
          obtain ⟨r, er, hpr⟩ := paired_at hPt7 hj
          obtain ⟨u, t, rfl, hu, ht⟩ := hpr.same (sG.trans s2)
          refine ⟨u, _, rfl, hu, rfl, _, _, rfl, _, _, rfl, rfl, rfl, ?_⟩
          unfold tYes
          refine iteT ⟨_, rfl, _, rfl, t, _, rfl, .inr ht, rfl, flat_ints _, _, hD2, ?_, ?_, ?_⟩
          · rw [List.length_map, List.length_map, List.length_take]
            exact small1000 (by omega)
          · exact same_new s2 nD2
          · rw [upd_same, take_snoc er, List.map_append]
            exact grownB _ _
        · rintro G2 ⟨s2, hD2⟩
          rw [lrs, List.take_length] at hD2
          refine ⟨D2, _, rfl, SqL.of hD2, _, rfl, ?_⟩
          obtain ⟨r, hr, hn⟩ := split_all hlen (List.mem_of_getElem? en)
          have ea : (((splitM nums labs).map fun r => inV (.int n) (r.2.map V.int)).any id) = true := by
            rw [List.any_eq_true]
            exact ⟨true, List.mem_map.mpr ⟨r, hr, inV_ints hn⟩, rfl⟩
          rw [ea]
          refine iteT ⟨_, rfl, _, s2 _ _ hD, ?_, ?_, ?_⟩
          · rw [List.length_map, List.length_take]
            exact small1000 (by omega)
          · exact same_new (sG.trans s2) nD
          · rw [upd_same, take_snoc en]
            exact grown _ _
      rintro G7 ⟨s8, hD⟩
      rw [List.length_map, List.take_length] at hD
      refine ⟨D, nums, rfl, SqL.of hD, fun ns' p' hperm hsort np' => ?_⟩
      obtain rfl := sorted_same asc hperm hsort
      refine ⟨_, rfl, _, _, .lst (SqL.of upd_same) (dp_ints ns'), .lst ((s8.trans (same_upd np')).seq hf7) (dp_ints ns'), shaped_ints _, shaped_ints _, _, rfl, ?_⟩
      rw [show (!PyData.eqv (.list (ns'.map PyData.int)) (.list (ns'.map PyData.int))) = false from by simp [PyData.eqv, eqv_ints]]
      refine iteF ?_
      have S8 := s8.trans (same_upd (o := .lst (ns'.map V.int)) np')
      generalize upd G7 p' (.lst (ns'.map V.int)) = H8 at S8 ⊢
      have hf8 := S8.seq hf7
      have htp8 := S8 _ _ htp7
      have hPt8 := paired_mono (fun v r h => PairV.same S8 h) hPt7
      -- the lengths
      refine ⟨_, rfl, tp, rfl, ⟨_, SqL.of htp8⟩, fun D nD => lc_list (K := K) (a := tp) (xs := xst) (fun j G2 => Same H8 G2 ∧ G2 D = some (.lst ((((splitM ns' labs).take j).map fun r => ((r.2.length : Nat) : Int)).map V.int))) ⟨same_upd nD, upd_same⟩ (fun i G2 _ h => SqL.of (h.1 _ _ htp8)) ?_ ?_⟩
      · rintro j x G2 hj ⟨s2, hD⟩
        obtain ⟨r, er, hpr⟩ := paired_at hPt8 hj
        obtain ⟨u, t, rfl, hu, ht⟩ := hpr.same s2
        refine ⟨u, _, rfl, hu, rfl, _, _, rfl, _, _, rfl, rfl, rfl, ?_⟩
        unfold tYes
        refine iteT ⟨_, rfl, _, _, rfl, .inr ⟨_, ht, rfl⟩, _, hD, ?_, ?_, ?_⟩
        · rw [List.length_map, List.length_map, List.length_take]
          exact small1000 (by omega)
        · exact same_new s2 nD
        · rw [upd_same, take_snoc er, List.map_append, List.length_map]
          exact grown _ _
      rintro G8 ⟨s9, hD⟩
      rw [lrs, List.take_length] at hD
      refine ⟨D, _, rfl, SqL.of hD, _, rfl, _, _, rfl, .inl ⟨_, s9.seq hf8, rfl⟩, rfl, _, rfl, ?_⟩
      rw [sum_cast, split_sum hlen, List.length_map, show (!decide (V.int ((ns'.length : Nat) : Int) = V.int ((ns'.length : Nat) : Int))) = false from by simp]
      refine iteF ?_
      have htp9 := s9 _ _ htp8
      refine ⟨_, rfl, tp, rfl, ⟨_, SqL.of htp9⟩, fun D' nD' => lc_list (K := K) (a := tp) (xs := xst) (fun j G2 => Same G8 G2 ∧ G2 D' = some (.lst ((List.replicate j true).map V.bl))) ⟨same_upd nD', upd_same⟩ (fun i G2 _ h => SqL.of (h.1 _ _ htp9)) ?_ ?_⟩
      · rintro j x G2 hj ⟨s2, hD'⟩
        obtain ⟨r, er, hpr⟩ := paired_at hPt8 hj
        obtain ⟨u, t, rfl, hu, ht⟩ := hpr.same (s9.trans s2)
        have hjl := (List.getElem?_eq_some_iff.mp er).1
        have hpos := split_pos hlen (List.mem_of_getElem? er)
        refine ⟨u, _, rfl, hu, rfl, _, _, rfl, _, _, rfl, rfl, rfl, ?_⟩
        unfold tYes
        refine iteT ⟨_, rfl, _, _, rfl, .inr ⟨_, ht, rfl⟩, _, _, rfl, rfl, _, hD', ?_, ?_, ?_⟩
        · rw [List.length_map, List.length_replicate]
          exact small1000 (by omega)
        · exact same_new s2 nD'
        · rw [upd_same, List.length_map, List.replicate_succ']
          show some (HO.lst (_ ++ [V.bl (decide ((0 : Int) < ((r.2.length : Nat) : Int)))])) = _
          rw [decide_eq_true (show (0 : Int) < ((r.2.length : Nat) : Int) by omega)]
          exact grownB _ _
      rintro G9 ⟨s10, hD'⟩
      refine ⟨D', _, rfl, SqL.of hD', _, rfl, ?_⟩
      rw [all_true]
      refine iteF ?_
      -- told is spoiled
      have htp10 := s10 _ _ htp9
      refine ⟨_, rfl, .inl ⟨rfl, _, SqL.of htp10⟩, (by show 1 ≤ sizeLine; decide), fun q1 nq1 => ⟨(by show 2 ≤ sizeLine; decide), fun q2 nq2 => ?_⟩⟩
      have sq := (same_upd (o := .tup [.int 7]) nq1).trans (same_upd (o := .tup [.int 7, .ref q1]) nq2)
      refine ⟨tp, _, _, rfl, rfl, sq _ _ htp10, small1000 (by omega), ?_⟩
      refine ⟨_, rfl, .inl ⟨rfl, _, SqL.of upd_same⟩, tp, _, rfl, rfl, upd_same, ?_⟩
      have Sx := same_new (o := .lst (xst ++ [V.ref q2]).reverse) (same_new (o := .lst (xst ++ [V.ref q2])) ((((((s5.trans S57).trans S8).trans s9).trans s10)).trans sq) ntp) ntp
      generalize upd (upd (upd (upd G9 q1 (.tup [.int 7])) q2 (.tup [.int 7, .ref q1])) tp (.lst (xst ++ [V.ref q2]))) tp (.lst (xst ++ [V.ref q2]).reverse) = HX at Sx ⊢
      have S4n := S4.trans sn
      have hfX := (S4n.trans Sx).seq hf
      have hkX := Sx _ _ (sn _ _ hk4)
      have hdX := Sx _ _ (sn _ _ hd4)
      have hPdX := paired_mono (fun v r h => PairV.same (sn.trans Sx) h) hPd4
      have BX := B3.same (S4n.trans Sx)
      -- the second time
      refine ⟨_, rfl, f, _, rfl, .inl ⟨hfX, fun tn2 ntn2 => ?_⟩⟩
      have sa := same_upd (o := .tup (ns'.map V.int)) ntn2
      refine ⟨_, rfl, kp, _, rfl, .inl ⟨SqL.of (sa _ _ hkX), fun tk2 ntk2 => ?_⟩⟩
      have sb := same_upd (o := .tup (labs.map V.int)) ntk2
      refine ⟨tn2, tk2, ns', labs, rfl, seqT_same sb (SqT.of upd_same), SqT.of upd_same, hlen, by omega, fun ms2 xs2 tp2 HY sc as2 ntp2 htp2 hP2 => ?_⟩
      obtain rfl := canon_eq as2
      have hP2 : Paired (PairV K HY) xs2 (splitM ns' labs) := hP2
      have sY := (sa.trans sb).trans sc
      refine ⟨_, rfl, _, _, rfl, like_parts (rs := splitM ns' labs) (SqL.of htp2) (SqL.of (sY _ _ hdX)) hP2 (paired_mono (fun v r h => PairV.same sY h) hPdX) (by omega) each, fun HZ sz => ⟨_, rfl, iteF ?_⟩⟩
      have sXZ := sY.trans sz
      have hfZ := sXZ.seq hfX
      have hkZ := sXZ _ _ hkX
      have hdZ := sXZ _ _ hdX
      have hPdZ := paired_mono (fun v r h => PairV.same sXZ h) hPdX
      have BZ := BX.same sXZ
      -- second
      refine ⟨_, rfl, f, rfl, ⟨_, hfZ⟩, fun D2 nD2 => ?_⟩
      have Db := BZ.ne nD2
      refine lc_list (K := K) (a := f) (xs := ns'.map V.int) (fun i G' => ∃ zs : List Int, zs.length = i ∧ (∀ z ∈ zs, 0 ≤ z ∧ z < 10) ∧ G' D2 = some (.lst (zs.map V.int)) ∧ BagC K G' b c ns0 ∧ But b HZ G') ⟨[], rfl, (fun z hz => by cases hz), upd_same, BZ.fresh nD2, But.of (same_upd nD2)⟩ (fun i G' _ ⟨_, _, _, _, _, u⟩ => u.seq fb hfZ) ?_ ?_
      · rintro i y G' hi ⟨zs, hzl, hzb, hD, BG', uG'⟩
        have hil : i < ns'.length := by
          have := (List.getElem?_eq_some_iff.mp hi).1
          rwa [List.length_map] at this
        refine ⟨rfl, ?_⟩
        unfold tYes
        refine iteT ⟨_, rfl, b, 10, c, ns0, rfl, BG', by decide, by decide, fun z G2 z0 z1 B2' t2' => ?_⟩
        refine ⟨_, t2' _ _ Db hD, small1000 (by rw [List.length_map]; omega), zs ++ [z], by rw [List.length_append, hzl]; rfl, fun x hx => ?_, by rw [upd_same]; exact grown _ _, B2'.upd (BZ.off nD2) Db, fun a o n h => ?_⟩
        · rcases List.mem_append.mp hx with hx | hx
          · exact hzb x hx
          · have : x = z := by simpa using hx
            rw [this]
            exact ⟨z0, z1⟩
        · rw [upd_ne (ne_of_none h nD2)]
          exact t2' _ _ n (uG' _ _ n h)
      rintro HS ⟨qs, hql, hqb, hDS, BS, uS⟩
      rw [List.length_map] at hql
      have hfS := uS.seq fb hfZ
      have kb : kp ≠ b := B3.ne nkp
      have db : dp ≠ b := (B3.fresh nkp).ne ndp
      have hkS := uS _ _ kb hkZ
      have hdS := uS _ _ db hdZ
      obtain ⟨_, _, _, _, BZ'⟩ := id BZ
      have hPdS := paired_mono (fun v r h => PairV.but BZ'.ob uS h) hPdZ
      obtain ⟨ts, rfl, rfl, rfl⟩ := triples (ns := ns') (ls := labs) (qs := qs) hlen (by omega)
      have hq : ∀ t ∈ ts, 0 ≤ t.2.2 ∧ t.2.2 < 10 := fun t ht => hqb _ (List.mem_map.mpr ⟨t, ht, rfl⟩)
      have l65 : ts.length ≤ 65 := by rwa [List.length_map] at h65
      have l0' : 0 < ts.length := by rwa [List.length_map] at h0
      -- both
      refine ⟨_, rfl, f, _, rfl, .inl ⟨hfS, fun tn3 ntn3 => ?_⟩⟩
      have sd := same_upd (o := .tup ((ts.map (·.1)).map V.int)) ntn3
      refine ⟨_, rfl, _, rfl, kp, D2, _, _, rfl, .inl ⟨SqL.of (sd _ _ hkS), SqL.of (sd _ _ hDS), fun D3 nD3 => lc_it (walk_zip (K := K) (a := kp) (b := D2) (xs := (ts.map (·.2.1)).map V.int) (ys := (ts.map (·.2.2)).map V.int) (n := ts.length) (by simp)) (fun j G2 => Same (upd HS tn3 (.tup ((ts.map (·.1)).map V.int))) G2 ∧ G2 D3 = some (.lst (((ts.take j).map comb).map V.int))) ⟨same_upd nD3, upd_same⟩ (fun j G2 _ h => ⟨SqL.of (h.1 _ _ (sd _ _ hkS)), SqL.of (h.1 _ _ (sd _ _ hDS))⟩) ?_ ?_⟩⟩
      · rintro j z G2 G3 hlt ⟨s2, hD⟩ ⟨T, x, y, rfl, nT, rfl, hx, hy⟩
        obtain ⟨tr, et, rfl⟩ := ts_at hx
        obtain ⟨tr', et', rfl⟩ := ts_at hy
        rw [et] at et'
        cases et'
        have nTD : D3 ≠ T := ne_of_none hD nT
        have hD3 : (upd G2 T (.tup [.int tr.2.1, .int tr.2.2])) D3 = some (.lst (((ts.take j).map comb).map V.int)) := by rw [upd_ne nTD]; exact hD
        have s3 := s2.trans (same_upd (o := .tup [.int tr.2.1, .int tr.2.2]) nT)
        refine ⟨T, _, rfl, SqT.of upd_same, rfl, _, _, rfl, _, _, rfl, rfl, rfl, ?_⟩
        unfold tYes
        refine iteT ⟨_, rfl, _, _, rfl, rfl, IntMulOk.of_left (by decide +kernel), _, rfl, _, _, rfl, rfl, _, hD3, ?_, same_new s3 nD3, ?_⟩
        · rw [List.length_map, List.length_map, List.length_take]
          exact small1000 (by omega)
        · rw [upd_same, take_snoc et, List.map_append]
          exact grown _ _
      rintro HC ⟨s12, hD3⟩
      rw [List.take_length] at hD3
      refine ⟨tn3, D3, ts.map (·.1), ts.map comb, rfl, seqT_same s12 (SqT.of upd_same), SqL.of hD3, by rw [List.length_map, List.length_map], by rw [List.length_map]; omega, fun ms4 xsb bp HB s14 as4 nbp hbp hPb => ?_⟩
      obtain rfl := canon_eq as4
      have hPb : Paired (PairV K HB) xsb (splitM (ts.map (·.1)) (ts.map comb)) := hPb
      have sSB := (sd.trans s12).trans s14
      have hfB := sSB.seq hfS
      have hkB := sSB _ _ hkS
      have hdB := sSB _ _ hdS
      have hDB := sSB _ _ hDS
      have hPdB := paired_mono (fun v r h => PairV.same sSB h) hPdS
      have BB := BS.same sSB
      -- step
      refine ⟨Nat.zero_le _, fun sp nsp => ?_⟩
      refine ⟨_, rfl, dp, rfl, ⟨_, SqL.of (same_upd nsp _ _ hdB)⟩, for_list (K := K) (a := dp) (xs := xsd) (fun i σ G => ∃ (xs : List V) (w2 w4 w7 w8 w9 w10 w13 w14 w16 w17 w18 w19 : Option V), σ = [some (.ref a), some (.ref b), w2, some (.ref f), w4, some (.ref kp), some (.ref dp), w7, w8, w9, w10, some (.ref D2), some (.ref bp), w13, w14, some (.ref sp), w16, w17, w18, w19] ∧ Same HB G ∧ G sp = some (.lst xs) ∧ Paired (PairV K G) xs (step ts ((canon (ts.map (·.2.1))).take i))) ⟨[], _, _, _, _, _, _, _, _, _, _, _, _, rfl, same_upd nsp, upd_same, .nil⟩ (fun i σ G _ h => ?_) ?_ ?_⟩
      · obtain ⟨_, _, _, _, _, _, _, _, _, _, _, _, _, _, sG, _⟩ := h
        exact SqL.of (sG _ _ hdB)
      · rintro i y σ G hi ⟨xs, w2, w4, w7, w8, w9, w10, w13, w14, w16, w17, w18, w19, rfl, sG, eS, hP⟩
        obtain ⟨r, er, hpr⟩ := paired_at hPdB hi
        obtain ⟨L, eL, rfl⟩ : ∃ L, (canon (ts.map (·.2.1)))[i]? = some L ∧ r = (L, (subT ts L).map (·.1)) := by
          unfold splitM parts at er
          rw [List.getElem?_map] at er
          cases e : (canon (ts.map (·.2.1)))[i]? with
          | none => rw [e] at er; cases er
          | some L =>
            rw [e] at er
            exact ⟨L, rfl, by rw [← sel_sub]; exact (Option.some.inj er).symm⟩
        have hic := (List.getElem?_eq_some_iff.mp eL).1
        have hcl : (canon (ts.map (·.2.1))).length ≤ 65 := by
          have := asc_len (canon_asc (ts.map (·.2.1)))
          rw [List.length_map] at this
          omega
        obtain ⟨u, t', rfl, hu, ht⟩ := hpr.same sG
        have ht : SqT K G t' (((subT ts L).map (·.1)).map V.int) := ht
        have sl : (subT ts L).length ≤ ts.length := List.length_filter_le _ _
        refine ⟨u, _, rfl, hu, rfl, _, _, rfl, _, _, rfl, rfl, ?_⟩
        refine ⟨_, rfl, t', rfl, ⟨_, ht⟩, fun D6 nD6 => lc_tup (K := K) (a := t') (xs := ((subT ts L).map (·.1)).map V.int) (fun j G2 => Same G G2 ∧ G2 D6 = some (.lst ((((subT ts L).take j).map (·.2.2)).map V.int))) ⟨same_upd nD6, upd_same⟩ (fun j G2 _ h => seqT_same h.1 ht) ?_ ?_⟩
        · rintro j y G2 hj ⟨s2, hD6⟩
          obtain ⟨tr, et, rfl⟩ := ts_at hj
          have hmem : tr ∈ ts := (List.mem_filter.mp (List.mem_of_getElem? et)).1
          obtain ⟨k, ek⟩ := List.mem_iff_getElem?.mp hmem
          have hfG := (sG.trans s2).seq hfB
          have ekn : (ts.map (·.1))[k]? = some tr.1 := by
            rw [List.getElem?_map, ek]
            rfl
          refine ⟨rfl, ?_⟩
          unfold tYes
          refine iteT ⟨_, rfl, _, rfl, .inl ⟨rfl, _, hfG⟩, _, rfl, f, _, .int tr.1, k, .int tr.1, rfl, rfl, hfG, rfl, flat_ints _, ts_get ek, by simp [eqV], fun m z' hm hz => ?_, D2, _, _, .int tr.2.2, rfl, rfl, SqL.of ((sG.trans s2) _ _ hDB), atI_nat (ts_get ek), _, hD6, ?_, same_new s2 nD6, ?_⟩
          · obtain ⟨n', en', rfl⟩ := int_at hz
            have := pw_at asc en' ekn hm
            simp [eqV]
            omega
          · rw [List.length_map, List.length_map, List.length_take]
            exact small1000 (by omega)
          · rw [upd_same, take_snoc et, List.map_append]
            exact grown _ _
        rintro G4 ⟨s2, hD6⟩
        rw [List.length_map, List.length_map, List.take_length] at hD6
        have hD6 : G4 D6 = some (.lst ((late ts L).map V.int)) := hD6
        refine ⟨_, rfl, .inl ⟨rfl, _, SqL.of (s2 _ _ eS)⟩, _, rfl, _, rfl, t', D6, (subT ts L).map (·.1), late ts L, rfl, seqT_same s2 ht, SqL.of hD6, by unfold late; rw [List.length_map, List.length_map], Nat.le_trans late_len (by omega), fun ms5 xs5 p5 H5 s5 as5 np5 hp5 hP5 => ?_⟩
        obtain rfl := canon_eq as5
        have hP5 : Paired (PairV K H5) xs5 (splitM ((subT ts L).map (·.1)) (late ts L)) := hP5
        have l5 : (splitM ((subT ts L).map (·.1)) (late ts L)).length ≤ 65 := Nat.le_trans split_len (Nat.le_trans late_len l65)
        refine ⟨p5, rfl, ⟨_, SqL.of hp5⟩, fun D7 nD7 => lc_list (K := K) (a := p5) (xs := xs5) (fun j G3 => Same H5 G3 ∧ ∃ ys, G3 D7 = some (.lst ys) ∧ Paired (PairV K G3) ys (((splitM ((subT ts L).map (·.1)) (late ts L)).take j).map (both L))) ⟨same_upd nD7, [], upd_same, .nil⟩ (fun j G3 _ h => SqL.of (h.1 _ _ hp5)) ?_ ?_⟩
        · rintro j x G3 hj ⟨s3, ys, hD7, hPy⟩
          obtain ⟨r, er2, hpr2⟩ := paired_at hP5 hj
          obtain ⟨u2, t2, rfl, hu2, ht2⟩ := hpr2.same s3
          refine ⟨rfl, ?_⟩
          unfold tYes
          refine iteT ⟨_, rfl, _, _, rfl, rfl, IntMulOk.of_left (by decide +kernel), _, rfl, u2, _, 0, _, rfl, rfl, hu2, rfl, _, _, rfl, rfl, _, rfl, u2, _, 1, _, rfl, rfl, hu2, rfl, (by show 2 ≤ sizeLine; decide), fun q3 nq3 => ?_⟩
          have s4' := same_upd (o := .tup [.int (16 * L + r.1), .ref t2]) nq3
          have hD7' := s4' _ _ hD7
          have yl := hPy.length
          rw [List.length_map, List.length_take] at yl
          refine ⟨_, hD7', small1000 (by omega), same_new (s3.trans s4') nD7, ys ++ [.ref q3], upd_same, ?_⟩
          rw [take_snoc er2, List.map_append]
          refine paired_snoc (paired_mono (fun v r h => (h.same s4').upd hD7') hPy) ?_
          exact PairV.upd hD7' ⟨q3, t2, rfl, SqT.of upd_same, seqT_same s4' ht2⟩
        rintro G5 ⟨s3, ys, hD7, hPy⟩
        rw [hP5.length, List.take_length] at hPy
        have sG5 := (s2.trans s5).trans s3
        have eS5 := sG5 _ _ eS
        refine ⟨sp, D7, xs, ys, rfl, rfl, eS5, hD7, ?_, ?_⟩
        · have e1 := hP.length
          have e2 := hPy.length
          have e3 := step_le (ts := ts) ((canon (ts.map (·.2.1))).take i)
          rw [List.length_take] at e3
          rw [List.length_map] at e2
          have e4 : ts.length * min i (canon (ts.map (·.2.1))).length ≤ 65 * 65 := Nat.mul_le_mul l65 (by omega)
          show xs.length + ys.length ≤ 2 ^ 24
          omega
        · refine ⟨xs ++ ys, _, _, _, _, _, _, _, _, _, _, _, _, rfl, same_new (sG.trans sG5) nsp, upd_same, ?_⟩
          rw [take_snoc eL, step_snoc]
          exact paired_app (paired_mono (fun v r h => (h.same sG5).upd eS5) hP) (paired_mono (fun v r h => h.upd eS5) hPy)
      · rintro σ G ⟨xs, w2, w4, w7, w8, w9, w10, w13, w14, w16, w17, w18, w19, rfl, sG, eS, hP⟩
        have lx : xsd.length = (canon (ts.map (·.2.1))).length := by
          rw [hPdB.length]
          unfold splitM parts
          rw [List.length_map]
        rw [lx, List.take_length] at hP
        have se := step_eq hq
        have slen := step_len hq
        have sea : ∀ r ∈ splitM (ts.map (·.1)) (ts.map comb), r.2.length < 1000 := fun r hr => by
          have := part_len hr
          rw [List.length_map] at this
          omega
        have sfew : (splitM (ts.map (·.1)) (ts.map comb)).length < 1000 := by
          have := split_len (ns := ts.map (·.1)) (ls := ts.map comb)
          rw [List.length_map] at this
          omega
        have hP : Paired (PairV K G) xs (splitM (ts.map (·.1)) (ts.map comb)) := by
          rw [show splitM (ts.map (·.1)) (ts.map comb) = _ from se]
          exact hP
        refine ⟨_, rfl, _, rfl, _, _, rfl, like_parts (rs := splitM (ts.map (·.1)) (ts.map comb)) (SqL.of (sG _ _ hbp)) (SqL.of eS) (paired_mono (fun v r h => PairV.same sG h) hPb) hP sfew sea, fun HJ sJ => ⟨_, rfl, iteF ?_⟩⟩
        have sBJ := sG.trans sJ
        have hfJ := sBJ.seq hfB
        have hkJ := sBJ _ _ hkB
        have hDJ := sBJ _ _ hDB
        have hbJ := sBJ _ _ hbp
        have hPbJ := paired_mono (fun v r h => PairV.same sBJ h) hPb
        refine ⟨_, rfl, _, rfl, _, rfl, _, rfl, kp, D2, _, _, rfl, .inl ⟨SqL.of (hkJ), SqL.of (hDJ), fun D8 nD8 => lc_it (walk_zip (K := K) (a := kp) (b := D2) (xs := (ts.map (·.2.1)).map V.int) (ys := (ts.map (·.2.2)).map V.int) (n := ts.length) (by simp)) (fun j G2 => Same HJ G2 ∧ G2 D8 = some (.lst (((ts.take j).map comb).map V.int))) ⟨same_upd nD8, upd_same⟩ (fun j G2 _ h => ⟨SqL.of (h.1 _ _ (hkJ)), SqL.of (h.1 _ _ (hDJ))⟩) ?_ ?_⟩⟩
        · rintro j z G2 G3 hlt ⟨s2, hD⟩ ⟨T, x, y, rfl, nT, rfl, hx, hy⟩
          obtain ⟨tr, et, rfl⟩ := ts_at hx
          obtain ⟨tr', et', rfl⟩ := ts_at hy
          rw [et] at et'
          cases et'
          have nTD : D8 ≠ T := ne_of_none hD nT
          have hD3 : (upd G2 T (.tup [.int tr.2.1, .int tr.2.2])) D8 = some (.lst (((ts.take j).map comb).map V.int)) := by rw [upd_ne nTD]; exact hD
          have s3 := s2.trans (same_upd (o := .tup [.int tr.2.1, .int tr.2.2]) nT)
          refine ⟨T, _, rfl, SqT.of upd_same, rfl, _, _, rfl, _, _, rfl, rfl, rfl, ?_⟩
          unfold tYes
          refine iteT ⟨_, rfl, _, _, rfl, rfl, IntMulOk.of_left (by decide +kernel), _, rfl, _, _, rfl, rfl, _, hD3, ?_, same_new s3 nD8, ?_⟩
          · rw [List.length_map, List.length_map, List.length_take]
            exact small1000 (by omega)
          · rw [upd_same, take_snoc et, List.map_append]
            exact grown _ _
        rintro HK ⟨sK, hD8⟩
        rw [List.take_length] at hD8
        refine ⟨f, D8, ts.map (·.1), ts.map comb, rfl, sK.seq hfJ, SqL.of hD8, by rw [List.length_map, List.length_map], by rw [List.length_map]; omega, fun xs6 p6 HL sL np6 hp6 hP6 => ?_⟩
        have sJL := sK.trans sL
        refine ⟨_, _, rfl, like_parts (rs := splitM (ts.map (·.1)) (ts.map comb)) (SqL.of (sJL _ _ hbJ)) (SqL.of hp6) (paired_mono (fun v r h => PairV.same sJL h) hPbJ) hP6 sfew sea, fun HM sM => ⟨_, rfl, iteF ?_⟩⟩
        have sJM := sJL.trans sM
        have hfM := sJM.seq hfJ
        have hkM := sJM _ _ hkJ
        -- one label for all
        have et0 : ts[0]? = some ts[0] := List.getElem?_eq_getElem l0'
        refine ⟨_, rfl, f, _, rfl, .inl ⟨hfM, fun tn5 ntn5 => ?_⟩⟩
        have sN := same_upd (o := .tup ((ts.map (·.1)).map V.int)) ntn5
        refine ⟨_, rfl, f, rfl, ⟨_, sN.seq hfM⟩, fun D9 nD9 => lc_list (K := K) (a := f) (xs := (ts.map (·.1)).map V.int) (fun j G2 => Same (upd HM tn5 (.tup ((ts.map (·.1)).map V.int))) G2 ∧ G2 D9 = some (.lst ((((ts.map (·.1)).take j).map fun _ => ts[0].2.1).map V.int))) ⟨same_upd nD9, upd_same⟩ (fun j G2 _ h => h.1.seq (sN.seq hfM)) ?_ ?_⟩
        · rintro j y G2 hj ⟨s2, hD9⟩
          obtain ⟨n, en, rfl⟩ := int_at hj
          refine ⟨rfl, ?_⟩
          unfold tYes
          refine iteT ⟨_, rfl, kp, _, 0, _, rfl, rfl, SqL.of (s2 _ _ (sN _ _ hkM)), atI_nat (j := 0) (ts_get et0), _, hD9, ?_, same_new s2 nD9, ?_⟩
          · rw [List.length_map, List.length_map, List.length_take, List.length_map]
            exact small1000 (by omega)
          · rw [upd_same, take_snoc en, List.map_append]
            exact grown _ _
        rintro HO' ⟨sO, hD9⟩
        rw [List.length_map, List.take_length] at hD9
        have hD9 : HO' D9 = some (.lst (((ts.map (·.1)).map fun _ => ts[0].2.1).map V.int)) := hD9
        refine ⟨tn5, D9, ts.map (·.1), (ts.map (·.1)).map fun _ => ts[0].2.1, rfl, seqT_same sO (SqT.of upd_same), SqL.of hD9, (List.length_map _).symm, by rw [List.length_map, List.length_map]; omega, fun ms7 xs7 p7 HQ sQ as7 np7 hp7 hP7 => ?_⟩
        obtain rfl := canon_eq as7
        have hP7 : Paired (PairV K HQ) xs7 (splitM (ts.map (·.1)) ((ts.map (·.1)).map fun _ => ts[0].2.1)) := hP7
        rw [split_const h0] at hP7
        have sMQ := (sN.trans sO).trans sQ
        refine ⟨_, rfl, kp, _, 0, _, rfl, rfl, SqL.of (sMQ _ _ hkM), atI_nat (j := 0) (ts_get et0), _, rfl, f, _, rfl, .inl ⟨sMQ.seq hfM, fun t9 nt9 => ⟨(by show 2 ≤ sizeLine; decide), fun u9 nu9 => ⟨(by show 1 ≤ sizeLine; decide), fun l9 nl9 => ?_⟩⟩⟩⟩
        have s9a := same_upd (o := .tup ((ts.map (·.1)).map V.int)) nt9
        have s9b := same_upd (o := .tup [.int ts[0].2.1, .ref t9]) nu9
        have s9c := same_upd (o := .lst [.ref u9]) nl9
        have sR := (s9a.trans s9b).trans s9c
        have hpair : PairV K (upd (upd (upd HQ t9 (.tup ((ts.map (·.1)).map V.int))) u9 (.tup [.int ts[0].2.1, .ref t9])) l9 (.lst [.ref u9])) (.ref u9) (ts[0].2.1, ts.map (·.1)) := ⟨u9, t9, rfl, seqT_same s9c (SqT.of upd_same), seqT_same (s9b.trans s9c) (SqT.of upd_same)⟩
        refine ⟨_, _, rfl, like_parts (rs := [(ts[0].2.1, ts.map (·.1))]) (SqL.of (sR _ _ hp7)) (SqL.of upd_same) (paired_mono (fun v r h => PairV.same sR h) hP7) (.cons hpair .nil) (by show 1 < 1000; decide) (fun r hr => by
          have : r = (ts[0].2.1, ts.map (·.1)) := by simpa using hr
          rw [this]
          show (ts.map (·.1)).length < 1000
          rw [List.length_map]
          omega), fun HZ2 sZ2 => ⟨_, rfl, iteF ?_⟩⟩
        exact ⟨⟨_, _, _, _, _, _, _, _, _, _, _, _, _, _, _, _, _, _, rfl⟩, ((((BB.same sBJ).same sJM).same sMQ).same sR).same sZ2⟩
    · rintro σ G ⟨⟨v2, v3, v4, v5, v6, v7, v8, v9, v10, v11, v12, v13, v14, v15, v16, v17, v18, v19, rfl⟩, BG⟩
      exact q _
end
end My

set_option Elab.async false
set_option linter.all false
set_option maxRecDepth 100000
namespace My
open PySem PySem.Spec PyProof.Rows L2
theorem all_mk {l : PySem.W.OpenLaw} {w : World} {K : PySem.W.Frag} {h : Heap} {mg : Str → Option Value} {fa : Addr} (X : K.In h) (G : h.Ns mainGlobals mg) (hfa : mg "law" = some (.ref fa))
    {f0 : Addr} {od0 an0 : Option Addr} {sl0 : Array (Option Value)} {oc0 kV0 dc0 pm0 cd0 ct0 : Value}
    {f1 : Addr} {od1 an1 : Option Addr} {sl1 : Array (Option Value)} {oc1 kV1 dc1 pm1 cd1 ct1 : Value}
    {f2 : Addr} {od2 an2 : Option Addr} {sl2 : Array (Option Value)} {oc2 kV2 dc2 pm2 cd2 ct2 : Value}
    {f3 : Addr} {od3 an3 : Option Addr} {sl3 : Array (Option Value)} {oc3 kV3 dc3 pm3 cd3 ct3 : Value}
    {f4 : Addr} {od4 an4 : Option Addr} {sl4 : Array (Option Value)} {oc4 kV4 dc4 pm4 cd4 ct4 : Value}
    {f5 : Addr} {od5 an5 : Option Addr} {sl5 : Array (Option Value)} {oc5 kV5 dc5 pm5 cd5 ct5 : Value}
    {f6 : Addr} {od6 an6 : Option Addr} {sl6 : Array (Option Value)} {oc6 kV6 dc6 pm6 cd6 ct6 : Value}
    {f7 : Addr} {od7 an7 : Option Addr} {sl7 : Array (Option Value)} {oc7 kV7 dc7 pm7 cd7 ct7 : Value}
    (a0 : PySem.W.nsIn K mainGlobals "split_block" = some (some (.ref f0)))
    (l0 : K.lookup f0 = some ⟨oc0, od0, .func (PySem.W.fnOf "split_block" "split_block" (defArgs sSplitBlock) (defBody sSplitBlock) (defScope sSplitBlock) .none kV0 dc0 pm0 an0 cd0 ct0), sl0⟩) (c0 : PySem.W.codeIn K cd0 "split_block" = true) (k0 : PySem.W.keepIn K (.ref f0) = true)
    (a1 : PySem.W.nsIn K mainGlobals "_law_bag" = some (some (.ref f1)))
    (l1 : K.lookup f1 = some ⟨oc1, od1, .func (PySem.W.fnOf "_law_bag" "_law_bag" (defArgs sLawBag) (defBody sLawBag) (defScope sLawBag) .none kV1 dc1 pm1 an1 cd1 ct1), sl1⟩) (c1 : PySem.W.codeIn K cd1 "_law_bag" = true) (k1 : PySem.W.keepIn K (.ref f1) = true)
    (a2 : PySem.W.nsIn K mainGlobals "_law_pull" = some (some (.ref f2)))
    (l2 : K.lookup f2 = some ⟨oc2, od2, .func (PySem.W.fnOf "_law_pull" "_law_pull" (defArgs sLawPull) (defBody sLawPull) (defScope sLawPull) .none kV2 dc2 pm2 an2 cd2 ct2), sl2⟩) (c2 : PySem.W.codeIn K cd2 "_law_pull" = true) (k2 : PySem.W.keepIn K (.ref f2) = true)
    (a3 : PySem.W.nsIn K mainGlobals "_law_of" = some (some (.ref f3)))
    (l3 : K.lookup f3 = some ⟨oc3, od3, .func (PySem.W.fnOf "_law_of" "_law_of" (defArgs sLawOf) (defBody sLawOf) (defScope sLawOf) .none kV3 dc3 pm3 an3 cd3 ct3), sl3⟩) (c3 : PySem.W.codeIn K cd3 "_law_of" = true) (k3 : PySem.W.keepIn K (.ref f3) = true)
    (a4 : PySem.W.nsIn K mainGlobals "_law_like" = some (some (.ref f4)))
    (l4 : K.lookup f4 = some ⟨oc4, od4, .func (PySem.W.fnOf "_law_like" "_law_like" (defArgs sLawLike) (defBody sLawLike) (defScope sLawLike) .none kV4 dc4 pm4 an4 cd4 ct4), sl4⟩) (c4 : PySem.W.codeIn K cd4 "_law_like" = true) (k4 : PySem.W.keepIn K (.ref f4) = true)
    (a5 : PySem.W.nsIn K mainGlobals "_law_case" = some (some (.ref f5)))
    (l5 : K.lookup f5 = some ⟨oc5, od5, .func (PySem.W.fnOf "_law_case" "_law_case" (defArgs sLawCase) (defBody sLawCase) (defScope sLawCase) .none kV5 dc5 pm5 an5 cd5 ct5), sl5⟩) (c5 : PySem.W.codeIn K cd5 "_law_case" = true) (k5 : PySem.W.keepIn K (.ref f5) = true)
    (a6 : PySem.W.nsIn K mainGlobals "_law_split" = some (some (.ref f6)))
    (l6 : K.lookup f6 = some ⟨oc6, od6, .func (PySem.W.fnOf "_law_split" "_law_split" (defArgs sLawSplit) (defBody sLawSplit) (defScope sLawSplit) .none kV6 dc6 pm6 an6 cd6 ct6), sl6⟩) (c6 : PySem.W.codeIn K cd6 "_law_split" = true) (k6 : PySem.W.keepIn K (.ref f6) = true)
    (a7 : PySem.W.nsIn K mainGlobals "law" = some (some (.ref f7)))
    (l7 : K.lookup f7 = some ⟨oc7, od7, .func (PySem.W.fnOf "law" "law" (defArgs sLaw) (defBody sLaw) (defScope sLaw) .none kV7 dc7 pm7 an7 cd7 ct7), sl7⟩) (c7 : PySem.W.codeIn K cd7 "law" = true) (k7 : PySem.W.keepIn K (.ref f7) = true)
    (b_int : PySem.W.nsIn K mainGlobals "int" = some none)
    (b_list : PySem.W.nsIn K mainGlobals "list" = some none)
    (b_len : PySem.W.nsIn K mainGlobals "len" = some none)
    (b_sum : PySem.W.nsIn K mainGlobals "sum" = some none)
    (b_abs : PySem.W.nsIn K mainGlobals "abs" = some none)
    (b_isinstance : PySem.W.nsIn K mainGlobals "isinstance" = some none)
    (b_tuple : PySem.W.nsIn K mainGlobals "tuple" = some none)
    (b_bool : PySem.W.nsIn K mainGlobals "bool" = some none)
    (b_str : PySem.W.nsIn K mainGlobals "str" = some none)
    (b_all : PySem.W.nsIn K mainGlobals "all" = some none)
    (b_any : PySem.W.nsIn K mainGlobals "any" = some none)
    (b_zip : PySem.W.nsIn K mainGlobals "zip" = some none)
    (b_range : PySem.W.nsIn K mainGlobals "range" = some none)
    (b_sorted : PySem.W.nsIn K mainGlobals "sorted" = some none)
    (b_set : PySem.W.nsIn K mainGlobals "set" = some none) :
    ∃ fd : FuncData, (∀ (s : Shared) (v : Value), BindsTo s fd ⟨[v], []⟩ [("script", v)]) ∧ ∀ base : Heap, K.In base → base.Ns mainGlobals mg → FnOk l.prog w K mg base CX0 5 fa fd ["script"] (spLaw K) := by
  have e := hfa.symm.trans (PySem.W.mg_of X G a7)
  cases e
  have F0 := fun_mk (st := sSplitBlock) l0 c0 k0
  have B0 := F0.binds (ps := ["markings", "labels"]) fun _ _ _ _ _ _ us hl => match us, hl with | [_, _], _ => rfl
  have F1 := fun_mk (st := sLawBag) l1 c1 k1
  have B1 := F1.binds (ps := ["script"]) fun _ _ _ _ _ _ us hl => match us, hl with | [_], _ => rfl
  have F2 := fun_mk (st := sLawPull) l2 c2 k2
  have B2 := F2.binds (ps := ["bag", "many"]) fun _ _ _ _ _ _ us hl => match us, hl with | [_, _], _ => rfl
  have F3 := fun_mk (st := sLawOf) l3 c3 k3
  have B3 := F3.binds (ps := ["bag", "some"]) fun _ _ _ _ _ _ us hl => match us, hl with | [_, _], _ => rfl
  have F4 := fun_mk (st := sLawLike) l4 c4 k4
  have B4 := F4.binds (ps := ["found", "due"]) fun _ _ _ _ _ _ us hl => match us, hl with | [_, _], _ => rfl
  have F5 := fun_mk (st := sLawCase) l5 c5 k5
  have B5 := F5.binds (ps := ["bag"]) fun _ _ _ _ _ _ us hl => match us, hl with | [_], _ => rfl
  have F6 := fun_mk (st := sLawSplit) l6 c6 k6
  have B6 := F6.binds (ps := ["numbers", "labels"]) fun _ _ _ _ _ _ us hl => match us, hl with | [_, _], _ => rfl
  have F7 := fun_mk (st := sLaw) l7 c7 k7
  have B7 := F7.binds (ps := ["script"]) fun _ _ _ _ _ _ us hl => match us, hl with | [_], _ => rfl
  have m_int := PySem.W.mg_none_of X G b_int
  have m_list := PySem.W.mg_none_of X G b_list
  have m_len := PySem.W.mg_none_of X G b_len
  have m_sum := PySem.W.mg_none_of X G b_sum
  have m_abs := PySem.W.mg_none_of X G b_abs
  have m_isinstance := PySem.W.mg_none_of X G b_isinstance
  have m_tuple := PySem.W.mg_none_of X G b_tuple
  have m_bool := PySem.W.mg_none_of X G b_bool
  have m_str := PySem.W.mg_none_of X G b_str
  have m_all := PySem.W.mg_none_of X G b_all
  have m_any := PySem.W.mg_none_of X G b_any
  have m_zip := PySem.W.mg_none_of X G b_zip
  have m_range := PySem.W.mg_none_of X G b_range
  have m_sorted := PySem.W.mg_none_of X G b_sorted
  have m_set := PySem.W.mg_none_of X G b_set
  refine ⟨PySem.W.fnOf "law" "law" (defArgs sLaw) (defBody sLaw) (defScope sLaw) .none kV7 dc7 pm7 an7 cd7 ct7, fun s v => .of_eq rfl, fun base _ _ => ?_⟩
  have Sm : Cal l.prog w K mg base "split_block" 1 ["markings", "labels"] (spSb K (SqL K)) f0 _ := ⟨ok_sbM (k := 0) F0 m_sorted m_set m_tuple m_zip, PySem.W.mg_of X G a0, k0, B0⟩
  have St : Cal l.prog w K mg base "split_block" 1 ["markings", "labels"] (spSb K (SqT K)) f0 _ := ⟨ok_sbT (k := 0) F0 m_sorted m_set m_tuple m_zip, PySem.W.mg_of X G a0, k0, B0⟩
  have Ba : Cal l.prog w K mg base "_law_bag" 1 ["script"] (spBag K) f1 _ := ⟨ok_bag (k := 0) F1 m_int m_list m_len m_sum, PySem.W.mg_of X G a1, k1, B1⟩
  have D : Cal l.prog w K mg base "_law_pull" 1 ["bag", "many"] (spDrawC K) f2 _ := ⟨ok_pullC (k := 0) F2 m_int m_len m_abs, PySem.W.mg_of X G a2, k2, B2⟩
  have O : Cal l.prog w K mg base "_law_of" 2 ["bag", "some"] (spOfC K) f3 _ := ⟨ok_ofC (k := 0) F3 D m_len, PySem.W.mg_of X G a3, k3, B3⟩
  have Li : Cal l.prog w K mg base "_law_like" 4 ["found", "due"] (spLike K 3) f4 _ := ⟨ok_like F4 (PySem.W.mg_of X G a4) B4 m_isinstance m_list m_tuple m_bool m_str m_int m_len m_all m_zip 3, PySem.W.mg_of X G a4, k4, B4⟩
  have Ca : Cal l.prog w K mg base "_law_case" 3 ["bag"] (spCase K) f5 _ := ⟨ok_case (k := 0) F5 D O m_len m_range, PySem.W.mg_of X G a5, k5, B5⟩
  have Sp : Cal l.prog w K mg base "_law_split" 1 ["numbers", "labels"] (spSplit K) f6 _ := ⟨ok_split (k := 0) F6 m_sorted m_set m_tuple m_zip, PySem.W.mg_of X G a6, k6, B6⟩
  exact ok_law F7 Ba D Li Ca Sp Sm St m_range m_list m_tuple m_sorted m_any m_all m_sum m_len m_zip
end My
open PySem PySem.W PyProof.Rows
set_option maxRecDepth 100000 in
set_option maxHeartbeats 0 in
theorem PySem.Challenge.cw_soleheld_k18_blocks_split_holds : PySem.Challenge.rw_soleheld_k18_blocks_split.Holds := by
  w_on; o_law; k_head; (case hw => w_witness2)
  k_fill
  refine L2.walk_of (l := PySem.Challenge.rw_soleheld_k18_blocks_split) (n := 63) (k := 5) (x := "script") (CX := fun _ => L2.CX0) (sp := fun w => My.spLaw _) rfl (by decide) rfl ⟨rfl, by decide, by decide⟩ (fun w h Y => PySem.W.kIn_of Y) ?F (fun _ _ a ns hl _ hS => ⟨a, ns, rfl, hS, hl, fun _ => rfl⟩) (fun _ _ _ _ _ h => h)
  case F =>
    intro w mg fa h KX G hmg
    refine' My.all_mk KX G hmg ?a0 ?l0 ?c0 ?k0 ?a1 ?l1 ?c1 ?k1 ?a2 ?l2 ?c2 ?k2 ?a3 ?l3 ?c3 ?k3 ?a4 ?l4 ?c4 ?k4 ?a5 ?l5 ?c5 ?k5 ?a6 ?l6 ?c6 ?k6 ?a7 ?l7 ?c7 ?k7 ?b_int ?b_list ?b_len ?b_sum ?b_abs ?b_isinstance ?b_tuple ?b_bool ?b_str ?b_all ?b_any ?b_zip ?b_range ?b_sorted ?b_set
    (case a0 => k_is)
    (case l0 => k_is)
    (case c0 => k_is)
    (case k0 => k_is)
    (case a1 => k_is)
    (case l1 => k_is)
    (case c1 => k_is)
    (case k1 => k_is)
    (case a2 => k_is)
    (case l2 => k_is)
    (case c2 => k_is)
    (case k2 => k_is)
    (case a3 => k_is)
    (case l3 => k_is)
    (case c3 => k_is)
    (case k3 => k_is)
    (case a4 => k_is)
    (case l4 => k_is)
    (case c4 => k_is)
    (case k4 => k_is)
    (case a5 => k_is)
    (case l5 => k_is)
    (case c5 => k_is)
    (case k5 => k_is)
    (case a6 => k_is)
    (case l6 => k_is)
    (case c6 => k_is)
    (case k6 => k_is)
    (case a7 => k_is)
    (case l7 => k_is)
    (case c7 => k_is)
    (case k7 => k_is)
    (case b_int => k_is)
    (case b_list => k_is)
    (case b_len => k_is)
    (case b_sum => k_is)
    (case b_abs => k_is)
    (case b_isinstance => k_is)
    (case b_tuple => k_is)
    (case b_bool => k_is)
    (case b_str => k_is)
    (case b_all => k_is)
    (case b_any => k_is)
    (case b_zip => k_is)
    (case b_range => k_is)
    (case b_sorted => k_is)
    (case b_set => k_is)
#print axioms PySem.Challenge.cw_soleheld_k18_blocks_split_holds

