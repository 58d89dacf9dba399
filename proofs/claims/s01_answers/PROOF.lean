import PyProof.Rows.All
import Wide.All
import OpenK.AllK
import Wide.FinOn
import Open.SpecLaws
import KE.OsHead
import KE.OsGo
import KE.LtSeq
import HandS.Evl
import HandS.ForSpec
import PySem.Challenge.RW_robotviews_s01_answers
import PyKm534
import KE.DataMinMax
import HandS.Deep
set_option Elab.async false
set_option maxRecDepth 100000
set_option maxHeartbeats 2000000
/-! xs < ys of lists of whole numbers, over the layer. -/
namespace Rv
open PySem PySem.Spec PyProof.Rows L2
theorem firstLt_shift (e r : Nat → Bool) (fin : Bool) : ∀ l : List Nat, SeqAt.firstLt e r fin (l.map (· + 1)) = SeqAt.firstLt (fun j => e (j + 1)) (fun j => r (j + 1)) fin l
  | [] => rfl
  | j :: t => by
    show (if e (j + 1) = true then SeqAt.firstLt e r fin (t.map (· + 1)) else r (j + 1)) = if e (j + 1) = true then _ else r (j + 1)
    rw [firstLt_shift e r fin t]
theorem firstLt_lex : ∀ ns ms : List Int, SeqAt.firstLt (fun j => ns.getD j 0 == ms.getD j 0) (fun j => decide (ns.getD j 0 < ms.getD j 0)) (decide (ns.length < ms.length)) (List.range (min ns.length ms.length)) = HT.lexLt ns ms
  | [], [] => rfl
  | [], y :: ys => by
    simp [SeqAt.firstLt, HT.lexLt]
  | x :: xs, [] => by
    simp [SeqAt.firstLt, HT.lexLt]
  | x :: xs, y :: ys => by
    have h : min (x :: xs).length (y :: ys).length = min xs.length ys.length + 1 := by
      simp only [List.length_cons]
      omega
    rw [h, List.range_succ_eq_map, HT.lexLt_cons]
    show (if (x == y) = true then SeqAt.firstLt _ _ _ ((List.range (min xs.length ys.length)).map (· + 1)) else decide (x < y)) = _
    rw [firstLt_shift]
    have h2 : decide ((x :: xs).length < (y :: ys).length) = decide (xs.length < ys.length) := by simp
    rw [h2]
    by_cases e : x = y
    · rw [if_pos e, if_pos (by simp [e])]
      exact firstLt_lex xs ys
    · rw [if_neg e, if_neg (by simp [e])]
theorem intsAre_at : ∀ {vs : List Value} {ns : List Int}, IntsAre vs ns → ∀ j (h : j < vs.length), ∃ t, vs[j] = Value.int (ns.getD j 0) t
  | _, _, .nil, j, h => absurd h (by simp)
  | _, _, .cons a t r, 0, h => ⟨t, rfl⟩
  | _, _, .cons a t r, j + 1, h => by
    obtain ⟨u, e⟩ := intsAre_at r j (by simpa using h)
    exact ⟨u, by simpa using e⟩
theorem lt_listInts {prog : Program} {w : World} {A : Around} {E : Value → Shared → Prop} {s : Shared} {l b : Addr} {its its2 : List Value} {ns ms : List Int} {Q : Value → Shared → Prop} (hl : s.heap.IsList l its.toArray) (hb : s.heap.IsList b its2.toArray) (hi : IntsAre its ns) (hj : IntsAre its2 ms)
    (hu : A.units < cLine) (h : Q (.bool (HT.lexLt ns ms)) s) : wpAny (model prog w) A (compareOp .Lt (.ref l) (.ref b)) Q E s := by
  have l1 : its.toArray.size = ns.length := by
    rw [List.size_toArray]
    exact hi.length
  have l2 : its2.toArray.size = ms.length := by
    rw [List.size_toArray]
    exact hj.length
  have key := SeqAt.RcLt.lists (e := fun j => ns.getD j 0 == ms.getD j 0) (r := fun j => decide (ns.getD j 0 < ms.getD j 0)) hl hb hu (fun j h1 h2 => by
      obtain ⟨t, e1⟩ := intsAre_at hi j (by simpa using h1)
      obtain ⟨u, e2⟩ := intsAre_at hj j (by simpa using h2)
      simp only [List.getElem_toArray]
      rw [e1, e2]
      exact SeqAt.EqAt.int_int _ t _ u) (fun j h1 h2 _ => by
      obtain ⟨t, e1⟩ := intsAre_at hi j (by simpa using h1)
      obtain ⟨u, e2⟩ := intsAre_at hj j (by simpa using h2)
      simp only [List.getElem_toArray]
      rw [e1, e2]
      exact fun prog w E Q q => HT.rcLt_int _ s _ t _ u prog w E Q q)
  rw [l1, l2, firstLt_lex] at key
  exact key prog w E Q h
def rLtL (K : PySem.W.Frag) : R2 := fun x y H Q => ∃ a b ns ms, x = .ref a ∧ y = .ref b ∧ SqL K H a (ns.map V.int) ∧ SqL K H b (ms.map V.int) ∧ Q (.bl (HT.lexLt ns ms)) H
theorem op_ltL {X : Cx} (hu : X.A.units < cLine) : OpR X (compareOp .Lt) (rLtL X.K) := by
  intro pins s σ H x y v u Q I rx ry h
  obtain ⟨a, b, ns, ms, rfl, rfl, ha, hb, q⟩ := h
  cases rx
  cases ry
  obtain ⟨its, r1, p1, _⟩ := I.list ha
  obtain ⟨its2, r2, p2, _⟩ := I.list hb
  exact lt_listInts p1.isList p2.isList (intsAre_of r1) (intsAre_of r2) hu ⟨.bl (HT.lexLt ns ms), H, I, rfl, q⟩
end Rv

set_option Elab.async false
set_option maxRecDepth 100000
set_option maxHeartbeats 2000000
namespace Rv
open PySem PySem.Spec PyProof.Rows L2 Evl
/-- whole numbers that are none below 0, as values -/
def nv (l : List Nat) : List V := l.map fun (x : Nat) => V.int (x : Int)
theorem nv_len (l : List Nat) : (nv l).length = l.length := by rw [nv, List.length_map]
theorem nv_at {l : List Nat} {j : Nat} (h : j < l.length) : (nv l)[j]? = some (V.int (l.getD j 0 : Nat)) := by
  rw [nv, List.getElem?_map, List.getD_eq_getElem?_getD, List.getElem?_eq_getElem h]
  rfl
theorem nv_map (l : List Nat) (f : Nat → Nat) : nv (l.map f) = l.map fun x => V.int (f x : Nat) := by
  rw [nv, List.map_map]
  rfl
theorem given_all (n : Nat) (v : Nat → V) : given n (fun _ => true) v = (List.range n).map v := by
  rw [given, List.filter_eq_self.mpr (fun _ _ => rfl)]
theorem et_yes {σ : L2.St} {H : Hp} : EvT tYes σ H true := fun H1 _ _ q => q H1 (Ex.refl H1)
/-- a def that stands and keeps its promise -/
structure DefOk (P : Program) (w : World) (K : PySem.W.Frag) (mg : Str → Option Value) (base : Heap) (x : Str) (k : Nat) (ps : List Str) (sp : Sp) : Prop where
  ex : ∃ (f : Addr) (fd : FuncData), FnOk P w K mg base CX0 k f fd ps sp ∧ mg x = some (.ref f) ∧ PySem.W.keepIn K (.ref f) = true ∧ Binds K fd ps []
theorem pe_def {X : Cx} {k : Nat} {x : Str} {ps : List Str} {sp : Sp} {p pos : Pos} {e : Expr} {es : List Expr} {t : TA} (D : DefOk X.prog X.w X.K X.mg X.base x k ps sp) (hr : Room k X.A) (hg : Gl X x) (ha : PA X (e :: es) t)
    (hdb : (x == ("__debug__" : Str)) = false := by decide) (he : starEach (e :: es) X.env = (false, eval e X.env) :: starEach es X.env := by rfl) (hpl : (backTo pos (starEach es X.env)).any (·.1) = false := by rfl) :
    PE X (.Call (.Name x p) (e :: es) [] pos) (tCall sp [] E0 t) := by
  obtain ⟨f, fd, F, hm, hk, hb⟩ := D.ex
  exact pe_call F hr hg hm hk hb .nil pass0 ha hdb he hpl
/-- what the top leaves of Python's own names -/
structure Blt (mg : Str → Option Value) : Prop where
  len : mg "len" = none
  range : mg "range" = none
  min : mg "min" = none
  sum : mg "sum" = none
def topS (i : Nat) : Stmt := PySem.Challenge.pw_robotviews_s01_answers.main.body.getD i (.Pass ⟨0, 0, 0, 0⟩)
abbrev rAdd : R2 := rI0 fun i j => .int (i + j)
abbrev rSub : R2 := rI0 fun i j => .int (i - j)
abbrev rMod : R2 := rI (fun _ j => 0 < j) fun i j => .int (i % j)
/-! ### promises: a new list, a value -/
def spRot (K : PySem.W.Frag) (g : List Nat → Nat → List Nat) : Sp := fun vs H Q _ => ∃ (a : Addr) (l : List Nat) (s : Nat),
  vs = [.ref a, .int (s : Int)] ∧ SqL K H a (nv l) ∧ l.length ≤ 1000 ∧ RetL (nv (g l s)) H Q
section
variable {P : Program} {w : World} {K : PySem.W.Frag} {mg : Str → Option Value} {base : Heap}
abbrev sTurned : Stmt := topS 1
theorem scTurned : FnScope ["row", "s", "n", "i"] ["row", "s"] (defScope sTurned) := ⟨rfl, rfl, rfl, by decide +kernel, rfl, by decide +kernel, by decide +kernel⟩
theorem from_at {l : List Nat} {s i : Nat} (hi : i < l.length) : atI (nv l) (((s : Int) + (i : Int)) % ((nv l).length : Int)) = some (V.int (l.getD ((s + i) % l.length) 0 : Nat)) := by
  have h0 : 0 < l.length := by omega
  rw [nv_len, show (((s : Int) + (i : Int)) % (l.length : Int)) = (((s + i) % l.length : Nat) : Int) by rw [Int.natCast_emod, Int.natCast_add]]
  exact atI_nat (nv_at (Nat.mod_lt _ h0))
theorem ok_turned {f : Addr} {fd : FuncData} (T : Blt mg) (F : Fun K "turned" "turned" sTurned f fd) : FnOk P w K mg base CX0 1 f fd ["row", "s"] (spRot K Km534.from_) := by
  refine F.ok scTurned (fun vs H Q E h => ?_) (fun cdv A outer s H vs Q E hr h => ?_)
  · obtain ⟨a, l, s, rfl, _⟩ := h
    rfl
  · obtain ⟨a, l, s, rfl, hl, hn, k⟩ := h
    refine ⟨_, pss_cons (ps_set (i := 2) scTurned.nd rfl (Or.inr rfl) (pe_callB call_len_seq (by rfl) T.len PySem.boot_len (pa_cons (pv 0) pa_nil)))
      (pss_one (ps_ret (pe_lc (own := [("i", 3)]) (g := gName 3) (tt := tYes) (te := tOp (rIxL K) (tVar 0) (tOp rMod (tOp rAdd (tVar 1) (tVar 3)) (tVar 2))) rfl scTurned.nd (pi_range1 rfl T.range (pa_cons (pv 2) pa_nil)) (blkOk_by (N := ["row", "s", "n", "i"]) (sc := defScope sTurned) (by decide +kernel))
        (fun _ _ _ _ _ => pg_name (i := 3) scTurned.nd rfl (Or.inl rfl)) (fun _ _ _ _ _ => pts_nil)
        (fun _ _ _ _ _ => pe_ix ix_list (pv 0) (pe_op op_mod (pe_op op_add (pv 1) (pv 3)) (pv 2)) (fun _ _ => rfl))))), ?_⟩
    refine q_asg (ev_len (ev_var rfl) hl) fun H1 e1 => ?_
    refine s_retL (el_lcR1 (fun _ => true) (fun i => V.int (l.getD ((s + i) % l.length) 0 : Nat)) (ea_cons (ev_var rfl) ea_nil) (by rw [nv_len]; omega) (fun _ => rfl) (fun _ _ _ _ => et_yes) (fun i H2 e2 hi _ => ?_)) fun p H2 hp e2 h2 => ?_
    · rw [nv_len] at hi
      exact ev_op (ev_var rfl) (ev_op (ev_op (ev_var rfl) (ev_var rfl) rv_I0) (ev_var rfl) (rv_I (by show (0 : Int) < ((nv l).length : Int); rw [nv_len]; omega))) (rv_ixL (ex_l (e1.trans e2) hl) (from_at (by omega)))
    · refine k.go e1 hp e2 ?_
      rw [h2, given_all, nv_len, Int.toNat_natCast, Km534.from_, nv_map]
abbrev sMirrored : Stmt := topS 2
theorem scMirrored : FnScope ["row", "s", "n", "i"] ["row", "s"] (defScope sMirrored) := ⟨rfl, rfl, rfl, by decide +kernel, rfl, by decide +kernel, by decide +kernel⟩
theorem back_at {l : List Nat} {s i : Nat} (hi : i < l.length) : atI (nv l) (((s : Int) - (i : Int)) % ((nv l).length : Int)) = some (V.int (l.getD ((s + (l.length - i)) % l.length) 0 : Nat)) := by
  have h0 : 0 < l.length := by omega
  have e : (((s : Int) - (i : Int)) % (l.length : Int)) = (((s + (l.length - i)) % l.length : Nat) : Int) := by
    rw [Int.natCast_emod, show ((s + (l.length - i) : Nat) : Int) = (s : Int) - (i : Int) + (l.length : Int) by omega, Int.add_emod_right]
  rw [nv_len, e]
  exact atI_nat (nv_at (Nat.mod_lt _ h0))
theorem ok_mirrored {f : Addr} {fd : FuncData} (T : Blt mg) (F : Fun K "mirrored" "mirrored" sMirrored f fd) : FnOk P w K mg base CX0 1 f fd ["row", "s"] (spRot K Km534.back) := by
  refine F.ok scMirrored (fun vs H Q E h => ?_) (fun cdv A outer s H vs Q E hr h => ?_)
  · obtain ⟨a, l, s, rfl, _⟩ := h
    rfl
  · obtain ⟨a, l, s, rfl, hl, hn, k⟩ := h
    refine ⟨_, pss_cons (ps_set (i := 2) scMirrored.nd rfl (Or.inr rfl) (pe_callB call_len_seq (by rfl) T.len PySem.boot_len (pa_cons (pv 0) pa_nil)))
      (pss_one (ps_ret (pe_lc (own := [("i", 3)]) (g := gName 3) (tt := tYes) (te := tOp (rIxL K) (tVar 0) (tOp rMod (tOp rSub (tVar 1) (tVar 3)) (tVar 2))) rfl scMirrored.nd (pi_range1 rfl T.range (pa_cons (pv 2) pa_nil)) (blkOk_by (N := ["row", "s", "n", "i"]) (sc := defScope sMirrored) (by decide +kernel))
        (fun _ _ _ _ _ => pg_name (i := 3) scMirrored.nd rfl (Or.inl rfl)) (fun _ _ _ _ _ => pts_nil)
        (fun _ _ _ _ _ => pe_ix ix_list (pv 0) (pe_op op_mod (pe_op op_sub (pv 1) (pv 3)) (pv 2)) (fun _ _ => rfl))))), ?_⟩
    refine q_asg (ev_len (ev_var rfl) hl) fun H1 e1 => ?_
    refine s_retL (el_lcR1 (fun _ => true) (fun i => V.int (l.getD ((s + (l.length - i)) % l.length) 0 : Nat)) (ea_cons (ev_var rfl) ea_nil) (by rw [nv_len]; omega) (fun _ => rfl) (fun _ _ _ _ => et_yes) (fun i H2 e2 hi _ => ?_)) fun p H2 hp e2 h2 => ?_
    · rw [nv_len] at hi
      exact ev_op (ev_var rfl) (ev_op (ev_op (ev_var rfl) (ev_var rfl) rv_I0) (ev_var rfl) (rv_I (by show (0 : Int) < ((nv l).length : Int); rw [nv_len]; omega))) (rv_ixL (ex_l (e1.trans e2) hl) (back_at (by omega)))
    · refine k.go e1 hp e2 ?_
      rw [h2, given_all, nv_len, Int.toNat_natCast, Km534.back, nv_map]
/-! ### told_by -/
def spTold : Sp := fun vs H Q _ => ∃ (e x : Nat), vs = [.int (e : Int), .int (x : Int)] ∧ RetV (.int (Km534.sees e x : Nat)) H Q
abbrev sTold : Stmt := topS 3
theorem scTold : FnScope ["eyes", "robots"] ["eyes", "robots"] (defScope sTold) := ⟨rfl, rfl, rfl, by decide +kernel, rfl, by decide +kernel, by decide +kernel⟩
theorem int_eq_dec {a b : Int} : decide (V.int a = V.int b) = decide (a = b) := by
  by_cases h : a = b
  · rw [h, decide_eq_true rfl, decide_eq_true rfl]
  · rw [decide_eq_false h, decide_eq_false (fun q => h (V.int.inj q))]
theorem ok_told {f : Addr} {fd : FuncData} (T : Blt mg) (F : Fun K "told_by" "told_by" sTold f fd) : FnOk P w K mg base CX0 1 f fd ["eyes", "robots"] spTold := by
  refine F.ok scTold (fun vs H Q E h => ?_) (fun cdv A outer s H vs Q E hr h => ?_)
  · obtain ⟨e, x, rfl, _⟩ := h
    rfl
  · obtain ⟨e, x, rfl, k⟩ := h
    refine ⟨_, pss_cons (ps_if (pt_cmpR op_eq (pv 0) pe_int (nomark _)) (pss_one (ps_ret (pv 1))) pss_nil)
      (pss_cons (ps_if (pt_cmpR op_eq (pv 0) pe_int (nomark _)) (pss_one (ps_ret (pe_callB (call_min2 rfl) (by rfl) T.min (by decide +kernel) (pa_cons (pv 1) (pa_cons pe_int pa_nil))))) pss_nil)
      (pss_one (ps_ret (pe_callB (call_min2 rfl) (by rfl) T.min (by decide +kernel) (pa_cons (pv 1) (pa_cons pe_int pa_nil)))))), ?_⟩
    refine q_when (et_test (ev_op (ev_var rfl) ev_c (rv_eq rfl))) (fun hb H1 e1 => ?_) (fun hb H1 e1 => ?_)
    · rw [int_eq_dec] at hb
      refine s_ret (ev_var rfl) fun H2 e2 => ?_
      have h0 : e = 0 := by simpa using hb
      subst h0
      exact k H2 (e1.trans e2)
    · rw [int_eq_dec] at hb
      have h0 : ¬ e = 0 := by simpa using hb
      refine q_when (et_test (ev_op (ev_var rfl) ev_c (rv_eq rfl))) (fun hb H2 e2 => ?_) (fun hb H2 e2 => ?_)
      · rw [int_eq_dec] at hb
        have h1 : e = 1 := by have := of_decide_eq_true hb; omega
        refine s_ret (ev_cb (ea_cons (ev_var rfl) (ea_cons ev_c ea_nil)) (fun H3 _ _ q => ⟨_, _, rfl, q H3 (Ex.refl H3)⟩)) fun H3 e3 => ?_
        have r := k H3 ((e1.trans e2).trans e3)
        have z : Km534.sees e x = min x 2 := by rw [Km534.sees, if_neg h0, if_pos h1]
        rw [z] at r
        have y : (if (2 : Int) < (x : Int) then (2 : Int) else (x : Int)) = ((min x 2 : Nat) : Int) := by split <;> omega
        rw [← y] at r
        exact r
      · rw [int_eq_dec] at hb
        have h1 : ¬ e = 1 := by have := of_decide_eq_false hb; omega
        refine s_ret (ev_cb (ea_cons (ev_var rfl) (ea_cons ev_c ea_nil)) (fun H3 _ _ q => ⟨_, _, rfl, q H3 (Ex.refl H3)⟩)) fun H3 e3 => ?_
        have r := k H3 ((e1.trans e2).trans e3)
        have z : Km534.sees e x = min x 1 := by rw [Km534.sees, if_neg h0, if_neg h1]
        rw [z] at r
        have y : (if (1 : Int) < (x : Int) then (1 : Int) else (x : Int)) = ((min x 1 : Nat) : Int) := by split <;> omega
        rw [← y] at r
        exact r
/-! ### looked_at -/
def spLook (K : PySem.W.Frag) : Sp := fun vs H Q _ => ∃ (a : Addr) (l : List Nat) (e : Nat), vs = [.ref a, .int (e : Int)] ∧ SqL K H a (nv l) ∧ l.length ≤ 1000 ∧ RetL (nv (l.map (Km534.sees e))) H Q
abbrev sLook : Stmt := topS 4
theorem scLook : FnScope ["counts", "eyes", "robots"] ["counts", "eyes"] (defScope sLook) := ⟨rfl, rfl, rfl, by decide +kernel, rfl, by decide +kernel, by decide +kernel⟩
theorem range_getD {β : Type} (l : List Nat) (g : Nat → β) : (List.range l.length).map (fun i => g (l.getD i 0)) = l.map g := by
  apply List.ext_getElem?
  intro i
  rw [List.getElem?_map, List.getElem?_map]
  by_cases h : i < l.length
  · rw [List.getElem?_range h, List.getElem?_eq_getElem h]
    simp [h]
  · rw [List.getElem?_eq_none (by simpa using h), List.getElem?_eq_none (by simpa using h)]
    rfl
theorem ok_look {f : Addr} {fd : FuncData} (T : DefOk P w K mg base "told_by" 1 ["eyes", "robots"] spTold) (F : Fun K "looked_at" "looked_at" sLook f fd) : FnOk P w K mg base CX0 2 f fd ["counts", "eyes"] (spLook K) := by
  refine F.ok scLook (fun vs H Q E h => ?_) (fun cdv A outer s H vs Q E hr h => ?_)
  · obtain ⟨a, l, e, rfl, _⟩ := h
    rfl
  · obtain ⟨a, l, e, rfl, hl, hn, k⟩ := h
    refine ⟨_, pss_one (ps_ret (pe_lc (own := [("robots", 2)]) (g := gName 2) (tt := tYes) (te := tCall spTold [] E0 (tCons (tVar 1) (tCons (tVar 2) tNil))) rfl scLook.nd (pi_list (pv 0)) (blkOk_by (N := ["counts", "eyes", "robots"]) (sc := defScope sLook) (by decide +kernel))
        (fun _ _ _ _ _ => pg_name (i := 2) scLook.nd rfl (Or.inl rfl)) (fun _ _ _ _ _ => pts_nil)
        (fun _ _ _ _ _ => pe_def T hr rfl (pa_cons (pv 1) (pa_cons (pv 2) pa_nil))))), ?_⟩
    refine s_retL (el_lcL (fun _ => true) (fun i => V.int (Km534.sees e (l.getD i 0) : Nat)) (ev_var rfl) hl (by rw [nv_len]; omega) (fun _ => rfl) (fun _ _ _ _ _ => et_yes) (fun i x H2 e2 hi _ => ?_)) fun p H2 hp e2 h2 => ?_
    · have hlt : i < l.length := by
        have := (List.getElem?_eq_some_iff.mp hi).1
        rwa [nv_len] at this
      rw [nv_at hlt] at hi
      obtain rfl := Option.some.inj hi
      exact ev_call (ea_cons (ev_var rfl) (ea_cons (ev_var rfl) ea_nil)) fun H3 e3 Q q E => ⟨e, l.getD i 0, rfl, q⟩
    · refine k.go (Ex.refl _) hp e2 ?_
      rw [h2, given_all, nv_len, nv_map, range_getD l (fun x => V.int (Km534.sees e x : Nat))]
end
end Rv

set_option Elab.async false
set_option maxRecDepth 100000
set_option maxHeartbeats 1000000
namespace Rv
open Km534 (Desk)
/-! ### the machine over a plain desk: a ring of no places has not begun -/
def stOf (d : Desk) : Km534.State := if d.ring = [] then none else some d
def dstep (d : Desk) (x : Km534.Call) : Desk × List Int := ((Km534.step (stOf d) x).1.getD d, (Km534.step (stOf d) x).2.num :: (Km534.step (stOf d) x).2.nums)
def Good (d : Desk) : Prop := d.ring = [] ∨ (3 ≤ d.ring.length ∧ d.ring.length ≤ 8 ∧ d.eyes ≤ 2 ∧ Km534.sum d.ring ≤ 6)
def argsOf : List Nat := [2, 2, 1, 1, 1, 0, 1, 1, 1, 2, 1, 0, 0, 0, 0, 0, 0, 1, 2, 0, 1, 0]
theorem shape_of {p : Int} {n k : Nat} (h : PyKm534.shape p = some (n, k)) : k = 0 ∧ ∃ j : Nat, j < 22 ∧ p = (j : Int) ∧ n = argsOf.getD j 0 := by
  unfold PyKm534.shape at h
  by_cases h0 : 0 ≤ p ∧ p < 22
  · obtain ⟨j, rfl⟩ : ∃ j : Nat, p = (j : Int) := ⟨p.toNat, by omega⟩
    have hj : j < 22 := by omega
    match j, hj with
    | 0, _ | 1, _ | 2, _ | 3, _ | 4, _ | 5, _ | 6, _ | 7, _ | 8, _ | 9, _ | 10, _ | 11, _ | 12, _ | 13, _ | 14, _ | 15, _ | 16, _ | 17, _ | 18, _ | 19, _ | 20, _ | 21, _ =>
      simp at h
      obtain ⟨rfl, rfl⟩ := h
      exact ⟨rfl, _, by decide, rfl, rfl⟩
  · exfalso
    repeat (rw [if_neg (by omega)] at h)
    cases h
/-- a call of the list as the machine's -/
def CallIs (j : Nat) (args : List Nat) (x : Km534.Call) : Prop := Km534Neutral.callOf [(j : Int) :: Km534.n2i args] = some x
theorem naturals_n2i : ∀ {l : List Int}, Km534Neutral.naturals l = true → ∃ a : List Nat, l = Km534.n2i a
  | [], _ => ⟨[], rfl⟩
  | z :: l, h => by
    simp only [Km534Neutral.naturals, List.all_cons, Bool.and_eq_true, Km534Neutral.natural, decide_eq_true_eq] at h
    obtain ⟨a, rfl⟩ := naturals_n2i (l := l) (by simpa [Km534Neutral.naturals, Km534Neutral.natural] using h.2)
    refine ⟨z.toNat :: a, ?_⟩
    show z :: Km534.n2i a = ((z.toNat : Nat) : Int) :: Km534.n2i a
    rw [Int.toNat_of_nonneg h.1.1]
theorem call_is {j : Nat} {z : List Int} (hj : j < 22) (hl : z.length = argsOf.getD j 0) (ha : Km534Neutral.asked1 (PyKm534.whole [(j : Int) :: z]) = true) :
    PyKm534.whole [(j : Int) :: z] = [(j : Int) :: z] ∧ ∃ (args : List Nat) (x : Km534.Call), z = Km534.n2i args ∧ CallIs j args x := by
  match j, hj with
  | 0, _ | 1, _ | 9, _ | 18, _ =>
    match z, hl with
    | [a, b], _ =>
      refine ⟨rfl, ?_⟩
      obtain ⟨q, e⟩ := naturals_n2i (l := [a, b]) ha
      exact ⟨q, _, e, Eq.trans (congrArg (fun z => Km534Neutral.callOf [_ :: z]) e.symm) rfl⟩
  | 2, _ | 3, _ | 4, _ | 6, _ | 7, _ | 8, _ | 10, _ | 17, _ | 20, _ =>
    match z, hl with
    | [a], _ =>
      refine ⟨rfl, ?_⟩
      obtain ⟨q, e⟩ := naturals_n2i (l := [a]) ha
      exact ⟨q, _, e, Eq.trans (congrArg (fun z => Km534Neutral.callOf [_ :: z]) e.symm) rfl⟩
  | 5, _ | 11, _ | 12, _ | 13, _ | 14, _ | 15, _ | 16, _ | 19, _ | 21, _ =>
    match z, hl with
    | [], _ => exact ⟨rfl, [], _, rfl, rfl⟩
def okCalls (cs : List (List (List Int))) : Prop := ∀ c ∈ cs, Km534Neutral.asked1 (PyKm534.whole c) = true
def play (d : Desk) (cs : List (List (List Int))) : List Int := PyFlat.told (PyFlat.played Km534Neutral.step (stOf d) (cs.map PyKm534.whole))
/-! ### sums and lengths -/
theorem foldl_sum : ∀ (l : List Nat) (a : Nat), l.foldl (fun (a b : Nat) => a + b) a = a + l.sum
  | [], a => by simp
  | x :: l, a => by rw [List.foldl_cons, foldl_sum l, List.sum_cons]; omega
theorem sum_eq (l : List Nat) : Km534.sum l = l.sum := by rw [Km534.sum, foldl_sum, Nat.zero_add]
theorem from_len (l : List Nat) (p : Nat) : (Km534.from_ l p).length = l.length := by simp [Km534.from_]
theorem back_len (l : List Nat) (p : Nat) : (Km534.back l p).length = l.length := by simp [Km534.back]
theorem getD_lt {l : List Nat} {i : Nat} (h : i < l.length) : l.getD i 0 = l[i] := by
  rw [List.getD_eq_getElem?_getD, List.getElem?_eq_getElem h]
  rfl
theorem from_rot {l : List Nat} {p : Nat} (h : p < l.length) : Km534.from_ l p = l.drop p ++ l.take p := by
  apply List.ext_getElem
  · simp [Km534.from_]
    omega
  · intro i h1 h2
    have hi : i < l.length := by simpa [Km534.from_] using h1
    simp only [Km534.from_, List.getElem_map, List.getElem_range]
    rw [getD_lt (Nat.mod_lt _ (by omega))]
    by_cases c : i < l.length - p
    · rw [List.getElem_append_left (by simpa using c)]
      simp only [List.getElem_drop]
      congr 1
      exact Nat.mod_eq_of_lt (by omega)
    · rw [List.getElem_append_right (by simpa using c)]
      simp only [List.getElem_take, List.length_drop]
      congr 1
      rw [Nat.mod_eq_sub_mod (by omega), Nat.mod_eq_of_lt (by omega)]
      omega
theorem back_rev {l : List Nat} {p : Nat} (h : p < l.length) : Km534.back l p = (l.drop (p + 1) ++ l.take (p + 1)).reverse := by
  apply List.ext_getElem
  · simp [Km534.back]
    omega
  · intro i h1 h2
    have hi : i < l.length := by simpa [Km534.back] using h1
    simp only [Km534.back, List.getElem_map, List.getElem_range]
    rw [getD_lt (Nat.mod_lt _ (by omega)), List.getElem_reverse]
    have hL : (l.drop (p + 1) ++ l.take (p + 1)).length = l.length := by simp; omega
    by_cases c : i < p + 1
    · rw [List.getElem_append_right (by simp; omega)]
      simp only [List.getElem_take, List.length_drop]
      congr 1
      rw [Nat.mod_eq_sub_mod (by omega), Nat.mod_eq_of_lt (by omega)]
      simp only [hL]
      omega
    · rw [List.getElem_append_left (by simp; omega)]
      simp only [List.getElem_drop]
      congr 1
      rw [Nat.mod_eq_of_lt (by omega)]
      simp only [hL]
      omega
theorem sum_append (a b : List Nat) : (a ++ b).sum = a.sum + b.sum := List.sum_append
theorem sum_from {l : List Nat} {p : Nat} (h : p < l.length) : Km534.sum (Km534.from_ l p) = Km534.sum l := by
  rw [sum_eq, sum_eq, from_rot h, List.sum_append, Nat.add_comm, ← List.sum_append, List.take_append_drop]
theorem sum_back {l : List Nat} {p : Nat} (h : p < l.length) : Km534.sum (Km534.back l p) = Km534.sum l := by
  rw [sum_eq, sum_eq, back_rev h, List.sum_reverse, List.sum_append, Nat.add_comm, ← List.sum_append, List.take_append_drop]
theorem sum_rep : ∀ n : Nat, Km534.sum (List.replicate n 0) = 0
  | 0 => rfl
  | n + 1 => by
    have := sum_rep n
    rw [sum_eq] at this ⊢
    rw [List.replicate_succ, List.sum_cons, this]
def GoodD (d : Desk) : Prop := 3 ≤ d.ring.length ∧ d.ring.length ≤ 8 ∧ d.eyes ≤ 2 ∧ Km534.sum d.ring ≤ 6
theorem ne_nil {l : List Nat} (h : 3 ≤ l.length) : l ≠ [] := fun e => by rw [e] at h; simp at h
theorem step_good {s : Km534.State} {x : Km534.Call} (hs : ∀ d, s = some d → GoodD d) : ∀ d', (Km534.step s x).1 = some d' → GoodD d' := by
  intro d' h
  cases x with
  | begin_ n e =>
    simp only [Km534.step] at h
    split at h
    · exact hs d' h
    · rename_i hc
      have := Option.some.inj h
      subst this
      refine ⟨?_, ?_, ?_, ?_⟩
      · show 3 ≤ (List.replicate n 0).length
        rw [List.length_replicate]
        omega
      · show (List.replicate n 0).length ≤ 8
        rw [List.length_replicate]
        have : ¬ Km534.PLACES < n := fun q => hc (.inr (.inl q))
        unfold Km534.PLACES at this
        omega
      · show e ≤ 2
        omega
      · show Km534.sum (List.replicate n 0) ≤ 6
        rw [sum_rep]
        exact Nat.zero_le _
  | put p v =>
    cases s with
    | none => simp [Km534.step] at h
    | some d =>
      have g := hs d rfl
      simp only [Km534.step] at h
      split at h
      · exact hs d' h
      · split at h
        · exact hs d' h
        · split at h
          · exact hs d' h
          · rename_i _ _ h3
            have := Option.some.inj h
            subst this
            refine ⟨by simpa using g.1, by simpa using g.2.1, g.2.2.1, ?_⟩
            unfold Km534.ROBOTS at h3
            show Km534.sum (d.ring.set p v) ≤ 6
            omega
  | eyes e =>
    cases s with
    | none => simp [Km534.step] at h
    | some d =>
      have g := hs d rfl
      simp only [Km534.step] at h
      split at h
      · exact hs d' h
      · have := Option.some.inj h
        subst this
        refine ⟨g.1, g.2.1, ?_, g.2.2.2⟩
        show e ≤ 2
        omega
  | turn p =>
    cases s with
    | none => simp [Km534.step] at h
    | some d =>
      have g := hs d rfl
      simp only [Km534.step] at h
      split at h
      · exact hs d' h
      · rename_i hp
        have := Option.some.inj h
        subst this
        unfold Km534.n_ at hp
        refine ⟨by rw [from_len]; exact g.1, by rw [from_len]; exact g.2.1, g.2.2.1, ?_⟩
        show Km534.sum (Km534.from_ d.ring p) ≤ 6
        rw [sum_from (by omega)]
        exact g.2.2.2
  | mirror p =>
    cases s with
    | none => simp [Km534.step] at h
    | some d =>
      have g := hs d rfl
      simp only [Km534.step] at h
      split at h
      · exact hs d' h
      · rename_i hp
        have := Option.some.inj h
        subst this
        unfold Km534.n_ at hp
        refine ⟨by rw [back_len]; exact g.1, by rw [back_len]; exact g.2.1, g.2.2.1, ?_⟩
        show Km534.sum (Km534.back d.ring p) ≤ 6
        rw [sum_back (by omega)]
        exact g.2.2.2
  | _ =>
    cases s with
    | none => simp [Km534.step] at h
    | some d =>
      simp only [Km534.step] at h
      exact hs d' h
theorem step_some (d : Desk) (x : Km534.Call) : ∃ d', (Km534.step (some d) x).1 = some d' := by
  cases x with
  | put p v =>
    simp only [Km534.step]
    split
    · exact ⟨_, rfl⟩
    · split
      · exact ⟨_, rfl⟩
      · split <;> exact ⟨_, rfl⟩
  | begin_ n e =>
    simp only [Km534.step]
    split <;> exact ⟨_, rfl⟩
  | eyes e =>
    simp only [Km534.step]
    split <;> exact ⟨_, rfl⟩
  | turn e =>
    simp only [Km534.step]
    split <;> exact ⟨_, rfl⟩
  | mirror e =>
    simp only [Km534.step]
    split <;> exact ⟨_, rfl⟩
  | _ => exact ⟨_, rfl⟩
theorem good_st {d : Desk} (g : Good d) : ∀ d', stOf d = some d' → GoodD d' := by
  intro d' h
  unfold stOf at h
  split at h
  · cases h
  · rename_i hn
    have := Option.some.inj h
    subst this
    rcases g with e | g
    · exact absurd e hn
    · exact g
theorem dstep_good {d : Desk} (g : Good d) (x : Km534.Call) : Good (dstep d x).1 := by
  unfold dstep
  cases h : (Km534.step (stOf d) x).1 with
  | none => exact g
  | some d' => exact .inr (step_good (good_st g) d' h)
theorem dstep_st {d : Desk} (g : Good d) (x : Km534.Call) : stOf (dstep d x).1 = (Km534.step (stOf d) x).1 := by
  unfold dstep
  cases h : (Km534.step (stOf d) x).1 with
  | none =>
    show stOf d = none
    cases hs : stOf d with
    | none => rfl
    | some d' =>
      rw [hs] at h
      obtain ⟨d2, h2⟩ := step_some d' x
      rw [h2] at h
      cases h
  | some d' =>
    show stOf d' = some d'
    have := step_good (good_st g) d' h
    unfold stOf
    rw [if_neg (ne_nil this.1)]
/-! ### how long an answer is -/
theorem allRows_len : ∀ (n k : Nat) (r : List Nat), r ∈ Km534.allRows n k → r.length = n
  | 0, k, r, h => by
    unfold Km534.allRows at h
    split at h
    · have := List.mem_singleton.mp h
      rw [this]
      rfl
    · cases h
  | n + 1, k, r, h => by
    unfold Km534.allRows at h
    obtain ⟨x, _, hx⟩ := List.mem_flatMap.mp h
    obtain ⟨q, hq, rfl⟩ := List.mem_map.mp hx
    rw [List.length_cons, allRows_len n _ q hq]
theorem foldl_len {n : Nat} : ∀ (rs : List (List Nat)) (a : List Nat), a.length = n → (∀ r ∈ rs, r.length = n) → (rs.foldl (fun (a b : List Nat) => if Km534.less b a then b else a) a).length = n
  | [], a, h, _ => h
  | r :: rs, a, h, hr => by
    rw [List.foldl_cons]
    refine foldl_len rs _ ?_ fun q hq => hr q (List.mem_cons_of_mem _ hq)
    split
    · exact hr r List.mem_cons_self
    · exact h
theorem name_len (l : List Nat) : (Km534.name l).length = l.length := by
  refine foldl_len _ _ rfl fun r hr => ?_
  unfold Km534.rows at hr
  rcases List.mem_append.mp hr with h | h
  · obtain ⟨p, _, rfl⟩ := List.mem_map.mp h
    exact from_len l p
  · obtain ⟨p, _, rfl⟩ := List.mem_map.mp h
    exact back_len l p
theorem filter_range_len (n : Nat) (f : Nat → Bool) : ((List.range n).filter f).length ≤ n := by
  have := List.length_filter_le f (List.range n)
  rwa [List.length_range] at this
theorem taken_len (d : Desk) : (Km534.taken d).length ≤ d.ring.length := filter_range_len _ _
theorem n2i_len (l : List Nat) : (Km534.n2i l).length = l.length := by rw [Km534.n2i, List.length_map]
theorem rowOn_len' (d : Desk) (p : Nat) : (Km534.rowOn d p).length = d.ring.length := by rw [Km534.rowOn, List.length_map, from_len]
theorem rowBack_len' (d : Desk) (p : Nat) : (Km534.rowBack d p).length = d.ring.length := by rw [Km534.rowBack, List.length_map, back_len]
theorem view_len (d : Desk) (p : Nat) : (Km534.view d p).1.length = d.ring.length ∧ (Km534.view d p).2.length = d.ring.length := by
  unfold Km534.view
  split
  · exact ⟨rowBack_len' d p, rowOn_len' d p⟩
  · exact ⟨rowOn_len' d p, rowBack_len' d p⟩
theorem ofRobot_len {d : Desk} {p m : Nat} {a : Unit → Km534.Ans} (h : (a ()).nums.length ≤ m) : (Km534.ofRobot d p a).nums.length ≤ m := by
  unfold Km534.ofRobot
  split
  · exact Nat.zero_le _
  · split
    · exact Nat.zero_le _
    · exact h
theorem tellAll_len (l : List Nat) : (Km534.tellAll l).nums.length = l.length := n2i_len l
theorem lonely_len (d : Desk) : (Km534.lonely d).length ≤ d.ring.length := Nat.le_trans (List.length_filter_le _ _) (taken_len d)
theorem step_len {s : Km534.State} {x : Km534.Call} (hs : ∀ d, s = some d → GoodD d) : (Km534.step s x).2.nums.length ≤ 16 := by
  cases s with
  | none =>
    cases x with
    | begin_ n e =>
      simp only [Km534.step]
      split <;> exact Nat.zero_le _
    | _ => exact Nat.zero_le _
  | some d =>
    have g := hs d rfl
    have g8 := g.2.1
    cases x with
    | begin_ n e =>
      simp only [Km534.step]
      split <;> exact Nat.zero_le _
    | put p v =>
      simp only [Km534.step]
      split
      · exact Nat.zero_le _
      · split
        · exact Nat.zero_le _
        · split <;> exact Nat.zero_le _
    | eyes e =>
      simp only [Km534.step]
      split <;> exact Nat.zero_le _
    | turn e =>
      simp only [Km534.step]
      split <;> exact Nat.zero_le _
    | mirror e =>
      simp only [Km534.step]
      split <;> exact Nat.zero_le _
    | ring =>
      show (Km534.tellAll d.ring).nums.length ≤ 16
      rw [tellAll_len]
      omega
    | seen p =>
      refine ofRobot_len ?_
      rw [tellAll_len, rowOn_len']
      omega
    | view p =>
      refine ofRobot_len ?_
      rw [tellAll_len, List.length_append, (view_len d p).1, (view_len d p).2]
      omega
    | even_ p => exact ofRobot_len (Nat.zero_le _)
    | same p q =>
      simp only [Km534.step]
      split
      · exact Nat.zero_le _
      · split <;> exact Nat.zero_le _
    | alike p =>
      refine ofRobot_len ?_
      rw [tellAll_len]
      have := Nat.le_trans (List.length_filter_le (fun q => (Km534.view d q).1 == (Km534.view d p).1) (Km534.taken d)) (taken_len d)
      omega
    | lonely =>
      show (Km534.tellAll (Km534.lonely d)).nums.length ≤ 16
      rw [tellAll_len]
      have := lonely_len d
      omega
    | name =>
      show (Km534.tellAll (Km534.name d.ring)).nums.length ≤ 16
      rw [tellAll_len, name_len]
      omega
    | axis =>
      show (Km534.tellAll (Km534.onAxis d.ring)).nums.length ≤ 16
      rw [tellAll_len]
      have : (Km534.onAxis d.ring).length ≤ d.ring.length := filter_range_len _ _
      omega
    | kinds k =>
      simp only [Km534.step]
      split <;> exact Nat.zero_le _
    | nth k i =>
      simp only [Km534.step]
      split
      · exact Nat.zero_le _
      · split
        · exact Nat.zero_le _
        · rename_i r hr
          rw [tellAll_len]
          have hm := List.mem_of_getElem? hr
          unfold Km534.names at hm
          have := allRows_len _ _ r (List.mem_filter.mp hm).1
          unfold Km534.n_ at this
          omega
    | rank => show 1 ≤ 16; decide
    | ifEyes e =>
      simp only [Km534.step]
      split
      · exact Nat.zero_le _
      · show (Km534.n2i (Km534.lonely { d with eyes := e })).length ≤ 16
        rw [n2i_len]
        have := lonely_len { d with eyes := e }
        have h2 : ({ d with eyes := e } : Desk).ring.length = d.ring.length := rfl
        omega
    | told => show 3 ≤ 16; decide
    | _ => exact Nat.zero_le _
theorem dstep_len {d : Desk} (g : Good d) (x : Km534.Call) : (dstep d x).2.length ≤ 17 := by
  have := step_len (x := x) (good_st g)
  show (Km534.step (stOf d) x).2.nums.length + 1 ≤ 17
  omega
/-! ### a turn of the loop, its start and its end -/
theorem play_nil (d : Desk) : play d [] = [] := rfl
theorem play_cons {d : Desk} {j : Nat} {args : List Nat} {x : Km534.Call} {cs : List (List (List Int))} (g : Good d) (hx : CallIs j args x) (hw : PyKm534.whole [(j : Int) :: Km534.n2i args] = [(j : Int) :: Km534.n2i args]) :
    play d ([(j : Int) :: Km534.n2i args] :: cs) = (((dstep d x).2.length : Int) :: (dstep d x).2) ++ play (dstep d x).1 cs := by
  have e : Km534Neutral.step (stOf d) [(j : Int) :: Km534.n2i args] = ((Km534.step (stOf d) x).1, (dstep d x).2) := by
    unfold Km534Neutral.step
    rw [hx]
    rfl
  unfold play
  rw [List.map_cons, hw, PyFlat.played, PyFlat.told, List.flatMap_cons, e, dstep_st g]
  rfl
theorem turn_of {f : Nat} {p : Int} {r : List Int} {cs : List (List (List Int))} (h : PyFlat.calls PyKm534.shape f (p :: r) = some cs) (ha : okCalls cs) :
    ∃ (j : Nat) (args : List Nat) (x : Km534.Call) (cs' : List (List (List Int))) (f' : Nat), j < 22 ∧ p = (j : Int) ∧ args.length = argsOf.getD j 0 ∧ argsOf.getD j 0 ≤ r.length ∧ r.take (argsOf.getD j 0) = Km534.n2i args ∧
      CallIs j args x ∧ PyFlat.calls PyKm534.shape f' (r.drop (argsOf.getD j 0)) = some cs' ∧ okCalls cs' ∧ (∀ d, Good d → play d cs = (((dstep d x).2.length : Int) :: (dstep d x).2) ++ play (dstep d x).1 cs') := by
  cases f with
  | zero => cases h
  | succ f =>
    unfold PyFlat.calls at h
    cases hc : PyFlat.call PyKm534.shape (p :: r) with
    | none =>
      rw [hc] at h
      cases h
    | some ct =>
      obtain ⟨c, t⟩ := ct
      rw [hc] at h
      simp only at h
      cases ht : PyFlat.calls PyKm534.shape f t with
      | none =>
        rw [ht] at h
        cases h
      | some cs' =>
        rw [ht] at h
        simp only at h
        have hcs := Option.some.inj h
        unfold PyFlat.call at hc
        simp only at hc
        cases hs : PyKm534.shape p with
        | none =>
          rw [hs] at hc
          cases hc
        | some nk =>
          obtain ⟨n, k⟩ := nk
          rw [hs] at hc
          simp only at hc
          obtain ⟨rfl, j, hj, rfl, rfl⟩ := shape_of hs
          split at hc
          · cases hc
          · rename_i hlen
            simp only [PyFlat.rows] at hc
            have hc' := Option.some.inj hc
            have hc1 : [(j : Int) :: r.take (argsOf.getD j 0)] = c := congrArg Prod.fst hc'
            have ht1 : r.drop (argsOf.getD j 0) = t := congrArg Prod.snd hc'
            subst hc1 ht1
            have hl : (r.take (argsOf.getD j 0)).length = argsOf.getD j 0 := by
              rw [List.length_take]
              omega
            have ha1 : Km534Neutral.asked1 (PyKm534.whole [(j : Int) :: r.take (argsOf.getD j 0)]) = true := ha _ (by rw [← hcs]; exact List.mem_cons_self)
            obtain ⟨hw, args, x, hz, hx⟩ := call_is hj hl ha1
            refine ⟨j, args, x, cs', f, hj, rfl, ?_, by omega, hz, hx, ht, fun c hc => ha c (by rw [← hcs]; exact List.mem_cons_of_mem _ hc), fun d g => ?_⟩
            · rw [hz, n2i_len] at hl
              exact hl
            · rw [← hcs, hz]
              rw [hz] at hw
              exact play_cons g hx hw
def fresh : Desk := ⟨[], 0⟩
theorem fresh_good : Good fresh := .inl rfl
theorem asked_calls {l : List Int} (h : PyKm534.answers_asked l = true) : ∃ cs, PyFlat.calls PyKm534.shape l.length l = some cs ∧ okCalls cs ∧ PyKm534.answers l = play fresh cs := by
  unfold PyKm534.answers_asked at h
  cases hc : PyFlat.calls PyKm534.shape l.length l with
  | none =>
    rw [hc] at h
    cases h
  | some cs =>
    rw [hc] at h
    simp only [Bool.and_eq_true] at h
    refine ⟨cs, rfl, fun c hc' => ?_, ?_⟩
    · have h3 := h.1.2
      unfold Km534Neutral.asked at h3
      simp only [Bool.and_eq_true, List.all_eq_true] at h3
      exact h3.2.2 _ (List.mem_map_of_mem hc')
    · unfold PyKm534.answers PyKm534.calls
      rw [hc]
      rfl
theorem calls_nil {f : Nat} {cs : List (List (List Int))} (h : PyFlat.calls PyKm534.shape f [] = some cs) : cs = [] := by
  cases f <;> exact (Option.some.inj h).symm
end Rv

set_option Elab.async false
set_option maxRecDepth 100000
set_option maxHeartbeats 1000000
namespace Rv
/-! ### rows turned and mirrored again -/
theorem mod_same {a b n : Nat} (k : Int) (h : (a : Int) - (b : Int) = (n : Int) * k) : a % n = b % n := by
  have h2 : (a : Int) % (n : Int) = (b : Int) % (n : Int) := by
    have : (a : Int) = (b : Int) + (n : Int) * k := by omega
    rw [this, Int.add_mul_emod_self_left]
  have h3 : ((a % n : Nat) : Int) = ((b % n : Nat) : Int) := by
    rw [Int.natCast_emod, Int.natCast_emod]
    exact h2
  omega
theorem mod_is (a n : Nat) : ∃ k : Int, ((a % n : Nat) : Int) = (a : Int) - (n : Int) * k := by
  refine ⟨(a / n : Nat), ?_⟩
  have := Nat.div_add_mod a n
  have h2 : ((n * (a / n) : Nat) : Int) = (n : Int) * ((a / n : Nat) : Int) := Int.natCast_mul ..
  omega
theorem from_getD {l : List Nat} {p i : Nat} (h : i < l.length) : (Km534.from_ l p).getD i 0 = l.getD ((p + i) % l.length) 0 := by
  rw [getD_lt (by rw [from_len]; exact h)]
  simp [Km534.from_]
theorem back_getD {l : List Nat} {p i : Nat} (h : i < l.length) : (Km534.back l p).getD i 0 = l.getD ((p + (l.length - i)) % l.length) 0 := by
  rw [getD_lt (by rw [back_len]; exact h)]
  simp [Km534.back]
theorem from_from (l : List Nat) (p q : Nat) : Km534.from_ (Km534.from_ l p) q = Km534.from_ l ((p + q) % l.length) := by
  unfold Km534.from_
  rw [List.length_map, List.length_range]
  apply List.map_congr_left
  intro i hi
  have h : i < l.length := List.mem_range.mp hi
  have h0 : 0 < l.length := by omega
  rw [← Km534.from_, from_getD (Nat.mod_lt _ h0)]
  congr 1
  rw [Nat.add_mod_mod, Nat.mod_add_mod, Nat.add_assoc]
theorem back_from (l : List Nat) (p q : Nat) : Km534.back (Km534.from_ l p) q = Km534.back l ((p + q) % l.length) := by
  unfold Km534.back
  rw [from_len]
  apply List.map_congr_left
  intro i hi
  have h : i < l.length := List.mem_range.mp hi
  have h0 : 0 < l.length := by omega
  rw [from_getD (Nat.mod_lt _ h0)]
  congr 1
  rw [Nat.add_mod_mod, Nat.mod_add_mod, Nat.add_assoc]
theorem from_back (l : List Nat) (p q : Nat) : Km534.from_ (Km534.back l p) q = Km534.back l ((p + (l.length - q % l.length)) % l.length) := by
  unfold Km534.from_ Km534.back
  rw [List.length_map, List.length_range]
  apply List.map_congr_left
  intro i hi
  have h : i < l.length := List.mem_range.mp hi
  have h0 : 0 < l.length := by omega
  rw [← Km534.back, back_getD (Nat.mod_lt _ h0), Nat.mod_add_mod]
  congr 1
  have h1 := Nat.mod_lt (q + i) h0
  have h2 := Nat.mod_lt q h0
  obtain ⟨k1, e1⟩ := mod_is (q + i) l.length
  obtain ⟨k2, e2⟩ := mod_is q l.length
  refine mod_same (k1 - k2 - 1) ?_
  rw [Int.mul_sub, Int.mul_sub, Int.mul_one]
  omega
theorem back_back (l : List Nat) (p q : Nat) : Km534.back (Km534.back l p) q = Km534.from_ l ((p + (l.length - q % l.length)) % l.length) := by
  unfold Km534.from_ Km534.back
  rw [List.length_map, List.length_range]
  apply List.map_congr_left
  intro i hi
  have h : i < l.length := List.mem_range.mp hi
  have h0 : 0 < l.length := by omega
  rw [← Km534.back, back_getD (Nat.mod_lt _ h0), Nat.mod_add_mod]
  congr 1
  have h1 := Nat.mod_lt (q + (l.length - i)) h0
  have h2 := Nat.mod_lt q h0
  obtain ⟨k1, e1⟩ := mod_is (q + (l.length - i)) l.length
  obtain ⟨k2, e2⟩ := mod_is q l.length
  refine mod_same (k1 - k2 - 1) ?_
  rw [Int.mul_sub, Int.mul_sub, Int.mul_one]
  omega
theorem from_zero (l : List Nat) : Km534.from_ l 0 = l := by
  by_cases h : 0 < l.length
  · rw [from_rot h]
    simp
  · have : l = [] := List.eq_nil_of_length_eq_zero (by omega)
    rw [this]
    rfl
theorem mem_rows {l r : List Nat} : r ∈ Km534.rows l ↔ (∃ p, p < l.length ∧ r = Km534.from_ l p) ∨ (∃ p, p < l.length ∧ r = Km534.back l p) := by
  unfold Km534.rows
  rw [List.mem_append, List.mem_map, List.mem_map]
  constructor
  · rintro (⟨p, hp, rfl⟩ | ⟨p, hp, rfl⟩)
    · exact .inl ⟨p, List.mem_range.mp hp, rfl⟩
    · exact .inr ⟨p, List.mem_range.mp hp, rfl⟩
  · rintro (⟨p, hp, rfl⟩ | ⟨p, hp, rfl⟩)
    · exact .inl ⟨p, List.mem_range.mpr hp, rfl⟩
    · exact .inr ⟨p, List.mem_range.mpr hp, rfl⟩
theorem rows_len {l r : List Nat} (h : r ∈ Km534.rows l) : r.length = l.length := by
  rcases mem_rows.mp h with ⟨p, _, rfl⟩ | ⟨p, _, rfl⟩
  · exact from_len l p
  · exact back_len l p
theorem rows_sum {l r : List Nat} (h : r ∈ Km534.rows l) : Km534.sum r = Km534.sum l := by
  rcases mem_rows.mp h with ⟨p, hp, rfl⟩ | ⟨p, hp, rfl⟩
  · exact sum_from hp
  · exact sum_back hp
theorem rows_sub {l r x : List Nat} (h : r ∈ Km534.rows l) (hx : x ∈ Km534.rows r) : x ∈ Km534.rows l := by
  have hl := rows_len h
  rcases mem_rows.mp h with ⟨p, hp, rfl⟩ | ⟨p, hp, rfl⟩
  · have h0 : 0 < l.length := by omega
    rcases mem_rows.mp hx with ⟨q, _, rfl⟩ | ⟨q, _, rfl⟩
    · exact mem_rows.mpr (.inl ⟨_, Nat.mod_lt _ h0, from_from l p q⟩)
    · exact mem_rows.mpr (.inr ⟨_, Nat.mod_lt _ h0, back_from l p q⟩)
  · have h0 : 0 < l.length := by omega
    rcases mem_rows.mp hx with ⟨q, _, rfl⟩ | ⟨q, _, rfl⟩
    · exact mem_rows.mpr (.inr ⟨_, Nat.mod_lt _ h0, from_back l p q⟩)
    · exact mem_rows.mpr (.inl ⟨_, Nat.mod_lt _ h0, back_back l p q⟩)
/-! ### the order of rows -/
theorem less_cons (x y : Nat) (a b : List Nat) : Km534.less (x :: a) (y :: b) = (decide (x < y) || (x == y && Km534.less a b)) := rfl
theorem less_irrefl : ∀ a : List Nat, Km534.less a a = false
  | [] => rfl
  | x :: a => by
    rw [less_cons, less_irrefl a]
    simp
theorem less_trans : ∀ {a b c : List Nat}, Km534.less a b = true → Km534.less b c = true → Km534.less a c = true
  | [], _, _, h, _ => by cases h
  | _ :: _, [], _, h, _ => by cases h
  | _ :: _, _ :: _, [], _, h => by cases h
  | x :: a, y :: b, z :: c, h1, h2 => by
    rw [less_cons] at h1 h2 ⊢
    simp only [Bool.or_eq_true, decide_eq_true_eq, Bool.and_eq_true, beq_iff_eq] at h1 h2 ⊢
    rcases h1 with h1 | ⟨rfl, h1⟩
    · rcases h2 with h2 | ⟨rfl, h2⟩
      · exact .inl (by omega)
      · exact .inl h1
    · rcases h2 with h2 | ⟨rfl, h2⟩
      · exact .inl h2
      · exact .inr ⟨rfl, less_trans h1 h2⟩
theorem less_total : ∀ {a b : List Nat}, a.length = b.length → Km534.less a b = false → Km534.less b a = false → a = b
  | [], [], _, _, _ => rfl
  | [], _ :: _, h, _, _ => by simp at h
  | _ :: _, [], h, _, _ => by simp at h
  | x :: a, y :: b, h, h1, h2 => by
    rw [less_cons] at h1 h2
    simp only [Bool.or_eq_false_iff, decide_eq_false_iff_not, Bool.and_eq_false_iff] at h1 h2
    have e : x = y := by omega
    subst e
    have g1 : Km534.less a b = false := by
      rcases h1.2 with q | q
      · simp at q
      · exact q
    have g2 : Km534.less b a = false := by
      rcases h2.2 with q | q
      · simp at q
      · exact q
    rw [less_total (by simpa using h) g1 g2]
def least (a : List Nat) (rs : List (List Nat)) : List Nat := rs.foldl (fun (a b : List Nat) => if Km534.less b a then b else a) a
theorem least_mem : ∀ (rs : List (List Nat)) (a : List Nat), least a rs = a ∨ least a rs ∈ rs
  | [], a => .inl rfl
  | r :: rs, a => by
    show least (if Km534.less r a then r else a) rs = a ∨ _
    rcases least_mem rs (if Km534.less r a then r else a) with h | h
    · rw [show least a (r :: rs) = least (if Km534.less r a then r else a) rs from rfl, h]
      split
      · exact .inr List.mem_cons_self
      · exact .inl rfl
    · exact .inr (List.mem_cons_of_mem _ h)
theorem le_trans {a x m : List Nat} (hl : a.length = x.length) (h1 : Km534.less x a = false) (h2 : Km534.less a m = false) : Km534.less x m = false := by
  cases q : Km534.less x m with
  | false => rfl
  | true =>
    cases c : Km534.less a x with
    | true =>
      rw [less_trans c q] at h2
      cases h2
    | false =>
      rw [less_total hl c h1, q] at h2
      cases h2
theorem least_le : ∀ (rs : List (List Nat)) (a : List Nat), (∀ r ∈ rs, r.length = a.length) → Km534.less a (least a rs) = false ∧ ∀ r ∈ rs, Km534.less r (least a rs) = false
  | [], a, _ => ⟨less_irrefl a, fun _ h => by cases h⟩
  | r :: rs, a, hl => by
    have hr : r.length = a.length := hl r List.mem_cons_self
    have e : least a (r :: rs) = least (if Km534.less r a then r else a) rs := rfl
    rw [e]
    by_cases c : Km534.less r a = true
    · rw [if_pos c]
      have ih := least_le rs r fun x hx => by rw [hl x (List.mem_cons_of_mem _ hx), hr]
      refine ⟨?_, fun x hx => ?_⟩
      · cases q : Km534.less a (least r rs) with
        | false => rfl
        | true =>
          rw [less_trans c q] at ih
          exact absurd ih.1 (by simp)
      · rcases List.mem_cons.mp hx with rfl | hx
        · exact ih.1
        · exact ih.2 x hx
    · rw [if_neg c]
      have ih := least_le rs a fun x hx => hl x (List.mem_cons_of_mem _ hx)
      refine ⟨ih.1, fun x hx => ?_⟩
      rcases List.mem_cons.mp hx with rfl | hx
      · exact le_trans hr.symm (by simpa using c) ih.1
      · exact ih.2 x hx
theorem least_self : ∀ (rs : List (List Nat)) (a : List Nat), (∀ r ∈ rs, Km534.less r a = false) → least a rs = a
  | [], _, _ => rfl
  | r :: rs, a, h => by
    show least (if Km534.less r a then r else a) rs = a
    rw [if_neg (by rw [h r List.mem_cons_self]; exact Bool.false_ne_true)]
    exact least_self rs a fun x hx => h x (List.mem_cons_of_mem _ hx)
/-- the least of a set of rows of one length, whatever the order in which they come -/
theorem least_unique {rs : List (List Nat)} {a m : List Nat} (hl : ∀ r ∈ rs, r.length = a.length) (hm : m = a ∨ m ∈ rs) (h : ∀ r, r = a ∨ r ∈ rs → Km534.less r m = false) : least a rs = m := by
  have q := least_le rs a hl
  have ml : m.length = a.length := by
    rcases hm with e | e
    · rw [e]
    · exact hl m e
  have ll : (least a rs).length = a.length := by
    rcases least_mem rs a with e | e
    · rw [e]
    · exact hl _ e
  refine less_total (by rw [ll, ml]) ?_ ?_
  · exact h _ (least_mem rs a)
  · rcases hm with e | e
    · rw [e]
      exact q.1
    · exact q.2 m e
theorem name_least (l : List Nat) : Km534.name l = least l (Km534.rows l) := rfl
theorem self_rows {l : List Nat} (h : l ≠ []) : l ∈ Km534.rows l := by
  refine mem_rows.mpr (.inl ⟨0, ?_, (from_zero l).symm⟩)
  exact List.length_pos_iff.mpr h
theorem name_mem {l : List Nat} (h : l ≠ []) : Km534.name l ∈ Km534.rows l := by
  rcases least_mem (Km534.rows l) l with e | e
  · rw [name_least, e]
    exact self_rows h
  · exact e
theorem name_le {l r : List Nat} (hr : r ∈ Km534.rows l) : Km534.less r (Km534.name l) = false := (least_le (Km534.rows l) l fun _ hx => rows_len hx).2 r hr
theorem name_name {l : List Nat} (h : l ≠ []) : Km534.name (Km534.name l) = Km534.name l := least_self _ _ fun r hr => name_le (rows_sub (name_mem h) hr)
/-! ### all rows -/
theorem mem_allRows : ∀ (n k : Nat) (r : List Nat), r ∈ Km534.allRows n k ↔ r.length = n ∧ r.sum = k
  | 0, k, r => by
    unfold Km534.allRows
    by_cases h : k = 0
    · rw [if_pos h]
      subst h
      constructor
      · intro q
        have := List.mem_singleton.mp q
        rw [this]
        exact ⟨rfl, rfl⟩
      · intro q
        have : r = [] := List.eq_nil_of_length_eq_zero q.1
        rw [this]
        exact List.mem_singleton.mpr rfl
    · rw [if_neg h]
      constructor
      · intro q
        cases q
      · intro q
        have e : r = [] := List.eq_nil_of_length_eq_zero q.1
        have e2 := q.2
        rw [e] at e2
        exact absurd e2.symm h
  | n + 1, k, r => by
    unfold Km534.allRows
    rw [List.mem_flatMap]
    constructor
    · rintro ⟨x, hx, hr⟩
      obtain ⟨q, hq, rfl⟩ := List.mem_map.mp hr
      have ih := (mem_allRows n (k - x) q).mp hq
      have hx' := List.mem_range.mp hx
      rw [List.length_cons, List.sum_cons]
      omega
    · intro h
      match r, h with
      | x :: q, h =>
        rw [List.length_cons, List.sum_cons] at h
        exact ⟨x, List.mem_range.mpr (by omega), List.mem_map.mpr ⟨q, (mem_allRows n (k - x) q).mpr ⟨by omega, by omega⟩, rfl⟩⟩
theorem name_names {l : List Nat} (h : l ≠ []) : Km534.name l ∈ Km534.names l.length (Km534.sum l) := by
  unfold Km534.names
  rw [List.mem_filter]
  refine ⟨(mem_allRows _ _ _).mpr ⟨name_len l, ?_⟩, ?_⟩
  · rw [← sum_eq]
    exact rows_sum (name_mem h)
  · rw [name_name h]
    exact beq_self_eq_true _
/-- all rows stand in order -/
theorem allRows_order : ∀ (n k : Nat), (Km534.allRows n k).Pairwise fun a b => Km534.less a b = true
  | 0, k => by
    unfold Km534.allRows
    split
    · exact List.pairwise_singleton _ _
    · exact List.Pairwise.nil
  | n + 1, k => by
    unfold Km534.allRows
    rw [List.pairwise_flatMap]
    refine ⟨fun x hx => ?_, ?_⟩
    · rw [List.pairwise_map]
      refine (allRows_order n (k - x)).imp ?_
      intro a b h
      rw [less_cons, h]
      simp
    · refine List.Pairwise.imp ?_ (List.pairwise_lt_range (n := k + 1))
      intro x y hxy a ha b hb
      obtain ⟨p, _, rfl⟩ := List.mem_map.mp ha
      obtain ⟨q, _, rfl⟩ := List.mem_map.mp hb
      rw [less_cons, decide_eq_true hxy]
      rfl
theorem names_order (n k : Nat) : (Km534.names n k).Pairwise fun a b => Km534.less a b = true := (allRows_order n k).filter _
/-- how many rows there are, on 8 places of 6 robots at most -/
theorem allRows_few {n k : Nat} (hn : n ≤ 8) (hk : k ≤ 6) : (Km534.allRows n k).length ≤ 1716 := by
  have h : ∀ n, n < 9 → ∀ k, k < 7 → (Km534.allRows n k).length ≤ 1716 := by decide +kernel
  exact h n (by omega) k (by omega)
theorem names_few {n k : Nat} (hn : n ≤ 8) (hk : k ≤ 6) : (Km534.names n k).length ≤ 1716 := Nat.le_trans (List.length_filter_le _ _) (allRows_few hn hk)
theorem rank_some {l : List Nat} (h : l ≠ []) : ∃ i, (Km534.names l.length (Km534.sum l)).findIdx? (fun r => r == Km534.name l) = some i ∧ (Km534.names l.length (Km534.sum l))[i]? = some (Km534.name l) ∧ ∀ j, j < i → ∀ r, (Km534.names l.length (Km534.sum l))[j]? = some r → r ≠ Km534.name l := by
  cases e : (Km534.names l.length (Km534.sum l)).findIdx? (fun r => r == Km534.name l) with
  | none =>
    rw [List.findIdx?_eq_none_iff] at e
    have := e _ (name_names h)
    rw [beq_self_eq_true] at this
    cases this
  | some i =>
    refine ⟨i, rfl, ?_, ?_⟩
    · obtain ⟨hi, h1, _⟩ := List.findIdx?_eq_some_iff_getElem.mp e
      rw [List.getElem?_eq_getElem hi]
      rw [eq_of_beq h1]
    · intro j hj r hr q
      obtain ⟨hi, _, h2⟩ := List.findIdx?_eq_some_iff_getElem.mp e
      have := h2 j hj
      rw [List.getElem?_eq_getElem (by omega)] at hr
      rw [Option.some.inj hr, q, beq_self_eq_true] at this
      exact this rfl
end Rv

set_option Elab.async false
set_option maxRecDepth 100000
set_option maxHeartbeats 1000000
namespace Rv
open Km534 (Desk)
/-! ### different views, counted at the first place that has each -/
section
variable {α : Type} [BEq α] [LawfulBEq α]
def distinct (f : Nat → α) (ts : List Nat) : List α := ts.foldl (fun (o : List α) (p : Nat) => if o.contains (f p) then o else o ++ [f p]) []
theorem distinct_snoc (f : Nat → α) (ts : List Nat) (x : Nat) : distinct f (ts ++ [x]) = if (distinct f ts).contains (f x) then distinct f ts else distinct f ts ++ [f x] := by
  unfold distinct
  rw [List.foldl_append]
  rfl
theorem distinct_mem (f : Nat → α) : ∀ (rs : List Nat) (v : α), (distinct f rs.reverse).contains v = rs.reverse.any fun q => f q == v
  | [], v => rfl
  | x :: rs, v => by
    rw [List.reverse_cons, distinct_snoc, List.any_append]
    by_cases h : (distinct f rs.reverse).contains (f x) = true
    · rw [if_pos h, distinct_mem f rs v]
      by_cases e : f x = v
      · have : (rs.reverse.any fun q => f q == v) = true := by rw [← distinct_mem f rs v, ← e]; exact h
        rw [this]
        rfl
      · simp [e]
    · rw [if_neg h, List.contains_append, distinct_mem f rs v]
      congr 1
      by_cases e : f x = v
      · simp [e]
      · have e2 : ¬ v = f x := fun q => e q.symm
        simp [e, e2]
theorem distinct_len (f : Nat → α) : ∀ rs : List Nat, rs.reverse.Nodup → (distinct f rs.reverse).length = (rs.reverse.filter fun p => rs.reverse.find? (fun q => f q == f p) == some p).length
  | [], _ => rfl
  | x :: rs, hn => by
    rw [List.reverse_cons] at hn ⊢
    have hn1 : rs.reverse.Nodup := (List.nodup_append.mp hn).1
    have hx : x ∉ rs.reverse := fun h => (List.nodup_append.mp hn).2.2 x h x (List.mem_singleton.mpr rfl) rfl
    have ih := distinct_len f rs hn1
    rw [distinct_snoc, List.filter_append, List.length_append]
    have e1 : (rs.reverse.filter fun p => (rs.reverse ++ [x]).find? (fun q => f q == f p) == some p) = rs.reverse.filter fun p => rs.reverse.find? (fun q => f q == f p) == some p := by
      apply List.filter_congr
      intro p hp
      rw [List.find?_append]
      cases hq : rs.reverse.find? (fun q => f q == f p) with
      | some y => rfl
      | none =>
        have := List.find?_eq_none.mp hq p hp
        simp at this
    rw [e1, ← ih]
    have e2 : ((rs.reverse ++ [x]).find? (fun q => f q == f x) == some x) = !(distinct f rs.reverse).contains (f x) := by
      rw [distinct_mem, List.find?_append]
      cases hq : rs.reverse.find? (fun q => f q == f x) with
      | none =>
        have h1 : (rs.reverse.any fun q => f q == f x) = false := by
          rw [List.any_eq_false]
          exact List.find?_eq_none.mp hq
        rw [h1]
        simp
      | some y =>
        have hy := List.mem_of_find?_eq_some hq
        have h1 : (rs.reverse.any fun q => f q == f x) = true := List.any_eq_true.mpr ⟨y, hy, List.find?_some (p := fun q => f q == f x) hq⟩
        rw [h1]
        have : y ≠ x := fun z => hx (z ▸ hy)
        simp [this]
    by_cases h : (distinct f rs.reverse).contains (f x) = true
    · rw [if_pos h]
      rw [h] at e2
      rw [List.filter_cons, if_neg (by rw [e2]; simp)]
      rfl
    · rw [if_neg h, List.length_append]
      rw [Bool.not_eq_true] at h
      rw [h] at e2
      rw [List.filter_cons, if_pos (by rw [e2]; rfl)]
      rfl
theorem distinct_count (f : Nat → α) {ts : List Nat} (h : ts.Nodup) : (distinct f ts).length = (ts.filter fun p => ts.find? (fun q => f q == f p) == some p).length := by
  have := distinct_len f ts.reverse (by rw [List.reverse_reverse]; exact h)
  rwa [List.reverse_reverse] at this
end
def alikeTo (d : Desk) (p : Nat) : List Nat := (Km534.taken d).filter fun q => (Km534.view d q).1 == (Km534.view d p).1
theorem taken_nodup (d : Desk) : (Km534.taken d).Nodup := List.Pairwise.filter _ List.nodup_range
theorem mem_taken {d : Desk} {p : Nat} : p ∈ Km534.taken d ↔ p < d.ring.length ∧ 0 < d.ring.getD p 0 := by
  unfold Km534.taken Km534.n_ Km534.at_
  rw [List.mem_filter, List.mem_range, decide_eq_true_eq]
theorem alikeTo_head (d : Desk) (p : Nat) : (alikeTo d p)[0]? = (Km534.taken d).find? fun q => (Km534.view d q).1 == (Km534.view d p).1 := by
  unfold alikeTo
  rw [← List.head?_eq_getElem?, List.head?_filter]
theorem alikeTo_self {d : Desk} {p : Nat} (h : p < d.ring.length ∧ 0 < d.ring.getD p 0) : p ∈ alikeTo d p := by
  unfold alikeTo
  rw [List.mem_filter]
  exact ⟨mem_taken.mpr h, beq_self_eq_true _⟩
theorem alikeTo_pos {d : Desk} {p : Nat} (h : p < d.ring.length ∧ 0 < d.ring.getD p 0) : 0 < (alikeTo d p).length := List.length_pos_of_mem (alikeTo_self h)
/-- whether a place is the first of those that have its view -/
def isFirst (d : Desk) (p : Nat) : Bool := decide (0 < d.ring.getD p 0) && decide ((alikeTo d p).getD 0 0 = p)
theorem views_firsts (d : Desk) : (Km534.viewsOf d).length = ((List.range d.ring.length).filter (isFirst d)).length := by
  have h : (Km534.viewsOf d).length = ((Km534.taken d).filter fun p => (Km534.taken d).find? (fun q => (Km534.view d q).1 == (Km534.view d p).1) == some p).length := distinct_count (fun p => (Km534.view d p).1) (taken_nodup d)
  rw [h]
  congr 1
  have e : Km534.taken d = (List.range d.ring.length).filter fun p => decide (0 < d.ring.getD p 0) := rfl
  conv => lhs; rw [show ∀ f : Nat → Bool, (Km534.taken d).filter f = ((List.range d.ring.length).filter fun p => decide (0 < d.ring.getD p 0)).filter f from fun _ => by rw [e]]
  rw [List.filter_filter]
  apply List.filter_congr
  intro p hp
  unfold isFirst
  rw [Bool.and_comm]
  by_cases c : 0 < d.ring.getD p 0
  · rw [decide_eq_true c, Bool.true_and, Bool.true_and, ← alikeTo_head]
    have hl := alikeTo_pos ⟨List.mem_range.mp hp, c⟩
    rw [List.getD_eq_getElem?_getD, List.getElem?_eq_getElem hl]
    show (some (alikeTo d p)[0] == some p) = decide ((alikeTo d p)[0] = p)
    by_cases z : (alikeTo d p)[0] = p
    · simp [z]
    · simp [z]
  · rw [decide_eq_false c, Bool.false_and, Bool.false_and]
/-- whether a robot alone at its place has a view that nobody else has -/
def isLonely (d : Desk) (p : Nat) : Bool := decide (d.ring.getD p 0 = 1) && decide (alikeTo d p = [p])
theorem single_of {l : List Nat} {p : Nat} (hn : l.Nodup) (hp : p ∈ l) (ha : ∀ q ∈ l, q = p) : l = [p] := by
  match l, hn, hp, ha with
  | [], _, hp, _ => cases hp
  | [x], _, _, ha => rw [ha x List.mem_cons_self]
  | x :: y :: r, hn, _, ha =>
    have hx := ha x List.mem_cons_self
    have hy := ha y (List.mem_cons_of_mem _ List.mem_cons_self)
    rw [List.nodup_cons] at hn
    exact absurd (show x ∈ y :: r by rw [hx, hy]; exact List.mem_cons_self) hn.1
theorem lonely_eq (d : Desk) : Km534.lonely d = (List.range d.ring.length).filter (isLonely d) := by
  unfold Km534.lonely
  have e : Km534.taken d = (List.range d.ring.length).filter fun p => decide (0 < d.ring.getD p 0) := rfl
  conv => lhs; rw [show ∀ f : Nat → Bool, (Km534.taken d).filter f = ((List.range d.ring.length).filter fun p => decide (0 < d.ring.getD p 0)).filter f from fun _ => by rw [e]]
  rw [List.filter_filter]
  apply List.filter_congr
  intro p hp
  have hp := List.mem_range.mp hp
  unfold isLonely Km534.at_
  by_cases c : d.ring.getD p 0 = 1
  · rw [c]
    show ((true && _) && true) = (true && _)
    rw [Bool.true_and, Bool.and_true, Bool.true_and]
    have hpp : p < d.ring.length ∧ 0 < d.ring.getD p 0 := ⟨hp, by rw [c]; exact Nat.one_pos⟩
    by_cases z : alikeTo d p = [p]
    · rw [decide_eq_true z, List.all_eq_true]
      intro q hq
      by_cases w : (Km534.view d q).1 = (Km534.view d p).1
      · have : q ∈ alikeTo d p := by
          unfold alikeTo
          rw [List.mem_filter]
          exact ⟨hq, by rw [w]; exact beq_self_eq_true _⟩
        rw [z] at this
        rw [List.mem_singleton.mp this]
        simp
      · simp [w]
    · rw [decide_eq_false z]
      cases a : (Km534.taken d).all fun q => q == p || (Km534.view d q).1 != (Km534.view d p).1 with
      | false => rfl
      | true =>
        refine absurd (single_of (List.Pairwise.filter _ (taken_nodup d)) (alikeTo_self hpp) fun q hq => ?_) z
        have hq2 := List.mem_filter.mp hq
        have := List.all_eq_true.mp a q hq2.1
        simp only [Bool.or_eq_true, beq_iff_eq, bne_iff_ne, ne_eq] at this
        rcases this with t | t
        · exact t
        · exact absurd (eq_of_beq hq2.2) t
  · have c2 : (d.ring.getD p 0 == 1) = false := by simpa using c
    rw [c2, decide_eq_false c]
    rfl
/-! ### turnings and mirrorings that leave the ring as it is -/
def keptBy (g : List Nat → Nat → List Nat) (l : List Nat) : List Nat := (List.range l.length).filter fun s => decide (g l s = l)
theorem beq_dec (a b : List Nat) : (a == b) = decide (a = b) := by
  by_cases h : a = b
  · simp [h]
  · simp [h]
theorem turns_kept (l : List Nat) : Km534.turns l = (keptBy Km534.from_ l).length := by
  unfold Km534.turns keptBy
  simp only [beq_dec]
theorem mirrors_kept (l : List Nat) : Km534.mirrors l = (keptBy Km534.back l).length := by
  unfold Km534.mirrors keptBy
  simp only [beq_dec]
theorem kept_len (g : List Nat → Nat → List Nat) (l : List Nat) : (keptBy g l).length ≤ l.length := filter_range_len _ _
theorem axis_place {n p i : Nat} (hp : p < n) (hi : i < n) : (p + (n - i)) % n = i ↔ p = (2 * i) % n := by
  have e1 : (2 * i) % n = if 2 * i < n then 2 * i else 2 * i - n := by
    split
    · exact Nat.mod_eq_of_lt (by omega)
    · rw [Nat.mod_eq_sub_mod (by omega)]
      exact Nat.mod_eq_of_lt (by omega)
  have e2 : (p + (n - i)) % n = if i ≤ p then p - i else p + (n - i) := by
    split
    · rw [Nat.mod_eq_sub_mod (by omega), Nat.mod_eq_of_lt (by omega)]
      omega
    · exact Nat.mod_eq_of_lt (by omega)
  rw [e1, e2]
  split <;> split <;> omega
theorem axis_eq (l : List Nat) : Km534.onAxis l = (List.range l.length).filter fun i => decide ((2 * i) % l.length ∈ keptBy Km534.back l) := by
  unfold Km534.onAxis
  apply List.filter_congr
  intro i hi
  have hi := List.mem_range.mp hi
  have h0 : 0 < l.length := by omega
  by_cases c : (2 * i) % l.length ∈ keptBy Km534.back l
  · rw [decide_eq_true c, List.any_eq_true]
    have c2 := List.mem_filter.mp c
    refine ⟨_, c2.1, ?_⟩
    rw [Bool.and_eq_true, beq_dec]
    exact ⟨c2.2, by rw [beq_iff_eq]; exact (axis_place (Nat.mod_lt _ h0) hi).mpr rfl⟩
  · rw [decide_eq_false c, List.any_eq_false]
    intro p hp q
    rw [Bool.and_eq_true, beq_iff_eq, beq_iff_eq] at q
    have e := (axis_place (List.mem_range.mp hp) hi).mp q.2
    exact c (e ▸ List.mem_filter.mpr ⟨hp, decide_eq_true q.1⟩)
/-! ### names -/
theorem rows_cons {l : List Nat} (h : l ≠ []) : ∃ rs, Km534.rows l = l :: rs ∧ least l rs = Km534.name l ∧ ∀ m ∈ rs, m.length = l.length := by
  have h0 : 0 < l.length := List.length_pos_iff.mpr h
  obtain ⟨n, hn⟩ : ∃ n, l.length = n + 1 := ⟨l.length - 1, by omega⟩
  have e : ∃ rs, Km534.rows l = l :: rs := by
    unfold Km534.rows
    rw [hn, List.range_succ_eq_map, List.map_cons, from_zero]
    exact ⟨_, rfl⟩
  obtain ⟨rs, e⟩ := e
  refine ⟨rs, e, ?_, fun m hm => rows_len (e ▸ List.mem_cons_of_mem _ hm)⟩
  rw [name_least, e]
  show least l rs = least (if Km534.less l l then l else l) rs
  rw [less_irrefl]
  rfl
/-- whether no ring alike to it comes before it, up to a place -/
theorem name_is {l : List Nat} (h : ∀ s, s < l.length → Km534.less (Km534.from_ l s) l = false ∧ Km534.less (Km534.back l s) l = false) : Km534.name l = l := least_self _ _ fun r hr => by
  rcases mem_rows.mp hr with ⟨p, hp, rfl⟩ | ⟨p, hp, rfl⟩
  · exact (h p hp).1
  · exact (h p hp).2
theorem name_not {l r : List Nat} (hr : r ∈ Km534.rows l) (h : Km534.less r l = true) : Km534.name l ≠ l := fun e => by
  have := name_le hr
  rw [e, h] at this
  cases this
theorem allRows_one (k : Nat) : Km534.allRows 1 k = [[k]] := by
  have e : Km534.allRows 1 k = (List.range (k + 1)).flatMap fun x => (Km534.allRows 0 (k - x)).map fun r => x :: r := by rw [Km534.allRows]
  rw [e, List.range_succ, List.flatMap_append]
  have h1 : (List.range k).flatMap (fun x => (Km534.allRows 0 (k - x)).map fun r => x :: r) = [] := by
    rw [List.flatMap_eq_nil_iff]
    intro x hx
    have hx := List.mem_range.mp hx
    rw [Km534.allRows, if_neg (by omega)]
    rfl
  rw [h1, List.flatMap_cons, Nat.sub_self, Km534.allRows, if_pos rfl]
  rfl
/-- the rows whose first number is below i -/
def rowsTo (n k i : Nat) : List (List Nat) := (List.range i).flatMap fun x => (Km534.allRows n (k - x)).map fun r => x :: r
theorem rowsTo_zero (n k : Nat) : rowsTo n k 0 = [] := rfl
theorem rowsTo_succ (n k i : Nat) : rowsTo n k (i + 1) = rowsTo n k i ++ (Km534.allRows n (k - i)).map fun r => i :: r := by
  unfold rowsTo
  rw [List.range_succ, List.flatMap_append, List.flatMap_cons, List.flatMap_nil, List.append_nil]
theorem rowsTo_all (n k : Nat) : rowsTo n k (k + 1) = Km534.allRows (n + 1) k := by rw [Km534.allRows]; rfl
theorem rowsTo_mono (n k i : Nat) : ∀ j, (rowsTo n k i).length ≤ (rowsTo n k (i + j)).length
  | 0 => Nat.le_refl _
  | j + 1 => by
    rw [show i + (j + 1) = (i + j) + 1 from rfl, rowsTo_succ, List.length_append]
    have := rowsTo_mono n k i j
    omega
theorem rowsTo_len {n k i : Nat} (hn : n ≤ 7) (hk : k ≤ 6) (hi : i ≤ k + 1) : (rowsTo n k i).length ≤ 1716 := by
  have h := rowsTo_mono n k i (k + 1 - i)
  rw [show i + (k + 1 - i) = k + 1 by omega, rowsTo_all] at h
  exact Nat.le_trans h (allRows_few (by omega) hk)
end Rv

set_option Elab.async false
set_option maxRecDepth 100000
set_option maxHeartbeats 2000000
namespace Rv
open PySem PySem.Spec PyProof.Rows L2 Evl
/-! ### more of what evaluates to what -/
section
variable {σ : L2.St} {H : Hp} {te : TE} {tr : TA} {sp : Sp} {E : XK} {xs ys vs : List V} {z : V}
/-- a call whose first argument is a new list -/
theorem el_callL (h : EvL te σ H xs) (hr : EvA tr σ H vs) (hs : ∀ p H1, H1 p = some (.lst xs) → Ex H H1 → SpL sp (.ref p :: vs) H1 ys) : EvL (tCall sp [] E (tCons te tr)) σ H ys := fun H1 e Q q =>
  h H1 e _ fun p H2 _ e2 hp => hr H2 (e.trans e2) _ fun H3 e3 => by
    show sp ((V.ref p :: vs) ++ []) H3 Q E
    rw [List.append_nil]
    exact hs p H2 hp (e.trans e2) H3 e3 Q (fun p4 H4 hp4 e4 h4 => q p4 H4 (fresh_back (e2.trans e3) hp4) ((e2.trans e3).trans e4) h4) E
theorem ev_callL (h : EvL te σ H xs) (hr : EvA tr σ H vs) (hs : ∀ p H1, H1 p = some (.lst xs) → Ex H H1 → SpV sp (.ref p :: vs) H1 z) : Ev (tCall sp [] E (tCons te tr)) σ H z := fun H1 e Q q =>
  h H1 e _ fun p H2 _ e2 hp => hr H2 (e.trans e2) _ fun H3 e3 => by
    show sp ((V.ref p :: vs) ++ []) H3 Q E
    rw [List.append_nil]
    exact hs p H2 hp (e.trans e2) H3 e3 Q (fun H4 e4 => q H4 ((e2.trans e3).trans e4)) E
theorem el_callA {ta : TA} (h : EvA ta σ H vs) (hs : SpL sp vs H xs) : EvL (tCall sp [] E ta) σ H xs := el_call h (by rw [List.append_nil]; exact hs)
theorem ev_callA {ta : TA} (h : EvA ta σ H vs) (hs : SpV sp vs H z) : Ev (tCall sp [] E ta) σ H z := ev_call h (by rw [List.append_nil]; exact hs)
end
theorem nv_ni (l : List Nat) : nv l = (l.map fun (x : Nat) => (x : Int)).map V.int := by
  rw [nv, List.map_map]
  rfl
/-- < of two rows of one length -/
theorem lex_less : ∀ a b : List Nat, a.length = b.length → HT.lexLt (a.map fun (x : Nat) => (x : Int)) (b.map fun (x : Nat) => (x : Int)) = Km534.less a b
  | [], [], _ => rfl
  | [], _ :: _, h => by simp at h
  | _ :: _, [], h => by simp at h
  | x :: a, y :: b, h => by
    have ih := lex_less a b (by simpa using h)
    rw [List.map_cons, List.map_cons, HT.lexLt_cons, ih, Km534.less]
    by_cases e : x = y
    · subst e
      simp
    · rw [if_neg (by omega)]
      have e1 : (x == y) = false := by simpa using e
      rw [e1, Bool.false_and, Bool.or_false]
      by_cases l : x < y
      · rw [decide_eq_true l, decide_eq_true (by omega)]
      · rw [decide_eq_false l, decide_eq_false (by omega)]
def pd (l : List Nat) : List PyData := l.map fun (x : Nat) => PyData.int (x : Int)
theorem dp_nv {K : PySem.W.Frag} {H : Hp} : ∀ l : List Nat, DpAll K H (nv l) (pd l)
  | [] => .nil
  | x :: l => .cons (.int _) (dp_nv l)
theorem canLay_pd : ∀ l : List Nat, PyData.canLayAll0 (pd l) = true
  | [] => by simp [pd, PyData.canLayAll0]
  | x :: l => by
    have ih := canLay_pd l
    show PyData.canLayAll0 (PyData.int (x : Int) :: pd l) = true
    rw [PyData.canLayAll0, ih]
    simp [PyData.canLay0]
theorem depth_pd : ∀ l : List Nat, PyData.depthAll (pd l) = 0
  | [] => by simp [pd, PyData.depthAll]
  | x :: l => by
    have ih := depth_pd l
    show PyData.depthAll (PyData.int (x : Int) :: pd l) = 0
    rw [PyData.depthAll, ih]
    simp [PyData.depth]
theorem shaped_pd (l : List Nat) : SeqAt.shaped (.list (pd l)) = true := by
  unfold SeqAt.shaped
  rw [PyData.canLay0, canLay_pd, PyData.depth, depth_pd]
  rfl
theorem eqv_pd : ∀ a b : List Nat, PyData.eqvAll (pd a) (pd b) = decide (a = b)
  | [], [] => by simp [pd, PyData.eqvAll]
  | [], y :: b => by simp [pd, PyData.eqvAll]
  | x :: a, [] => by simp [pd, PyData.eqvAll]
  | x :: a, y :: b => by
    have ih := eqv_pd a b
    show PyData.eqvAll (PyData.int (x : Int) :: pd a) (PyData.int (y : Int) :: pd b) = _
    rw [PyData.eqvAll, ih, PyData.eqv]
    by_cases h1 : x = y
    · subst h1
      simp
    · have : ((x : Int) == (y : Int)) = false := by
        simp only [beq_eq_false_iff_ne]
        omega
      rw [this]
      simp [h1]
theorem rv_eqN {K : PySem.W.Frag} {H : Hp} {p q : Addr} {a b : List Nat} (hp : SqL K H p (nv a)) (hq : SqL K H q (nv b)) : RV (rEqD K) (.ref p) (.ref q) H (.bl (decide (a = b))) := fun H1 e Q k => by
  refine ⟨.list (pd a), .list (pd b), .lst (ex_l e hp) (dp_nv a), .lst (ex_l e hq) (dp_nv b), shaped_pd a, shaped_pd b, ?_⟩
  rw [PyData.eqv, eqv_pd]
  exact k H1 (Ex.refl H1)
theorem rv_ltN {K : PySem.W.Frag} {H : Hp} {p q : Addr} {a b : List Nat} (hp : SqL K H p (nv a)) (hq : SqL K H q (nv b)) (hl : a.length = b.length) : RV (rLtL K) (.ref p) (.ref q) H (.bl (Km534.less a b)) := fun H1 e Q k => by
  rw [nv_ni] at hp hq
  refine ⟨p, q, _, _, rfl, rfl, ex_l e hp, ex_l e hq, ?_⟩
  rw [lex_less a b hl]
  exact k H1 (Ex.refl H1)
/-! ### the mathematics of rows -/
theorem getD_map {l : List Nat} {f : Nat → Nat} {i : Nat} (h : i < l.length) : (l.map f).getD i 0 = f (l.getD i 0) := by
  rw [List.getD_eq_getElem?_getD, List.getD_eq_getElem?_getD, List.getElem?_map, List.getElem?_eq_getElem h]
  rfl
theorem from_map (l : List Nat) (f : Nat → Nat) (p : Nat) : Km534.from_ (l.map f) p = (Km534.from_ l p).map f := by
  unfold Km534.from_
  rw [List.map_map, List.length_map]
  apply List.map_congr_left
  intro i hi
  have : i < l.length := List.mem_range.mp hi
  exact getD_map (Nat.mod_lt _ (by omega))
theorem back_map (l : List Nat) (f : Nat → Nat) (p : Nat) : Km534.back (l.map f) p = (Km534.back l p).map f := by
  unfold Km534.back
  rw [List.map_map, List.length_map]
  apply List.map_congr_left
  intro i hi
  have : i < l.length := List.mem_range.mp hi
  exact getD_map (Nat.mod_lt _ (by omega))
/-! ### rows seen -/
/-- (counts, eyes, p): a new list of numbers -/
def spRow (K : PySem.W.Frag) (g : Km534.Desk → Nat → List Nat) : Sp := fun vs H Q _ => ∃ (a : Addr) (l : List Nat) (e p : Nat), vs = [.ref a, .int (e : Int), .int (p : Int)] ∧ SqL K H a (nv l) ∧ l.length ≤ 1000 ∧ RetL (nv (g ⟨l, e⟩ p)) H Q
/-- (counts, eyes, p): a truth value -/
def spYes (K : PySem.W.Frag) (g : Km534.Desk → Nat → Bool) : Sp := fun vs H Q _ => ∃ (a : Addr) (l : List Nat) (e p : Nat), vs = [.ref a, .int (e : Int), .int (p : Int)] ∧ SqL K H a (nv l) ∧ l.length ≤ 1000 ∧ RetV (.bl (g ⟨l, e⟩ p)) H Q
/-- a new pair of two new lists -/
def RetP (xs ys : List V) (H : Hp) (Q : VK) : Prop := ∀ p a b H2, H p = none → H a = none → H b = none → Ex H H2 → H2 p = some (.tup [.ref a, .ref b]) → H2 a = some (.lst xs) → H2 b = some (.lst ys) → Q (.ref p) H2
def spView (K : PySem.W.Frag) : Sp := fun vs H Q _ => ∃ (a : Addr) (l : List Nat) (e p : Nat), vs = [.ref a, .int (e : Int), .int (p : Int)] ∧ SqL K H a (nv l) ∧ l.length ≤ 1000 ∧ RetP (nv (Km534.view ⟨l, e⟩ p).1) (nv (Km534.view ⟨l, e⟩ p).2) H Q
section
variable {P : Program} {w : World} {K : PySem.W.Frag} {mg : Str → Option Value} {base : Heap}
theorem row_on (l : List Nat) (e p : Nat) : Km534.from_ (l.map (Km534.sees e)) p = Km534.rowOn ⟨l, e⟩ p := from_map l _ p
theorem row_back (l : List Nat) (e p : Nat) : Km534.back (l.map (Km534.sees e)) p = Km534.rowBack ⟨l, e⟩ p := back_map l _ p
theorem rowOn_len (d : Km534.Desk) (p : Nat) : (Km534.rowOn d p).length = d.ring.length := by rw [Km534.rowOn, List.length_map, from_len]
theorem rowBack_len (d : Km534.Desk) (p : Nat) : (Km534.rowBack d p).length = d.ring.length := by rw [Km534.rowBack, List.length_map, back_len]
abbrev sRising : Stmt := topS 5
abbrev sFalling : Stmt := topS 6
theorem scRising : FnScope ["counts", "eyes", "p"] ["counts", "eyes", "p"] (defScope sRising) := ⟨rfl, rfl, rfl, by decide +kernel, rfl, by decide +kernel, by decide +kernel⟩
theorem scFalling : FnScope ["counts", "eyes", "p"] ["counts", "eyes", "p"] (defScope sFalling) := ⟨rfl, rfl, rfl, by decide +kernel, rfl, by decide +kernel, by decide +kernel⟩
theorem ok_rising {f : Addr} {fd : FuncData} (T1 : DefOk P w K mg base "turned" 1 ["row", "s"] (spRot K Km534.from_)) (T2 : DefOk P w K mg base "looked_at" 2 ["counts", "eyes"] (spLook K)) (F : Fun K "rising_row" "rising_row" sRising f fd) :
    FnOk P w K mg base CX0 3 f fd ["counts", "eyes", "p"] (spRow K Km534.rowOn) := by
  refine F.ok scRising (fun vs H Q E h => ?_) (fun cdv A outer s H vs Q E hr h => ?_)
  · obtain ⟨a, l, e, p, rfl, _⟩ := h
    rfl
  · obtain ⟨a, l, e, p, rfl, hl, hn, k⟩ := h
    refine ⟨_, pss_one (ps_ret (pe_def T1 (hr.mono (by decide)) rfl (pa_cons (pe_def T2 hr rfl (pa_cons (pv 0) (pa_cons (pv 1) pa_nil))) (pa_cons (pv 2) pa_nil)))), ?_⟩
    refine s_retL (el_callL (el_callA (ea_cons (ev_var rfl) (ea_cons (ev_var rfl) ea_nil)) fun H1 e1 Q q E => ⟨a, l, e, rfl, ex_l e1 hl, hn, q⟩) (ea_cons (ev_var rfl) ea_nil)
      fun b H1 hb e1 H2 e2 Q q E => ⟨b, l.map (Km534.sees e), p, rfl, sq_of (e2 _ _ hb), by rw [List.length_map]; exact hn, q⟩) fun b H1 hb e1 h1 => k.go (Ex.refl _) hb e1 ?_
    rw [h1, row_on]
theorem ok_falling {f : Addr} {fd : FuncData} (T1 : DefOk P w K mg base "mirrored" 1 ["row", "s"] (spRot K Km534.back)) (T2 : DefOk P w K mg base "looked_at" 2 ["counts", "eyes"] (spLook K)) (F : Fun K "falling_row" "falling_row" sFalling f fd) :
    FnOk P w K mg base CX0 3 f fd ["counts", "eyes", "p"] (spRow K Km534.rowBack) := by
  refine F.ok scFalling (fun vs H Q E h => ?_) (fun cdv A outer s H vs Q E hr h => ?_)
  · obtain ⟨a, l, e, p, rfl, _⟩ := h
    rfl
  · obtain ⟨a, l, e, p, rfl, hl, hn, k⟩ := h
    refine ⟨_, pss_one (ps_ret (pe_def T1 (hr.mono (by decide)) rfl (pa_cons (pe_def T2 hr rfl (pa_cons (pv 0) (pa_cons (pv 1) pa_nil))) (pa_cons (pv 2) pa_nil)))), ?_⟩
    refine s_retL (el_callL (el_callA (ea_cons (ev_var rfl) (ea_cons (ev_var rfl) ea_nil)) fun H1 e1 Q q E => ⟨a, l, e, rfl, ex_l e1 hl, hn, q⟩) (ea_cons (ev_var rfl) ea_nil)
      fun b H1 hb e1 H2 e2 Q q E => ⟨b, l.map (Km534.sees e), p, rfl, sq_of (e2 _ _ hb), by rw [List.length_map]; exact hn, q⟩) fun b H1 hb e1 h1 => k.go (Ex.refl _) hb e1 ?_
    rw [h1, row_back]
/-! ### view_from -/
abbrev sView : Stmt := topS 7
theorem scView : FnScope ["counts", "eyes", "p", "rising", "falling"] ["counts", "eyes", "p"] (defScope sView) := ⟨rfl, rfl, rfl, by decide +kernel, rfl, by decide +kernel, by decide +kernel⟩
theorem ok_view {f : Addr} {fd : FuncData} (T1 : DefOk P w K mg base "rising_row" 3 ["counts", "eyes", "p"] (spRow K Km534.rowOn)) (T2 : DefOk P w K mg base "falling_row" 3 ["counts", "eyes", "p"] (spRow K Km534.rowBack)) (F : Fun K "view_from" "view_from" sView f fd) :
    FnOk P w K mg base CX0 4 f fd ["counts", "eyes", "p"] (spView K) := by
  refine F.ok scView (fun vs H Q E h => ?_) (fun cdv A outer s H vs Q E hr h => ?_)
  · obtain ⟨a, l, e, p, rfl, _⟩ := h
    rfl
  · obtain ⟨a, l, e, p, rfl, hl, hn, k⟩ := h
    refine ⟨_, pss_cons (ps_set (i := 3) scView.nd rfl (Or.inl rfl) (pe_def T1 hr rfl (pa_cons (pv 0) (pa_cons (pv 1) (pa_cons (pv 2) pa_nil)))))
      (pss_cons (ps_set (i := 4) scView.nd rfl (Or.inl rfl) (pe_def T2 hr rfl (pa_cons (pv 0) (pa_cons (pv 1) (pa_cons (pv 2) pa_nil)))))
      (pss_cons (ps_if (pt_cmpR (op_ltL hr.units0) (pv 4) (pv 3) (nomark _)) (pss_one (ps_ret (pe_tup (pa_cons (pv 4) (pa_cons (pv 3) pa_nil))))) pss_nil)
      (pss_one (ps_ret (pe_tup (pa_cons (pv 3) (pa_cons (pv 4) pa_nil))))))), ?_⟩
    refine q_asgL (el_callA (ea_cons (ev_var rfl) (ea_cons (ev_var rfl) (ea_cons (ev_var rfl) ea_nil))) fun H1 e1 Q q E => ⟨a, l, e, p, rfl, ex_l e1 hl, hn, q⟩) fun r H1 hr1 e1 h1 => ?_
    refine q_asgL (el_callA (ea_cons (ev_var rfl) (ea_cons (ev_var rfl) (ea_cons (ev_var rfl) ea_nil))) fun H2 e2 Q q E => ⟨a, l, e, p, rfl, ex_l (e1.trans e2) hl, hn, q⟩) fun t H2 ht e2 h2 => ?_
    refine q_when (et_test (ev_op (ev_var rfl) (ev_var rfl) (rv_ltN (sq_of h2) (sq_of (e2 _ _ h1)) (by rw [rowOn_len, rowBack_len])))) (fun hb H3 e3 => ?_) (fun hb H3 e3 => ?_)
    · refine s_retU (eu_tup (ea_cons (ev_var rfl) (ea_cons (ev_var rfl) ea_nil)) (by show 2 ≤ 100000; decide)) fun q H4 hq e4 h4 => ?_
      refine k q t r H4 (fresh_back ((e1.trans e2).trans e3) hq) (fresh_back e1 ht) hr1 (((e1.trans e2).trans e3).trans e4) h4 ?_ ?_
      · rw [Km534.view, if_pos hb]
        exact e4 _ _ (e3 _ _ h2)
      · rw [Km534.view, if_pos hb]
        exact e4 _ _ (e3 _ _ (e2 _ _ h1))
    · refine s_retU (eu_tup (ea_cons (ev_var rfl) (ea_cons (ev_var rfl) ea_nil)) (by show 2 ≤ 100000; decide)) fun q H4 hq e4 h4 => ?_
      refine k q r t H4 (fresh_back ((e1.trans e2).trans e3) hq) hr1 (fresh_back e1 ht) (((e1.trans e2).trans e3).trans e4) h4 ?_ ?_
      · rw [Km534.view, if_neg (by rw [hb]; exact Bool.false_ne_true)]
        exact e4 _ _ (e3 _ _ (e2 _ _ h1))
      · rw [Km534.view, if_neg (by rw [hb]; exact Bool.false_ne_true)]
        exact e4 _ _ (e3 _ _ h2)
/-! ### is_even_handed, lesser_row, have_same_view -/
theorem even_dec (d : Km534.Desk) (p : Nat) : Km534.even_ d p = decide (Km534.rowOn d p = Km534.rowBack d p) := by
  unfold Km534.even_
  by_cases h : Km534.rowOn d p = Km534.rowBack d p
  · simp [h]
  · simp [h]
abbrev sEven : Stmt := topS 8
theorem scEven : FnScope ["counts", "eyes", "p"] ["counts", "eyes", "p"] (defScope sEven) := ⟨rfl, rfl, rfl, by decide +kernel, rfl, by decide +kernel, by decide +kernel⟩
theorem ok_even {f : Addr} {fd : FuncData} (T1 : DefOk P w K mg base "rising_row" 3 ["counts", "eyes", "p"] (spRow K Km534.rowOn)) (T2 : DefOk P w K mg base "falling_row" 3 ["counts", "eyes", "p"] (spRow K Km534.rowBack)) (F : Fun K "is_even_handed" "is_even_handed" sEven f fd) :
    FnOk P w K mg base CX0 4 f fd ["counts", "eyes", "p"] (spYes K Km534.even_) := by
  refine F.ok scEven (fun vs H Q E h => ?_) (fun cdv A outer s H vs Q E hr h => ?_)
  · obtain ⟨a, l, e, p, rfl, _⟩ := h
    rfl
  · obtain ⟨a, l, e, p, rfl, hl, hn, k⟩ := h
    refine ⟨_, pss_one (ps_ret (pe_cmpR (op_eqD hr.units) (pe_def T1 hr rfl (pa_cons (pv 0) (pa_cons (pv 1) (pa_cons (pv 2) pa_nil)))) (pe_def T2 hr rfl (pa_cons (pv 0) (pa_cons (pv 1) (pa_cons (pv 2) pa_nil)))) (nomark _))), ?_⟩
    refine s_ret (ev_opLL (el_callA (ea_cons (ev_var rfl) (ea_cons (ev_var rfl) (ea_cons (ev_var rfl) ea_nil))) fun H1 e1 Q q E => ⟨a, l, e, p, rfl, ex_l e1 hl, hn, q⟩)
      (el_callA (ea_cons (ev_var rfl) (ea_cons (ev_var rfl) (ea_cons (ev_var rfl) ea_nil))) fun H1 e1 Q q E => ⟨a, l, e, p, rfl, ex_l e1 hl, hn, q⟩) (fun b c H1 hb hc e1 => rv_eqN (sq_of hb) (sq_of hc))) fun H1 e1 => ?_
    have r := k H1 e1
    rw [even_dec] at r
    exact r
abbrev sLesser : Stmt := topS 9
theorem scLesser : FnScope ["counts", "eyes", "p"] ["counts", "eyes", "p"] (defScope sLesser) := ⟨rfl, rfl, rfl, by decide +kernel, rfl, by decide +kernel, by decide +kernel⟩
theorem ok_lesser {f : Addr} {fd : FuncData} (T1 : DefOk P w K mg base "view_from" 4 ["counts", "eyes", "p"] (spView K)) (F : Fun K "lesser_row" "lesser_row" sLesser f fd) :
    FnOk P w K mg base CX0 5 f fd ["counts", "eyes", "p"] (spRow K fun d p => (Km534.view d p).1) := by
  refine F.ok scLesser (fun vs H Q E h => ?_) (fun cdv A outer s H vs Q E hr h => ?_)
  · obtain ⟨a, l, e, p, rfl, _⟩ := h
    rfl
  · obtain ⟨a, l, e, p, rfl, hl, hn, k⟩ := h
    refine ⟨_, pss_one (ps_ret (pe_ix ix_tup (pe_def T1 hr rfl (pa_cons (pv 0) (pa_cons (pv 1) (pa_cons (pv 2) pa_nil)))) pe_int (fun _ _ => rfl))), ?_⟩
    refine ⟨_, rfl, _, rfl, _, rfl, a, l, e, p, rfl, hl, hn, fun q b c H2 hq hb hc e2 h2 h3 _ => ?_⟩
    exact ⟨q, _, _, _, rfl, rfl, SqT.of h2, atI_nat (j := 0) rfl, k b H2 hb e2 h3⟩
abbrev sSame : Stmt := topS 10
theorem scSame : FnScope ["counts", "eyes", "p", "q"] ["counts", "eyes", "p", "q"] (defScope sSame) := ⟨rfl, rfl, rfl, by decide +kernel, rfl, by decide +kernel, by decide +kernel⟩
def spSame (K : PySem.W.Frag) : Sp := fun vs H Q _ => ∃ (a : Addr) (l : List Nat) (e p q : Nat), vs = [.ref a, .int (e : Int), .int (p : Int), .int (q : Int)] ∧ SqL K H a (nv l) ∧ l.length ≤ 1000 ∧ RetV (.bl (decide ((Km534.view ⟨l, e⟩ p).1 = (Km534.view ⟨l, e⟩ q).1))) H Q
theorem ok_same {f : Addr} {fd : FuncData} (T1 : DefOk P w K mg base "lesser_row" 5 ["counts", "eyes", "p"] (spRow K fun d p => (Km534.view d p).1)) (F : Fun K "have_same_view" "have_same_view" sSame f fd) :
    FnOk P w K mg base CX0 6 f fd ["counts", "eyes", "p", "q"] (spSame K) := by
  refine F.ok scSame (fun vs H Q E h => ?_) (fun cdv A outer s H vs Q E hr h => ?_)
  · obtain ⟨a, l, e, p, q, rfl, _⟩ := h
    rfl
  · obtain ⟨a, l, e, p, q, rfl, hl, hn, k⟩ := h
    refine ⟨_, pss_one (ps_ret (pe_cmpR (op_eqD hr.units) (pe_def T1 hr rfl (pa_cons (pv 0) (pa_cons (pv 1) (pa_cons (pv 2) pa_nil)))) (pe_def T1 hr rfl (pa_cons (pv 0) (pa_cons (pv 1) (pa_cons (pv 3) pa_nil)))) (nomark _))), ?_⟩
    exact s_ret (ev_opLL (el_callA (ea_cons (ev_var rfl) (ea_cons (ev_var rfl) (ea_cons (ev_var rfl) ea_nil))) fun H1 e1 Q q' E => ⟨a, l, e, p, rfl, ex_l e1 hl, hn, q'⟩)
      (el_callA (ea_cons (ev_var rfl) (ea_cons (ev_var rfl) (ea_cons (ev_var rfl) ea_nil))) fun H1 e1 Q q' E => ⟨a, l, e, q, rfl, ex_l e1 hl, hn, q'⟩) (fun b c H1 hb hc e1 => rv_eqN (sq_of hb) (sq_of hc))) k
/-! ### places_alike -/
theorem taken_filter (d : Km534.Desk) (f : Nat → Bool) : (Km534.taken d).filter f = (List.range d.ring.length).filter fun q => decide (0 < d.ring.getD q 0) && f q := by
  unfold Km534.taken Km534.at_ Km534.n_
  rw [List.filter_filter]
  congr 1
  funext q
  exact Bool.and_comm _ _
theorem alikeTo_eq (d : Km534.Desk) (p : Nat) : nv (alikeTo d p) = given d.ring.length (fun q => decide (0 < d.ring.getD q 0) && decide ((Km534.view d p).1 = (Km534.view d q).1)) (fun q => V.int (q : Int)) := by
  unfold alikeTo given nv
  rw [taken_filter]
  congr 2
  funext q
  congr 1
  by_cases h : (Km534.view d q).1 = (Km534.view d p).1
  · simp [h]
  · rw [decide_eq_false (fun e => h e.symm)]
    simpa using h
abbrev sAlike : Stmt := topS 11
theorem scAlike : FnScope ["counts", "eyes", "p", "q"] ["counts", "eyes", "p"] (defScope sAlike) := ⟨rfl, rfl, rfl, by decide +kernel, rfl, by decide +kernel, by decide +kernel⟩
abbrev rGt : R2 := rI0 fun i j => .bl (decide (j < i))
theorem ok_alike {f : Addr} {fd : FuncData} (B : Blt mg) (T1 : DefOk P w K mg base "have_same_view" 6 ["counts", "eyes", "p", "q"] (spSame K)) (F : Fun K "places_alike" "places_alike" sAlike f fd) :
    FnOk P w K mg base CX0 7 f fd ["counts", "eyes", "p"] (spRow K alikeTo) := by
  refine F.ok scAlike (fun vs H Q E h => ?_) (fun cdv A outer s H vs Q E hr h => ?_)
  · obtain ⟨a, l, e, p, rfl, _⟩ := h
    rfl
  · obtain ⟨a, l, e, p, rfl, hl, hn, k⟩ := h
    refine ⟨_, pss_one (ps_ret (pe_lc (own := [("q", 3)]) (g := gName 3) (tt := tAnd (tTest (tOp rGt (tOp (rIxL K) (tVar 0) (tVar 3)) (tC (.int 0)))) (tB (tCall (spSame K) [] E0 (tCons (tVar 0) (tCons (tVar 1) (tCons (tVar 2) (tCons (tVar 3) tNil))))))) (te := tVar 3) rfl scAlike.nd (pi_range1 rfl B.range (pa_cons (pe_callB call_len_seq (by rfl) B.len PySem.boot_len (pa_cons (pv 0) pa_nil)) pa_nil)) (blkOk_by (N := ["counts", "eyes", "p", "q"]) (sc := defScope sAlike) (by decide +kernel))
        (fun _ _ _ _ _ => pg_name (i := 3) scAlike.nd rfl (Or.inl rfl))
        (fun _ _ _ _ _ => pts_one (PW.pt (pw_and (pt_cmpR op_gt (pe_ix ix_list (pv 0) (pv 3) (fun _ _ => rfl)) pe_int (nomark _)) (pw_and1 (pt_val (pe_def T1 hr rfl (pa_cons (pv 0) (pa_cons (pv 1) (pa_cons (pv 2) (pa_cons (pv 3) pa_nil)))))))))) (fun _ _ _ _ _ => pv 3))), ?_⟩
    refine s_retL (el_lcR1 (fun q => decide (0 < l.getD q 0) && decide ((Km534.view ⟨l, e⟩ p).1 = (Km534.view ⟨l, e⟩ q).1)) (fun q => V.int (q : Int)) (ea_cons (ev_len (ev_var rfl) hl) ea_nil) (by rw [nv_len]; omega) (fun _ => rfl)
      (fun i H1 e1 hi => ?_) (fun i H1 e1 hi _ => ev_var rfl)) fun b H1 hb e1 h1 => k.go (Ex.refl _) hb e1 ?_
    · rw [nv_len] at hi
      refine et_and (et_is (et_test (ev_op (ev_op (ev_var rfl) (ev_var rfl) (rv_ixL (ex_l e1 hl) (atI_nat (nv_at (by omega))))) ev_c rv_I0)) ?_) (fun _ => et_B (ev_callA (ea_cons (ev_var rfl) (ea_cons (ev_var rfl) (ea_cons (ev_var rfl) (ea_cons (ev_var rfl) ea_nil)))) fun H2 e2 Q q E => ⟨a, l, e, p, i, rfl, ex_l (e1.trans e2) hl, hn, q⟩))
      by_cases h : 0 < l.getD i 0
      · rw [decide_eq_true h, decide_eq_true (by omega)]
      · rw [decide_eq_false h, decide_eq_false (by omega)]
    · rw [h1, nv_len, Int.toNat_natCast, alikeTo_eq]
end
end Rv

set_option Elab.async false
set_option maxRecDepth 100000
set_option maxHeartbeats 2000000
namespace Rv
open PySem PySem.Spec PyProof.Rows L2 Evl
open Km534 (Desk)
/-! ### fields, whole numbers of the module -/
def iv (l : List Int) : List V := l.map V.int
theorem nv_iv (l : List Nat) : nv l = iv (Km534.n2i l) := nv_ni l
def Num (mg : Str → Option Value) (x : Str) (i : Int) : Prop := ∃ t, mg x = some (.int i t)
theorem pe_num {X : Cx} {x : Str} {i : Int} {pos : Pos} (hg : Gl X x) (h : Num X.mg x i) (hd : (x == ("__debug__" : Str)) = false := by decide) : PE X (.Name x pos) (tC (.int i)) := by
  obtain ⟨t, h⟩ := h
  exact pe_glob hg h ⟨t, rfl⟩ hd
section
variable {K : PySem.W.Frag} {σ : L2.St} {H : Hp} {ta te : TE} {tz : TS} {D : Ends} {a C dx : Addr} {f : Str} {fs : List (Str × V)} {v : V} {xs : List V}
theorem ev_fld (h : Ev ta σ H (.ref a)) (hi : H a = some (.ins C dx fs)) (c : Cls K C) (n : NoAttr K C f) (hl : fs.lookup f = some v) : Ev (tFld K ta f) σ H v := fun H1 e _ q =>
  h H1 e _ fun H2 e2 => ⟨a, C, dx, fs, v, rfl, e2 _ _ (e _ _ hi), c, n, hl, q H2 e2⟩
theorem q_fld (h : Ev te σ H v) (ha : Ev ta σ H (.ref a)) (hi : H a = some (.ins C dx fs)) (c : Cls K C) (n : NoAttr K C f) (hs : fs.length < 1000) (k : ∀ H1, Ex H H1 → tz D σ (upd H1 a (.ins C dx (putF f v fs)))) : tSeq (sFld K ta te f) tz D σ H :=
  h H (Ex.refl H) _ fun H1 e1 => ha H1 e1 _ fun H2 e2 => ⟨a, C, dx, fs, rfl, e2 _ _ (e1 _ _ hi), c, n, hs, k H2 (e1.trans e2)⟩
theorem q_fldL (h : EvL te σ H xs) (ha : Ev ta σ H (.ref a)) (hi : H a = some (.ins C dx fs)) (c : Cls K C) (n : NoAttr K C f) (hs : fs.length < 1000) (k : ∀ p H1, H p = none → Ex H H1 → H1 p = some (.lst xs) → tz D σ (upd H1 a (.ins C dx (putF f (.ref p) fs)))) : tSeq (sFld K ta te f) tz D σ H :=
  h H (Ex.refl H) _ fun p H1 hp e1 h1 => ha H1 e1 _ fun H2 e2 => ⟨a, C, dx, fs, rfl, e2 _ _ (e1 _ _ hi), c, n, hs, k p H2 hp (e1.trans e2) (e2 _ _ h1)⟩
end
/-! ### the ring as it lies in the heap -/
def rf (c : Addr) (e : Nat) : List (Str × V) := [("counts", .ref c), ("eyes", .int (e : Int))]
theorem lk_here {k : Str} {v : V} {r : List (Str × V)} : List.lookup k ((k, v) :: r) = some v := by
  have e : (k == k) = true := beq_self_eq_true k
  simp only [List.lookup, e]
theorem lk_past {k g : Str} {v : V} {r : List (Str × V)} (h : (k == g) = false) : List.lookup k ((g, v) :: r) = List.lookup k r := by
  simp only [List.lookup, h]
theorem put_here {f : Str} {v x : V} {r : List (Str × V)} : putF f v ((f, x) :: r) = (f, v) :: r := if_pos rfl
theorem put_past {f g : Str} {v x : V} {r : List (Str × V)} (h : ¬ g = f) : putF f v ((g, x) :: r) = (g, x) :: putF f v r := if_neg h
theorem rf_counts (c : Addr) (e : Nat) : (rf c e).lookup ("counts" : Str) = some (.ref c) := lk_here
theorem rf_eyes (c : Addr) (e : Nat) : (rf c e).lookup ("eyes" : Str) = some (.int (e : Int)) := (lk_past (by decide +kernel)).trans lk_here
theorem rf_putC (c c' : Addr) (e : Nat) : putF "counts" (.ref c') (rf c e) = rf c' e := put_here
theorem rf_putE (c : Addr) (e e' : Nat) : putF "eyes" (.int (e' : Int)) (rf c e) = rf c e' := (put_past (by decide +kernel)).trans (congrArg _ put_here)
theorem rf_new (c : Addr) : putF "eyes" (.int ((0 : Nat) : Int)) (putF "counts" (.ref c) []) = rf c 0 := (put_past (by decide +kernel)).trans rfl
structure RingAt (C : Addr) (H : Hp) (r c : Addr) (d : Desk) : Prop where
  ins : ∃ dx, H r = some (.ins C dx (rf c d.eyes))
  lst : H c = some (.lst (nv d.ring))
theorem RingAt.ne {C : Addr} {H : Hp} {r c : Addr} {d : Desk} (R : RingAt C H r c d) : r ≠ c := by
  obtain ⟨dx, h⟩ := R.ins
  exact ne_of h R.lst (by intro z; cases z)
theorem RingAt.ext {C : Addr} {H H' : Hp} {r c : Addr} {d : Desk} (R : RingAt C H r c d) (e : Ex H H') : RingAt C H' r c d := by
  obtain ⟨dx, h⟩ := R.ins
  exact ⟨⟨dx, e _ _ h⟩, e _ _ R.lst⟩
/-- what a call on the ring leaves: a new list of answers, the ring behind it, all else as it was -/
def RetA (C r c : Addr) (o : Desk × List Int) (H : Hp) (Q : VK) : Prop := ∀ (p c' : Addr) (H' : Hp), H p = none → p ≠ c' → (c' = c ∨ H c' = none) → RingAt C H' r c' o.1 →
  (∀ b u, H b = some u → b ≠ r → b ≠ c → H' b = some u) → H' p = some (.lst (iv o.2)) → Q (.ref p) H'
/-- a call that changes nothing -/
theorem RetA.keep {C r c : Addr} {d : Desk} {xs : List Int} {H H1 H2 : Hp} {Q : VK} {p : Addr} (k : RetA C r c (d, xs) H Q) (R : RingAt C H r c d) (e : Ex H H1) (hp : H1 p = none) (e2 : Ex H1 H2) (h2 : H2 p = some (.lst (iv xs))) : Q (.ref p) H2 :=
  k p c H2 (fresh_back e hp) (fun z => by rw [z, e _ _ R.lst] at hp; cases hp) (.inl rfl) (R.ext (e.trans e2)) (fun b u hb _ _ => e2 _ _ (e _ _ hb)) h2
structure Txt (K : PySem.W.Frag) (mg : Str → Option Value) (C : Addr) : Prop where
  blt : Blt mg
  cl : Cls K C
  nC : NoAttr K C "counts"
  nE : NoAttr K C "eyes"
  gC : mg "Ring" = some (.ref C)
  noPlace : Num mg "NO_SUCH_PLACE" (-2)
  notBegun : Num mg "NOT_BEGUN" (-11)
  outOf : Num mg "OUT_OF_BOUNDS" (-22)
  tooMany : Num mg "TOO_MANY_ROBOTS" (-28)
  nobody : Num mg "NOBODY_THERE" (-33)
  leastP : Num mg "LEAST_PLACES" 3
  mostP : Num mg "MOST_PLACES" 8
  mostR : Num mg "MOST_ROBOTS" 6
  lastE : Num mg "LAST_EYES" 2
/-! ### the mirror -/
def aBegin (d : Desk) (n e : Nat) : Desk × List Int := if n < 3 ∨ 8 < n ∨ 2 < e then (d, [-22]) else (⟨List.replicate n 0, e⟩, [0])
def aPut (d : Desk) (p x : Nat) : Desk × List Int := if d.ring.length ≤ p then (d, [-2]) else if 6 < x then (d, [-22]) else if 6 < Km534.sum (d.ring.set p x) then (d, [-28]) else ({ d with ring := d.ring.set p x }, [(d.ring.getD p 0 : Nat)])
def aEyes (d : Desk) (e : Nat) : Desk × List Int := if 2 < e then (d, [-22]) else ({ d with eyes := e }, [(d.eyes : Nat)])
def aTurn (d : Desk) (s : Nat) : Desk × List Int := if d.ring.length ≤ s then (d, [-2]) else ({ d with ring := Km534.from_ d.ring s }, [0])
def aMirror (d : Desk) (s : Nat) : Desk × List Int := if d.ring.length ≤ s then (d, [-2]) else ({ d with ring := Km534.back d.ring s }, [0])
def spAct1 (C : Addr) (F : Desk → Nat → Desk × List Int) : Sp := fun vs H Q _ => ∃ (r c : Addr) (d : Desk) (x : Nat), vs = [.ref r, .int (x : Int)] ∧ RingAt C H r c d ∧ d.ring.length ≤ 8 ∧ RetA C r c (F d x) H Q
def spAct2 (C : Addr) (F : Desk → Nat → Nat → Desk × List Int) : Sp := fun vs H Q _ => ∃ (r c : Addr) (d : Desk) (x y : Nat), vs = [.ref r, .int (x : Int), .int (y : Int)] ∧ RingAt C H r c d ∧ d.ring.length ≤ 8 ∧ RetA C r c (F d x y) H Q
/-- __init__ -/
def spInit (C : Addr) : Sp := fun vs H Q _ => ∃ (p dx : Addr), vs = [.ref p] ∧ H p = some (.ins C dx []) ∧ ∀ (H' : Hp) (c : Addr), H c = none → RingAt C H' p c ⟨[], 0⟩ → (∀ b o, H b = some o → b ≠ p → H' b = some o) → Q .non H'
section
variable {P : Program} {w : World} {K : PySem.W.Frag} {mg : Str → Option Value} {base : Heap} {C : Addr}
abbrev sInit : Stmt := inClass (topS 57) 0
theorem scInit : FnScope ["self"] ["self"] (defScope sInit) := ⟨rfl, rfl, rfl, by decide +kernel, rfl, by decide +kernel, by decide +kernel⟩
theorem ok_init {f : Addr} {fd : FuncData} (T : Txt K mg C) (F : Fun K "__init__" "Ring.__init__" sInit f fd) : FnOk P w K mg base CX0 1 f fd ["self"] (spInit C) := by
  refine F.ok scInit (fun vs H Q E h => ?_) (fun cdv A outer s H vs Q E hr h => ?_)
  · obtain ⟨p, dx, rfl, _⟩ := h
    rfl
  · obtain ⟨p, dx, rfl, hp, k⟩ := h
    refine ⟨_, pss_cons (ps_fld (pv 0) (pe_lst pa_nil) rfl) (pss_one (ps_fld (pv 0) pe_int rfl)), ?_⟩
    refine q_fldL (el_lst ea_nil (by show 0 ≤ 100000; decide)) (ev_var rfl) hp T.cl T.nC (by show 0 < 1000; decide) fun c H1 hc e1 h1 => ?_
    refine ⟨_, rfl, p, C, dx, _, rfl, upd_same, T.cl, T.nE, (by show 1 < 1000; decide), ?_⟩
    have hcp : c ≠ p := fun z => by rw [z, hp] at hc; cases hc
    refine k _ c hc ⟨⟨dx, Eq.trans upd_same (congrArg (fun q => some (HO.ins C dx q)) (rf_new c))⟩, ?_⟩ fun b o hb hne => ?_
    · rw [upd_ne hcp, upd_ne hcp]
      exact h1
    · rw [upd_ne hne, upd_ne hne]
      exact e1 _ _ hb
abbrev sBegin : Stmt := topS 58
theorem scBegin : FnScope ["ring", "n", "e", "place"] ["ring", "n", "e"] (defScope sBegin) := ⟨rfl, rfl, rfl, by decide +kernel, rfl, by decide +kernel, by decide +kernel⟩
theorem ok_begin {f : Addr} {fd : FuncData} (T : Txt K mg C) (F : Fun K "answer_begin" "answer_begin" sBegin f fd) : FnOk P w K mg base CX0 1 f fd ["ring", "n", "e"] (spAct2 C aBegin) := by
  refine F.ok scBegin (fun vs H Q E h => ?_) (fun cdv A outer s H vs Q E hr h => ?_)
  · obtain ⟨r, c, d, n, e, rfl, _⟩ := h
    rfl
  · obtain ⟨r, c, d, n, e, rfl, R, hz, k⟩ := h
    refine ⟨_, pss_cons (ps_if (PW.pt (pw_or (pt_cmpR op_lt (pv 1) (pe_num rfl T.leastP) (nomark _)) (pw_or (pt_cmpR op_gt (pv 1) (pe_num rfl T.mostP) (nomark _)) (pw_or1 (pt_cmpR op_gt (pv 2) (pe_num rfl T.lastE) (nomark _)))))) (pss_one (ps_ret (pe_lst (pa_cons (pe_num rfl T.outOf) pa_nil)))) pss_nil)
      (pss_cons (ps_fld (pv 0) (pe_lc (own := [("place", 3)]) (g := gName 3) (tt := tYes) (te := tC (.int 0)) rfl scBegin.nd (pi_range1 rfl T.blt.range (pa_cons (pv 1) pa_nil)) (blkOk_by (N := ["ring", "n", "e", "place"]) (sc := defScope sBegin) (by decide +kernel))
        (fun _ _ _ _ _ => pg_name (i := 3) scBegin.nd rfl (Or.inl rfl)) (fun _ _ _ _ _ => pts_nil) (fun _ _ _ _ _ => pe_int)) rfl)
      (pss_cons (ps_fld (pv 0) (pv 2) rfl) (pss_one (ps_ret (pe_lst (pa_cons pe_int pa_nil)))))), ?_⟩
    obtain ⟨dx, hi⟩ := id R.ins
    refine q_when (et_or (et_test (ev_op (ev_var rfl) ev_c rv_I0)) fun _ => et_or (et_test (ev_op (ev_var rfl) ev_c rv_I0)) fun _ => et_test (ev_op (ev_var rfl) ev_c rv_I0)) (fun hb H1 e1 => ?_) (fun hb H1 e1 => ?_)
    · refine s_retL (el_lst (ea_cons ev_c ea_nil) (by show 1 ≤ 100000; decide)) fun p H2 hp e2 h2 => ?_
      have q : n < 3 ∨ 8 < n ∨ 2 < e := by
        simp only [Bool.or_eq_true, decide_eq_true_eq] at hb
        omega
      rw [aBegin, if_pos q] at k
      exact k.keep R e1 hp e2 h2
    · have q : ¬ (n < 3 ∨ 8 < n ∨ 2 < e) := by
        simp only [Bool.or_eq_false_iff, decide_eq_false_iff_not] at hb
        omega
      rw [aBegin, if_neg q] at k
      refine q_fldL (el_lcR1 (fun _ => true) (fun _ => V.int 0) (ea_cons (ev_var rfl) ea_nil) (by omega) (fun _ => rfl) (fun _ _ _ _ => et_yes) (fun _ _ _ _ _ => ev_c)) (ev_var rfl) (e1 _ _ hi) T.cl T.nC (by show 2 < 1000; decide) fun c' H2 hc' e2 h2 => ?_
      have hc0 : H c' = none := fresh_back e1 hc'
      have hcr : c' ≠ r := fun z => by rw [z, hi] at hc0; cases hc0
      refine q_fld (ev_var rfl) (ev_var rfl) upd_same T.cl T.nE (by rw [rf_putC]; show 2 < 1000; decide) fun H3 e3 => ?_
      rw [rf_putC] at e3 ⊢
      rw [rf_putE]
      refine s_retL (el_lst (ea_cons ev_c ea_nil) (by show 1 ≤ 100000; decide)) fun p H4 hp e4 h4 => ?_
      have hne : ∀ b u, H b = some u → b ≠ r → (upd H3 r (.ins C dx (rf c' e))) b = some u := fun b u hb hbr => by
        rw [upd_ne hbr]
        refine e3 _ _ ?_
        rw [upd_ne hbr]
        exact e2 _ _ (e1 _ _ hb)
      have hc4 : (upd H3 r (.ins C dx (rf c' e))) c' = some (.lst (nv (List.replicate n 0))) := by
        rw [upd_ne hcr]
        refine e3 _ _ ?_
        rw [upd_ne hcr, h2, given_all, Int.toNat_natCast, nv, List.map_const', List.length_range, List.map_replicate]
        rfl
      refine k p c' H4 ?_ ?_ (.inr hc0) ⟨⟨dx, e4 _ _ upd_same⟩, e4 _ _ hc4⟩ (fun b u hb hbr _ => e4 _ _ (hne b u hb hbr)) h4
      · cases hq : H p with
        | none => rfl
        | some u =>
          by_cases hpr : p = r
          · rw [hpr, upd_same] at hp
            cases hp
          · rw [hne p u hq hpr] at hp
            cases hp
      · intro z
        rw [z, hc4] at hp
        cases hp
end
end Rv

set_option Elab.async false
set_option maxRecDepth 100000
set_option maxHeartbeats 2000000
namespace Rv
open PySem PySem.Spec PyProof.Rows L2 Evl
open Km534 (Desk)
section
variable {K : PySem.W.Frag} {mg : Str → Option Value} {C r c : Addr} {σ : L2.St} {H : Hp} {d : Desk} {i : Nat}
theorem ev_counts (T : Txt K mg C) (R : RingAt C H r c d) (h : σ[i]? = some (some (.ref r))) : Ev (tFld K (tVar i) "counts") σ H (.ref c) := by
  obtain ⟨dx, hi⟩ := R.ins
  exact ev_fld (ev_var h) hi T.cl T.nC (rf_counts _ _)
theorem ev_eyes (T : Txt K mg C) (R : RingAt C H r c d) (h : σ[i]? = some (some (.ref r))) : Ev (tFld K (tVar i) "eyes") σ H (.int (d.eyes : Int)) := by
  obtain ⟨dx, hi⟩ := R.ins
  exact ev_fld (ev_var h) hi T.cl T.nE (rf_eyes _ _)
theorem ev_places (T : Txt K mg C) (R : RingAt C H r c d) (h : σ[i]? = some (some (.ref r))) : Ev (tCB (rLenS K) (tCons (tFld K (tVar i) "counts") tNil)) σ H (.int (d.ring.length : Int)) :=
  ev_is (ev_len (ev_counts T R h) (sq_of R.lst)) (by rw [nv_len])
theorem rc_sum {p : Addr} {l : List Nat} (h : SqL K H p (nv l)) : RC (rSum K) [.ref p] H (.int (Km534.n2i l).sum) := fun H1 e _ q => ⟨p, Km534.n2i l, rfl, by rw [← iv, ← nv_iv]; exact ex_l e h, q H1 (Ex.refl H1)⟩
theorem ev_sum {p : Addr} {l : List Nat} {ta : TE} (ha : Ev ta σ H (.ref p)) (h : SqL K H p (nv l)) : Ev (tCB (rSum K) (tCons ta tNil)) σ H (.int (Km534.n2i l).sum) := ev_cb (ea_cons ha ea_nil) (rc_sum h)
end
/-! ### sums -/
theorem n2i_sum : ∀ l : List Nat, (Km534.n2i l).sum = (Km534.sum l : Int)
  | [] => rfl
  | x :: l => by
    have ih := n2i_sum l
    rw [sum_eq] at ih ⊢
    show ((x : Int) :: Km534.n2i l).sum = _
    rw [List.sum_cons, ih, List.sum_cons]
    omega
theorem sum_setN : ∀ (l : List Nat) (p x : Nat), p < l.length → Km534.sum (l.set p x) + l.getD p 0 = Km534.sum l + x
  | [], p, x, h => by simp at h
  | a :: l, 0, x, h => by
    rw [sum_eq, sum_eq]
    show (x :: l).sum + a = (a :: l).sum + x
    rw [List.sum_cons, List.sum_cons]
    omega
  | a :: l, p + 1, x, h => by
    have ih := sum_setN l p x (by simpa using h)
    rw [sum_eq, sum_eq] at ih ⊢
    show (a :: l.set p x).sum + l.getD p 0 = (a :: l).sum + x
    rw [List.sum_cons, List.sum_cons]
    omega
theorem nv_set (l : List Nat) (p x : Nat) : (nv l).set p (V.int (x : Int)) = nv (l.set p x) := by
  rw [nv, nv, List.map_set]
section
variable {P : Program} {w : World} {K : PySem.W.Frag} {mg : Str → Option Value} {base : Heap} {C : Addr}
abbrev sPut : Stmt := topS 59
theorem scPut : FnScope ["ring", "p", "x", "before"] ["ring", "p", "x"] (defScope sPut) := ⟨rfl, rfl, rfl, by decide +kernel, rfl, by decide +kernel, by decide +kernel⟩
theorem ok_put {f : Addr} {fd : FuncData} (T : Txt K mg C) (F : Fun K "answer_put" "answer_put" sPut f fd) : FnOk P w K mg base CX0 1 f fd ["ring", "p", "x"] (spAct2 C aPut) := by
  refine F.ok scPut (fun vs H Q E h => ?_) (fun cdv A outer s H vs Q E hr h => ?_)
  · obtain ⟨r, c, d, n, e, rfl, _⟩ := h
    rfl
  · obtain ⟨r, c, d, p, x, rfl, R, hz, k⟩ := h
    refine ⟨_, pss_cons (ps_if (pt_cmpR op_ge (pv 1) (pe_callB call_len_seq (by rfl) T.blt.len PySem.boot_len (pa_cons (pe_fld (pv 0) rfl) pa_nil)) (nomark _)) (pss_one (ps_ret (pe_lst (pa_cons (pe_num rfl T.noPlace) pa_nil)))) pss_nil)
      (pss_cons (ps_if (pt_cmpR op_gt (pv 2) (pe_num rfl T.mostR) (nomark _)) (pss_one (ps_ret (pe_lst (pa_cons (pe_num rfl T.outOf) pa_nil)))) pss_nil)
      (pss_cons (ps_set (i := 3) scPut.nd rfl (Or.inl rfl) (pe_ix ix_list (pe_fld (pv 0) rfl) (pv 1) (fun _ _ => rfl)))
      (pss_cons (ps_if (pt_cmpR op_gt (pe_op op_add (pe_op op_sub (pe_callB (cr_sum rfl) (by rfl) T.blt.sum (by decide +kernel) (pa_cons (pe_fld (pv 0) rfl) pa_nil)) (pv 3)) (pv 2)) (pe_num rfl T.mostR) (nomark _)) (pss_one (ps_ret (pe_lst (pa_cons (pe_num rfl T.tooMany) pa_nil)))) pss_nil)
      (pss_cons (ps_asg (pv 2) (pg_sub (pe_fld (pv 0) rfl) (pv 1) set_list))
      (pss_one (ps_ret (pe_lst (pa_cons (pv 3) pa_nil)))))))), ?_⟩
    refine q_when (et_test (ev_op (ev_var rfl) (ev_places T R rfl) rv_I0)) (fun hb H1 e1 => ?_) (fun hb H1 e1 => ?_)
    · refine s_retL (el_lst (ea_cons ev_c ea_nil) (by show 1 ≤ 100000; decide)) fun b H2 hp e2 h2 => ?_
      rw [aPut, if_pos (by have := of_decide_eq_true hb; omega)] at k
      exact k.keep R e1 hp e2 h2
    have hp1 : ¬ d.ring.length ≤ p := by have := of_decide_eq_false hb; omega
    rw [aPut, if_neg hp1] at k
    refine q_when (et_test (ev_op (ev_var rfl) ev_c rv_I0)) (fun hb H2 e2 => ?_) (fun hb H2 e2 => ?_)
    · refine s_retL (el_lst (ea_cons ev_c ea_nil) (by show 1 ≤ 100000; decide)) fun b H3 hp e3 h3 => ?_
      rw [if_pos (by have := of_decide_eq_true hb; omega)] at k
      exact k.keep R (e1.trans e2) hp e3 h3
    rw [if_neg (by have := of_decide_eq_false hb; omega)] at k
    have R2 := R.ext (e1.trans e2)
    refine q_asg (ev_op (ev_counts T R2 rfl) (ev_var rfl) (rv_ixL (sq_of R2.lst) (atI_nat (nv_at (by omega))))) fun H3 e3 => ?_
    have R3 := R2.ext e3
    refine q_when (et_test (ev_op (ev_op (ev_op (ev_sum (ev_counts T R3 rfl) (sq_of R3.lst)) (ev_var rfl) rv_I0) (ev_var rfl) rv_I0) ev_c rv_I0)) (fun hb H4 e4 => ?_) (fun hb H4 e4 => ?_)
    · refine s_retL (el_lst (ea_cons ev_c ea_nil) (by show 1 ≤ 100000; decide)) fun b H5 hp e5 h5 => ?_
      have q := of_decide_eq_true hb
      have q2 := sum_setN d.ring p x (by omega)
      rw [n2i_sum] at q
      rw [if_pos (by omega)] at k
      exact k.keep R (((e1.trans e2).trans e3).trans e4) hp e5 h5
    have q := of_decide_eq_false hb
    have q2 := sum_setN d.ring p x (by omega)
    rw [n2i_sum] at q
    rw [if_neg (by omega)] at k
    have e04 := ((e1.trans e2).trans e3).trans e4
    have R4 := R3.ext e4
    refine q_setL (j := p) R4.lst (ev_var rfl) (ev_counts T R4 rfl) (ev_var rfl) (by rw [nv_len]; omega) fun H5 e5 => ?_
    rw [nv_set]
    have R5 := R4.ext e5
    have e05 := e04.trans e5
    refine s_retL (el_lst (ea_cons (ev_var rfl) ea_nil) (by show 1 ≤ 100000; decide)) fun b H6 hp e6 h6 => ?_
    have hbc : b ≠ c := fun z => by rw [z, upd_same] at hp; cases hp
    rw [upd_ne hbc] at hp
    obtain ⟨dx, hi⟩ := R5.ins
    exact k b c H6 (fresh_back e05 hp) hbc (.inl rfl) ⟨⟨dx, e6 _ _ (by rw [upd_ne R5.ne]; exact hi)⟩, e6 _ _ upd_same⟩ (fun y u hy _ hyc => e6 _ _ (by rw [upd_ne hyc]; exact e05 _ _ hy)) h6
abbrev sEyes : Stmt := topS 60
theorem scEyes : FnScope ["ring", "e", "before"] ["ring", "e"] (defScope sEyes) := ⟨rfl, rfl, rfl, by decide +kernel, rfl, by decide +kernel, by decide +kernel⟩
theorem ok_eyes {f : Addr} {fd : FuncData} (T : Txt K mg C) (F : Fun K "answer_eyes" "answer_eyes" sEyes f fd) : FnOk P w K mg base CX0 1 f fd ["ring", "e"] (spAct1 C aEyes) := by
  refine F.ok scEyes (fun vs H Q E h => ?_) (fun cdv A outer s H vs Q E hr h => ?_)
  · obtain ⟨r, c, d, e, rfl, _⟩ := h
    rfl
  · obtain ⟨r, c, d, e, rfl, R, hz, k⟩ := h
    refine ⟨_, pss_cons (ps_if (pt_cmpR op_gt (pv 1) (pe_num rfl T.lastE) (nomark _)) (pss_one (ps_ret (pe_lst (pa_cons (pe_num rfl T.outOf) pa_nil)))) pss_nil)
      (pss_cons (ps_set (i := 2) scEyes.nd rfl (Or.inl rfl) (pe_fld (pv 0) rfl))
      (pss_cons (ps_fld (pv 0) (pv 1) rfl) (pss_one (ps_ret (pe_lst (pa_cons (pv 2) pa_nil)))))), ?_⟩
    refine q_when (et_test (ev_op (ev_var rfl) ev_c rv_I0)) (fun hb H1 e1 => ?_) (fun hb H1 e1 => ?_)
    · refine s_retL (el_lst (ea_cons ev_c ea_nil) (by show 1 ≤ 100000; decide)) fun b H2 hp e2 h2 => ?_
      rw [aEyes, if_pos (by have := of_decide_eq_true hb; omega)] at k
      exact k.keep R e1 hp e2 h2
    rw [aEyes, if_neg (by have := of_decide_eq_false hb; omega)] at k
    have R1 := R.ext e1
    refine q_asg (ev_eyes T R1 rfl) fun H2 e2 => ?_
    have R2 := R1.ext e2
    obtain ⟨dx, hi⟩ := R2.ins
    refine q_fld (ev_var rfl) (ev_var rfl) hi T.cl T.nE (by show 2 < 1000; decide) fun H3 e3 => ?_
    rw [rf_putE]
    have R3 := R2.ext e3
    have e03 := (e1.trans e2).trans e3
    refine s_retL (el_lst (ea_cons (ev_var rfl) ea_nil) (by show 1 ≤ 100000; decide)) fun b H4 hp e4 h4 => ?_
    have hbr : b ≠ r := fun z => by rw [z, upd_same] at hp; cases hp
    rw [upd_ne hbr] at hp
    exact k b c H4 (fresh_back e03 hp) (fun z => by rw [z, R3.lst] at hp; cases hp) (.inl rfl) ⟨⟨dx, e4 _ _ upd_same⟩, e4 _ _ (by rw [upd_ne R3.ne.symm]; exact R3.lst)⟩ (fun y u hy hyr _ => e4 _ _ (by rw [upd_ne hyr]; exact e03 _ _ hy)) h4
abbrev sTurn : Stmt := topS 61
abbrev sMirror : Stmt := topS 62
theorem scTurn : FnScope ["ring", "s"] ["ring", "s"] (defScope sTurn) := ⟨rfl, rfl, rfl, by decide +kernel, rfl, by decide +kernel, by decide +kernel⟩
theorem scMirror : FnScope ["ring", "s"] ["ring", "s"] (defScope sMirror) := ⟨rfl, rfl, rfl, by decide +kernel, rfl, by decide +kernel, by decide +kernel⟩
theorem ok_turn {f : Addr} {fd : FuncData} (T : Txt K mg C) (T1 : DefOk P w K mg base "turned" 1 ["row", "s"] (spRot K Km534.from_)) (F : Fun K "answer_turn" "answer_turn" sTurn f fd) : FnOk P w K mg base CX0 2 f fd ["ring", "s"] (spAct1 C aTurn) := by
  refine F.ok scTurn (fun vs H Q E h => ?_) (fun cdv A outer s H vs Q E hr h => ?_)
  · obtain ⟨r, c, d, e, rfl, _⟩ := h
    rfl
  · obtain ⟨r, c, d, e, rfl, R, hz, k⟩ := h
    refine ⟨_, pss_cons (ps_if (pt_cmpR op_ge (pv 1) (pe_callB call_len_seq (by rfl) T.blt.len PySem.boot_len (pa_cons (pe_fld (pv 0) rfl) pa_nil)) (nomark _)) (pss_one (ps_ret (pe_lst (pa_cons (pe_num rfl T.noPlace) pa_nil)))) pss_nil)
      (pss_cons (ps_fld (pv 0) (pe_def T1 hr rfl (pa_cons (pe_fld (pv 0) rfl) (pa_cons (pv 1) pa_nil))) rfl) (pss_one (ps_ret (pe_lst (pa_cons pe_int pa_nil))))), ?_⟩
    refine q_when (et_test (ev_op (ev_var rfl) (ev_places T R rfl) rv_I0)) (fun hb H1 e1 => ?_) (fun hb H1 e1 => ?_)
    · refine s_retL (el_lst (ea_cons ev_c ea_nil) (by show 1 ≤ 100000; decide)) fun b H2 hp e2 h2 => ?_
      rw [aTurn, if_pos (by have := of_decide_eq_true hb; omega)] at k
      exact k.keep R e1 hp e2 h2
    rw [aTurn, if_neg (by have := of_decide_eq_false hb; omega)] at k
    have R1 := R.ext e1
    obtain ⟨dx, hi⟩ := id R1.ins
    refine q_fldL (el_callA (ea_cons (ev_counts T R1 rfl) (ea_cons (ev_var rfl) ea_nil)) fun H2 e2 Q q E => ⟨c, d.ring, e, rfl, sq_of (e2 _ _ R1.lst), by omega, q⟩) (ev_var rfl) hi T.cl T.nC (by show 2 < 1000; decide) fun c' H2 hc' e2 h2 => ?_
    rw [rf_putC]
    have e02 := e1.trans e2
    have hcr : c' ≠ r := fun z => by rw [z, hi] at hc'; cases hc'
    refine s_retL (el_lst (ea_cons ev_c ea_nil) (by show 1 ≤ 100000; decide)) fun b H4 hp e4 h4 => ?_
    have hbr : b ≠ r := fun z => by rw [z, upd_same] at hp; cases hp
    rw [upd_ne hbr] at hp
    exact k b c' H4 (fresh_back e02 hp) (fun z => by rw [z, h2] at hp; cases hp) (.inr (fresh_back e1 hc')) ⟨⟨dx, e4 _ _ upd_same⟩, e4 _ _ (by rw [upd_ne hcr]; exact h2)⟩ (fun y u hy hyr _ => e4 _ _ (by rw [upd_ne hyr]; exact e02 _ _ hy)) h4
theorem ok_mirror {f : Addr} {fd : FuncData} (T : Txt K mg C) (T1 : DefOk P w K mg base "mirrored" 1 ["row", "s"] (spRot K Km534.back)) (F : Fun K "answer_mirror" "answer_mirror" sMirror f fd) : FnOk P w K mg base CX0 2 f fd ["ring", "s"] (spAct1 C aMirror) := by
  refine F.ok scMirror (fun vs H Q E h => ?_) (fun cdv A outer s H vs Q E hr h => ?_)
  · obtain ⟨r, c, d, e, rfl, _⟩ := h
    rfl
  · obtain ⟨r, c, d, e, rfl, R, hz, k⟩ := h
    refine ⟨_, pss_cons (ps_if (pt_cmpR op_ge (pv 1) (pe_callB call_len_seq (by rfl) T.blt.len PySem.boot_len (pa_cons (pe_fld (pv 0) rfl) pa_nil)) (nomark _)) (pss_one (ps_ret (pe_lst (pa_cons (pe_num rfl T.noPlace) pa_nil)))) pss_nil)
      (pss_cons (ps_fld (pv 0) (pe_def T1 hr rfl (pa_cons (pe_fld (pv 0) rfl) (pa_cons (pv 1) pa_nil))) rfl) (pss_one (ps_ret (pe_lst (pa_cons pe_int pa_nil))))), ?_⟩
    refine q_when (et_test (ev_op (ev_var rfl) (ev_places T R rfl) rv_I0)) (fun hb H1 e1 => ?_) (fun hb H1 e1 => ?_)
    · refine s_retL (el_lst (ea_cons ev_c ea_nil) (by show 1 ≤ 100000; decide)) fun b H2 hp e2 h2 => ?_
      rw [aMirror, if_pos (by have := of_decide_eq_true hb; omega)] at k
      exact k.keep R e1 hp e2 h2
    rw [aMirror, if_neg (by have := of_decide_eq_false hb; omega)] at k
    have R1 := R.ext e1
    obtain ⟨dx, hi⟩ := id R1.ins
    refine q_fldL (el_callA (ea_cons (ev_counts T R1 rfl) (ea_cons (ev_var rfl) ea_nil)) fun H2 e2 Q q E => ⟨c, d.ring, e, rfl, sq_of (e2 _ _ R1.lst), by omega, q⟩) (ev_var rfl) hi T.cl T.nC (by show 2 < 1000; decide) fun c' H2 hc' e2 h2 => ?_
    rw [rf_putC]
    have e02 := e1.trans e2
    have hcr : c' ≠ r := fun z => by rw [z, hi] at hc'; cases hc'
    refine s_retL (el_lst (ea_cons ev_c ea_nil) (by show 1 ≤ 100000; decide)) fun b H4 hp e4 h4 => ?_
    have hbr : b ≠ r := fun z => by rw [z, upd_same] at hp; cases hp
    rw [upd_ne hbr] at hp
    exact k b c' H4 (fresh_back e02 hp) (fun z => by rw [z, h2] at hp; cases hp) (.inr (fresh_back e1 hc')) ⟨⟨dx, e4 _ _ upd_same⟩, e4 _ _ (by rw [upd_ne hcr]; exact h2)⟩ (fun y u hy hyr _ => e4 _ _ (by rw [upd_ne hyr]; exact e02 _ _ hy)) h4
end
end Rv

set_option Elab.async false
set_option maxRecDepth 100000
set_option maxHeartbeats 2000000
namespace Rv
open PySem PySem.Spec PyProof.Rows L2 Evl
open Km534 (Desk)
section
variable {K : PySem.W.Frag} {σ : L2.St} {H : Hp} {ta tb : TE} {t : TT} {xs zs : List V}
theorem el_cat {b : Addr} (ha : EvL ta σ H xs) (hb : Ev tb σ H (.ref b)) (h : H b = some (.lst zs)) (hz : xs.length + zs.length ≤ 100000) : EvL (tOp rCat ta tb) σ H (xs ++ zs) := fun H1 e Q q =>
  ha H1 e _ fun p H2 _ e2 hp => hb H2 (e.trans e2) _ fun H3 e3 => ⟨p, b, xs, zs, rfl, rfl, e3 _ _ hp, e3 _ _ (e2 _ _ (e _ _ h)), sz_of hz, fun l hl => q l _ (fresh_back (e2.trans e3) hl) ((e2.trans e3).trans (Ex.new hl)) upd_same⟩
/-- both operands stand -/
theorem el_catV {a b : Addr} (ha : Ev ta σ H (.ref a)) (hb : Ev tb σ H (.ref b)) (h1 : H a = some (.lst xs)) (h2 : H b = some (.lst zs)) (hz : xs.length + zs.length ≤ 100000) : EvL (tOp rCat ta tb) σ H (xs ++ zs) := fun H1 e Q q =>
  ha H1 e _ fun H2 e2 => hb H2 (e.trans e2) _ fun H3 e3 => ⟨a, b, xs, zs, rfl, rfl, e3 _ _ (e2 _ _ (e _ _ h1)), e3 _ _ (e2 _ _ (e _ _ h2)), sz_of hz, fun l hl => q l _ (fresh_back (e2.trans e3) hl) ((e2.trans e3).trans (Ex.new hl)) upd_same⟩
theorem el_if {b : Bool} (h : EvT t σ H b) (h1 : b = true → EvL ta σ H xs) (h2 : b = false → EvL tb σ H xs) : EvL (tIf t ta tb) σ H xs := fun H1 e Q q => h H1 e _ fun H2 e2 => by
  cases b with
  | true =>
    show ta σ H2 Q
    exact h1 rfl H2 (e.trans e2) Q fun p H3 hp e3 => q p H3 (fresh_back e2 hp) (e2.trans e3)
  | false =>
    show tb σ H2 Q
    exact h2 rfl H2 (e.trans e2) Q fun p H3 hp e3 => q p H3 (fresh_back e2 hp) (e2.trans e3)
end
def spCount : Sp := fun vs H Q _ => ∃ (a : Addr) (xs : List V), vs = [.ref a] ∧ H a = some (.lst xs) ∧ xs.length ≤ 50000 ∧ RetL (.int (xs.length : Int) :: xs) H Q
def spYN : Sp := fun vs H Q _ => ∃ b : Bool, vs = [.bl b] ∧ RetL [.int (if b = true then 1 else 0)] H Q
/-- the refusal that is due for these places, or 0 -/
def refusal (d : Desk) (ps : List Nat) : Int := if ps.any (fun p => decide (d.ring.length ≤ p)) then -2 else if ps.any (fun p => d.ring.getD p 0 == 0) then -33 else 0
def spRefuse (K : PySem.W.Frag) (C : Addr) : Sp := fun vs H Q _ => ∃ (r c g : Addr) (d : Desk) (ps : List Nat), vs = [.ref r, .ref g] ∧ RingAt C H r c d ∧ SqL K H g (nv ps) ∧ ps.length ≤ 100 ∧ RetV (.int (refusal d ps)) H Q
section
variable {P : Program} {w : World} {K : PySem.W.Frag} {mg : Str → Option Value} {base : Heap} {C : Addr}
abbrev sCount : Stmt := topS 63
theorem scCount : FnScope ["numbers"] ["numbers"] (defScope sCount) := ⟨rfl, rfl, rfl, by decide +kernel, rfl, by decide +kernel, by decide +kernel⟩
theorem ok_count {f : Addr} {fd : FuncData} (B : Blt mg) (F : Fun K "with_count" "with_count" sCount f fd) : FnOk P w K mg base CX0 1 f fd ["numbers"] spCount := by
  refine F.ok scCount (fun vs H Q E h => ?_) (fun cdv A outer s H vs Q E hr h => ?_)
  · obtain ⟨a, xs, rfl, _⟩ := h
    rfl
  · obtain ⟨a, xs, rfl, ha, hz, k⟩ := h
    refine ⟨_, pss_one (ps_ret (pe_op op_cat (pe_lst (pa_cons (pe_callB call_len_seq (by rfl) B.len PySem.boot_len (pa_cons (pv 0) pa_nil)) pa_nil)) (pv 0))), ?_⟩
    exact s_retL (el_cat (el_lst (ea_cons (ev_len (K := K) (ev_var rfl) (sq_of ha)) ea_nil) (by show 1 ≤ 100000; decide)) (ev_var rfl) ha (by show 1 + xs.length ≤ 100000; omega)) k
abbrev sYN : Stmt := topS 64
theorem scYN : FnScope ["holds"] ["holds"] (defScope sYN) := ⟨rfl, rfl, rfl, by decide +kernel, rfl, by decide +kernel, by decide +kernel⟩
theorem ok_yn {f : Addr} {fd : FuncData} (F : Fun K "yes_or_no" "yes_or_no" sYN f fd) : FnOk P w K mg base CX0 1 f fd ["holds"] spYN := by
  refine F.ok scYN (fun vs H Q E h => ?_) (fun cdv A outer s H vs Q E hr h => ?_)
  · obtain ⟨b, rfl, _⟩ := h
    rfl
  · obtain ⟨b, rfl, k⟩ := h
    refine ⟨_, pss_one (ps_ret (pe_ifExp (pt_val (pv 0)) (pe_lst (pa_cons pe_int pa_nil)) (pe_lst (pa_cons pe_int pa_nil)))), ?_⟩
    refine s_retL (el_if (et_B (ev_var rfl)) (fun hb => ?_) (fun hb => ?_)) k
    · subst hb
      exact el_lst (ea_cons ev_c ea_nil) (by show 1 ≤ 100000; decide)
    · subst hb
      exact el_lst (ea_cons ev_c ea_nil) (by show 1 ≤ 100000; decide)
abbrev sRefuse : Stmt := topS 65
theorem scRefuse : FnScope ["ring", "places", "p"] ["ring", "places"] (defScope sRefuse) := ⟨rfl, rfl, rfl, by decide +kernel, rfl, by decide +kernel, by decide +kernel⟩
theorem any_of {ps : List Nat} {f : Nat → Bool} {i : Nat} (h : i < ps.length) (hf : f (ps.getD i 0) = true) : ps.any f = true := by
  rw [List.any_eq_true]
  refine ⟨ps.getD i 0, ?_, hf⟩
  rw [List.getD_eq_getElem?_getD, List.getElem?_eq_getElem h]
  exact List.getElem_mem h
theorem any_not {ps : List Nat} {f : Nat → Bool} (h : ∀ i, i < ps.length → f (ps.getD i 0) = false) : ps.any f = false := by
  rw [List.any_eq_false]
  intro x hx
  obtain ⟨i, hi, rfl⟩ := List.mem_iff_getElem.mp hx
  have := h i hi
  rw [List.getD_eq_getElem?_getD, List.getElem?_eq_getElem hi] at this
  rw [show f ps[i] = false from this]
  exact Bool.false_ne_true
theorem ok_refuse {f : Addr} {fd : FuncData} (T : Txt K mg C) (F : Fun K "refusal_at" "refusal_at" sRefuse f fd) : FnOk P w K mg base CX0 1 f fd ["ring", "places"] (spRefuse K C) := by
  refine F.ok scRefuse (fun vs H Q E h => ?_) (fun cdv A outer s H vs Q E hr h => ?_)
  · obtain ⟨r, c, g, d, ps, rfl, _⟩ := h
    rfl
  · obtain ⟨r, c, g, d, ps, rfl, R, hg, hz, k⟩ := h
    refine ⟨_, pss_cons (ps_for PassesOwn.never rfl (pi_list (pv 1)) (pg_name (i := 2) scRefuse.nd rfl (Or.inl rfl))
        (pss_one (ps_if (pt_cmpR op_ge (pv 2) (pe_callB call_len_seq (by rfl) T.blt.len PySem.boot_len (pa_cons (pe_fld (pv 0) rfl) pa_nil)) (nomark _)) (pss_one (ps_ret (pe_num rfl T.noPlace))) pss_nil)))
      (pss_cons (ps_for PassesOwn.never rfl (pi_list (pv 1)) (pg_name (i := 2) scRefuse.nd rfl (Or.inl rfl))
        (pss_one (ps_if (pt_cmpR op_eq (pe_ix ix_list (pe_fld (pv 0) rfl) (pv 2) (fun _ _ => rfl)) pe_int (nomark _)) (pss_one (ps_ret (pe_num rfl T.nobody))) pss_nil)))
      (pss_one (ps_ret pe_int))), ?_⟩
    refine q_forLn (K := K) (ev_var rfl) hg (fun i σ' H' => (∃ v, σ' = [some (.ref r), some (.ref g), v]) ∧ Ex H H' ∧ ∀ j, j < i → ps.getD j 0 < d.ring.length) (fun H1 e1 => ⟨⟨none, rfl⟩, e1, fun j hj => by omega⟩) (fun i σ' H' _ hp => ex_l hp.2.1 hg) (fun i x σ' H' hx hp => ?_) (fun σ' H' hp => ?_)
    · obtain ⟨⟨v, rfl⟩, e1, hj⟩ := hp
      have hi : i < ps.length := by
        have := (List.getElem?_eq_some_iff.mp hx).1
        rwa [nv_len] at this
      rw [nv_at hi] at hx
      obtain rfl := Option.some.inj hx
      refine s_when (et_test (ev_op (ev_var rfl) (ev_places T (R.ext e1) rfl) rv_I0)) (fun hb H2 e2 => ?_) (fun hb H2 e2 => ?_)
      · refine s_ret ev_c fun H3 e3 => ?_
        have q := of_decide_eq_true hb
        rw [refusal, if_pos (any_of (f := fun p => decide (d.ring.length ≤ p)) hi (by simp only [decide_eq_true_eq]; omega))] at k
        exact k H3 ((e1.trans e2).trans e3)
      · have q := of_decide_eq_false hb
        refine ⟨⟨_, rfl⟩, e1.trans e2, fun j hj' => ?_⟩
        by_cases hji : j = i
        · subst hji
          omega
        · exact hj j (by omega)
    · obtain ⟨⟨v, rfl⟩, e1, hj⟩ := hp
      rw [nv_len] at hj
      have q1 : ps.any (fun p => decide (d.ring.length ≤ p)) = false := any_not fun i hi => by
        have := hj i hi
        simp only [decide_eq_false_iff_not]
        omega
      rw [refusal, q1, if_neg Bool.false_ne_true] at k
      refine q_forLn (K := K) (ev_var rfl) (ex_l e1 hg) (fun i σ' H' => (∃ v, σ' = [some (.ref r), some (.ref g), v]) ∧ Ex H H' ∧ ∀ j, j < i → d.ring.getD (ps.getD j 0) 0 ≠ 0) (fun H1 e2 => ⟨⟨v, rfl⟩, e1.trans e2, fun j hj => by omega⟩) (fun i σ' H' _ hp => ex_l hp.2.1 hg) (fun i x σ' H' hx hp => ?_) (fun σ' H' hp => ?_)
      · obtain ⟨⟨v, rfl⟩, e2, hk⟩ := hp
        have hi : i < ps.length := by
          have := (List.getElem?_eq_some_iff.mp hx).1
          rwa [nv_len] at this
        rw [nv_at hi] at hx
        obtain rfl := Option.some.inj hx
        have R2 := R.ext e2
        refine s_when (et_test (ev_op (ev_op (ev_counts T R2 rfl) (ev_var rfl) (rv_ixL (sq_of R2.lst) (atI_nat (nv_at (hj i hi))))) ev_c (rv_eq rfl))) (fun hb H3 e3 => ?_) (fun hb H3 e3 => ?_)
        · refine s_ret ev_c fun H4 e4 => ?_
          rw [int_eq_dec] at hb
          have q := of_decide_eq_true hb
          rw [if_pos (any_of (f := fun p => d.ring.getD p 0 == 0) hi (by simp only [beq_iff_eq]; omega))] at k
          exact k H4 ((e2.trans e3).trans e4)
        · rw [int_eq_dec] at hb
          have q := of_decide_eq_false hb
          refine ⟨⟨_, rfl⟩, e2.trans e3, fun j hj' => ?_⟩
          by_cases hji : j = i
          · subst hji
            omega
          · exact hk j (by omega)
      · obtain ⟨⟨v, rfl⟩, e2, hk⟩ := hp
        rw [nv_len] at hk
        have q2 : ps.any (fun p => d.ring.getD p 0 == 0) = false := any_not fun i hi => by
          have := hk i hi
          simpa using this
        rw [q2, if_neg Bool.false_ne_true] at k
        exact s_ret ev_c fun H3 e3 => k H3 (e2.trans e3)
end
end Rv

set_option Elab.async false
set_option maxRecDepth 100000
set_option maxHeartbeats 2000000
namespace Rv
open PySem PySem.Spec PyProof.Rows L2 Evl
open Km534 (Desk)
/-! ### the loop over the calls -/
/-- one call on the ring -/
def spCall (K : PySem.W.Frag) (C : Addr) : Sp := fun vs H Q _ => ∃ (r c g : Addr) (d : Desk) (j : Nat) (args : List Nat) (x : Km534.Call), vs = [.ref r, .int (j : Int), .ref g] ∧ RingAt C H r c d ∧ Good d ∧ SqL K H g (nv args) ∧ args.length = argsOf.getD j 0 ∧ j < 22 ∧ CallIs j args x ∧ RetA C r c (dstep d x) H Q
def spAnswers (K : PySem.W.Frag) : Sp := fun vs H Q _ => ∃ (a : Addr) (ns : List Int), vs = [.ref a] ∧ SqL K H a (iv ns) ∧ ns.length ≤ 150 ∧ PyKm534.answers_asked ns = true ∧
  ∀ (H' : Hp) (p : Addr), H' p = some (.lst (iv (PyKm534.answers ns))) → Q (.ref p) H'
theorem iv_len (l : List Int) : (iv l).length = l.length := by rw [iv, List.length_map]
theorem iv_at {l : List Int} {i : Nat} {z : Int} (h : l[i]? = some z) : (iv l)[i]? = some (V.int z) := by
  rw [iv, List.getElem?_map, h]
  rfl
theorem iv_append (a b : List Int) : iv (a ++ b) = iv a ++ iv b := List.map_append
theorem cut_drop (xs : List V) (m n : Nat) (h : m + n ≤ xs.length) : cutV xs (some (m : Int)) (some ((m + n : Nat) : Int)) = (xs.drop m).take n := by
  unfold cutV
  rw [HT.sIx_nat, HT.sIx_nat, Nat.min_eq_left h, Nat.min_eq_left (show m ≤ xs.length by omega)]
  congr 1
  omega
section
variable {P : Program} {w : World} {K : PySem.W.Frag} {mg : Str → Option Value} {base : Heap} {C : Addr}
structure Tab (K : PySem.W.Frag) (mg : Str → Option Value) : Prop where
  ex : ∃ a, mg "ARGUMENTS" = some (.ref a) ∧ ∀ H, SqT K H a (nv argsOf)
abbrev sAnswers : Stmt := topS 73
theorem scAnswers : FnScope ["calls", "ring", "told", "at", "number", "after"] ["calls"] (defScope sAnswers) := ⟨rfl, rfl, rfl, by decide +kernel, rfl, by decide +kernel, by decide +kernel⟩
theorem ok_answers {f fI : Addr} {fd fdI : FuncData} {kc : Nat} (T : Txt K mg C) (Tb : Tab K mg) (M : Mk K C fI) (GI : FnOk P w K mg base CX0 1 fI fdI ["self"] (spInit C)) (bI : Binds K fdI ["self"] [])
    (T1 : DefOk P w K mg base "with_count" 1 ["numbers"] spCount) (T2 : DefOk P w K mg base "answer_call" (kc + 2) ["ring", "number", "given"] (spCall K C)) (F : Fun K "answers" "answers" sAnswers f fd) :
    FnOk P w K mg base CX0 (kc + 3) f fd ["calls"] (spAnswers K) := by
  refine F.ok scAnswers (fun vs H Q E h => ?_) (fun cdv A outer s H vs Q E hr h => ?_)
  · obtain ⟨a, ns, rfl, _⟩ := h
    rfl
  · obtain ⟨a, ns, rfl, ha, hn, hask, k⟩ := h
    obtain ⟨ta, mT, hT⟩ := Tb.ex
    refine ⟨_, pss_cons (ps_set (i := 1) scAnswers.nd rfl (Or.inl rfl) (pe_make0 M GI (hr.mono (by omega)) rfl T.gC bI .nil pass0))
      (pss_cons (ps_set (i := 2) scAnswers.nd rfl (Or.inl rfl) (pe_lst pa_nil))
      (pss_cons (ps_set (i := 3) scAnswers.nd rfl (Or.inl rfl) pe_int)
      (pss_cons (ps_while PassesOwn.never (pt_cmpR op_lt (pv 3) (pe_callB call_len_seq (by rfl) T.blt.len PySem.boot_len (pa_cons (pv 0) pa_nil)) (nomark _))
        (pss_cons (ps_set (i := 4) scAnswers.nd rfl (Or.inl rfl) (pe_ix ix_list (pv 0) (pv 3) (fun _ _ => rfl)))
        (pss_cons (ps_set (i := 5) scAnswers.nd rfl (Or.inl rfl) (pe_op op_add (pe_op op_add (pv 3) pe_int) (pe_ix ix_tup (pe_glob (v := V.ref ta) rfl mT rfl) (pv 4) (fun _ _ => rfl))))
        (pss_cons (ps_expr (pe_bm PySem.F.plainAttrs_list PySem.F.slot_list_extend PySem.F.type_list_extend mt_extend (pv 2) (pa_cons (pe_def T1 (hr.mono (by omega)) rfl (pa_cons (pe_def T2 hr rfl (pa_cons (pv 1) (pa_cons (pv 4) (pa_cons (pe_slice sl_list (pv 0) (po_some (pe_op op_add (pv 3) pe_int)) (po_some (pv 5))) pa_nil)))) pa_nil)) pa_nil)))
        (pss_one (ps_set (i := 3) scAnswers.nd rfl (Or.inl rfl) (pv 5)))))))
      (pss_one (ps_ret (pv 2)))))), ?_⟩
    obtain ⟨cs0, hcs0, hok0, hplay0⟩ := asked_calls hask
    -- ring = Ring()
    intro x dx nx ndx nex
    refine ⟨x, dx, rfl, upd_same, fun H1 c hc R kp => ⟨rfl, ?_⟩⟩
    have e1 : Ex H H1 := Same.made nx ndx kp
    have hxc : H c = none := by
      cases hq : H c with
      | none => rfl
      | some u =>
        rw [upd_ne (ne_of_none hq nx), upd_ne (ne_of_none hq ndx), hq] at hc
        cases hc
    -- told = []; at = 0
    refine q_asgL (el_lst ea_nil (by show 0 ≤ 100000; decide)) fun t H2 ht e2 h2 => ?_
    refine q_asg ev_c fun H3 e3 => ?_
    have htx : H t = none := fresh_back e1 ht
    have htn : t ≠ x := fun z => by
      obtain ⟨dy, hi⟩ := R.ins
      rw [z, hi] at ht
      cases ht
    have htc : t ≠ c := fun z => by
      rw [z, R.lst] at ht
      cases ht
    -- the loop
    refine q_while (fun m σ' H' => ∃ (at' f' : Nat) (cs : List (List (List Int))) (d : Desk) (c : Addr) (v4 v5 : Option V) (out : List Int), m = ns.length - at' ∧ σ' = [some (.ref a), some (.ref x), some (.ref t), some (.int (at' : Int)), v4, v5] ∧ at' ≤ ns.length ∧
      PyFlat.calls PyKm534.shape f' (ns.drop at') = some cs ∧ okCalls cs ∧ Good d ∧ RingAt C H' x c d ∧ H' t = some (.lst (iv out)) ∧ t ≠ c ∧ H c = none ∧ out.length ≤ 20 * at' ∧ out ++ play d cs = PyKm534.answers ns ∧ Ex H H')
      ns.length ⟨0, ns.length, cs0, fresh, c, none, none, [], rfl, rfl, Nat.zero_le _, hcs0, hok0, fresh_good, R.ext (e2.trans e3), e3 _ _ h2, htc, hxc, Nat.zero_le _, hplay0.symm, (e1.trans e2).trans e3⟩ ?_
    rintro m σ' H' ⟨at', f', cs, d, c, v4, v5, out, rfl, rfl, hat, hcs, hok, hg, R, ht', htc, hxc, hout, hplay, eH⟩
    refine ⟨_, et_test (ev_op (ev_var rfl) (ev_len (K := K) (ev_var rfl) (ex_l eH ha)) rv_I0), fun hb H4 e4 => ?_, fun hb H4 e4 => ?_⟩
    · have hlt : at' < ns.length := by
        have := of_decide_eq_true hb
        rw [iv_len] at this
        omega
      have hdrop : ns.drop at' = ns[at'] :: ns.drop (at' + 1) := List.drop_eq_getElem_cons hlt
      rw [hdrop] at hcs
      obtain ⟨j, args, X, cs', f2, hj, hp, hal, hle, htk, hX, hcs', hok', hpl⟩ := turn_of hcs hok
      rw [List.length_drop] at hle
      have hpj : ns[at']? = some (j : Int) := by rw [List.getElem?_eq_getElem hlt, hp]
      refine ⟨fun σ2 H2 => ∃ (d : Desk) (c : Addr) (v4 v5 : Option V) (out : List Int), σ2 = [some (.ref a), some (.ref x), some (.ref t), some (.int ((at' + 1 + argsOf.getD j 0 : Nat) : Int)), v4, v5] ∧
        Good d ∧ RingAt C H2 x c d ∧ H2 t = some (.lst (iv out)) ∧ t ≠ c ∧ H c = none ∧ out.length ≤ 20 * (at' + 1 + argsOf.getD j 0) ∧ out ++ play d cs' = PyKm534.answers ns ∧ Ex H H2, ?_, ?_⟩
      · rintro σ2 H5 ⟨d, c, v4, v5, out, rfl, g1, g2, g3, g4, g5, g6, g7, g8⟩
        refine ⟨_, ?_, at' + 1 + argsOf.getD j 0, f2, cs', d, c, v4, v5, out, rfl, rfl, by omega, ?_, hok', g1, g2, g3, g4, g5, g6, g7, g8⟩
        · omega
        · rw [← List.drop_drop]
          exact hcs'
      have eH4 := eH.trans e4
      refine q_asg (ev_op (ev_var rfl) (ev_var rfl) (rv_ixL (ex_l eH4 ha) (atI_nat (iv_at hpj)))) fun H5 e5 => ?_
      refine q_asg (ev_op (ev_op (ev_var rfl) ev_c rv_I0) (ev_op ev_c (ev_var rfl) (rv_ixT (hT _) (atI_nat (nv_at (show j < argsOf.length from hj))))) rv_I0) fun H6 e6 => ?_
      have e46 := (e4.trans e5).trans e6
      have ht6 := e46 _ _ ht'
      refine ⟨_, rfl, Or.inl ⟨rfl, _, sq_of ht6⟩, ?_⟩
      refine ⟨_, rfl, _, rfl, ?_⟩
      refine el_sl (K := K) (ev_var rfl) (eo_some (ev_op (ev_var rfl) ev_c rv_I0)) (eo_some (ev_var rfl)) (ex_l (eH.trans e46) ha) H6 (Ex.refl _) _ fun g H7 hg7 e7 h7 => ?_
      have hcut : cutV (iv ns) (some ((at' : Int) + 1)) (some ((at' : Int) + 1 + ((argsOf.getD j 0 : Nat) : Int))) = nv args := by
        have q := cut_drop (iv ns) (at' + 1) (argsOf.getD j 0) (by rw [iv_len]; omega)
        rw [show ((at' + 1 : Nat) : Int) = (at' : Int) + 1 from rfl, show ((at' + 1 + argsOf.getD j 0 : Nat) : Int) = (at' : Int) + 1 + ((argsOf.getD j 0 : Nat) : Int) by omega] at q
        rw [q, nv_iv, iv, ← List.map_drop, ← List.map_take, htk, iv]
      rw [hcut] at h7
      have e07 := e46.trans e7
      refine ⟨x, c, g, d, j, args, X, rfl, R.ext e07, hg, sq_of h7, hal, hj, hX, fun p c' H8 hp8 hpc hc' R8 fr h8 => ?_⟩
      have hal17 := dstep_len hg X
      refine ⟨p, _, rfl, h8, by rw [iv_len]; omega, fun q H9 hq e9 h9 => ?_⟩
      have hte : H7 t = some (.lst (iv out)) := e07 _ _ ht'
      have ht8 : H8 t = some (.lst (iv out)) := fr _ _ hte htn htc
      have htq : t ≠ q := fun z => by rw [← z, ht8] at hq; cases hq
      have hol : out.length ≤ 3000 := by omega
      refine ⟨t, q, _, _, rfl, rfl, e9 _ _ ht8, h9, ?_, ?_⟩
      · refine sz_of ?_
        rw [iv_len, List.length_cons, iv_len]
        omega
      · have hc2 : H c' = none := by
          rcases hc' with z | z
          · rw [z]
            exact hxc
          · exact fresh_back (eH.trans e07) z
        have htc2 : t ≠ c' := by
          rcases hc' with z | z
          · rw [z]
            exact htc
          · exact fun y => by rw [← y, hte] at z; cases z
        have e08 : Ex H H8 := fun b u hb => fr b u (e07 _ _ (eH _ _ hb)) (fun z => by rw [z, nx] at hb; cases hb) (fun z => by rw [z, hxc] at hb; cases hb)
        refine ⟨_, rfl, (dstep d X).1, c', _, _, out ++ (((dstep d X).2.length : Int) :: (dstep d X).2), rfl, dstep_good hg X, ?_, ?_, htc2, hc2, ?_, ?_, ?_⟩
        · obtain ⟨dy, hi⟩ := R8.ins
          exact ⟨⟨dy, by rw [upd_ne (Ne.symm htn)]; exact e9 _ _ hi⟩, by rw [upd_ne (Ne.symm htc2)]; exact e9 _ _ R8.lst⟩
        · rw [upd_same, iv_append]
          rw [iv_len]
          rfl
        · rw [List.length_append, List.length_cons]
          omega
        · rw [List.append_assoc, ← hpl d hg]
          exact hplay
        · exact Ex.mut (e08.trans e9) htx
    · have hge : at' = ns.length := by
        have := of_decide_eq_false hb
        rw [iv_len] at this
        omega
      subst hge
      rw [List.drop_length] at hcs
      have := calls_nil hcs
      subst this
      rw [play_nil, List.append_nil] at hplay
      refine ⟨_, rfl, k H4 t ?_⟩
      rw [← hplay]
      exact e4 _ _ ht'
end
end Rv

set_option Elab.async false
set_option maxRecDepth 100000
set_option maxHeartbeats 2000000
namespace Rv
open PySem PySem.Spec PyProof.Rows L2 Evl
open Km534 (Desk)
/-- how many, then they -/
def told (l : List Nat) : List Int := (l.length : Int) :: Km534.n2i l
theorem iv_told (l : List Nat) : iv (told l) = .int (l.length : Int) :: nv l := by
  rw [nv_iv]
  rfl
def robots (d : Desk) (j : Nat) (ps : List Nat) : List Int :=
  if refusal d ps < 0 then [refusal d ps] else
  if j = 6 then told (Km534.rowOn d (ps.getD 0 0)) else
  if j = 7 then told ((Km534.view d (ps.getD 0 0)).1 ++ (Km534.view d (ps.getD 0 0)).2) else
  if j = 8 then [if Km534.even_ d (ps.getD 0 0) = true then 1 else 0] else
  if j = 9 then [if decide ((Km534.view d (ps.getD 0 0)).1 = (Km534.view d (ps.getD 1 0)).1) = true then 1 else 0] else
  told (alikeTo d (ps.getD 0 0))
def spRobots (K : PySem.W.Frag) (C : Addr) : Sp := fun vs H Q _ => ∃ (r c g : Addr) (d : Desk) (j : Nat) (ps : List Nat), vs = [.ref r, .int (j : Int), .ref g] ∧ RingAt C H r c d ∧ d.ring.length ≤ 8 ∧ SqL K H g (nv ps) ∧ ps.length ≤ 100 ∧ 0 < ps.length ∧ (j = 9 → 1 < ps.length) ∧ RetL (iv (robots d j ps)) H Q
section
variable {σ : L2.St} {H : Hp} {sp : Sp} {vs xs ys : List V} {ta : TA} {tz : TS} {D : Ends} {i : Nat} {E : XK}
theorem q_asgP (h : EvA ta σ H vs) (hs : ∀ H1, Ex H H1 → ∀ Q : VK, RetP xs ys H1 Q → ∀ E : XK, sp vs H1 Q E)
    (k : ∀ p a b H1, H p = none → Ex H H1 → H1 p = some (.tup [.ref a, .ref b]) → H1 a = some (.lst xs) → H1 b = some (.lst ys) → tz D (σ.set i (some (.ref p))) H1) : tSeq (tAsg (tCall sp [] E ta) (gName i)) tz D σ H :=
  h H (Ex.refl H) _ fun H1 e1 => by
    show sp (vs ++ []) H1 _ E
    rw [List.append_nil]
    exact hs H1 e1 _ (fun p a b H2 hp _ _ e2 h2 ha hb => k p a b H2 (fresh_back e1 hp) (e1.trans e2) h2 ha hb) E
end
section
variable {P : Program} {w : World} {K : PySem.W.Frag} {mg : Str → Option Value} {base : Heap} {C : Addr}
theorem look_len (d : Desk) (p : Nat) : (alikeTo d p).length ≤ d.ring.length := Nat.le_trans (List.length_filter_le _ _) (taken_len d)
/-- with_count of a new list of numbers -/
theorem el_count {σ : L2.St} {H : Hp} {te : TE} {l : List Nat} {E : XK} (h : EvL te σ H (nv l)) (hl : l.length ≤ 1000) : EvL (tCall spCount [] E (tCons te tNil)) σ H (iv (told l)) := by
  refine el_callL h ea_nil fun p H1 hp e1 H2 e2 Q q E => ⟨p, nv l, rfl, e2 _ _ hp, by rw [nv_len]; omega, ?_⟩
  rw [iv_told] at q
  rw [nv_len]
  exact q
abbrev sRobots : Stmt := topS 66
theorem scRobots : FnScope ["ring", "number", "places", "refusal", "p", "both"] ["ring", "number", "places"] (defScope sRobots) := ⟨rfl, rfl, rfl, by decide +kernel, rfl, by decide +kernel, by decide +kernel⟩
structure Kinds (mg : Str → Option Value) : Prop where
  begin_ : Num mg "BEGIN" 0
  put : Num mg "PUT" 1
  eyes : Num mg "EYES" 2
  turn : Num mg "TURN" 3
  mirror : Num mg "MIRROR" 4
  ring : Num mg "RING" 5
  seen : Num mg "SEEN" 6
  view : Num mg "VIEW" 7
  even : Num mg "EVEN" 8
  same : Num mg "SAME" 9
  alike : Num mg "ALIKE" 10
/-- a test number == N -/
theorem et_is_num {σ : L2.St} {H : Hp} {i j : Nat} {n : Nat} (h : σ[i]? = some (some (.int (j : Int)))) : EvT (tTest (tOp rEq (tVar i) (tC (.int (n : Int))))) σ H (decide (j = n)) := by
  refine et_is (et_test (ev_op (ev_var h) ev_c (rv_eq rfl))) ?_
  rw [int_eq_dec]
  by_cases e : j = n
  · rw [decide_eq_true e, decide_eq_true (by omega)]
  · rw [decide_eq_false e, decide_eq_false (by omega)]
theorem ok_robots {f : Addr} {fd : FuncData} (T : Txt K mg C) (N : Kinds mg) (T1 : DefOk P w K mg base "refusal_at" 1 ["ring", "places"] (spRefuse K C)) (T2 : DefOk P w K mg base "with_count" 1 ["numbers"] spCount) (T3 : DefOk P w K mg base "yes_or_no" 1 ["holds"] spYN)
    (D1 : DefOk P w K mg base "rising_row" 3 ["counts", "eyes", "p"] (spRow K Km534.rowOn)) (D2 : DefOk P w K mg base "view_from" 4 ["counts", "eyes", "p"] (spView K)) (D3 : DefOk P w K mg base "is_even_handed" 4 ["counts", "eyes", "p"] (spYes K Km534.even_))
    (D4 : DefOk P w K mg base "have_same_view" 6 ["counts", "eyes", "p", "q"] (spSame K)) (D5 : DefOk P w K mg base "places_alike" 7 ["counts", "eyes", "p"] (spRow K alikeTo)) (F : Fun K "answer_of_robots" "answer_of_robots" sRobots f fd) :
    FnOk P w K mg base CX0 8 f fd ["ring", "number", "places"] (spRobots K C) := by
  refine F.ok scRobots (fun vs H Q E h => ?_) (fun cdv A outer s H vs Q E hr h => ?_)
  · obtain ⟨r, c, g, d, j, ps, rfl, _⟩ := h
    rfl
  · obtain ⟨r, c, g, d, j, ps, rfl, R, hd8, hg, hz, h0, h9, k⟩ := h
    refine ⟨_, pss_cons (ps_set (i := 3) scRobots.nd rfl (Or.inl rfl) (pe_def T1 (hr.mono (by decide)) rfl (pa_cons (pv 0) (pa_cons (pv 2) pa_nil))))
      (pss_cons (ps_if (pt_cmpR op_lt (pv 3) pe_int (nomark _)) (pss_one (ps_ret (pe_lst (pa_cons (pv 3) pa_nil)))) pss_nil)
      (pss_cons (ps_set (i := 4) scRobots.nd rfl (Or.inl rfl) (pe_ix ix_list (pv 2) pe_int (fun _ _ => rfl)))
      (pss_cons (ps_if (pt_cmpR op_eq (pv 1) (pe_num rfl N.seen) (nomark _)) (pss_one (ps_ret (pe_def T2 (hr.mono (by decide)) rfl (pa_cons (pe_def D1 (hr.mono (by decide)) rfl (pa_cons (pe_fld (pv 0) rfl) (pa_cons (pe_fld (pv 0) rfl) (pa_cons (pv 4) pa_nil)))) pa_nil)))) pss_nil)
      (pss_cons (ps_if (pt_cmpR op_eq (pv 1) (pe_num rfl N.view) (nomark _)) (pss_cons (ps_set (i := 5) scRobots.nd rfl (Or.inl rfl) (pe_def D2 (hr.mono (by decide)) rfl (pa_cons (pe_fld (pv 0) rfl) (pa_cons (pe_fld (pv 0) rfl) (pa_cons (pv 4) pa_nil)))))
          (pss_one (ps_ret (pe_def T2 (hr.mono (by decide)) rfl (pa_cons (pe_op op_cat (pe_ix ix_tup (pv 5) pe_int (fun _ _ => rfl)) (pe_ix ix_tup (pv 5) pe_int (fun _ _ => rfl))) pa_nil))))) pss_nil)
      (pss_cons (ps_if (pt_cmpR op_eq (pv 1) (pe_num rfl N.even) (nomark _)) (pss_one (ps_ret (pe_def T3 (hr.mono (by decide)) rfl (pa_cons (pe_def D3 (hr.mono (by decide)) rfl (pa_cons (pe_fld (pv 0) rfl) (pa_cons (pe_fld (pv 0) rfl) (pa_cons (pv 4) pa_nil)))) pa_nil)))) pss_nil)
      (pss_cons (ps_if (pt_cmpR op_eq (pv 1) (pe_num rfl N.same) (nomark _)) (pss_one (ps_ret (pe_def T3 (hr.mono (by decide)) rfl (pa_cons (pe_def D4 (hr.mono (by decide)) rfl (pa_cons (pe_fld (pv 0) rfl) (pa_cons (pe_fld (pv 0) rfl) (pa_cons (pv 4) (pa_cons (pe_ix ix_list (pv 2) pe_int (fun _ _ => rfl)) pa_nil))))) pa_nil)))) pss_nil)
      (pss_one (ps_ret (pe_def T2 (hr.mono (by decide)) rfl (pa_cons (pe_def D5 hr rfl (pa_cons (pe_fld (pv 0) rfl) (pa_cons (pe_fld (pv 0) rfl) (pa_cons (pv 4) pa_nil)))) pa_nil)))))))))), ?_⟩
    unfold robots at k
    refine q_asg (ev_callA (ea_cons (ev_var rfl) (ea_cons (ev_var rfl) ea_nil)) fun H1 e1 Q q E => ⟨r, c, g, d, ps, rfl, R.ext e1, ex_l e1 hg, hz, q⟩) fun H1 e1 => ?_
    refine q_when (et_test (ev_op (ev_var rfl) ev_c rv_I0)) (fun hb H2 e2 => ?_) (fun hb H2 e2 => ?_)
    · rw [if_pos (of_decide_eq_true hb)] at k
      exact s_retL (el_lst (ea_cons (ev_var rfl) ea_nil) (by show 1 ≤ 100000; decide)) fun p H3 hp e3 h3 => k.go (e1.trans e2) hp e3 h3
    rw [if_neg (of_decide_eq_false hb)] at k
    have e02 := e1.trans e2
    refine q_asg (ev_op (ev_var rfl) ev_c (rv_ixL (ex_l e02 hg) (atI_nat (j := 0) (nv_at h0)))) fun H3 e3 => ?_
    have e03 := e02.trans e3
    have k : RetL _ H3 Q := fun p H4 hp e4 h4 => k p H4 (fresh_back e03 hp) (e03.trans e4) h4
    have R3 := R.ext e03
    have hg3 := ex_l e03 hg
    clear hb
    -- number == SEEN
    refine q_when (et_is_num (n := 6) rfl) (fun hb H4 e4 => ?_) (fun hb H4 e4 => ?_)
    · rw [if_pos (of_decide_eq_true hb)] at k
      have R4 := R3.ext e4
      exact s_retL (el_count (l := Km534.rowOn d (ps.getD 0 0)) (el_callA (ea_cons (ev_counts T R4 rfl) (ea_cons (ev_eyes T R4 rfl) (ea_cons (ev_var rfl) ea_nil))) fun H5 e5 Q q E => ⟨c, d.ring, d.eyes, ps.getD 0 0, rfl, sq_of (e5 _ _ R4.lst), by omega, q⟩) (by rw [rowOn_len]; omega)) fun p H5 hp e5 h5 => k.go e4 hp e5 h5
    rw [if_neg (of_decide_eq_false hb)] at k
    have R4 := R3.ext e4
    -- number == VIEW
    refine q_when (et_is_num (n := 7) rfl) (fun hb H5 e5 => ?_) (fun hb H5 e5 => ?_)
    · rw [if_pos (of_decide_eq_true hb)] at k
      have R5 := R4.ext e5
      refine q_asgP (ea_cons (ev_counts T R5 rfl) (ea_cons (ev_eyes T R5 rfl) (ea_cons (ev_var rfl) ea_nil))) (fun H6 e6 Q q E => ⟨c, d.ring, d.eyes, ps.getD 0 0, rfl, sq_of (e6 _ _ R5.lst), by omega, q⟩) fun b b1 b2 H6 hb6 e6 h6 h61 h62 => ?_
      have vl := view_len d (ps.getD 0 0)
      refine s_retL (el_count (l := (Km534.view d (ps.getD 0 0)).1 ++ (Km534.view d (ps.getD 0 0)).2) ?_ (by rw [List.length_append]; omega)) fun p H7 hp e7 h7 => k.go ((e4.trans e5).trans e6) hp e7 h7
      have g1 : H6 b1 = some (.lst (nv (Km534.view d (ps.getD 0 0)).1)) := h61
      have g2 : H6 b2 = some (.lst (nv (Km534.view d (ps.getD 0 0)).2)) := h62
      rw [nv, List.map_append, ← nv, ← nv]
      exact el_catV (ev_op (ev_var rfl) ev_c (rv_ixT (st_of h6) (atI_nat (j := 0) rfl))) (ev_op (ev_var rfl) ev_c (rv_ixT (st_of h6) (atI_nat (j := 1) rfl))) g1 g2 (by rw [nv_len, nv_len]; omega)
    rw [if_neg (of_decide_eq_false hb)] at k
    have R5 := R4.ext e5
    -- number == EVEN
    refine q_when (et_is_num (n := 8) rfl) (fun hb H6 e6 => ?_) (fun hb H6 e6 => ?_)
    · rw [if_pos (of_decide_eq_true hb)] at k
      have R6 := R5.ext e6
      exact s_retL (el_callA (ea_cons (ev_callA (ea_cons (ev_counts T R6 rfl) (ea_cons (ev_eyes T R6 rfl) (ea_cons (ev_var rfl) ea_nil))) fun H7 e7 Q q E => ⟨c, d.ring, d.eyes, ps.getD 0 0, rfl, sq_of (e7 _ _ R6.lst), by omega, q⟩) ea_nil) fun H7 e7 Q q E => ⟨_, rfl, q⟩) fun p H7 hp e7 h7 => k.go ((e4.trans e5).trans e6) hp e7 h7
    rw [if_neg (of_decide_eq_false hb)] at k
    have R6 := R5.ext e6
    -- number == SAME
    refine q_when (et_is_num (n := 9) rfl) (fun hb H7 e7 => ?_) (fun hb H7 e7 => ?_)
    · rw [if_pos (of_decide_eq_true hb)] at k
      have R7 := R6.ext e7
      exact s_retL (el_callA (ea_cons (ev_callA (ea_cons (ev_counts T R7 rfl) (ea_cons (ev_eyes T R7 rfl) (ea_cons (ev_var rfl) (ea_cons (ev_op (ev_var rfl) ev_c (rv_ixL (ex_l (((e4.trans e5).trans e6).trans e7) hg3) (atI_nat (j := 1) (nv_at (h9 (of_decide_eq_true hb)))))) ea_nil)))) fun H8 e8 Q q E => ⟨c, d.ring, d.eyes, ps.getD 0 0, ps.getD 1 0, rfl, sq_of (e8 _ _ R7.lst), by omega, q⟩) ea_nil) fun H8 e8 Q q E => ⟨_, rfl, q⟩) fun p H8 hp e8 h8 => k.go (((e4.trans e5).trans e6).trans e7) hp e8 h8
    rw [if_neg (of_decide_eq_false hb)] at k
    have R7 := R6.ext e7
    exact s_retL (el_count (l := alikeTo d (ps.getD 0 0)) (el_callA (ea_cons (ev_counts T R7 rfl) (ea_cons (ev_eyes T R7 rfl) (ea_cons (ev_var rfl) ea_nil))) fun H8 e8 Q q E => ⟨c, d.ring, d.eyes, ps.getD 0 0, rfl, sq_of (e8 _ _ R7.lst), by omega, q⟩) (by have := look_len d (ps.getD 0 0); omega)) fun p H8 hp e8 h8 => k.go (((e4.trans e5).trans e6).trans e7) hp e8 h8
end
end Rv

set_option Elab.async false
set_option maxRecDepth 100000
set_option maxHeartbeats 1000000
namespace Rv
open Km534 (Desk)
/-! ### which call stands there -/
theorem is0 {args : List Nat} {x : Km534.Call} (h : CallIs 0 args x) (hl : args.length = 2) : ∃ a b, args = [a, b] ∧ x = .begin_ a b := by
  match args, hl with
  | [a, b], _ => exact ⟨a, b, rfl, (Option.some.inj h).symm⟩
theorem is1 {args : List Nat} {x : Km534.Call} (h : CallIs 1 args x) (hl : args.length = 2) : ∃ a b, args = [a, b] ∧ x = .put a b := by
  match args, hl with
  | [a, b], _ => exact ⟨a, b, rfl, (Option.some.inj h).symm⟩
theorem is2 {args : List Nat} {x : Km534.Call} (h : CallIs 2 args x) (hl : args.length = 1) : ∃ a, args = [a] ∧ x = .eyes a := by
  match args, hl with
  | [a], _ => exact ⟨a, rfl, (Option.some.inj h).symm⟩
theorem is3 {args : List Nat} {x : Km534.Call} (h : CallIs 3 args x) (hl : args.length = 1) : ∃ a, args = [a] ∧ x = .turn a := by
  match args, hl with
  | [a], _ => exact ⟨a, rfl, (Option.some.inj h).symm⟩
theorem is4 {args : List Nat} {x : Km534.Call} (h : CallIs 4 args x) (hl : args.length = 1) : ∃ a, args = [a] ∧ x = .mirror a := by
  match args, hl with
  | [a], _ => exact ⟨a, rfl, (Option.some.inj h).symm⟩
theorem is6 {args : List Nat} {x : Km534.Call} (h : CallIs 6 args x) (hl : args.length = 1) : ∃ a, args = [a] ∧ x = .seen a := by
  match args, hl with
  | [a], _ => exact ⟨a, rfl, (Option.some.inj h).symm⟩
theorem is7 {args : List Nat} {x : Km534.Call} (h : CallIs 7 args x) (hl : args.length = 1) : ∃ a, args = [a] ∧ x = .view a := by
  match args, hl with
  | [a], _ => exact ⟨a, rfl, (Option.some.inj h).symm⟩
theorem is8 {args : List Nat} {x : Km534.Call} (h : CallIs 8 args x) (hl : args.length = 1) : ∃ a, args = [a] ∧ x = .even_ a := by
  match args, hl with
  | [a], _ => exact ⟨a, rfl, (Option.some.inj h).symm⟩
theorem is9 {args : List Nat} {x : Km534.Call} (h : CallIs 9 args x) (hl : args.length = 2) : ∃ a b, args = [a, b] ∧ x = .same a b := by
  match args, hl with
  | [a, b], _ => exact ⟨a, b, rfl, (Option.some.inj h).symm⟩
theorem is10 {args : List Nat} {x : Km534.Call} (h : CallIs 10 args x) (hl : args.length = 1) : ∃ a, args = [a] ∧ x = .alike a := by
  match args, hl with
  | [a], _ => exact ⟨a, rfl, (Option.some.inj h).symm⟩
theorem is17 {args : List Nat} {x : Km534.Call} (h : CallIs 17 args x) (hl : args.length = 1) : ∃ a, args = [a] ∧ x = .kinds a := by
  match args, hl with
  | [a], _ => exact ⟨a, rfl, (Option.some.inj h).symm⟩
theorem is18 {args : List Nat} {x : Km534.Call} (h : CallIs 18 args x) (hl : args.length = 2) : ∃ a b, args = [a, b] ∧ x = .nth a b := by
  match args, hl with
  | [a, b], _ => exact ⟨a, b, rfl, (Option.some.inj h).symm⟩
theorem is20 {args : List Nat} {x : Km534.Call} (h : CallIs 20 args x) (hl : args.length = 1) : ∃ a, args = [a] ∧ x = .ifEyes a := by
  match args, hl with
  | [a], _ => exact ⟨a, rfl, (Option.some.inj h).symm⟩
def bare : List (Nat × Km534.Call) := [(5, .ring), (11, .views), (12, .lonely), (13, .name), (14, .turns), (15, .mirrors), (16, .axis), (19, .rank), (21, .told)]
theorem is_bare {j : Nat} {args : List Nat} {x y : Km534.Call} (hy : (j, y) ∈ bare) (h : CallIs j args x) (hl : args.length = 0) : args = [] ∧ x = y := by
  match args, hl with
  | [], _ =>
    refine ⟨rfl, ?_⟩
    simp only [bare, List.mem_cons, Prod.mk.injEq, List.not_mem_nil, or_false] at hy
    rcases hy with ⟨rfl, rfl⟩ | ⟨rfl, rfl⟩ | ⟨rfl, rfl⟩ | ⟨rfl, rfl⟩ | ⟨rfl, rfl⟩ | ⟨rfl, rfl⟩ | ⟨rfl, rfl⟩ | ⟨rfl, rfl⟩ | ⟨rfl, rfl⟩ <;> exact (Option.some.inj h).symm
theorem not_begin {j : Nat} {args : List Nat} {x : Km534.Call} (h : CallIs j args x) (hj : j ≠ 0) : ∀ n e, x ≠ .begin_ n e := by
  intro n e q
  subst q
  unfold CallIs Km534Neutral.callOf at h
  split at h <;> first | (cases h; done) | skip
  all_goals
    rename_i hh
    simp only [List.cons.injEq] at hh
    omega
/-! ### what the machine does, by the mirrors -/
theorem st_none {d : Desk} (h : d.ring = []) : stOf d = none := if_pos h
theorem st_some {d : Desk} (h : d.ring ≠ []) : stOf d = some d := if_neg h
theorem dstep_not {d : Desk} {x : Km534.Call} (h : d.ring = []) (hx : ∀ n e, x ≠ .begin_ n e) : dstep d x = (d, [-11]) := by
  unfold dstep
  rw [st_none h]
  cases x with
  | begin_ n e => exact absurd rfl (hx n e)
  | _ => rfl
theorem dstep_to {d d' : Desk} {x : Km534.Call} {a : Km534.Ans} (hx : Km534.step (stOf d) x = (some d', a)) : dstep d x = (d', a.num :: a.nums) := by
  unfold dstep
  rw [hx]
  rfl
/-- a call that only looks -/
theorem dstep_look {d : Desk} {x : Km534.Call} {a : Km534.Ans} (h : d.ring ≠ []) (hx : Km534.step (some d) x = (some d, a)) : dstep d x = (d, a.num :: a.nums) := by
  unfold dstep
  rw [st_some h, hx]
  rfl
theorem dstep_begin (d : Desk) (n e : Nat) : dstep d (.begin_ n e) = aBegin d n e := by
  unfold aBegin
  by_cases h : n < 3 ∨ 8 < n ∨ 2 < e
  · rw [if_pos h]
    have q : ∀ s, Km534.step s (.begin_ n e) = (s, Km534.say (-22)) := fun s => if_pos h
    by_cases hd : d.ring = []
    · unfold dstep
      rw [q, st_none hd]
      rfl
    · rw [dstep_look hd (q _)]
      rfl
  · rw [if_neg h]
    have q : ∀ s, Km534.step s (.begin_ n e) = (some ⟨List.replicate n 0, e⟩, Km534.say 0) := fun s => if_neg h
    rw [dstep_to (q _)]
    rfl
theorem dstep_put {d : Desk} (h : d.ring ≠ []) (p x : Nat) : dstep d (.put p x) = aPut d p x := by
  unfold aPut
  have q : Km534.step (some d) (.put p x) = if d.ring.length ≤ p then (some d, Km534.say (-2)) else if 6 < x then (some d, Km534.say (-22)) else if 6 < Km534.sum (d.ring.set p x) then (some d, Km534.say (-28)) else (some { d with ring := d.ring.set p x }, Km534.say (d.ring.getD p 0 : Nat)) := rfl
  by_cases h1 : d.ring.length ≤ p
  · rw [if_pos h1] at q ⊢
    exact dstep_look h q
  rw [if_neg h1] at q ⊢
  by_cases h2 : 6 < x
  · rw [if_pos h2] at q ⊢
    exact dstep_look h q
  rw [if_neg h2] at q ⊢
  by_cases h3 : 6 < Km534.sum (d.ring.set p x)
  · rw [if_pos h3] at q ⊢
    exact dstep_look h q
  rw [if_neg h3] at q ⊢
  rw [← st_some h] at q
  exact dstep_to q
theorem dstep_eyes {d : Desk} (h : d.ring ≠ []) (e : Nat) : dstep d (.eyes e) = aEyes d e := by
  unfold aEyes
  by_cases h1 : 2 < e
  · have q : Km534.step (some d) (.eyes e) = (some d, Km534.say (-22)) := if_pos h1
    rw [if_pos h1]
    exact dstep_look h q
  · have q : Km534.step (some d) (.eyes e) = (some { d with eyes := e }, Km534.say (d.eyes : Nat)) := if_neg h1
    rw [if_neg h1]
    rw [← st_some h] at q
    exact dstep_to q
theorem dstep_turn {d : Desk} (h : d.ring ≠ []) (s : Nat) : dstep d (.turn s) = aTurn d s := by
  unfold aTurn
  by_cases h1 : d.ring.length ≤ s
  · have q : Km534.step (some d) (.turn s) = (some d, Km534.say (-2)) := if_pos h1
    rw [if_pos h1]
    exact dstep_look h q
  · have q : Km534.step (some d) (.turn s) = (some { d with ring := Km534.from_ d.ring s }, Km534.say 0) := if_neg h1
    rw [if_neg h1]
    rw [← st_some h] at q
    exact dstep_to q
theorem dstep_mirror {d : Desk} (h : d.ring ≠ []) (s : Nat) : dstep d (.mirror s) = aMirror d s := by
  unfold aMirror
  by_cases h1 : d.ring.length ≤ s
  · have q : Km534.step (some d) (.mirror s) = (some d, Km534.say (-2)) := if_pos h1
    rw [if_pos h1]
    exact dstep_look h q
  · have q : Km534.step (some d) (.mirror s) = (some { d with ring := Km534.back d.ring s }, Km534.say 0) := if_neg h1
    rw [if_neg h1]
    rw [← st_some h] at q
    exact dstep_to q
theorem refusal1 (d : Desk) (p : Nat) : refusal d [p] = if d.ring.length ≤ p then -2 else if d.ring.getD p 0 = 0 then -33 else 0 := by
  unfold refusal
  simp
theorem of_robot {d : Desk} {p : Nat} {a : Unit → Km534.Ans} {j : Nat} (ha : refusal d [p] = 0 → (a ()).num :: (a ()).nums = robots d j [p]) :
    (Km534.ofRobot d p a).num :: (Km534.ofRobot d p a).nums = robots d j [p] := by
  unfold Km534.ofRobot Km534.n_ Km534.at_
  have r := refusal1 d p
  by_cases h1 : d.ring.length ≤ p
  · rw [if_pos h1] at r ⊢
    unfold robots
    rw [r]
    rfl
  · rw [if_neg h1] at r ⊢
    by_cases h2 : d.ring.getD p 0 = 0
    · rw [if_pos h2] at r ⊢
      unfold robots
      rw [r]
      rfl
    · rw [if_neg h2] at r ⊢
      exact ha r
theorem robots_of {d : Desk} {ps : List Nat} (h : refusal d ps = 0) (j : Nat) : robots d j ps = if j = 6 then told (Km534.rowOn d (ps.getD 0 0)) else
  if j = 7 then told ((Km534.view d (ps.getD 0 0)).1 ++ (Km534.view d (ps.getD 0 0)).2) else
  if j = 8 then [if Km534.even_ d (ps.getD 0 0) = true then 1 else 0] else
  if j = 9 then [if decide ((Km534.view d (ps.getD 0 0)).1 = (Km534.view d (ps.getD 1 0)).1) = true then 1 else 0] else
  told (alikeTo d (ps.getD 0 0)) := by
  unfold robots
  rw [h]
  rfl
theorem dstep_seen {d : Desk} (h : d.ring ≠ []) (p : Nat) : dstep d (.seen p) = (d, robots d 6 [p]) := by
  rw [dstep_look h rfl, of_robot]
  intro r
  rw [robots_of r]
  rfl
theorem dstep_view {d : Desk} (h : d.ring ≠ []) (p : Nat) : dstep d (.view p) = (d, robots d 7 [p]) := by
  rw [dstep_look h rfl, of_robot]
  intro r
  rw [robots_of r]
  rfl
theorem dstep_even {d : Desk} (h : d.ring ≠ []) (p : Nat) : dstep d (.even_ p) = (d, robots d 8 [p]) := by
  rw [dstep_look h rfl, of_robot]
  intro r
  rw [robots_of r]
  rfl
theorem dstep_alike {d : Desk} (h : d.ring ≠ []) (p : Nat) : dstep d (.alike p) = (d, robots d 10 [p]) := by
  rw [dstep_look h rfl, of_robot]
  intro r
  rw [robots_of r]
  rfl
theorem dstep_same {d : Desk} (h : d.ring ≠ []) (p q : Nat) : dstep d (.same p q) = (d, robots d 9 [p, q]) := by
  rw [dstep_look h rfl]
  have r : refusal d [p, q] = if d.ring.length ≤ p ∨ d.ring.length ≤ q then -2 else if d.ring.getD p 0 = 0 ∨ d.ring.getD q 0 = 0 then -33 else 0 := by
    unfold refusal
    simp
  show (d, (if d.ring.length ≤ p ∨ d.ring.length ≤ q then Km534.say (-2) else if d.ring.getD p 0 = 0 ∨ d.ring.getD q 0 = 0 then Km534.say (-33) else Km534.say (if (Km534.view d p).1 = (Km534.view d q).1 then 1 else 0)).num :: (if d.ring.length ≤ p ∨ d.ring.length ≤ q then Km534.say (-2) else if d.ring.getD p 0 = 0 ∨ d.ring.getD q 0 = 0 then Km534.say (-33) else Km534.say (if (Km534.view d p).1 = (Km534.view d q).1 then 1 else 0)).nums) = (d, robots d 9 [p, q])
  by_cases h1 : d.ring.length ≤ p ∨ d.ring.length ≤ q
  · rw [if_pos h1] at r ⊢
    unfold robots
    rw [r]
    rfl
  · rw [if_neg h1] at r ⊢
    by_cases h2 : d.ring.getD p 0 = 0 ∨ d.ring.getD q 0 = 0
    · rw [if_pos h2] at r ⊢
      unfold robots
      rw [r]
      rfl
    · rw [if_neg h2] at r ⊢
      rw [robots_of r]
      show (d, (Km534.say (if (Km534.view d p).1 = (Km534.view d q).1 then 1 else 0)).num :: _) = (d, [if decide ((Km534.view d p).1 = (Km534.view d q).1) = true then 1 else 0])
      by_cases e : (Km534.view d p).1 = (Km534.view d q).1
      · rw [if_pos e, decide_eq_true e]
        rfl
      · rw [if_neg e, decide_eq_false e]
        rfl
theorem dstep_ring {d : Desk} (h : d.ring ≠ []) : dstep d .ring = (d, told d.ring) := dstep_look (a := (Km534.step (some d) .ring).2) h rfl
theorem dstep_views {d : Desk} (h : d.ring ≠ []) : dstep d .views = (d, [((Km534.viewsOf d).length : Int)]) := dstep_look (a := (Km534.step (some d) .views).2) h rfl
theorem dstep_lonely {d : Desk} (h : d.ring ≠ []) : dstep d .lonely = (d, told (Km534.lonely d)) := dstep_look (a := (Km534.step (some d) .lonely).2) h rfl
theorem dstep_name {d : Desk} (h : d.ring ≠ []) : dstep d .name = (d, told (Km534.name d.ring)) := dstep_look (a := (Km534.step (some d) .name).2) h rfl
theorem dstep_turns {d : Desk} (h : d.ring ≠ []) : dstep d .turns = (d, [(Km534.turns d.ring : Int)]) := dstep_look (a := (Km534.step (some d) .turns).2) h rfl
theorem dstep_mirrors {d : Desk} (h : d.ring ≠ []) : dstep d .mirrors = (d, [(Km534.mirrors d.ring : Int)]) := dstep_look (a := (Km534.step (some d) .mirrors).2) h rfl
theorem dstep_axis {d : Desk} (h : d.ring ≠ []) : dstep d .axis = (d, told (Km534.onAxis d.ring)) := dstep_look (a := (Km534.step (some d) .axis).2) h rfl
theorem dstep_told {d : Desk} (h : d.ring ≠ []) : dstep d .told = (d, [(d.ring.length : Int), (d.eyes : Int), (Km534.sum d.ring : Int), ((Km534.taken d).length : Int)]) := dstep_look (a := (Km534.step (some d) .told).2) h rfl
theorem dstep_rank {d : Desk} (h : d.ring ≠ []) : dstep d .rank = (d, [((((Km534.names d.ring.length (Km534.sum d.ring)).findIdx? fun r => r == Km534.name d.ring).getD 0 : Nat) : Int), (Km534.sum d.ring : Int)]) := dstep_look (a := (Km534.step (some d) .rank).2) h rfl
theorem dstep_kinds {d : Desk} (h : d.ring ≠ []) (k : Nat) : dstep d (.kinds k) = (d, if 6 < k then [-22] else [((Km534.names d.ring.length k).length : Int)]) := by
  by_cases h1 : 6 < k
  · have q : Km534.step (some d) (.kinds k) = (some d, Km534.say (-22)) := congrArg (Prod.mk (some d)) (if_pos h1)
    rw [if_pos h1, dstep_look h q]
    rfl
  · have q : Km534.step (some d) (.kinds k) = (some d, Km534.say ((Km534.names d.ring.length k).length : Nat)) := congrArg (Prod.mk (some d)) (if_neg h1)
    rw [if_neg h1, dstep_look h q]
    rfl
theorem dstep_nth {d : Desk} (h : d.ring ≠ []) (k i : Nat) : dstep d (.nth k i) = (d, if 6 < k then [-22] else match (Km534.names d.ring.length k)[i]? with
    | none => [-33]
    | some r => told r) := by
  by_cases h1 : 6 < k
  · have q : Km534.step (some d) (.nth k i) = (some d, Km534.say (-22)) := congrArg (Prod.mk (some d)) (if_pos h1)
    rw [if_pos h1, dstep_look h q]
    rfl
  · have q : Km534.step (some d) (.nth k i) = (some d, match (Km534.names d.ring.length k)[i]? with
        | none => Km534.say (-33)
        | some r => Km534.tellAll r) := congrArg (Prod.mk (some d)) (if_neg h1)
    rw [if_neg h1, dstep_look h q]
    cases (Km534.names d.ring.length k)[i]? <;> rfl
theorem dstep_ifeyes {d : Desk} (h : d.ring ≠ []) (e : Nat) : dstep d (.ifEyes e) = (d, if 2 < e then [-22] else ((Km534.viewsOf { d with eyes := e }).length : Int) :: Km534.n2i (Km534.lonely { d with eyes := e })) := by
  by_cases h1 : 2 < e
  · have q : Km534.step (some d) (.ifEyes e) = (some d, Km534.say (-22)) := congrArg (Prod.mk (some d)) (if_pos h1)
    rw [if_pos h1, dstep_look h q]
    rfl
  · have q : Km534.step (some d) (.ifEyes e) = (some d, ⟨((Km534.viewsOf { d with eyes := e }).length : Int), Km534.n2i (Km534.lonely { d with eyes := e })⟩) := congrArg (Prod.mk (some d)) (if_neg h1)
    rw [if_neg h1, dstep_look h q]
end Rv

set_option Elab.async false
set_option maxRecDepth 100000
set_option maxHeartbeats 2000000
namespace Rv
open PySem PySem.Spec PyProof.Rows L2 Evl
/-! ### lists of lists -/
/-- at these addresses stand these lists -/
def Rws (H : Hp) (as : List Addr) (ls : List (List V)) : Prop := as.length = ls.length ∧ ∀ (i : Nat) (a : Addr) (xs : List V), as[i]? = some a → ls[i]? = some xs → H a = some (.lst xs)
theorem Rws.ext {H H' : Hp} {as : List Addr} {ls : List (List V)} (h : Rws H as ls) (e : Ex H H') : Rws H' as ls := ⟨h.1, fun i a xs h1 h2 => e _ _ (h.2 i a xs h1 h2)⟩
theorem Rws.nil {H : Hp} : Rws H [] [] := ⟨rfl, fun i a xs h _ => by simp at h⟩
theorem Rws.append {H : Hp} {as bs : List Addr} {ls ms : List (List V)} (h : Rws H as ls) (h2 : Rws H bs ms) : Rws H (as ++ bs) (ls ++ ms) := by
  refine ⟨by rw [List.length_append, List.length_append, h.1, h2.1], fun i a xs q1 q2 => ?_⟩
  by_cases c : i < as.length
  · rw [List.getElem?_append_left c] at q1
    rw [List.getElem?_append_left (by rw [← h.1]; exact c)] at q2
    exact h.2 i a xs q1 q2
  · rw [List.getElem?_append_right (by omega)] at q1
    rw [List.getElem?_append_right (by rw [← h.1]; omega)] at q2
    rw [← h.1] at q2
    exact h2.2 _ a xs q1 q2
theorem Rws.one {H : Hp} {a : Addr} {xs : List V} (h : H a = some (.lst xs)) : Rws H [a] [xs] := by
  refine ⟨rfl, fun i b ys q1 q2 => ?_⟩
  match i, q1, q2 with
  | 0, q1, q2 =>
    cases q1
    cases q2
    exact h
  | i + 1, q1, _ => simp at q1
/-- a new list of lists -/
def EvR (te : TE) (σ : L2.St) (H : Hp) (ls : List (List V)) : Prop := ∀ H1, Ex H H1 → ∀ Q : VK, (∀ p as H2, H1 p = none → Ex H1 H2 → H2 p = some (.lst (as.map V.ref)) → Rws H2 as ls → Q (.ref p) H2) → te σ H1 Q
section
variable {K : PySem.W.Frag} {σ : L2.St} {H : Hp} {te ta tb : TE}
/-- [e for i in range(n)], e a new list -/
theorem er_lcR1 {ta : TA} {j : Nat} {vs : List Nat} {n : Int} (f : Nat → List V) (h : EvA ta σ H [.int n]) (hn : 0 ≤ n ∧ n ≤ 40000) (hw : ∀ x, wipe ((wipe σ vs).set j (some x)) vs = wipe σ vs)
    (he : ∀ (i : Nat) H1, Ex H H1 → (i : Int) < n → EvL te ((wipe σ vs).set j (some (.int (i : Int)))) H1 (f i)) :
    EvR (tLc (iRng1 ta) (gName j) tYes te vs) σ H ((List.range n.toNat).map f) := fun H0 e Q q => h H0 e _ fun H1 e1 => ⟨n, rfl, by omega, by omega, fun Dl hD =>
  lc_range (lo := 0) (n := n.toNat) (fun i H' => ∃ as : List Addr, H1 Dl = none ∧ Ex H1 H' ∧ H' Dl = some (.lst (as.map V.ref)) ∧ Rws H' as ((List.range i).map f) ∧ ∀ a ∈ as, a ≠ Dl) ⟨[], hD, Ex.new hD, upd_same, Rws.nil, fun _ h => by cases h⟩ (fun i H' hi ⟨as, p1, p2, p3, p4, p5⟩ => by
    have e0 : (0 : Int) + (i : Int) = (i : Int) := Int.zero_add _
    show wipe ((wipe σ vs).set j (some (.int ((0 : Int) + (i : Int))))) vs = wipe σ vs ∧ te ((wipe σ vs).set j (some (.int ((0 : Int) + (i : Int))))) H' fun y H4 => ∃ acc, H4 Dl = some (.lst acc) ∧ acc.length < sizeLine ∧ ∃ as : List Addr, H1 Dl = none ∧ Ex H1 (upd H4 Dl (.lst (acc ++ [y]))) ∧ (upd H4 Dl (.lst (acc ++ [y]))) Dl = some (.lst (as.map V.ref)) ∧ Rws (upd H4 Dl (.lst (acc ++ [y]))) as ((List.range (i + 1)).map f) ∧ ∀ a ∈ as, a ≠ Dl
    rw [e0]
    refine ⟨hw _, he i H1 (e.trans e1) (by omega) H' p2 _ fun b H4 hb e4 h4 => ⟨as.map V.ref, e4 _ _ p3, ?_, as ++ [b], p1, Ex.mut (p2.trans e4) p1, ?_, ?_, ?_⟩⟩
    · have hl := p4.1
      rw [List.length_map, List.length_range] at hl
      rw [List.length_map]
      exact sz_lt (by omega)
    · rw [upd_same, List.map_append]
      rfl
    · have hbD : b ≠ Dl := fun z => by rw [z, p3] at hb; cases hb
      rw [List.range_succ, List.map_append]
      have q1 : Rws H4 (as ++ [b]) ((List.range i).map f ++ [f i]) := (p4.ext e4).append (Rws.one h4)
      refine ⟨q1.1, fun m a xs g1 g2 => ?_⟩
      have hm : a ≠ Dl := by
        rcases List.mem_append.mp (List.mem_of_getElem? g1) with z | z
        · exact p5 a z
        · rw [List.mem_singleton.mp z]
          exact hbD
      rw [upd_ne hm]
      exact q1.2 m a xs g1 g2
    · intro a ha
      rcases List.mem_append.mp ha with z | z
      · exact p5 a z
      · rw [List.mem_singleton.mp z]
        exact fun z => by rw [z, p3] at hb; cases hb) (fun H' ⟨as, p1, p2, p3, p4, _⟩ => q Dl as H' (fresh_back e1 p1) (e1.trans p2) p3 p4)⟩
theorem er_cat {ls ms : List (List V)} (ha : EvR ta σ H ls) (hb : EvR tb σ H ms) (hz : ls.length + ms.length ≤ 100000) : EvR (tOp rCat ta tb) σ H (ls ++ ms) := fun H1 e Q q =>
  ha H1 e _ fun p as H2 hp e2 h2 r2 => hb H2 (e.trans e2) _ fun p' bs H3 hp' e3 h3 r3 => ⟨p, p', _, _, rfl, rfl, e3 _ _ h2, h3, sz_of (by rw [List.length_map, List.length_map, r2.1, r3.1]; exact hz), fun l hl => q l (as ++ bs) _ (fresh_back (e2.trans e3) hl) ((e2.trans e3).trans (Ex.new hl))
    (by rw [upd_same, List.map_append]) (((r2.ext e3).append r3).ext (Ex.new hl))⟩
end
/-! ### min of a list of rows -/
theorem pd_alike : ∀ a b : List Nat, PySem.W.alikeAll (pd a) (pd b) = true
  | [], _ => by rw [pd, List.map_nil, PySem.W.alikeAll]
  | x :: a, [] => by
    show PySem.W.alikeAll (PyData.int (x : Int) :: pd a) [] = true
    rw [PySem.W.alikeAll]
  | x :: a, y :: b => by
    have ih := pd_alike a b
    show PySem.W.alikeAll (PyData.int (x : Int) :: pd a) (PyData.int (y : Int) :: pd b) = true
    rw [PySem.W.alikeAll, ih]
    rfl
theorem pd_lt : ∀ a b : List Nat, a.length = b.length → PySem.W.dataLt (.list (pd a)) (.list (pd b)) = Km534.less a b
  | [], [], _ => by
    rw [PySem.W.dataLt_list]
    rfl
  | [], _ :: _, h => by simp at h
  | _ :: _, [], h => by simp at h
  | x :: a, y :: b, h => by
    have ih := pd_lt a b (by simpa using h)
    rw [PySem.W.dataLt_list] at ih ⊢
    show PyProof.Rows.lexLt PyProof.Rows.itemOrd (PySem.W.keyToksAll (PyData.int (x : Int) :: pd a)) (PySem.W.keyToksAll (PyData.int (y : Int) :: pd b)) = _
    have al : PySem.W.alike (PyData.int (x : Int)) (PyData.int (y : Int)) = true := rfl
    rw [less_cons]
    by_cases e : x = y
    · subst e
      rw [PySem.W.dataLt_all_yes al (by simp [PyData.eqv]), ih]
      simp
    · have ne : PyData.eqv (PyData.int (x : Int)) (PyData.int (y : Int)) = false := by
        simp [PyData.eqv]
        omega
      rw [PySem.W.dataLt_all_no al ne, PySem.W.dataLt_int]
      have e1 : (x == y) = false := by simpa using e
      rw [e1, Bool.false_and, Bool.or_false]
      by_cases l : x < y
      · rw [decide_eq_true l, decide_eq_true (by omega)]
      · rw [decide_eq_false l, decide_eq_false (by omega)]
theorem pd_inj {a b : List Nat} (h : PyData.list (pd a) = PyData.list (pd b)) : a = b := by
  have h1 := PyData.list.inj h
  have h2 := eqv_pd a b
  rw [h1, eqv_pd b b, decide_eq_true rfl] at h2
  exact of_decide_eq_true h2.symm
theorem minD_pd {n : Nat} : ∀ (ls : List (List Nat)) (l : List Nat), l.length = n → (∀ m ∈ ls, m.length = n) → PySem.W.minD (.list (pd l)) (ls.map fun m => PyData.list (pd m)) = .list (pd (least l ls))
  | [], _, _, _ => rfl
  | m :: ls, l, hl, h => by
    have hm := h m List.mem_cons_self
    show PySem.W.minD (if PySem.W.dataLt (.list (pd m)) (.list (pd l)) = true then .list (pd m) else .list (pd l)) (ls.map fun m => PyData.list (pd m)) = .list (pd (least (if Km534.less m l then m else l) ls))
    rw [pd_lt m l (by rw [hm, hl])]
    by_cases c : Km534.less m l = true
    · rw [if_pos c, if_pos c]
      exact minD_pd ls m hm fun x hx => h x (List.mem_cons_of_mem _ hx)
    · rw [if_neg c, if_neg c]
      exact minD_pd ls l hl fun x hx => h x (List.mem_cons_of_mem _ hx)
theorem dp_rows {K : PySem.W.Frag} {H : Hp} : ∀ (as : List Addr) (ls : List (List Nat)), Rws H as (ls.map nv) → DpAll K H (as.map V.ref) (ls.map fun m => PyData.list (pd m))
  | [], [], _ => .nil
  | [], _ :: _, h => absurd h.1 (by simp)
  | _ :: _, [], h => absurd h.1 (by simp)
  | a :: as, l :: ls, h => .cons (.lst (sq_of (h.2 0 a (nv l) rfl rfl)) (dp_nv l)) (dp_rows as ls ⟨by simpa using h.1, fun i b xs q1 q2 => h.2 (i + 1) b xs q1 q2⟩)
theorem depth_rows : ∀ ls : List (List Nat), PyData.depthAll (ls.map fun m => PyData.list (pd m)) ≤ 1
  | [] => by
    rw [List.map_nil, PyData.depthAll]
    exact Nat.zero_le _
  | l :: ls => by
    have ih := depth_rows ls
    rw [List.map_cons, PyData.depthAll, PyData.depth, depth_pd]
    omega
def rMinN (K : PySem.W.Frag) : List V → Hp → VK → Prop := fun vs H Q => ∃ (a : Addr) (as : List Addr) (l : List Nat) (ls : List (List Nat)), vs = [.ref a] ∧ SqL K H a (as.map V.ref) ∧ Rws H as ((l :: ls).map nv) ∧ (∀ m ∈ ls, m.length = l.length) ∧
  ∀ b, H b = some (.lst (nv (least l ls))) → Q (.ref b) H
theorem cr_minN {X : Cx} (hc : X.calm = true) (hu : X.A.units + 64 < cLine) : CallR X (.builtin "min") (rMinN X.K) := by
  intro pins s σ H vs us Q I r h
  obtain ⟨a, as, l, ls, rfl, hs, hR, hlen, q⟩ := h
  obtain ⟨its, rv, hl, _⟩ := I.list hs
  rw [Vals.ref1 r]
  have dp : DpAll X.K H (as.map V.ref) ((l :: ls).map fun m => PyData.list (pd m)) := dp_rows as (l :: ls) hR
  obtain ⟨bs, rd⟩ := Dp.readsAll I _ _ _ dp rv
  refine PySem.W.min_list_data (x := .list (pd l)) (xs := ls.map fun m => PyData.list (pd m)) (I.ok.hd hc) hl.isList rd ?_ ?_ ?_
  · refine ⟨fun x hx y hy => ?_, fun x hx => ?_⟩
    · obtain ⟨m, _, rfl⟩ := List.mem_map.mp (show x ∈ (l :: ls).map fun m => PyData.list (pd m) from hx)
      obtain ⟨m2, _, rfl⟩ := List.mem_map.mp (show y ∈ (l :: ls).map fun m => PyData.list (pd m) from hy)
      rw [PySem.W.alike]
      exact pd_alike m m2
    · obtain ⟨m, _, rfl⟩ := List.mem_map.mp (show x ∈ (l :: ls).map fun m => PyData.list (pd m) from hx)
      exact fun z => by cases z
  · have d := depth_rows (l :: ls)
    rw [List.map_cons] at d
    omega
  · intro i v h' tk cs hv rd' hk
    rw [minD_pd ls l rfl hlen] at rd'
    have hv2 : its[i]? = some v := by simpa using hv
    have hi : i < its.length := (List.getElem?_eq_some_iff.mp hv2).1
    have la : as.length = its.length := by rw [← rv.length, List.length_map]
    have hib : as[i]? = some as[i] := List.getElem?_eq_getElem (by omega)
    have ll : i < (l :: ls).length := by
      have := hR.1
      rw [List.length_map] at this
      omega
    have him : (l :: ls)[i]? = some (l :: ls)[i] := List.getElem?_eq_getElem ll
    obtain ⟨u, hu1, ru⟩ := Vals.get rv (x := V.ref as[i]) (by rw [List.getElem?_map, hib]; rfl)
    rw [hv2] at hu1
    cases hu1
    cases ru
    have hb : H as[i] = some (.lst (nv (l :: ls)[i])) := hR.2 i _ _ hib (by rw [List.getElem?_map, him]; rfl)
    obtain ⟨cs2, rd2⟩ := Dp.reads I (.list (pd (l :: ls)[i])) (.ref as[i]) (.ref as[i]) (.lst (sq_of hb) (dp_nv _)) rfl
    have rd3 := PySem.W.reads_keeps hk rd2
    have eq := SeqAt.Reads.unique _ _ _ _ _ (SeqAt.canLay_of_shaped (shaped_pd _)) rd3 rd'
    have em := pd_inj eq
    rw [em] at hb
    exact ⟨.ref as[i], H, I.kept hk, rfl, q _ hb⟩
end Rv

set_option Elab.async false
set_option maxRecDepth 100000
set_option maxHeartbeats 2000000
namespace Rv
open PySem PySem.Spec PyProof.Rows L2 Evl
open Km534 (Desk)
/-! ### lists of rows, promised and made -/
def RetR (ls : List (List Nat)) (H : Hp) (Q : VK) : Prop := ∀ p as H2, H p = none → Ex H H2 → H2 p = some (.lst (as.map V.ref)) → Rws H2 as (ls.map nv) → Q (.ref p) H2
/-- a list, new or not -/
def RetO (xs : List V) (H : Hp) (Q : VK) : Prop := ∀ p H2, Ex H H2 → H2 p = some (.lst xs) → Q (.ref p) H2
def EvW (te : TE) (σ : L2.St) (H : Hp) (xs : List V) : Prop := ∀ H1, Ex H H1 → ∀ Q : VK, (∀ p H2, Ex H1 H2 → H2 p = some (.lst xs) → Q (.ref p) H2) → te σ H1 Q
theorem mem_row {H : Hp} {as : List Addr} {ls : List (List Nat)} (h : Rws H as (ls.map nv)) {i : Nat} {a : Addr} (ha : as[i]? = some a) : ∃ l, ls[i]? = some l ∧ H a = some (.lst (nv l)) := by
  have hi : i < as.length := (List.getElem?_eq_some_iff.mp ha).1
  have hl := h.1
  rw [List.length_map] at hl
  have e : ls[i]? = some ls[i] := List.getElem?_eq_getElem (by omega)
  exact ⟨_, e, h.2 i a _ ha (by rw [List.getElem?_map, e]; rfl)⟩
theorem Rws.snoc {H : Hp} {as : List Addr} {ls : List (List V)} {a : Addr} {xs : List V} (h : Rws H as ls) (ha : H a = some (.lst xs)) : Rws H (as ++ [a]) (ls ++ [xs]) := h.append (Rws.one ha)
theorem Rws.upd_out {H : Hp} {as : List Addr} {ls : List (List V)} {t : Addr} {o : HO} (h : Rws H as ls) (hn : ∀ a ∈ as, a ≠ t) : Rws (upd H t o) as ls := ⟨h.1, fun i a xs h1 h2 => by
  rw [upd_ne (hn a (List.mem_of_getElem? h1))]
  exact h.2 i a xs h1 h2⟩
theorem take_snoc {α : Type} {l : List α} {i : Nat} {x : α} (h : l[i]? = some x) : l.take (i + 1) = l.take i ++ [x] := by
  rw [List.take_add_one, h]
  rfl
section
variable {K : PySem.W.Frag} {σ : L2.St} {H : Hp} {te tl : TE} {t : TT} {sp : Sp} {E : XK} {vs : List V} {ls : List (List Nat)} {D : Ends}
theorem er_callA {ta : TA} (h : EvA ta σ H vs) (hs : ∀ H1, Ex H H1 → ∀ Q : VK, RetR ls H1 Q → ∀ E : XK, sp vs H1 Q E) : EvR (tCall sp [] E ta) σ H (ls.map nv) := fun H1 e Q q =>
  h H1 e _ fun H2 e2 => by
    show sp (vs ++ []) H2 Q E
    rw [List.append_nil]
    exact hs H2 (e.trans e2) Q (fun p as H3 hp e3 h3 r3 => q p as H3 (fresh_back e2 hp) (e2.trans e3) h3 r3) E
theorem ew_callA {ta : TA} {xs : List V} (h : EvA ta σ H vs) (hs : ∀ H1, Ex H H1 → ∀ Q : VK, RetO xs H1 Q → ∀ E : XK, sp vs H1 Q E) : EvW (tCall sp [] E ta) σ H xs := fun H1 e Q q =>
  h H1 e _ fun H2 e2 => by
    show sp (vs ++ []) H2 Q E
    rw [List.append_nil]
    exact hs H2 (e.trans e2) Q (fun p H3 e3 h3 => q p H3 (e2.trans e3) h3) E
/-- a call whose one argument is a list, new or not -/
theorem el_callW {xs ys : List V} (h : EvW te σ H xs) (hs : ∀ p H1, H1 p = some (.lst xs) → Ex H H1 → ∀ Q : VK, RetL ys H1 Q → ∀ E : XK, sp [.ref p] H1 Q E) : EvL (tCall sp [] E (tCons te tNil)) σ H ys := fun H1 e Q q =>
  h H1 e _ fun p H2 e2 hp => hs p H2 hp (e.trans e2) Q (fun p4 H4 hp4 e4 h4 => q p4 H4 (fresh_back e2 hp4) (e2.trans e4) h4) E
theorem s_retR (h : EvR te σ H (ls.map nv)) (k : RetR ls H D.rt) : tRet te D σ H := h H (Ex.refl H) _ k
/-- [e for x in rows], e a new list -/
theorem er_lcN {j : Nat} {vs : List Nat} (f : List Nat → List Nat) (h : EvR tl σ H (ls.map nv)) (hz : ls.length ≤ 40000) (hw : ∀ x, wipe ((wipe σ vs).set j (some x)) vs = wipe σ vs)
    (he : ∀ (a : Addr) (l : List Nat) H1, Ex H H1 → H1 a = some (.lst (nv l)) → l ∈ ls → EvL te ((wipe σ vs).set j (some (.ref a))) H1 (nv (f l))) :
    EvR (tLc (iList K tl) (gName j) tYes te vs) σ H ((ls.map f).map nv) := fun H0 e Q q => h H0 e _ fun a as H1 _ e1 hx hr => ⟨a, rfl, ⟨_, sq_of hx⟩, fun Dl hD =>
  lc_list (xs := as.map V.ref) (fun i H' => ∃ bs : List Addr, H1 Dl = none ∧ Ex H1 H' ∧ H' Dl = some (.lst (bs.map V.ref)) ∧ Rws H' bs (((ls.take i).map f).map nv) ∧ ∀ b ∈ bs, b ≠ Dl) ⟨[], hD, Ex.new hD, upd_same, Rws.nil, fun _ h => by cases h⟩ (fun i H' _ ⟨bs, p1, p2, p3, p4, p5⟩ => sq_of (p2 a _ hx)) (fun i x H' hi ⟨bs, p1, p2, p3, p4, p5⟩ => by
    show wipe ((wipe σ vs).set j (some x)) vs = wipe σ vs ∧ te ((wipe σ vs).set j (some x)) H' fun y H4 => ∃ acc, H4 Dl = some (.lst acc) ∧ acc.length < sizeLine ∧ ∃ bs : List Addr, H1 Dl = none ∧ Ex H1 (upd H4 Dl (.lst (acc ++ [y]))) ∧ (upd H4 Dl (.lst (acc ++ [y]))) Dl = some (.lst (bs.map V.ref)) ∧ Rws (upd H4 Dl (.lst (acc ++ [y]))) bs (((ls.take (i + 1)).map f).map nv) ∧ ∀ b ∈ bs, b ≠ Dl
    rw [List.getElem?_map] at hi
    cases ha : as[i]? with
    | none =>
      rw [ha] at hi
      cases hi
    | some b =>
      rw [ha] at hi
      cases hi
      obtain ⟨l, hl, hb⟩ := mem_row hr ha
      refine ⟨hw _, he b l H1 (e.trans e1) hb (List.mem_of_getElem? hl) H' p2 _ fun c H4 hc e4 h4 => ⟨bs.map V.ref, e4 _ _ p3, ?_, bs ++ [c], p1, Ex.mut (p2.trans e4) p1, ?_, ?_, ?_⟩⟩
      · have hl4 := p4.1
        rw [List.length_map, List.length_map, List.length_take] at hl4
        rw [List.length_map]
        exact sz_lt (by omega)
      · rw [upd_same, List.map_append]
        rfl
      · have hcD : c ≠ Dl := fun z => by rw [z, p3] at hc; cases hc
        rw [take_snoc hl, List.map_append, List.map_append]
        refine Rws.upd_out ((p4.ext e4).snoc h4) fun x hx => ?_
        rcases List.mem_append.mp hx with z | z
        · exact p5 x z
        · rw [List.mem_singleton.mp z]
          exact hcD
      · intro x hx
        rcases List.mem_append.mp hx with z | z
        · exact p5 x z
        · rw [List.mem_singleton.mp z]
          exact fun z => by rw [z, p3] at hc; cases hc) (fun H' ⟨bs, p1, p2, p3, p4, _⟩ => q Dl bs H' (fresh_back e1 p1) (e1.trans p2) p3 (by
    have hl := hr.1
    rw [List.length_map] at hl
    rwa [List.length_map, hl, List.take_length] at p4))⟩
/-- [x for x in rows if t] -/
theorem er_lcF {j : Nat} {vs : List Nat} (g : List Nat → Bool) (h : EvR tl σ H (ls.map nv)) (hz : ls.length ≤ 40000) (hw : ∀ x, wipe ((wipe σ vs).set j (some x)) vs = wipe σ vs) (hj : ∀ x, ((wipe σ vs).set j (some x))[j]? = some (some x))
    (ht : ∀ (a : Addr) (l : List Nat) H1, Ex H H1 → H1 a = some (.lst (nv l)) → l ∈ ls → EvT t ((wipe σ vs).set j (some (.ref a))) H1 (g l)) :
    EvR (tLc (iList K tl) (gName j) t (tVar j) vs) σ H ((ls.filter g).map nv) := fun H0 e Q q => h H0 e _ fun a as H1 _ e1 hx hr => ⟨a, rfl, ⟨_, sq_of hx⟩, fun Dl hD =>
  lc_list (xs := as.map V.ref) (fun i H' => ∃ bs : List Addr, H1 Dl = none ∧ Ex H1 H' ∧ H' Dl = some (.lst (bs.map V.ref)) ∧ Rws H' bs (((ls.take i).filter g).map nv) ∧ ∀ b ∈ bs, b ≠ Dl) ⟨[], hD, Ex.new hD, upd_same, Rws.nil, fun _ h => by cases h⟩ (fun i H' _ ⟨bs, p1, p2, p3, p4, p5⟩ => sq_of (p2 a _ hx)) (fun i x H' hi ⟨bs, p1, p2, p3, p4, p5⟩ => by
    show wipe ((wipe σ vs).set j (some x)) vs = wipe σ vs ∧ t ((wipe σ vs).set j (some x)) H' fun b H3 => if b = true then tVar j ((wipe σ vs).set j (some x)) H3 fun y H4 => ∃ acc, H4 Dl = some (.lst acc) ∧ acc.length < sizeLine ∧ ∃ bs : List Addr, H1 Dl = none ∧ Ex H1 (upd H4 Dl (.lst (acc ++ [y]))) ∧ (upd H4 Dl (.lst (acc ++ [y]))) Dl = some (.lst (bs.map V.ref)) ∧ Rws (upd H4 Dl (.lst (acc ++ [y]))) bs (((ls.take (i + 1)).filter g).map nv) ∧ ∀ b ∈ bs, b ≠ Dl
      else ∃ bs : List Addr, H1 Dl = none ∧ Ex H1 H3 ∧ H3 Dl = some (.lst (bs.map V.ref)) ∧ Rws H3 bs (((ls.take (i + 1)).filter g).map nv) ∧ ∀ b ∈ bs, b ≠ Dl
    rw [List.getElem?_map] at hi
    cases ha : as[i]? with
    | none =>
      rw [ha] at hi
      cases hi
    | some b =>
      rw [ha] at hi
      cases hi
      obtain ⟨l, hl, hb⟩ := mem_row hr ha
      refine ⟨hw _, ht b l H1 (e.trans e1) hb (List.mem_of_getElem? hl) H' p2 _ fun H3 e3 => ?_⟩
      rw [take_snoc hl, List.filter_append]
      have hbD : b ≠ Dl := fun z => by rw [z, p1] at hb; cases hb
      cases hg : g l with
      | true =>
        rw [if_pos rfl]
        refine ⟨_, hj _, bs.map V.ref, e3 _ _ p3, ?_, bs ++ [b], p1, Ex.mut (p2.trans e3) p1, ?_, ?_, ?_⟩
        · have hl4 := p4.1
          have h5 := List.length_filter_le g (ls.take i)
          have h6 := List.length_take_le i ls
          have h7 : (ls.take i).length ≤ ls.length := by rw [List.length_take]; omega
          rw [List.length_map] at hl4
          rw [List.length_map]
          exact sz_lt (by omega)
        · rw [upd_same, List.map_append]
          rfl
        · rw [List.filter_cons, if_pos hg, List.filter_nil, List.map_append]
          refine Rws.upd_out ((p4.ext e3).snoc ((p2.trans e3) _ _ hb)) fun x hx => ?_
          rcases List.mem_append.mp hx with z | z
          · exact p5 x z
          · rw [List.mem_singleton.mp z]
            exact hbD
        · intro x hx
          rcases List.mem_append.mp hx with z | z
          · exact p5 x z
          · rw [List.mem_singleton.mp z]
            exact hbD
      | false =>
        rw [if_neg Bool.false_ne_true]
        refine ⟨bs, p1, p2.trans e3, e3 _ _ p3, ?_, p5⟩
        rw [List.filter_cons, if_neg (by rw [hg]; exact Bool.false_ne_true), List.filter_nil, List.append_nil]
        exact p4.ext e3) (fun H' ⟨bs, p1, p2, p3, p4, _⟩ => q Dl bs H' (fresh_back e1 p1) (e1.trans p2) p3 (by
    have hl := hr.1
    rw [List.length_map] at hl
    rwa [List.length_map, hl, List.take_length] at p4))⟩
end
end Rv

set_option Elab.async false
set_option maxRecDepth 100000
set_option maxHeartbeats 2000000
namespace Rv
open PySem PySem.Spec PyProof.Rows L2 Evl
open Km534 (Desk)
/-- (counts, eyes): a number, a new list -/
def spEyesV (K : PySem.W.Frag) (g : Desk → Nat) : Sp := fun vs H Q _ => ∃ (a : Addr) (l : List Nat) (e : Nat), vs = [.ref a, .int (e : Int)] ∧ SqL K H a (nv l) ∧ l.length ≤ 1000 ∧ RetV (.int (g ⟨l, e⟩ : Nat)) H Q
def spEyesL (K : PySem.W.Frag) (g : Desk → List Nat) : Sp := fun vs H Q _ => ∃ (a : Addr) (l : List Nat) (e : Nat), vs = [.ref a, .int (e : Int)] ∧ SqL K H a (nv l) ∧ l.length ≤ 1000 ∧ RetL (nv (g ⟨l, e⟩)) H Q
/-- (counts): a new list -/
def spList (K : PySem.W.Frag) (g : List Nat → List Nat) : Sp := fun vs H Q _ => ∃ (a : Addr) (l : List Nat), vs = [.ref a] ∧ SqL K H a (nv l) ∧ l.length ≤ 1000 ∧ RetL (nv (g l)) H Q
theorem given_nv (n : Nat) (f : Nat → Bool) : given n f (fun q => V.int (q : Int)) = nv ((List.range n).filter f) := rfl
theorem nat_eq_dec {a b : Nat} : decide (V.int (a : Int) = V.int (b : Int)) = decide (a = b) := by
  rw [int_eq_dec]
  by_cases h : a = b
  · rw [decide_eq_true h, decide_eq_true (by omega)]
  · rw [decide_eq_false h, decide_eq_false (by omega)]
theorem one_nv (p : Nat) : [V.int (p : Int)] = nv [p] := rfl
section
variable {P : Program} {w : World} {K : PySem.W.Frag} {mg : Str → Option Value} {base : Heap}
/-! ### number_of_views, lonely_places -/
abbrev sViews : Stmt := topS 12
theorem scViews : FnScope ["counts", "eyes", "p"] ["counts", "eyes"] (defScope sViews) := ⟨rfl, rfl, rfl, by decide +kernel, rfl, by decide +kernel, by decide +kernel⟩
theorem ok_views {f : Addr} {fd : FuncData} (B : Blt mg) (T1 : DefOk P w K mg base "places_alike" 7 ["counts", "eyes", "p"] (spRow K alikeTo)) (F : Fun K "number_of_views" "number_of_views" sViews f fd) :
    FnOk P w K mg base CX0 8 f fd ["counts", "eyes"] (spEyesV K fun d => (Km534.viewsOf d).length) := by
  refine F.ok scViews (fun vs H Q E h => ?_) (fun cdv A outer s H vs Q E hr h => ?_)
  · obtain ⟨a, l, e, rfl, _⟩ := h
    rfl
  · obtain ⟨a, l, e, rfl, hl, hn, k⟩ := h
    refine ⟨_, pss_one (ps_ret (pe_callB call_len_seq (by rfl) B.len PySem.boot_len (pa_cons (pe_lc (own := [("p", 2)]) (g := gName 2)
      (tt := tAnd (tTest (tOp rGt (tOp (rIxL K) (tVar 0) (tVar 2)) (tC (.int 0)))) (tTest (tOp rEq (tOp (rIxL K) (tCall (spRow K alikeTo) [] E0 (tCons (tVar 0) (tCons (tVar 1) (tCons (tVar 2) tNil)))) (tC (.int 0))) (tVar 2)))) (te := tVar 2) rfl scViews.nd
        (pi_range1 rfl B.range (pa_cons (pe_callB call_len_seq (by rfl) B.len PySem.boot_len (pa_cons (pv 0) pa_nil)) pa_nil)) (blkOk_by (N := ["counts", "eyes", "p"]) (sc := defScope sViews) (by decide +kernel))
        (fun _ _ _ _ _ => pg_name (i := 2) scViews.nd rfl (Or.inl rfl))
        (fun _ _ _ _ _ => pts_one (PW.pt (pw_and (pt_cmpR op_gt (pe_ix ix_list (pv 0) (pv 2) (fun _ _ => rfl)) pe_int (nomark _)) (pw_and1 (pt_cmpR op_eq (pe_ix ix_list (pe_def T1 hr rfl (pa_cons (pv 0) (pa_cons (pv 1) (pa_cons (pv 2) pa_nil)))) pe_int (fun _ _ => rfl)) (pv 2) (nomark _)))))) (fun _ _ _ _ _ => pv 2)) pa_nil))), ?_⟩
    refine s_ret (ev_lenN (K := K) (el_lcR1 (isFirst ⟨l, e⟩) (fun q => V.int (q : Int)) (ea_cons (ev_len (ev_var rfl) hl) ea_nil) (by rw [nv_len]; omega) (fun _ => rfl) (fun i H1 e1 hi => ?_) (fun i H1 e1 hi _ => ev_var rfl))) fun H1 e1 => ?_
    · rw [nv_len] at hi
      refine et_and (et_is (et_test (ev_op (ev_op (ev_var rfl) (ev_var rfl) (rv_ixL (ex_l e1 hl) (atI_nat (nv_at (by omega))))) ev_c rv_I0)) ?_) (fun hc => et_is (et_test (ev_op (ev_opL1 (el_callA (ea_cons (ev_var rfl) (ea_cons (ev_var rfl) (ea_cons (ev_var rfl) ea_nil))) fun H2 e2 Q q E => ⟨a, l, e, i, rfl, ex_l (e1.trans e2) hl, hn, q⟩)
        (fun _ _ => ev_c) (fun p H2 hp e2 => rv_ixL (sq_of hp) (atI_nat (j := 0) (nv_at (alikeTo_pos (d := ⟨l, e⟩) (p := i) ⟨by show i < l.length; omega, of_decide_eq_true hc⟩))))) (ev_var rfl) (rv_eq rfl))) nat_eq_dec)
      by_cases h : 0 < l.getD i 0
      · show decide ((0 : Int) < ((l.getD i 0 : Nat) : Int)) = decide (0 < l.getD i 0)
        rw [decide_eq_true h, decide_eq_true (by omega)]
      · show decide ((0 : Int) < ((l.getD i 0 : Nat) : Int)) = decide (0 < l.getD i 0)
        rw [decide_eq_false h, decide_eq_false (by omega)]
    · have r : Q (V.int ((Km534.viewsOf ⟨l, e⟩).length : Nat)) H1 := k H1 e1
      rw [views_firsts] at r
      rw [given_nv, nv_len, nv_len, Int.toNat_natCast]
      exact r
abbrev sLonely : Stmt := topS 13
theorem scLonely : FnScope ["counts", "eyes", "p"] ["counts", "eyes"] (defScope sLonely) := ⟨rfl, rfl, rfl, by decide +kernel, rfl, by decide +kernel, by decide +kernel⟩
theorem ok_lonely {f : Addr} {fd : FuncData} (B : Blt mg) (T1 : DefOk P w K mg base "places_alike" 7 ["counts", "eyes", "p"] (spRow K alikeTo)) (F : Fun K "lonely_places" "lonely_places" sLonely f fd) :
    FnOk P w K mg base CX0 8 f fd ["counts", "eyes"] (spEyesL K Km534.lonely) := by
  refine F.ok scLonely (fun vs H Q E h => ?_) (fun cdv A outer s H vs Q E hr h => ?_)
  · obtain ⟨a, l, e, rfl, _⟩ := h
    rfl
  · obtain ⟨a, l, e, rfl, hl, hn, k⟩ := h
    refine ⟨_, pss_one (ps_ret (pe_lc (own := [("p", 2)]) (g := gName 2)
      (tt := tAnd (tTest (tOp rEq (tOp (rIxL K) (tVar 0) (tVar 2)) (tC (.int 1)))) (tTest (tOp (rEqD K) (tCall (spRow K alikeTo) [] E0 (tCons (tVar 0) (tCons (tVar 1) (tCons (tVar 2) tNil)))) (tLst (tCons (tVar 2) tNil))))) (te := tVar 2) rfl scLonely.nd
        (pi_range1 rfl B.range (pa_cons (pe_callB call_len_seq (by rfl) B.len PySem.boot_len (pa_cons (pv 0) pa_nil)) pa_nil)) (blkOk_by (N := ["counts", "eyes", "p"]) (sc := defScope sLonely) (by decide +kernel))
        (fun _ _ _ _ _ => pg_name (i := 2) scLonely.nd rfl (Or.inl rfl))
        (fun _ _ _ _ _ => pts_one (PW.pt (pw_and (pt_cmpR op_eq (pe_ix ix_list (pv 0) (pv 2) (fun _ _ => rfl)) pe_int (nomark _)) (pw_and1 (pt_cmpR (op_eqD hr.units) (pe_def T1 hr rfl (pa_cons (pv 0) (pa_cons (pv 1) (pa_cons (pv 2) pa_nil)))) (pe_lst (pa_cons (pv 2) pa_nil)) (nomark _)))))) (fun _ _ _ _ _ => pv 2))), ?_⟩
    refine s_retL (el_lcR1 (isLonely ⟨l, e⟩) (fun q => V.int (q : Int)) (ea_cons (ev_len (ev_var rfl) hl) ea_nil) (by rw [nv_len]; omega) (fun _ => rfl) (fun i H1 e1 hi => ?_) (fun i H1 e1 hi _ => ev_var rfl)) fun b H1 hb e1 h1 => k.go (Ex.refl _) hb e1 ?_
    · rw [nv_len] at hi
      exact et_and (et_is (et_test (ev_op (ev_op (ev_var rfl) (ev_var rfl) (rv_ixL (ex_l e1 hl) (atI_nat (nv_at (by omega))))) ev_c (rv_eq rfl))) (nat_eq_dec (b := 1))) (fun _ => et_test (ev_opLL (el_callA (ea_cons (ev_var rfl) (ea_cons (ev_var rfl) (ea_cons (ev_var rfl) ea_nil))) fun H2 e2 Q q E => ⟨a, l, e, i, rfl, ex_l (e1.trans e2) hl, hn, q⟩)
        (el_lst (ea_cons (ev_var rfl) ea_nil) (by show 1 ≤ 100000; decide)) (fun p q H2 hp hq e2 => rv_eqN (b := [i]) (sq_of hp) (sq_of hq))))
    · rw [h1, lonely_eq, given_nv, nv_len, Int.toNat_natCast]
/-! ### turnings_kept, mirrorings_kept, axis_places -/
abbrev sTurnings : Stmt := topS 15
abbrev sMirrorings : Stmt := topS 16
theorem scTurnings : FnScope ["counts", "s"] ["counts"] (defScope sTurnings) := ⟨rfl, rfl, rfl, by decide +kernel, rfl, by decide +kernel, by decide +kernel⟩
theorem scMirrorings : FnScope ["counts", "s"] ["counts"] (defScope sMirrorings) := ⟨rfl, rfl, rfl, by decide +kernel, rfl, by decide +kernel, by decide +kernel⟩
theorem ok_turnings {f : Addr} {fd : FuncData} (B : Blt mg) (T1 : DefOk P w K mg base "turned" 1 ["row", "s"] (spRot K Km534.from_)) (F : Fun K "turnings_kept" "turnings_kept" sTurnings f fd) :
    FnOk P w K mg base CX0 2 f fd ["counts"] (spList K (keptBy Km534.from_)) := by
  refine F.ok scTurnings (fun vs H Q E h => ?_) (fun cdv A outer s H vs Q E hr h => ?_)
  · obtain ⟨a, l, rfl, _⟩ := h
    rfl
  · obtain ⟨a, l, rfl, hl, hn, k⟩ := h
    refine ⟨_, pss_one (ps_ret (pe_lc (own := [("s", 1)]) (g := gName 1) (tt := tTest (tOp (rEqD K) (tCall (spRot K Km534.from_) [] E0 (tCons (tVar 0) (tCons (tVar 1) tNil))) (tVar 0))) (te := tVar 1) rfl scTurnings.nd
        (pi_range1 rfl B.range (pa_cons (pe_callB call_len_seq (by rfl) B.len PySem.boot_len (pa_cons (pv 0) pa_nil)) pa_nil)) (blkOk_by (N := ["counts", "s"]) (sc := defScope sTurnings) (by decide +kernel))
        (fun _ _ _ _ _ => pg_name (i := 1) scTurnings.nd rfl (Or.inl rfl))
        (fun _ _ _ _ _ => pts_one (pt_cmpR (op_eqD hr.units) (pe_def T1 hr rfl (pa_cons (pv 0) (pa_cons (pv 1) pa_nil))) (pv 0) (nomark _))) (fun _ _ _ _ _ => pv 1))), ?_⟩
    refine s_retL (el_lcR1 (fun s => decide (Km534.from_ l s = l)) (fun q => V.int (q : Int)) (ea_cons (ev_len (ev_var rfl) hl) ea_nil) (by rw [nv_len]; omega) (fun _ => rfl) (fun i H1 e1 hi => ?_) (fun i H1 e1 hi _ => ev_var rfl)) fun b H1 hb e1 h1 => k.go (Ex.refl _) hb e1 ?_
    · exact et_test (ev_opL1 (el_callA (ea_cons (ev_var rfl) (ea_cons (ev_var rfl) ea_nil)) fun H2 e2 Q q E => ⟨a, l, i, rfl, ex_l (e1.trans e2) hl, hn, q⟩) (fun _ _ => ev_var rfl) (fun p H2 hp e2 => rv_eqN (sq_of hp) (ex_l (e1.trans e2) hl)))
    · rw [h1, given_nv, nv_len, Int.toNat_natCast, keptBy]
theorem ok_mirrorings {f : Addr} {fd : FuncData} (B : Blt mg) (T1 : DefOk P w K mg base "mirrored" 1 ["row", "s"] (spRot K Km534.back)) (F : Fun K "mirrorings_kept" "mirrorings_kept" sMirrorings f fd) :
    FnOk P w K mg base CX0 2 f fd ["counts"] (spList K (keptBy Km534.back)) := by
  refine F.ok scMirrorings (fun vs H Q E h => ?_) (fun cdv A outer s H vs Q E hr h => ?_)
  · obtain ⟨a, l, rfl, _⟩ := h
    rfl
  · obtain ⟨a, l, rfl, hl, hn, k⟩ := h
    refine ⟨_, pss_one (ps_ret (pe_lc (own := [("s", 1)]) (g := gName 1) (tt := tTest (tOp (rEqD K) (tCall (spRot K Km534.back) [] E0 (tCons (tVar 0) (tCons (tVar 1) tNil))) (tVar 0))) (te := tVar 1) rfl scMirrorings.nd
        (pi_range1 rfl B.range (pa_cons (pe_callB call_len_seq (by rfl) B.len PySem.boot_len (pa_cons (pv 0) pa_nil)) pa_nil)) (blkOk_by (N := ["counts", "s"]) (sc := defScope sMirrorings) (by decide +kernel))
        (fun _ _ _ _ _ => pg_name (i := 1) scMirrorings.nd rfl (Or.inl rfl))
        (fun _ _ _ _ _ => pts_one (pt_cmpR (op_eqD hr.units) (pe_def T1 hr rfl (pa_cons (pv 0) (pa_cons (pv 1) pa_nil))) (pv 0) (nomark _))) (fun _ _ _ _ _ => pv 1))), ?_⟩
    refine s_retL (el_lcR1 (fun s => decide (Km534.back l s = l)) (fun q => V.int (q : Int)) (ea_cons (ev_len (ev_var rfl) hl) ea_nil) (by rw [nv_len]; omega) (fun _ => rfl) (fun i H1 e1 hi => ?_) (fun i H1 e1 hi _ => ev_var rfl)) fun b H1 hb e1 h1 => k.go (Ex.refl _) hb e1 ?_
    · exact et_test (ev_opL1 (el_callA (ea_cons (ev_var rfl) (ea_cons (ev_var rfl) ea_nil)) fun H2 e2 Q q E => ⟨a, l, i, rfl, ex_l (e1.trans e2) hl, hn, q⟩) (fun _ _ => ev_var rfl) (fun p H2 hp e2 => rv_eqN (sq_of hp) (ex_l (e1.trans e2) hl)))
    · rw [h1, given_nv, nv_len, Int.toNat_natCast, keptBy]
theorem inV_nv (x : Nat) : ∀ l : List Nat, inV (.int (x : Int)) (nv l) = decide (x ∈ l)
  | [] => by simp [inV, nv]
  | y :: l => by
    have ih := inV_nv x l
    show (((y : Int) == (x : Int)) || inV (.int (x : Int)) (nv l)) = _
    rw [ih]
    by_cases h : x = y
    · subst h
      simp
    · have : ((y : Int) == (x : Int)) = false := by
        simp only [beq_eq_false_iff_ne]
        omega
      rw [this]
      simp [h]
theorem flat_nv : ∀ l : List Nat, (nv l).all flatV = true
  | [] => rfl
  | y :: l => by
    show (true && (nv l).all flatV) = true
    rw [flat_nv l]
    rfl
abbrev rMul : R2 := rI CMul fun i j => .int (i * j)
abbrev sAxis : Stmt := topS 17
theorem scAxis : FnScope ["counts", "kept", "n", "i"] ["counts"] (defScope sAxis) := ⟨rfl, rfl, rfl, by decide +kernel, rfl, by decide +kernel, by decide +kernel⟩
theorem ok_axis {f : Addr} {fd : FuncData} (B : Blt mg) (T1 : DefOk P w K mg base "mirrorings_kept" 2 ["counts"] (spList K (keptBy Km534.back))) (F : Fun K "axis_places" "axis_places" sAxis f fd) :
    FnOk P w K mg base CX0 3 f fd ["counts"] (spList K Km534.onAxis) := by
  refine F.ok scAxis (fun vs H Q E h => ?_) (fun cdv A outer s H vs Q E hr h => ?_)
  · obtain ⟨a, l, rfl, _⟩ := h
    rfl
  · obtain ⟨a, l, rfl, hl, hn, k⟩ := h
    refine ⟨_, pss_cons (ps_set (i := 1) scAxis.nd rfl (Or.inr rfl) (pe_def T1 hr rfl (pa_cons (pv 0) pa_nil)))
      (pss_cons (ps_set (i := 2) scAxis.nd rfl (Or.inr rfl) (pe_callB call_len_seq (by rfl) B.len PySem.boot_len (pa_cons (pv 0) pa_nil)))
      (pss_one (ps_ret (pe_lc (own := [("i", 3)]) (g := gName 3) (tt := tTest (tOp (rIn K false) (tOp rMod (tOp rMul (tC (.int 2)) (tVar 3)) (tVar 2)) (tVar 1))) (te := tVar 3) rfl scAxis.nd
        (pi_range1 rfl B.range (pa_cons (pv 2) pa_nil)) (blkOk_by (N := ["counts", "kept", "n", "i"]) (sc := defScope sAxis) (by decide +kernel))
        (fun _ _ _ _ _ => pg_name (i := 3) scAxis.nd rfl (Or.inl rfl))
        (fun _ _ _ _ _ => pts_one (pt_cmpR op_in_seq (pe_op op_mod (pe_op op_mul pe_int (pv 3)) (pv 2)) (pv 1) (by rfl))) (fun _ _ _ _ _ => pv 3))))), ?_⟩
    refine q_asgL (el_callA (ea_cons (ev_var rfl) ea_nil) fun H1 e1 Q q E => ⟨a, l, rfl, ex_l e1 hl, hn, q⟩) fun r H1 hr1 e1 h1 => ?_
    refine q_asg (ev_len (ev_var rfl) (ex_l e1 hl)) fun H2 e2 => ?_
    refine s_retL (el_lcR1 (fun i => decide ((2 * i) % l.length ∈ keptBy Km534.back l)) (fun q => V.int (q : Int)) (ea_cons (ev_var rfl) ea_nil) (by rw [nv_len]; omega) (fun _ => rfl) (fun i H3 e3 hi => ?_) (fun i H3 e3 hi _ => ev_var rfl)) fun b H3 hb e3 h3 => k.go (e1.trans e2) hb e3 ?_
    · rw [nv_len] at hi
      refine et_is (et_test (ev_op (ev_op (ev_op ev_c (ev_var rfl) (rv_I (Or.inl ⟨by decide, by decide⟩))) (ev_var rfl) (rv_I (by show (0 : Int) < ((nv l).length : Int); rw [nv_len]; omega))) (ev_var rfl) (rv_isL (sq_of ((e2.trans e3) _ _ h1)) rfl (flat_nv _)))) ?_
      rw [nv_len, ← inV_nv]
      congr 2
    · rw [h3, axis_eq, given_nv, nv_len, Int.toNat_natCast]
end
end Rv

set_option Elab.async false
set_option maxRecDepth 100000
set_option maxHeartbeats 2000000
namespace Rv
open PySem PySem.Spec PyProof.Rows L2 Evl
open Km534 (Desk)
/-- (counts): a list of new rows, a row, a truth value -/
def spRings0 (K : PySem.W.Frag) : Sp := fun vs H Q _ => ∃ (a : Addr) (l : List Nat), vs = [.ref a] ∧ SqL K H a (nv l) ∧ l.length ≤ 1000 ∧ RetR (Km534.rows l) H Q
def spName (K : PySem.W.Frag) : Sp := fun vs H Q _ => ∃ (a : Addr) (l : List Nat), vs = [.ref a] ∧ SqL K H a (nv l) ∧ l ≠ [] ∧ l.length ≤ 1000 ∧ RetO (nv (Km534.name l)) H Q
def spIsName (K : PySem.W.Frag) : Sp := fun vs H Q _ => ∃ (a : Addr) (l : List Nat), vs = [.ref a] ∧ SqL K H a (nv l) ∧ l.length ≤ 1000 ∧ RetV (.bl (decide (Km534.name l = l))) H Q
/-- (n, robots), n at most m -/
def spRings (m : Nat) : Sp := fun vs H Q _ => ∃ (n k : Nat), vs = [.int (n : Int), .int (k : Int)] ∧ 1 ≤ n ∧ n ≤ m ∧ n ≤ 8 ∧ k ≤ 6 ∧ RetR (Km534.allRows n k) H Q
def spNames : Sp := fun vs H Q _ => ∃ (n k : Nat), vs = [.int (n : Int), .int (k : Int)] ∧ 1 ≤ n ∧ n ≤ 8 ∧ k ≤ 6 ∧ RetR (Km534.names n k) H Q
def rankOf (l : List Nat) : Nat := ((Km534.names l.length (Km534.sum l)).findIdx? fun r => r == Km534.name l).getD 0
def spRank (K : PySem.W.Frag) : Sp := fun vs H Q _ => ∃ (a : Addr) (l : List Nat), vs = [.ref a] ∧ SqL K H a (nv l) ∧ l ≠ [] ∧ l.length ≤ 8 ∧ Km534.sum l ≤ 6 ∧ RetV (.int (rankOf l : Nat)) H Q
section
variable {P : Program} {w : World} {K : PySem.W.Frag} {mg : Str → Option Value} {base : Heap}
/-! ### rings_alike, name_of, is_name -/
abbrev sRingsAlike : Stmt := topS 18
theorem scRingsAlike : FnScope ["counts", "n", "s"] ["counts"] (defScope sRingsAlike) := ⟨rfl, rfl, rfl, by decide +kernel, rfl, by decide +kernel, by decide +kernel⟩
theorem map_nv2 (n : Nat) (f g : Nat → List Nat) : (List.range n).map (fun s => nv (f s)) ++ (List.range n).map (fun s => nv (g s)) = ((List.range n).map f ++ (List.range n).map g).map nv := by
  rw [List.map_append, List.map_map, List.map_map]
  rfl
theorem ok_rings_alike {f : Addr} {fd : FuncData} (B : Blt mg) (T1 : DefOk P w K mg base "turned" 1 ["row", "s"] (spRot K Km534.from_)) (T2 : DefOk P w K mg base "mirrored" 1 ["row", "s"] (spRot K Km534.back)) (F : Fun K "rings_alike" "rings_alike" sRingsAlike f fd) :
    FnOk P w K mg base CX0 2 f fd ["counts"] (spRings0 K) := by
  refine F.ok scRingsAlike (fun vs H Q E h => ?_) (fun cdv A outer s H vs Q E hr h => ?_)
  · obtain ⟨a, l, rfl, _⟩ := h
    rfl
  · obtain ⟨a, l, rfl, hl, hn, k⟩ := h
    refine ⟨_, pss_cons (ps_set (i := 1) scRingsAlike.nd rfl (Or.inl rfl) (pe_callB call_len_seq (by rfl) B.len PySem.boot_len (pa_cons (pv 0) pa_nil)))
      (pss_one (ps_ret (pe_op op_cat
        (pe_lc (own := [("s", 2)]) (g := gName 2) (tt := tYes) (te := tCall (spRot K Km534.from_) [] E0 (tCons (tVar 0) (tCons (tVar 2) tNil))) rfl scRingsAlike.nd (pi_range1 rfl B.range (pa_cons (pv 1) pa_nil)) (blkOk_by (N := ["counts", "n", "s"]) (sc := defScope sRingsAlike) (by decide +kernel))
          (fun _ _ _ _ _ => pg_name (i := 2) scRingsAlike.nd rfl (Or.inl rfl)) (fun _ _ _ _ _ => pts_nil) (fun _ _ _ _ _ => pe_def T1 hr rfl (pa_cons (pv 0) (pa_cons (pv 2) pa_nil))))
        (pe_lc (own := [("s", 2)]) (g := gName 2) (tt := tYes) (te := tCall (spRot K Km534.back) [] E0 (tCons (tVar 0) (tCons (tVar 2) tNil))) rfl scRingsAlike.nd (pi_range1 rfl B.range (pa_cons (pv 1) pa_nil)) (blkOk_by (N := ["counts", "n", "s"]) (sc := defScope sRingsAlike) (by decide +kernel))
          (fun _ _ _ _ _ => pg_name (i := 2) scRingsAlike.nd rfl (Or.inl rfl)) (fun _ _ _ _ _ => pts_nil) (fun _ _ _ _ _ => pe_def T2 hr rfl (pa_cons (pv 0) (pa_cons (pv 2) pa_nil))))))), ?_⟩
    refine q_asg (ev_len (ev_var rfl) hl) fun H1 e1 => ?_
    refine s_retR (ls := Km534.rows l) ?_ fun p as H2 hp e2 h2 r2 => k p as H2 (fresh_back e1 hp) (e1.trans e2) h2 r2
    have hr2 : (Km534.rows l).map nv = (List.range ((nv l).length : Int).toNat).map (fun s => nv (Km534.from_ l s)) ++ (List.range ((nv l).length : Int).toNat).map (fun s => nv (Km534.back l s)) := by
      rw [nv_len, Int.toNat_natCast, map_nv2]
      rfl
    rw [hr2]
    exact er_cat (er_lcR1 (fun s => nv (Km534.from_ l s)) (ea_cons (ev_var rfl) ea_nil) (by rw [nv_len]; omega) (fun _ => rfl) (fun i H2 e2 hi => el_callA (ea_cons (ev_var rfl) (ea_cons (ev_var rfl) ea_nil)) fun H3 e3 Q q E => ⟨a, l, i, rfl, ex_l ((e1.trans e2).trans e3) hl, hn, q⟩))
      (er_lcR1 (fun s => nv (Km534.back l s)) (ea_cons (ev_var rfl) ea_nil) (by rw [nv_len]; omega) (fun _ => rfl) (fun i H2 e2 hi => el_callA (ea_cons (ev_var rfl) (ea_cons (ev_var rfl) ea_nil)) fun H3 e3 Q q E => ⟨a, l, i, rfl, ex_l ((e1.trans e2).trans e3) hl, hn, q⟩)) (by rw [List.length_map, List.length_map, List.length_range, nv_len, Int.toNat_natCast]; omega)
abbrev sName : Stmt := topS 19
theorem scName : FnScope ["counts"] ["counts"] (defScope sName) := ⟨rfl, rfl, rfl, by decide +kernel, rfl, by decide +kernel, by decide +kernel⟩
theorem ok_name {f : Addr} {fd : FuncData} (B : Blt mg) (T1 : DefOk P w K mg base "rings_alike" 2 ["counts"] (spRings0 K)) (F : Fun K "name_of" "name_of" sName f fd) :
    FnOk P w K mg base CX0 3 f fd ["counts"] (spName K) := by
  refine F.ok scName (fun vs H Q E h => ?_) (fun cdv A outer s H vs Q E hr h => ?_)
  · obtain ⟨a, l, rfl, _⟩ := h
    rfl
  · obtain ⟨a, l, rfl, hl, hne, hn, k⟩ := h
    refine ⟨_, pss_one (ps_ret (pe_callB (cr_minN rfl hr.units) (by rfl) B.min (by decide +kernel) (pa_cons (pe_def T1 hr rfl (pa_cons (pv 0) pa_nil)) pa_nil))), ?_⟩
    obtain ⟨rs, e, hm, hlen⟩ := rows_cons hne
    refine er_callA (ls := Km534.rows l) (ea_cons (ev_var rfl) ea_nil) (fun H1 e1 Q q E => ⟨a, l, rfl, ex_l e1 hl, hn, q⟩) H (Ex.refl H) _ fun p as H2 hp e2 h2 r2 => ?_
    rw [e] at r2
    refine ⟨p, as, l, rs, rfl, sq_of h2, r2, hlen, fun b hb => k b H2 e2 ?_⟩
    rw [hm] at hb
    exact hb
abbrev sIsName : Stmt := topS 20
theorem scIsName : FnScope ["counts", "s"] ["counts"] (defScope sIsName) := ⟨rfl, rfl, rfl, by decide +kernel, rfl, by decide +kernel, by decide +kernel⟩
theorem ok_is_name {f : Addr} {fd : FuncData} (B : Blt mg) (T1 : DefOk P w K mg base "turned" 1 ["row", "s"] (spRot K Km534.from_)) (T2 : DefOk P w K mg base "mirrored" 1 ["row", "s"] (spRot K Km534.back)) (F : Fun K "is_name" "is_name" sIsName f fd) :
    FnOk P w K mg base CX0 2 f fd ["counts"] (spIsName K) := by
  refine F.ok scIsName (fun vs H Q E h => ?_) (fun cdv A outer s H vs Q E hr h => ?_)
  · obtain ⟨a, l, rfl, _⟩ := h
    rfl
  · obtain ⟨a, l, rfl, hl, hn, k⟩ := h
    refine ⟨_, pss_cons (ps_for PassesOwn.never rfl (pi_range1 rfl B.range (pa_cons (pe_callB call_len_seq (by rfl) B.len PySem.boot_len (pa_cons (pv 0) pa_nil)) pa_nil)) (pg_name (i := 1) scIsName.nd rfl (Or.inl rfl))
        (pss_one (ps_if (PW.pt (pw_or (pt_cmpR (op_ltL hr.units0) (pe_def T1 hr rfl (pa_cons (pv 0) (pa_cons (pv 1) pa_nil))) (pv 0) (nomark _)) (pw_or1 (pt_cmpR (op_ltL hr.units0) (pe_def T2 hr rfl (pa_cons (pv 0) (pa_cons (pv 1) pa_nil))) (pv 0) (nomark _))))) (pss_one (ps_ret pe_bl)) pss_nil)))
      (pss_one (ps_ret pe_bl)), ?_⟩
    refine q_forR1 (ea_cons (ev_len (ev_var rfl) hl) ea_nil) (by rw [nv_len]; omega) (fun i σ' H' => (∃ v, σ' = [some (.ref a), v]) ∧ Ex H H' ∧ ∀ s, s < i → Km534.less (Km534.from_ l s) l = false ∧ Km534.less (Km534.back l s) l = false) (fun H1 e1 => ⟨⟨none, rfl⟩, e1, fun s hs => by omega⟩) (fun i σ' H' hi hp => ?_) (fun σ' H' hp => ?_)
    · obtain ⟨⟨v, rfl⟩, e1, hs⟩ := hp
      rw [nv_len] at hi
      have hi2 : i < l.length := by omega
      refine s_when (et_or (et_test (ev_opL1 (el_callA (ea_cons (ev_var rfl) (ea_cons (ev_var rfl) ea_nil)) fun H2 e2 Q q E => ⟨a, l, i, rfl, ex_l (e1.trans e2) hl, hn, q⟩) (fun _ _ => ev_var rfl) (fun p H2 hp e2 => rv_ltN (sq_of hp) (ex_l (e1.trans e2) hl) (from_len l i))))
        fun _ => et_test (ev_opL1 (el_callA (ea_cons (ev_var rfl) (ea_cons (ev_var rfl) ea_nil)) fun H2 e2 Q q E => ⟨a, l, i, rfl, ex_l (e1.trans e2) hl, hn, q⟩) (fun _ _ => ev_var rfl) (fun p H2 hp e2 => rv_ltN (sq_of hp) (ex_l (e1.trans e2) hl) (back_len l i)))) (fun hb H2 e2 => ?_) (fun hb H2 e2 => ?_)
      · refine s_ret ev_c fun H3 e3 => ?_
        have r := k H3 ((e1.trans e2).trans e3)
        have hno : Km534.name l ≠ l := by
          rw [Bool.or_eq_true] at hb
          rcases hb with hb | hb
          · exact name_not (mem_rows.mpr (.inl ⟨i, hi2, rfl⟩)) hb
          · exact name_not (mem_rows.mpr (.inr ⟨i, hi2, rfl⟩)) hb
        rw [decide_eq_false hno] at r
        exact r
      · rw [Bool.or_eq_false_iff] at hb
        refine ⟨⟨_, rfl⟩, e1.trans e2, fun s hs' => ?_⟩
        by_cases hsi : s = i
        · subst hsi
          exact hb
        · exact hs s (by omega)
    · obtain ⟨⟨v, rfl⟩, e1, hs⟩ := hp
      rw [nv_len, Int.toNat_natCast] at hs
      refine s_ret ev_c fun H2 e2 => ?_
      have r := k H2 (e1.trans e2)
      rw [decide_eq_true (name_is hs)] at r
      exact r
theorem er_one {σ : L2.St} {H : Hp} {te : TE} {xs : List V} (h : EvL te σ H xs) : EvR (tLst (tCons te tNil)) σ H [xs] := fun H1 e Q q => h H1 e _ fun b H2 _ e2 h2 =>
  ⟨sz_of (by show 1 ≤ 100000; decide), fun p hp => q p [b] _ (fresh_back e2 hp) (e2.trans (Ex.new hp)) upd_same (Rws.one (Ex.new hp _ _ h2))⟩
theorem units65 {k : Nat} {A : Around} (hr : Room k A) : A.units + 65 < cLine := by
  have := hr.un
  omega
/-! ### rings_of: it calls itself with one place less -/
abbrev sRings : Stmt := topS 21
theorem scRings : FnScope ["n", "robots", "rings", "first", "others"] ["n", "robots"] (defScope sRings) := ⟨rfl, rfl, rfl, by decide +kernel, rfl, by decide +kernel, by decide +kernel⟩
theorem rings_none {f : Addr} {fd : FuncData} : FnOk P w K mg base CX0 0 f fd ["n", "robots"] (spRings 0) := by
  refine ⟨fun vs H Q E h => ?_, fun A outer s H args us vs Q E _ _ _ _ h => ?_⟩
  · obtain ⟨n, k, _, h1, h2, _⟩ := h
    omega
  · obtain ⟨n, k, _, h1, h2, _⟩ := h
    omega
theorem ok_rings {m : Nat} {f : Addr} {fd : FuncData} (B : Blt mg) (T1 : DefOk P w K mg base "rings_of" m ["n", "robots"] (spRings m)) (F : Fun K "rings_of" "rings_of" sRings f fd) :
    FnOk P w K mg base CX0 (m + 1) f fd ["n", "robots"] (spRings (m + 1)) := by
  refine F.ok scRings (fun vs H Q E h => ?_) (fun cdv A outer s H vs Q E hr h => ?_)
  · obtain ⟨n, k, rfl, _⟩ := h
    rfl
  · obtain ⟨n, r, rfl, h1, hm, h8, h6, k⟩ := h
    refine ⟨_, pss_cons (ps_if (pt_cmpR op_eq (pv 0) pe_int (nomark _)) (pss_one (ps_ret (pe_lst (pa_cons (pe_lst (pa_cons (pv 1) pa_nil)) pa_nil)))) pss_nil)
      (pss_cons (ps_set (i := 2) scRings.nd rfl (Or.inl rfl) (pe_lst pa_nil))
      (pss_cons (ps_for PassesOwn.never rfl (pi_range1 rfl B.range (pa_cons (pe_op op_add (pv 1) pe_int) pa_nil)) (pg_name (i := 3) scRings.nd rfl (Or.inr rfl))
        (pss_one (ps_expr (pe_bm PySem.F.plainAttrs_list PySem.F.slot_list_extend PySem.F.type_list_extend mt_extend (pv 2) (pa_cons
          (pe_lc (own := [("others", 4)]) (g := gName 4) (tt := tYes) (te := tOp rCat (tLst (tCons (tVar 3) tNil)) (tVar 4)) rfl scRings.nd (pi_list (pe_def T1 hr rfl (pa_cons (pe_op op_sub (pv 0) pe_int) (pa_cons (pe_op op_sub (pv 1) (pv 3)) pa_nil)))) (blkOk_by (N := ["n", "robots", "rings", "first", "others"]) (sc := defScope sRings) (by decide +kernel))
            (fun _ _ _ _ _ => pg_name (i := 4) scRings.nd rfl (Or.inl rfl)) (fun _ _ _ _ _ => pts_nil) (fun _ _ _ _ _ => pe_op op_cat (pe_lst (pa_cons (pv 3) pa_nil)) (pv 4))) pa_nil)))))
      (pss_one (ps_ret (pv 2))))), ?_⟩
    refine q_when (et_test (ev_op (ev_var rfl) ev_c (rv_eq rfl))) (fun hb H1 e1 => ?_) (fun hb H1 e1 => ?_)
    · rw [int_eq_dec] at hb
      have hn : n = 1 := by have := of_decide_eq_true hb; omega
      subst hn
      rw [allRows_one] at k
      exact s_retR (ls := [[r]]) (er_one (el_lst (ea_cons (ev_var rfl) ea_nil) (by show 1 ≤ 100000; decide))) fun p as H2 hp e2 h2 r2 => k p as H2 (fresh_back e1 hp) (e1.trans e2) h2 r2
    · rw [int_eq_dec] at hb
      have hn : ¬ n = 1 := by have := of_decide_eq_false hb; omega
      obtain ⟨n, rfl⟩ : ∃ i, n = i + 1 := ⟨n - 1, by omega⟩
      refine q_asgL (el_lst ea_nil (by show 0 ≤ 100000; decide)) fun t H2 ht e2 h2 => ?_
      have ht0 : H t = none := fresh_back e1 ht
      refine q_forR1 (n := (r : Int) + 1) (ea_cons (ev_op (ev_var rfl) ev_c rv_I0) ea_nil) (by omega) (fun i σ' H' => (∃ v3 v4, σ' = [some (.int ((n + 1 : Nat) : Int)), some (.int (r : Int)), some (.ref t), v3, v4]) ∧ Ex H H' ∧ ∃ as : List Addr, H' t = some (.lst (as.map V.ref)) ∧ Rws H' as ((rowsTo n r i).map nv) ∧ ∀ a ∈ as, a ≠ t)
        (fun H3 e3 => ⟨⟨none, none, rfl⟩, (e1.trans e2).trans e3, [], e3 _ _ h2, Rws.nil, fun a h => by cases h⟩) (fun i σ' H' hi hp => ?_) (fun σ' H' hp => ?_)
      · obtain ⟨⟨v3, v4, rfl⟩, e3, as, h3, r3, n3⟩ := hp
        refine ⟨_, rfl, Or.inl ⟨rfl, _, sq_of h3⟩, ?_⟩
        have hi2 : i ≤ r := by omega
        refine er_lcN (K := K) (fun l => i :: l) (er_callA (ls := Km534.allRows n (r - i)) (ea_cons (ev_op (ev_var rfl) ev_c rv_I0) (ea_cons (ev_op (ev_var rfl) (ev_var rfl) rv_I0) ea_nil)) fun H4 e4 Q q E => ⟨n, r - i, ?hv, by omega, by omega, by omega, by omega, q⟩) (Nat.le_trans (allRows_few (by omega) (by omega)) (by decide)) (fun _ => rfl)
          (fun a l H4 e4 h4 hl => el_cat (el_lst (ea_cons (ev_var rfl) ea_nil) (by show 1 ≤ 100000; decide)) (ev_var rfl) h4 ?hs) H' (Ex.refl H') _ fun p bs H4 hp e4 h4 r4 => ?hk
        case hv =>
          have q1 : ((n + 1 : Nat) : Int) - 1 = (n : Int) := by omega
          have q2 : (r : Int) - (i : Int) = ((r - i : Nat) : Int) := by omega
          show [V.int (((n + 1 : Nat) : Int) - 1), V.int ((r : Int) - (i : Int))] = _
          rw [q1, q2]
        case hs =>
          have := allRows_len n (r - i) l hl
          show 1 + (nv l).length ≤ 100000
          rw [nv_len]
          omega
        case hk =>
          have hle := rowsTo_len (n := n) (k := r) (i := i + 1) (by omega) h6 (by omega)
          rw [rowsTo_succ, List.length_append] at hle
          have l1 := r3.1
          have l2 := r4.1
          rw [List.length_map] at l1 l2
          refine ⟨t, p, _, _, rfl, rfl, e4 _ _ h3, h4, sz_of (by rw [List.length_map, List.length_map]; omega), ?_⟩
          have htb : ∀ b ∈ bs, b ≠ t := fun b hb z => by
            obtain ⟨j, hj, hjb⟩ := List.mem_iff_getElem.mp hb
            obtain ⟨l, hl, hbl⟩ := mem_row r4 (i := j) (a := b) (by rw [List.getElem?_eq_getElem hj, hjb])
            rw [z, e4 _ _ h3] at hbl
            obtain ⟨l', _, rfl⟩ := List.mem_map.mp (List.mem_of_getElem? hl)
            have := HO.lst.inj (Option.some.inj hbl)
            match as, this with
            | [], z => cases z
            | _ :: _, z => cases z
          refine ⟨⟨_, _, rfl⟩, Ex.mut (e3.trans e4) ht0, as ++ bs, ?_, ?_, ?_⟩
          · rw [upd_same, List.map_append]
          · rw [rowsTo_succ, List.map_append]
            refine Rws.upd_out ((r3.ext e4).append r4) fun b hb => ?_
            rcases List.mem_append.mp hb with z | z
            · exact n3 b z
            · exact htb b z
          · intro b hb
            rcases List.mem_append.mp hb with z | z
            · exact n3 b z
            · exact htb b z
      · obtain ⟨⟨v3, v4, rfl⟩, e3, as, h3, r3, n3⟩ := hp
        rw [show ((r : Int) + 1).toNat = r + 1 by omega, rowsTo_all] at r3
        exact s_ret (ev_var rfl) fun H4 e4 => k t as H4 ht0 (e3.trans e4) (e4 _ _ h3) (r3.ext e4)
/-! ### names_of, rank_of -/
abbrev sNames : Stmt := topS 22
theorem scNames : FnScope ["n", "robots", "counts"] ["n", "robots"] (defScope sNames) := ⟨rfl, rfl, rfl, by decide +kernel, rfl, by decide +kernel, by decide +kernel⟩
theorem ok_names {f : Addr} {fd : FuncData} (T1 : DefOk P w K mg base "rings_of" 8 ["n", "robots"] (spRings 8)) (T2 : DefOk P w K mg base "is_name" 2 ["counts"] (spIsName K)) (F : Fun K "names_of" "names_of" sNames f fd) :
    FnOk P w K mg base CX0 9 f fd ["n", "robots"] spNames := by
  refine F.ok scNames (fun vs H Q E h => ?_) (fun cdv A outer s H vs Q E hr h => ?_)
  · obtain ⟨n, k, rfl, _⟩ := h
    rfl
  · obtain ⟨n, r, rfl, h1, h8, h6, k⟩ := h
    refine ⟨_, pss_one (ps_ret (pe_lc (own := [("counts", 2)]) (g := gName 2) (tt := tB (tCall (spIsName K) [] E0 (tCons (tVar 2) tNil))) (te := tVar 2) rfl scNames.nd (pi_list (pe_def T1 hr rfl (pa_cons (pv 0) (pa_cons (pv 1) pa_nil)))) (blkOk_by (N := ["n", "robots", "counts"]) (sc := defScope sNames) (by decide +kernel))
      (fun _ _ _ _ _ => pg_name (i := 2) scNames.nd rfl (Or.inl rfl)) (fun _ _ _ _ _ => pts_one (pt_val (pe_def T2 (hr.mono (by decide)) rfl (pa_cons (pv 2) pa_nil)))) (fun _ _ _ _ _ => pv 2))), ?_⟩
    have e : Km534.names n r = (Km534.allRows n r).filter fun l => decide (Km534.name l = l) := by
      unfold Km534.names
      simp only [beq_dec]
    rw [e] at k
    refine s_retR (er_lcF (K := K) (fun l => decide (Km534.name l = l)) (er_callA (ls := Km534.allRows n r) (ea_cons (ev_var rfl) (ea_cons (ev_var rfl) ea_nil)) fun H1 e1 Q q E => ⟨n, r, rfl, h1, h8, h8, h6, q⟩) (Nat.le_trans (allRows_few h8 h6) (by decide)) (fun _ => rfl) (fun _ => rfl)
      fun a l H1 e1 ha hl => et_B (ev_callA (ea_cons (ev_var rfl) ea_nil) fun H2 e2 Q q E => ⟨a, l, rfl, sq_of (e2 _ _ ha), ?_, q⟩)) k
    have := allRows_len n r l hl
    omega
theorem shaped_rows (ls : List (List Nat)) : SeqAt.shaped (.list (ls.map fun m => PyData.list (pd m))) = true := by
  have hd := depth_rows ls
  have hc : ∀ ls : List (List Nat), PyData.canLayAll0 (ls.map fun m => PyData.list (pd m)) = true := by
    intro ls
    induction ls with
    | nil => simp [PyData.canLayAll0]
    | cons m ls ih =>
      rw [List.map_cons, PyData.canLayAll0, ih, PyData.canLay0, canLay_pd]
      rfl
  unfold SeqAt.shaped
  rw [PyData.canLay0, hc, PyData.depth]
  rw [Bool.true_and]
  exact decide_eq_true (by omega)
abbrev sRank : Stmt := topS 23
theorem scRank : FnScope ["counts"] ["counts"] (defScope sRank) := ⟨rfl, rfl, rfl, by decide +kernel, rfl, by decide +kernel, by decide +kernel⟩
theorem ok_rank {f : Addr} {fd : FuncData} (B : Blt mg) (T1 : DefOk P w K mg base "names_of" 9 ["n", "robots"] spNames) (T2 : DefOk P w K mg base "name_of" 3 ["counts"] (spName K)) (F : Fun K "rank_of" "rank_of" sRank f fd) :
    FnOk P w K mg base CX0 10 f fd ["counts"] (spRank K) := by
  refine F.ok scRank (fun vs H Q E h => ?_) (fun cdv A outer s H vs Q E hr h => ?_)
  · obtain ⟨a, l, rfl, _⟩ := h
    rfl
  · obtain ⟨a, l, rfl, hl, hne, h8, h6, k⟩ := h
    refine ⟨_, pss_one (ps_ret (pe_bm PySem.F.plainAttrs_list PySem.F.slot_list_index PySem.F.type_list_index (mt_indexD (units65 hr)) (pe_def T1 hr rfl (pa_cons (pe_callB call_len_seq (by rfl) B.len PySem.boot_len (pa_cons (pv 0) pa_nil)) (pa_cons (pe_callB (cr_sum rfl) (by rfl) B.sum (by decide +kernel) (pa_cons (pv 0) pa_nil)) pa_nil)))
      (pa_cons (pe_def T2 (hr.mono (by decide)) rfl (pa_cons (pv 0) pa_nil)) pa_nil))), ?_⟩
    have h0 : 0 < l.length := List.length_pos_iff.mpr hne
    refine er_callA (ls := Km534.names l.length (Km534.sum l)) (ea_cons (ev_len (ev_var rfl) hl) (ea_cons (ev_sum (ev_var rfl) hl) ea_nil)) (fun H1 e1 Q q E => ⟨l.length, Km534.sum l, by rw [nv_len, n2i_sum], by omega, h8, h6, q⟩) H (Ex.refl H) _ fun p as H1 hp e1 h1 r1 => ?_
    refine ⟨Or.inl ⟨rfl, _, sq_of h1⟩, ?_⟩
    refine ew_callA (xs := nv (Km534.name l)) (ea_cons (ev_var rfl) ea_nil) (fun H2 e2 Q q E => ⟨a, l, rfl, ex_l (e1.trans e2) hl, hne, by omega, q⟩) H1 (Ex.refl H1) _ fun b H2 e2 h2 => ?_
    obtain ⟨i, g1, g2, g3⟩ := rank_some hne
    refine ⟨p, .ref b, .list (pd (Km534.name l)), (Km534.names l.length (Km534.sum l)).map fun m => PyData.list (pd m), i, .list (pd (Km534.name l)), rfl, rfl, .lst (sq_of (e2 _ _ h1)) (dp_rows as _ (r1.ext e2)), .lst (sq_of h2) (dp_nv _), shaped_rows _, shaped_pd _, by rw [List.getElem?_map, g2]; rfl, ?_, ?_, ?_⟩
    · rw [PyData.eqv, eqv_pd, decide_eq_true rfl]
    · intro m z hm hz
      rw [List.getElem?_map] at hz
      cases hq : (Km534.names l.length (Km534.sum l))[m]? with
      | none =>
        rw [hq] at hz
        cases hz
      | some x =>
        rw [hq] at hz
        cases hz
        rw [PyData.eqv, eqv_pd, decide_eq_false (g3 m hm x hq)]
    · have r := k H2 (e1.trans e2)
      unfold rankOf at r
      rw [g1] at r
      exact r
end
end Rv

set_option Elab.async false
set_option maxRecDepth 100000
set_option maxHeartbeats 2000000
namespace Rv
open PySem PySem.Spec PyProof.Rows L2 Evl
open Km534 (Desk)
structure Kinds2 (mg : Str → Option Value) : Prop where
  views : Num mg "VIEWS" 11
  lonely : Num mg "LONELY" 12
  name : Num mg "NAME" 13
  turns : Num mg "TURNS" 14
  mirrors : Num mg "MIRRORS" 15
  axis : Num mg "AXIS" 16
  kinds : Num mg "KINDS" 17
  nth : Num mg "NTH" 18
  rank : Num mg "RANK" 19
  ifeyes : Num mg "IFEYES" 20
  noName : Num mg "NO_SUCH_NAME" (-33)
/-! ### the mirror of the calls that only look -/
def mKinds (d : Desk) (k : Nat) : List Int := if 6 < k then [-22] else [((Km534.names d.ring.length k).length : Int)]
def mNth (d : Desk) (k i : Nat) : List Int := if 6 < k then [-22] else match (Km534.names d.ring.length k)[i]? with
    | none => [-33]
    | some r => told r
def mIfeyes (d : Desk) (e : Nat) : List Int := if 2 < e then [-22] else ((Km534.viewsOf { d with eyes := e }).length : Int) :: Km534.n2i (Km534.lonely { d with eyes := e })
def mTold (d : Desk) : List Int := [(d.ring.length : Int), (d.eyes : Int), (Km534.sum d.ring : Int), ((Km534.taken d).length : Int)]
def mRing (d : Desk) (j : Nat) : List Int :=
  if j = 5 then told d.ring else
  if j = 11 then [((Km534.viewsOf d).length : Int)] else
  if j = 12 then told (Km534.lonely d) else
  if j = 13 then told (Km534.name d.ring) else
  if j = 14 then [(Km534.turns d.ring : Int)] else
  if j = 15 then [(Km534.mirrors d.ring : Int)] else
  if j = 16 then told (Km534.onAxis d.ring) else
  if j = 19 then [(rankOf d.ring : Int), (Km534.sum d.ring : Int)] else mTold d
def spLk0 (C : Addr) (F : Desk → List Int) : Sp := fun vs H Q _ => ∃ (r c : Addr) (d : Desk), vs = [.ref r] ∧ RingAt C H r c d ∧ GoodD d ∧ RetL (iv (F d)) H Q
def spLk1 (C : Addr) (F : Desk → Nat → List Int) : Sp := fun vs H Q _ => ∃ (r c : Addr) (d : Desk) (x : Nat), vs = [.ref r, .int (x : Int)] ∧ RingAt C H r c d ∧ GoodD d ∧ RetL (iv (F d x)) H Q
def spLk2 (C : Addr) (F : Desk → Nat → Nat → List Int) : Sp := fun vs H Q _ => ∃ (r c : Addr) (d : Desk) (x y : Nat), vs = [.ref r, .int (x : Int), .int (y : Int)] ∧ RingAt C H r c d ∧ GoodD d ∧ RetL (iv (F d x y)) H Q
theorem axis_len (l : List Nat) : (Km534.onAxis l).length ≤ l.length := filter_range_len _ _
section
variable {K : PySem.W.Frag} {σ : L2.St} {H : Hp} {ta tb te : TE} {xs zs : List V} {ls : List (List Nat)} {tz : TS} {D : Ends}
theorem ev_lenR (ha : EvR ta σ H (ls.map nv)) : Ev (tCB (rLenS K) (tCons ta tNil)) σ H (.int (ls.length : Int)) := fun H1 e Q q =>
  ha H1 e _ fun p as H2 _ e2 h2 r2 => ⟨p, as.map V.ref, rfl, Or.inl (sq_of h2), by
    have := r2.1
    rw [List.length_map] at this
    rw [List.length_map, this]
    exact q H2 e2⟩
theorem q_asgR {i : Nat} (h : EvR te σ H (ls.map nv)) (k : ∀ p as H1, H p = none → Ex H H1 → H1 p = some (.lst (as.map V.ref)) → Rws H1 as (ls.map nv) → tz D (σ.set i (some (.ref p))) H1) : tSeq (tAsg te (gName i)) tz D σ H := h H (Ex.refl H) _ fun p as H1 hp e h1 r1 => k p as H1 hp e h1 r1
/-- both operands new lists -/
theorem el_catN (ha : EvL ta σ H xs) (hb : EvL tb σ H zs) (hz : xs.length + zs.length ≤ 100000) : EvL (tOp rCat ta tb) σ H (xs ++ zs) := fun H1 e Q q =>
  ha H1 e _ fun p H2 _ e2 hp => hb H2 (e.trans e2) _ fun b H3 _ e3 h3 => ⟨p, b, xs, zs, rfl, rfl, e3 _ _ hp, h3, sz_of hz, fun l hl => q l _ (fresh_back (e2.trans e3) hl) ((e2.trans e3).trans (Ex.new hl)) upd_same⟩
/-- with_count of a list that stands -/
theorem el_countW {l : List Nat} {E : XK} (h : EvW te σ H (nv l)) (hl : l.length ≤ 1000) : EvL (tCall spCount [] E (tCons te tNil)) σ H (iv (told l)) := by
  refine el_callW h fun p H1 hp e1 Q q E => ⟨p, nv l, rfl, hp, by rw [nv_len]; omega, ?_⟩
  rw [iv_told] at q
  rw [nv_len]
  exact q
theorem el_countV {l : List Nat} {E : XK} {a : Addr} (h : Ev te σ H (.ref a)) (ha : H a = some (.lst (nv l))) (hl : l.length ≤ 1000) : EvL (tCall spCount [] E (tCons te tNil)) σ H (iv (told l)) := by
  refine el_callA (ea_cons h ea_nil) fun H1 e1 Q q E => ⟨a, nv l, rfl, e1 _ _ ha, by rw [nv_len]; omega, ?_⟩
  rw [iv_told] at q
  rw [nv_len]
  exact q
end
section
variable {P : Program} {w : World} {K : PySem.W.Frag} {mg : Str → Option Value} {base : Heap} {C : Addr}
abbrev sKinds : Stmt := topS 67
theorem scKinds : FnScope ["ring", "k"] ["ring", "k"] (defScope sKinds) := ⟨rfl, rfl, rfl, by decide +kernel, rfl, by decide +kernel, by decide +kernel⟩
theorem ok_kinds {f : Addr} {fd : FuncData} (T : Txt K mg C) (T1 : DefOk P w K mg base "names_of" 9 ["n", "robots"] spNames) (F : Fun K "answer_kinds" "answer_kinds" sKinds f fd) :
    FnOk P w K mg base CX0 10 f fd ["ring", "k"] (spLk1 C mKinds) := by
  refine F.ok scKinds (fun vs H Q E h => ?_) (fun cdv A outer s H vs Q E hr h => ?_)
  · obtain ⟨r, c, d, x, rfl, _⟩ := h
    rfl
  · obtain ⟨r, c, d, x, rfl, R, hg, k⟩ := h
    refine ⟨_, pss_cons (ps_if (pt_cmpR op_gt (pv 1) (pe_num rfl T.mostR) (nomark _)) (pss_one (ps_ret (pe_lst (pa_cons (pe_num rfl T.outOf) pa_nil)))) pss_nil)
      (pss_one (ps_ret (pe_lst (pa_cons (pe_callB call_len_seq (by rfl) T.blt.len PySem.boot_len (pa_cons (pe_def T1 hr rfl (pa_cons (pe_callB call_len_seq (by rfl) T.blt.len PySem.boot_len (pa_cons (pe_fld (pv 0) rfl) pa_nil)) (pa_cons (pv 1) pa_nil))) pa_nil)) pa_nil)))), ?_⟩
    refine q_when (et_test (ev_op (ev_var rfl) ev_c rv_I0)) (fun hb H1 e1 => ?_) (fun hb H1 e1 => ?_)
    · rw [mKinds, if_pos (by have := of_decide_eq_true hb; omega)] at k
      exact s_retL (el_lst (ea_cons ev_c ea_nil) (by show 1 ≤ 100000; decide)) fun p H2 hp e2 h2 => k.go e1 hp e2 h2
    · have hx : ¬ 6 < x := by have := of_decide_eq_false hb; omega
      rw [mKinds, if_neg hx] at k
      exact s_retL (el_lst (ea_cons (ev_lenR (K := K) (er_callA (ls := Km534.names d.ring.length x) (ea_cons (ev_places T (R.ext e1) rfl) (ea_cons (ev_var rfl) ea_nil)) fun H2 e2 Q q E => ⟨d.ring.length, x, rfl, by have := hg.1; omega, hg.2.1, by omega, q⟩)) ea_nil) (by show 1 ≤ 100000; decide)) fun p H2 hp e2 h2 => k.go e1 hp e2 h2
abbrev sNth : Stmt := topS 68
theorem scNth : FnScope ["ring", "k", "i", "names"] ["ring", "k", "i"] (defScope sNth) := ⟨rfl, rfl, rfl, by decide +kernel, rfl, by decide +kernel, by decide +kernel⟩
theorem ok_nth {f : Addr} {fd : FuncData} (T : Txt K mg C) (N : Kinds2 mg) (T1 : DefOk P w K mg base "names_of" 9 ["n", "robots"] spNames) (T2 : DefOk P w K mg base "with_count" 1 ["numbers"] spCount) (F : Fun K "answer_nth" "answer_nth" sNth f fd) :
    FnOk P w K mg base CX0 10 f fd ["ring", "k", "i"] (spLk2 C mNth) := by
  refine F.ok scNth (fun vs H Q E h => ?_) (fun cdv A outer s H vs Q E hr h => ?_)
  · obtain ⟨r, c, d, x, y, rfl, _⟩ := h
    rfl
  · obtain ⟨r, c, d, x, i, rfl, R, hg, k⟩ := h
    refine ⟨_, pss_cons (ps_if (pt_cmpR op_gt (pv 1) (pe_num rfl T.mostR) (nomark _)) (pss_one (ps_ret (pe_lst (pa_cons (pe_num rfl T.outOf) pa_nil)))) pss_nil)
      (pss_cons (ps_set (i := 3) scNth.nd rfl (Or.inl rfl) (pe_def T1 hr rfl (pa_cons (pe_callB call_len_seq (by rfl) T.blt.len PySem.boot_len (pa_cons (pe_fld (pv 0) rfl) pa_nil)) (pa_cons (pv 1) pa_nil))))
      (pss_cons (ps_if (pt_cmpR op_ge (pv 2) (pe_callB call_len_seq (by rfl) T.blt.len PySem.boot_len (pa_cons (pv 3) pa_nil)) (nomark _)) (pss_one (ps_ret (pe_lst (pa_cons (pe_num rfl N.noName) pa_nil)))) pss_nil)
      (pss_one (ps_ret (pe_def T2 (hr.mono (by decide)) rfl (pa_cons (pe_ix ix_list (pv 3) (pv 2) (fun _ _ => rfl)) pa_nil)))))), ?_⟩
    refine q_when (et_test (ev_op (ev_var rfl) ev_c rv_I0)) (fun hb H1 e1 => ?_) (fun hb H1 e1 => ?_)
    · rw [mNth, if_pos (by have := of_decide_eq_true hb; omega)] at k
      exact s_retL (el_lst (ea_cons ev_c ea_nil) (by show 1 ≤ 100000; decide)) fun p H2 hp e2 h2 => k.go e1 hp e2 h2
    have hx : ¬ 6 < x := by have := of_decide_eq_false hb; omega
    rw [mNth, if_neg hx] at k
    refine q_asgR (ls := Km534.names d.ring.length x) (er_callA (ea_cons (ev_places T (R.ext e1) rfl) (ea_cons (ev_var rfl) ea_nil)) fun H2 e2 Q q E => ⟨d.ring.length, x, rfl, by have := hg.1; omega, hg.2.1, by omega, q⟩) fun t as H2 ht e2 h2 r2 => ?_
    have hlen : as.length = (Km534.names d.ring.length x).length := by
      have := r2.1
      rwa [List.length_map] at this
    refine q_when (et_test (ev_op (ev_var rfl) (ev_len (K := K) (ev_var rfl) (sq_of h2)) rv_I0)) (fun hb H3 e3 => ?_) (fun hb H3 e3 => ?_)
    · have hi := of_decide_eq_true hb
      rw [List.length_map] at hi
      rw [List.getElem?_eq_none (by omega)] at k
      exact s_retL (el_lst (ea_cons ev_c ea_nil) (by show 1 ≤ 100000; decide)) fun p H4 hp e4 h4 => k.go ((e1.trans e2).trans e3) hp e4 h4
    · have hi := of_decide_eq_false hb
      rw [List.length_map] at hi
      have hia : i < as.length := by omega
      obtain ⟨l, hl, ha⟩ := mem_row r2 (List.getElem?_eq_getElem hia)
      rw [hl] at k
      have hll : l.length = d.ring.length := allRows_len _ _ _ (List.mem_filter.mp (List.mem_of_getElem? hl)).1
      have h8 := hg.2.1
      exact s_retL (el_countV (l := l) (ev_op (ev_var rfl) (ev_var rfl) (rv_ixL (K := K) (sq_of (e3 _ _ h2)) (atI_nat (by rw [List.getElem?_map, List.getElem?_eq_getElem hia]; rfl)))) (e3 _ _ ha) (by omega)) fun p H4 hp e4 h4 => k.go ((e1.trans e2).trans e3) hp e4 h4
abbrev sIfeyes : Stmt := topS 69
theorem scIfeyes : FnScope ["ring", "e"] ["ring", "e"] (defScope sIfeyes) := ⟨rfl, rfl, rfl, by decide +kernel, rfl, by decide +kernel, by decide +kernel⟩
theorem ok_ifeyes {f : Addr} {fd : FuncData} (T : Txt K mg C) (T1 : DefOk P w K mg base "number_of_views" 8 ["counts", "eyes"] (spEyesV K fun d => (Km534.viewsOf d).length)) (T2 : DefOk P w K mg base "lonely_places" 8 ["counts", "eyes"] (spEyesL K Km534.lonely)) (F : Fun K "answer_ifeyes" "answer_ifeyes" sIfeyes f fd) :
    FnOk P w K mg base CX0 9 f fd ["ring", "e"] (spLk1 C mIfeyes) := by
  refine F.ok scIfeyes (fun vs H Q E h => ?_) (fun cdv A outer s H vs Q E hr h => ?_)
  · obtain ⟨r, c, d, x, rfl, _⟩ := h
    rfl
  · obtain ⟨r, c, d, x, rfl, R, hg, k⟩ := h
    refine ⟨_, pss_cons (ps_if (pt_cmpR op_gt (pv 1) (pe_num rfl T.lastE) (nomark _)) (pss_one (ps_ret (pe_lst (pa_cons (pe_num rfl T.outOf) pa_nil)))) pss_nil)
      (pss_one (ps_ret (pe_op op_cat (pe_lst (pa_cons (pe_def T1 hr rfl (pa_cons (pe_fld (pv 0) rfl) (pa_cons (pv 1) pa_nil))) pa_nil)) (pe_def T2 hr rfl (pa_cons (pe_fld (pv 0) rfl) (pa_cons (pv 1) pa_nil)))))), ?_⟩
    refine q_when (et_test (ev_op (ev_var rfl) ev_c rv_I0)) (fun hb H1 e1 => ?_) (fun hb H1 e1 => ?_)
    · rw [mIfeyes, if_pos (by have := of_decide_eq_true hb; omega)] at k
      exact s_retL (el_lst (ea_cons ev_c ea_nil) (by show 1 ≤ 100000; decide)) fun p H2 hp e2 h2 => k.go e1 hp e2 h2
    · have hx : ¬ 2 < x := by have := of_decide_eq_false hb; omega
      rw [mIfeyes, if_neg hx] at k
      have R1 := R.ext e1
      have h8 := hg.2.1
      have hl := lonely_len { d with eyes := x }
      refine s_retL (el_catN (el_lst (ea_cons (ev_callA (ea_cons (ev_counts T R1 rfl) (ea_cons (ev_var rfl) ea_nil)) fun H2 e2 Q q E => ⟨c, d.ring, x, rfl, sq_of (e2 _ _ R1.lst), by omega, q⟩) ea_nil) (by show 1 ≤ 100000; decide)) (el_callA (ea_cons (ev_counts T R1 rfl) (ea_cons (ev_var rfl) ea_nil)) fun H2 e2 Q q E => ⟨c, d.ring, x, rfl, sq_of (e2 _ _ R1.lst), by omega, q⟩) ?_) fun p H2 hp e2 h2 => k.go e1 hp e2 ?_
      · show 1 + (nv (Km534.lonely ⟨d.ring, x⟩)).length ≤ 100000
        rw [nv_len]
        have : (Km534.lonely ⟨d.ring, x⟩).length ≤ d.ring.length := hl
        omega
      · rw [h2, nv_iv]
        rfl
abbrev sTold2 : Stmt := topS 70
theorem scTold2 : FnScope ["ring", "with_robots", "robots"] ["ring"] (defScope sTold2) := ⟨rfl, rfl, rfl, by decide +kernel, rfl, by decide +kernel, by decide +kernel⟩
theorem ok_told2 {f : Addr} {fd : FuncData} (T : Txt K mg C) (F : Fun K "answer_told" "answer_told" sTold2 f fd) :
    FnOk P w K mg base CX0 1 f fd ["ring"] (spLk0 C mTold) := by
  refine F.ok scTold2 (fun vs H Q E h => ?_) (fun cdv A outer s H vs Q E hr h => ?_)
  · obtain ⟨r, c, d, rfl, _⟩ := h
    rfl
  · obtain ⟨r, c, d, rfl, R, hg, k⟩ := h
    refine ⟨_, pss_cons (ps_setLc (i := 1) (own := [("robots", 2)]) (g := gName 2) (tt := tTest (tOp rGt (tVar 2) (tC (.int 0)))) (te := tVar 2) rfl scTold2.nd rfl rfl (sw_true rfl rfl rfl (by decide +kernel)) (pi_list (pe_fld (pv 0) rfl)) (blkOk_by (N := ["ring", "with_robots", "robots"]) (sc := defScope sTold2) (by decide +kernel))
        (fun _ _ _ _ _ => pg_name (i := 2) scTold2.nd rfl (Or.inl rfl)) (fun _ _ _ _ _ => pts_one (pt_cmpR op_gt (pv 2) pe_int (nomark _))) (fun _ _ _ _ _ => pv 2))
      (pss_one (ps_ret (pe_lst (pa_cons (pe_callB call_len_seq (by rfl) T.blt.len PySem.boot_len (pa_cons (pe_fld (pv 0) rfl) pa_nil)) (pa_cons (pe_fld (pv 0) rfl) (pa_cons (pe_callB (cr_sum rfl) (by rfl) T.blt.sum (by decide +kernel) (pa_cons (pe_fld (pv 0) rfl) pa_nil)) (pa_cons (pe_callB call_len_seq (by rfl) T.blt.len PySem.boot_len (pa_cons (pv 1) pa_nil)) pa_nil))))))), ?_⟩
    have h8 := hg.2.1
    refine q_asgL (el_lcL (K := K) (fun i => decide (0 < d.ring.getD i 0)) (fun i => V.int (d.ring.getD i 0 : Nat)) (ev_counts T R rfl) (sq_of R.lst) (by rw [nv_len]; omega) (fun _ => rfl) (fun i x H1 e1 hi => ?_) (fun i x H1 e1 hi _ => ?_)) fun p H1 hp e1 h1 => ?_
    · have hil : i < d.ring.length := by
        have := (List.getElem?_eq_some_iff.mp hi).1
        rwa [nv_len] at this
      rw [nv_at hil] at hi
      cases hi
      refine et_is (et_test (ev_op (ev_var rfl) ev_c rv_I0)) ?_
      by_cases h : 0 < d.ring.getD i 0
      · rw [decide_eq_true h, decide_eq_true (by omega)]
      · rw [decide_eq_false h, decide_eq_false (by omega)]
    · have hil : i < d.ring.length := by
        have := (List.getElem?_eq_some_iff.mp hi).1
        rwa [nv_len] at this
      rw [nv_at hil] at hi
      cases hi
      exact ev_var rfl
    · have R1 := R.ext e1
      refine s_retL (el_lst (ea_cons (ev_places T R1 rfl) (ea_cons (ev_eyes T R1 rfl) (ea_cons (ev_sum (ev_counts T R1 rfl) (sq_of R1.lst)) (ea_cons (ev_len (K := K) (ev_var rfl) (sq_of h1)) ea_nil)))) (by show 4 ≤ 100000; decide)) fun b H2 hb e2 h2 => k.go e1 hb e2 ?_
      rw [h2, n2i_sum]
      have : (given (nv d.ring).length (fun i => decide (0 < d.ring.getD i 0)) (fun i => V.int (d.ring.getD i 0 : Nat))).length = (Km534.taken d).length := by
        rw [given, List.length_map, nv_len]
        rfl
      rw [this]
      rfl
end
end Rv

set_option Elab.async false
set_option maxRecDepth 100000
set_option maxHeartbeats 2000000
namespace Rv
open PySem PySem.Spec PyProof.Rows L2 Evl
open Km534 (Desk)
theorem Good.le8 {d : Desk} (g : Good d) : d.ring.length ≤ 8 := by
  rcases g with e | g
  · rw [e]
    exact Nat.zero_le _
  · exact g.2.1
theorem Good.begun {d : Desk} (g : Good d) (h : d.ring ≠ []) : GoodD d := g.resolve_left h
section
variable {σ : L2.St} {H : Hp} {ta : TA} {vs : List V} {sp : Sp} {E : XK} {D : Ends} {tx ty tz : TE} {r r' : R2} {x y z : V} {b c : Bool}
/-- return f(..): what f leaves is what the def leaves -/
theorem s_retC (h : EvA ta σ H vs) (hs : ∀ H1, Ex H H1 → sp vs H1 D.rt E) : tRet (tCall sp [] E ta) D σ H := h H (Ex.refl H) _ fun H1 e1 => by
  show sp (vs ++ []) H1 D.rt E
  rw [List.append_nil]
  exact hs H1 e1
/-- x <= y <= z -/
theorem ev_chain (hx : Ev tx σ H x) (hy : Ev ty σ H y) (hz : Ev tz σ H z) (h1 : RV r x y H (.bl b)) (h2 : RV r' y z H (.bl c)) : Ev (tChain r r' tx ty tz) σ H (.bl (b && c)) := fun H1 e Q q =>
  hx H1 e _ fun H2 e2 => hy H2 (e.trans e2) _ fun H3 e3 => h1 H3 ((e.trans e2).trans e3) _ fun H4 e4 => ⟨b, rfl, by
    have e14 := (e2.trans e3).trans e4
    cases b with
    | true =>
      rw [if_pos rfl]
      exact hz H4 (e.trans e14) _ fun H5 e5 => h2 H5 ((e.trans e14).trans e5) Q fun H6 e6 => q H6 ((e14.trans e5).trans e6)
    | false =>
      rw [if_neg Bool.false_ne_true]
      exact q H4 e14⟩
end
/-- what holds of the answer from H holds of it from a heap that knows more -/
theorem RetA.mono {C r c : Addr} {o : Desk × List Int} {H H1 : Hp} {Q : VK} (k : RetA C r c o H Q) (e : Ex H H1) : RetA C r c o H1 Q := fun p c' H' hp hpc hc R fr h =>
  k p c' H' (fresh_back e hp) hpc (hc.imp id fun z => fresh_back e z) R (fun b u hb h1 h2 => fr b u (e b u hb) h1 h2) h
/-- a call that only looks, by a new list -/
theorem RetA.look {C r c : Addr} {d : Desk} {xs : List Int} {H : Hp} {Q : VK} (k : RetA C r c (d, xs) H Q) (R : RingAt C H r c d) : RetL (iv xs) H Q := fun p H2 hp e2 h2 => k.keep R (Ex.refl H) hp e2 h2
theorem RetL.mono {xs : List V} {H H1 : Hp} {Q : VK} (k : RetL xs H Q) (e : Ex H H1) : RetL xs H1 Q := fun p H2 hp e2 h2 => k p H2 (fresh_back e hp) (e.trans e2) h2
section
variable {P : Program} {w : World} {K : PySem.W.Frag} {mg : Str → Option Value} {base : Heap} {C : Addr}
abbrev sOfRing : Stmt := topS 71
theorem scOfRing : FnScope ["ring", "number"] ["ring", "number"] (defScope sOfRing) := ⟨rfl, rfl, rfl, by decide +kernel, rfl, by decide +kernel, by decide +kernel⟩
theorem ok_of_ring {f : Addr} {fd : FuncData} (T : Txt K mg C) (N : Kinds mg) (N2 : Kinds2 mg) (D0 : DefOk P w K mg base "with_count" 1 ["numbers"] spCount) (D1 : DefOk P w K mg base "number_of_views" 8 ["counts", "eyes"] (spEyesV K fun d => (Km534.viewsOf d).length))
    (D2 : DefOk P w K mg base "lonely_places" 8 ["counts", "eyes"] (spEyesL K Km534.lonely)) (D3 : DefOk P w K mg base "name_of" 3 ["counts"] (spName K)) (D4 : DefOk P w K mg base "turnings_kept" 2 ["counts"] (spList K (keptBy Km534.from_)))
    (D5 : DefOk P w K mg base "mirrorings_kept" 2 ["counts"] (spList K (keptBy Km534.back))) (D6 : DefOk P w K mg base "axis_places" 3 ["counts"] (spList K Km534.onAxis)) (D7 : DefOk P w K mg base "rank_of" 10 ["counts"] (spRank K))
    (D8 : DefOk P w K mg base "answer_told" 1 ["ring"] (spLk0 C mTold)) (F : Fun K "answer_of_ring" "answer_of_ring" sOfRing f fd) : FnOk P w K mg base CX0 11 f fd ["ring", "number"] (spLk1 C mRing) := by
  refine F.ok scOfRing (fun vs H Q E h => ?_) (fun cdv A outer s H vs Q E hr h => ?_)
  · obtain ⟨r, c, d, j, rfl, _⟩ := h
    rfl
  · obtain ⟨r, c, d, j, rfl, R, hg, k⟩ := h
    refine ⟨_, pss_cons (ps_if (pt_cmpR op_eq (pv 1) (pe_num rfl N.ring) (nomark _)) (pss_one (ps_ret (pe_def D0 (hr.mono (by decide)) rfl (pa_cons (pe_fld (pv 0) rfl) pa_nil)))) pss_nil)
      (pss_cons (ps_if (pt_cmpR op_eq (pv 1) (pe_num rfl N2.views) (nomark _)) (pss_one (ps_ret (pe_lst (pa_cons (pe_def D1 (hr.mono (by decide)) rfl (pa_cons (pe_fld (pv 0) rfl) (pa_cons (pe_fld (pv 0) rfl) pa_nil))) pa_nil)))) pss_nil)
      (pss_cons (ps_if (pt_cmpR op_eq (pv 1) (pe_num rfl N2.lonely) (nomark _)) (pss_one (ps_ret (pe_def D0 (hr.mono (by decide)) rfl (pa_cons (pe_def D2 (hr.mono (by decide)) rfl (pa_cons (pe_fld (pv 0) rfl) (pa_cons (pe_fld (pv 0) rfl) pa_nil))) pa_nil)))) pss_nil)
      (pss_cons (ps_if (pt_cmpR op_eq (pv 1) (pe_num rfl N2.name) (nomark _)) (pss_one (ps_ret (pe_def D0 (hr.mono (by decide)) rfl (pa_cons (pe_def D3 (hr.mono (by decide)) rfl (pa_cons (pe_fld (pv 0) rfl) pa_nil)) pa_nil)))) pss_nil)
      (pss_cons (ps_if (pt_cmpR op_eq (pv 1) (pe_num rfl N2.turns) (nomark _)) (pss_one (ps_ret (pe_lst (pa_cons (pe_callB call_len_seq (by rfl) T.blt.len PySem.boot_len (pa_cons (pe_def D4 (hr.mono (by decide)) rfl (pa_cons (pe_fld (pv 0) rfl) pa_nil)) pa_nil)) pa_nil)))) pss_nil)
      (pss_cons (ps_if (pt_cmpR op_eq (pv 1) (pe_num rfl N2.mirrors) (nomark _)) (pss_one (ps_ret (pe_lst (pa_cons (pe_callB call_len_seq (by rfl) T.blt.len PySem.boot_len (pa_cons (pe_def D5 (hr.mono (by decide)) rfl (pa_cons (pe_fld (pv 0) rfl) pa_nil)) pa_nil)) pa_nil)))) pss_nil)
      (pss_cons (ps_if (pt_cmpR op_eq (pv 1) (pe_num rfl N2.axis) (nomark _)) (pss_one (ps_ret (pe_def D0 (hr.mono (by decide)) rfl (pa_cons (pe_def D6 (hr.mono (by decide)) rfl (pa_cons (pe_fld (pv 0) rfl) pa_nil)) pa_nil)))) pss_nil)
      (pss_cons (ps_if (pt_cmpR op_eq (pv 1) (pe_num rfl N2.rank) (nomark _)) (pss_one (ps_ret (pe_lst (pa_cons (pe_def D7 hr rfl (pa_cons (pe_fld (pv 0) rfl) pa_nil)) (pa_cons (pe_callB (cr_sum rfl) (by rfl) T.blt.sum (by decide +kernel) (pa_cons (pe_fld (pv 0) rfl) pa_nil)) pa_nil))))) pss_nil)
      (pss_one (ps_ret (pe_def D8 (hr.mono (by decide)) rfl (pa_cons (pv 0) pa_nil))))))))))), ?_⟩
    have h8 := hg.2.1
    have hne : d.ring ≠ [] := ne_nil hg.1
    unfold mRing at k
    -- RING
    refine q_when (et_is_num (n := 5) rfl) (fun hb H1 e1 => ?_) (fun hb H1 e1 => ?_)
    · rw [if_pos (of_decide_eq_true hb)] at k
      have R1 := R.ext e1
      exact s_retL (el_countV (l := d.ring) (ev_counts T R1 rfl) R1.lst (by omega)) fun p H2 hp e2 h2 => k.go e1 hp e2 h2
    rw [if_neg (of_decide_eq_false hb)] at k
    have k := RetL.mono k e1
    have R := R.ext e1
    -- VIEWS
    refine q_when (et_is_num (n := 11) rfl) (fun hb H1 e1 => ?_) (fun hb H1 e1 => ?_)
    · rw [if_pos (of_decide_eq_true hb)] at k
      have R1 := R.ext e1
      exact s_retL (el_lst (ea_cons (ev_callA (ea_cons (ev_counts T R1 rfl) (ea_cons (ev_eyes T R1 rfl) ea_nil)) fun H2 e2 Q q E => ⟨c, d.ring, d.eyes, rfl, sq_of (e2 _ _ R1.lst), by omega, q⟩) ea_nil) (by show 1 ≤ 100000; decide)) fun p H2 hp e2 h2 => k.go e1 hp e2 h2
    rw [if_neg (of_decide_eq_false hb)] at k
    have k := RetL.mono k e1
    have R := R.ext e1
    -- LONELY
    refine q_when (et_is_num (n := 12) rfl) (fun hb H1 e1 => ?_) (fun hb H1 e1 => ?_)
    · rw [if_pos (of_decide_eq_true hb)] at k
      have R1 := R.ext e1
      have hl := lonely_len d
      exact s_retL (el_count (l := Km534.lonely d) (el_callA (ea_cons (ev_counts T R1 rfl) (ea_cons (ev_eyes T R1 rfl) ea_nil)) fun H2 e2 Q q E => ⟨c, d.ring, d.eyes, rfl, sq_of (e2 _ _ R1.lst), by omega, q⟩) (by omega)) fun p H2 hp e2 h2 => k.go e1 hp e2 h2
    rw [if_neg (of_decide_eq_false hb)] at k
    have k := RetL.mono k e1
    have R := R.ext e1
    -- NAME
    refine q_when (et_is_num (n := 13) rfl) (fun hb H1 e1 => ?_) (fun hb H1 e1 => ?_)
    · rw [if_pos (of_decide_eq_true hb)] at k
      have R1 := R.ext e1
      have hl := name_len d.ring
      exact s_retL (el_countW (l := Km534.name d.ring) (ew_callA (ea_cons (ev_counts T R1 rfl) ea_nil) fun H2 e2 Q q E => ⟨c, d.ring, rfl, sq_of (e2 _ _ R1.lst), hne, by omega, q⟩) (by omega)) fun p H2 hp e2 h2 => k.go e1 hp e2 h2
    rw [if_neg (of_decide_eq_false hb)] at k
    have k := RetL.mono k e1
    have R := R.ext e1
    -- TURNS
    refine q_when (et_is_num (n := 14) rfl) (fun hb H1 e1 => ?_) (fun hb H1 e1 => ?_)
    · rw [if_pos (of_decide_eq_true hb), turns_kept, ← nv_len] at k
      have R1 := R.ext e1
      exact s_retL (el_lst (ea_cons (ev_lenN (K := K) (el_callA (ea_cons (ev_counts T R1 rfl) ea_nil) fun H2 e2 Q q E => ⟨c, d.ring, rfl, sq_of (e2 _ _ R1.lst), by omega, q⟩)) ea_nil) (by show 1 ≤ 100000; decide)) fun p H2 hp e2 h2 => k.go e1 hp e2 h2
    rw [if_neg (of_decide_eq_false hb)] at k
    have k := RetL.mono k e1
    have R := R.ext e1
    -- MIRRORS
    refine q_when (et_is_num (n := 15) rfl) (fun hb H1 e1 => ?_) (fun hb H1 e1 => ?_)
    · rw [if_pos (of_decide_eq_true hb), mirrors_kept, ← nv_len] at k
      have R1 := R.ext e1
      exact s_retL (el_lst (ea_cons (ev_lenN (K := K) (el_callA (ea_cons (ev_counts T R1 rfl) ea_nil) fun H2 e2 Q q E => ⟨c, d.ring, rfl, sq_of (e2 _ _ R1.lst), by omega, q⟩)) ea_nil) (by show 1 ≤ 100000; decide)) fun p H2 hp e2 h2 => k.go e1 hp e2 h2
    rw [if_neg (of_decide_eq_false hb)] at k
    have k := RetL.mono k e1
    have R := R.ext e1
    -- AXIS
    refine q_when (et_is_num (n := 16) rfl) (fun hb H1 e1 => ?_) (fun hb H1 e1 => ?_)
    · rw [if_pos (of_decide_eq_true hb)] at k
      have R1 := R.ext e1
      have hl := axis_len d.ring
      exact s_retL (el_count (l := Km534.onAxis d.ring) (el_callA (ea_cons (ev_counts T R1 rfl) ea_nil) fun H2 e2 Q q E => ⟨c, d.ring, rfl, sq_of (e2 _ _ R1.lst), by omega, q⟩) (by omega)) fun p H2 hp e2 h2 => k.go e1 hp e2 h2
    rw [if_neg (of_decide_eq_false hb)] at k
    have k := RetL.mono k e1
    have R := R.ext e1
    -- RANK
    refine q_when (et_is_num (n := 19) rfl) (fun hb H1 e1 => ?_) (fun hb H1 e1 => ?_)
    · rw [if_pos (of_decide_eq_true hb), ← n2i_sum] at k
      have R1 := R.ext e1
      exact s_retL (el_lst (ea_cons (ev_callA (ea_cons (ev_counts T R1 rfl) ea_nil) fun H2 e2 Q q E => ⟨c, d.ring, rfl, sq_of (e2 _ _ R1.lst), hne, h8, hg.2.2.2, q⟩) (ea_cons (ev_sum (ev_counts T R1 rfl) (sq_of R1.lst)) ea_nil)) (by show 2 ≤ 100000; decide)) fun p H2 hp e2 h2 => k.go e1 hp e2 h2
    rw [if_neg (of_decide_eq_false hb)] at k
    exact s_retC (ea_cons (ev_var rfl) ea_nil) fun H2 e2 => ⟨r, c, d, rfl, R.ext (e1.trans e2), hg, RetL.mono k (e1.trans e2)⟩
abbrev sCall : Stmt := topS 72
theorem scCall : FnScope ["ring", "number", "given"] ["ring", "number", "given"] (defScope sCall) := ⟨rfl, rfl, rfl, by decide +kernel, rfl, by decide +kernel, by decide +kernel⟩
theorem ok_call {f : Addr} {fd : FuncData} (T : Txt K mg C) (N : Kinds mg) (N2 : Kinds2 mg) (D0 : DefOk P w K mg base "answer_begin" 1 ["ring", "n", "e"] (spAct2 C aBegin)) (D1 : DefOk P w K mg base "answer_put" 1 ["ring", "p", "x"] (spAct2 C aPut)) (D2 : DefOk P w K mg base "answer_eyes" 1 ["ring", "e"] (spAct1 C aEyes))
    (D3 : DefOk P w K mg base "answer_turn" 2 ["ring", "s"] (spAct1 C aTurn)) (D4 : DefOk P w K mg base "answer_mirror" 2 ["ring", "s"] (spAct1 C aMirror)) (D6 : DefOk P w K mg base "answer_of_robots" 8 ["ring", "number", "places"] (spRobots K C))
    (D7 : DefOk P w K mg base "answer_kinds" 10 ["ring", "k"] (spLk1 C mKinds)) (D8 : DefOk P w K mg base "answer_nth" 10 ["ring", "k", "i"] (spLk2 C mNth)) (D9 : DefOk P w K mg base "answer_ifeyes" 9 ["ring", "e"] (spLk1 C mIfeyes)) (D10 : DefOk P w K mg base "answer_of_ring" 11 ["ring", "number"] (spLk1 C mRing))
    (F : Fun K "answer_call" "answer_call" sCall f fd) : FnOk P w K mg base CX0 12 f fd ["ring", "number", "given"] (spCall K C) := by
  refine F.ok scCall (fun vs H Q E h => ?_) (fun cdv A outer s H vs Q E hr h => ?_)
  · obtain ⟨r, c, g, d, j, args, x, rfl, _⟩ := h
    rfl
  · obtain ⟨r, c, g, d, j, args, x, rfl, R, hg, ha, hal, hj, hx, k⟩ := h
    refine ⟨_, pss_cons (ps_if (pt_cmpR op_eq (pv 1) (pe_num rfl N.begin_) (nomark _)) (pss_one (ps_ret (pe_def D0 (hr.mono (by decide)) rfl (pa_cons (pv 0) (pa_cons (pe_ix ix_list (pv 2) pe_int (fun _ _ => rfl)) (pa_cons (pe_ix ix_list (pv 2) pe_int (fun _ _ => rfl)) pa_nil)))))) pss_nil)
      (pss_cons (ps_if (pt_cmpR op_eq (pe_callB call_len_seq (by rfl) T.blt.len PySem.boot_len (pa_cons (pe_fld (pv 0) rfl) pa_nil)) pe_int (nomark _)) (pss_one (ps_ret (pe_lst (pa_cons (pe_num rfl T.notBegun) pa_nil)))) pss_nil)
      (pss_cons (ps_if (pt_cmpR op_eq (pv 1) (pe_num rfl N.put) (nomark _)) (pss_one (ps_ret (pe_def D1 (hr.mono (by decide)) rfl (pa_cons (pv 0) (pa_cons (pe_ix ix_list (pv 2) pe_int (fun _ _ => rfl)) (pa_cons (pe_ix ix_list (pv 2) pe_int (fun _ _ => rfl)) pa_nil)))))) pss_nil)
      (pss_cons (ps_if (pt_cmpR op_eq (pv 1) (pe_num rfl N.eyes) (nomark _)) (pss_one (ps_ret (pe_def D2 (hr.mono (by decide)) rfl (pa_cons (pv 0) (pa_cons (pe_ix ix_list (pv 2) pe_int (fun _ _ => rfl)) pa_nil))))) pss_nil)
      (pss_cons (ps_if (pt_cmpR op_eq (pv 1) (pe_num rfl N.turn) (nomark _)) (pss_one (ps_ret (pe_def D3 (hr.mono (by decide)) rfl (pa_cons (pv 0) (pa_cons (pe_ix ix_list (pv 2) pe_int (fun _ _ => rfl)) pa_nil))))) pss_nil)
      (pss_cons (ps_if (pt_cmpR op_eq (pv 1) (pe_num rfl N.mirror) (nomark _)) (pss_one (ps_ret (pe_def D4 (hr.mono (by decide)) rfl (pa_cons (pv 0) (pa_cons (pe_ix ix_list (pv 2) pe_int (fun _ _ => rfl)) pa_nil))))) pss_nil)
      (pss_cons (ps_if (pt_cmpR op_eq (pv 1) (pe_num rfl N2.kinds) (nomark _)) (pss_one (ps_ret (pe_def D7 (hr.mono (by decide)) rfl (pa_cons (pv 0) (pa_cons (pe_ix ix_list (pv 2) pe_int (fun _ _ => rfl)) pa_nil))))) pss_nil)
      (pss_cons (ps_if (pt_cmpR op_eq (pv 1) (pe_num rfl N2.nth) (nomark _)) (pss_one (ps_ret (pe_def D8 (hr.mono (by decide)) rfl (pa_cons (pv 0) (pa_cons (pe_ix ix_list (pv 2) pe_int (fun _ _ => rfl)) (pa_cons (pe_ix ix_list (pv 2) pe_int (fun _ _ => rfl)) pa_nil)))))) pss_nil)
      (pss_cons (ps_if (pt_cmpR op_eq (pv 1) (pe_num rfl N2.ifeyes) (nomark _)) (pss_one (ps_ret (pe_def D9 (hr.mono (by decide)) rfl (pa_cons (pv 0) (pa_cons (pe_ix ix_list (pv 2) pe_int (fun _ _ => rfl)) pa_nil))))) pss_nil)
      (pss_cons (ps_if (pt_chain op_le op_le (pe_num rfl N.seen) (pv 1) (pe_num rfl N.alike)) (pss_one (ps_ret (pe_def D6 (hr.mono (by decide)) rfl (pa_cons (pv 0) (pa_cons (pv 1) (pa_cons (pv 2) pa_nil)))))) pss_nil)
      (pss_one (ps_ret (pe_def D10 hr rfl (pa_cons (pv 0) (pa_cons (pv 1) pa_nil)))))))))))))), ?_⟩
    have h8 := hg.le8
    -- number == BEGIN
    refine q_when (et_is_num (n := 0) rfl) (fun hb H1 e1 => ?_) (fun hb H1 e1 => ?_)
    · obtain rfl := of_decide_eq_true hb
      obtain ⟨n, e, rfl, rfl⟩ := is0 hx hal
      rw [dstep_begin] at k
      exact s_retC (ea_cons (ev_var rfl) (ea_cons (ev_op (ev_var rfl) ev_c (rv_ixL (ex_l e1 ha) (atI_nat (j := 0) rfl))) (ea_cons (ev_op (ev_var rfl) ev_c (rv_ixL (ex_l e1 ha) (atI_nat (j := 1) rfl))) ea_nil))) fun H2 e2 => ⟨r, c, d, n, e, rfl, R.ext (e1.trans e2), h8, k.mono (e1.trans e2)⟩
    have j0 := of_decide_eq_false hb
    -- len(ring.counts) == 0
    have R1 := R.ext e1
    refine q_when (et_test (ev_op (ev_places T R1 rfl) ev_c (rv_eq rfl))) (fun hb H2 e2 => ?_) (fun hb H2 e2 => ?_)
    · rw [int_eq_dec] at hb
      have q := of_decide_eq_true hb
      have hn : d.ring = [] := List.eq_nil_of_length_eq_zero (by omega)
      rw [dstep_not hn (not_begin hx j0)] at k
      exact s_retL (el_lst (ea_cons ev_c ea_nil) (by show 1 ≤ 100000; decide)) fun p H3 hp e3 h3 => k.keep R (e1.trans e2) hp e3 h3
    have hne : d.ring ≠ [] := by
      intro z
      rw [int_eq_dec] at hb
      have q := of_decide_eq_false hb
      rw [z] at q
      exact q rfl
    have gd := hg.begun hne
    have k := k.mono (e1.trans e2)
    have R := R.ext (e1.trans e2)
    have ha := ex_l (e1.trans e2) ha
    clear hb R1
    -- number == PUT
    refine q_when (et_is_num (n := 1) rfl) (fun hb H3 e3 => ?_) (fun hb H3 e3 => ?_)
    · obtain rfl := of_decide_eq_true hb
      obtain ⟨p, v, rfl, rfl⟩ := is1 hx hal
      rw [dstep_put hne] at k
      exact s_retC (ea_cons (ev_var rfl) (ea_cons (ev_op (ev_var rfl) ev_c (rv_ixL (ex_l e3 ha) (atI_nat (j := 0) rfl))) (ea_cons (ev_op (ev_var rfl) ev_c (rv_ixL (ex_l e3 ha) (atI_nat (j := 1) rfl))) ea_nil))) fun H4 e4 => ⟨r, c, d, p, v, rfl, R.ext (e3.trans e4), h8, k.mono (e3.trans e4)⟩
    have j1 := of_decide_eq_false hb
    have k := k.mono e3
    have R := R.ext e3
    have ha := ex_l e3 ha
    -- number == EYES
    refine q_when (et_is_num (n := 2) rfl) (fun hb H4 e4 => ?_) (fun hb H4 e4 => ?_)
    · obtain rfl := of_decide_eq_true hb
      obtain ⟨p, rfl, rfl⟩ := is2 hx hal
      rw [dstep_eyes hne] at k
      exact s_retC (ea_cons (ev_var rfl) (ea_cons (ev_op (ev_var rfl) ev_c (rv_ixL (ex_l e4 ha) (atI_nat (j := 0) rfl))) ea_nil)) fun H5 e5 => ⟨r, c, d, p, rfl, R.ext (e4.trans e5), h8, k.mono (e4.trans e5)⟩
    have j2 := of_decide_eq_false hb
    have k := k.mono e4
    have R := R.ext e4
    have ha := ex_l e4 ha
    -- number == TURN
    refine q_when (et_is_num (n := 3) rfl) (fun hb H5 e5 => ?_) (fun hb H5 e5 => ?_)
    · obtain rfl := of_decide_eq_true hb
      obtain ⟨p, rfl, rfl⟩ := is3 hx hal
      rw [dstep_turn hne] at k
      exact s_retC (ea_cons (ev_var rfl) (ea_cons (ev_op (ev_var rfl) ev_c (rv_ixL (ex_l e5 ha) (atI_nat (j := 0) rfl))) ea_nil)) fun H6 e6 => ⟨r, c, d, p, rfl, R.ext (e5.trans e6), h8, k.mono (e5.trans e6)⟩
    have j3 := of_decide_eq_false hb
    have k := k.mono e5
    have R := R.ext e5
    have ha := ex_l e5 ha
    -- number == MIRROR
    refine q_when (et_is_num (n := 4) rfl) (fun hb H6 e6 => ?_) (fun hb H6 e6 => ?_)
    · obtain rfl := of_decide_eq_true hb
      obtain ⟨p, rfl, rfl⟩ := is4 hx hal
      rw [dstep_mirror hne] at k
      exact s_retC (ea_cons (ev_var rfl) (ea_cons (ev_op (ev_var rfl) ev_c (rv_ixL (ex_l e6 ha) (atI_nat (j := 0) rfl))) ea_nil)) fun H7 e7 => ⟨r, c, d, p, rfl, R.ext (e6.trans e7), h8, k.mono (e6.trans e7)⟩
    have j4 := of_decide_eq_false hb
    have k := k.mono e6
    have R := R.ext e6
    have ha := ex_l e6 ha
    -- number == KINDS
    refine q_when (et_is_num (n := 17) rfl) (fun hb H7 e7 => ?_) (fun hb H7 e7 => ?_)
    · obtain rfl := of_decide_eq_true hb
      obtain ⟨p, rfl, rfl⟩ := is17 hx hal
      have k : RetA C r c (d, mKinds d p) _ Q := (dstep_kinds hne p) ▸ k
      exact s_retC (ea_cons (ev_var rfl) (ea_cons (ev_op (ev_var rfl) ev_c (rv_ixL (ex_l e7 ha) (atI_nat (j := 0) rfl))) ea_nil)) fun H8 e8 => ⟨r, c, d, p, rfl, R.ext (e7.trans e8), gd, (k.mono (e7.trans e8)).look (R.ext (e7.trans e8))⟩
    have j17 := of_decide_eq_false hb
    have k := k.mono e7
    have R := R.ext e7
    have ha := ex_l e7 ha
    -- number == NTH
    refine q_when (et_is_num (n := 18) rfl) (fun hb H8 e8 => ?_) (fun hb H8 e8 => ?_)
    · obtain rfl := of_decide_eq_true hb
      obtain ⟨p, i, rfl, rfl⟩ := is18 hx hal
      have k : RetA C r c (d, mNth d p i) _ Q := (dstep_nth hne p i) ▸ k
      exact s_retC (ea_cons (ev_var rfl) (ea_cons (ev_op (ev_var rfl) ev_c (rv_ixL (ex_l e8 ha) (atI_nat (j := 0) rfl))) (ea_cons (ev_op (ev_var rfl) ev_c (rv_ixL (ex_l e8 ha) (atI_nat (j := 1) rfl))) ea_nil))) fun H9 e9 => ⟨r, c, d, p, i, rfl, R.ext (e8.trans e9), gd, (k.mono (e8.trans e9)).look (R.ext (e8.trans e9))⟩
    have j18 := of_decide_eq_false hb
    have k := k.mono e8
    have R := R.ext e8
    have ha := ex_l e8 ha
    -- number == IFEYES
    refine q_when (et_is_num (n := 20) rfl) (fun hb H9 e9 => ?_) (fun hb H9 e9 => ?_)
    · obtain rfl := of_decide_eq_true hb
      obtain ⟨p, rfl, rfl⟩ := is20 hx hal
      have k : RetA C r c (d, mIfeyes d p) _ Q := (dstep_ifeyes hne p) ▸ k
      exact s_retC (ea_cons (ev_var rfl) (ea_cons (ev_op (ev_var rfl) ev_c (rv_ixL (ex_l e9 ha) (atI_nat (j := 0) rfl))) ea_nil)) fun H8 e8 => ⟨r, c, d, p, rfl, R.ext (e9.trans e8), gd, (k.mono (e9.trans e8)).look (R.ext (e9.trans e8))⟩
    have j20 := of_decide_eq_false hb
    have k := k.mono e9
    have R := R.ext e9
    have ha := ex_l e9 ha
    -- SEEN <= number <= ALIKE
    refine q_when (et_test (ev_chain ev_c (ev_var rfl) ev_c rv_I0 rv_I0)) (fun hb H8 e8 => ?_) (fun hb H8 e8 => ?_)
    · rw [Bool.and_eq_true, decide_eq_true_eq, decide_eq_true_eq] at hb
      have fin : dstep d x = (d, robots d j args) ∧ 0 < args.length ∧ args.length ≤ 100 ∧ (j = 9 → 1 < args.length) := by
        have hjj : j = 6 ∨ j = 7 ∨ j = 8 ∨ j = 9 ∨ j = 10 := by omega
        rcases hjj with rfl | rfl | rfl | rfl | rfl
        · obtain ⟨p, rfl, rfl⟩ := is6 hx hal
          exact ⟨dstep_seen hne p, by simp, by simp, fun z => by omega⟩
        · obtain ⟨p, rfl, rfl⟩ := is7 hx hal
          exact ⟨dstep_view hne p, by simp, by simp, fun z => by omega⟩
        · obtain ⟨p, rfl, rfl⟩ := is8 hx hal
          exact ⟨dstep_even hne p, by simp, by simp, fun z => by omega⟩
        · obtain ⟨p, q, rfl, rfl⟩ := is9 hx hal
          exact ⟨dstep_same hne p q, by simp, by simp, fun _ => by simp⟩
        · obtain ⟨p, rfl, rfl⟩ := is10 hx hal
          exact ⟨dstep_alike hne p, by simp, by simp, fun z => by omega⟩
      rw [fin.1] at k
      exact s_retC (ea_cons (ev_var rfl) (ea_cons (ev_var rfl) (ea_cons (ev_var rfl) ea_nil))) fun H9 e9 => ⟨r, c, _, d, j, args, rfl, R.ext (e8.trans e9), h8, ex_l (e8.trans e9) ha, fin.2.2.1, fin.2.1, fin.2.2.2, (k.mono (e8.trans e9)).look (R.ext (e8.trans e9))⟩
    · rw [Bool.and_eq_false_iff, decide_eq_false_iff_not, decide_eq_false_iff_not] at hb
      have fin : dstep d x = (d, mRing d j) := by
        have hjj : j = 5 ∨ j = 11 ∨ j = 12 ∨ j = 13 ∨ j = 14 ∨ j = 15 ∨ j = 16 ∨ j = 19 ∨ j = 21 := by omega
        rcases hjj with rfl | rfl | rfl | rfl | rfl | rfl | rfl | rfl | rfl
        · obtain ⟨rfl, rfl⟩ := is_bare (y := .ring) (by simp [bare]) hx hal
          exact dstep_ring hne
        · obtain ⟨rfl, rfl⟩ := is_bare (y := .views) (by simp [bare]) hx hal
          exact dstep_views hne
        · obtain ⟨rfl, rfl⟩ := is_bare (y := .lonely) (by simp [bare]) hx hal
          exact dstep_lonely hne
        · obtain ⟨rfl, rfl⟩ := is_bare (y := .name) (by simp [bare]) hx hal
          exact dstep_name hne
        · obtain ⟨rfl, rfl⟩ := is_bare (y := .turns) (by simp [bare]) hx hal
          exact dstep_turns hne
        · obtain ⟨rfl, rfl⟩ := is_bare (y := .mirrors) (by simp [bare]) hx hal
          exact dstep_mirrors hne
        · obtain ⟨rfl, rfl⟩ := is_bare (y := .axis) (by simp [bare]) hx hal
          exact dstep_axis hne
        · obtain ⟨rfl, rfl⟩ := is_bare (y := .rank) (by simp [bare]) hx hal
          exact dstep_rank hne
        · obtain ⟨rfl, rfl⟩ := is_bare (y := .told) (by simp [bare]) hx hal
          exact dstep_told hne
      rw [fin] at k
      exact s_retC (ea_cons (ev_var rfl) (ea_cons (ev_var rfl) ea_nil)) fun H9 e9 => ⟨r, c, d, j, rfl, R.ext (e8.trans e9), gd, (k.mono (e8.trans e9)).look (R.ext (e8.trans e9))⟩
end
end Rv

set_option Elab.async false
set_option maxRecDepth 100000
set_option maxHeartbeats 2000000
namespace Rv
open PySem PySem.Spec PyProof.Rows L2 Evl
open PySem.W (Codec)
/-- a def stands behind the top -/
structure Here (K : PySem.W.Frag) (mg : Str → Option Value) (x : Str) (st : Stmt) : Prop where
  ex : ∃ (f : Addr) (fd : FuncData), Fun K x x st f fd ∧ mg x = some (.ref f)
section
variable {K : PySem.W.Frag} {mg : Str → Option Value} {h : Heap}
theorem here_mk {x : Str} {st : Stmt} {f : Addr} {od an : Option Addr} {sl : Array (Option Value)} {oc kV dc pm cd ct : Value} (X : K.In h) (G : h.Ns mainGlobals mg) (a : PySem.W.nsIn K mainGlobals x = some (some (.ref f)))
    (l : K.lookup f = some ⟨oc, od, .func (PySem.W.fnOf x x (defArgs st) (defBody st) (defScope st) .none kV dc pm an cd ct), sl⟩) (c : PySem.W.codeIn K cd x = true) (k : PySem.W.keepIn K (.ref f) = true) : Here K mg x st :=
  ⟨_, _, fun_mk (st := st) l c k, PySem.W.mg_of X G a⟩
theorem num_mk {x : Str} {i : Int} {t : Tok} (X : K.In h) (G : h.Ns mainGlobals mg) (a : PySem.W.nsIn K mainGlobals x = some (some (.int i t))) : Num mg x i := ⟨t, PySem.W.mg_of X G a⟩
theorem tab_mk {ta : Addr} {od : Option Addr} {its : Array Value} {n : Nat} {sl : Array (Option Value)} (X : K.In h) (G : h.Ns mainGlobals mg) (a : PySem.W.nsIn K mainGlobals "ARGUMENTS" = some (some (.ref ta)))
    (l : K.lookup ta = some ⟨.type "tuple", od, .seq its n, sl⟩) (hz : its.size ≤ sizeLine) (hv : Vals (nv argsOf) its.toList) : Tab K mg :=
  ⟨ta, PySem.W.mg_of X G a, fun _ => .inr ⟨_, its, n, l, rfl, rfl, hz, hv⟩⟩
theorem here_ok {P : Program} {w : World} {base : Heap} {x : Str} {st : Stmt} {k : Nat} {ps : List Str} {sp : Sp} (hh : Here K mg x st) (hok : ∀ f fd, Fun K x x st f fd → FnOk P w K mg base CX0 k f fd ps sp) (hb : ∀ f fd, Fun K x x st f fd → Binds K fd ps []) :
    DefOk P w K mg base x k ps sp := by
  obtain ⟨f, fd, F, m⟩ := hh.ex
  exact ⟨f, fd, hok f fd F, m, F.kp, hb f fd F⟩
end
theorem all_mk {P : Program} {w : World} {K : PySem.W.Frag} {h : Heap} {mg : Str → Option Value} {fa C fI : Addr} {od an : Option Addr} {sl : Array (Option Value)} {oc kV dc pm cd ct : Value} (X : K.In h) (G : h.Ns mainGlobals mg) (hfa : mg "answers" = some (.ref fa))
    (aC : PySem.W.nsIn K mainGlobals "Ring" = some (some (.ref C))) (aI : PySem.W.findIn K (.ref C) "__init__" = some (some (.ref fI))) (iI : PySem.W.isFn K (.ref fI) = true) (lI : K.lookup fI = some ⟨oc, od, .func (PySem.W.fnOf "__init__" "Ring.__init__" (defArgs sInit) (defBody sInit) (defScope sInit) .none kV dc pm an cd ct), sl⟩) (cI : PySem.W.codeIn K cd "Ring.__init__" = true) (kI : PySem.W.keepIn K (.ref fI) = true)
    (pg : PySem.W.plainGet K C Str.empty = true) (hd : PySem.W.hasDictIn K C = true) (po : PySem.W.plainOver K C = true) (sa : PySem.W.findIn K (.ref C) "__setattr__" = some (some (.builtin "object.__setattr__"))) (mk : PySem.W.makesIn K C = true) (kc : PySem.W.keepIn K (.ref C) = true)
    (nC : PySem.W.findIn K (.ref C) "counts" = some none) (nE : PySem.W.findIn K (.ref C) "eyes" = some none) (tb : Tab K mg)
    (h_turned : Here K mg "turned" sTurned) (h_mirrored : Here K mg "mirrored" sMirrored) (h_told_by : Here K mg "told_by" sTold) (h_looked_at : Here K mg "looked_at" sLook) (h_rising_row : Here K mg "rising_row" sRising) (h_falling_row : Here K mg "falling_row" sFalling) (h_view_from : Here K mg "view_from" sView) (h_is_even_handed : Here K mg "is_even_handed" sEven) (h_lesser_row : Here K mg "lesser_row" sLesser) (h_have_same_view : Here K mg "have_same_view" sSame) (h_places_alike : Here K mg "places_alike" sAlike) (h_number_of_views : Here K mg "number_of_views" sViews) (h_lonely_places : Here K mg "lonely_places" sLonely) (h_turnings_kept : Here K mg "turnings_kept" sTurnings) (h_mirrorings_kept : Here K mg "mirrorings_kept" sMirrorings) (h_axis_places : Here K mg "axis_places" sAxis) (h_rings_alike : Here K mg "rings_alike" sRingsAlike) (h_name_of : Here K mg "name_of" sName) (h_is_name : Here K mg "is_name" sIsName) (h_rings_of : Here K mg "rings_of" sRings) (h_names_of : Here K mg "names_of" sNames) (h_rank_of : Here K mg "rank_of" sRank) (h_answer_begin : Here K mg "answer_begin" sBegin) (h_answer_put : Here K mg "answer_put" sPut) (h_answer_eyes : Here K mg "answer_eyes" sEyes) (h_answer_turn : Here K mg "answer_turn" sTurn) (h_answer_mirror : Here K mg "answer_mirror" sMirror) (h_with_count : Here K mg "with_count" sCount) (h_yes_or_no : Here K mg "yes_or_no" sYN) (h_refusal_at : Here K mg "refusal_at" sRefuse) (h_answer_of_robots : Here K mg "answer_of_robots" sRobots) (h_answer_kinds : Here K mg "answer_kinds" sKinds) (h_answer_nth : Here K mg "answer_nth" sNth) (h_answer_ifeyes : Here K mg "answer_ifeyes" sIfeyes) (h_answer_told : Here K mg "answer_told" sTold2) (h_answer_of_ring : Here K mg "answer_of_ring" sOfRing) (h_answer_call : Here K mg "answer_call" sCall) (h_answers : Here K mg "answers" sAnswers) (n_NO_SUCH_PLACE : Num mg "NO_SUCH_PLACE" (-2)) (n_NOT_BEGUN : Num mg "NOT_BEGUN" (-11)) (n_OUT_OF_BOUNDS : Num mg "OUT_OF_BOUNDS" (-22)) (n_TOO_MANY_ROBOTS : Num mg "TOO_MANY_ROBOTS" (-28)) (n_NOBODY_THERE : Num mg "NOBODY_THERE" (-33)) (n_LEAST_PLACES : Num mg "LEAST_PLACES" 3) (n_MOST_PLACES : Num mg "MOST_PLACES" 8) (n_MOST_ROBOTS : Num mg "MOST_ROBOTS" 6) (n_LAST_EYES : Num mg "LAST_EYES" 2) (n_BEGIN : Num mg "BEGIN" 0) (n_PUT : Num mg "PUT" 1) (n_EYES : Num mg "EYES" 2) (n_TURN : Num mg "TURN" 3) (n_MIRROR : Num mg "MIRROR" 4) (n_RING : Num mg "RING" 5) (n_SEEN : Num mg "SEEN" 6) (n_VIEW : Num mg "VIEW" 7) (n_EVEN : Num mg "EVEN" 8) (n_SAME : Num mg "SAME" 9) (n_ALIKE : Num mg "ALIKE" 10) (n_VIEWS : Num mg "VIEWS" 11) (n_LONELY : Num mg "LONELY" 12) (n_NAME : Num mg "NAME" 13) (n_TURNS : Num mg "TURNS" 14) (n_MIRRORS : Num mg "MIRRORS" 15) (n_AXIS : Num mg "AXIS" 16) (n_KINDS : Num mg "KINDS" 17) (n_NTH : Num mg "NTH" 18) (n_RANK : Num mg "RANK" 19) (n_IFEYES : Num mg "IFEYES" 20) (n_NO_SUCH_NAME : Num mg "NO_SUCH_NAME" (-33)) (b_len : mg "len" = none) (b_range : mg "range" = none) (b_min : mg "min" = none) (b_sum : mg "sum" = none) :
    ∃ fd : FuncData, (∀ (s : Shared) (us : List Value), us.length = (["calls"] : List Str).length → BindsTo s fd ⟨us, []⟩ ((["calls"] : List Str).zip us)) ∧ ∀ base : Heap, K.In base → base.Ns mainGlobals mg → FnOk P w K mg base CX0 13 fa fd ["calls"] (spAnswers K) := by
  obtain ⟨f, fd, F, m⟩ := h_answers.ex
  have e := hfa.symm.trans m
  cases e
  have T : Txt K mg C := ⟨⟨b_len, b_range, b_min, b_sum⟩, ⟨pg, hd, po, sa⟩, nC, nE, PySem.W.mg_of X G aC, n_NO_SUCH_PLACE, n_NOT_BEGUN, n_OUT_OF_BOUNDS, n_TOO_MANY_ROBOTS, n_NOBODY_THERE, n_LEAST_PLACES, n_MOST_PLACES, n_MOST_ROBOTS, n_LAST_EYES⟩
  have N : Kinds mg := ⟨n_BEGIN, n_PUT, n_EYES, n_TURN, n_MIRROR, n_RING, n_SEEN, n_VIEW, n_EVEN, n_SAME, n_ALIKE⟩
  have N2 : Kinds2 mg := ⟨n_VIEWS, n_LONELY, n_NAME, n_TURNS, n_MIRRORS, n_AXIS, n_KINDS, n_NTH, n_RANK, n_IFEYES, n_NO_SUCH_NAME⟩
  have FI := fun_mk (st := sInit) lI cI kI
  have bI := FI.binds (ps := ["self"]) fun _ _ _ _ _ _ us hl => match us, hl with | [_], _ => rfl
  refine ⟨fd, ?_, fun base _ _ => ?_⟩
  · obtain ⟨oc, od, kV, doc, pm, an, cdv, ct, osl, rfl, lk, hcd⟩ := F.ex
    exact fun s us hu => match us, hu with | [_], _ => .of_eq rfl
  have D_turned : DefOk P w K mg base "turned" 1 ["row", "s"] (spRot K Km534.from_) := here_ok h_turned (fun f fd F => ok_turned T.blt F) (fun f fd F => F.binds fun _ _ _ _ _ _ us hl => match us, hl with | [_, _], _ => rfl)
  have D_mirrored : DefOk P w K mg base "mirrored" 1 ["row", "s"] (spRot K Km534.back) := here_ok h_mirrored (fun f fd F => ok_mirrored T.blt F) (fun f fd F => F.binds fun _ _ _ _ _ _ us hl => match us, hl with | [_, _], _ => rfl)
  have D_told_by : DefOk P w K mg base "told_by" 1 ["eyes", "robots"] (spTold) := here_ok h_told_by (fun f fd F => ok_told T.blt F) (fun f fd F => F.binds fun _ _ _ _ _ _ us hl => match us, hl with | [_, _], _ => rfl)
  have D_looked_at : DefOk P w K mg base "looked_at" 2 ["counts", "eyes"] (spLook K) := here_ok h_looked_at (fun f fd F => ok_look D_told_by F) (fun f fd F => F.binds fun _ _ _ _ _ _ us hl => match us, hl with | [_, _], _ => rfl)
  have D_rising_row : DefOk P w K mg base "rising_row" 3 ["counts", "eyes", "p"] (spRow K Km534.rowOn) := here_ok h_rising_row (fun f fd F => ok_rising D_turned D_looked_at F) (fun f fd F => F.binds fun _ _ _ _ _ _ us hl => match us, hl with | [_, _, _], _ => rfl)
  have D_falling_row : DefOk P w K mg base "falling_row" 3 ["counts", "eyes", "p"] (spRow K Km534.rowBack) := here_ok h_falling_row (fun f fd F => ok_falling D_mirrored D_looked_at F) (fun f fd F => F.binds fun _ _ _ _ _ _ us hl => match us, hl with | [_, _, _], _ => rfl)
  have D_view_from : DefOk P w K mg base "view_from" 4 ["counts", "eyes", "p"] (spView K) := here_ok h_view_from (fun f fd F => ok_view D_rising_row D_falling_row F) (fun f fd F => F.binds fun _ _ _ _ _ _ us hl => match us, hl with | [_, _, _], _ => rfl)
  have D_is_even_handed : DefOk P w K mg base "is_even_handed" 4 ["counts", "eyes", "p"] (spYes K Km534.even_) := here_ok h_is_even_handed (fun f fd F => ok_even D_rising_row D_falling_row F) (fun f fd F => F.binds fun _ _ _ _ _ _ us hl => match us, hl with | [_, _, _], _ => rfl)
  have D_lesser_row : DefOk P w K mg base "lesser_row" 5 ["counts", "eyes", "p"] (spRow K fun d p => (Km534.view d p).1) := here_ok h_lesser_row (fun f fd F => ok_lesser D_view_from F) (fun f fd F => F.binds fun _ _ _ _ _ _ us hl => match us, hl with | [_, _, _], _ => rfl)
  have D_have_same_view : DefOk P w K mg base "have_same_view" 6 ["counts", "eyes", "p", "q"] (spSame K) := here_ok h_have_same_view (fun f fd F => ok_same D_lesser_row F) (fun f fd F => F.binds fun _ _ _ _ _ _ us hl => match us, hl with | [_, _, _, _], _ => rfl)
  have D_places_alike : DefOk P w K mg base "places_alike" 7 ["counts", "eyes", "p"] (spRow K alikeTo) := here_ok h_places_alike (fun f fd F => ok_alike T.blt D_have_same_view F) (fun f fd F => F.binds fun _ _ _ _ _ _ us hl => match us, hl with | [_, _, _], _ => rfl)
  have D_number_of_views : DefOk P w K mg base "number_of_views" 8 ["counts", "eyes"] (spEyesV K fun d => (Km534.viewsOf d).length) := here_ok h_number_of_views (fun f fd F => ok_views T.blt D_places_alike F) (fun f fd F => F.binds fun _ _ _ _ _ _ us hl => match us, hl with | [_, _], _ => rfl)
  have D_lonely_places : DefOk P w K mg base "lonely_places" 8 ["counts", "eyes"] (spEyesL K Km534.lonely) := here_ok h_lonely_places (fun f fd F => ok_lonely T.blt D_places_alike F) (fun f fd F => F.binds fun _ _ _ _ _ _ us hl => match us, hl with | [_, _], _ => rfl)
  have D_turnings_kept : DefOk P w K mg base "turnings_kept" 2 ["counts"] (spList K (keptBy Km534.from_)) := here_ok h_turnings_kept (fun f fd F => ok_turnings T.blt D_turned F) (fun f fd F => F.binds fun _ _ _ _ _ _ us hl => match us, hl with | [_], _ => rfl)
  have D_mirrorings_kept : DefOk P w K mg base "mirrorings_kept" 2 ["counts"] (spList K (keptBy Km534.back)) := here_ok h_mirrorings_kept (fun f fd F => ok_mirrorings T.blt D_mirrored F) (fun f fd F => F.binds fun _ _ _ _ _ _ us hl => match us, hl with | [_], _ => rfl)
  have D_axis_places : DefOk P w K mg base "axis_places" 3 ["counts"] (spList K Km534.onAxis) := here_ok h_axis_places (fun f fd F => ok_axis T.blt D_mirrorings_kept F) (fun f fd F => F.binds fun _ _ _ _ _ _ us hl => match us, hl with | [_], _ => rfl)
  have D_rings_alike : DefOk P w K mg base "rings_alike" 2 ["counts"] (spRings0 K) := here_ok h_rings_alike (fun f fd F => ok_rings_alike T.blt D_turned D_mirrored F) (fun f fd F => F.binds fun _ _ _ _ _ _ us hl => match us, hl with | [_], _ => rfl)
  have D_name_of : DefOk P w K mg base "name_of" 3 ["counts"] (spName K) := here_ok h_name_of (fun f fd F => ok_name T.blt D_rings_alike F) (fun f fd F => F.binds fun _ _ _ _ _ _ us hl => match us, hl with | [_], _ => rfl)
  have D_is_name : DefOk P w K mg base "is_name" 2 ["counts"] (spIsName K) := here_ok h_is_name (fun f fd F => ok_is_name T.blt D_turned D_mirrored F) (fun f fd F => F.binds fun _ _ _ _ _ _ us hl => match us, hl with | [_], _ => rfl)
  have D_rings_of : ∀ i, DefOk P w K mg base "rings_of" i ["n", "robots"] (spRings i) := by
    obtain ⟨f, fd, F, m⟩ := h_rings_of.ex
    have b : Binds K fd ["n", "robots"] [] := F.binds fun _ _ _ _ _ _ us hl => match us, hl with | [_, _], _ => rfl
    intro i
    induction i with
    | zero => exact ⟨f, fd, rings_none, m, F.kp, b⟩
    | succ i ih => exact ⟨f, fd, ok_rings T.blt ih F, m, F.kp, b⟩
  have D_names_of : DefOk P w K mg base "names_of" 9 ["n", "robots"] (spNames) := here_ok h_names_of (fun f fd F => ok_names (D_rings_of 8) D_is_name F) (fun f fd F => F.binds fun _ _ _ _ _ _ us hl => match us, hl with | [_, _], _ => rfl)
  have D_rank_of : DefOk P w K mg base "rank_of" 10 ["counts"] (spRank K) := here_ok h_rank_of (fun f fd F => ok_rank T.blt D_names_of D_name_of F) (fun f fd F => F.binds fun _ _ _ _ _ _ us hl => match us, hl with | [_], _ => rfl)
  have D_answer_begin : DefOk P w K mg base "answer_begin" 1 ["ring", "n", "e"] (spAct2 C aBegin) := here_ok h_answer_begin (fun f fd F => ok_begin T F) (fun f fd F => F.binds fun _ _ _ _ _ _ us hl => match us, hl with | [_, _, _], _ => rfl)
  have D_answer_put : DefOk P w K mg base "answer_put" 1 ["ring", "p", "x"] (spAct2 C aPut) := here_ok h_answer_put (fun f fd F => ok_put T F) (fun f fd F => F.binds fun _ _ _ _ _ _ us hl => match us, hl with | [_, _, _], _ => rfl)
  have D_answer_eyes : DefOk P w K mg base "answer_eyes" 1 ["ring", "e"] (spAct1 C aEyes) := here_ok h_answer_eyes (fun f fd F => ok_eyes T F) (fun f fd F => F.binds fun _ _ _ _ _ _ us hl => match us, hl with | [_, _], _ => rfl)
  have D_answer_turn : DefOk P w K mg base "answer_turn" 2 ["ring", "s"] (spAct1 C aTurn) := here_ok h_answer_turn (fun f fd F => ok_turn T D_turned F) (fun f fd F => F.binds fun _ _ _ _ _ _ us hl => match us, hl with | [_, _], _ => rfl)
  have D_answer_mirror : DefOk P w K mg base "answer_mirror" 2 ["ring", "s"] (spAct1 C aMirror) := here_ok h_answer_mirror (fun f fd F => ok_mirror T D_mirrored F) (fun f fd F => F.binds fun _ _ _ _ _ _ us hl => match us, hl with | [_, _], _ => rfl)
  have D_with_count : DefOk P w K mg base "with_count" 1 ["numbers"] (spCount) := here_ok h_with_count (fun f fd F => ok_count T.blt F) (fun f fd F => F.binds fun _ _ _ _ _ _ us hl => match us, hl with | [_], _ => rfl)
  have D_yes_or_no : DefOk P w K mg base "yes_or_no" 1 ["holds"] (spYN) := here_ok h_yes_or_no (fun f fd F => ok_yn F) (fun f fd F => F.binds fun _ _ _ _ _ _ us hl => match us, hl with | [_], _ => rfl)
  have D_refusal_at : DefOk P w K mg base "refusal_at" 1 ["ring", "places"] (spRefuse K C) := here_ok h_refusal_at (fun f fd F => ok_refuse T F) (fun f fd F => F.binds fun _ _ _ _ _ _ us hl => match us, hl with | [_, _], _ => rfl)
  have D_answer_of_robots : DefOk P w K mg base "answer_of_robots" 8 ["ring", "number", "places"] (spRobots K C) := here_ok h_answer_of_robots (fun f fd F => ok_robots T N D_refusal_at D_with_count D_yes_or_no D_rising_row D_view_from D_is_even_handed D_have_same_view D_places_alike F) (fun f fd F => F.binds fun _ _ _ _ _ _ us hl => match us, hl with | [_, _, _], _ => rfl)
  have D_answer_kinds : DefOk P w K mg base "answer_kinds" 10 ["ring", "k"] (spLk1 C mKinds) := here_ok h_answer_kinds (fun f fd F => ok_kinds T D_names_of F) (fun f fd F => F.binds fun _ _ _ _ _ _ us hl => match us, hl with | [_, _], _ => rfl)
  have D_answer_nth : DefOk P w K mg base "answer_nth" 10 ["ring", "k", "i"] (spLk2 C mNth) := here_ok h_answer_nth (fun f fd F => ok_nth T N2 D_names_of D_with_count F) (fun f fd F => F.binds fun _ _ _ _ _ _ us hl => match us, hl with | [_, _, _], _ => rfl)
  have D_answer_ifeyes : DefOk P w K mg base "answer_ifeyes" 9 ["ring", "e"] (spLk1 C mIfeyes) := here_ok h_answer_ifeyes (fun f fd F => ok_ifeyes T D_number_of_views D_lonely_places F) (fun f fd F => F.binds fun _ _ _ _ _ _ us hl => match us, hl with | [_, _], _ => rfl)
  have D_answer_told : DefOk P w K mg base "answer_told" 1 ["ring"] (spLk0 C mTold) := here_ok h_answer_told (fun f fd F => ok_told2 T F) (fun f fd F => F.binds fun _ _ _ _ _ _ us hl => match us, hl with | [_], _ => rfl)
  have D_answer_of_ring : DefOk P w K mg base "answer_of_ring" 11 ["ring", "number"] (spLk1 C mRing) := here_ok h_answer_of_ring (fun f fd F => ok_of_ring T N N2 D_with_count D_number_of_views D_lonely_places D_name_of D_turnings_kept D_mirrorings_kept D_axis_places D_rank_of D_answer_told F) (fun f fd F => F.binds fun _ _ _ _ _ _ us hl => match us, hl with | [_, _], _ => rfl)
  have D_answer_call : DefOk P w K mg base "answer_call" 12 ["ring", "number", "given"] (spCall K C) := here_ok h_answer_call (fun f fd F => ok_call T N N2 D_answer_begin D_answer_put D_answer_eyes D_answer_turn D_answer_mirror D_answer_of_robots D_answer_kinds D_answer_nth D_answer_ifeyes D_answer_of_ring F) (fun f fd F => F.binds fun _ _ _ _ _ _ us hl => match us, hl with | [_, _, _], _ => rfl)
  exact ok_answers (kc := 10) T tb ⟨mk, aI, iI, kc⟩ (ok_init T FI) bI D_with_count D_answer_call F
end Rv
open PySem PySem.W PyProof.Rows
set_option maxRecDepth 100000 in
set_option maxHeartbeats 0 in
theorem PySem.Challenge.cw_robotviews_s01_answers_holds : PySem.Challenge.rw_robotviews_s01_answers.Holds := by
  w_on; k_headS; (case hw => exact ⟨[.list [.int 5]], by decide +kernel, by decide +kernel⟩)
  k_fillS
  refine L2.walk_specK (r := PySem.Challenge.rw_robotviews_s01_answers) (k := 13) (CX := L2.CX0) (ps := ["calls"]) (sp := Rv.spAnswers) (by decide +kernel) rfl rfl ⟨rfl, by decide, by decide⟩ (fun w h Y => PySem.W.kIn_of Y) ?F ?S (fun _ _ _ _ z => z)
  case F =>
    intro w mg fa h Y KX G hmg
    refine' Rv.all_mk KX G hmg ?aC ?aI ?iI ?lI ?cI ?kI ?pg ?hd ?po ?sa ?mk ?kc ?nC ?nE ?tb ?h_turned ?h_mirrored ?h_told_by ?h_looked_at ?h_rising_row ?h_falling_row ?h_view_from ?h_is_even_handed ?h_lesser_row ?h_have_same_view ?h_places_alike ?h_number_of_views ?h_lonely_places ?h_turnings_kept ?h_mirrorings_kept ?h_axis_places ?h_rings_alike ?h_name_of ?h_is_name ?h_rings_of ?h_names_of ?h_rank_of ?h_answer_begin ?h_answer_put ?h_answer_eyes ?h_answer_turn ?h_answer_mirror ?h_with_count ?h_yes_or_no ?h_refusal_at ?h_answer_of_robots ?h_answer_kinds ?h_answer_nth ?h_answer_ifeyes ?h_answer_told ?h_answer_of_ring ?h_answer_call ?h_answers ?n_NO_SUCH_PLACE ?n_NOT_BEGUN ?n_OUT_OF_BOUNDS ?n_TOO_MANY_ROBOTS ?n_NOBODY_THERE ?n_LEAST_PLACES ?n_MOST_PLACES ?n_MOST_ROBOTS ?n_LAST_EYES ?n_BEGIN ?n_PUT ?n_EYES ?n_TURN ?n_MIRROR ?n_RING ?n_SEEN ?n_VIEW ?n_EVEN ?n_SAME ?n_ALIKE ?n_VIEWS ?n_LONELY ?n_NAME ?n_TURNS ?n_MIRRORS ?n_AXIS ?n_KINDS ?n_NTH ?n_RANK ?n_IFEYES ?n_NO_SUCH_NAME ?b_len ?b_range ?b_min ?b_sum
    (case aC => k_is); (case aI => k_is); (case iI => k_is); (case lI => k_is); (case cI => k_is); (case kI => k_is)
    (case pg => k_is); (case hd => k_is); (case po => k_is); (case sa => k_is); (case mk => k_is); (case kc => k_is); (case nC => k_is); (case nE => k_is)
    case tb =>
      refine' Rv.tab_mk KX G ?a ?l ?z ?v
      (case a => k_is); (case l => k_is); (case z => decide)
      case v => repeat' (first | exact .nil | refine .cons ⟨_, rfl⟩ ?_)
    (case h_turned => (refine' Rv.here_mk KX G ?a ?l ?c ?k; (case a => k_is); (case l => k_is); (case c => k_is); (case k => k_is)))
    (case h_mirrored => (refine' Rv.here_mk KX G ?a ?l ?c ?k; (case a => k_is); (case l => k_is); (case c => k_is); (case k => k_is)))
    (case h_told_by => (refine' Rv.here_mk KX G ?a ?l ?c ?k; (case a => k_is); (case l => k_is); (case c => k_is); (case k => k_is)))
    (case h_looked_at => (refine' Rv.here_mk KX G ?a ?l ?c ?k; (case a => k_is); (case l => k_is); (case c => k_is); (case k => k_is)))
    (case h_rising_row => (refine' Rv.here_mk KX G ?a ?l ?c ?k; (case a => k_is); (case l => k_is); (case c => k_is); (case k => k_is)))
    (case h_falling_row => (refine' Rv.here_mk KX G ?a ?l ?c ?k; (case a => k_is); (case l => k_is); (case c => k_is); (case k => k_is)))
    (case h_view_from => (refine' Rv.here_mk KX G ?a ?l ?c ?k; (case a => k_is); (case l => k_is); (case c => k_is); (case k => k_is)))
    (case h_is_even_handed => (refine' Rv.here_mk KX G ?a ?l ?c ?k; (case a => k_is); (case l => k_is); (case c => k_is); (case k => k_is)))
    (case h_lesser_row => (refine' Rv.here_mk KX G ?a ?l ?c ?k; (case a => k_is); (case l => k_is); (case c => k_is); (case k => k_is)))
    (case h_have_same_view => (refine' Rv.here_mk KX G ?a ?l ?c ?k; (case a => k_is); (case l => k_is); (case c => k_is); (case k => k_is)))
    (case h_places_alike => (refine' Rv.here_mk KX G ?a ?l ?c ?k; (case a => k_is); (case l => k_is); (case c => k_is); (case k => k_is)))
    (case h_number_of_views => (refine' Rv.here_mk KX G ?a ?l ?c ?k; (case a => k_is); (case l => k_is); (case c => k_is); (case k => k_is)))
    (case h_lonely_places => (refine' Rv.here_mk KX G ?a ?l ?c ?k; (case a => k_is); (case l => k_is); (case c => k_is); (case k => k_is)))
    (case h_turnings_kept => (refine' Rv.here_mk KX G ?a ?l ?c ?k; (case a => k_is); (case l => k_is); (case c => k_is); (case k => k_is)))
    (case h_mirrorings_kept => (refine' Rv.here_mk KX G ?a ?l ?c ?k; (case a => k_is); (case l => k_is); (case c => k_is); (case k => k_is)))
    (case h_axis_places => (refine' Rv.here_mk KX G ?a ?l ?c ?k; (case a => k_is); (case l => k_is); (case c => k_is); (case k => k_is)))
    (case h_rings_alike => (refine' Rv.here_mk KX G ?a ?l ?c ?k; (case a => k_is); (case l => k_is); (case c => k_is); (case k => k_is)))
    (case h_name_of => (refine' Rv.here_mk KX G ?a ?l ?c ?k; (case a => k_is); (case l => k_is); (case c => k_is); (case k => k_is)))
    (case h_is_name => (refine' Rv.here_mk KX G ?a ?l ?c ?k; (case a => k_is); (case l => k_is); (case c => k_is); (case k => k_is)))
    (case h_rings_of => (refine' Rv.here_mk KX G ?a ?l ?c ?k; (case a => k_is); (case l => k_is); (case c => k_is); (case k => k_is)))
    (case h_names_of => (refine' Rv.here_mk KX G ?a ?l ?c ?k; (case a => k_is); (case l => k_is); (case c => k_is); (case k => k_is)))
    (case h_rank_of => (refine' Rv.here_mk KX G ?a ?l ?c ?k; (case a => k_is); (case l => k_is); (case c => k_is); (case k => k_is)))
    (case h_answer_begin => (refine' Rv.here_mk KX G ?a ?l ?c ?k; (case a => k_is); (case l => k_is); (case c => k_is); (case k => k_is)))
    (case h_answer_put => (refine' Rv.here_mk KX G ?a ?l ?c ?k; (case a => k_is); (case l => k_is); (case c => k_is); (case k => k_is)))
    (case h_answer_eyes => (refine' Rv.here_mk KX G ?a ?l ?c ?k; (case a => k_is); (case l => k_is); (case c => k_is); (case k => k_is)))
    (case h_answer_turn => (refine' Rv.here_mk KX G ?a ?l ?c ?k; (case a => k_is); (case l => k_is); (case c => k_is); (case k => k_is)))
    (case h_answer_mirror => (refine' Rv.here_mk KX G ?a ?l ?c ?k; (case a => k_is); (case l => k_is); (case c => k_is); (case k => k_is)))
    (case h_with_count => (refine' Rv.here_mk KX G ?a ?l ?c ?k; (case a => k_is); (case l => k_is); (case c => k_is); (case k => k_is)))
    (case h_yes_or_no => (refine' Rv.here_mk KX G ?a ?l ?c ?k; (case a => k_is); (case l => k_is); (case c => k_is); (case k => k_is)))
    (case h_refusal_at => (refine' Rv.here_mk KX G ?a ?l ?c ?k; (case a => k_is); (case l => k_is); (case c => k_is); (case k => k_is)))
    (case h_answer_of_robots => (refine' Rv.here_mk KX G ?a ?l ?c ?k; (case a => k_is); (case l => k_is); (case c => k_is); (case k => k_is)))
    (case h_answer_kinds => (refine' Rv.here_mk KX G ?a ?l ?c ?k; (case a => k_is); (case l => k_is); (case c => k_is); (case k => k_is)))
    (case h_answer_nth => (refine' Rv.here_mk KX G ?a ?l ?c ?k; (case a => k_is); (case l => k_is); (case c => k_is); (case k => k_is)))
    (case h_answer_ifeyes => (refine' Rv.here_mk KX G ?a ?l ?c ?k; (case a => k_is); (case l => k_is); (case c => k_is); (case k => k_is)))
    (case h_answer_told => (refine' Rv.here_mk KX G ?a ?l ?c ?k; (case a => k_is); (case l => k_is); (case c => k_is); (case k => k_is)))
    (case h_answer_of_ring => (refine' Rv.here_mk KX G ?a ?l ?c ?k; (case a => k_is); (case l => k_is); (case c => k_is); (case k => k_is)))
    (case h_answer_call => (refine' Rv.here_mk KX G ?a ?l ?c ?k; (case a => k_is); (case l => k_is); (case c => k_is); (case k => k_is)))
    (case h_answers => (refine' Rv.here_mk KX G ?a ?l ?c ?k; (case a => k_is); (case l => k_is); (case c => k_is); (case k => k_is)))
    (case n_NO_SUCH_PLACE => (refine' Rv.num_mk KX G ?a; (case a => k_is)))
    (case n_NOT_BEGUN => (refine' Rv.num_mk KX G ?a; (case a => k_is)))
    (case n_OUT_OF_BOUNDS => (refine' Rv.num_mk KX G ?a; (case a => k_is)))
    (case n_TOO_MANY_ROBOTS => (refine' Rv.num_mk KX G ?a; (case a => k_is)))
    (case n_NOBODY_THERE => (refine' Rv.num_mk KX G ?a; (case a => k_is)))
    (case n_LEAST_PLACES => (refine' Rv.num_mk KX G ?a; (case a => k_is)))
    (case n_MOST_PLACES => (refine' Rv.num_mk KX G ?a; (case a => k_is)))
    (case n_MOST_ROBOTS => (refine' Rv.num_mk KX G ?a; (case a => k_is)))
    (case n_LAST_EYES => (refine' Rv.num_mk KX G ?a; (case a => k_is)))
    (case n_BEGIN => (refine' Rv.num_mk KX G ?a; (case a => k_is)))
    (case n_PUT => (refine' Rv.num_mk KX G ?a; (case a => k_is)))
    (case n_EYES => (refine' Rv.num_mk KX G ?a; (case a => k_is)))
    (case n_TURN => (refine' Rv.num_mk KX G ?a; (case a => k_is)))
    (case n_MIRROR => (refine' Rv.num_mk KX G ?a; (case a => k_is)))
    (case n_RING => (refine' Rv.num_mk KX G ?a; (case a => k_is)))
    (case n_SEEN => (refine' Rv.num_mk KX G ?a; (case a => k_is)))
    (case n_VIEW => (refine' Rv.num_mk KX G ?a; (case a => k_is)))
    (case n_EVEN => (refine' Rv.num_mk KX G ?a; (case a => k_is)))
    (case n_SAME => (refine' Rv.num_mk KX G ?a; (case a => k_is)))
    (case n_ALIKE => (refine' Rv.num_mk KX G ?a; (case a => k_is)))
    (case n_VIEWS => (refine' Rv.num_mk KX G ?a; (case a => k_is)))
    (case n_LONELY => (refine' Rv.num_mk KX G ?a; (case a => k_is)))
    (case n_NAME => (refine' Rv.num_mk KX G ?a; (case a => k_is)))
    (case n_TURNS => (refine' Rv.num_mk KX G ?a; (case a => k_is)))
    (case n_MIRRORS => (refine' Rv.num_mk KX G ?a; (case a => k_is)))
    (case n_AXIS => (refine' Rv.num_mk KX G ?a; (case a => k_is)))
    (case n_KINDS => (refine' Rv.num_mk KX G ?a; (case a => k_is)))
    (case n_NTH => (refine' Rv.num_mk KX G ?a; (case a => k_is)))
    (case n_RANK => (refine' Rv.num_mk KX G ?a; (case a => k_is)))
    (case n_IFEYES => (refine' Rv.num_mk KX G ?a; (case a => k_is)))
    (case n_NO_SUCH_NAME => (refine' Rv.num_mk KX G ?a; (case a => k_is)))
    (case b_len => (refine' PySem.W.mg_none_of KX G ?a; (case a => k_is)))
    (case b_range => (refine' PySem.W.mg_none_of KX G ?a; (case a => k_is)))
    (case b_min => (refine' PySem.W.mg_none_of KX G ?a; (case a => k_is)))
    (case b_sum => (refine' PySem.W.mg_none_of KX G ?a; (case a => k_is)))
  case S =>
    intro K H xs a hO hwi hask hx
    cases hx with
    | cons h1 h2 =>
      cases h2
      cases h1 with
      | lst hs ha =>
        have e := L2.ints_dw a.1 _ ha
        subst e
        have q : ((Codec.inLen 0 150 a.1 && a.1.all (Codec.inInt 0 4294967295)) && true) = true := hwi
        rw [Bool.and_eq_true, Bool.and_eq_true] at q
        exact ⟨_, a.1, rfl, hs, (Codec.inNat_iff.mp q.1.1).2, hask, fun H' p hp => .lst (L2.SqL.of hp) (L2.dw_ints _)⟩
